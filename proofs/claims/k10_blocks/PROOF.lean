import PyProof.Rows.All
import Wide.All
import OpenK.AllK
import Wide.FinOn
import HandS.ForMost
import HandS.Evl
import HandS.IsInst
import HandS.Strs
import HandS.Defaults
import HandS.SortInts
import HandS.HeadEnd
import HandS.HeadHook1
import HandS.HeadHook2
import HandS.SetBool
import HandS.SetFor
import HandS.Dict
import KE.KDictSum
import HandS.Iter
import HandS.Deep
import HandS.Style
import KE.DataFind
import HandS.Conv
import HandS.More
import KE.SortCalls
import HandS.ExcIs
import HandS.ForExc
import HandS.Hot
import HandS.HotCalls
import HandS.ExcCtx
import HandS.WordsExc
import HandS.HeadHook4
import PyProof.SumAny
import PyProof.ListOps
import KE.KStateDown
import HandS.Exc
import HandS.ExcOwn
import HandS.Head0
import HandS.Head1
import HandS.Head2
import PySem.Challenge.RW_stiffbars_k10_whole_of_blocks
set_option Elab.async false
set_option linter.all false
set_option maxRecDepth 100000
set_option maxHeartbeats 8000000
/-! Frames by counts: sets of joints as tests, bars that lie among them, slim bars (those that crowd no joints), tight sets. Core Lean alone. -/
namespace Fr
abbrev Bar := Nat × Nat
abbrev JS := Nat → Bool

theorem countP_four {α : Type} {p q r s : α → Bool} : ∀ {l : List α}, (∀ x ∈ l, (p x).toNat + (q x).toNat ≤ (r x).toNat + (s x).toNat) → l.countP p + l.countP q ≤ l.countP r + l.countP s
  | [], _ => by simp
  | a :: l, h => by
    have ih := countP_four (l := l) fun x hx => h x (List.mem_cons_of_mem _ hx)
    have ha := h a List.mem_cons_self
    simp only [List.countP_cons]
    cases hp : p a <;> cases hq : q a <;> cases hr : r a <;> cases hs : s a <;> simp [hp, hq, hr, hs] at ha ⊢ <;> omega

theorem countP_four_eq {α : Type} {p q r s : α → Bool} {l : List α} (h : ∀ x ∈ l, (p x).toNat + (q x).toNat = (r x).toNat + (s x).toNat) : l.countP p + l.countP q = l.countP r + l.countP s :=
  Nat.le_antisymm (countP_four fun x hx => Nat.le_of_eq (h x hx)) (countP_four fun x hx => Nat.le_of_eq (h x hx).symm)

theorem countP_sub {α : Type} {p q : α → Bool} {l : List α} (h : ∀ x ∈ l, p x = true → q x = true) : l.countP p ≤ l.countP q :=
  List.countP_mono_left h

theorem countP_same {α : Type} {p q : α → Bool} {l : List α} (h : ∀ x ∈ l, p x = q x) : l.countP p = l.countP q :=
  List.countP_congr fun x hx => by rw [h x hx]

def card (n : Nat) (S : JS) : Nat := (List.range n).countP S
def ins (bs : List Bar) (S : JS) : Nat := bs.countP fun b => S b.1 && S b.2
def cup (S T : JS) : JS := fun x => S x || T x
def cap (S T : JS) : JS := fun x => S x && T x
def Ok (n : Nat) (bs : List Bar) : Prop := ∀ b ∈ bs, b.1 < n ∧ b.2 < n ∧ b.1 ≠ b.2
/-- bars that crowd no joints -/
def Slim (n : Nat) (bs : List Bar) : Prop := ∀ S : JS, 2 ≤ card n S → ins bs S + 3 ≤ 2 * card n S
/-- joints that have no room for a bar more -/
def Tight (n : Nat) (bs : List Bar) (S : JS) : Prop := 2 ≤ card n S ∧ ins bs S + 3 = 2 * card n S

theorem card_cup_cap (n : Nat) (S T : JS) : card n S + card n T = card n (cup S T) + card n (cap S T) := by
  unfold card cup cap
  exact countP_four_eq fun x _ => by cases S x <;> cases T x <;> rfl
theorem ins_cup_cap (bs : List Bar) (S T : JS) : ins bs S + ins bs T ≤ ins bs (cup S T) + ins bs (cap S T) := by
  unfold ins cup cap
  exact countP_four fun x _ => by cases S x.1 <;> cases T x.1 <;> cases S x.2 <;> cases T x.2 <;> decide
theorem card_mono {n : Nat} {S T : JS} (h : ∀ x, x < n → S x = true → T x = true) : card n S ≤ card n T :=
  countP_sub fun x hx => h x (List.mem_range.mp hx)
theorem card_same {n : Nat} {S T : JS} (h : ∀ x, x < n → S x = T x) : card n S = card n T :=
  countP_same fun x hx => h x (List.mem_range.mp hx)
theorem ins_mono {bs : List Bar} {S T : JS} (h : ∀ x, S x = true → T x = true) : ins bs S ≤ ins bs T :=
  countP_sub fun b _ e => by
    rw [Bool.and_eq_true] at e ⊢
    exact ⟨h _ e.1, h _ e.2⟩
theorem ins_same {n : Nat} {bs : List Bar} {S T : JS} (ok : Ok n bs) (h : ∀ x, x < n → S x = T x) : ins bs S = ins bs T :=
  countP_same fun b hb => by rw [h _ (ok b hb).1, h _ (ok b hb).2.1]
theorem card_le (n : Nat) (S : JS) : card n S ≤ n := by
  have := List.countP_le_length (p := S) (l := List.range n)
  simpa [card] using this
theorem card_pos {n x : Nat} {S : JS} (hx : x < n) (h : S x = true) : 0 < card n S :=
  List.countP_pos_iff.mpr ⟨x, List.mem_range.mpr hx, h⟩
theorem card_zero {n : Nat} {S : JS} (h : card n S = 0) {x : Nat} (hx : x < n) : S x = false := by
  cases e : S x with
  | false => rfl
  | true =>
    have := card_pos hx e
    omega
def one (a : Nat) : JS := fun x => x == a
def two (a b : Nat) : JS := fun x => x == a || x == b
theorem card_one {n a : Nat} (h : a < n) : card n (one a) = 1 := by
  unfold card one
  have : (List.range n).countP (fun x => x == a) = (List.range n).count a := rfl
  rw [this, List.count_range]
  simp [h]
theorem card_two {n a b : Nat} (ha : a < n) (hb : b < n) (ne : a ≠ b) : card n (two a b) = 2 := by
  have h := card_cup_cap n (one a) (one b)
  rw [card_one ha, card_one hb] at h
  have e1 : card n (cap (one a) (one b)) = 0 := by
    unfold card
    rw [List.countP_eq_zero]
    intro x _ e
    simp [cap, one] at e
    exact ne (e.1.symm.trans e.2)
  have e2 : card n (cup (one a) (one b)) = card n (two a b) := card_same fun x _ => rfl
  omega
theorem two_le_card {n a b : Nat} {S : JS} (ha : a < n) (hb : b < n) (ne : a ≠ b) (h1 : S a = true) (h2 : S b = true) : 2 ≤ card n S := by
  rw [← card_two ha hb ne]
  refine card_mono fun x _ e => ?_
  simp [two] at e
  rcases e with rfl | rfl <;> assumption
/-- one joint alone, or none -/
theorem le_one_of {n : Nat} {S : JS} (h : card n S ≤ 1) {a b : Nat} (ha : a < n) (hb : b < n) (h1 : S a = true) (h2 : S b = true) : a = b := by
  by_cases e : a = b
  · exact e
  · have := two_le_card ha hb e h1 h2
    omega
theorem exists_two {n : Nat} {S : JS} (h : 2 ≤ card n S) : ∃ a b, a < b ∧ b < n ∧ S a = true ∧ S b = true := by
  obtain ⟨a, ha, h1⟩ : ∃ a, a < n ∧ S a = true := by
    have : 0 < card n S := by omega
    obtain ⟨a, ha, h1⟩ := List.countP_pos_iff.mp this
    exact ⟨a, List.mem_range.mp ha, h1⟩
  have hc := card_cup_cap n (fun x => S x && !(x == a)) (one a)
  rw [card_one ha] at hc
  have e1 : card n (cup (fun x => S x && !(x == a)) (one a)) = card n S := card_same fun x _ => by
    show (S x && !(x == a) || (x == a)) = S x
    cases e : (x == a) with
    | false => simp
    | true =>
      rw [beq_iff_eq.mp e, h1]
      rfl
  have e2 : card n (cap (fun x => S x && !(x == a)) (one a)) = 0 := by
    unfold card
    rw [List.countP_eq_zero]
    intro x _ e
    simp [cap, one] at e
    exact e.1.2 e.2
  have : 0 < card n (fun x => S x && !(x == a)) := by omega
  obtain ⟨b, hb, h2⟩ := List.countP_pos_iff.mp this
  simp at h2 hb
  by_cases l : a < b
  · exact ⟨a, b, l, hb, h1, h2.1⟩
  · exact ⟨b, a, by omega, ha, h2.1, h1⟩

/-- fewer than two joints: no bar lies among them -/
theorem ins_small {n : Nat} {bs : List Bar} {S : JS} (ok : Ok n bs) (h : card n S ≤ 1) : ins bs S = 0 := by
  unfold ins
  rw [List.countP_eq_zero]
  intro b hb e
  rw [Bool.and_eq_true] at e
  obtain ⟨l1, l2, ne⟩ := ok b hb
  exact ne (le_one_of h l1 l2 e.1 e.2)

theorem Slim.le {n : Nat} {bs : List Bar} (h : Slim n bs) (S : JS) (hS : 2 ≤ card n S) : ins bs S + 3 ≤ 2 * card n S := h S hS

/-- two tight sets with two joints together: both the union and the intersection are tight -/
theorem Tight.cup {n : Nat} {bs : List Bar} (hl : Slim n bs) {S T : JS} (hS : Tight n bs S) (hT : Tight n bs T) (h : 2 ≤ card n (cap S T)) : Tight n bs (cup S T) ∧ Tight n bs (cap S T) := by
  have c := card_cup_cap n S T
  have i := ins_cup_cap bs S T
  have h2 := hl _ h
  have hc : card n (cap S T) ≤ card n (Fr.cup S T) := card_mono fun x _ e => by
    simp [cap] at e
    simp [Fr.cup, e.1]
  have h1 := hl (Fr.cup S T) (by omega)
  obtain ⟨s1, s2⟩ := hS
  obtain ⟨t1, t2⟩ := hT
  exact ⟨⟨by omega, by omega⟩, ⟨h, by omega⟩⟩
theorem Tight.cup_of {n : Nat} {bs : List Bar} (hl : Slim n bs) {S T : JS} (hS : Tight n bs S) (hT : Tight n bs T) {a b : Nat} (ha : a < n) (hb : b < n) (ne : a ≠ b)
    (s1 : S a = true) (s2 : S b = true) (t1 : T a = true) (t2 : T b = true) : Tight n bs (Fr.cup S T) :=
  (hS.cup hl hT (two_le_card ha hb ne (by simp [cap, s1, t1]) (by simp [cap, s2, t2]))).1
theorem Tight.same {n : Nat} {bs : List Bar} (ok : Ok n bs) {S T : JS} (h : Tight n bs S) (e : ∀ x, x < n → S x = T x) : Tight n bs T := by
  obtain ⟨h1, h2⟩ := h
  rw [card_same e] at h1 h2
  rw [ins_same ok e] at h2
  exact ⟨h1, h2⟩

theorem bool_three {a b c d e f : Bool} (h1 : ¬ ((a && b) = true ∧ (e && f) = true)) (h2 : ¬ ((c && d) = true ∧ (e && f) = true)) :
    ((a && b) || (c && d)).toNat + (e && f).toNat ≤ (((a || c) || e) && ((b || d) || f)).toNat + false.toNat := by
  revert a b c d e f
  decide
/-- three tight sets, two by two with one joint together: the union is tight -/
theorem Tight.three {n : Nat} {bs : List Bar} (ok : Ok n bs) (hl : Slim n bs) {S T U : JS} (hS : Tight n bs S) (hT : Tight n bs T) (hU : Tight n bs U)
    (h1 : card n (cap S T) = 1) (h2 : card n (cap (Fr.cup S T) U) = 2) (h3 : card n (cap S U) = 1) (h4 : card n (cap T U) = 1) : Tight n bs (Fr.cup (Fr.cup S T) U) := by
  have c1 := card_cup_cap n S T
  have c2 := card_cup_cap n (Fr.cup S T) U
  obtain ⟨s1, s2⟩ := hS
  obtain ⟨t1, t2⟩ := hT
  obtain ⟨u1, u2⟩ := hU
  have n1 := ins_small ok (S := cap S T) (by omega)
  have n2 := ins_small ok (S := cap S U) (by omega)
  have n3 := ins_small ok (S := cap T U) (by omega)
  have b := hl (Fr.cup (Fr.cup S T) U) (by omega)
  -- no bar lies in two of the three
  have z : ∀ x ∈ bs, ∀ A B : JS, ins bs (cap A B) = 0 → ¬ ((A x.1 && A x.2) = true ∧ (B x.1 && B x.2) = true) := fun x hx A B h e => by
    unfold ins at h
    rw [List.countP_eq_zero] at h
    refine h x hx ?_
    simp only [Bool.and_eq_true] at e
    simp [cap, e]
  have k1 : ins bs S + ins bs T ≤ bs.countP (fun x => (S x.1 && S x.2) || (T x.1 && T x.2)) + bs.countP (fun _ => false) := countP_four fun x hx => by
    have := z x hx S T n1
    cases e1 : (S x.1 && S x.2) <;> cases e2 : (T x.1 && T x.2) <;> simp_all
  have k2 : bs.countP (fun x => (S x.1 && S x.2) || (T x.1 && T x.2)) + ins bs U ≤ ins bs (Fr.cup (Fr.cup S T) U) + bs.countP (fun _ => false) := countP_four fun x hx => by
    have y1 := z x hx S U n2
    have y2 := z x hx T U n3
    simp only [Fr.cup]
    exact bool_three y1 y2
  have k3 : bs.countP (fun _ => false) = 0 := by simp
  exact ⟨by omega, by omega⟩
end Fr

/-! Bars handed out to their ends: what each joint carries; paths turned about. -/
namespace Fr
abbrev Cs := List (List Nat)
def at_ (cs : Cs) (v : Nat) : List Nat := cs.getD v []
/-- how many of the bars that lie among S, by what the joints below k carry -/
def outs (cs : Cs) (S : JS) : Nat → Nat
  | 0 => 0
  | k + 1 => outs cs S k + if S k = true then (at_ cs k).countP S else 0
theorem at_set {cs : Cs} {v w : Nat} {l : List Nat} (hv : v < cs.length) : at_ (cs.set v l) w = if v = w then l else at_ cs w := by
  unfold at_
  by_cases h : v = w
  · subst h
    simp [List.getD, hv]
  · simp [List.getD, h, List.getElem?_set_ne h]
theorem at_len {cs : Cs} {v : Nat} (h : at_ cs v ≠ []) : v < cs.length := by
  by_cases l : v < cs.length
  · exact l
  · refine absurd ?_ h
    unfold at_
    simp [List.getD, Nat.le_of_not_lt l]
theorem outs_congr {cs ds : Cs} {S : JS} : ∀ {k : Nat}, (∀ v, v < k → S v = true → (at_ cs v).countP S = (at_ ds v).countP S) → outs cs S k = outs ds S k
  | 0, _ => rfl
  | k + 1, h => by
    have ih := outs_congr (k := k) fun v hv => h v (by omega)
    unfold outs
    rw [ih]
    by_cases hs : S k = true
    · rw [if_pos hs, if_pos hs, h k (by omega) hs]
    · rw [if_neg hs, if_neg hs]
/-- one list changed -/
theorem outs_set {cs : Cs} {S : JS} {v : Nat} {l : List Nat} (hv : v < cs.length) : ∀ {k : Nat}, v < k → outs (cs.set v l) S k + (if S v = true then (at_ cs v).countP S else 0) = outs cs S k + (if S v = true then l.countP S else 0)
  | 0, h => by omega
  | k + 1, h => by
    unfold outs
    rw [at_set hv]
    by_cases hk : v = k
    · subst hk
      have e : outs (cs.set v l) S v = outs cs S v := outs_congr fun w hw _ => by rw [at_set hv, if_neg (by omega)]
      rw [e, if_pos rfl]
      omega
    · have ih := outs_set (cs := cs) (S := S) (l := l) hv (k := k) (by omega)
      rw [if_neg hk]
      omega
/-- what is carried are the bars -/
structure Fits (n : Nat) (cs : Cs) (bs : List Bar) : Prop where
  len : cs.length = n
  two : ∀ v, (at_ cs v).length ≤ 2
  low : ∀ v w, w ∈ at_ cs v → w < n ∧ w ≠ v
  out : ∀ S : JS, ins bs S = outs cs S n
/-- the bar from b to j is turned about -/
def turn (cs : Cs) (b j : Nat) : Cs := (cs.set b ((at_ cs b).erase j)).set j (at_ (cs.set b ((at_ cs b).erase j)) j ++ [b])
theorem turn_len (cs : Cs) (b j : Nat) : (turn cs b j).length = cs.length := by simp [turn]
theorem turn_at {cs : Cs} {b j w : Nat} (hb : b < cs.length) (hj : j < cs.length) (ne : b ≠ j) : at_ (turn cs b j) w = if j = w then at_ cs j ++ [b] else if b = w then (at_ cs b).erase j else at_ cs w := by
  unfold turn
  rw [at_set (by simpa using hj)]
  by_cases h : j = w
  · rw [if_pos h, if_pos h, at_set hb, if_neg ne]
  · rw [if_neg h, if_neg h, at_set hb]
theorem countP_erase {S : JS} : ∀ {l : List Nat} {j : Nat}, j ∈ l → (l.erase j).countP S + (if S j = true then 1 else 0) = l.countP S
  | a :: l, j, h => by
    rw [List.erase_cons]
    by_cases e : a = j
    · subst e
      simp only [beq_self_eq_true, if_true]
      rw [List.countP_cons]
    · have e2 : (a == j) = false := by simpa using e
      rw [e2]
      simp only [Bool.false_eq_true, if_false]
      rcases List.mem_cons.mp h with h | h
      · exact absurd h.symm e
      · have ih := countP_erase (S := S) h
        rw [List.countP_cons, List.countP_cons]
        omega
theorem outs_turn {n : Nat} {cs : Cs} {b j : Nat} (hl : cs.length = n) (hb : b < n) (hj : j < n) (ne : b ≠ j) (hm : j ∈ at_ cs b) (S : JS) : outs (turn cs b j) S n = outs cs S n := by
  have h1 := outs_set (cs := cs) (S := S) (l := (at_ cs b).erase j) (v := b) (by omega) (k := n) hb
  have h2 := outs_set (cs := cs.set b ((at_ cs b).erase j)) (S := S) (l := at_ (cs.set b ((at_ cs b).erase j)) j ++ [b]) (v := j) (by simp; omega) (k := n) hj
  have h3 := countP_erase (S := S) hm
  rw [List.countP_append] at h2
  have h4 : List.countP S [b] = if S b = true then 1 else 0 := by
    simp [List.countP_cons]
  rw [h4] at h2
  unfold turn
  by_cases hsb : S b = true <;> by_cases hsj : S j = true <;> simp only [hsb, hsj, if_true, if_false, Bool.false_eq_true] at h1 h2 h3 <;> omega
/-! ### the joints that carried bars lead to -/
abbrev Ah := List (Nat × Nat)
def keys (ah : Ah) : List Nat := ah.map (·.1)
def look (ah : Ah) (k : Nat) : Nat := ((ah.find? fun p => p.1 == k).map (·.2)).getD 0
/-- the ends of what a joint carries -/
def visit (j : Nat) : List Nat → Ah → List Nat → Ah × List Nat
  | [], ah, wt => (ah, wt)
  | f :: fs, ah, wt => if f ∈ keys ah then visit j fs ah wt else visit j fs (ah ++ [(f, j)]) (wt ++ [f])
def reach (cs : Cs) : Nat → Ah → List Nat → Ah
  | 0, ah, _ => ah
  | k + 1, ah, wt => match wt.getLast? with
    | none => ah
    | some j => reach cs k (visit j (at_ cs j) ah wt.dropLast).1 (visit j (at_ cs j) ah wt.dropLast).2
def reached (cs : Cs) (start : Nat) : Ah := reach cs (2 * cs.length + 2) [(start, start)] [start]
theorem keys_append (ah : Ah) (f j : Nat) : keys (ah ++ [(f, j)]) = keys ah ++ [f] := by simp [keys]
/-- what holds of the joints found so far -/
structure Seen (n : Nat) (cs : Cs) (start : Nat) (ah : Ah) (wt : List Nat) : Prop where
  nd : (keys ah).Nodup
  low : ∀ k ∈ keys ah, k < n
  head : ∃ r, ah = (start, start) :: r
  par : ∀ (i f p : Nat), ah[i]? = some (f, p) → i ≠ 0 → f ∈ at_ cs p ∧ ∃ i' q, i' < i ∧ ah[i']? = some (p, q)
  wsub : ∀ k ∈ wt, k ∈ keys ah
/-- all but those that wait lead to joints that are found -/
def Shut (cs : Cs) (ah : Ah) (wt : List Nat) : Prop := ∀ k ∈ keys ah, k ∉ wt → ∀ f ∈ at_ cs k, f ∈ keys ah
theorem visit_seen {n : Nat} {cs : Cs} {start j : Nat} (hlow : ∀ v w, w ∈ at_ cs v → w < n ∧ w ≠ v) : ∀ (fs : List Nat) (ah : Ah) (wt : List Nat), (∀ f ∈ fs, f ∈ at_ cs j) → j ∈ keys ah → Seen n cs start ah wt →
    Seen n cs start (visit j fs ah wt).1 (visit j fs ah wt).2 ∧ (∀ k ∈ keys ah, k ∈ keys (visit j fs ah wt).1) ∧ (∀ f ∈ fs, f ∈ keys (visit j fs ah wt).1) ∧ (∀ k ∈ wt, k ∈ (visit j fs ah wt).2) ∧ (∀ k ∈ keys (visit j fs ah wt).1, k ∈ keys ah ∨ k ∈ (visit j fs ah wt).2)
    ∧ (visit j fs ah wt).1.length + wt.length = ah.length + (visit j fs ah wt).2.length
  | [], ah, wt, _, _, s => ⟨s, fun _ h => h, (fun _ h => by cases h), fun _ h => h, fun _ h => .inl h, rfl⟩
  | f :: fs, ah, wt, hf, hj, s => by
    unfold visit
    by_cases hk : f ∈ keys ah
    · rw [if_pos hk]
      obtain ⟨a, b, c, d, e, g⟩ := visit_seen hlow fs ah wt (fun x hx => hf x (List.mem_cons_of_mem _ hx)) hj s
      refine ⟨a, b, fun x hx => ?_, d, e, g⟩
      rcases List.mem_cons.mp hx with rfl | hx
      · exact b _ hk
      · exact c x hx
    · rw [if_neg hk]
      have hfj := hf f List.mem_cons_self
      obtain ⟨r, hr⟩ := s.head
      have s' : Seen n cs start (ah ++ [(f, j)]) (wt ++ [f]) := by
        refine ⟨?_, fun k hk' => ?_, ⟨r ++ [(f, j)], by rw [hr]; rfl⟩, fun i g p hg hi => ?_, fun k hk' => ?_⟩
        · rw [keys_append, List.nodup_append]
          refine ⟨s.nd, by simp, fun x hx y hy => ?_⟩
          rw [List.mem_singleton.mp hy]
          exact fun e => hk (e ▸ hx)
        · rw [keys_append] at hk'
          rcases List.mem_append.mp hk' with h | h
          · exact s.low k h
          · rw [List.mem_singleton.mp h]
            exact (hlow j f hfj).1
        · by_cases hl : i < ah.length
          · rw [List.getElem?_append_left hl] at hg
            obtain ⟨h1, i', q, h2, h3⟩ := s.par i g p hg hi
            exact ⟨h1, i', q, h2, by rw [List.getElem?_append_left (by omega)]; exact h3⟩
          · rw [List.getElem?_append_right (by omega)] at hg
            have e : i = ah.length := by
              by_cases z : i - ah.length = 0
              · omega
              · obtain ⟨m, hm⟩ : ∃ m, i - ah.length = m + 1 := ⟨i - ah.length - 1, by omega⟩
                rw [hm] at hg
                simp at hg
            subst e
            simp at hg
            obtain ⟨rfl, rfl⟩ := hg
            refine ⟨hfj, ?_⟩
            obtain ⟨⟨a, q⟩, hm, e⟩ := List.mem_map.mp hj
            obtain ⟨i', hi'⟩ := List.getElem?_of_mem hm
            have li := (List.getElem?_eq_some_iff.mp hi').1
            refine ⟨i', q, li, ?_⟩
            rw [List.getElem?_append_left li, hi']
            simp at e
            rw [e]
        · rw [keys_append]
          rcases List.mem_append.mp hk' with h | h
          · exact List.mem_append_left _ (s.wsub k h)
          · exact List.mem_append_right _ h
      obtain ⟨a, b, c, d, e, g⟩ := visit_seen hlow fs (ah ++ [(f, j)]) (wt ++ [f]) (fun x hx => hf x (List.mem_cons_of_mem _ hx)) (by rw [keys_append]; exact List.mem_append_left _ hj) s'
      refine ⟨a, fun k hk' => b k (by rw [keys_append]; exact List.mem_append_left _ hk'), fun x hx => ?_, fun k hk' => d k (List.mem_append_left _ hk'), fun k hk' => ?_, ?_⟩
      · rcases List.mem_cons.mp hx with rfl | hx
        · exact b _ (by rw [keys_append]; exact List.mem_append_right _ (List.mem_singleton.mpr rfl))
        · exact c x hx
      · rcases e k hk' with h | h
        · rw [keys_append] at h
          rcases List.mem_append.mp h with h | h
          · exact .inl h
          · exact .inr (d k (List.mem_append_right _ h))
        · exact .inr h
      · simp at g
        omega
theorem seen_small {n : Nat} {cs : Cs} {start : Nat} {ah : Ah} {wt : List Nat} (s : Seen n cs start ah wt) : ah.length ≤ n := by
  have h := List.Nodup.length_le_of_subset s.nd (l₂ := List.range n) fun k hk => List.mem_range.mpr (s.low k hk)
  simpa [keys] using h
theorem dropLast_mem {α : Type} {l : List α} {x : α} (h : x ∈ l.dropLast) : x ∈ l := List.dropLast_subset l h
theorem reach_seen {n : Nat} {cs : Cs} {start : Nat} (hlow : ∀ v w, w ∈ at_ cs v → w < n ∧ w ≠ v) : ∀ (k : Nat) (ah : Ah) (wt : List Nat), Seen n cs start ah wt → Shut cs ah wt → 2 * (n - ah.length) + wt.length < k →
    Seen n cs start (reach cs k ah wt) [] ∧ Shut cs (reach cs k ah wt) []
  | 0, _, _, _, _, h => by omega
  | k + 1, ah, wt, s, sh, h => by
    unfold reach
    cases hl : wt.getLast? with
    | none =>
      have e : wt = [] := by simpa using hl
      subst e
      exact ⟨⟨s.nd, s.low, s.head, s.par, (fun _ h => by cases h)⟩, sh⟩
    | some j =>
      dsimp only
      have hne : wt ≠ [] := fun z => by rw [z] at hl; cases hl
      have ew : wt = wt.dropLast ++ [j] := by
        have e1 := List.dropLast_concat_getLast hne
        rw [List.getLast?_eq_some_getLast hne] at hl
        rw [Option.some.inj hl] at e1
        exact e1.symm
      have hj : j ∈ keys ah := s.wsub j (by rw [ew]; exact List.mem_append_right _ (List.mem_singleton.mpr rfl))
      have s0 : Seen n cs start ah wt.dropLast := ⟨s.nd, s.low, s.head, s.par, fun x hx => s.wsub x (dropLast_mem hx)⟩
      obtain ⟨a, b, c, d, e, g⟩ := visit_seen hlow (at_ cs j) ah wt.dropLast (fun _ h => h) hj s0
      have ll : wt.length = wt.dropLast.length + 1 := by
        have := congrArg List.length ew
        simpa using this
      have sm := seen_small a
      refine reach_seen hlow k _ _ a (fun x hx hw f hf => ?_) ?_
      · rcases e x hx with h1 | h1
        · by_cases hxj : x = j
          · subst hxj
            exact c f hf
          · refine b f (sh x h1 (fun z => ?_) f hf)
            rw [ew] at z
            rcases List.mem_append.mp z with z | z
            · exact hw (d x z)
            · exact hxj (List.mem_singleton.mp z)
        · exact absurd h1 hw
      · have hlen : ah.length ≤ (visit j (at_ cs j) ah wt.dropLast).1.length := by
          have := List.Nodup.length_le_of_subset s.nd (l₂ := keys (visit j (at_ cs j) ah wt.dropLast).1) b
          simpa [keys] using this
        omega
theorem reached_seen {n : Nat} {cs : Cs} {start : Nat} (hl : cs.length = n) (hlow : ∀ v w, w ∈ at_ cs v → w < n ∧ w ≠ v) (hs : start < n) : Seen n cs start (reached cs start) [] ∧ Shut cs (reached cs start) [] := by
  unfold reached
  refine reach_seen hlow _ _ _ ⟨by simp [keys], fun k hk => ?_, ⟨[], rfl⟩, fun i f p h hi => ?_, fun k hk => ?_⟩ (fun k hk hw => ?_) ?_
  · simp [keys] at hk
    omega
  · obtain ⟨m, rfl⟩ : ∃ m, i = m + 1 := ⟨i - 1, by omega⟩
    simp at h
  · simpa [keys] using hk
  · simp [keys] at hk
    exact absurd (List.mem_singleton.mpr hk) hw
  · simp
    omega
end Fr

/-! Laying a bar: a joint rid of what it carries; when a bar is taken, and which joints it would crowd. -/
namespace Fr
def back (ah : Ah) (start : Nat) : Nat → Cs → Nat → Cs
  | 0, cs, _ => cs
  | k + 1, cs, j => if j = start then cs else back ah start k (turn cs (look ah j) j) (look ah j)
def freeOf (cs : Cs) (start spared : Nat) : List Nat := (keys (reached cs start)).filter fun j => decide ((at_ cs j).length < 2) && (!decide (j = start) && !decide (j = spared))
def passOn (cs : Cs) (start spared : Nat) : Option Cs := match freeOf cs start spared with
  | [] => none
  | j :: _ => some (back (reached cs start) start (cs.length + 1) cs j)
def unload (start spared : Nat) : Nat → Cs → Cs × Bool
  | 0, cs => (cs, true)
  | k + 1, cs => if at_ cs start = [] then (cs, true) else match passOn cs start spared with
    | none => (cs, false)
    | some cs' => unload start spared k cs'
theorem look_at {ah : Ah} (nd : (keys ah).Nodup) {i j q : Nat} (h : ah[i]? = some (j, q)) : look ah j = q := by
  have hm := List.mem_of_getElem? h
  unfold look
  have key : ∀ (l : Ah), (keys l).Nodup → (j, q) ∈ l → l.find? (fun p => p.1 == j) = some (j, q) := fun l => by
    induction l with
    | nil => intro _ h; cases h
    | cons p l ih =>
      intro nd h
      have nd' : p.1 ∉ keys l ∧ (keys l).Nodup := by simpa [keys] using nd
      rw [List.find?_cons]
      rcases List.mem_cons.mp h with e | h
      · subst e
        simp
      · have e2 : (p.1 == j) = false := by
          have : p.1 ≠ j := fun e => nd'.1 (e ▸ List.mem_map.mpr ⟨(j, q), h, rfl⟩)
          simpa using this
        rw [e2]
        exact ih nd'.2 h
  rw [key ah nd hm]
  rfl
theorem nd_pos {ah : Ah} (nd : (keys ah).Nodup) {i i' j p q : Nat} (h : ah[i]? = some (j, p)) (h' : ah[i']? = some (j, q)) : i = i' := by
  have a : (keys ah)[i]? = some j := by simp [keys, h]
  have b : (keys ah)[i']? = some j := by simp [keys, h']
  obtain ⟨h1, e1⟩ := List.getElem?_eq_some_iff.mp a
  obtain ⟨h2, e2⟩ := List.getElem?_eq_some_iff.mp b
  exact (List.getElem_inj nd).mp (e1.trans e2.symm)
def one01 (p : Prop) [Decidable p] : Nat := if p then 1 else 0
theorem back_spec {n : Nat} {cs0 : Cs} {start : Nat} {ah : Ah} (sn : Seen n cs0 start ah []) : ∀ (k : Nat) (cs : Cs) (i j q : Nat), ah[i]? = some (j, q) → i < k → cs.length = n → (∀ v w, w ∈ at_ cs v → w < n ∧ w ≠ v) →
    (∀ i' v p, i' < i → ah[i']? = some (v, p) → at_ cs v = at_ cs0 v) →
    (back ah start k cs j).length = n ∧ (∀ v w, w ∈ at_ (back ah start k cs j) v → w < n ∧ w ≠ v) ∧ (∀ S : JS, outs (back ah start k cs j) S n = outs cs S n) ∧
      ∀ v, (at_ (back ah start k cs j) v).length + one01 (v = start) = (at_ cs v).length + one01 (v = j)
  | 0, _, _, _, _, _, h, _, _, _ => by omega
  | k + 1, cs, i, j, q, hij, hik, hl, hlow, hsame => by
    unfold back
    by_cases hj : j = start
    · rw [if_pos hj]
      exact ⟨hl, hlow, fun _ => rfl, fun v => by rw [hj]⟩
    · rw [if_neg hj, look_at sn.nd hij]
      obtain ⟨r, hr⟩ := sn.head
      have hi0 : i ≠ 0 := fun z => by
        subst z
        rw [hr] at hij
        simp at hij
        exact hj hij.1.symm
      obtain ⟨hm, i', q', hi', hq⟩ := sn.par i j q hij hi0
      have hjn : j < n := sn.low j (List.mem_map.mpr ⟨(j, q), List.mem_of_getElem? hij, rfl⟩)
      have hqn : q < n := sn.low q (List.mem_map.mpr ⟨(q, q'), List.mem_of_getElem? hq, rfl⟩)
      have eq0 := hsame i' q q' hi' hq
      have hm' : j ∈ at_ cs q := by rw [eq0]; exact hm
      have nqj : q ≠ j := fun e => (hlow q j hm').2 e.symm
      have hlt : (turn cs q j).length = n := by rw [turn_len]; exact hl
      have tat : ∀ w, at_ (turn cs q j) w = if j = w then at_ cs j ++ [q] else if q = w then (at_ cs q).erase j else at_ cs w := fun w => turn_at (by omega) (by omega) nqj
      have hA : ∀ v w, w ∈ at_ (turn cs q j) v → w < n ∧ w ≠ v := fun v w hw => by
        rw [tat v] at hw
        by_cases e1 : j = v
        · subst e1
          rw [if_pos rfl] at hw
          rcases List.mem_append.mp hw with h | h
          · exact hlow _ w h
          · rw [List.mem_singleton.mp h]
            exact ⟨hqn, nqj⟩
        · rw [if_neg e1] at hw
          by_cases e2 : q = v
          · subst e2
            rw [if_pos rfl] at hw
            exact hlow _ w (List.mem_of_mem_erase hw)
          · rw [if_neg e2] at hw
            exact hlow _ w hw
      have hB : ∀ i'' v p, i'' < i' → ah[i'']? = some (v, p) → at_ (turn cs q j) v = at_ cs0 v := fun i'' v p hi'' hv => by
        have n1 : j ≠ v := fun e => by
          subst e
          have := nd_pos sn.nd hij hv
          omega
        have n2 : q ≠ v := fun e => by
          subst e
          have := nd_pos sn.nd hq hv
          omega
        rw [tat v, if_neg n1, if_neg n2]
        exact hsame i'' v p (by omega) hv
      obtain ⟨a, b, c, d⟩ := back_spec sn k (turn cs q j) i' q q' hq (by omega) hlt hA hB
      refine ⟨a, b, fun S => by rw [c S, outs_turn hl hqn hjn nqj hm' S], fun v => ?_⟩
      have hv := d v
      have tv := tat v
      by_cases e1 : j = v
      · subst e1
        rw [if_pos rfl] at tv
        rw [tv, List.length_append] at hv
        have z1 : one01 (j = q) = 0 := if_neg fun e => nqj e.symm
        have z2 : one01 (j = j) = 1 := if_pos rfl
        have z3 : [q].length = 1 := rfl
        omega
      · rw [if_neg e1] at tv
        have z2 : one01 (v = j) = 0 := if_neg fun e => e1 e.symm
        by_cases e2 : q = v
        · subst e2
          rw [if_pos rfl] at tv
          rw [tv, List.length_erase_of_mem hm'] at hv
          have z1 : one01 (q = q) = 1 := if_pos rfl
          have z3 : 0 < (at_ cs q).length := List.length_pos_of_mem hm'
          omega
        · rw [if_neg e2] at tv
          rw [tv] at hv
          have z1 : one01 (v = q) = 0 := if_neg fun e => e2 e.symm
          omega
theorem passOn_some {n : Nat} {cs cs' : Cs} {bs : List Bar} {start spared : Nat} (ft : Fits n cs bs) (hs : start < n) (h : passOn cs start spared = some cs') :
    Fits n cs' bs ∧ (at_ cs' start).length + 1 = (at_ cs start).length ∧ ∀ v, v ≠ start → v = spared → (at_ cs' v).length = (at_ cs v).length := by
  unfold passOn at h
  obtain ⟨sn, _⟩ := reached_seen ft.len ft.low hs
  cases hf : freeOf cs start spared with
  | nil => rw [hf] at h; cases h
  | cons j r =>
    rw [hf] at h
    have e := Option.some.inj h
    have hj : j ∈ freeOf cs start spared := by rw [hf]; exact List.mem_cons_self
    unfold freeOf at hj
    rw [List.mem_filter] at hj
    obtain ⟨hk, hc⟩ := hj
    simp only [Bool.and_eq_true, decide_eq_true_eq, Bool.not_eq_true', decide_eq_false_iff_not] at hc
    obtain ⟨c1, c2, c3⟩ := hc
    obtain ⟨⟨j', q⟩, hm, ej⟩ := List.mem_map.mp hk
    simp at ej
    subst ej
    obtain ⟨i, hi⟩ := List.getElem?_of_mem hm
    have li : i < (reached cs start).length := (List.getElem?_eq_some_iff.mp hi).1
    have sm := seen_small sn
    obtain ⟨a, b, c, d⟩ := back_spec sn (cs.length + 1) cs i j' q hi (by have := ft.len; omega) ft.len ft.low (fun _ _ _ _ _ => rfl)
    rw [e] at a b c d
    have dj := d j'
    have ds := d start
    have z1 : one01 (j' = j') = 1 := if_pos rfl
    have z2 : one01 (j' = start) = 0 := if_neg c2
    have z3 : one01 (start = start) = 1 := if_pos rfl
    have z4 : one01 (start = j') = 0 := if_neg fun z => c2 z.symm
    refine ⟨⟨a, fun v => ?_, b, fun S => by rw [c S]; exact ft.out S⟩, by omega, fun v h1 h2 => ?_⟩
    · have dv := d v
      have tv := ft.two v
      by_cases e1 : v = j'
      · subst e1
        omega
      · have z5 : one01 (v = j') = 0 := if_neg e1
        omega
    · have dv := d v
      have z5 : one01 (v = start) = 0 := if_neg h1
      have z6 : one01 (v = j') = 0 := if_neg fun z => c3 (z.symm.trans h2)
      omega
/-- the joints found, as a test -/
def inL (l : List Nat) : JS := fun x => decide (x ∈ l)
theorem outs_shut {cs : Cs} {ah : Ah} (sh : Shut cs ah []) : ∀ {k v : Nat}, v < k → inL (keys ah) v = true → (at_ cs v).countP (inL (keys ah)) = (at_ cs v).length := fun {k v} _ hv => by
  rw [List.countP_eq_length]
  intro f hf
  exact decide_eq_true (sh v (of_decide_eq_true hv) (by simp) f hf)
/-- all found joints but two carry two bars each -/
theorem outs_low {cs : Cs} {ah : Ah} (sh : Shut cs ah []) {s p : Nat} (hfull : ∀ v ∈ keys ah, v ≠ s → v ≠ p → 2 ≤ (at_ cs v).length) : ∀ k : Nat,
    2 * card k (inL (keys ah)) ≤ outs cs (inL (keys ah)) k + (if s < k ∧ s ∈ keys ah then 2 - (at_ cs s).length else 0) + (if p < k ∧ p ∈ keys ah ∧ p ≠ s then 2 - (at_ cs p).length else 0)
  | 0 => by simp [card]
  | k + 1 => by
    have ih := outs_low sh hfull k
    have ec : card (k + 1) (inL (keys ah)) = card k (inL (keys ah)) + if inL (keys ah) k = true then 1 else 0 := by
      unfold card
      rw [List.range_succ, List.countP_append, List.countP_cons, List.countP_nil]
      simp
    rw [ec]
    unfold outs
    by_cases hk : inL (keys ah) k = true
    · rw [if_pos hk, if_pos hk, outs_shut sh (Nat.lt_succ_self k) hk]
      have hkm : k ∈ keys ah := of_decide_eq_true hk
      by_cases e1 : k = s
      · subst e1
        rw [if_neg (by omega)] at ih
        rw [if_pos ⟨Nat.lt_succ_self _, hkm⟩]
        by_cases e2 : p < k ∧ p ∈ keys ah ∧ p ≠ k
        · rw [if_pos e2] at ih
          rw [if_pos ⟨by omega, e2.2⟩]
          omega
        · rw [if_neg e2] at ih
          have : ¬ (p < k + 1 ∧ p ∈ keys ah ∧ p ≠ k) := fun z => e2 ⟨by omega, z.2⟩
          rw [if_neg this]
          omega
      · have a1 : (if s < k + 1 ∧ s ∈ keys ah then 2 - (at_ cs s).length else 0) = (if s < k ∧ s ∈ keys ah then 2 - (at_ cs s).length else 0) := by
          by_cases z : s < k ∧ s ∈ keys ah
          · rw [if_pos z, if_pos ⟨by omega, z.2⟩]
          · rw [if_neg z, if_neg fun w => z ⟨by omega, w.2⟩]
        rw [a1]
        by_cases e2 : k = p
        · subst e2
          rw [if_neg (show ¬ (k < k ∧ k ∈ keys ah ∧ k ≠ s) by omega)] at ih
          rw [if_pos (show k < k + 1 ∧ k ∈ keys ah ∧ k ≠ s from ⟨Nat.lt_succ_self _, hkm, e1⟩)]
          omega
        · have a2 : (if p < k + 1 ∧ p ∈ keys ah ∧ p ≠ s then 2 - (at_ cs p).length else 0) = (if p < k ∧ p ∈ keys ah ∧ p ≠ s then 2 - (at_ cs p).length else 0) := by
            by_cases z : p < k ∧ p ∈ keys ah ∧ p ≠ s
            · rw [if_pos z, if_pos ⟨by omega, z.2⟩]
            · rw [if_neg z, if_neg fun w => z ⟨by omega, w.2⟩]
          rw [a2]
          have := hfull k hkm e1 e2
          omega
    · rw [if_neg hk, if_neg hk]
      have hkm : k ∉ keys ah := fun z => hk (decide_eq_true z)
      have a1 : (if s < k + 1 ∧ s ∈ keys ah then 2 - (at_ cs s).length else 0) = (if s < k ∧ s ∈ keys ah then 2 - (at_ cs s).length else 0) := by
        by_cases z : s < k ∧ s ∈ keys ah
        · rw [if_pos z, if_pos ⟨by omega, z.2⟩]
        · rw [if_neg z, if_neg fun w => z ⟨by have : s ≠ k := fun e => hkm (e ▸ w.2); omega, w.2⟩]
      have a2 : (if p < k + 1 ∧ p ∈ keys ah ∧ p ≠ s then 2 - (at_ cs p).length else 0) = (if p < k ∧ p ∈ keys ah ∧ p ≠ s then 2 - (at_ cs p).length else 0) := by
        by_cases z : p < k ∧ p ∈ keys ah ∧ p ≠ s
        · rw [if_pos z, if_pos ⟨by omega, z.2⟩]
        · rw [if_neg z, if_neg fun w => z ⟨by have : p ≠ k := fun e => hkm (e ▸ w.2.1); omega, w.2⟩]
      rw [a1, a2]
      omega
theorem passOn_none {cs : Cs} {start spared : Nat} (h : passOn cs start spared = none) : ∀ v ∈ keys (reached cs start), v ≠ start → v ≠ spared → 2 ≤ (at_ cs v).length := fun v hv h1 h2 => by
  unfold passOn at h
  cases hf : freeOf cs start spared with
  | cons j r => rw [hf] at h; cases h
  | nil =>
    by_cases z : 2 ≤ (at_ cs v).length
    · exact z
    · have hm : v ∈ freeOf cs start spared := by
        unfold freeOf
        rw [List.mem_filter]
        refine ⟨hv, ?_⟩
        simp only [Bool.and_eq_true, decide_eq_true_eq, Bool.not_eq_true', decide_eq_false_iff_not]
        exact ⟨by omega, h1, h2⟩
      rw [hf] at hm
      cases hm
/-- what is found from a joint that carries a bar: two joints at least -/
theorem reach_two {n : Nat} {cs : Cs} {bs : List Bar} {start : Nat} (ft : Fits n cs bs) (hs : start < n) (hc : at_ cs start ≠ []) : 2 ≤ card n (inL (keys (reached cs start))) := by
  obtain ⟨sn, sh⟩ := reached_seen ft.len ft.low hs
  obtain ⟨r, hr⟩ := sn.head
  have hst : start ∈ keys (reached cs start) := by rw [hr]; simp [keys]
  obtain ⟨f, hf⟩ := List.exists_mem_of_ne_nil _ hc
  have hfk := sh start hst (by simp) f hf
  have hl := ft.low start f hf
  exact two_le_card hs hl.1 (fun e => hl.2 e.symm) (decide_eq_true hst) (decide_eq_true hfk)
theorem start_mem {n : Nat} {cs : Cs} {bs : List Bar} {start : Nat} (ft : Fits n cs bs) (hs : start < n) : start ∈ keys (reached cs start) := by
  obtain ⟨sn, _⟩ := reached_seen ft.len ft.low hs
  obtain ⟨r, hr⟩ := sn.head
  rw [hr]
  simp [keys]
theorem ins_reached {n : Nat} {cs : Cs} {bs : List Bar} {start spared : Nat} (ft : Fits n cs bs) (hs : start < n) (h : passOn cs start spared = none) :
    2 * card n (inL (keys (reached cs start))) ≤ ins bs (inL (keys (reached cs start))) + (2 - (at_ cs start).length) + (if spared < n ∧ spared ∈ keys (reached cs start) ∧ spared ≠ start then 2 - (at_ cs spared).length else 0) := by
  obtain ⟨sn, sh⟩ := reached_seen ft.len ft.low hs
  have := outs_low sh (passOn_none h) n
  rw [if_pos ⟨hs, start_mem ft hs⟩] at this
  rw [ft.out]
  exact this
theorem unload_spec {n : Nat} {bs : List Bar} {start spared : Nat} (hs : start < n) : ∀ (k : Nat) (cs : Cs), Fits n cs bs → (at_ cs start).length < k →
    Fits n (unload start spared k cs).1 bs ∧ (∀ v, v ≠ start → v = spared → (at_ (unload start spared k cs).1 v).length = (at_ cs v).length) ∧
      ((unload start spared k cs).2 = true → at_ (unload start spared k cs).1 start = []) ∧ ((unload start spared k cs).2 = false → at_ (unload start spared k cs).1 start ≠ [] ∧ passOn (unload start spared k cs).1 start spared = none)
  | 0, _, _, h => by omega
  | k + 1, cs, ft, h => by
    unfold unload
    by_cases he : at_ cs start = []
    · rw [if_pos he]
      exact ⟨ft, fun _ _ _ => rfl, fun _ => he, (fun z => by cases z)⟩
    · rw [if_neg he]
      cases hp : passOn cs start spared with
      | none =>
        dsimp only
        exact ⟨ft, fun _ _ _ => rfl, (fun z => by cases z), fun _ => ⟨he, hp⟩⟩
      | some cs' =>
        dsimp only
        obtain ⟨f1, f2, f3⟩ := passOn_some ft hs hp
        obtain ⟨a, b, c, d⟩ := unload_spec hs k cs' f1 (by omega)
        exact ⟨a, fun v h1 h2 => (b v h1 h2).trans (f3 v h1 h2), c, d⟩
/-- the joint whose hands are freed first is always rid of its bars -/
theorem unload_all {n : Nat} {cs : Cs} {bs : List Bar} {start : Nat} (ft : Fits n cs bs) (sl : Slim n bs) (hs : start < n) : (unload start start 3 cs).2 = true := by
  obtain ⟨a, _, _, d⟩ := unload_spec (spared := start) hs 3 cs ft (by have := ft.two start; omega)
  cases h : (unload start start 3 cs).2 with
  | true => rfl
  | false =>
    obtain ⟨h1, h2⟩ := d h
    have q := ins_reached a hs h2
    rw [if_neg (by omega)] at q
    have t := reach_two a hs h1
    have s := sl _ t
    have l : 0 < (at_ (unload start start 3 cs).1 start).length := List.length_pos_iff.mpr h1
    omega
def lay (cs : Cs) (one other : Nat) : Cs × Option (List Nat) :=
  let c1 := (unload one one 3 cs).1
  let c2 := unload other one 3 c1
  if c2.2 = true then (c2.1.set one (at_ c2.1 one ++ [other]), none) else (c2.1, some (keys (reached c2.1 other)))
theorem ins_append (bs : List Bar) (b : Bar) (S : JS) : ins (bs ++ [b]) S = ins bs S + if (S b.1 && S b.2) = true then 1 else 0 := by
  unfold ins
  rw [List.countP_append, List.countP_cons, List.countP_nil, Nat.zero_add]
/-- a bar is taken: it and those before are slim -/
theorem lay_yes {n : Nat} {cs cs' : Cs} {bs : List Bar} {one other : Nat} (ft : Fits n cs bs) (ok : Ok n bs) (sl : Slim n bs) (h1 : one < n) (h2 : other < n) (ne : one ≠ other) (h : lay cs one other = (cs', none)) :
    Fits n cs' (bs ++ [(one, other)]) ∧ Slim n (bs ++ [(one, other)]) := by
  obtain ⟨a, _, c, _⟩ := unload_spec (spared := one) h1 3 cs ft (by have := ft.two one; omega)
  have c := c (unload_all ft sl h1)
  obtain ⟨a2, b2, c2, d2⟩ := unload_spec (spared := one) h2 3 (unload one one 3 cs).1 a (by have := a.two other; omega)
  unfold lay at h
  dsimp only at h
  by_cases hy : (unload other one 3 (unload one one 3 cs).1).2 = true
  · rw [if_pos hy] at h
    have e := (Prod.mk.inj h).1
    have e1 : at_ (unload other one 3 (unload one one 3 cs).1).1 one = [] := by
      have := b2 one ne rfl
      rw [c] at this
      exact List.eq_nil_of_length_eq_zero this
    have e2 := c2 hy
    generalize hG : (unload other one 3 (unload one one 3 cs).1).1 = G at a2 e e1 e2
    rw [e1] at e
    have hl : one < G.length := by rw [a2.len]; exact h1
    have out' : ∀ S : JS, outs cs' S n = outs G S n + if (S one && S other) = true then 1 else 0 := fun S => by
      have := outs_set (cs := G) (S := S) (v := one) (l := [] ++ [other]) hl (k := n) h1
      rw [e, e1] at this
      simp only [List.nil_append, List.countP_nil, List.countP_cons, Nat.zero_add, ite_self, Nat.add_zero] at this
      rw [this]
      cases S one <;> cases S other <;> simp
    have ft' : Fits n cs' (bs ++ [(one, other)]) := by
      refine ⟨by rw [← e, List.length_set]; exact a2.len, fun v => ?_, fun v w hw => ?_, fun S => ?_⟩
      · rw [← e, at_set hl]
        split
        · simp
        · exact a2.two v
      · rw [← e, at_set hl] at hw
        split at hw
        · rename_i ev
          have hw : w ∈ [other] := hw
          rw [List.mem_singleton.mp hw, ← ev]
          exact ⟨h2, fun z => ne z.symm⟩
        · exact a2.low v w hw
      · rw [out' S, ins_append, a2.out S]
    refine ⟨ft', fun S hS => ?_⟩
    rw [ins_append]
    by_cases hb : (S one && S other) = true
    · rw [if_pos hb]
      rw [Bool.and_eq_true] at hb
      -- what is carried within S: two each, and none at the two ends
      have lim : ∀ k : Nat, outs G S k + (if one < k then 2 else 0) + (if other < k then 2 else 0) ≤ 2 * card k S := fun k => by
        induction k with
        | zero => simp [outs, card]
        | succ k ih =>
          have ec : card (k + 1) S = card k S + if S k = true then 1 else 0 := by
            unfold card
            rw [List.range_succ, List.countP_append, List.countP_cons, List.countP_nil]
            simp
          rw [ec]
          unfold outs
          have tk := a2.two k
          have ck : (at_ G k).countP S ≤ (at_ G k).length := List.countP_le_length
          by_cases k1 : one = k
          · subst k1
            rw [if_pos hb.1, if_pos hb.1, e1, if_pos (Nat.lt_succ_self _)]
            rw [if_neg (Nat.lt_irrefl _)] at ih
            by_cases k2 : other < one
            · rw [if_pos k2] at ih
              rw [if_pos (by omega)]
              simp
              omega
            · rw [if_neg k2] at ih
              rw [if_neg (by omega)]
              simp
              omega
          · by_cases k2 : other = k
            · subst k2
              rw [if_pos hb.2, if_pos hb.2, e2, if_pos (Nat.lt_succ_self _)]
              rw [if_neg (Nat.lt_irrefl _)] at ih
              by_cases k3 : one < other
              · rw [if_pos k3] at ih
                rw [if_pos (by omega)]
                simp
                omega
              · rw [if_neg k3] at ih
                rw [if_neg (by omega)]
                simp
                omega
            · have w1 : (if one < k + 1 then 2 else 0) = if one < k then 2 else 0 := by
                by_cases z : one < k
                · rw [if_pos z, if_pos (by omega)]
                · rw [if_neg z, if_neg (by omega)]
              have w2 : (if other < k + 1 then 2 else 0) = if other < k then 2 else 0 := by
                by_cases z : other < k
                · rw [if_pos z, if_pos (by omega)]
                · rw [if_neg z, if_neg (by omega)]
              rw [w1, w2]
              split <;> omega
      have := lim n
      rw [if_pos h1, if_pos h2] at this
      rw [a2.out S]
      omega
    · rw [if_neg hb]
      exact sl S hS
  · rw [if_neg hy] at h
    cases (Prod.mk.inj h).2
/-- a bar is refused: the joints told have no room for it -/
theorem lay_no {n : Nat} {cs cs' : Cs} {bs : List Bar} {one other : Nat} {ks : List Nat} (ft : Fits n cs bs) (sl : Slim n bs) (h1 : one < n) (h2 : other < n) (ne : one ≠ other) (h : lay cs one other = (cs', some ks)) :
    Fits n cs' bs ∧ ks.Nodup ∧ (∀ k ∈ ks, k < n) ∧ one ∈ ks ∧ other ∈ ks ∧ Tight n bs (inL ks) := by
  obtain ⟨a, _, c, _⟩ := unload_spec (spared := one) h1 3 cs ft (by have := ft.two one; omega)
  have c := c (unload_all ft sl h1)
  obtain ⟨a2, b2, c2, d2⟩ := unload_spec (spared := one) h2 3 (unload one one 3 cs).1 a (by have := a.two other; omega)
  unfold lay at h
  dsimp only at h
  by_cases hy : (unload other one 3 (unload one one 3 cs).1).2 = true
  · rw [if_pos hy] at h
    cases (Prod.mk.inj h).2
  · rw [if_neg hy] at h
    obtain ⟨e, ek⟩ := Prod.mk.inj h
    have ek := Option.some.inj ek
    have hf : (unload other one 3 (unload one one 3 cs).1).2 = false := by simpa using hy
    obtain ⟨g1, g2⟩ := d2 hf
    have e1 : at_ (unload other one 3 (unload one one 3 cs).1).1 one = [] := by
      have := b2 one ne rfl
      rw [c] at this
      exact List.eq_nil_of_length_eq_zero this
    rw [e] at a2 g1 g2 e1 ek
    subst ek
    obtain ⟨sn, sh⟩ := reached_seen a2.len a2.low h2
    have q := ins_reached a2 h2 g2
    have t := reach_two a2 h2 g1
    have s := sl _ t
    have l : 0 < (at_ cs' other).length := List.length_pos_iff.mpr g1
    have hone : one ∈ keys (reached cs' other) := by
      by_cases z : one ∈ keys (reached cs' other)
      · exact z
      · rw [if_neg fun w => z w.2.1] at q
        omega
    rw [if_pos ⟨h1, hone, ne⟩, e1] at q
    refine ⟨a2, sn.nd, sn.low, hone, start_mem a2 h2, t, ?_⟩
    have : ([] : List Nat).length = 0 := rfl
    omega
end Fr

/-! Values as plain data, apart from where they stand: what an expression evaluates to, given the data in the slots. -/
namespace Pl
open PySem PySem.Spec PyProof.Rows L2
open Evl (Ex)

inductive D where
  | non | bl (b : Bool) | int (i : Int) | str (s : Str) | adr (a : Addr) | ty (n : String) | ro (ns : List Int) | lst (ds : List D) | tup (ds : List D)
  /-- a dict by its keys and values, an instance by its attributes -/
  | dc (ks : List L2.Key) (ds : List D) | ob (C : Addr) (fs : List Str) (ds : List D)
  /-- a dict that is walked, by its keys -/
  | fz (ns : List Int)
  /-- such a dict, by its keys and values -/
  | fv (ks : List L2.Key) (ds : List D)
  /-- an exception of the class at C -/
  | er (C : Addr)

mutual
/-- v stands for the data d, by what the part S of the heap holds -/
inductive Rd (K : PySem.W.Frag) (S : Hp) : V → D → Prop
  | non : Rd K S .non .non
  | bl (b : Bool) : Rd K S (.bl b) (.bl b)
  | int (i : Int) : Rd K S (.int i) (.int i)
  | str (x : Str) : Rd K S (.str x) (.str x)
  | adr (a : Addr) : Rd K S (.ref a) (.adr a)
  | ty (n : String) : Rd K S (.ty n) (.ty n)
  | ro {a : Addr} {ns : List Int} : SqL K S a (ns.map V.int) → Rd K S (.ref a) (.ro ns)
  | lst {a : Addr} {xs : List V} {ds : List D} : S a = some (.lst xs) → RdL K S xs ds → Rd K S (.ref a) (.lst ds)
  | tup {a : Addr} {xs : List V} {ds : List D} : S a = some (.tup xs) → RdL K S xs ds → Rd K S (.ref a) (.tup ds)
  | dc {a : Addr} {ks : List L2.Key} {xs : List V} {ds : List D} : S a = some (.dK (ks.zip xs)) → ks.length = xs.length → RdL K S xs ds → Rd K S (.ref a) (.dc ks ds)
  | ob {a C dx : Addr} {fs : List Str} {xs : List V} {ds : List D} : S a = some (.ins C dx (fs.zip xs)) → fs.length = xs.length → RdL K S xs ds → Rd K S (.ref a) (.ob C fs ds)
  | fz {a : Addr} {o : Obj} {kvs : List (L2.Key × V)} {ns : List Int} : S a = some (.frz o (.dK kvs)) → kvs.map (·.1) = ns.map Sum.inl → Rd K S (.ref a) (.fz ns)
  | fv {a : Addr} {o : Obj} {ks : List L2.Key} {xs : List V} {ds : List D} : S a = some (.frz o (.dK (ks.zip xs))) → ks.length = xs.length → RdL K S xs ds → Rd K S (.ref a) (.fv ks ds)
  | er {a C : Addr} {o : Obj} {u : HO} : S a = some (.frz o u) → o.cls = .ref C → o.dict = none → (∃ vs, o.data = .fields vs) → Rd K S (.ref a) (.er C)
inductive RdL (K : PySem.W.Frag) (S : Hp) : List V → List D → Prop
  | nil : RdL K S [] []
  | cons {v : V} {vs : List V} {d : D} {ds : List D} : Rd K S v d → RdL K S vs ds → RdL K S (v :: vs) (d :: ds)
end

section
variable {K : PySem.W.Frag} {S S' S2 H H' H2 : Hp}
mutual
theorem Rd.mono (e : Ex S S') : ∀ {v : V} {d : D}, Rd K S v d → Rd K S' v d
  | _, _, .non => .non
  | _, _, .bl b => .bl b
  | _, _, .int i => .int i
  | _, _, .str x => .str x
  | _, _, .adr a => .adr a
  | _, _, .ty n => .ty n
  | _, _, .ro h => .ro (Evl.ex_l e h)
  | _, _, .lst h r => .lst (e _ _ h) (RdL.mono e r)
  | _, _, .tup h r => .tup (e _ _ h) (RdL.mono e r)
  | _, _, .dc h l r => .dc (e _ _ h) l (RdL.mono e r)
  | _, _, .ob h l r => .ob (e _ _ h) l (RdL.mono e r)
  | _, _, .fz h l => .fz (e _ _ h) l
  | _, _, .fv h l r => .fv (e _ _ h) l (RdL.mono e r)
  | _, _, .er h c d v => .er (e _ _ h) c d v
theorem RdL.mono (e : Ex S S') : ∀ {vs : List V} {ds : List D}, RdL K S vs ds → RdL K S' vs ds
  | _, _, .nil => .nil
  | _, _, .cons h r => .cons (Rd.mono e h) (RdL.mono e r)
end
theorem RdL.length : ∀ {vs : List V} {ds : List D}, RdL K S vs ds → vs.length = ds.length
  | _, _, .nil => rfl
  | _, _, .cons _ r => congrArg (· + 1) r.length
theorem RdL.append : ∀ {vs ws : List V} {ds es : List D}, RdL K S vs ds → RdL K S ws es → RdL K S (vs ++ ws) (ds ++ es)
  | _, _, _, _, .nil, s => s
  | _, _, _, _, .cons h r, s => .cons h (RdL.append r s)
theorem RdL.get : ∀ {vs : List V} {ds : List D} {i : Nat} {d : D}, RdL K S vs ds → ds[i]? = some d → ∃ v, vs[i]? = some v ∧ Rd K S v d
  | _, _, _, _, .nil, e => by simp at e
  | _, _, 0, _, .cons h _, e => by simp at e; subst e; exact ⟨_, rfl, h⟩
  | _, _, i + 1, _, .cons _ r, e => by
    obtain ⟨v, h1, h2⟩ := RdL.get (i := i) r (by simpa using e)
    exact ⟨v, by simpa using h1, h2⟩
theorem RdL.getV : ∀ {vs : List V} {ds : List D} {i : Nat} {v : V}, RdL K S vs ds → vs[i]? = some v → ∃ d, ds[i]? = some d ∧ Rd K S v d
  | _, _, _, _, .nil, e => by simp at e
  | _, _, 0, _, .cons h _, e => by simp at e; subst e; exact ⟨_, rfl, h⟩
  | _, _, i + 1, _, .cons _ r, e => by
    obtain ⟨v, h1, h2⟩ := RdL.getV (i := i) r (by simpa using e)
    exact ⟨v, by simpa using h1, h2⟩
theorem RdL.take : ∀ {vs : List V} {ds : List D} (n : Nat), RdL K S vs ds → RdL K S (vs.take n) (ds.take n)
  | _, _, 0, _ => .nil
  | _, _, _ + 1, .nil => .nil
  | _, _, n + 1, .cons h r => .cons h (RdL.take n r)
theorem RdL.drop : ∀ {vs : List V} {ds : List D} (n : Nat), RdL K S vs ds → RdL K S (vs.drop n) (ds.drop n)
  | _, _, 0, r => r
  | _, _, _ + 1, .nil => .nil
  | _, _, n + 1, .cons _ r => RdL.drop n r
theorem RdL.eraseIdx : ∀ {vs : List V} {ds : List D} (n : Nat), RdL K S vs ds → RdL K S (vs.eraseIdx n) (ds.eraseIdx n)
  | _, _, _, .nil => .nil
  | _, _, 0, .cons _ r => r
  | _, _, n + 1, .cons h r => .cons h (RdL.eraseIdx n r)
theorem RdL.set {v : V} {d : D} (h : Rd K S v d) : ∀ {vs : List V} {ds : List D} (n : Nat), RdL K S vs ds → RdL K S (vs.set n v) (ds.set n d)
  | _, _, _, .nil => .nil
  | _, _, 0, .cons _ r => .cons h r
  | _, _, n + 1, .cons h' r => .cons h' (RdL.set h n r)
theorem RdL.ints : ∀ {vs : List V} {ns : List Int}, RdL K S vs (ns.map D.int) → vs = ns.map V.int
  | _, [], .nil => rfl
  | _, _ :: _, .cons h r => by cases h; rw [RdL.ints r]; rfl
theorem RdL.ofInts : ∀ (ns : List Int), RdL K S (ns.map V.int) (ns.map D.int)
  | [] => .nil
  | n :: ns => .cons (.int n) (RdL.ofInts ns)
theorem RdL.bools : ∀ {vs : List V} {ns : List Bool}, RdL K S vs (ns.map D.bl) → vs = ns.map V.bl
  | _, [], .nil => rfl
  | _, _ :: _, .cons h r => by cases h; rw [RdL.bools r]; rfl

/-- from the stable part S of the heap H to S' of H': all stands, and what of H was not of S does not come into S' -/
structure Ext (S H S' H' : Hp) : Prop where
  s : Ex S S'
  h : Ex H H'
  sub : Ex S' H'
  dis : ∀ a, S a = none → H a ≠ none → S' a = none
theorem Ext.refl (e : Ex S H) : Ext S H S H := ⟨Ex.refl S, Ex.refl H, e, fun _ h _ => h⟩
theorem Ext.trans (a : Ext S H S' H') (b : Ext S' H' S2 H2) : Ext S H S2 H2 where
  s := a.s.trans b.s
  h := a.h.trans b.h
  sub := b.sub
  dis := fun p h1 h2 => b.dis p (a.dis p h1 h2) fun z => by
    cases q : H p with
    | none => exact h2 q
    | some o => rw [a.h p o q] at z; cases z
theorem sub_none (e : Ex S H) {p : Addr} (h : H p = none) : S p = none := Evl.fresh_back e h
/-- a new object that is told -/
theorem Ext.new (e : Ex S H) {p : Addr} {o : HO} (h : H p = none) : Ext S H (upd S p o) (upd H p o) where
  s := Ex.new (sub_none e h)
  h := Ex.new h
  sub := fun a u q => by
    by_cases ha : a = p
    · subst ha; rw [upd_same] at q ⊢; exact q
    · rw [upd_ne ha] at q ⊢; exact e a u q
  dis := fun a h1 h2 => by
    have ha : a ≠ p := fun z => h2 (z ▸ h)
    rw [upd_ne ha]; exact h1
/-- a new object that is not told -/
theorem Ext.hid (e : Ex S H) {p : Addr} {o : HO} (h : H p = none) : Ext S H S (upd H p o) where
  s := Ex.refl S
  h := Ex.new h
  sub := fun a u q => by
    have ha : a ≠ p := fun z => by subst z; rw [sub_none e h] at q; cases q
    rw [upd_ne ha]; exact e a u q
  dis := fun _ h1 _ => h1
/-- an object that was not of S, and stands, is told -/
theorem Ext.tell (a : Ext S H S' H') {p : Addr} {o : HO} (n : S' p = none) (h : H p = none) (q : H' p = some o) : Ext S H (upd S' p o) H' where
  s := a.s.trans (Ex.new n)
  h := a.h
  sub := fun b u z => by
    by_cases hb : b = p
    · subst hb; rw [upd_same] at z; rw [q]; exact z
    · rw [upd_ne hb] at z; exact a.sub b u z
  dis := fun b h1 h2 => by
    have hb : b ≠ p := fun z => h2 (z ▸ h)
    rw [upd_ne hb]; exact a.dis b h1 h2
end

/-! ### slots -/
inductive Sl where
  | u | k (d : D) | o (ds : List D)
abbrev Rho := List Sl
section
variable (K : PySem.W.Frag)
structure Env (S : Hp) (σ : L2.St) (ρ : Rho) : Prop where
  len : σ.length = ρ.length
  val : ∀ (i : Nat) (d : D), ρ[i]? = some (.k d) → ∃ v, σ[i]? = some (some v) ∧ Rd K S v d
def EvD (te : TE) (ρ : Rho) (d : D) : Prop := ∀ S H σ, Ex S H → Env K S σ ρ → ∀ Q : VK, (∀ v S' H', Ext S H S' H' → Rd K S' v d → Q v H') → te σ H Q
/-- a list that is made on the way, and no one else's -/
def EvF (te : TE) (ρ : Rho) (es : List D) : Prop := ∀ S H σ, Ex S H → Env K S σ ρ → ∀ Q : VK, (∀ p vs S' H', Ext S H S' H' → H p = none → S' p = none → H' p = some (.lst vs) → RdL K S' vs es → Q (.ref p) H') → te σ H Q
def EvT (tt : TT) (ρ : Rho) (b : Bool) : Prop := ∀ S H σ, Ex S H → Env K S σ ρ → ∀ Q : Bool → Hp → Prop, (∀ S' H', Ext S H S' H' → Q b H') → tt σ H Q
def EvA (ta : TA) (ρ : Rho) (ds : List D) : Prop := ∀ S H σ, Ex S H → Env K S σ ρ → ∀ Q : List V → Hp → Prop, (∀ vs S' H', Ext S H S' H' → RdL K S' vs ds → Q vs H') → ta σ H Q
def EvO (to : TO) (ρ : Rho) (o : Option Int) : Prop := ∀ S H σ, Ex S H → Env K S σ ρ → ∀ Q : Option Int → Hp → Prop, (∀ S' H', Ext S H S' H' → Q o H') → to σ H Q
/-- a two-place operation, a call by values -/
def RV (r : R2) (x y z : D) : Prop := ∀ S H v u, Ex S H → Rd K S v x → Rd K S u y → ∀ Q : VK, (∀ w S' H', Ext S H S' H' → Rd K S' w z → Q w H') → r v u H Q
def RVF (r : R2) (x y : D) (es : List D) : Prop := ∀ S H v u, Ex S H → Rd K S v x → Rd K S u y → ∀ Q : VK, (∀ p vs S' H', Ext S H S' H' → H p = none → S' p = none → H' p = some (.lst vs) → RdL K S' vs es → Q (.ref p) H') → r v u H Q
def RC (r : List V → Hp → VK → Prop) (xs : List D) (z : D) : Prop := ∀ S H vs, Ex S H → RdL K S vs xs → ∀ Q : VK, (∀ w S' H', Ext S H S' H' → Rd K S' w z → Q w H') → r vs H Q
def RCF (r : List V → Hp → VK → Prop) (xs : List D) (es : List D) : Prop := ∀ S H vs, Ex S H → RdL K S vs xs → ∀ Q : VK, (∀ p ws S' H', Ext S H S' H' → H p = none → S' p = none → H' p = some (.lst ws) → RdL K S' ws es → Q (.ref p) H') → r vs H Q
end

section
variable {K : PySem.W.Frag} {ρ : Rho} {ta tb te tx : TE} {t u : TT} {tA tR : TA} {x y z d e : D} {r : R2}
theorem Env.mono {S S' : Hp} {σ : L2.St} (e : Ex S S') (h : Env K S σ ρ) : Env K S' σ ρ := ⟨h.len, fun i d q => by
  obtain ⟨v, h1, h2⟩ := h.val i d q
  exact ⟨v, h1, h2.mono e⟩⟩
theorem EvF.data {es : List D} (h : EvF K te ρ es) : EvD K te ρ (.lst es) := fun S H σ e v Q q => h S H σ e v Q fun p vs S' H' x hp sp h' rl =>
  q (.ref p) (upd S' p (.lst vs)) H' (x.tell sp hp h') (.lst upd_same (rl.mono (Ex.new sp)))
theorem EvD.to (h : EvD K te ρ d) (e : d = x) : EvD K te ρ x := e ▸ h
theorem EvF.to {es fs : List D} (h : EvF K te ρ es) (e : es = fs) : EvF K te ρ fs := e ▸ h
theorem EvT.to {b c : Bool} (h : EvT K t ρ b) (e : b = c) : EvT K t ρ c := e ▸ h
theorem ev_var {i : Nat} (h : ρ[i]? = some (.k d)) : EvD K (tVar i) ρ d := fun S H σ e v Q q => by
  obtain ⟨w, h1, h2⟩ := v.val i d h
  exact ⟨w, h1, q w S H (Ext.refl e) h2⟩
theorem ev_int {i : Int} : EvD K (tC (.int i)) ρ (.int i) := fun S H σ e _ Q q => q _ S H (Ext.refl e) (.int i)
theorem ev_bl {b : Bool} : EvD K (tC (.bl b)) ρ (.bl b) := fun S H σ e _ Q q => q _ S H (Ext.refl e) (.bl b)
theorem ev_non : EvD K (tC .non) ρ .non := fun S H σ e _ Q q => q _ S H (Ext.refl e) .non
theorem ev_str {s : Str} : EvD K (tC (.str s)) ρ (.str s) := fun S H σ e _ Q q => q _ S H (Ext.refl e) (.str s)
theorem ev_adr {a : Addr} : EvD K (tC (.ref a)) ρ (.adr a) := fun S H σ e _ Q q => q _ S H (Ext.refl e) (.adr a)
theorem ev_ty {n : String} : EvD K (tC (.ty n)) ρ (.ty n) := fun S H σ e _ Q q => q _ S H (Ext.refl e) (.ty n)
theorem ev_op (ha : EvD K ta ρ x) (hb : EvD K tb ρ y) (hr : RV K r x y z) : EvD K (tOp r ta tb) ρ z := fun S H σ e v Q q =>
  ha S H σ e v _ fun w1 S1 H1 x1 r1 => hb S1 H1 σ x1.sub (v.mono x1.s) _ fun w2 S2 H2 x2 r2 => hr S2 H2 w1 w2 x2.sub (r1.mono x2.s) r2 Q fun w S3 H3 x3 r3 => q w S3 H3 ((x1.trans x2).trans x3) r3
theorem ev_opF {es : List D} (ha : EvD K ta ρ x) (hb : EvD K tb ρ y) (hr : RVF K r x y es) : EvF K (tOp r ta tb) ρ es := fun S H σ e v Q q =>
  ha S H σ e v _ fun w1 S1 H1 x1 r1 => hb S1 H1 σ x1.sub (v.mono x1.s) _ fun w2 S2 H2 x2 r2 => hr S2 H2 w1 w2 x2.sub (r1.mono x2.s) r2 Q fun p vs S3 H3 x3 hp sp h3 r3 =>
    q p vs S3 H3 ((x1.trans x2).trans x3) (Evl.fresh_back (x1.h.trans x2.h) hp) sp h3 r3
theorem ea_nil : EvA K tNil ρ [] := fun S H σ e _ Q q => q [] S H (Ext.refl e) .nil
theorem ea_cons {ds : List D} (h : EvD K ta ρ d) (hr : EvA K tR ρ ds) : EvA K (tCons ta tR) ρ (d :: ds) := fun S H σ e v Q q =>
  h S H σ e v _ fun w1 S1 H1 x1 r1 => hr S1 H1 σ x1.sub (v.mono x1.s) _ fun ws S2 H2 x2 r2 => q (w1 :: ws) S2 H2 (x1.trans x2) (.cons (r1.mono x2.s) r2)
theorem ev_cb {rc : List V → Hp → VK → Prop} {ds : List D} (ha : EvA K tA ρ ds) (hr : RC K rc ds z) : EvD K (tCB rc tA) ρ z := fun S H σ e v Q q =>
  ha S H σ e v _ fun ws S1 H1 x1 r1 => hr S1 H1 ws x1.sub r1 Q fun w S2 H2 x2 r2 => q w S2 H2 (x1.trans x2) r2
theorem ev_cbF {rc : List V → Hp → VK → Prop} {ds es : List D} (ha : EvA K tA ρ ds) (hr : RCF K rc ds es) : EvF K (tCB rc tA) ρ es := fun S H σ e v Q q =>
  ha S H σ e v _ fun ws S1 H1 x1 r1 => hr S1 H1 ws x1.sub r1 Q fun p us S2 H2 x2 hp sp h2 r2 => q p us S2 H2 (x1.trans x2) (Evl.fresh_back x1.h hp) sp h2 r2
theorem ev_lst {ds : List D} (ha : EvA K tA ρ ds) (hl : ds.length ≤ 100000) : EvF K (tLst tA) ρ ds := fun S H σ e v Q q =>
  ha S H σ e v _ fun ws S1 H1 x1 r1 => ⟨Evl.sz_of (by rw [r1.length]; exact hl), fun p hp => q p ws S1 (upd H1 p (.lst ws)) (x1.trans (Ext.hid x1.sub hp)) (Evl.fresh_back x1.h hp) (sub_none x1.sub hp) upd_same r1⟩
theorem ev_tup {ds : List D} (ha : EvA K tA ρ ds) (hl : ds.length ≤ 100000) : EvD K (tTup tA) ρ (.tup ds) := fun S H σ e v Q q =>
  ha S H σ e v _ fun ws S1 H1 x1 r1 => ⟨Evl.sz_of (by rw [r1.length]; exact hl), fun p hp => q (.ref p) (upd S1 p (.tup ws)) (upd H1 p (.tup ws)) (x1.trans (Ext.new x1.sub hp)) (.tup upd_same (r1.mono (Ex.new (sub_none x1.sub hp))))⟩
theorem et_test {b : Bool} (h : EvD K te ρ (.bl b)) : EvT K (tTest te) ρ b := fun S H σ e v Q q =>
  h S H σ e v _ fun w S1 H1 x1 r1 => by cases r1; exact ⟨b, rfl, q S1 H1 x1⟩
theorem et_B {b : Bool} (h : EvD K te ρ (.bl b)) : EvT K (tB te) ρ b := fun S H σ e v Q q =>
  h S H σ e v _ fun w S1 H1 x1 r1 => by cases r1; exact ⟨b, rfl, q S1 H1 x1⟩
theorem et_not {b : Bool} (h : EvT K t ρ b) : EvT K (tNot t) ρ (!b) := fun S H σ e v Q q => h S H σ e v _ fun S1 H1 x1 => q S1 H1 x1
theorem et_and {a b : Bool} (h1 : EvT K t ρ a) (h2 : a = true → EvT K u ρ b) : EvT K (tAnd t u) ρ (a && b) := fun S H σ e v Q q => h1 S H σ e v _ fun S1 H1 x1 => by
  cases a with
  | true =>
    show u σ H1 Q
    exact h2 rfl S1 H1 σ x1.sub (v.mono x1.s) Q fun S2 H2 x2 => q S2 H2 (x1.trans x2)
  | false =>
    show Q false H1
    exact q S1 H1 x1
theorem et_or {a b : Bool} (h1 : EvT K t ρ a) (h2 : a = false → EvT K u ρ b) : EvT K (tOr t u) ρ (a || b) := fun S H σ e v Q q => h1 S H σ e v _ fun S1 H1 x1 => by
  cases a with
  | true =>
    show Q true H1
    exact q S1 H1 x1
  | false =>
    show u σ H1 Q
    exact h2 rfl S1 H1 σ x1.sub (v.mono x1.s) Q fun S2 H2 x2 => q S2 H2 (x1.trans x2)
theorem et_yes : EvT K tYes ρ true := fun S H σ e v Q q => q S H (Ext.refl e)
theorem ev_andV {a : Bool} {z : D} (h1 : EvD K ta ρ (.bl a)) (h2 : a = true → EvD K tb ρ z) (h3 : a = false → z = .bl false) : EvD K (tAndV ta tb) ρ z := fun S H σ e v Q q => h1 S H σ e v _ fun w S1 H1 x1 r1 => by
  cases r1
  refine ⟨a, rfl, ?_⟩
  cases a with
  | true =>
    show tb σ H1 Q
    exact h2 rfl S1 H1 σ x1.sub (v.mono x1.s) Q fun w S2 H2 x2 r2 => q w S2 H2 (x1.trans x2) r2
  | false =>
    show Q (.bl false) H1
    rw [h3 rfl] at q
    exact q _ S1 H1 x1 (.bl false)
theorem ev_and {a b : Bool} (h1 : EvD K ta ρ (.bl a)) (h2 : a = true → EvD K tb ρ (.bl b)) : EvD K (tAndV ta tb) ρ (.bl (a && b)) :=
  ev_andV h1 (fun e => by subst e; exact h2 rfl) fun e => by subst e; rfl
theorem ev_or {a b : Bool} (h1 : EvD K ta ρ (.bl a)) (h2 : a = false → EvD K tb ρ (.bl b)) : EvD K (tOrV ta tb) ρ (.bl (a || b)) := fun S H σ e v Q q => h1 S H σ e v _ fun w S1 H1 x1 r1 => by
  cases r1
  refine ⟨a, rfl, ?_⟩
  cases a with
  | true =>
    show Q (.bl true) H1
    exact q _ S1 H1 x1 (.bl true)
  | false =>
    show tb σ H1 Q
    exact h2 rfl S1 H1 σ x1.sub (v.mono x1.s) Q fun w S2 H2 x2 r2 => q w S2 H2 (x1.trans x2) r2
theorem ev_not {a : Bool} (h1 : EvD K ta ρ (.bl a)) : EvD K (tNotV ta) ρ (.bl (!a)) := fun S H σ e v Q q => h1 S H σ e v _ fun w S1 H1 x1 r1 => by
  cases r1
  exact ⟨a, rfl, q _ S1 H1 x1 (.bl _)⟩
theorem ev_if {b : Bool} (h : EvT K t ρ b) (h1 : b = true → EvD K ta ρ d) (h2 : b = false → EvD K tb ρ d) : EvD K (tIf t ta tb) ρ d := fun S H σ e v Q q => h S H σ e v _ fun S1 H1 x1 => by
  cases b with
  | true =>
    show ta σ H1 Q
    exact h1 rfl S1 H1 σ x1.sub (v.mono x1.s) Q fun w S2 H2 x2 r2 => q w S2 H2 (x1.trans x2) r2
  | false =>
    show tb σ H1 Q
    exact h2 rfl S1 H1 σ x1.sub (v.mono x1.s) Q fun w S2 H2 x2 r2 => q w S2 H2 (x1.trans x2) r2

/-! ### operations by values -/
theorem rv_I0 {g : Int → Int → V} {i j : Int} {z : D} (h : ∀ S, Rd K S (g i j) z) : RV K (rI0 g) (.int i) (.int j) z := fun S H v u e r1 r2 Q q => by
  cases r1; cases r2
  exact ⟨i, j, rfl, rfl, q _ S H (Ext.refl e) (h S)⟩
theorem rv_I {C : Int → Int → Prop} {g : Int → Int → V} {i j : Int} {z : D} (hc : C i j) (h : ∀ S, Rd K S (g i j) z) : RV K (rI C g) (.int i) (.int j) z := fun S H v u e r1 r2 Q q => by
  cases r1; cases r2
  exact ⟨i, j, rfl, rfl, hc, q _ S H (Ext.refl e) (h S)⟩
theorem atI_get {α : Type} {xs : List α} {i : Int} {x : α} (h : atI xs i = some x) : ∃ j, ixN xs.length i = some j ∧ xs[j]? = some x := by
  unfold atI at h
  cases e : ixN xs.length i with
  | none => rw [e] at h; cases h
  | some j => rw [e] at h; exact ⟨j, rfl, h⟩
theorem atI_of {α : Type} {xs : List α} {i : Int} {j : Nat} {x : α} (h : ixN xs.length i = some j) (e : xs[j]? = some x) : atI xs i = some x := by
  unfold atI
  rw [h]
  exact e
theorem RdL.at {S : Hp} {vs : List V} {ds : List D} {i : Int} {d : D} (h : RdL K S vs ds) (e : atI ds i = some d) : ∃ v, atI vs i = some v ∧ Rd K S v d := by
  obtain ⟨j, h1, h2⟩ := atI_get e
  obtain ⟨v, h3, h4⟩ := h.get h2
  exact ⟨v, atI_of (by rw [h.length]; exact h1) h3, h4⟩
theorem rv_ixL {ds : List D} {i : Int} {d : D} (h : atI ds i = some d) : RV K (rIx K) (.lst ds) (.int i) d := fun S H v u e r1 r2 Q q => by
  cases r1 with
  | lst ha rl =>
    cases r2
    obtain ⟨w, h1, h2⟩ := rl.at h
    exact .inl ⟨_, _, i, w, rfl, rfl, Evl.sq_of (e _ _ ha), h1, q w S H (Ext.refl e) h2⟩
theorem rv_ixT {ds : List D} {i : Int} {d : D} (h : atI ds i = some d) : RV K (rIx K) (.tup ds) (.int i) d := fun S H v u e r1 r2 Q q => by
  cases r1 with
  | tup ha rl =>
    cases r2
    obtain ⟨w, h1, h2⟩ := rl.at h
    exact .inr (.inl ⟨_, _, i, w, rfl, rfl, Evl.st_of (e _ _ ha), h1, q w S H (Ext.refl e) h2⟩)
theorem rv_ixR {ns : List Int} {i n : Int} (h : atI ns i = some n) : RV K (rIx K) (.ro ns) (.int i) (.int n) := fun S H v u e r1 r2 Q q => by
  cases r1 with
  | ro ha =>
    cases r2
    obtain ⟨j, h1, h2⟩ := atI_get h
    exact .inl ⟨_, _, i, .int n, rfl, rfl, Evl.ex_l e ha, atI_of (by rw [List.length_map]; exact h1) (by rw [List.getElem?_map, h2]; rfl), q _ S H (Ext.refl e) (.int n)⟩
/-- `+` of ints, lists, tuples -/
def rPlus (K : PySem.W.Frag) : R2 := fun x y H Q => rI0 (fun i j => .int (i + j)) x y H Q ∨ rCat x y H Q ∨ rCatT K x y H Q
theorem op_plus {X : Cx} : OpR X (binaryOp .Add) (rPlus X.K) := fun pins s σ H x y v u Q I rx ry h => by
  rcases h with h | h | h
  · exact op_add pins s σ H x y v u Q I rx ry h
  · exact op_cat pins s σ H x y v u Q I rx ry h
  · exact op_catT pins s σ H x y v u Q I rx ry h
theorem rv_plusI {i j : Int} : RV K (rPlus K) (.int i) (.int j) (.int (i + j)) := fun S H v u e r1 r2 Q q => .inl (rv_I0 (fun S => .int _) S H v u e r1 r2 Q q)
theorem rvF_plus {xs ys : List D} (hl : xs.length + ys.length ≤ 100000) : RVF K (rPlus K) (.lst xs) (.lst ys) (xs ++ ys) := fun S H v u e r1 r2 Q q => by
  cases r1 with
  | lst ha rl =>
    cases r2 with
    | lst hb rl2 =>
      exact .inr (.inl ⟨_, _, _, _, rfl, rfl, e _ _ ha, e _ _ hb, Evl.sz_of (by rw [rl.length, rl2.length]; exact hl), fun p hp => q p _ S _ (Ext.hid e hp) hp (sub_none e hp) upd_same (rl.append rl2)⟩)
theorem rv_plusT {xs ys : List D} (hn : xs ≠ []) (hl : xs.length + ys.length ≤ 100000) : RV K (rPlus K) (.tup xs) (.tup ys) (.tup (xs ++ ys)) := fun S H v u e r1 r2 Q q => by
  cases r1 with
  | tup ha rl =>
    cases r2 with
    | tup hb rl2 =>
      refine .inr (.inr ⟨_, _, _, _, rfl, rfl, Evl.st_of (e _ _ ha), Evl.st_of (e _ _ hb), fun z => ?_, Evl.sz_of (by rw [rl.length, rl2.length]; exact hl), fun z => ?_, fun z p hp => ?_⟩)
      · subst z; cases rl; exact hn rfl
      · subst z
        cases rl2
        rw [List.append_nil] at q
        exact q _ S H (Ext.refl e) (.tup ha rl)
      · exact q _ _ _ (Ext.new e hp) (.tup upd_same ((rl.append rl2).mono (Ex.new (sub_none e hp))))
/-! ### calls by values -/
def rLen (K : PySem.W.Frag) : List V → Hp → VK → Prop := fun xs H Q => ∃ p ys, xs = [.ref p] ∧ (SqL K H p ys ∨ SqT K H p ys) ∧ Q (.int ys.length) H
theorem cr_len {X : Cx} : CallR X (.builtin "len") (rLen X.K) := call_len_seq
theorem rc_lenL {ds : List D} : RC K (rLen K) [.lst ds] (.int (ds.length : Int)) := fun S H vs e r Q q => by
  cases r with
  | cons h t =>
    cases t
    cases h with
    | lst ha rl => exact ⟨_, _, rfl, .inl (Evl.sq_of (e _ _ ha)), by rw [rl.length]; exact q _ S H (Ext.refl e) (.int _)⟩
theorem rc_lenT {ds : List D} : RC K (rLen K) [.tup ds] (.int (ds.length : Int)) := fun S H vs e r Q q => by
  cases r with
  | cons h t =>
    cases t
    cases h with
    | tup ha rl => exact ⟨_, _, rfl, .inr (Evl.st_of (e _ _ ha)), by rw [rl.length]; exact q _ S H (Ext.refl e) (.int _)⟩
theorem rc_lenR {ns : List Int} : RC K (rLen K) [.ro ns] (.int (ns.length : Int)) := fun S H vs e r Q q => by
  cases r with
  | cons h t =>
    cases t
    cases h with
    | ro ha => exact ⟨_, _, rfl, .inl (Evl.ex_l e ha), by rw [List.length_map]; exact q _ S H (Ext.refl e) (.int _)⟩
def rListOf (K : PySem.W.Frag) : List V → Hp → VK → Prop := fun xs H Q => ∃ p ys, xs = [.ref p] ∧ (SqL K H p ys ∨ SqT K H p ys) ∧ ∀ l, H l = none → Q (.ref l) (upd H l (.lst ys))
theorem cr_listOf {X : Cx} : CallR X (.type "list") (rListOf X.K) := call_list_of
theorem rc_listL {ds : List D} : RCF K (rListOf K) [.lst ds] ds := fun S H vs e r Q q => by
  cases r with
  | cons h t =>
    cases t
    cases h with
    | lst ha rl => exact ⟨_, _, rfl, .inl (Evl.sq_of (e _ _ ha)), fun p hp => q p _ S _ (Ext.hid e hp) hp (sub_none e hp) upd_same rl⟩
theorem rc_listT {ds : List D} : RCF K (rListOf K) [.tup ds] ds := fun S H vs e r Q q => by
  cases r with
  | cons h t =>
    cases t
    cases h with
    | tup ha rl => exact ⟨_, _, rfl, .inr (Evl.st_of (e _ _ ha)), fun p hp => q p _ S _ (Ext.hid e hp) hp (sub_none e hp) upd_same rl⟩
theorem rc_listR {ns : List Int} : RCF K (rListOf K) [.ro ns] (ns.map D.int) := fun S H vs e r Q q => by
  cases r with
  | cons h t =>
    cases t
    cases h with
    | ro ha => exact ⟨_, _, rfl, .inl (Evl.ex_l e ha), fun p hp => q p _ S _ (Ext.hid e hp) hp (sub_none e hp) upd_same (RdL.ofInts ns)⟩
/-- all(..) of a list of truth values -/
theorem rc_all {bs : List Bool} : RC K (rAll K) [.lst (bs.map D.bl)] (.bl (bs.all id)) := fun S H vs e r Q q => by
  cases r with
  | cons h t =>
    cases t
    cases h with
    | lst ha rl =>
      have z := rl.bools
      subst z
      exact ⟨_, bs, rfl, Evl.sq_of (e _ _ ha), q _ S H (Ext.refl e) (.bl _)⟩
end

/-! ### a def's promise by data -/
section
variable (K : PySem.W.Frag)
def spD (Rel : List D → D → Prop) : Sp := fun vs H Q _ => ∃ S ds d, Ex S H ∧ RdL K S vs ds ∧ Rel ds d ∧ ∀ v S' H', Ext S H S' H' → Rd K S' v d → Q v H'
/-- it hands back a list that is no one else's -/
def spF (Rel : List D → List D → Prop) : Sp := fun vs H Q _ => ∃ S ds es, Ex S H ∧ RdL K S vs ds ∧ Rel ds es ∧ ∀ p ws S' H', Ext S H S' H' → H p = none → S' p = none → H' p = some (.lst ws) → RdL K S' ws es → Q (.ref p) H'
end
section
variable {K : PySem.W.Frag} {ρ : Rho} {tA : TA} {E : XK}
theorem ev_call {Rel : List D → D → Prop} {ds : List D} {d : D} (ha : EvA K tA ρ ds) (hr : Rel ds d) : EvD K (tCall (spD K Rel) [] E tA) ρ d := fun S H σ e v Q q =>
  ha S H σ e v _ fun ws S1 H1 x1 r1 => ⟨S1, ds, d, x1.sub, by rw [List.append_nil]; exact r1, hr, fun w S2 H2 x2 r2 => q w S2 H2 (x1.trans x2) r2⟩
theorem ev_callF {Rel : List D → List D → Prop} {ds es : List D} (ha : EvA K tA ρ ds) (hr : Rel ds es) : EvF K (tCall (spF K Rel) [] E tA) ρ es := fun S H σ e v Q q =>
  ha S H σ e v _ fun ws S1 H1 x1 r1 => ⟨S1, ds, es, x1.sub, by rw [List.append_nil]; exact r1, hr, fun p us S2 H2 x2 hp sp h2 r2 => q p us S2 H2 (x1.trans x2) (Evl.fresh_back x1.h hp) sp h2 r2⟩
end
end Pl

/-! Values as plain data: kinds, ==, in, slices, walks, comprehensions. -/
namespace Pl
open PySem PySem.Spec PyProof.Rows L2
open Evl (Ex)

/-! ### kinds -/
def D.kind : D → String
  | .non => "NoneType" | .bl _ => "bool" | .int _ => "int" | .str _ => "str" | .adr _ => "?" | .ty _ => "?" | .ro _ => "list" | .lst _ => "list" | .tup _ => "tuple" | .dc _ _ => "?" | .ob _ _ _ => "?" | .fz _ => "?" | .fv _ _ => "?" | .er _ => "?"
section
variable {K : PySem.W.Frag} {ρ : Rho}
theorem Rd.ty_of {S H : Hp} {v : V} {d : D} (e : Ex S H) (h : Rd K S v d) (hk : d.kind ≠ "?") : TyX K H v (.type d.kind) := by
  cases h with
  | non => exact .base .non
  | bl b => exact .base (.bl b)
  | int i => exact .base (.int i)
  | str x => exact .base (.str x)
  | adr a => exact absurd rfl hk
  | ty a => exact absurd rfl hk
  | ro h =>
    rcases Evl.ex_l e h with (h | ⟨o, h⟩) | ⟨o, its, n, h1, h2, _⟩
    · exact .base (.lst h)
    · exact .base (.frz h)
    · exact .kList h1 h2
  | lst h _ => exact .base (.lst (e _ _ h))
  | tup h _ => exact .base (.tup (e _ _ h))
  | dc _ _ _ => exact absurd rfl hk
  | ob _ _ _ => exact absurd rfl hk
  | fz _ _ => exact absurd rfl hk
  | fv _ _ _ => exact absurd rfl hk
  | er _ _ _ _ => exact absurd rfl hk
theorem rc_isi {x : D} {T : String} {b : Bool} (h : kitB x.kind T = some b) (hk : x.kind ≠ "?") : RC K (rIsi K) [x, .ty T] (.bl b) := fun S H vs e r Q q => by
  cases r with
  | cons h1 t1 =>
    cases t1 with
    | cons h2 t2 =>
      cases t2
      cases h2
      exact ⟨_, _, _, _, b, rfl, .ty T, h1.ty_of e hk, kit_ty h, q _ S H (Ext.refl e) (.bl b)⟩

/-! ### equality -/
mutual
def D.py : D → PyData
  | .non => .none | .bl b => .bool b | .int i => .int i | .str s => .str s | .adr _ => .none | .ty _ => .none | .ro ns => .list (ns.map PyData.int)
  | .lst ds => .list (pyL ds) | .tup ds => .tuple (pyL ds) | .dc _ _ => .none | .ob _ _ _ => .none | .fz _ => .none | .fv _ _ => .none | .er _ => .none
def pyL : List D → List PyData
  | [] => []
  | d :: ds => d.py :: pyL ds
end
theorem pyL_map (ds : List D) : pyL ds = ds.map D.py := by
  induction ds with
  | nil => rfl
  | cons d ds ih => rw [pyL, ih]; rfl
/-- data that == may be asked of: at most n deep -/
def D.okd : Nat → D → Bool
  | _, .non => true | _, .bl _ => true | _, .int _ => true | _, .str s => PyData.strOk s | _, .adr _ => false | _, .ty _ => false
  | 0, _ => false
  | _ + 1, .ro _ => true
  | n + 1, .lst ds => ds.all (D.okd n)
  | n + 1, .tup ds => ds.all (D.okd n)
  | _ + 1, .dc _ _ => false | _ + 1, .ob _ _ _ => false | _ + 1, .fz _ => false | _ + 1, .fv _ _ => false | _ + 1, .er _ => false
theorem depthAll_le : ∀ (xs : List PyData) (n : Nat), (∀ x ∈ xs, x.depth ≤ n) → PyData.depthAll xs ≤ n
  | [], n, _ => by simp [PyData.depthAll]
  | x :: xs, n, h => by
    have h1 := h x List.mem_cons_self
    have h2 := depthAll_le xs n fun y hy => h y (List.mem_cons_of_mem _ hy)
    simp only [PyData.depthAll]
    omega
theorem canLayAll_of : ∀ (xs : List PyData), (∀ x ∈ xs, x.canLay0 = true) → PyData.canLayAll0 xs = true
  | [], _ => by simp [PyData.canLayAll0]
  | x :: xs, h => by
    simp only [PyData.canLayAll0, Bool.and_eq_true]
    exact ⟨h x List.mem_cons_self, canLayAll_of xs fun y hy => h y (List.mem_cons_of_mem _ hy)⟩
theorem okd_shape : ∀ (n : Nat) (d : D), d.okd n = true → d.py.canLay0 = true ∧ d.py.depth ≤ n
  | n, .non, _ => ⟨by simp [D.py, PyData.canLay0], by simp [D.py, PyData.depth]⟩
  | n, .bl _, _ => ⟨by simp [D.py, PyData.canLay0], by simp [D.py, PyData.depth]⟩
  | n, .int _, _ => ⟨by simp [D.py, PyData.canLay0], by simp [D.py, PyData.depth]⟩
  | n, .str s, h => ⟨by cases n <;> simpa [D.py, PyData.canLay0, D.okd] using h, by simp [D.py, PyData.depth]⟩
  | n, .adr _, h => by cases n <;> simp [D.okd] at h
  | n, .ty _, h => by cases n <;> simp [D.okd] at h
  | n, .dc _ _, h => by cases n <;> simp [D.okd] at h
  | n, .ob _ _ _, h => by cases n <;> simp [D.okd] at h
  | n, .fz _, h => by cases n <;> simp [D.okd] at h
  | n, .fv _ _, h => by cases n <;> simp [D.okd] at h
  | n, .er _, h => by cases n <;> simp [D.okd] at h
  | 0, .ro _, h => by simp [D.okd] at h
  | 0, .lst _, h => by simp [D.okd] at h
  | 0, .tup _, h => by simp [D.okd] at h
  | n + 1, .ro ns, _ => by
    refine ⟨?_, ?_⟩
    · simp only [D.py, PyData.canLay0]
      exact canLayAll_of _ fun x hx => by
        obtain ⟨i, _, rfl⟩ := List.mem_map.mp hx
        simp [PyData.canLay0]
    · simp only [D.py, PyData.depth]
      have := depthAll_le (ns.map PyData.int) 0 fun x hx => by
        obtain ⟨i, _, rfl⟩ := List.mem_map.mp hx
        simp [PyData.depth]
      omega
  | n + 1, .lst ds, h => by
    have hh : ∀ d ∈ ds, d.okd n = true := by simpa [D.okd] using h
    have ih := fun d hd => okd_shape n d (hh d hd)
    refine ⟨?_, ?_⟩
    · simp only [D.py, PyData.canLay0, pyL_map]
      exact canLayAll_of _ fun x hx => by
        obtain ⟨d, hd, rfl⟩ := List.mem_map.mp hx
        exact (ih d hd).1
    · simp only [D.py, PyData.depth, pyL_map]
      have := depthAll_le (ds.map D.py) n fun x hx => by
        obtain ⟨d, hd, rfl⟩ := List.mem_map.mp hx
        exact (ih d hd).2
      omega
  | n + 1, .tup ds, h => by
    have hh : ∀ d ∈ ds, d.okd n = true := by simpa [D.okd] using h
    have ih := fun d hd => okd_shape n d (hh d hd)
    refine ⟨?_, ?_⟩
    · simp only [D.py, PyData.canLay0, pyL_map]
      exact canLayAll_of _ fun x hx => by
        obtain ⟨d, hd, rfl⟩ := List.mem_map.mp hx
        exact (ih d hd).1
    · simp only [D.py, PyData.depth, pyL_map]
      have := depthAll_le (ds.map D.py) n fun x hx => by
        obtain ⟨d, hd, rfl⟩ := List.mem_map.mp hx
        exact (ih d hd).2
      omega
theorem okd_shaped {d : D} (h : d.okd 60 = true) : SeqAt.shaped d.py = true := by
  obtain ⟨h1, h2⟩ := okd_shape 60 d h
  unfold SeqAt.shaped
  rw [h1, decide_eq_true (by omega : d.py.depth ≤ 64)]
  rfl
theorem dpAll_ints {H : Hp} : ∀ (ns : List Int), DpAll K H (ns.map V.int) (ns.map PyData.int)
  | [] => .nil
  | n :: ns => .cons (.int n) (dpAll_ints ns)
theorem dpL {S : Hp} {n : Nat} (ih : ∀ (v : V) (d : D), d.okd n = true → Rd K S v d → Dp K S v d.py) : ∀ (vs : List V) (ds : List D), (∀ d ∈ ds, d.okd n = true) → RdL K S vs ds → DpAll K S vs (pyL ds)
  | _, [], _, .nil => .nil
  | _, _ :: ds, h, .cons (vs := vs) hd r => .cons (ih _ _ (h _ List.mem_cons_self) hd) (dpL ih vs ds (fun d hd => h d (List.mem_cons_of_mem _ hd)) r)
theorem Rd.dp {S : Hp} (n : Nat) : ∀ (v : V) (d : D), d.okd n = true → Rd K S v d → Dp K S v d.py := by
  induction n with
  | zero =>
    intro v d h r
    cases r with
    | non => exact .non
    | bl b => exact .bl b
    | int i => exact .int i
    | str x => exact .str x
    | adr a => simp [D.okd] at h
    | ty a => simp [D.okd] at h
    | ro h' => simp [D.okd] at h
    | lst _ _ => simp [D.okd] at h
    | tup _ _ => simp [D.okd] at h
    | dc _ _ _ => simp [D.okd] at h
    | ob _ _ _ => simp [D.okd] at h
    | fz _ _ => simp [D.okd] at h
    | fv _ _ _ => simp [D.okd] at h
    | er _ _ _ _ => simp [D.okd] at h
  | succ n ih =>
    intro v d h r
    cases r with
    | non => exact .non
    | bl b => exact .bl b
    | int i => exact .int i
    | str x => exact .str x
    | adr a => simp [D.okd] at h
    | ty a => simp [D.okd] at h
    | ro h' => exact .lst h' (dpAll_ints _)
    | lst ha r => exact .lst (Evl.sq_of ha) (dpL ih _ _ (by simpa [D.okd] using h) r)
    | tup ha r => exact .tup (Evl.st_of ha) (dpL ih _ _ (by simpa [D.okd] using h) r)
    | dc _ _ _ => simp [D.okd] at h
    | ob _ _ _ => simp [D.okd] at h
    | fz _ _ => simp [D.okd] at h
    | fv _ _ _ => simp [D.okd] at h
    | er _ _ _ _ => simp [D.okd] at h
/-- no truth values in it: then == is equality -/
def D.sm : Nat → D → Bool
  | _, .non => true | _, .bl _ => false | _, .int _ => true | _, .str _ => true | _, .adr _ => false | _, .ty _ => false
  | 0, _ => false
  | _ + 1, .ro _ => false
  | n + 1, .lst ds => ds.all (D.sm n)
  | n + 1, .tup ds => ds.all (D.sm n)
  | _ + 1, .dc _ _ => false | _ + 1, .ob _ _ _ => false | _ + 1, .fz _ => false | _ + 1, .fv _ _ => false | _ + 1, .er _ => false
theorem eqvAll_iff {n : Nat} (ih : ∀ x y : D, x.sm n = true → y.sm n = true → (PyData.eqv x.py y.py = true ↔ x = y)) : ∀ (xs ys : List D), (∀ x ∈ xs, x.sm n = true) → (∀ y ∈ ys, y.sm n = true) → (PyData.eqvAll (pyL xs) (pyL ys) = true ↔ xs = ys)
  | [], [], _, _ => by simp [pyL, PyData.eqvAll]
  | [], _ :: _, _, _ => by simp [pyL, PyData.eqvAll]
  | _ :: _, [], _, _ => by simp [pyL, PyData.eqvAll]
  | x :: xs, y :: ys, hx, hy => by
    have h1 := ih x y (hx x List.mem_cons_self) (hy y List.mem_cons_self)
    have h2 := eqvAll_iff ih xs ys (fun z hz => hx z (List.mem_cons_of_mem _ hz)) (fun z hz => hy z (List.mem_cons_of_mem _ hz))
    simp only [pyL, PyData.eqvAll, Bool.and_eq_true, h1, h2, List.cons.injEq]
theorem eqv_iff : ∀ (n : Nat) (x y : D), x.sm n = true → y.sm n = true → (PyData.eqv x.py y.py = true ↔ x = y)
  | 0, x, y, hx, hy => by
    cases x <;> simp [D.sm] at hx <;> cases y <;> simp [D.sm] at hy <;> simp [D.py, PyData.eqv]
  | n + 1, x, y, hx, hy => by
    have ih := eqv_iff n
    cases x <;> simp [D.sm] at hx <;> cases y <;> simp [D.sm] at hy <;> simp [D.py, PyData.eqv]
    · exact eqvAll_iff ih _ _ hx hy
    · exact eqvAll_iff ih _ _ hx hy
theorem eqv_dec {x y : D} {b : Bool} (hx : x.sm 60 = true) (hy : y.sm 60 = true) (h : b = true ↔ x = y) : PyData.eqv x.py y.py = b := by
  have e := eqv_iff 60 x y hx hy
  cases b with
  | true => exact e.mpr (h.mp rfl)
  | false =>
    cases q : PyData.eqv x.py y.py with
    | false => rfl
    | true => exact absurd (h.mpr (e.mp q)) (by decide)
theorem rv_eq {x y : D} (hx : x.okd 60 = true) (hy : y.okd 60 = true) : RV K (rEqD K) x y (.bl (PyData.eqv x.py y.py)) := fun S H v u e r1 r2 Q q =>
  ⟨x.py, y.py, Rd.dp 60 _ _ hx (r1.mono e), Rd.dp 60 _ _ hy (r2.mono e), okd_shaped hx, okd_shaped hy, q _ S H (Ext.refl e) (.bl _)⟩
theorem rv_ne {x y : D} (hx : x.okd 60 = true) (hy : y.okd 60 = true) : RV K (rNeD K) x y (.bl (!PyData.eqv x.py y.py)) := fun S H v u e r1 r2 Q q =>
  ⟨x.py, y.py, Rd.dp 60 _ _ hx (r1.mono e), Rd.dp 60 _ _ hy (r2.mono e), okd_shaped hx, okd_shaped hy, q _ S H (Ext.refl e) (.bl _)⟩
/-- == and != where no truth values are in it -/
theorem rv_eqS {x y : D} {b : Bool} (hx : x.okd 60 = true) (hy : y.okd 60 = true) (sx : x.sm 60 = true) (sy : y.sm 60 = true) (h : b = true ↔ x = y) : RV K (rEqD K) x y (.bl b) := by
  rw [← eqv_dec sx sy h]
  exact rv_eq hx hy
theorem rv_neS {x y : D} {b : Bool} (hx : x.okd 60 = true) (hy : y.okd 60 = true) (sx : x.sm 60 = true) (sy : y.sm 60 = true) (h : b = true ↔ x = y) : RV K (rNeD K) x y (.bl (!b)) := by
  rw [← eqv_dec sx sy h]
  exact rv_ne hx hy
theorem rv_eqI {i j : Int} : RV K (rEqD K) (.int i) (.int j) (.bl (decide (i = j))) := rv_eqS rfl rfl rfl rfl (by rw [decide_eq_true_eq]; exact ⟨congrArg D.int, fun e => D.int.inj e⟩)
theorem rv_neI {i j : Int} : RV K (rNeD K) (.int i) (.int j) (.bl (!decide (i = j))) := rv_neS rfl rfl rfl rfl (by rw [decide_eq_true_eq]; exact ⟨congrArg D.int, fun e => D.int.inj e⟩)
theorem rv_eqB {a b : Bool} : RV K (rEqD K) (.bl a) (.bl b) (.bl (a == b)) := rv_eq rfl rfl
theorem rv_neB {a b : Bool} : RV K (rNeD K) (.bl a) (.bl b) (.bl (!(a == b))) := rv_ne rfl rfl
theorem map_int_inj {ns ms : List Int} : ns.map D.int = ms.map D.int ↔ ns = ms :=
  ⟨fun h => (List.map_inj_right (fun a b e => D.int.inj e)).mp h, fun h => h ▸ rfl⟩
theorem okd_ints {ns : List Int} : (D.lst (ns.map D.int)).okd 60 = true := by
  simp [D.okd]
theorem sm_ints {ns : List Int} : (D.lst (ns.map D.int)).sm 60 = true := by
  simp [D.sm]
theorem rv_eqInts {ns ms : List Int} : RV K (rEqD K) (.lst (ns.map D.int)) (.lst (ms.map D.int)) (.bl (decide (ns = ms))) :=
  rv_eqS okd_ints okd_ints sm_ints sm_ints (by rw [decide_eq_true_eq, D.lst.injEq, map_int_inj])
theorem rv_neInts {ns ms : List Int} : RV K (rNeD K) (.lst (ns.map D.int)) (.lst (ms.map D.int)) (.bl (!decide (ns = ms))) :=
  rv_neS okd_ints okd_ints sm_ints sm_ints (by rw [decide_eq_true_eq, D.lst.injEq, map_int_inj])

/-! ### in, of ints -/
theorem inV_ints (i : Int) (ns : List Int) : inV (.int i) (ns.map V.int) = decide (i ∈ ns) := by
  unfold inV
  induction ns with
  | nil => rfl
  | cons n ns ih =>
    rw [List.map_cons, List.any_cons, ih]
    show ((n == i) || decide (i ∈ ns)) = decide (i ∈ n :: ns)
    by_cases e : n = i
    · subst e; simp
    · have e2 : ¬ i = n := fun z => e z.symm
      simp [e, e2]
theorem flat_ints (ns : List Int) : (ns.map V.int).all flatV = true := by
  rw [List.all_map]
  exact List.all_eq_true.mpr fun _ _ => rfl
theorem rv_inL {neg : Bool} {i : Int} {ns : List Int} : RV K (rIn K neg) (.int i) (.lst (ns.map D.int)) (.bl (if neg then !decide (i ∈ ns) else decide (i ∈ ns))) := fun S H v u e r1 r2 Q q => by
  cases r1
  cases r2 with
  | lst ha rl =>
    have z := rl.ints
    subst z
    exact ⟨_, _, rfl, .inl (Evl.sq_of (e _ _ ha)), rfl, flat_ints ns, by rw [inV_ints]; exact q _ S H (Ext.refl e) (.bl _)⟩
theorem rv_inT {neg : Bool} {i : Int} {ns : List Int} : RV K (rIn K neg) (.int i) (.tup (ns.map D.int)) (.bl (if neg then !decide (i ∈ ns) else decide (i ∈ ns))) := fun S H v u e r1 r2 Q q => by
  cases r1
  cases r2 with
  | tup ha rl =>
    have z := rl.ints
    subst z
    exact ⟨_, _, rfl, .inr (Evl.st_of (e _ _ ha)), rfl, flat_ints ns, by rw [inV_ints]; exact q _ S H (Ext.refl e) (.bl _)⟩
/-- is None -/
theorem rv_isN {x : D} {b : Bool} (h : b = true ↔ x = .non) : RV K (fun x y H Q => y = .non ∧ Q (.bl (decide (x = .non))) H) x .non (.bl b) := fun S H v u e r1 r2 Q q => by
  cases r2
  refine ⟨rfl, ?_⟩
  have : decide (v = .non) = b := by
    cases r1 <;> cases b <;> simp at h ⊢
  rw [this]
  exact q _ S H (Ext.refl e) (.bl b)
theorem rv_notN {x : D} {b : Bool} (h : b = true ↔ x = .non) : RV K (fun x y H Q => y = .non ∧ Q (.bl (!decide (x = .non))) H) x .non (.bl (!b)) := fun S H v u e r1 r2 Q q => by
  cases r2
  refine ⟨rfl, ?_⟩
  have : decide (v = .non) = b := by
    cases r1 <;> cases b <;> simp at h ⊢
  rw [this]
  exact q _ S H (Ext.refl e) (.bl _)

/-! ### slices -/
def cutD (xs : List D) (lo hi : Option Int) : List D := (xs.drop (HT.sIx xs.length 0 lo)).take (HT.sIx xs.length xs.length hi - HT.sIx xs.length 0 lo)
theorem RdL.cut {S : Hp} {vs : List V} {ds : List D} (h : RdL K S vs ds) (lo hi : Option Int) : RdL K S (cutV vs lo hi) (cutD ds lo hi) := by
  unfold cutV cutD
  rw [h.length]
  exact (h.drop _).take _
def rSl (K : PySem.W.Frag) : V → Option Int → Option Int → Hp → VK → Prop := fun x lo hi H Q => rSlL K x lo hi H Q ∨ rSlT K x lo hi H Q
theorem sl_any {X : Cx} : SlR X (rSl X.K) := SlR.or sl_list sl_tup
theorem eo_no : EvO K tNoPart ρ none := fun S H σ e v Q q => q S H (Ext.refl e)
theorem eo_some {te : TE} {i : Int} (h : EvD K te ρ (.int i)) : EvO K (tPart te) ρ (some i) := fun S H σ e v Q q =>
  h S H σ e v _ fun w S1 H1 x1 r1 => by cases r1; exact ⟨i, rfl, q S1 H1 x1⟩
theorem ev_slL {te : TE} {tl th : TO} {ds : List D} {lo hi : Option Int} (h : EvD K te ρ (.lst ds)) (h1 : EvO K tl ρ lo) (h2 : EvO K th ρ hi) : EvF K (tSl (rSl K) te tl th) ρ (cutD ds lo hi) := fun S H σ e v Q q =>
  h S H σ e v _ fun w S1 H1 x1 r1 => h1 S1 H1 σ x1.sub (v.mono x1.s) _ fun S2 H2 x2 => h2 S2 H2 σ x2.sub (v.mono (x1.s.trans x2.s)) _ fun S3 H3 x3 => by
    cases r1 with
    | lst ha rl =>
      refine .inl ⟨_, _, rfl, Evl.sq_of (x3.sub _ _ (x3.s _ _ (x2.s _ _ ha))), fun p hp => ?_⟩
      exact q p _ S3 _ (((x1.trans x2).trans x3).trans (Ext.hid x3.sub hp)) (Evl.fresh_back ((x1.trans x2).trans x3).h hp) (sub_none x3.sub hp) upd_same ((rl.cut lo hi).mono (x2.s.trans x3.s))
theorem ev_slR {te : TE} {tl th : TO} {ns : List Int} {lo hi : Option Int} (h : EvD K te ρ (.ro ns)) (h1 : EvO K tl ρ lo) (h2 : EvO K th ρ hi) : EvF K (tSl (rSl K) te tl th) ρ (cutD (ns.map D.int) lo hi) := fun S H σ e v Q q =>
  h S H σ e v _ fun w S1 H1 x1 r1 => h1 S1 H1 σ x1.sub (v.mono x1.s) _ fun S2 H2 x2 => h2 S2 H2 σ x2.sub (v.mono (x1.s.trans x2.s)) _ fun S3 H3 x3 => by
    cases r1 with
    | ro ha =>
      refine .inl ⟨_, _, rfl, Evl.ex_l ((x2.s.trans x3.s).trans x3.sub) ha, fun p hp => ?_⟩
      exact q p _ S3 _ (((x1.trans x2).trans x3).trans (Ext.hid x3.sub hp)) (Evl.fresh_back ((x1.trans x2).trans x3).h hp) (sub_none x3.sub hp) upd_same ((RdL.ofInts ns).cut lo hi)
theorem ev_slT {te : TE} {tl th : TO} {ds : List D} {lo hi : Option Int} (h : EvD K te ρ (.tup ds)) (h1 : EvO K tl ρ lo) (h2 : EvO K th ρ hi) (hn : ¬ (HT.sIx ds.length 0 lo = 0 ∧ HT.sIx ds.length ds.length hi = ds.length)) : EvD K (tSl (rSl K) te tl th) ρ (.tup (cutD ds lo hi)) := fun S H σ e v Q q =>
  h S H σ e v _ fun w S1 H1 x1 r1 => h1 S1 H1 σ x1.sub (v.mono x1.s) _ fun S2 H2 x2 => h2 S2 H2 σ x2.sub (v.mono (x1.s.trans x2.s)) _ fun S3 H3 x3 => by
    cases r1 with
    | tup ha rl =>
      refine .inr ⟨_, _, rfl, Evl.st_of (x3.sub _ _ (x3.s _ _ (x2.s _ _ ha))), by rw [rl.length]; exact hn, fun p hp => ?_⟩
      exact q _ _ _ (((x1.trans x2).trans x3).trans (Ext.new x3.sub hp)) (.tup upd_same ((rl.cut lo hi).mono ((x2.s.trans x3.s).trans (Ex.new (sub_none x3.sub hp)))))
end
end Pl

/-! Values as plain data: walks, targets, list comprehensions. -/
namespace Pl
open PySem PySem.Spec PyProof.Rows L2
open Evl (Ex)

/-! ### slots, more -/
def setV : L2.St → List Nat → List V → L2.St
  | σ, i :: is, v :: vs => setV (σ.set i (some v)) is vs
  | σ, _, _ => σ
def setR : Rho → List (Nat × D) → Rho
  | ρ, p :: ps => setR (ρ.set p.1 (.k p.2)) ps
  | ρ, [] => ρ
def wipeR : Rho → List Nat → Rho
  | ρ, [] => ρ
  | ρ, v :: vs => (wipeR ρ vs).set v .u
section
variable {K : PySem.W.Frag} {S S' H H' : Hp} {σ : L2.St} {ρ : Rho}
theorem Env.set {i : Nat} {v : V} {d : D} (e : Env K S σ ρ) (r : Rd K S v d) : Env K S (σ.set i (some v)) (ρ.set i (.k d)) where
  len := by rw [List.length_set, List.length_set, e.len]
  val := fun j x h => by
    by_cases hj : i = j
    · subst hj
      by_cases hl : i < ρ.length
      · rw [List.getElem?_set_self hl] at h
        cases h
        exact ⟨v, List.getElem?_set_self (by rw [e.len]; exact hl), r⟩
      · rw [List.getElem?_eq_none (by rw [List.length_set]; omega)] at h
        cases h
    · rw [List.getElem?_set_ne hj] at h ⊢
      exact e.val j x h
theorem Env.setU {i : Nat} {v : Option V} (e : Env K S σ ρ) : Env K S (σ.set i v) (ρ.set i .u) where
  len := by rw [List.length_set, List.length_set, e.len]
  val := fun j x h => by
    by_cases hj : i = j
    · subst hj
      by_cases hl : i < ρ.length
      · rw [List.getElem?_set_self hl] at h
        cases h
      · rw [List.getElem?_eq_none (by rw [List.length_set]; omega)] at h
        cases h
    · rw [List.getElem?_set_ne hj] at h ⊢
      exact e.val j x h
theorem Env.setV : ∀ {ps : List (Nat × D)} {vs : List V} {σ : L2.St} {ρ : Rho}, Env K S σ ρ → RdL K S vs (ps.map (·.2)) → Env K S (Pl.setV σ (ps.map (·.1)) vs) (setR ρ ps)
  | [], _, _, _, e, .nil => e
  | p :: ps, _, _, _, e, .cons h r => Env.setV (ps := ps) (e.set h) r
theorem Env.wipe (e : Env K S σ ρ) : ∀ (vs : List Nat), Env K S (L2.wipe σ vs) (wipeR ρ vs)
  | [] => e
  | _ :: vs => (Env.wipe e vs).setU
theorem set_comm_none {σ : L2.St} {i j : Nat} {x : Option V} : (σ.set i x).set j none = if i = j then σ.set j none else (σ.set j none).set i x := by
  by_cases h : i = j
  · subst h
    rw [if_pos rfl, List.set_set]
  · rw [if_neg h, List.set_comm _ _ h]
theorem wipe_set {i : Nat} {x : Option V} : ∀ {vs : List Nat} {σ : L2.St}, i ∈ vs → L2.wipe (σ.set i x) vs = L2.wipe σ vs
  | v :: vs, σ, h => by
    show (L2.wipe (σ.set i x) vs).set v none = (L2.wipe σ vs).set v none
    by_cases hv : i ∈ vs
    · rw [wipe_set hv]
    · have e : i = v := by
        rcases List.mem_cons.mp h with h | h
        · exact h
        · exact absurd h hv
      subst e
      have z : ∀ (ws : List Nat) (σ : L2.St), i ∉ ws → L2.wipe (σ.set i x) ws = (L2.wipe σ ws).set i x := fun ws => by
        induction ws with
        | nil => intro σ _; rfl
        | cons w ws ih =>
          intro σ hw
          show (L2.wipe (σ.set i x) ws).set w none = ((L2.wipe σ ws).set w none).set i x
          have nw : i ≠ w := fun q => hw (by rw [q]; exact List.mem_cons_self)
          rw [ih σ fun h => hw (List.mem_cons_of_mem _ h), List.set_comm _ _ nw]
      rw [z vs σ hv, List.set_set]
theorem wipe_wipe (vs : List Nat) (σ : L2.St) : L2.wipe (L2.wipe σ vs) vs = L2.wipe σ vs := by
  have z : ∀ (ws : List Nat) (σ : L2.St), (∀ w ∈ ws, w ∈ vs) → L2.wipe (L2.wipe σ ws) vs = L2.wipe σ vs := fun ws => by
    induction ws with
    | nil => intro σ _; rfl
    | cons w ws ih =>
      intro σ h
      show L2.wipe ((L2.wipe σ ws).set w none) vs = L2.wipe σ vs
      rw [wipe_set (h w List.mem_cons_self), ih σ fun x hx => h x (List.mem_cons_of_mem _ hx)]
  exact z vs σ fun _ h => h
theorem wipe_setV {vs : List Nat} : ∀ {is : List Nat} {xs : List V} {σ : L2.St}, (∀ i ∈ is, i ∈ vs) → L2.wipe (Pl.setV σ is xs) vs = L2.wipe σ vs
  | [], _, _, _ => by rw [Pl.setV.eq_def]
  | _ :: _, [], _, _ => by rw [Pl.setV.eq_def]
  | i :: is, x :: xs, σ, h => by
    rw [Pl.setV.eq_def]
    dsimp only
    rw [wipe_setV fun j hj => h j (List.mem_cons_of_mem _ hj), wipe_set (h i List.mem_cons_self)]
end

/-! ### walks -/
section
variable (K : PySem.W.Frag)
structure Walks (J : It) (S : Hp) (ds : List D) : Prop where
  go : ∀ S' H' i, Ex S S' → Ex S' H' → i < ds.length → J.go i H'
  yld : ∀ S' H' i x H'' d, Ex S S' → Ex S' H' → ds[i]? = some d → J.yld i H' x H'' → ∃ S'', Ext S' H' S'' H'' ∧ Rd K S'' x d
  stop : ∀ S' H', Ex S S' → Ex S' H' → J.stop ds.length H'
def EvI (wi : TI) (ρ : Rho) (ds : List D) : Prop := ∀ S H σ, Ex S H → Env K S σ ρ → ∀ R : It → Hp → Prop, (∀ J S' H', Ext S H S' H' → Walks K J S' ds → R J H') → wi σ H R
/-- a target takes a datum apart: which slots it sets -/
def EvG (g : TG) (d : D) (ps : List (Nat × D)) : Prop := ∀ S H σ v, Ex S H → Rd K S v d → ∀ Q : L2.St → Hp → Prop, (∀ vs, RdL K S vs (ps.map (·.2)) → Q (setV σ (ps.map (·.1)) vs) H) → g v σ H Q
def EvGs (g : TGs) (ds : List D) (ps : List (Nat × D)) : Prop := ∀ S H σ vs, Ex S H → RdL K S vs ds → ∀ Q : L2.St → Hp → Prop, (∀ ws, RdL K S ws (ps.map (·.2)) → Q (setV σ (ps.map (·.1)) ws) H) → g vs σ H Q
end
section
variable {K : PySem.W.Frag} {ρ : Rho} {te : TE} {tA : TA}
theorem walks_list {S : Hp} {a : Addr} {xs : List V} {ds : List D} (h : S a = some (.lst xs)) (r : RdL K S xs ds) : Walks K (Itl K a) S ds where
  go := fun S' H' i e1 e2 hi => by
    have hx : i < xs.length := by rw [r.length]; exact hi
    exact ⟨xs, xs[i], Evl.sq_of (e2 _ _ (e1 _ _ h)), List.getElem?_eq_getElem hx⟩
  yld := fun S' H' i x H'' d e1 e2 hd y => by
    obtain ⟨rfl, y⟩ := y
    obtain ⟨v, h1, h2⟩ := r.get hd
    have := y xs (Evl.sq_of (e2 _ _ (e1 _ _ h)))
    rw [h1] at this
    cases this
    exact ⟨S', Ext.refl e2, h2.mono e1⟩
  stop := fun S' H' e1 e2 => ⟨xs, Evl.sq_of (e2 _ _ (e1 _ _ h)), by rw [r.length]; exact Nat.le_refl _⟩
theorem ei_list {tl : TE} {ds : List D} (h : EvD K tl ρ (.lst ds)) : EvI K (iList K tl) ρ ds := fun S H σ e v R q =>
  h S H σ e v _ fun w S1 H1 x1 r1 => by
    cases r1 with
    | lst ha rl => exact ⟨_, rfl, ⟨_, Evl.sq_of (x1.sub _ _ ha)⟩, q _ S1 H1 x1 (walks_list ha rl)⟩
theorem walks_ro {S : Hp} {a : Addr} {ns : List Int} (h : SqL K S a (ns.map V.int)) : Walks K (Itl K a) S (ns.map D.int) where
  go := fun S' H' i e1 e2 hi => by
    have hx : i < (ns.map V.int).length := by rw [List.length_map] at hi ⊢; exact hi
    exact ⟨_, (ns.map V.int)[i], Evl.ex_l (e1.trans e2) h, List.getElem?_eq_getElem hx⟩
  yld := fun S' H' i x H'' d e1 e2 hd y => by
    obtain ⟨rfl, y⟩ := y
    obtain ⟨v, h1, h2⟩ := (RdL.ofInts (K := K) (S := S') ns).get hd
    have := y _ (Evl.ex_l (e1.trans e2) h)
    rw [h1] at this
    cases this
    exact ⟨S', Ext.refl e2, h2⟩
  stop := fun S' H' e1 e2 => ⟨_, Evl.ex_l (e1.trans e2) h, by rw [List.length_map, List.length_map]; exact Nat.le_refl _⟩
theorem ei_ro {tl : TE} {ns : List Int} (h : EvD K tl ρ (.ro ns)) : EvI K (iList K tl) ρ (ns.map D.int) := fun S H σ e v R q =>
  h S H σ e v _ fun w S1 H1 x1 r1 => by
    cases r1 with
    | ro ha => exact ⟨_, rfl, ⟨_, Evl.ex_l x1.sub ha⟩, q _ S1 H1 x1 (walks_ro ha)⟩
theorem walks_tup {S : Hp} {a : Addr} {xs : List V} {ds : List D} (h : S a = some (.tup xs)) (r : RdL K S xs ds) : Walks K (Itt K a) S ds where
  go := fun S' H' i e1 e2 hi => by
    have hx : i < xs.length := by rw [r.length]; exact hi
    exact ⟨xs, xs[i], Evl.st_of (e2 _ _ (e1 _ _ h)), List.getElem?_eq_getElem hx⟩
  yld := fun S' H' i x H'' d e1 e2 hd y => by
    obtain ⟨rfl, y⟩ := y
    obtain ⟨v, h1, h2⟩ := r.get hd
    have := y xs (Evl.st_of (e2 _ _ (e1 _ _ h)))
    rw [h1] at this
    cases this
    exact ⟨S', Ext.refl e2, h2.mono e1⟩
  stop := fun S' H' e1 e2 => ⟨xs, Evl.st_of (e2 _ _ (e1 _ _ h)), by rw [r.length]; exact Nat.le_refl _⟩
theorem ei_tup {tl : TE} {ds : List D} (h : EvD K tl ρ (.tup ds)) : EvI K (iTup K tl) ρ ds := fun S H σ e v R q =>
  h S H σ e v _ fun w S1 H1 x1 r1 => by
    cases r1 with
    | tup ha rl => exact ⟨_, rfl, ⟨_, Evl.st_of (x1.sub _ _ ha)⟩, q _ S1 H1 x1 (walks_tup ha rl)⟩
/-- lo, lo + c, .. -/
def rngD (lo : Int) (n : Nat) (c : Int) : List D := (List.range n).map fun i : Nat => .int (lo + (i : Int) * c)
theorem rngD_len (lo : Int) (n : Nat) (c : Int) : (rngD lo n c).length = n := by simp [rngD]
theorem rngD_get {lo : Int} {n : Nat} {c : Int} {i : Nat} {d : D} (h : (rngD lo n c)[i]? = some d) : i < n ∧ d = .int (lo + (i : Int) * c) := by
  have hi : i < n := by
    have := (List.getElem?_eq_some_iff.mp h).1
    rw [rngD_len] at this
    exact this
  refine ⟨hi, ?_⟩
  unfold rngD at h
  rw [List.getElem?_map, List.getElem?_range hi] at h
  exact (Option.some.inj h).symm
theorem walks_rng {S : Hp} {lo : Int} {n : Nat} : Walks K (Itr lo n) S (rngD lo n 1) where
  go := fun S' H' i _ _ hi => by rw [rngD_len] at hi; exact hi
  yld := fun S' H' i x H'' d e1 e2 hd y => by
    obtain ⟨rfl, rfl⟩ := y
    obtain ⟨_, rfl⟩ := rngD_get hd
    rw [Int.mul_one]
    exact ⟨S', Ext.refl e2, .int _⟩
  stop := fun S' H' _ _ => by rw [rngD_len]; exact Nat.le_refl _
theorem ei_rng1 {j : Int} (h : EvA K tA ρ [.int j]) (hj : -100000 ≤ j ∧ j ≤ 100000) : EvI K (iRng1 tA) ρ (rngD 0 j.toNat 1) := fun S H σ e v R q =>
  h S H σ e v _ fun ws S1 H1 x1 r1 => by
    cases r1 with
    | cons h1 t1 =>
      cases t1
      cases h1
      exact ⟨j, rfl, by omega, by omega, q _ S1 H1 x1 walks_rng⟩
theorem ei_rng2 {i j : Int} (h : EvA K tA ρ [.int i, .int j]) (hj : -100000 ≤ i ∧ i ≤ 100000 ∧ -100000 ≤ j ∧ j ≤ 100000) : EvI K (iRng2 tA) ρ (rngD i (j - i).toNat 1) := fun S H σ e v R q =>
  h S H σ e v _ fun ws S1 H1 x1 r1 => by
    cases r1 with
    | cons h1 t1 =>
      cases t1 with
      | cons h2 t2 =>
        cases t2
        cases h1
        cases h2
        exact ⟨i, j, rfl, by omega, q _ S1 H1 x1 walks_rng⟩
theorem walks_rngC {S : Hp} {lo c : Int} {n : Nat} : Walks K (Itc lo c n) S (rngD lo n c) where
  go := fun S' H' i _ _ hi => by rw [rngD_len] at hi; exact hi
  yld := fun S' H' i x H'' d e1 e2 hd y => by
    obtain ⟨rfl, rfl⟩ := y
    obtain ⟨_, rfl⟩ := rngD_get hd
    exact ⟨S', Ext.refl e2, .int _⟩
  stop := fun S' H' _ _ => by rw [rngD_len]; exact Nat.le_refl _
theorem ei_rng3 {i j c : Int} {n : Nat} (h : EvA K tA ρ [.int i, .int j, .int c]) (hj : RgC i j c n) : EvI K (iRng3 tA) ρ (rngD i n c) := fun S H σ e v R q =>
  h S H σ e v _ fun ws S1 H1 x1 r1 => by
    cases r1 with
    | cons h1 t1 =>
      cases t1 with
      | cons h2 t2 =>
        cases t2 with
        | cons h3 t3 =>
          cases t3
          cases h1
          cases h2
          cases h3
          exact ⟨i, j, c, n, rfl, hj, q _ S1 H1 x1 walks_rngC⟩
/-- enumerate -/
def enumD (ds : List D) : List D := (List.range ds.length).map fun i : Nat => .tup [.int (i : Int), ds.getD i .non]
theorem enumD_len (ds : List D) : (enumD ds).length = ds.length := by simp [enumD]
theorem enumD_get {ds : List D} {i : Nat} {d : D} (h : (enumD ds)[i]? = some d) : ∃ x, ds[i]? = some x ∧ d = .tup [.int (i : Int), x] := by
  have hi : i < ds.length := by
    have := (List.getElem?_eq_some_iff.mp h).1
    rw [enumD_len] at this
    exact this
  refine ⟨ds[i], List.getElem?_eq_getElem hi, ?_⟩
  unfold enumD at h
  rw [List.getElem?_map, List.getElem?_range hi] at h
  have := (Option.some.inj h).symm
  rw [this]
  simp [hi]
theorem walks_enum {S : Hp} {a : Addr} {xs : List V} {ds : List D} (h : S a = some (.lst xs)) (r : RdL K S xs ds) : Walks K (Ite K a) S (enumD ds) where
  go := fun S' H' i e1 e2 hi => by
    have hx : i < xs.length := by rw [r.length]; rw [enumD_len] at hi; exact hi
    exact ⟨xs, xs[i], Evl.sq_of (e2 _ _ (e1 _ _ h)), List.getElem?_eq_getElem hx⟩
  yld := fun S' H' i x H'' d e1 e2 hd y => by
    obtain ⟨T, w, rfl, hT, rfl, y⟩ := y
    obtain ⟨z, hz, rfl⟩ := enumD_get hd
    obtain ⟨v, h1, h2⟩ := r.get hz
    have := y xs (Evl.sq_of (e2 _ _ (e1 _ _ h)))
    rw [h1] at this
    cases this
    exact ⟨_, Ext.new e2 hT, .tup upd_same (.cons (.int _) (.cons (h2.mono (e1.trans (Ex.new (sub_none e2 hT)))) .nil))⟩
  stop := fun S' H' e1 e2 => ⟨xs, Evl.sq_of (e2 _ _ (e1 _ _ h)), by rw [enumD_len, r.length]; exact Nat.le_refl _⟩
theorem ei_enum {ds : List D} (h : EvA K tA ρ [.lst ds]) : EvI K (iEnum K tA) ρ (enumD ds) := fun S H σ e v R q =>
  h S H σ e v _ fun ws S1 H1 x1 r1 => by
    cases r1 with
    | cons h1 t1 =>
      cases t1
      cases h1 with
      | lst ha rl => exact ⟨_, _, rfl, Evl.sq_of (x1.sub _ _ ha), q _ S1 H1 x1 (walks_enum ha rl)⟩
/-! ### targets -/
theorem eg_name {i : Nat} {d : D} : EvG K (gName i) d [(i, d)] := fun S H σ v e r Q q => q [v] (.cons r .nil)
theorem setV_append : ∀ {is js : List Nat} {vs ws : List V} {σ : L2.St}, vs.length = is.length → setV (setV σ is vs) js ws = setV σ (is ++ js) (vs ++ ws)
  | [], _, [], _, _, _ => by simp [setV]
  | i :: is, js, v :: vs, ws, σ, h => by
    show setV (setV (σ.set i (some v)) is vs) js ws = setV (σ.set i (some v)) (is ++ js) (vs ++ ws)
    exact setV_append (by simpa using h)
theorem egs_nil : EvGs K gNil [] [] := fun S H σ vs e r Q q => by
  cases r
  exact ⟨rfl, q [] .nil⟩
theorem egs_cons {g : TG} {gs : TGs} {d : D} {ds : List D} {ps qs : List (Nat × D)} (h : EvG K g d ps) (hs : EvGs K gs ds qs) : EvGs K (gCons g gs) (d :: ds) (ps ++ qs) := fun S H σ vs e r Q q => by
  cases r with
  | cons r1 r2 =>
    refine ⟨_, _, rfl, h S H σ _ e r1 _ fun ws rw1 => hs S H _ _ e r2 _ fun us ru => ?_⟩
    have := q (ws ++ us) (by rw [List.map_append]; exact rw1.append ru)
    rw [setV_append (by rw [rw1.length, List.length_map, List.length_map]), ← List.map_append]
    exact this
theorem eg_tup {n : Nat} {gs : TGs} {ds : List D} {ps : List (Nat × D)} (h : EvGs K gs ds ps) (hn : ds.length = n) : EvG K (gTup K n gs) (.tup ds) ps := fun S H σ v e r Q q => by
  cases r with
  | tup ha rl => exact ⟨_, _, rfl, Evl.st_of (e _ _ ha), by rw [rl.length]; exact hn, h S H σ _ e rl Q q⟩
theorem EvG.to {g : TG} {d : D} {ps qs : List (Nat × D)} (h : EvG K g d ps) (e : ps = qs) : EvG K g d qs := e ▸ h

/-! ### list comprehensions -/
theorem evF_lc {wi : TI} {g : TG} {tt : TT} {te : TE} {vs : List Nat} {ds : List D} (hi : EvI K wi ρ ds) (ps : D → List (Nat × D)) (f : D → Bool) (e : D → D) (hg : ∀ d ∈ ds, EvG K g d (ps d)) (hs : ∀ d ∈ ds, ∀ p ∈ ps d, p.1 ∈ vs)
    (ht : ∀ d ∈ ds, EvT K tt (setR (wipeR ρ vs) (ps d)) (f d)) (he : ∀ d ∈ ds, f d = true → EvD K te (setR (wipeR ρ vs) (ps d)) (e d)) (hl : ds.length ≤ 50000) : EvF K (tLc wi g tt te vs) ρ ((ds.filter f).map e) := fun S H σ ee v Q q =>
  hi S H σ ee v _ fun J S1 H1 x1 wk => fun Dl hD => by
    refine ⟨fun i m H' => m = ds.length - i ∧ i ≤ ds.length ∧ ∃ S' us, Ext S1 H1 S' H' ∧ S' Dl = none ∧ H' Dl = some (.lst us) ∧ RdL K S' us (((ds.take i).filter f).map e),
      ⟨ds.length, by simp, Nat.zero_le _, S1, [], Ext.hid x1.sub hD, sub_none x1.sub hD, upd_same, .nil⟩, ?_⟩
    rintro i m H' ⟨rfl, hi, S', us, x, nS, hus, rl⟩
    by_cases hlt : i < ds.length
    · refine .inr ⟨wk.go S' H' i x.s x.sub hlt, fun H2 => ∃ S2 us2, Ext S1 H1 S2 H2 ∧ S2 Dl = none ∧ H2 Dl = some (.lst us2) ∧ RdL K S2 us2 (((ds.take (i + 1)).filter f).map e), fun H2 z => ⟨ds.length - (i + 1), by omega, rfl, hlt, z⟩, fun xv H'' y => ?_⟩
      have hd : ds[i]? = some ds[i] := List.getElem?_eq_getElem hlt
      have hm : ds[i] ∈ ds := List.getElem_mem hlt
      obtain ⟨S2, x2, r2⟩ := wk.yld S' H' i xv H'' ds[i] x.s x.sub hd y
      have tk : ds.take (i + 1) = ds.take i ++ [ds[i]] := (List.take_append_getElem hlt).symm
      refine hg _ hm S2 H'' _ xv x2.sub r2 _ fun ws rws => ⟨?_, ?_⟩
      · rw [wipe_setV fun j hj => by
          obtain ⟨p, hp, rfl⟩ := List.mem_map.mp hj
          exact hs _ hm p hp, wipe_wipe]
      · have ev : Env K S2 (setV (L2.wipe σ vs) ((ps ds[i]).map (·.1)) ws) (setR (wipeR ρ vs) (ps ds[i])) := (((v.mono ((x1.s.trans x.s).trans x2.s)).wipe vs)).setV rws
        have nl : ∀ {S3 H3 : Hp}, Ext S2 H'' S3 H3 → S3 Dl = none := fun x3 => x3.dis Dl (x2.dis Dl nS (by rw [hus]; exact fun z => nomatch z)) (by rw [x2.h Dl _ hus]; exact fun z => nomatch z)
        refine ht _ hm S2 H'' _ x2.sub ev _ fun S3 H3 x3 => ?_
        cases hf : f ds[i] with
        | false =>
          refine ⟨S3, us, (x.trans x2).trans x3, nl x3, (x2.trans x3).h _ _ hus, ?_⟩
          rw [tk, List.filter_append, List.filter_cons, hf]
          simp only [Bool.false_eq_true, if_false, List.filter_nil, List.append_nil]
          exact rl.mono (x2.trans x3).s
        | true =>
          refine he _ hm hf S3 H3 _ x3.sub (ev.mono x3.s) _ fun yv S4 H4 x4 r4 => ?_
          have hu4 := (x2.trans (x3.trans x4)).h _ _ hus
          have n4 := nl (x3.trans x4)
          have ul : us.length ≤ ds.length := by
            rw [rl.length, List.length_map]
            exact Nat.le_trans (List.length_filter_le _ _) (by rw [List.length_take]; omega)
          refine ⟨us, hu4, Evl.sz_lt (by omega), S4, us ++ [yv], ?_, n4, upd_same, ?_⟩
          · have xx := (x.trans x2).trans (x3.trans x4)
            refine ⟨xx.s, fun a o ha => ?_, fun a o ha => ?_, xx.dis⟩
            · rw [upd_ne (ne_of_none ha hD)]
              exact xx.h a o ha
            · rw [upd_ne (fun z => by rw [z, n4] at ha; cases ha)]
              exact xx.sub a o ha
          · rw [tk, List.filter_append, List.filter_cons, hf]
            simp only [if_true, List.filter_nil]
            rw [List.map_append]
            exact (rl.mono (x2.trans (x3.trans x4)).s).append (.cons r4 .nil)
    · have e0 : i = ds.length := by omega
      subst e0
      rw [List.take_length] at rl
      exact .inl ⟨wk.stop S' H' x.s x.sub, q Dl us S' H' (x1.trans x) (Evl.fresh_back x1.h hD) nS hus rl⟩
end
end Pl

/-! Values as plain data: statements. A slot holds a datum (k), a list that is this def's own and may grow (o), or nothing that is known (u). -/
namespace Pl
open PySem PySem.Spec PyProof.Rows L2
open Evl (Ex)

section
variable (K : PySem.W.Frag)
structure Stt (S0 H0 : Hp) (ρ : Rho) (S H : Hp) (σ : L2.St) : Prop where
  ext : Ext S0 H0 S H
  env : Env K S σ ρ
  own : ∀ (i : Nat) (ds : List D), ρ[i]? = some (.o ds) → ∃ p vs, σ[i]? = some (some (.ref p)) ∧ H0 p = none ∧ S p = none ∧ H p = some (.lst vs) ∧ RdL K S vs ds
  apart : ∀ (i j : Nat) (ds es : List D) (p : Addr), ρ[i]? = some (.o ds) → ρ[j]? = some (.o es) → σ[i]? = some (some (.ref p)) → σ[j]? = some (some (.ref p)) → i = j
structure FE where
  nx : Rho → Prop := fun _ => False
  rt : D → Prop := fun _ => False
  rf : List D → Prop := fun _ => False
  bk : Rho → Prop := fun _ => False
  ct : Rho → Prop := fun _ => False
structure Acc (S0 H0 S : Hp) (F : FE) (Dd : Ends) : Prop where
  nx : ∀ ρ S' H' σ, F.nx ρ → Ex S S' → Stt K S0 H0 ρ S' H' σ → Dd.nx σ H'
  bk : ∀ ρ S' H' σ, F.bk ρ → Ex S S' → Stt K S0 H0 ρ S' H' σ → Dd.bk σ H'
  ct : ∀ ρ S' H' σ, F.ct ρ → Ex S S' → Stt K S0 H0 ρ S' H' σ → Dd.ct σ H'
  rt : ∀ d v S' H', F.rt d → Ext S0 H0 S' H' → Rd K S' v d → Dd.rt v H'
  rf : ∀ es p vs S' H', F.rf es → Ext S0 H0 S' H' → H0 p = none → S' p = none → H' p = some (.lst vs) → RdL K S' vs es → Dd.rt (.ref p) H'
/-- from slots ρ the statement comes to one of the ends F -/
def T (t : TS) (ρ : Rho) (F : FE) : Prop := ∀ S0 H0 S H σ Dd, Stt K S0 H0 ρ S H σ → Acc K S0 H0 S F Dd → t Dd σ H
end

section
variable {K : PySem.W.Frag} {S0 H0 S H S' H' : Hp} {σ : L2.St} {ρ ρ' : Rho} {F G : FE} {t u : TS} {te : TE} {d : D} {es ds : List D} {Dd : Ends} {i : Nat}
theorem Acc.mono (e : Ex S S') (a : Acc K S0 H0 S F Dd) : Acc K S0 H0 S' F Dd :=
  ⟨fun ρ S2 H2 σ h x s => a.nx ρ S2 H2 σ h (e.trans x) s, fun ρ S2 H2 σ h x s => a.bk ρ S2 H2 σ h (e.trans x) s, fun ρ S2 H2 σ h x s => a.ct ρ S2 H2 σ h (e.trans x) s, a.rt, a.rf⟩
/-- further on, all slots as they are -/
theorem Stt.go (s : Stt K S0 H0 ρ S H σ) (x : Ext S H S' H') : Stt K S0 H0 ρ S' H' σ where
  ext := s.ext.trans x
  env := s.env.mono x.s
  own := fun i ds h => by
    obtain ⟨p, vs, h1, h2, h3, h4, h5⟩ := s.own i ds h
    exact ⟨p, vs, h1, h2, x.dis p h3 (by rw [h4]; exact fun z => nomatch z), x.h _ _ h4, h5.mono x.s⟩
  apart := s.apart
theorem get_set {α : Type} {l : List α} {i j : Nat} {a b : α} (h : (l.set i a)[j]? = some b) : (i = j ∧ i < l.length ∧ a = b) ∨ (i ≠ j ∧ l[j]? = some b) := by
  by_cases hj : i = j
  · subst hj
    by_cases hl : i < l.length
    · rw [List.getElem?_set_self hl] at h
      exact .inl ⟨rfl, hl, Option.some.inj h⟩
    · rw [List.getElem?_eq_none (by rw [List.length_set]; omega)] at h
      cases h
  · rw [List.getElem?_set_ne hj] at h
    exact .inr ⟨hj, h⟩
theorem Stt.set {v : V} (s : Stt K S0 H0 ρ S H σ) (r : Rd K S v d) : Stt K S0 H0 (ρ.set i (.k d)) S H (σ.set i (some v)) where
  ext := s.ext
  env := s.env.set r
  own := fun j ds h => by
    rcases get_set h with ⟨_, _, e⟩ | ⟨hj, h⟩
    · cases e
    · rw [List.getElem?_set_ne hj]
      exact s.own j ds h
  apart := fun j k ds es p h1 h2 e1 e2 => by
    rcases get_set h1 with ⟨_, _, e⟩ | ⟨hj, h1⟩
    · cases e
    · rcases get_set h2 with ⟨_, _, e⟩ | ⟨hk, h2⟩
      · cases e
      · rw [List.getElem?_set_ne hj] at e1
        rw [List.getElem?_set_ne hk] at e2
        exact s.apart j k ds es p h1 h2 e1 e2
theorem Stt.setV : ∀ {ps : List (Nat × D)} {vs : List V} {σ : L2.St} {ρ : Rho}, Stt K S0 H0 ρ S H σ → RdL K S vs (ps.map (·.2)) → Stt K S0 H0 (setR ρ ps) S H (Pl.setV σ (ps.map (·.1)) vs)
  | [], _, _, _, s, .nil => s
  | p :: ps, _, _, _, s, .cons h r => Stt.setV (ps := ps) (s.set h) r
theorem Stt.setO {p : Addr} {vs : List V} (s : Stt K S0 H0 ρ S H σ) (h0 : H0 p = none) (n : S p = none) (h : H p = some (.lst vs)) (r : RdL K S vs es)
    (new : ∀ j ds, j ≠ i → ρ[j]? = some (.o ds) → σ[j]? ≠ some (some (.ref p))) : Stt K S0 H0 (ρ.set i (.o es)) S H (σ.set i (some (.ref p))) where
  ext := s.ext
  env := ⟨by rw [List.length_set, List.length_set, s.env.len], fun j x h => by
    rcases get_set h with ⟨_, _, e⟩ | ⟨hj, h⟩
    · cases e
    · rw [List.getElem?_set_ne hj]
      exact s.env.val j x h⟩
  own := fun j ds hh => by
    rcases get_set hh with ⟨rfl, hl, e⟩ | ⟨hj, hh⟩
    · cases e
      exact ⟨p, vs, List.getElem?_set_self (by rw [s.env.len]; exact hl), h0, n, h, r⟩
    · rw [List.getElem?_set_ne hj]
      exact s.own j ds hh
  apart := fun j k ds es' q h1 h2 e1 e2 => by
    rcases get_set h1 with ⟨rfl, hl, e⟩ | ⟨hj, h1⟩
    · rcases get_set h2 with ⟨rfl, _, _⟩ | ⟨hk, h2⟩
      · rfl
      · rw [List.getElem?_set_self (by rw [s.env.len]; exact hl)] at e1
        cases e1
        rw [List.getElem?_set_ne hk] at e2
        exact absurd e2 (new k _ (Ne.symm hk) h2)
    · rw [List.getElem?_set_ne hj] at e1
      rcases get_set h2 with ⟨rfl, hl, e⟩ | ⟨hk, h2⟩
      · rw [List.getElem?_set_self (by rw [s.env.len]; exact hl)] at e2
        cases e2
        exact absurd e1 (new j _ (Ne.symm hj) h1)
      · rw [List.getElem?_set_ne hk] at e2
        exact s.apart j k ds es' q h1 h2 e1 e2
/-- a list that is no more changed -/
theorem Stt.freeze (s : Stt K S0 H0 ρ S H σ) (h : ρ[i]? = some (.o ds)) : ∃ S', Ex S S' ∧ Stt K S0 H0 (ρ.set i (.k (.lst ds))) S' H σ := by
  obtain ⟨p, vs, h1, h2, h3, h4, h5⟩ := s.own i ds h
  have x : Ext S0 H0 (upd S p (.lst vs)) H := s.ext.tell h3 h2 h4
  have e : Ex S (upd S p (.lst vs)) := Ex.new h3
  refine ⟨_, e, x, ⟨by rw [List.length_set, s.env.len], fun j y hh => ?_⟩, fun j es hh => ?_, fun j k a b q e1 e2 e3 e4 => ?_⟩
  · rcases get_set hh with ⟨rfl, _, e'⟩ | ⟨_, hh⟩
    · cases e'
      exact ⟨_, h1, .lst upd_same (h5.mono e)⟩
    · obtain ⟨w, w1, w2⟩ := s.env.val j y hh
      exact ⟨w, w1, w2.mono e⟩
  · rcases get_set hh with ⟨_, _, e'⟩ | ⟨hj, hh⟩
    · cases e'
    · obtain ⟨q, us, g1, g2, g3, g4, g5⟩ := s.own j es hh
      refine ⟨q, us, g1, g2, ?_, g4, g5.mono e⟩
      have nq : q ≠ p := fun z => hj (s.apart i j ds es p h hh h1 (by rw [← z]; exact g1))
      rw [upd_ne nq]
      exact g3
  · rcases get_set e1 with ⟨_, _, e'⟩ | ⟨_, e1⟩
    · cases e'
    · rcases get_set e2 with ⟨_, _, e'⟩ | ⟨_, e2⟩
      · cases e'
      · exact s.apart j k a b q e1 e2 e3 e4
/-! ### rules -/
theorem T.freeze (h : ρ[i]? = some (.o ds)) (k : T K t (ρ.set i (.k (.lst ds))) F) : T K t ρ F := fun S0 H0 S H σ Dd s a => by
  obtain ⟨S', e, s'⟩ := s.freeze h
  exact k S0 H0 S' H σ Dd s' (a.mono e)
theorem T.weak (k : T K t ρ F) (n : ∀ ρ, F.nx ρ → G.nx ρ) (r : ∀ d, F.rt d → G.rt d) (f : ∀ d, F.rf d → G.rf d) (b : ∀ ρ, F.bk ρ → G.bk ρ) (c : ∀ ρ, F.ct ρ → G.ct ρ) : T K t ρ G := fun S0 H0 S H σ Dd s a =>
  k S0 H0 S H σ Dd s ⟨fun ρ S' H' σ h => a.nx ρ S' H' σ (n ρ h), fun ρ S' H' σ h => a.bk ρ S' H' σ (b ρ h), fun ρ S' H' σ h => a.ct ρ S' H' σ (c ρ h), fun d v S' H' h => a.rt d v S' H' (r d h), fun es p vs S' H' h => a.rf es p vs S' H' (f es h)⟩
theorem T.seqP {N : Rho → Prop} (h : T K t ρ { F with nx := N }) (k : ∀ ρ', N ρ' → T K u ρ' F) : T K (tSeq t u) ρ F := fun S0 H0 S H σ Dd s a =>
  h S0 H0 S H σ { Dd with nx := u Dd } s ⟨fun ρ' S' H' σ' n e s' => k ρ' n S0 H0 S' H' σ' Dd s' (a.mono e), a.bk, a.ct, a.rt, a.rf⟩
theorem T.seq {ρ1 : Rho} (h : T K t ρ { F with nx := fun r => r = ρ1 }) (k : T K u ρ1 F) : T K (tSeq t u) ρ F := T.seqP h fun _ e => e ▸ k
theorem T.next (h : F.nx ρ) : T K tNext ρ F := fun S0 H0 S H σ Dd s a => a.nx ρ S H σ h (Ex.refl S) s
theorem T.brk (h : F.bk ρ) : T K tBreak ρ F := fun S0 H0 S H σ Dd s a => a.bk ρ S H σ h (Ex.refl S) s
theorem T.cont (h : F.ct ρ) : T K tCont ρ F := fun S0 H0 S H σ Dd s a => a.ct ρ S H σ h (Ex.refl S) s
theorem T.asgG {g : TG} {ps : List (Nat × D)} (h : EvD K te ρ d) (hg : EvG K g d ps) (k : F.nx (setR ρ ps)) : T K (tAsg te g) ρ F := fun S0 H0 S H σ Dd s a =>
  h S H σ s.ext.sub s.env _ fun v S' H' x r => hg S' H' σ v x.sub r _ fun vs rv => a.nx _ S' H' _ k x.s ((s.go x).setV rv)
theorem T.asg (h : EvD K te ρ d) (k : F.nx (ρ.set i (.k d))) : T K (tAsg te (gName i)) ρ F := T.asgG h eg_name k
theorem T.asgF (h : EvF K te ρ es) (k : F.nx (ρ.set i (.o es))) : T K (tAsg te (gName i)) ρ F := fun S0 H0 S H σ Dd s a =>
  h S H σ s.ext.sub s.env _ fun p vs S' H' x hp sp h' r => a.nx _ S' H' _ k x.s ((s.go x).setO (Evl.fresh_back s.ext.h hp) sp h' r fun j ds _ hh e => by
    obtain ⟨q, us, g1, g2, g3, g4, g5⟩ := s.own j ds hh
    rw [g1] at e
    cases e
    rw [hp] at g4
    cases g4)
theorem T.drop (h : EvD K te ρ d) (k : F.nx ρ) : T K (tDrop te) ρ F := fun S0 H0 S H σ Dd s a =>
  h S H σ s.ext.sub s.env _ fun v S' H' x r => a.nx _ S' H' _ k x.s (s.go x)
theorem T.ret (h : EvD K te ρ d) (k : F.rt d) : T K (tRet te) ρ F := fun S0 H0 S H σ Dd s a =>
  h S H σ s.ext.sub s.env _ fun v S' H' x r => a.rt d v S' H' k (s.ext.trans x) r
theorem T.retN (k : F.rt .non) : T K tRetN ρ F := fun S0 H0 S H σ Dd s a => a.rt .non .non S H k s.ext .non
theorem T.retF (h : EvF K te ρ es) (k : F.rf es) : T K (tRet te) ρ F := fun S0 H0 S H σ Dd s a =>
  h S H σ s.ext.sub s.env _ fun p vs S' H' x hp sp h' r => a.rf es p vs S' H' k (s.ext.trans x) (Evl.fresh_back s.ext.h hp) sp h' r
theorem T.retO (h : ρ[i]? = some (.o es)) (k : F.rf es) : T K (tRet (tVar i)) ρ F := fun S0 H0 S H σ Dd s a => by
  obtain ⟨p, vs, h1, h2, h3, h4, h5⟩ := s.own i es h
  exact ⟨_, h1, a.rf es p vs S H k s.ext h2 h3 h4 h5⟩
theorem T.ifS {c : TT} {b : Bool} (h : EvT K c ρ b) (h1 : b = true → T K t ρ F) (h2 : b = false → T K u ρ F) : T K (tIfS c t u) ρ F := fun S0 H0 S H σ Dd s a =>
  h S H σ s.ext.sub s.env _ fun S' H' x => by
    cases b with
    | true =>
      show t Dd σ H'
      exact h1 rfl S0 H0 S' H' σ Dd (s.go x) (a.mono x.s)
    | false =>
      show u Dd σ H'
      exact h2 rfl S0 H0 S' H' σ Dd (s.go x) (a.mono x.s)
/-- for: the word by the turn and the slots -/
theorem T.for {wi : TI} {g : TG} (hi : EvI K wi ρ ds) (Pv : Nat → Rho → Prop) (h0 : Pv 0 ρ) (hs : ∀ (i : Nat) (d : D) (ρ' : Rho), ds[i]? = some d → Pv i ρ' → ∃ ps, EvG K g d ps ∧ T K t (setR ρ' ps) { F with nx := Pv (i + 1), ct := Pv (i + 1), bk := F.nx })
    (hd : ∀ ρ', Pv ds.length ρ' → F.nx ρ') : T K (tFor wi g t) ρ F := fun S0 H0 S H σ Dd s a =>
  hi S H σ s.ext.sub s.env _ fun J S1 H1 x1 wk => by
    refine ⟨fun i m σ' H' => m = ds.length - i ∧ i ≤ ds.length ∧ ∃ ρ' S', Pv i ρ' ∧ Ex S1 S' ∧ Stt K S0 H0 ρ' S' H' σ', ⟨ds.length, by simp, Nat.zero_le _, ρ, S1, h0, Ex.refl S1, s.go x1⟩, ?_⟩
    rintro i m σ' H' ⟨rfl, hi, ρ', S', p, e, s'⟩
    by_cases hlt : i < ds.length
    · have hdd : ds[i]? = some ds[i] := List.getElem?_eq_getElem hlt
      obtain ⟨ps, hg, ht⟩ := hs i ds[i] ρ' hdd p
      refine .inr ⟨wk.go S' H' i e s'.ext.sub hlt, fun σ2 H2 => ∃ ρ2 S2, Pv (i + 1) ρ2 ∧ Ex S1 S2 ∧ Stt K S0 H0 ρ2 S2 H2 σ2, fun σ2 H2 z => ⟨ds.length - (i + 1), by omega, rfl, hlt, z⟩, fun xv H'' y => ?_⟩
      obtain ⟨S2, x2, r2⟩ := wk.yld S' H' i xv H'' ds[i] e s'.ext.sub hdd y
      refine hg S2 H'' σ' xv x2.sub r2 _ fun ws rw => ?_
      have e2 : Ex S1 S2 := e.trans x2.s
      refine ht S0 H0 S2 H'' _ _ ((s'.go x2).setV rw) ⟨fun ρ3 S3 H3 σ3 n e3 s3 => ⟨ρ3, S3, n, e2.trans e3, s3⟩, fun ρ3 S3 H3 σ3 n e3 s3 => a.nx ρ3 S3 H3 σ3 n ((x1.s.trans e2).trans e3) s3, fun ρ3 S3 H3 σ3 n e3 s3 => ⟨ρ3, S3, n, e2.trans e3, s3⟩, a.rt, a.rf⟩
    · have e0 : i = ds.length := by omega
      subst e0
      exact .inl ⟨wk.stop S' H' e s'.ext.sub, a.nx ρ' S' H' σ' (hd ρ' p) (x1.s.trans e) s'⟩
theorem T.while {c : TT} (Pv : Nat → Rho → Prop) {m0 : Nat} (h0 : Pv m0 ρ) (hs : ∀ (m : Nat) (ρ' : Rho), Pv m ρ' → ∃ b, EvT K c ρ' b ∧ (b = true → T K t ρ' { F with nx := fun r => ∃ m', m' < m ∧ Pv m' r, ct := fun r => ∃ m', m' < m ∧ Pv m' r, bk := F.nx }) ∧ (b = false → F.nx ρ')) :
    T K (tWhile c t) ρ F := fun S0 H0 S H σ Dd s a => by
  refine ⟨fun m σ' H' => ∃ ρ' S', Pv m ρ' ∧ Ex S S' ∧ Stt K S0 H0 ρ' S' H' σ', ⟨m0, ρ, S, h0, Ex.refl S, s⟩, ?_⟩
  rintro m σ' H' ⟨ρ', S', p, e, s'⟩
  obtain ⟨b, hb, h1, h2⟩ := hs m ρ' p
  refine hb S' H' σ' s'.ext.sub s'.env _ fun S2 H2 x2 => ?_
  cases b with
  | true =>
    refine ⟨fun σ3 H3 => ∃ m', m' < m ∧ ∃ ρ3 S3, Pv m' ρ3 ∧ Ex S S3 ∧ Stt K S0 H0 ρ3 S3 H3 σ3, fun σ3 H3 z => z, ?_⟩
    have e2 := e.trans x2.s
    exact h1 rfl S0 H0 S2 H2 σ' _ (s'.go x2) ⟨fun ρ3 S3 H3 σ3 ⟨m', l, n⟩ e3 s3 => ⟨m', l, ρ3, S3, n, e2.trans e3, s3⟩, fun ρ3 S3 H3 σ3 n e3 s3 => a.nx ρ3 S3 H3 σ3 n (e2.trans e3) s3, fun ρ3 S3 H3 σ3 ⟨m', l, n⟩ e3 s3 => ⟨m', l, ρ3, S3, n, e2.trans e3, s3⟩, a.rt, a.rf⟩
  | false => exact a.nx ρ' S2 H2 σ' (h2 rfl) (e.trans x2.s) (s'.go x2)
/-! ### own lists -/
/-- own list at slot i gets the content es -/
theorem Stt.put {p : Addr} {vs ws : List V} (s : Stt K S0 H0 ρ S H σ) (h : ρ[i]? = some (.o ds)) (hp : σ[i]? = some (some (.ref p))) (r : RdL K S ws es) : Stt K S0 H0 (ρ.set i (.o es)) S (upd H p (.lst ws)) σ := by
  obtain ⟨q, us, h1, h2, h3, h4, h5⟩ := s.own i ds h
  rw [hp] at h1
  cases h1
  have hi : i < ρ.length := (List.getElem?_eq_some_iff.mp h).1
  have nx : ∀ {a : Addr} {o : HO}, S a = some o → a ≠ p := fun e z => by rw [z, h3] at e; cases e
  refine ⟨⟨s.ext.s, fun a o e => ?_, fun a o e => ?_, s.ext.dis⟩, ⟨by rw [List.length_set, s.env.len], fun j y hh => ?_⟩, fun j fs hh => ?_, fun j k a b q e1 e2 e3 e4 => ?_⟩
  · rw [upd_ne fun z => by rw [z, h2] at e; cases e]
    exact s.ext.h a o e
  · rw [upd_ne (nx e)]
    exact s.ext.sub a o e
  · rcases get_set hh with ⟨_, _, e'⟩ | ⟨_, hh⟩
    · cases e'
    · exact s.env.val j y hh
  · rcases get_set hh with ⟨rfl, _, e'⟩ | ⟨hj, hh⟩
    · cases e'
      exact ⟨p, ws, hp, h2, h3, upd_same, r⟩
    · obtain ⟨q, us', g1, g2, g3, g4, g5⟩ := s.own j fs hh
      refine ⟨q, us', g1, g2, g3, ?_, g5⟩
      have nq : q ≠ p := fun z => hj (s.apart i j ds fs p h hh hp (by rw [← z]; exact g1))
      rw [upd_ne nq]
      exact g4
  · have z : ∀ {j : Nat} {a : List D}, (ρ.set i (.o es))[j]? = some (.o a) → ∃ a', ρ[j]? = some (.o a') := fun {j a} e => by
      rcases get_set e with ⟨rfl, _, _⟩ | ⟨_, e⟩
      · exact ⟨ds, h⟩
      · exact ⟨a, e⟩
    obtain ⟨a', e1'⟩ := z e1
    obtain ⟨b', e2'⟩ := z e2
    exact s.apart j k a' b' q e1' e2' e3 e4
theorem T.append (h : ρ[i]? = some (.o ds)) (he : EvD K te ρ d) (hl : ds.length < 100000) (k : F.nx (ρ.set i (.o (ds ++ [d])))) : T K (tDrop (tBM K "list" rAppend (tVar i) (tCons te tNil))) ρ F := fun S0 H0 S H σ Dd s a => by
  obtain ⟨p, vs, h1, h2, h3, h4, h5⟩ := s.own i ds h
  refine ⟨_, h1, .inl ⟨rfl, _, Evl.sq_of h4⟩, ?_⟩
  refine he S H σ s.ext.sub s.env _ fun v S' H' x r => ?_
  have s' := s.go x
  refine ⟨p, vs, v, rfl, rfl, x.h _ _ h4, Evl.sz_lt (by rw [h5.length]; exact hl), ?_⟩
  exact a.nx _ S' _ σ k x.s (s'.put (vs := vs) h h1 ((h5.mono x.s).append (.cons r .nil)))
/-! ### a look at own lists: all that is told is flat -/
def Sl.see : Sl → Sl
  | .o ds => .k (.lst ds)
  | s => s
def see (ρ : Rho) : Rho := ρ.map Sl.see
def D.flat : D → Bool
  | .non => true | .bl _ => true | .int _ => true | .str _ => true | .adr _ => true | .ty _ => true
  | _ => false
theorem Rd.flat {v : V} {S2 : Hp} (h : Rd K S v d) (f : d.flat = true) : Rd K S2 v d := by
  cases h <;> first | (simp [D.flat] at f; done) | constructor
theorem RdL.flat {S2 : Hp} : ∀ {vs : List V} {ds : List D}, RdL K S vs ds → (∀ d ∈ ds, d.flat = true) → RdL K S2 vs ds
  | _, _, .nil, _ => .nil
  | _, _, .cons h r, f => .cons (h.flat (f _ List.mem_cons_self)) (RdL.flat r fun d hd => f d (List.mem_cons_of_mem _ hd))
def Owns (ρ : Rho) (σ : L2.St) (p : Addr) : Prop := ∃ (i : Nat) (ds : List D), ρ[i]? = some (.o ds) ∧ σ[i]? = some (some (.ref p))
open Classical in
noncomputable def withOwn (ρ : Rho) (σ : L2.St) (S H : Hp) : Hp := fun a => match S a with
  | some o => some o
  | none => if Owns ρ σ a then H a else none
open Classical in
noncomputable def woOwn (ρ : Rho) (σ : L2.St) (S : Hp) : Hp := fun a => if Owns ρ σ a then none else S a
theorem Stt.see (s : Stt K S0 H0 ρ S H σ) : Ex (withOwn ρ σ S H) H ∧ Env K (withOwn ρ σ S H) σ (see ρ) ∧ ∀ S' H', Ext (withOwn ρ σ S H) H S' H' → Ex S (woOwn ρ σ S') ∧ Stt K S0 H0 ρ (woOwn ρ σ S') H' σ := by
  have e1 : Ex S (withOwn ρ σ S H) := fun a o e => by unfold withOwn; rw [e]
  have e2 : Ex (withOwn ρ σ S H) H := fun a o e => by
    unfold withOwn at e
    cases q : S a with
    | some w => rw [q] at e; cases e; exact s.ext.sub a _ q
    | none =>
      rw [q] at e
      dsimp only at e
      split at e
      · exact e
      · cases e
  have no : ∀ a, Owns ρ σ a → S a = none := fun a ⟨i, ds, h1, h2⟩ => by
    obtain ⟨p, vs, g1, g2, g3, g4, g5⟩ := s.own i ds h1
    rw [g1] at h2
    cases h2
    exact g3
  refine ⟨e2, ⟨?_, fun i d h => ?_⟩, fun S' H' x => ?_⟩
  · unfold Pl.see; rw [List.length_map]; exact s.env.len
  · unfold Pl.see at h
    rw [List.getElem?_map] at h
    cases q : ρ[i]? with
    | none => rw [q] at h; cases h
    | some z =>
      rw [q] at h
      cases z with
      | u => cases h
      | k d' =>
        cases h
        obtain ⟨v, h1, h2⟩ := s.env.val i _ q
        exact ⟨v, h1, h2.mono e1⟩
      | o ds =>
        cases h
        obtain ⟨p, vs, g1, g2, g3, g4, g5⟩ := s.own i ds q
        refine ⟨_, g1, .lst ?_ (g5.mono e1)⟩
        unfold withOwn
        rw [g3]
        dsimp only
        rw [if_pos ⟨i, ds, q, g1⟩]
        exact g4
  · have eS : Ex S (woOwn ρ σ S') := fun a o e => by
      unfold woOwn
      rw [if_neg fun z => by rw [no a z] at e; cases e]
      exact x.s a o (e1 a o e)
    refine ⟨eS, ⟨s.ext.s.trans eS, s.ext.h.trans x.h, fun a o e => ?_, fun a h1 h2 => ?_⟩, s.env.mono eS, fun i ds h => ?_, s.apart⟩
    · unfold woOwn at e
      split at e
      · cases e
      · exact x.sub a o e
    · unfold woOwn
      split
      · rfl
      · rename_i hn
        refine x.dis a ?_ fun z => ?_
        · unfold withOwn
          rw [s.ext.dis a h1 h2]
          dsimp only
          rw [if_neg hn]
        · cases q : H0 a with
          | none => exact h2 q
          | some o => rw [s.ext.h a o q] at z; cases z
    · obtain ⟨p, vs, g1, g2, g3, g4, g5⟩ := s.own i ds h
      refine ⟨p, vs, g1, g2, ?_, x.h _ _ g4, g5.mono eS⟩
      unfold woOwn
      rw [if_pos ⟨i, ds, h, g1⟩]
theorem T.ifV {c : TT} {b : Bool} (h : EvT K c (see ρ) b) (h1 : b = true → T K t ρ F) (h2 : b = false → T K u ρ F) : T K (tIfS c t u) ρ F := fun S0 H0 S H σ Dd s a => by
  obtain ⟨e, v, w⟩ := s.see
  refine h _ H σ e v _ fun S' H' x => ?_
  obtain ⟨eS, s'⟩ := w S' H' x
  cases b with
  | true =>
    show t Dd σ H'
    exact h1 rfl S0 H0 _ H' σ Dd s' (a.mono eS)
  | false =>
    show u Dd σ H'
    exact h2 rfl S0 H0 _ H' σ Dd s' (a.mono eS)
theorem T.asgV {g : TG} {ps : List (Nat × D)} (h : EvD K te (see ρ) d) (hg : EvG K g d ps) (hf : ∀ p ∈ ps, p.2.flat = true) (k : F.nx (setR ρ ps)) : T K (tAsg te g) ρ F := fun S0 H0 S H σ Dd s a => by
  obtain ⟨e, v, w⟩ := s.see
  refine h _ H σ e v _ fun x S' H' xx r => hg S' H' σ x xx.sub r _ fun vs rv => ?_
  obtain ⟨eS, s'⟩ := w S' H' xx
  exact a.nx _ _ H' _ k eS (s'.setV (rv.flat fun d hd => by
    obtain ⟨p, hp, rfl⟩ := List.mem_map.mp hd
    exact hf p hp))
theorem T.retV (h : EvD K te (see ρ) d) (hf : d.flat = true) (k : F.rt d) : T K (tRet te) ρ F := fun S0 H0 S H σ Dd s a => by
  obtain ⟨e, v, w⟩ := s.see
  refine h _ H σ e v _ fun x S' H' xx r => ?_
  obtain ⟨eS, s'⟩ := w S' H' xx
  exact a.rt d x _ H' k s'.ext (r.flat hf)
theorem T.appendV (h : ρ[i]? = some (.o ds)) (he : EvD K te (see ρ) d) (hf : d.flat = true) (hl : ds.length < 100000) (k : F.nx (ρ.set i (.o (ds ++ [d])))) : T K (tDrop (tBM K "list" rAppend (tVar i) (tCons te tNil))) ρ F := fun S0 H0 S H σ Dd s a => by
  obtain ⟨e, v, w⟩ := s.see
  obtain ⟨p, vs, h1, h2, h3, h4, h5⟩ := s.own i ds h
  refine ⟨_, h1, .inl ⟨rfl, _, Evl.sq_of h4⟩, ?_⟩
  refine he _ H σ e v _ fun x S' H' xx r => ?_
  obtain ⟨eS, s'⟩ := w S' H' xx
  refine ⟨p, vs, x, rfl, rfl, xx.h _ _ h4, Evl.sz_lt (by rw [h5.length]; exact hl), ?_⟩
  exact a.nx _ _ _ σ k eS (s'.put (vs := vs) h h1 ((h5.mono eS).append (.cons (r.flat hf) .nil)))
/-- xs[k] = e -/
theorem T.setV {ti : TE} {k j : Nat} (h : ρ[i]? = some (.o ds)) (he : EvD K te (see ρ) d) (hf : d.flat = true) (hi : EvD K ti (see ρ) (.int (j : Int))) (hj : j < ds.length) (k : F.nx (ρ.set i (.o (ds.set j d)))) : T K (tAsg te (gSub (tVar i) ti rSetL)) ρ F := fun S0 H0 S H σ Dd s a => by
  obtain ⟨e, v, w⟩ := s.see
  obtain ⟨p, vs, h1, h2, h3, h4, h5⟩ := s.own i ds h
  refine he _ H σ e v _ fun x S1 H1 x1 r1 => ⟨_, h1, ?_⟩
  refine hi S1 H1 σ x1.sub (v.mono x1.s) _ fun y S2 H2 x2 r2 => ?_
  cases r2
  obtain ⟨eS, s'⟩ := w S2 H2 (x1.trans x2)
  refine ⟨p, vs, _, j, rfl, rfl, (x1.trans x2).h _ _ h4, ?_, ?_⟩
  · unfold ixN
    rw [h5.length]
    have hz : ¬ ((j : Int) < 0) := by omega
    first
      | (rw [if_neg hz]; simp [hj]; done)
      | (simp [hj]; done)
      | (simp [hz, hj]; omega)
  · exact a.nx _ _ _ σ k eS (s'.put (vs := vs) h h1 (RdL.set (r1.flat hf) _ (h5.mono eS)))
end

/-! ### a def -/
def startR (n : Nat) (ds : List D) : Rho := ds.map Sl.k ++ List.replicate (n - ds.length) .u
section
variable {K : PySem.W.Frag} {t : TS} {N : List Str}
theorem stt_start {S H : Hp} {vs : List V} {ds : List D} (e : Ex S H) (r : RdL K S vs ds) : Stt K S H (startR N.length ds) S H (L2.start N vs) where
  ext := Ext.refl e
  env := ⟨by unfold L2.start startR; rw [List.length_append, List.length_append, List.length_map, List.length_map, List.length_replicate, List.length_replicate, r.length], fun i d h => by
    unfold startR at h
    unfold L2.start
    by_cases hi : i < ds.length
    · rw [List.getElem?_append_left (by rw [List.length_map]; exact hi), List.getElem?_map, List.getElem?_eq_getElem hi] at h
      cases h
      obtain ⟨v, h1, h2⟩ := r.get (List.getElem?_eq_getElem hi)
      exact ⟨v, by rw [List.getElem?_append_left (by rw [List.length_map, r.length]; exact hi), List.getElem?_map, h1]; rfl, h2⟩
    · rw [List.getElem?_append_right (by rw [List.length_map]; omega), List.getElem?_replicate] at h
      split at h <;> cases h⟩
  own := fun i ds' h => by
    unfold startR at h
    by_cases hi : i < ds.length
    · rw [List.getElem?_append_left (by rw [List.length_map]; exact hi), List.getElem?_map, List.getElem?_eq_getElem hi] at h
      cases h
    · rw [List.getElem?_append_right (by rw [List.length_map]; omega), List.getElem?_replicate] at h
      split at h <;> cases h
  apart := fun i j a b p h => by
    unfold startR at h
    by_cases hi : i < ds.length
    · rw [List.getElem?_append_left (by rw [List.length_map]; exact hi), List.getElem?_map, List.getElem?_eq_getElem hi] at h
      cases h
    · rw [List.getElem?_append_right (by rw [List.length_map]; omega), List.getElem?_replicate] at h
      split at h <;> cases h
/-- a def that hands back the datum d -/
def FE.tell (d : D) : FE := { nx := fun _ => d = .non, rt := fun x => x = d, rf := fun es => .lst es = d }
def FE.own (es : List D) : FE := { rf := fun x => x = es }
theorem T.fin {Rel : List D → D → Prop} {vs : List V} {H : Hp} {Q : VK} {E : XK} (h : spD K Rel vs H Q E) (k : ∀ ds d, Rel ds d → T K t (startR N.length ds) (.tell d)) : t { nx := fun _ H' => Q .non H', rt := Q } (L2.start N vs) H := by
  obtain ⟨S, ds, d, e, r, rel, q⟩ := h
  refine k ds d rel S H S H _ _ (stt_start e r) ⟨fun ρ S' H' σ n _ s => ?_, fun _ _ _ _ z => z.elim, fun _ _ _ _ z => z.elim, fun x v S' H' n x' r' => ?_, fun es p ws S' H' n x' h0 sp hp r' => ?_⟩
  · have n : d = .non := n
    subst n
    exact q .non S' H' s.ext .non
  · have n : x = d := n
    subst n
    exact q v S' H' x' r'
  · have n : D.lst es = d := n
    subst n
    exact q (.ref p) (upd S' p (.lst ws)) H' (x'.tell sp h0 hp) (.lst upd_same (r'.mono (Ex.new sp)))
theorem T.finF {Rel : List D → List D → Prop} {vs : List V} {H : Hp} {Q : VK} {E : XK} (h : spF K Rel vs H Q E) (k : ∀ ds es, Rel ds es → T K t (startR N.length ds) (.own es)) : t { nx := fun _ H' => Q .non H', rt := Q } (L2.start N vs) H := by
  obtain ⟨S, ds, es, e, r, rel, q⟩ := h
  refine k ds es rel S H S H _ _ (stt_start e r) ⟨fun _ _ _ _ z => z.elim, fun _ _ _ _ z => z.elim, fun _ _ _ _ z => z.elim, fun _ _ _ _ z => z.elim, fun fs p ws S' H' n x' h0 sp hp r' => ?_⟩
  have n : fs = es := n
  subst n
  exact q p ws S' H' x' h0 sp hp r'
theorem spD_len {Rel : List D → D → Prop} {n : Nat} (h : ∀ ds d, Rel ds d → ds.length = n) : ∀ vs H Q E, spD K Rel vs H Q E → vs.length = n := fun vs H Q E ⟨S, ds, d, _, r, rel, _⟩ => r.length.trans (h ds d rel)
theorem spF_len {Rel : List D → List D → Prop} {n : Nat} (h : ∀ ds d, Rel ds d → ds.length = n) : ∀ vs H Q E, spF K Rel vs H Q E → vs.length = n := fun vs H Q E ⟨S, ds, d, _, r, rel, _⟩ => r.length.trans (h ds d rel)
end
end Pl

/-! set(xs) of whole numbers, sorted(set(xs)). -/
namespace Sx
open PySem PySem.Spec PyProof.Rows L2

theorem int_of : ∀ {us : List Value} {ns : List Int}, IntsAre us ns → ∀ (j : Nat) (u : Value), us[j]? = some u → ∃ tk, u = .int (ns.getD j 0) tk := fun h j u e => IntsAre.int_at h j u e
theorem ints_len : ∀ {us : List Value} {ns : List Int}, IntsAre us ns → us.length = ns.length
  | _, _, .nil => rfl
  | _, _, .cons _ _ h => congrArg (· + 1) (ints_len h)
section
variable {prog : Program} {w : World} {A : Around} {R : Result → Shared → Prop} {I : Addr} {fp wr : List Addr} {G : Array GenState → Array GenState → Prop} {n : Nat} {P : Nat → Value → Prop} {St : Nat → Shared → Prop}
/-- what is in the set behind j turns -/
def Got (w : World) (h : Heap) (S : Addr) (ns : List Int) (j : Nat) : Prop := ∃ (T : Int → Bool) (m : Nat), SetR w h S T m ∧ m ≤ j ∧ ∀ k, T k = true ↔ k ∈ ns.take j
theorem Got.at {h h' : Heap} {S : Addr} {ns : List Int} {j : Nat} (g : Got w h S ns j) (k : ∀ o, h.get? S = some o → h'.get? S = some o) : Got w h' S ns j := by
  obtain ⟨T, m, r, x⟩ := g
  exact ⟨T, m, r.at k, x⟩
theorem fill (W : WalksS prog w A.in1 I fp wr G n P St) (S : Addr) (hS : S ∉ fp) (ns : List Int) (hz : ns.length = n) (hr : n + 2 < scanBound) (hv : ∀ j u, P j u → ∃ tk, u = .int (ns.getD j 0) tk) :
    ∀ (left j : Nat) (s : Shared), n - j = left → j ≤ n → St j s → Got w s.heap S ns j → (∀ s2, Moved (S :: wr) G s s2 → Got w s2.heap S ns n → R (.ok (.ret .none)) s2) →
      codeAny (model prog w) A (.builtin "set.update.loop" ⟨[.ref S, .ref I], []⟩) R s := by
  have nw : S ∉ wr := fun q => hS (W.sub _ q)
  have up : ∀ b ∈ wr, b ∈ S :: wr := fun b q => List.mem_cons_of_mem _ q
  intro left
  induction left with
  | zero =>
    intro j s hk hj st g k
    obtain rfl : j = n := by omega
    refine codeAny_builtin PyProof.Rows.F.entry_set_update_loop ?_
    rw [Around.under_plainId PyProof.Rows.F.plain_set_update_loop _]
    show wpAny _ A.in1 (pyNext (.ref I) >>= _) _ _ s
    refine wpAny_bind (W.done s _ _ st fun s2 mv => ?_)
    show wpAny _ A.in1 (ret Value.none) _ _ s2
    exact wpAny_pure (k s2 (mv.mono up) (g.at fun o q => mv.heap S _ nw q))
  | succ left ih =>
    intro j s hk hj st g k
    have lt : j < n := by omega
    refine codeAny_builtin PyProof.Rows.F.entry_set_update_loop ?_
    rw [Around.under_plainId PyProof.Rows.F.plain_set_update_loop _]
    show wpAny _ A.in1 (pyNext (.ref I) >>= _) _ _ s
    refine wpAny_bind (W.item j s _ _ lt st fun u s2 pu st2 mv => ?_)
    obtain ⟨tk, rfl⟩ := hv j u pu
    have g2 : Got w s2.heap S ns j := g.at fun o q => mv.heap S _ nw q
    obtain ⟨T, m, r, hm, hT⟩ := g2
    show wpAny _ A.in1 (holding [Value.int (ns.getD j 0) tk] (setAdd S (.int (ns.getD j 0) tk)) >>= _) _ _ s2
    refine wpAny_bind (wpAny_holding ?_)
    unfold setAdd
    refine wpAny_holding (wpAny_bind ((intKind prog w).pyHash (k := ns.getD j 0) (intKind_is prog w _ tk) ?_))
    refine setR_add_hashed (P := prog) (s := { s2 with toks := s2.toks + 1 }) r (by omega) fun h3 sb r3 => ?_
    have g3 : Got w h3 S ns (j + 1) := by
      refine ⟨_, _, r3, ?_, fun q => ?_⟩
      · split <;> omega
      · have e1 : ns.take (j + 1) = ns.take j ++ [ns.getD j 0] := by
          have hl : j < ns.length := by omega
          rw [← List.take_append_getElem hl]
          simp [List.getD, hl]
        rw [Bool.or_eq_true, hT q, decide_eq_true_eq, e1, List.mem_append, List.mem_singleton]
    refine wpAny_pure ⟨plainId_quiet PyProof.Rows.F.plain_set_update_loop _, ih (j + 1) _ (by omega) lt (W.frame _ s2 _ _ st2 (Nat.le_succ _) fun b hb o q => ?_) g3 fun s4 mv4 g4 => ?_⟩
    · rw [sb.2 b fun z : b = S => hS (z ▸ hb)]
      exact q
    · refine k s4 (Moved.trans W.gtrans ((mv.mono up).then_heap (Nat.le_succ _) fun b o hb q => ?_) mv4) g4
      rw [sb.2 b fun z : b = S => hb (by rw [z]; exact List.mem_cons_self)]
      exact q
end
section
variable {P : Program} {w : World} {A : Around} {E : Value → Shared → Prop} {s : Shared}
abbrev freshSet (w : World) : Obj := { cls := .type "set", dict := none, data := .set #[] 0 (.fresh 0 0 (!w.params.followText "set-order")) }
theorem new_one (a : Value) {Q : Value → Shared → Prop} (h : Q (.ref s.heap.objs.size) { s with heap := s.heap.push (freshSet w) }) : codeAny (model P w) A (.call (.builtin "set.__new__") ⟨[.type "set", a], []⟩) (wants Q E) s := by
  refine codeAny_of_tree ?_
  show wpAny _ A.in1 (do checkBuiltinCall "set.__new__" ⟨[.type "set", a], []⟩; again (.builtin "set.__new__" ⟨[.type "set", a], []⟩)) _ _ s
  refine wpAny_bind (wpAny_of_eq (F.newCall_set_1 a) (wpAny_pure ⟨plainId_quiet F.plain_set_new _, codeAny_builtin F.entry_set_new ?_⟩))
  rw [Around.under_plainId F.plain_set_new _]
  unfold Builtin.«set.__new__» Builtin.Frozenset.newClass
  have sub := sub_set_self
  obtain ⟨hp, g, d, tk, os⟩ := s
  dsimp only
  wp_walk
  refine wpAny_askSetting (wpAny_pure ?_)
  dsimp only
  simp only [newObj]
  exact wpAny_bind (wpAny_alloc (wpAny_pure (wpAny_pure h)))
set_option maxHeartbeats 8000000 in
theorem set_of {l : Addr} {items : Array Value} {ns : List Int} {Q : Value → Shared → Prop} (hh : A.handled = none) (hl : s.heap.IsList l items) (hi : IntsAre items.toList ns) (hn : ns.length ≤ 1000)
    (h : ∀ (h2 : Heap) (tk : Nat), Got w h2 s.heap.objs.size ns ns.length → (∀ b o, b < s.heap.objs.size → s.heap.get? b = some o → h2.get? b = some o) → Q (.ref s.heap.objs.size) { s with heap := h2, toks := tk }) :
    wpAny (model P w) A (call (.type "set") [.ref l]) Q E s := by
  obtain ⟨c, tl, hmro⟩ := PySem.F.called_set.mro
  have made := PySem.F.called_set.made
  have sub := PySem.F.called_set.sub
  refine wpAny_call (codeAny_of_tree ?_)
  show wpAny _ _ (callAny (.type "set") _) _ _ _
  refine wpAny_pure ⟨Code.quiet_builtin _ (by decide +kernel), codeAny_builtin PySem.F.entry_type_call ?_⟩
  rw [Around.under_plain (weight_type_call_type "set" [.ref l] []) rfl]
  have y1 := PySem.F.called_set.notType
  have y2 := PySem.F.called_set.canCreate
  have y3 := PySem.F.typeCall_set_1 (.ref l)
  repeat (any_goals (first | assumption | wp_step))
  refine codeAny_mono (new_one (.ref l) (E := E) (Q := fun obj s₁ => obj = .ref s.heap.objs.size ∧ s₁ = { s with heap := s.heap.push (freshSet w) }) ⟨rfl, rfl⟩) fun r s₁ hr => ?_
  cases r with
  | error e => exact hr
  | ok fl =>
    cases fl with
    | ret obj =>
      obtain ⟨rfl, rfl⟩ := hr
      have gS : (s.heap.push (freshSet w)).get? s.heap.objs.size = some (freshSet w) := Heap.get?_push_size _ rfl
      have hT : Shared.TypeIs { s with heap := s.heap.push (freshSet w) } (.ref s.heap.objs.size) "set" := ⟨_, gS, rfl⟩
      have z1 := PySem.F.called_set.init.lookup
      have z2 := PySem.F.called_set.init.bind (.ref s.heap.objs.size)
      repeat (any_goals (first | assumption | wp_step))
      refine codeAny_mono (codeAny_call_builtin (R := wants (fun r s₂ => r = .none ∧ ∃ h2 tk, s₂ = { s with heap := h2, toks := tk } ∧ Got w h2 s.heap.objs.size ns ns.length ∧
          (∀ b o, b < s.heap.objs.size → s.heap.get? b = some o → h2.get? b = some o)) E) PySem.F.called_set.init.plain PySem.F.entry_set_init (check_set_init_1 hT ?_)) fun r₂ s₂ hr₂ => ?_
      · obtain ⟨ol, hol, hcl, nl, hdl⟩ := hl
        obtain ⟨ocls, odict, odata, oslots⟩ := ol
        simp only at hcl hdl
        subst hcl
        subst hdl
        have hol2 : (s.heap.push (freshSet w)).get? l = some { cls := .type "list", dict := odict, data := .seq items nl, slots := oslots } := Heap.get?_push_of_some _ hol
        have n1 := PySem.F.sub_list_set
        have n2 := PySem.F.sub_list_frozenset
        have n3 : (Value.type "list" == Value.type "dict") = false := by decide
        have hl2 : (s.heap.push (freshSet w)).IsList l items := ⟨_, hol2, rfl, nl, rfl⟩
        unfold Builtin.«set.__init__» noKeywords Builtin.Frozenset.updateFrom
        generalize gPI : pyIter = PI
        wp_walk
        subst gPI
        refine wpAny_pyIter_list hl2 (wpAny_bind (wpAny_runValue ?_))
        have lS : l < s.heap.objs.size := Heap.lt_size hol
        have hd3 : A.in1.in1.in1.handled = none := by simp [hh]
        have nI : l ≠ (s.heap.push (freshSet w)).objs.size := by rw [Heap.size_push]; exact Nat.ne_of_lt (Nat.lt_succ_of_lt lS)
        have nF : s.heap.objs.size ∉ [(s.heap.push (freshSet w)).objs.size, l] := by
          rw [Heap.size_push]
          simp only [List.mem_cons, List.mem_singleton, List.not_mem_nil, or_false, not_or]
          exact ⟨Nat.ne_of_lt (Nat.lt_succ_self _), Nat.ne_of_gt lS⟩
        have hsz : ns.length = items.size := by rw [← ints_len hi, Array.length_toList]
        have hval : ∀ (j : Nat) (u : Value), items[j]? = some u → ∃ tk, u = .int (ns.getD j 0) tk := fun j u q => int_of hi j u (by rw [Array.getElem?_toList]; exact q)
        refine fill ((Walks.list hd3 _ l nI items).toS) s.heap.objs.size nF ns hsz (by unfold scanBound; omega) hval (items.size - 0) 0 _ (by omega) (Nat.zero_le _) ⟨⟨_, Heap.get?_push_size _ rfl, rfl, rfl⟩, (hl2.push _)⟩ ?g0 ?gR
        case g0 =>
          refine ⟨fun _ => false, 0, (setR_fresh w).at fun o q => Heap.get?_push_of_some _ q, Nat.le_refl _, fun k => ?_⟩
          simp
        case gR =>
          intro s2 mv g2
          obtain ⟨h2, gg, dd, tk2, os2⟩ := s2
          have eg : gg = s.gens := mv.gens
          have ed : dd = s.drawn := mv.drawn
          have eo : os2 = s.os := mv.os
          subst eg
          subst ed
          subst eo
          show wpAny _ _ _ _ _ _
          refine wpAny_pure ?_
          show wpAny _ _ (ret Value.none) _ _ _
          refine wpAny_pure ⟨rfl, h2, tk2, rfl, by rw [hsz]; exact g2, fun b o hb q => ?_⟩
          have b1 : b ≠ s.heap.objs.size := Nat.ne_of_lt hb
          have b2 : b ≠ (s.heap.push (freshSet w)).objs.size := by rw [Heap.size_push]; exact Nat.ne_of_lt (Nat.lt_succ_of_lt hb)
          refine mv.heap b o ?_ (Heap.get?_push_of_some _ (Heap.get?_push_of_some _ q))
          simp only [List.mem_cons, List.mem_singleton, List.not_mem_nil, or_false, not_or]
          exact ⟨b1, b2⟩
      · cases r₂ with
        | error e => exact hr₂
        | ok fl₂ =>
          cases fl₂ with
          | ret r =>
            obtain ⟨rfl, h2, tk, rfl, g2, k2⟩ := hr₂
            repeat (any_goals (first | assumption | wp_step))
            exact h _ _ g2 k2
          | _ => exact hr₂.elim
    | _ => exact hr.elim
end
/-- strictly rising lists with the same members are one -/
theorem rise_one : ∀ {xs ys : List Int}, xs.Pairwise (· < ·) → ys.Pairwise (· < ·) → (∀ k, k ∈ xs ↔ k ∈ ys) → xs = ys
  | [], [], _, _, _ => rfl
  | [], y :: ys, _, _, h => absurd ((h y).mpr List.mem_cons_self) (by simp)
  | x :: xs, [], _, _, h => absurd ((h x).mp List.mem_cons_self) (by simp)
  | x :: xs, y :: ys, hx, hy, h => by
    rw [List.pairwise_cons] at hx hy
    have e : x = y := by
      have h1 := (h x).mp List.mem_cons_self
      have h2 := (h y).mpr List.mem_cons_self
      rcases List.mem_cons.mp h1 with q | q
      · exact q
      · rcases List.mem_cons.mp h2 with q2 | q2
        · exact q2.symm
        · have := hy.1 x q
          have := hx.1 y q2
          omega
    subst e
    rw [rise_one hx.2 hy.2 fun k => ⟨fun q => ?_, fun q => ?_⟩]
    · rcases List.mem_cons.mp ((h k).mp (List.mem_cons_of_mem _ q)) with z | z
      · subst z
        exact absurd (hx.1 k q) (by omega)
      · exact z
    · rcases List.mem_cons.mp ((h k).mpr (List.mem_cons_of_mem _ q)) with z | z
      · subst z
        exact absurd (hy.1 k q) (by omega)
      · exact z
end Sx

/-! The rules for set(xs), sorted(set(xs)) over the data. -/
namespace Sx
open PySem PySem.Spec PyProof.Rows L2
/-- set(xs), xs a list of whole numbers: its members, their number -/
def rSetOf (K : PySem.W.Frag) (w : World) : List V → Hp → VK → Prop := fun vs H Q => ∃ (a : Addr) (ns : List Int), vs = [V.ref a] ∧ SqL K H a (ns.map V.int) ∧ ns.length ≤ 1000 ∧
  ∀ (T : Int → Bool) (ks : List Int) (p : Addr), H p = none → ks.Nodup → (∀ k, T k = true ↔ k ∈ ks) → (∀ k, k ∈ ks ↔ k ∈ ns) → Q (.ref p) (upd H p (SetO w p T ks.length))
theorem cr_setOf {X : Cx} (hc : X.calm = true) : CallR X (.type "set") (rSetOf X.K X.w) := by
  intro pins s σ H vs us Q I r h
  obtain ⟨a, ns, rfl, hq, hl, q⟩ := h
  rw [Vals.ref1 r]
  obtain ⟨its, rv, pl, hz⟩ := I.list hq
  refine set_of (I.ok.hd hc) pl.isList (by simpa using intsAre_of rv) hl fun h2 tk g k => ?_
  obtain ⟨T, m, R, _, hT⟩ := g
  have hn : H s.heap.objs.size = none := I.hok.fresh (Nat.le_refl _)
  have R2 := R
  obtain ⟨o, es, ep, t, ho, hx, hd, ge, nd, hm, hb, hf, hsz, rest⟩ := R2
  have em : (es.toList.map keyOf).length = m := by rw [List.length_map, Array.length_toList]; exact hsz
  have J : Inv X pins σ (upd H s.heap.objs.size (SetO X.w s.heap.objs.size T m)) { s with heap := h2, toks := tk } := I.laid (fun b o e => k b o (Heap.lt_size e) e) (Nat.le_refl _) (setO_new R)
  rw [← em] at J
  refine ⟨.ref s.heap.objs.size, _, J, rfl, q T (es.toList.map keyOf) _ hn nd hm fun k => ?_⟩
  rw [← hm k, hT k, List.take_length]
end Sx
namespace Pl
open PySem PySem.Spec PyProof.Rows L2
open Evl (Ex)
variable {K : PySem.W.Frag} {ρ : Rho} {te : TE}
/-- sorted(set(xs)): ms, which rises and has the same members -/
theorem evF_sortedSet {w : World} {ns ms : List Int} (h : EvD K te ρ (.lst (ns.map D.int))) (hl : ns.length ≤ 1000) (hp : ms.Pairwise (· < ·)) (hm : ∀ k, k ∈ ms ↔ k ∈ ns) (h64 : ms.length < 64) :
    EvF K (tCB (rSortedSet w) (tCons (tCB (Sx.rSetOf K w) (tCons te tNil)) tNil)) ρ (ms.map D.int) := fun S H σ e v Q q =>
  h S H σ e v _ fun u S1 H1 x1 r1 => by
    cases r1 with
    | lst ha rl =>
      have z := rl.ints
      subst z
      refine ⟨_, ns, rfl, Evl.sq_of (x1.sub _ _ ha), hl, fun T ks p hp' nd hT hk => ?_⟩
      have nm : ms.Nodup := hp.imp fun a => by omega
      have el : ks.length = ms.length := Nat.le_antisymm (List.Nodup.length_le_of_subset nd fun k hk' => (hm k).mpr ((hk k).mp hk')) (List.Nodup.length_le_of_subset nm fun k hk' => (hk k).mpr ((hm k).mp hk'))
      refine ⟨p, T, ks.length, rfl, upd_same, by omega, fun ys p2 py my ly hp2 => ?_⟩
      have ey : ys = ms := Sx.rise_one py hp fun k => by rw [my k, hT k, hk k, hm k]
      subst ey
      have x2 : Ext S H S1 (upd H1 p (SetO w p T ks.length)) := x1.trans (Ext.hid x1.sub hp')
      exact q p2 _ S1 _ (x2.trans (Ext.hid x2.sub hp2)) (Evl.fresh_back x2.h hp2) (sub_none x2.sub hp2) upd_same (RdL.ofInts ys)
end Pl

/-! Rules with the written part named; a def by its promise; more of what expressions tell. -/
namespace Pl
open PySem PySem.Spec PyProof.Rows L2
open Evl (Ex)

/-! ### the written part by name -/
section
variable {X : Cx} {K : PySem.W.Frag} {a b e : Expr} {ta tb te : TE} {pos : Pos}
theorem ok_plus (h : X.K = K) : OpR X (binaryOp .Add) (rPlus K) := by subst h; exact op_plus
theorem ok_ix (h : X.K = K) : IxR X (rIx K) := by subst h; exact ix_seq
theorem ok_sl (h : X.K = K) : SlR X (rSl K) := by subst h; exact sl_any
theorem ok_eq (h : X.K = K) (hu : X.A.units + 64 < cLine) : OpR X (compareOp .Eq) (rEqD K) := by subst h; exact op_eqD hu
theorem ok_ne (h : X.K = K) (hu : X.A.units + 64 < cLine) : OpR X (compareOp .NotEq) (rNeD K) := by subst h; exact op_neD hu
theorem ok_in (h : X.K = K) : OpR X (compareOp .In) (rIn K false) := by subst h; exact op_in_seq
theorem ok_ni (h : X.K = K) : OpR X (compareOp .NotIn) (rIn K true) := by subst h; exact op_notIn_seq
theorem ok_len (h : X.K = K) : CallR X (.builtin "len") (rLen K) := by subst h; exact cr_len
theorem ok_list (h : X.K = K) : CallR X (.type "list") (rListOf K) := by subst h; exact cr_listOf
theorem ok_all (h : X.K = K) (hc : X.calm = true) : CallR X (.builtin "all") (rAll K) := by subst h; exact cr_all hc
theorem ok_isi (h : X.K = K) : CallR X (.builtin "isinstance") (rIsi K) := by subst h; exact call_isi
theorem ok_set {w : World} (h : X.K = K) (hw : X.w = w) (hc : X.calm = true) : CallR X (.type "set") (Sx.rSetOf K w) := by subst h; subst hw; exact Sx.cr_setOf hc
theorem ok_sset {w : World} (hw : X.w = w) (hc : X.calm = true) : CallR X (.builtin "sorted") (rSortedSet w) := by subst hw; exact cr_sortedSet hc
theorem ok_tup {es : List Expr} {k n : Nat} {t : TGs} (hK : X.K = K) (hc : X.calm = true) (h : PGs X es t) (hn : (assignEach es X.env).length = n := by rfl) (hst : (assignEach es X.env).findIdx? (·.1) = none := by rfl) : PG X (.Tuple es k pos) (gTup K n t) := by
  subst hK
  exact pg_tup hc h hn hst
theorem ok_ilist {tg : Expr} (hK : X.K = K) (h : PE X e te) : PI X tg e (iList K te) := by subst hK; exact pi_list h
theorem ok_itup {tg : Expr} (hK : X.K = K) (h : PE X e te) : PI X tg e (iTup K te) := by subst hK; exact pi_tup h
theorem ok_ienum {p pos tpos : Pos} {elts : List Expr} {kk : Nat} {tA : TA} (hK : X.K = K) (hg : Gl X "enumerate") (hm : X.mg "enumerate" = none) (ha : PA X [e] tA) (hs : starEach [e] X.env = [(false, eval e X.env)] := by rfl) :
    PI X (.Tuple elts kk tpos) (.Call (.Name "enumerate" p) [e] [] pos) (iEnum K tA) := by subst hK; exact pi_enum hg hm ha hs
end
/-! ### a def by its promise -/
section
variable (P : Program) (w : World) (K : PySem.W.Frag) (mg : Str → Option Value) (base : Heap) (CX : CXT)
def Cal (k : Nat) (x : Str) (ps : List Str) (sp : Sp) : Prop := ∃ f fd, FnOk P w K mg base CX k f fd ps sp ∧ mg x = some (.ref f) ∧ PySem.W.keepIn K (.ref f) = true ∧ Binds K fd ps []
end
theorem pe_cal {X : Cx} {CX : CXT} {k j : Nat} {x : Str} {ps : List Str} {sp : Sp} {E : XK} {e : Expr} {es : List Expr} {pos p : Pos} {t : TA} (C : Cal X.prog X.w X.K X.mg X.base CX k x ps sp) (hr : Room j X.A) (hk : k ≤ j) (hx : Passes CX X E) (ha : PA X (e :: es) t)
    (hg : Gl X x := by rfl) (hdb : (x == ("__debug__" : Str)) = false := by decide) (he : starEach (e :: es) X.env = (false, eval e X.env) :: starEach es X.env := by rfl) (hpl : (backTo pos (starEach es X.env)).any (·.1) = false := by rfl) :
    PE X (.Call (.Name x p) (e :: es) [] pos) (tCall sp [] E t) := by
  obtain ⟨f, fd, F, hm, kp, hb⟩ := C
  exact pe_call F (hr.mono hk) hg hm kp hb .nil hx ha hdb he hpl
section
variable {K : PySem.W.Frag} {ρ : Rho} {ta tb tc te : TE} {x y z : D} {r r' : R2}
theorem ev_chain {a b : Bool} (ha : EvD K ta ρ x) (hb : EvD K tb ρ y) (hr : RV K r x y (.bl a)) (hc : a = true → ∃ z, EvD K tc ρ z ∧ RV K r' y z (.bl b)) : EvD K (tChain r r' ta tb tc) ρ (.bl (a && b)) := fun S H σ e v Q q =>
  ha S H σ e v _ fun w1 S1 H1 x1 r1 => hb S1 H1 σ x1.sub (v.mono x1.s) _ fun w2 S2 H2 x2 r2 => hr S2 H2 w1 w2 x2.sub (r1.mono x2.s) r2 _ fun w3 S3 H3 x3 r3 => by
    cases r3
    refine ⟨a, rfl, ?_⟩
    cases a with
    | true =>
      obtain ⟨z, h1, h2⟩ := hc rfl
      show tc σ H3 _
      exact h1 S3 H3 σ x3.sub (v.mono ((x1.s.trans x2.s).trans x3.s)) _ fun w4 S4 H4 x4 r4 => h2 S4 H4 w2 w4 x4.sub (r2.mono (x3.s.trans x4.s)) r4 Q fun w5 S5 H5 x5 r5 => q w5 S5 H5 ((((x1.trans x2).trans x3).trans x4).trans x5) r5
    | false =>
      show Q (.bl false) H3
      exact q _ S3 H3 ((x1.trans x2).trans x3) (.bl false)
theorem et_truL {ds : List D} (h : EvD K te ρ (.lst ds)) : EvT K (fun σ H Q => te σ H fun x H' => ∃ k, TruV K x H' k ∧ Q k H') ρ (!ds.isEmpty) := fun S H σ e v Q q =>
  h S H σ e v _ fun w S1 H1 x1 r1 => by
    cases r1 with
    | lst ha rl =>
      refine ⟨!ds.isEmpty, .inl ⟨_, Evl.sq_of (x1.sub _ _ ha), ?_⟩, q S1 H1 x1⟩
      cases rl <;> rfl
theorem rc_isiK {T : String} {b : Bool} (k : String) (hk : x.kind = k) (h : kitB k T = some b) (hn : k ≠ "?") : RC K (rIsi K) [x, .ty T] (.bl b) := rc_isi (by rw [hk]; exact h) (by rw [hk]; exact hn)
theorem T.never {F : FE} (h : False) : T K tNever ρ F := h.elim
/-! ### comparisons, arithmetic -/
theorem rv_lt {i j : Int} : RV K (rI0 fun i j => .bl (decide (i < j))) (.int i) (.int j) (.bl (decide (i < j))) := rv_I0 fun _ => .bl _
theorem rv_le {i j : Int} : RV K (rI0 fun i j => .bl (decide (i ≤ j))) (.int i) (.int j) (.bl (decide (i ≤ j))) := rv_I0 fun _ => .bl _
theorem rv_gt {i j : Int} : RV K (rI0 fun i j => .bl (decide (j < i))) (.int i) (.int j) (.bl (decide (j < i))) := rv_I0 fun _ => .bl _
theorem rv_ge {i j : Int} : RV K (rI0 fun i j => .bl (decide (j ≤ i))) (.int i) (.int j) (.bl (decide (j ≤ i))) := rv_I0 fun _ => .bl _
theorem rv_sub {i j : Int} : RV K (rI0 fun i j => .int (i - j)) (.int i) (.int j) (.int (i - j)) := rv_I0 fun _ => .int _
theorem rv_mul {i j : Int} (h : CMul i j) : RV K (rI CMul fun i j => .int (i * j)) (.int i) (.int j) (.int (i * j)) := rv_I h fun _ => .int _
theorem rv_div {i j : Int} (h : CDivN i j) (hj : 0 ≤ j) : RV K (rI CDivN fun i j => .int (i.fdiv j)) (.int i) (.int j) (.int (i / j)) := by
  rw [← Int.fdiv_eq_ediv_of_nonneg i hj]
  exact rv_I h fun _ => .int _
theorem rv_mod {i j : Int} (h : j ≠ 0) (hj : 0 ≤ j) : RV K (rI (fun _ j => j ≠ 0) fun i j => .int (i.fmod j)) (.int i) (.int j) (.int (i % j)) := by
  rw [← Int.fmod_eq_emod_of_nonneg i hj]
  exact rv_I h fun _ => .int _
theorem ev_neg {i : Int} (h : EvD K te ρ (.int i)) : EvD K (tUn (rU fun i => .int (-i)) te) ρ (.int (-i)) := fun S H σ e v Q q =>
  h S H σ e v _ fun w S1 H1 x1 r1 => by
    cases r1
    exact ⟨i, rfl, q _ S1 H1 x1 (.int _)⟩
end
end Pl
namespace Pl
open PySem PySem.Spec PyProof.Rows L2
theorem rngD_get0 {n : Nat} {i : Nat} {d : D} (h : (rngD 0 n 1)[i]? = some d) : i < n ∧ d = .int (i : Int) := by
  obtain ⟨h1, h2⟩ := rngD_get h
  refine ⟨h1, h2.trans ?_⟩
  rw [Int.mul_one, Int.zero_add]
theorem rngD_mem0 {n : Nat} {d : D} (h : d ∈ rngD 0 n 1) : ∃ i : Nat, i < n ∧ d = .int (i : Int) := by
  obtain ⟨i, hi⟩ := List.getElem?_of_mem h
  exact ⟨i, rngD_get0 hi⟩
theorem atI_int {α : Type} {xs : List α} {k : Int} {x : α} (h0 : 0 ≤ k) (h : xs[k.toNat]? = some x) : atI xs k = some x := by
  have e : k = ((k.toNat : Nat) : Int) := by omega
  rw [e]
  exact atI_nat h
def barD (b : Int × Int) : D := .tup [.int b.1, .int b.2]
theorem barD_inj {a b : Int × Int} (h : barD a = barD b) : a = b := by
  cases a
  cases b
  unfold barD at h
  simp only [D.tup.injEq, List.cons.injEq, D.int.injEq, and_true] at h
  rw [h.1, h.2]
theorem bars_inj {as bs : List (Int × Int)} : as.map barD = bs.map barD ↔ as = bs := ⟨fun h => (List.map_inj_right fun _ _ e => barD_inj e).mp h, fun h => h ▸ rfl⟩
theorem okd_bars {bs : List (Int × Int)} : (D.lst (bs.map barD)).okd 60 = true := by
  simp [D.okd, barD]
theorem sm_bars {bs : List (Int × Int)} : (D.lst (bs.map barD)).sm 60 = true := by
  simp [D.sm, barD]
section
variable {K : PySem.W.Frag}
theorem rv_eqBars {as bs : List (Int × Int)} : RV K (rEqD K) (.lst (as.map barD)) (.lst (bs.map barD)) (.bl (decide (as = bs))) := rv_eqS okd_bars okd_bars sm_bars sm_bars (by rw [decide_eq_true_eq, D.lst.injEq, bars_inj])
theorem rv_neBars {as bs : List (Int × Int)} : RV K (rNeD K) (.lst (as.map barD)) (.lst (bs.map barD)) (.bl (!decide (as = bs))) := rv_neS okd_bars okd_bars sm_bars sm_bars (by rw [decide_eq_true_eq, D.lst.injEq, bars_inj])
end
end Pl
namespace Pl
open PySem PySem.Spec PyProof.Rows L2
section
variable {K : PySem.W.Frag} {ρ : Rho} {F : FE} {t u : TS} {c : TT} {b : Bool}
/-- if c: (what does not go on); then the rest -/
theorem T.guard (h : EvT K c ρ b) (h1 : b = true → T K t ρ { F with nx := fun _ => False }) (h2 : b = false → T K u ρ F) : T K (tSeq (tIfS c t tNext) u) ρ F :=
  T.seqP (N := fun r => r = ρ ∧ b = false) (T.ifS h (fun e => (h1 e).weak (fun _ z => z.elim) (fun _ z => z) (fun _ z => z) (fun _ z => z) fun _ z => z) fun e => T.next ⟨rfl, e⟩) fun r z => by
    obtain ⟨e1, e2⟩ := z
    subst e1
    exact h2 e2
theorem T.guardV (h : EvT K c (see ρ) b) (h1 : b = true → T K t ρ { F with nx := fun _ => False }) (h2 : b = false → T K u ρ F) : T K (tSeq (tIfS c t tNext) u) ρ F :=
  T.seqP (N := fun r => r = ρ ∧ b = false) (T.ifV h (fun e => (h1 e).weak (fun _ z => z.elim) (fun _ z => z) (fun _ z => z) (fun _ z => z) fun _ z => z) fun e => T.next ⟨rfl, e⟩) fun r z => by
    obtain ⟨e1, e2⟩ := z
    subst e1
    exact h2 e2
end
end Pl
namespace Pl
open PySem PySem.Spec PyProof.Rows L2
open Evl (Ex)
section
variable {K : PySem.W.Frag}
theorem RCF.data {r : List V → Hp → VK → Prop} {xs es : List D} (h : RCF K r xs es) : RC K r xs (.lst es) := fun S H vs e rl Q q => h S H vs e rl Q fun p ws S' H' x hp sp h' r' => q (.ref p) (upd S' p (.lst ws)) H' (x.tell sp hp h') (.lst upd_same (r'.mono (Ex.new sp)))
theorem RVF.data {r : R2} {x y : D} {es : List D} (h : RVF K r x y es) : RV K r x y (.lst es) := fun S H v u e r1 r2 Q q => h S H v u e r1 r2 Q fun p ws S' H' x hp sp h' r' => q (.ref p) (upd S' p (.lst ws)) H' (x.tell sp hp h') (.lst upd_same (r'.mono (Ex.new sp)))
end
end Pl

/-! {x for a in xs for x in a}: a set of whole numbers by two clauses without tests. -/
namespace Sc
open PySem PySem.Spec PyProof.Rows L2
abbrev two (elt t0 i0 t1 i1 : Expr) (scope : Scope) (pos : Pos) : Expr := .SetComp elt [⟨t0, i0, [], 0⟩, ⟨t1, i1, [], 0⟩] scope pos
section
variable {prog : Program} {w : World} {A : Around} {R : Result → Shared → Prop} {s : Shared} {elt t0 i0 t1 i1 : Expr} {scope : Scope} {pos : Pos} {it acc : Value} {env : Env}
theorem turn0 : compTurn (two elt t0 i0 t1 i1 scope pos) 0 it acc env = (do
    standAt i0.pos
    let r ← pyNext it
    match r with
    | none => pure (.done .next)
    | some u =>
      letOwnedTupleGo t0 it u
      assign t0 env u
      let x ← eval i1 env
      standAt i1.pos
      let y ← foldedSetIterable i1 env x
      let z ← holding [y] (pyIter y)
      let _ ← runOwn (.compStart (two elt t0 i0 t1 i1 scope pos) 1 z acc env) env
      again (.compLoop (two elt t0 i0 t1 i1 scope pos) 0 it acc env)) := by rfl
theorem turn1 : compTurn (two elt t0 i0 t1 i1 scope pos) 1 it acc env = (do
    standAt i1.pos
    let r ← pyNext it
    match r with
    | none => pure (.done .next)
    | some u =>
      letOwnedTupleGo t1 it u
      assign t1 env u
      (do
        let v ← eval elt env
        standAt elt.pos
        let _ ← call (.builtin "set.add") [acc, v])
      again (.compLoop (two elt t0 i0 t1 i1 scope pos) 1 it acc env)) := by rfl
abbrev Nb (w : World) (prog : Program) (A : Around) (env : Env) (R : Result → Shared → Prop) : Value → Shared → Prop := notedBy (model prog w) A env fun e u => R (.error e) u
theorem loop0 (hf : ∀ x, foldedSetIterable i1 env x = pure x) (J : Nat → Shared → Prop)
    (turn : ∀ n u, J n u → wpAny (model prog w) A (pyNext it) (fun r u1 => match r with
      | none => R (.ok .next) u1
      | some v => wpAny (model prog w) A (letOwnedTupleGo t0 it v) (fun _ u2 => wpAny (model prog w) A (assign t0 env v) (fun _ u3 => wpAny (model prog w) A (eval i1 env) (fun x u4 => wpAny (model prog w) A (pyIter x) (fun z u5 =>
          codeAny (model prog w) A (.compStart (two elt t0 i0 t1 i1 scope pos) 1 z acc env) (fun r u6 => match r with
            | .ok _ => ∃ m, m < n ∧ J m u6
            | .error _ => False) u5) (Nb w prog A env R) u4) (Nb w prog A env R) u3) (Nb w prog A env R) u2) (Nb w prog A env R) u1) (Nb w prog A env R) u)
    (n : Nat) (h : J n s) : codeAny (model prog w) A (.compLoop (two elt t0 i0 t1 i1 scope pos) 0 it acc env) R s := by
  refine codeAny_loop rfl J (fun n u hJ => ?_) n h
  show wpAny _ A ((compTurn (two elt t0 i0 t1 i1 scope pos) 0 it acc env).onRaise (fun x => do noteFrame x env; theTreesLotGoes x)) _ _ u
  refine wpAny_noted ?_
  rw [turn0]
  refine wpAny_bind (wpAny_standAt (wpAny_bind (wpAny_mono (turn n u hJ) (fun r u1 k1 => ?_) fun _ _ q => q)))
  cases r with
  | none => exact wpAny_pure k1
  | some v =>
    refine wpAny_bind (wpAny_mono k1 (fun _ u2 k2 => wpAny_bind (wpAny_mono k2 (fun _ u3 k3 => wpAny_bind (wpAny_mono k3 (fun x u4 k4 => ?_) fun _ _ q => q)) fun _ _ q => q)) fun _ _ q => q)
    refine wpAny_bind (wpAny_standAt (wpAny_bind (wpAny_of_eq (hf x) (wpAny_bind (wpAny_holding (wpAny_mono k4 (fun z u5 k5 => ?_) fun _ _ q => q))))))
    refine wpAny_bind (wpAny_runOwn ?_)
    rw [Around.mark_none]
    refine codeAny_mono k5 fun r u6 k6 => ?_
    cases r with
    | ok f => first | exact wpAny_pure ⟨rfl, k6⟩ | exact wpAny_bind (wpAny_pure (wpAny_pure ⟨rfl, k6⟩))
    | error e => exact k6.elim
theorem loop1 (J : Nat → Shared → Prop)
    (turn : ∀ n u, J n u → wpAny (model prog w) A (pyNext it) (fun r u1 => match r with
      | none => R (.ok .next) u1
      | some v => wpAny (model prog w) A (letOwnedTupleGo t1 it v) (fun _ u2 => wpAny (model prog w) A (assign t1 env v) (fun _ u3 => wpAny (model prog w) A (eval elt env) (fun x u4 =>
          wpAny (model prog w) A (call (.builtin "set.add") [acc, x]) (fun _ u5 => ∃ m, m < n ∧ J m u5) (Nb w prog A env R) u4) (Nb w prog A env R) u3) (Nb w prog A env R) u2) (Nb w prog A env R) u1) (Nb w prog A env R) u)
    (n : Nat) (h : J n s) : codeAny (model prog w) A (.compLoop (two elt t0 i0 t1 i1 scope pos) 1 it acc env) R s := by
  refine codeAny_loop rfl J (fun n u hJ => ?_) n h
  show wpAny _ A ((compTurn (two elt t0 i0 t1 i1 scope pos) 1 it acc env).onRaise (fun x => do noteFrame x env; theTreesLotGoes x)) _ _ u
  refine wpAny_noted ?_
  rw [turn1]
  refine wpAny_bind (wpAny_standAt (wpAny_bind (wpAny_mono (turn n u hJ) (fun r u1 k1 => ?_) fun _ _ q => q)))
  cases r with
  | none => exact wpAny_pure k1
  | some v =>
    refine wpAny_bind (wpAny_mono k1 (fun _ u2 k2 => wpAny_bind (wpAny_mono k2 (fun _ u3 k3 => wpAny_bind (wpAny_bind (wpAny_mono k3 (fun x u4 k4 => ?_) fun _ _ q => q))) fun _ _ q => q)) fun _ _ q => q)
    refine wpAny_bind (wpAny_standAt (wpAny_bind (wpAny_mono k4 (fun _ u5 k5 => ?_) fun _ _ q => q)))
    first | exact wpAny_pure (wpAny_pure ⟨rfl, k5⟩) | exact wpAny_pure ⟨rfl, k5⟩
theorem start1 (h0 : codeAny (model prog w) A (.compLoop (two elt t0 i0 t1 i1 scope pos) 1 it acc env) R s)
    (h : wpAny (model prog w) A (pyIter it) (fun z u => codeAny (model prog w) A (.compLoop (two elt t0 i0 t1 i1 scope pos) 1 z acc env) R u) (Nb w prog A env R) s) :
    codeAny (model prog w) A (.compStart (two elt t0 i0 t1 i1 scope pos) 1 it acc env) R s := by
  refine codeAny_of_tree ?_
  show wpAny _ _ ((compStart (two elt t0 i0 t1 i1 scope pos) 1 it acc env).onRaise (fun x => do noteFrame x env; standAt theWindowsPlace)) _ _ s
  refine wpAny_notedAt ?_
  unfold compStart
  show wpAny _ _ (ask >>= _) _ _ s
  refine wpAny_bind (wpAny_askSetting (wpAny_ite ?_))
  split
  · first | exact wpAny_bind (wpAny_pure (wpAny_pure (And.intro rfl h0))) | exact wpAny_pure (And.intro rfl h0)
  · first
      | exact wpAny_bind (wpAny_rule (wpAny_bind (wpAny_standAt (wpAny_bind (wpAny_mono h (fun z u q => wpAny_pure (And.intro rfl q)) fun _ _ x => x)))))
      | (refine wpAny_bind (wpAny_rule ?_)
         show wpAny _ _ (standAt i1.pos >>= _) _ _ s
         exact wpAny_bind (wpAny_standAt (wpAny_bind (wpAny_mono h (fun z u q => wpAny_pure (And.intro rfl q)) fun _ _ x => x))))
end
section
variable {X : Cx}
theorem add_ok {pins : List (Addr × Obj)} {σ : L2.St} {H : Hp} {s : Shared} {E : Value → Shared → Prop} {p : Addr} {T : Int → Bool} {n : Nat} {k : Int} {tk : Tok} {Q : Value → Shared → Prop} (I : Inv X pins σ H s) (hp : H p = some (SetO X.w p T n)) (room : n + 1 < scanBound)
    (h : ∀ u, Inv X pins σ (upd H p (SetO X.w p (fun j => T j || decide (j = k)) (if T k = true then n else n + 1))) u → Q .none u) : wpAny (model X.prog X.w) X.A (call (.builtin "set.add") [.ref p, .int k tk]) Q E s := by
  have R := setO_get I hp
  refine setR_add R room fun h2 sb new => ?_
  have ex : ∃ o, h2.get? p = some o := by
    have ⟨o, _, _, _, ho, _⟩ := new
    exact ⟨o, ho⟩
  exact h _ (I.write (e := p) (t' := s.toks + 1) (by rw [hp]; trivial) (.inl rfl) (fun b o hb ho => (sb.2 b hb).trans ho) ex (setO_new new))
/-- p the new set; the outer clause's word W, the inner one's W1 -/
def tSc2 (w : World) (wi : TI) (g : TG) (wi1 : TI) (g1 : TG) (te : TE) (vs vs1 : List Nat) : TE := fun σ H Q => wi σ H fun J H1 => ∀ p, H1 p = none → ∃ W : Nat → Nat → Hp → Prop, (∃ m, W 0 m (upd H1 p (SetO w p (fun _ => false) 0))) ∧ ∀ i m H, W i m H →
  (J.stop i H ∧ Q (.ref p) H) ∨ (J.go i H ∧ ∃ Nx : Hp → Prop, (∀ H', Nx H' → ∃ m', m' < m ∧ W (i + 1) m' H') ∧ ∀ x H', J.yld i H x H' → g x (wipe σ vs) H' fun σ2 H2 => wipe σ2 vs = wipe σ vs ∧
    wi1 σ2 H2 fun J1 H4 => ∃ W1 : Nat → Nat → Hp → Prop, (∃ m, W1 0 m H4) ∧ ∀ j k H, W1 j k H →
      (J1.stop j H ∧ Nx H) ∨ (J1.go j H ∧ ∃ N1 : Hp → Prop, (∀ H', N1 H' → ∃ k', k' < k ∧ W1 (j + 1) k' H') ∧ ∀ x H', J1.yld j H x H' → g1 x (wipe σ2 vs1) H' fun σ3 H5 => wipe σ3 vs1 = wipe σ2 vs1 ∧
        te σ3 H5 fun y H7 => ∃ (c : Int) (T : Int → Bool) (n : Nat), y = .int c ∧ H7 p = some (SetO w p T n) ∧ n + 1 < scanBound ∧ N1 (upd H7 p (SetO w p (fun j => T j || decide (j = c)) (if T c = true then n else n + 1)))))
theorem sc2_core {pins : List (Addr × Obj)} {s : Shared} {σ : L2.St} {H : Hp} {Q : VK} {elt tg iter tg1 iter1 : Expr} {scope : Scope} {own : List (Str × Nat)} {vs1 : List Nat} {pos pos' : Pos} {wi wi1 : TI} {g g1 : TG} {te : TE} {Qf : Value → Shared → Prop}
    (hc : X.calm = true) (hN : X.N.Nodup) (I : Inv X pins σ H s) (hi : PI X tg iter wi) (ok : BlkOk X.N X.env.scope scope own) (hv : ∀ i ∈ vs1, i ∈ own.map (·.2))
    (hg : ∀ (s : Shared) (H : Hp) (C : Addr) (cl : List (Str × Addr)) (fp : List Addr), PG (X.blk s H scope (compEnvC scope cl C X.env) fp) tg g)
    (he : ∀ (s : Shared) (H : Hp) (C : Addr) (cl : List (Str × Addr)) (fp : List Addr), PE (X.blk s H scope (compEnvC scope cl C X.env) fp) elt te) (hs : ∀ x, foldedSetIterable iter X.env x = pure x)
    (hi1 : ∀ (s : Shared) (H : Hp) (C : Addr) (cl : List (Str × Addr)) (fp : List Addr), PI (X.blk s H scope (compEnvC scope cl C X.env) fp) tg1 iter1 wi1)
    (hg1 : ∀ (s : Shared) (H : Hp) (C : Addr) (cl : List (Str × Addr)) (fp : List Addr), PG (X.blk s H scope (compEnvC scope cl C X.env) fp) tg1 g1)
    (hs1 : ∀ env x, foldedSetIterable iter1 env x = pure x) (h : tSc2 X.w wi g wi1 g1 te (own.map (·.2)) vs1 σ H Q)
    (fin : ∀ p C u m H', Inv X pins σ H' u → Q (.ref p) H' → u.heap.Ns C m → FpOk X pins H' C → compPost (model X.prog X.w) X.A X.xe none Qf (.ref p) C (.ok .next) u) :
    wpAny (model X.prog X.w) X.A (comprehension (two elt tg iter tg1 iter1 scope pos) scope X.env pos' (newSet (.type "set")) false (eval iter X.env) none) Qf X.xe s := by
  have fr : ∀ y ∈ scope.names, y.2 = .free → ∃ c, X.env.cells.lookup y.1 = some c := fun y hy e => (ok.free y hy e).elim (fun k => I.ok.has _ (.inl k)) fun k => I.ok.has _ (.inr k)
  refine wpAny_comprehension_free (use := none) rfl hs (closure_ok fr) ok.kind (fun y hy e => by rw [ok.uniq y hy, e]) (thn (hi.run pins s σ H _ I h) fun xv s1 hx => thn hx fun zv s2 h2 => ?_)
  obtain ⟨it, fp, tn, J, H2, e, I2, T, st2, f2, q⟩ := h2
  subst e
  refine PpSet.newSet_ok (newEnv_comp ?_)
  generalize hp : s2.heap.objs.size = p
  have hpn : H2 p = none := I2.hok.fresh (Nat.le_of_eq hp)
  obtain ⟨W, ⟨m0, w0⟩, turn⟩ := q p hpn
  generalize e3 : ({ s2 with heap := s2.heap.push { cls := .type "set", dict := none, data := .set #[] 0 (.fresh 0 0 (!X.w.params.followText "set-order")) } } : Shared) = s3
  have I3 : Inv X pins σ (upd H2 p (SetO X.w p (fun _ => false) 0)) s3 := by
    rw [← e3]
    refine I2.laid (t' := s2.toks) (fun b o z => Heap.get?_push_of_some _ z) (Nat.le_of_eq hp) ?_
    rw [← hp]
    exact setO_new (setR_fresh X.w)
  have h3 : s3.heap = s2.heap.push { cls := .type "set", dict := none, data := .set #[] 0 (.fresh 0 0 (!X.w.params.followText "set-order")) } := by rw [← e3]
  have f3 : ∀ b ∈ fp, FpOk X pins (upd H2 p (SetO X.w p (fun _ => false) 0)) b ∧ b < s3.heap.objs.size := fun b hb => by
    have lt : b < s2.heap.objs.size := by
      obtain ⟨o, z, _⟩ := T.obj _ _ st2 b hb
      exact Heap.lt_size z
    refine ⟨⟨?_, (f2 b hb).2⟩, by rw [h3, Heap.size_push]; exact Nat.lt_succ_of_lt lt⟩
    rw [upd_ne (by rw [← hp]; exact Nat.ne_of_lt lt)]
    exact (f2 b hb).1
  have st3 : tn 0 s3.heap := T.keep _ _ _ st2 fun b _ o z => by rw [h3]; exact Heap.get?_push_of_some _ z
  have I4 := block_start I3 ok hN f3
  generalize hH3 : upd H2 p (SetO X.w p (fun _ => false) 0) = H3 at I3 I4 w0 f3
  generalize hcl : cellsFrom (s3.heap.objs.size + 1) scope.names (cloFrom X.env.cells scope.names []) = cl at I4 ⊢
  have pg := hg s3 H3 s3.heap.objs.size cl fp
  have pe := he s3 H3 s3.heap.objs.size cl fp
  have pi1 := hi1 s3 H3 s3.heap.objs.size cl fp
  have pg1 := hg1 s3 H3 s3.heap.objs.size cl fp
  have nfp : ∀ b ∈ fp, H3 b = none := fun b hb => (f3 b hb).1.1
  show codeAny _ _ (.compStart (two elt tg iter tg1 iter1 scope pos) 0 (.ref it) (.ref p) (compEnvC scope cl s3.heap.objs.size X.env)) (compPost (model X.prog X.w) X.A X.xe none Qf (.ref p) s3.heap.objs.size) { s3 with heap := pushCells (s3.heap.push { cls := .type "dict", data := .dict #[] }) scope.names }
  generalize hce : compEnvC scope cl s3.heap.objs.size X.env = ce at I4 pg pe pi1 pg1 ⊢
  have cL : ce.locals = s3.heap.objs.size := by subst hce; rfl
  generalize e4 : ({ s3 with heap := pushCells (s3.heap.push { cls := .type "dict", data := .dict #[] }) scope.names } : Shared) = s4 at I4 ⊢
  have st4 : tn 0 s4.heap := T.keep _ _ _ st3 fun b _ o z => by rw [← e4]; exact pushCells_keeps _ _ _ _ (Heap.get?_push_of_some _ z)
  have stat : ∀ {σ' : L2.St} {H' : Hp} {u : Shared}, Inv (X.blk s3 H3 scope ce fp) [] σ' H' u → (∀ b ∈ fp, H' b = none) → ∀ b ∈ fp, FpOk (X.blk s3 H3 scope ce fp) [] H' b := fun {σ' H' u} I' hn b hb =>
    ⟨hn b hb, (I'.ok.exf b hb).1, I'.ok.exfs b hb, .inl hb, fun x c z => (I'.ok.exf b hb).2 x c z, fun r hr => absurd (show r ∈ ([] : List (Addr × Obj)) ++ [] from hr) (by simp)⟩
  have loop : codeAny (model X.prog X.w) X.A (.compLoop (two elt tg iter tg1 iter1 scope pos) 0 (.ref it) (.ref p) ce) (compPost (model X.prog X.w) X.A X.xe none Qf (.ref p) s3.heap.objs.size) s4 := by
    refine loop0 (hs1 ce) (fun n u => ∃ i H', Inv (X.blk s3 H3 scope ce fp) [] (wipe σ (own.map (·.2))) H' u ∧ tn i u.heap ∧ (∀ b ∈ fp, H' b = none) ∧ W i n H') ?_ m0 ⟨0, H3, I4, st4, nfp, w0⟩
    rintro n s5 ⟨i, H5, I5, st5, n5, w5⟩
    rcases turn i n H5 w5 with ⟨stop, qq⟩ | ⟨go, Nx, hNx, step⟩
    · refine thnF (T.done (X.blk s3 H3 scope ce fp) rfl rfl rfl hc i [] s5 _ H5 (fun _ _ => False) I5 (stat I5 n5) st5 stop) fun r s6 ⟨hr, I6⟩ => ?_
      subst hr
      have I7 : Inv X pins σ H5 s6 := I3.call' (ch := fp) I6.os I6.base I6.hok I6.bare fun b hb => ⟨(f3 b hb).1.2.2.2.1, (f3 b hb).1.2.1, (f3 b hb).1.2.2.2.2.1, (f3 b hb).1.2.2.2.2.2⟩
      have nC : H5 s3.heap.objs.size = none := by
        rw [← cL]
        exact I6.free
      obtain ⟨m, hn, _⟩ := I6.loc
      have hn2 : s6.heap.Ns ce.locals m := hn
      rw [cL] at hn2
      exact fin p s3.heap.objs.size s6 m H5 I7 qq hn2 (I3.fpOk (Nat.le_refl _) nC)
    · refine thnF (T.item (X.blk s3 H3 scope ce fp) rfl rfl rfl hc i [] s5 _ H5 (fun _ _ => False) I5 (stat I5 n5) st5 go) fun r s6 ⟨u, hr, h6⟩ => ?_
      subst hr
      refine thnF h6 fun _ s7 ⟨x, H7, I7, r7, y7, st7, n7⟩ => ?_
      have I7' := I7.pinned (stat I7 n7) (T.obj _ _ st7)
      refine thnF (pg.run _ s7 _ H7 x u _ I7' r7 (step x H7 y7)) fun _ s8 ⟨σ8, H8, I8, hw8, q8⟩ => ?_
      have done : ∀ {σ9 : L2.St} {u : Shared} {H' : Hp}, Inv (X.blk s3 H3 scope ce fp) ([] ++ pinsAt fp s7.heap) σ9 H' u → (wipe σ (own.map (·.2))).length = σ9.length → (∀ (j : Nat) v, (wipe σ (own.map (·.2)))[j]? = some (some v) → σ9[j]? = some (some v)) → Nx H' →
          ∃ m, m < n ∧ ∃ i H', Inv (X.blk s3 H3 scope ce fp) [] (wipe σ (own.map (·.2))) H' u ∧ tn i u.heap ∧ (∀ b ∈ fp, H' b = none) ∧ W i m H' := fun {σ9 u H'} I' hl hk nx => by
        obtain ⟨m', hm, w'⟩ := hNx H' nx
        have pin : ∀ b ∈ fp, ∀ o, s7.heap.get? b = some o → u.heap.get? b = some o ∧ H' b = none := fun b hb o z =>
          ⟨(I'.pin (b, o) (List.mem_append_right _ (List.mem_append_right _ (mem_pinsAt hb z)))).1, (I'.pin (b, o) (List.mem_append_right _ (List.mem_append_right _ (mem_pinsAt hb z)))).2.1⟩
        refine ⟨m', hm, i + 1, H', (I'.unpinned (pins := [])).weak hl hk, T.keep _ _ _ st7 fun b hb o z => (pin b hb o z).1, fun b hb => ?_, w'⟩
        obtain ⟨o, z, _⟩ := T.obj _ _ st7 b hb
        exact (pin b hb o z).2
      have hl8 : (wipe σ (own.map (·.2))).length = σ8.length := by rw [← hw8, wipe_length]
      have hk9 : ∀ (j : Nat) v, (wipe σ (own.map (·.2)))[j]? = some (some v) → (wipe σ8 vs1)[j]? = some (some v) := fun j v z => by
        rw [← hw8] at z
        obtain ⟨z1, z2⟩ := wipe_some z
        rw [wipe_out fun k => z2 (hv j k)]
        exact z1
      refine thnF (pi1.run _ s8 σ8 H8 _ I8 q8) fun xv s10 hx => thnF hx fun zv s11 h11 => ?_
      obtain ⟨it1, fp1, tn1, J1, H11, e1, I11, T1, st11, f11, W1, ⟨m1, w1⟩, turn1⟩ := h11
      subst e1
      have stat1 : ∀ {H' : Hp}, (∀ b ∈ fp1, H' b = none) → ∀ b ∈ fp1, FpOk (X.blk s3 H3 scope ce fp) ([] ++ pinsAt fp s7.heap) H' b := fun hn b hb => ⟨hn b hb, (f11 b hb).2⟩
      have inner : codeAny (model X.prog X.w) X.A (.compLoop (two elt tg iter tg1 iter1 scope pos) 1 (.ref it1) (.ref p) ce) (fun r u => match r with
          | .ok _ => ∃ m, m < n ∧ ∃ i H', Inv (X.blk s3 H3 scope ce fp) [] (wipe σ (own.map (·.2))) H' u ∧ tn i u.heap ∧ (∀ b ∈ fp, H' b = none) ∧ W i m H'
          | .error _ => False) s11 := by
        refine loop1 (fun k u => ∃ j H', Inv (X.blk s3 H3 scope ce fp) ([] ++ pinsAt fp s7.heap) (wipe σ8 vs1) H' u ∧ tn1 j u.heap ∧ (∀ b ∈ fp1, H' b = none) ∧ W1 j k H') ?_ m1 ⟨0, H11, I11.weak (wipe_length _ _) (fun j v z => (wipe_some z).1), st11, fun b hb => (f11 b hb).1, w1⟩
        rintro k s12 ⟨j, H12, I12, st12, n12, w12⟩
        rcases turn1 j k H12 w12 with ⟨stop1, nx1⟩ | ⟨go1, N1, hN1, step1⟩
        · refine thnF (T1.done (X.blk s3 H3 scope ce fp) rfl rfl rfl hc j _ s12 (wipe σ8 vs1) H12 (fun _ _ => False) I12 (stat1 n12) st12 stop1) fun r s13 ⟨hr, I13⟩ => ?_
          subst hr
          exact done I13 (hl8.trans (wipe_length σ8 vs1).symm) hk9 nx1
        · refine thnF (T1.item (X.blk s3 H3 scope ce fp) rfl rfl rfl hc j _ s12 (wipe σ8 vs1) H12 (fun _ _ => False) I12 (stat1 n12) st12 go1) fun r s13 ⟨u1, hr, h13⟩ => ?_
          subst hr
          refine thnF h13 fun _ s14 ⟨x1, H14, I14, r14, y14, st14, n14⟩ => ?_
          have I14' := I14.pinned (stat1 n14) (T1.obj _ _ st14)
          refine thnF (pg1.run _ s14 (wipe σ8 vs1) H14 x1 u1 _ I14' r14 (step1 x1 H14 y14)) fun _ s15 ⟨σ15, H15, I15, hw15, q15⟩ => ?_
          refine thnF (pe.run _ s15 σ15 H15 _ I15 q15) fun z s17 ⟨yv, H17, I17, r17, c0, T0, n0, ey, hD17, hz17, nx⟩ => ?_
          subst ey
          obtain ⟨tk, rfl⟩ := r17
          refine add_ok (X := X.blk s3 H3 scope ce fp) I17 hD17 hz17 fun s18 I18 => ?_
          obtain ⟨k', lk, w'⟩ := hN1 _ nx
          have pin : ∀ b ∈ fp1, ∀ o, s14.heap.get? b = some o → s18.heap.get? b = some o ∧ upd H17 p (SetO X.w p (fun j => T0 j || decide (j = c0)) (if T0 c0 = true then n0 else n0 + 1)) b = none := fun b hb o z =>
            ⟨(I18.pin (b, o) (List.mem_append_right _ (List.mem_append_right _ (mem_pinsAt hb z)))).1, (I18.pin (b, o) (List.mem_append_right _ (List.mem_append_right _ (mem_pinsAt hb z)))).2.1⟩
          refine ⟨k', lk, j + 1, _, I18.unpinned.weak (by rw [← hw15, wipe_length]) (fun j v z => by rw [← hw15] at z; exact (wipe_some z).1), T1.keep _ _ _ st14 fun b hb o z => (pin b hb o z).1, fun b hb => ?_, w'⟩
          obtain ⟨o, z, _⟩ := T1.obj _ _ st14 b hb
          exact (pin b hb o z).2
      exact start1 inner (T1.self X.A 0 _ _ _ st11 inner)
  exact PpSet.codeAny_compStart_set loop (T.self X.A 0 _ _ _ st4 loop)
theorem pe_sc2 {elt tg iter tg1 iter1 : Expr} {scope : Scope} {own : List (Str × Nat)} {vs1 : List Nat} {pos : Pos} {wi wi1 : TI} {g g1 : TG} {te : TE} {w : World} (hw : X.w = w) (hc : X.calm = true) (hN : X.N.Nodup) (hi : PI X tg iter wi) (ok : BlkOk X.N X.env.scope scope own) (hv : ∀ i ∈ vs1, i ∈ own.map (·.2))
    (hg : ∀ (s : Shared) (H : Hp) (C : Addr) (cl : List (Str × Addr)) (fp : List Addr), PG (X.blk s H scope (compEnvC scope cl C X.env) fp) tg g)
    (hi1 : ∀ (s : Shared) (H : Hp) (C : Addr) (cl : List (Str × Addr)) (fp : List Addr), PI (X.blk s H scope (compEnvC scope cl C X.env) fp) tg1 iter1 wi1)
    (hg1 : ∀ (s : Shared) (H : Hp) (C : Addr) (cl : List (Str × Addr)) (fp : List Addr), PG (X.blk s H scope (compEnvC scope cl C X.env) fp) tg1 g1)
    (he : ∀ (s : Shared) (H : Hp) (C : Addr) (cl : List (Str × Addr)) (fp : List Addr), PE (X.blk s H scope (compEnvC scope cl C X.env) fp) elt te) (hs : ∀ x, foldedSetIterable iter X.env x = pure x := by intro _; rfl) (hs1 : ∀ env x, foldedSetIterable iter1 env x = pure x := by intro _ _; rfl) :
    PE X (two elt tg iter tg1 iter1 scope pos) (tSc2 w wi g wi1 g1 te (own.map (·.2)) vs1) := by
  subst hw
  refine ⟨fun pins s σ H Q I h => ?_⟩
  rw [PpSet.eval_SetComp]
  refine sc2_core hc hN I hi ok hv hg he hs hi1 hg1 hs1 h fun p C u m H' I' q hn f => ⟨m, hn, fun h2 sb => ?_⟩
  obtain ⟨f0, f1, f2, f3, f4, f5⟩ := f
  exact ⟨.ref p, H', I'.turned (t' := u.toks) (fun b o hb e => (sb.2 b hb).trans e) f0 f1 f3 f4 f5, rfl, q⟩
end
end Sc

/-! sorted({.. for .. for ..}) over the data. -/
namespace Pl
open PySem PySem.Spec PyProof.Rows L2
open Evl (Ex)
variable {K : PySem.W.Frag} {ρ : Rho}
/-- at p the set of ks, which are of ms -/
def Held (w : World) (H : Hp) (p : Addr) (ms ks : List Int) : Prop := ∃ T : Int → Bool, H p = some (SetO w p T ks.length) ∧ ks.Nodup ∧ (∀ k, T k = true ↔ k ∈ ks) ∧ ∀ k ∈ ks, k ∈ ms
theorem Held.small {w : World} {H : Hp} {p : Addr} {ms ks : List Int} (h : Held w H p ms ks) : ks.length ≤ ms.length := by
  obtain ⟨T, _, nd, _, hs⟩ := h
  exact List.Nodup.length_le_of_subset nd fun k hk => hs k hk
theorem Held.add {w : World} {H : Hp} {p : Addr} {ms ks : List Int} {c : Int} {T : Int → Bool} (nd : ks.Nodup) (hT : ∀ k, T k = true ↔ k ∈ ks) (hs : ∀ k ∈ ks, k ∈ ms) (hc : c ∈ ms) :
    ∃ ks', Held w (upd H p (SetO w p (fun j => T j || decide (j = c)) (if T c = true then ks.length else ks.length + 1))) p ms ks' ∧ ∀ k, k ∈ ks' ↔ k ∈ ks ∨ k = c := by
  by_cases h : T c = true
  · refine ⟨ks, ⟨fun j => T j || decide (j = c), ?_, nd, fun k => ?_, hs⟩, fun k => ⟨.inl, fun z => ?_⟩⟩
    · rw [if_pos h]
      exact upd_same
    · rw [Bool.or_eq_true, decide_eq_true_eq, hT k]
      exact ⟨fun z => z.elim id fun e => by rw [e]; exact (hT c).mp h, .inl⟩
    · rcases z with z | z
      · exact z
      · rw [z]
        exact (hT c).mp h
  · have hn : c ∉ ks := fun z => h ((hT c).mpr z)
    refine ⟨c :: ks, ⟨fun j => T j || decide (j = c), ?_, List.nodup_cons.mpr ⟨hn, nd⟩, fun k => ?_, fun k hk => ?_⟩, fun k => ?_⟩
    · rw [if_neg h]
      exact upd_same
    · rw [Bool.or_eq_true, decide_eq_true_eq, hT k, List.mem_cons]
      exact Or.comm
    · rcases List.mem_cons.mp hk with z | z
      · rw [z]
        exact hc
      · exact hs k z
    · rw [List.mem_cons]
      exact Or.comm
theorem evF_sortedSc2 {w : World} {wi wi1 : TI} {g g1 : TG} {te : TE} {vs vs1 : List Nat} {ds : List D} (hi : EvI K wi ρ ds) (ps : D → List (Nat × D)) (es : D → List D) (ps1 : D → D → List (Nat × D)) (num : D → D → Int) (ms : List Int)
    (hg : ∀ d ∈ ds, EvG K g d (ps d)) (hs : ∀ d ∈ ds, ∀ p ∈ ps d, p.1 ∈ vs) (hi1 : ∀ d ∈ ds, EvI K wi1 (setR (wipeR ρ vs) (ps d)) (es d))
    (hg1 : ∀ d ∈ ds, ∀ e ∈ es d, EvG K g1 e (ps1 d e)) (hs1 : ∀ d ∈ ds, ∀ e ∈ es d, ∀ p ∈ ps1 d e, p.1 ∈ vs1) (he : ∀ d ∈ ds, ∀ e ∈ es d, EvD K te (setR (wipeR (setR (wipeR ρ vs) (ps d)) vs1) (ps1 d e)) (.int (num d e)))
    (hp : ms.Pairwise (· < ·)) (h64 : ms.length < 64) (hm : ∀ k, k ∈ ms ↔ ∃ d ∈ ds, ∃ e ∈ es d, num d e = k) :
    EvF K (tCB (rSortedSet w) (tCons (Sc.tSc2 w wi g wi1 g1 te vs vs1) tNil)) ρ (ms.map D.int) := fun S H σ ee v Q q =>
  hi S H σ ee v _ fun J S1 H1 x1 wk => fun p hpn => by
    refine ⟨fun i m H' => m = ds.length - i ∧ i ≤ ds.length ∧ ∃ S' ks, Ext S1 H1 S' H' ∧ S' p = none ∧ Held w H' p ms ks ∧ ∀ k, k ∈ ks ↔ ∃ d ∈ ds.take i, ∃ e ∈ es d, num d e = k,
      ⟨ds.length, by simp, Nat.zero_le _, S1, [], Ext.hid x1.sub hpn, sub_none x1.sub hpn, ⟨fun _ => false, upd_same, List.nodup_nil, fun k => by simp, fun k hk => by cases hk⟩, fun k => by simp⟩, ?_⟩
    rintro i m H' ⟨rfl, hi', S', ks, x, nS, hh, hk⟩
    by_cases hlt : i < ds.length
    · have hd : ds[i]? = some ds[i] := List.getElem?_eq_getElem hlt
      have hmem : ds[i] ∈ ds := List.getElem_mem hlt
      refine .inr ⟨wk.go S' H' i x.s x.sub hlt, fun H2 => ∃ S2 ks2, Ext S1 H1 S2 H2 ∧ S2 p = none ∧ Held w H2 p ms ks2 ∧ ∀ k, k ∈ ks2 ↔ ∃ d ∈ ds.take (i + 1), ∃ e ∈ es d, num d e = k, fun H2 z => ⟨ds.length - (i + 1), by omega, rfl, hlt, z⟩, fun xv H'' y => ?_⟩
      obtain ⟨S2, x2, r2⟩ := wk.yld S' H' i xv H'' ds[i] x.s x.sub hd y
      obtain ⟨T, hT1, nd, hT2, hT3⟩ := hh
      have nl : ∀ {S3 H3 : Hp}, Ext S2 H'' S3 H3 → S3 p = none := fun x3 => x3.dis p (x2.dis p nS (by rw [hT1]; exact fun z => nomatch z)) (by rw [x2.h p _ hT1]; exact fun z => nomatch z)
      refine hg _ hmem S2 H'' _ xv x2.sub r2 _ fun ws rws => ⟨?_, ?_⟩
      · rw [wipe_setV fun j hj => by
          obtain ⟨r, hr, rfl⟩ := List.mem_map.mp hj
          exact hs _ hmem r hr, wipe_wipe]
      have ev : Env K S2 (setV (L2.wipe σ vs) ((ps ds[i]).map (·.1)) ws) (setR (wipeR ρ vs) (ps ds[i])) := (((v.mono ((x1.s.trans x.s).trans x2.s)).wipe vs)).setV rws
      refine hi1 _ hmem S2 H'' _ x2.sub ev _ fun J1 S4 H4 x4 wk1 => ?_
      refine ⟨fun j n H5 => n = (es ds[i]).length - j ∧ j ≤ (es ds[i]).length ∧ ∃ S5 ks5, Ext S1 H1 S5 H5 ∧ Ex S4 S5 ∧ S5 p = none ∧ Held w H5 p ms ks5 ∧ ∀ k, k ∈ ks5 ↔ (∃ d ∈ ds.take i, ∃ e ∈ es d, num d e = k) ∨ ∃ e ∈ (es ds[i]).take j, num ds[i] e = k,
        ⟨_, rfl, Nat.zero_le _, S4, ks, (x.trans x2).trans x4, Ex.refl S4, nl x4, ⟨T, x4.h _ _ (x2.h _ _ hT1), nd, hT2, hT3⟩, fun k => by rw [hk k]; simp⟩, ?_⟩
      rintro j n H5 ⟨rfl, hj, S5, ks5, x5, e5, n5, hh5, hk5⟩
      by_cases hjl : j < (es ds[i]).length
      · have hje : (es ds[i])[j]? = some (es ds[i])[j] := List.getElem?_eq_getElem hjl
        have hjm : (es ds[i])[j] ∈ es ds[i] := List.getElem_mem hjl
        refine .inr ⟨wk1.go S5 H5 j e5 x5.sub hjl, fun H6 => ∃ S6 ks6, Ext S1 H1 S6 H6 ∧ Ex S4 S6 ∧ S6 p = none ∧ Held w H6 p ms ks6 ∧ ∀ k, k ∈ ks6 ↔ (∃ d ∈ ds.take i, ∃ e ∈ es d, num d e = k) ∨ ∃ e ∈ (es ds[i]).take (j + 1), num ds[i] e = k, fun H6 z => ⟨(es ds[i]).length - (j + 1), by omega, rfl, hjl, z⟩, fun yv H6 y1 => ?_⟩
        obtain ⟨S6, x6, r6⟩ := wk1.yld S5 H5 j yv H6 _ e5 x5.sub hje y1
        refine hg1 _ hmem _ hjm S6 H6 _ yv x6.sub r6 _ fun us rus => ⟨?_, ?_⟩
        · rw [wipe_setV fun a ha => by
            obtain ⟨r, hr, rfl⟩ := List.mem_map.mp ha
            exact hs1 _ hmem _ hjm r hr, wipe_wipe]
        have ev2 : Env K S6 _ (setR (wipeR (setR (wipeR ρ vs) (ps ds[i])) vs1) (ps1 ds[i] (es ds[i])[j])) := ((ev.mono ((x4.s.trans e5).trans x6.s)).wipe vs1).setV rus
        refine he _ hmem _ hjm S6 H6 _ x6.sub ev2 _ fun zv S7 H7 x7 r7 => ?_
        cases r7
        obtain ⟨T5, g1', g2, g3, g4⟩ := hh5
        have small : ks5.length ≤ ms.length := List.Nodup.length_le_of_subset g2 fun k hk => g4 k hk
        have x67 := x6.trans x7
        have hp7 : H7 p = some (SetO w p T5 ks5.length) := x67.h _ _ g1'
        have n7 : S7 p = none := x67.dis p n5 (by rw [g1']; exact fun z => nomatch z)
        have hcm : num ds[i] (es ds[i])[j] ∈ ms := (hm _).mpr ⟨_, hmem, _, hjm, rfl⟩
        obtain ⟨ks7, hh7, hk7⟩ := Held.add (w := w) (H := H7) (p := p) g2 g3 g4 hcm
        refine ⟨_, T5, ks5.length, rfl, hp7, by unfold scanBound; omega, S7, ks7, ?_, e5.trans x67.s, n7, hh7, fun k => ?_⟩
        · have xx := x5.trans x67
          refine ⟨xx.s, fun a o ha => ?_, fun a o ha => ?_, xx.dis⟩
          · rw [upd_ne (ne_of_none ha hpn)]
            exact xx.h a o ha
          · rw [upd_ne fun z => by rw [z, n7] at ha; cases ha]
            exact xx.sub a o ha
        · rw [hk7 k, hk5 k, ← List.take_append_getElem hjl]
          constructor
          · rintro ((h | ⟨e, he', h⟩) | h)
            · exact .inl h
            · exact .inr ⟨e, List.mem_append_left _ he', h⟩
            · exact .inr ⟨_, List.mem_append_right _ (List.mem_singleton.mpr rfl), h.symm⟩
          · rintro (h | ⟨e, he', h⟩)
            · exact .inl (.inl h)
            · rcases List.mem_append.mp he' with z | z
              · exact .inl (.inr ⟨e, z, h⟩)
              · rw [List.mem_singleton.mp z] at h
                exact .inr h.symm
      · have e0 : j = (es ds[i]).length := by omega
        subst e0
        refine .inl ⟨wk1.stop S5 H5 e5 x5.sub, S5, ks5, x5, n5, hh5, fun k => ?_⟩
        rw [hk5 k, List.take_length, ← List.take_append_getElem hlt]
        constructor
        · rintro (⟨d, hd', h⟩ | h)
          · exact ⟨d, List.mem_append_left _ hd', h⟩
          · exact ⟨_, List.mem_append_right _ (List.mem_singleton.mpr rfl), h⟩
        · rintro ⟨d, hd', h⟩
          rcases List.mem_append.mp hd' with z | z
          · exact .inl ⟨d, z, h⟩
          · rw [List.mem_singleton.mp z] at h
            exact .inr h
    · have e0 : i = ds.length := by omega
      subst e0
      obtain ⟨T, hT1, nd, hT2, hT3⟩ := hh
      have kk : ∀ k, k ∈ ks ↔ k ∈ ms := fun k => by rw [hk k, hm k, List.take_length]
      have small : ks.length ≤ ms.length := List.Nodup.length_le_of_subset nd fun k hk' => hT3 k hk'
      refine .inl ⟨wk.stop S' H' x.s x.sub, p, T, ks.length, rfl, hT1, by omega, fun ys p2 py my ly hp2 => ?_⟩
      have ey : ys = ms := Sx.rise_one py hp fun k => by rw [my k, hT2 k, kk k]
      subst ey
      have x2 := x1.trans x
      exact q p2 _ S' _ (x2.trans (Ext.hid x2.sub hp2)) (Evl.fresh_back x2.h hp2) (sub_none x2.sub hp2) upd_same (RdL.ofInts ys)
end Pl

/-! Things that are changed in place: a region of trees, each object of it at one place alone. -/
namespace Pl
open PySem PySem.Spec PyProof.Rows L2
open Evl (Ex)

inductive Shp where
  | lst | dic (ks : List L2.Key) | ins (C : Addr) (fs : List Str)
inductive M where
  | d (d : D) | n (s : Shp) (ms : List M)
def Shp.ho (s : Shp) (o : HO) (vs : List V) : Prop := match s with
  | .lst => o = .lst vs
  | .dic ks => ks.length = vs.length ∧ o = .dK (ks.zip vs)
  | .ins C fs => fs.length = vs.length ∧ ∃ dx, o = .ins C dx (fs.zip vs)
mutual
inductive Own (K : PySem.W.Frag) (S H : Hp) : V → M → List Addr → Prop
  | d {v : V} {d : D} : Rd K S v d → Own K S H v (.d d) []
  | n {a : Addr} {o : HO} {s : Shp} {vs : List V} {ms : List M} {fp : List Addr} : H a = some o → s.ho o vs → OwnL K S H vs ms fp → Own K S H (.ref a) (.n s ms) (a :: fp)
inductive OwnL (K : PySem.W.Frag) (S H : Hp) : List V → List M → List Addr → Prop
  | nil : OwnL K S H [] [] []
  | cons {v : V} {vs : List V} {m : M} {ms : List M} {f g : List Addr} : Own K S H v m f → OwnL K S H vs ms g → OwnL K S H (v :: vs) (m :: ms) (f ++ g)
end
section
variable {K : PySem.W.Frag} {S S' H H' : Hp}
mutual
theorem Own.mono (e : Ex S S') : ∀ {v : V} {m : M} {fp : List Addr}, Own K S H v m fp → (∀ a ∈ fp, H' a = H a) → Own K S' H' v m fp
  | _, _, _, .d h, _ => .d (h.mono e)
  | _, _, _, .n h s r, k => .n (by rw [k _ List.mem_cons_self]; exact h) s (OwnL.mono e r fun a ha => k a (List.mem_cons_of_mem _ ha))
theorem OwnL.mono (e : Ex S S') : ∀ {vs : List V} {ms : List M} {fp : List Addr}, OwnL K S H vs ms fp → (∀ a ∈ fp, H' a = H a) → OwnL K S' H' vs ms fp
  | _, _, _, .nil, _ => .nil
  | _, _, _, .cons h r, k => .cons (Own.mono e h fun a ha => k a (List.mem_append_left _ ha)) (OwnL.mono e r fun a ha => k a (List.mem_append_right _ ha))
end
mutual
theorem Own.lays : ∀ {v : V} {m : M} {fp : List Addr}, Own K S H v m fp → ∀ a ∈ fp, H a ≠ none
  | _, _, _, .d _, a, ha => nomatch ha
  | _, _, _, .n h _ r, a, ha => by
    rcases List.mem_cons.mp ha with e | ha
    · rw [e, h]; exact fun z => nomatch z
    · exact OwnL.lays r a ha
theorem OwnL.lays : ∀ {vs : List V} {ms : List M} {fp : List Addr}, OwnL K S H vs ms fp → ∀ a ∈ fp, H a ≠ none
  | _, _, _, .nil, a, ha => nomatch ha
  | _, _, _, .cons h r, a, ha => by
    rcases List.mem_append.mp ha with ha | ha
    · exact Own.lays h a ha
    · exact OwnL.lays r a ha
end
theorem OwnL.length : ∀ {vs : List V} {ms : List M} {fp : List Addr}, OwnL K S H vs ms fp → vs.length = ms.length
  | _, _, _, .nil => rfl
  | _, _, _, .cons _ r => congrArg (· + 1) r.length
theorem OwnL.append : ∀ {vs ws : List V} {ms ns : List M} {f g : List Addr}, OwnL K S H vs ms f → OwnL K S H ws ns g → OwnL K S H (vs ++ ws) (ms ++ ns) (f ++ g)
  | _, _, _, _, _, _, .nil, s => s
  | _, _, _, _, _, _, .cons h r, s => by rw [List.append_assoc]; exact .cons h (OwnL.append r s)
theorem OwnL.split : ∀ {vs ws : List V} {ms ns : List M} {f : List Addr}, vs.length = ms.length → OwnL K S H (vs ++ ws) (ms ++ ns) f → ∃ f1 f2, f = f1 ++ f2 ∧ OwnL K S H vs ms f1 ∧ OwnL K S H ws ns f2
  | [], _, [], _, f, _, h => ⟨[], f, rfl, .nil, h⟩
  | _ :: vs, _, _ :: ms, _, _, l, .cons h r => by
    obtain ⟨f1, f2, rfl, h1, h2⟩ := OwnL.split (vs := vs) (ms := ms) (Nat.succ.inj l) r
    exact ⟨_, _, (List.append_assoc _ _ _).symm, .cons h h1, h2⟩
/-- plain data -/
theorem OwnL.ofD : ∀ {vs : List V} {ds : List D}, RdL K S vs ds → OwnL K S H vs (ds.map M.d) []
  | _, _, .nil => .nil
  | _, _, .cons h r => by
    have z := OwnL.cons (Own.d (H := H) h) (OwnL.ofD r)
    exact z
theorem OwnL.toD : ∀ {vs : List V} {ds : List D} {f : List Addr}, OwnL K S H vs (ds.map M.d) f → f = [] ∧ RdL K S vs ds
  | _, [], _, .nil => ⟨rfl, .nil⟩
  | _, _ :: _, _, .cons h r => by
    cases h with
    | d h =>
      obtain ⟨e, r'⟩ := OwnL.toD r
      subst e
      exact ⟨rfl, .cons h r'⟩
end
/-! ### places within a tree -/
def M.at : List Nat → M → Option M
  | [], m => some m
  | i :: π, .n _ ms => match ms[i]? with
    | some m => M.at π m
    | none => none
  | _ :: _, .d _ => none
def M.put (x : M) : List Nat → M → M
  | [], _ => x
  | i :: π, .n s ms => match ms[i]? with
    | some m => .n s (ms.set i (M.put x π m))
    | none => .n s ms
  | _ :: _, M.d z => M.d z
inductive Loc (H : Hp) : V → M → List Nat → V → Prop
  | nil {v : V} {m : M} : Loc H v m [] v
  | cons {a : Addr} {o : HO} {s : Shp} {vs : List V} {ms : List M} {i : Nat} {m : M} {v u : V} {π : List Nat} : H a = some o → s.ho o vs → vs[i]? = some v → ms[i]? = some m → Loc H v m π u → Loc H (.ref a) (.n s ms) (i :: π) u
theorem zip_inj {α β : Type} : ∀ {ks : List α} {xs ys : List β}, ks.length = xs.length → ks.length = ys.length → ks.zip xs = ks.zip ys → xs = ys
  | [], [], [], _, _, _ => rfl
  | _ :: ks, x :: xs, y :: ys, h1, h2, e => by
    simp only [List.zip_cons_cons, List.cons.injEq, Prod.mk.injEq, true_and] at e
    rw [e.1, zip_inj (Nat.succ.inj h1) (Nat.succ.inj h2) e.2]
theorem Shp.uniq {s : Shp} {o : HO} {xs ys : List V} (h1 : s.ho o xs) (h2 : s.ho o ys) : xs = ys := by
  cases s with
  | lst =>
    have e1 : o = .lst xs := h1
    have e2 : o = .lst ys := h2
    rw [e1] at e2
    cases e2
    rfl
  | dic ks =>
    obtain ⟨l1, e1⟩ := h1
    obtain ⟨l2, e2⟩ := h2
    rw [e1] at e2
    exact zip_inj l1 l2 (HO.dK.inj e2)
  | ins C fs =>
    obtain ⟨l1, d1, e1⟩ := h1
    obtain ⟨l2, d2, e2⟩ := h2
    rw [e1] at e2
    exact zip_inj l1 l2 (HO.ins.inj e2).2.2
section
variable {K : PySem.W.Frag} {S S' H H' : Hp}
theorem Loc.mono (e : Ex H H') {v u : V} {m : M} {π : List Nat} (h : Loc H v m π u) : Loc H' v m π u := by
  induction h with
  | nil => exact .nil
  | cons h1 h2 h3 h4 _ ih => exact .cons (e _ _ h1) h2 h3 h4 ih
theorem OwnL.focus : ∀ {vs : List V} {ms : List M} {fp : List Addr} {i : Nat} {m : M}, OwnL K S H vs ms fp → ms[i]? = some m → ∃ v f0 f1 f2, vs[i]? = some v ∧ fp = f0 ++ f1 ++ f2 ∧ Own K S H v m f1 ∧
    ∀ (S' H' : Hp) (m' : M) (f1' : List Addr), Ex S S' → (∀ a, a ∈ f0 ∨ a ∈ f2 → H' a = H a) → Own K S' H' v m' f1' → OwnL K S' H' vs (ms.set i m') (f0 ++ f1' ++ f2)
  | _, _, _, _, _, .nil, e => by simp at e
  | _, _, _, 0, _, .cons (v := v) (f := f) (g := g) h r, e => by
    simp at e; subst e
    refine ⟨v, [], f, g, rfl, by simp, h, fun S' H' m' f1' x k o => ?_⟩
    rw [List.nil_append]
    exact .cons o (r.mono x fun a ha => k a (.inr ha))
  | _, _, _, i + 1, _, .cons (v := v) (f := f) (g := g) h r, e => by
    obtain ⟨u, f0, f1, f2, h1, h2, h3, h4⟩ := OwnL.focus (i := i) r (by simpa using e)
    refine ⟨u, f ++ f0, f1, f2, by simpa using h1, by rw [h2]; simp [List.append_assoc], h3, fun S' H' m' f1' x k o => ?_⟩
    have z := OwnL.cons (h.mono x fun a ha => k a (.inl (List.mem_append_left _ ha))) (h4 S' H' m' f1' x (fun a ha => k a (ha.imp (List.mem_append_right _) id)) o)
    simpa [List.append_assoc] using z
theorem Own.focus {v u : V} {m : M} {π : List Nat} (l : Loc H v m π u) : ∀ {fp : List Addr}, Own K S H v m fp → ∃ m1 f0 f1 f2, M.at π m = some m1 ∧ fp = f0 ++ f1 ++ f2 ∧ Own K S H u m1 f1 ∧
    ∀ (S' H' : Hp) (m' : M) (f1' : List Addr), Ex S S' → (∀ a, a ∈ f0 ∨ a ∈ f2 → H' a = H a) → Own K S' H' u m' f1' → Own K S' H' v (M.put m' π m) (f0 ++ f1' ++ f2) := by
  induction l with
  | nil => exact fun {fp} h => ⟨_, [], fp, [], rfl, by simp, h, fun S' H' m' f1' x k o => by simpa [M.put] using o⟩
  | cons h1 h2 h3 h4 l ih =>
    intro fp h
    cases h with
    | n g1 g2 r =>
      rw [h1] at g1
      cases g1
      have e := Shp.uniq h2 g2
      subst e
      obtain ⟨w, f0, f1, f2, k1, k2, k3, k4⟩ := OwnL.focus r h4
      rw [h3] at k1
      cases k1
      obtain ⟨m1, e0, e1, e2, j1, j2, j3, j4⟩ := ih k3
      rename_i a _ _ _ _ _ _ _ _ _ _
      refine ⟨m1, a :: f0 ++ e0, e1, e2 ++ f2, ?_, ?_, j3, fun S' H' m' f1' x k o => ?_⟩
      · simp only [M.at, h4]; exact j1
      · rw [k2, j2]; simp [List.append_assoc]
      · have z := k4 S' H' _ _ x (fun b hb => k b (by
          rcases hb with hb | hb
          · exact .inl (List.mem_append_left _ (List.mem_cons_of_mem _ hb))
          · exact .inr (List.mem_append_right _ hb))) (j4 S' H' m' f1' x (fun b hb => k b (by
          rcases hb with hb | hb
          · exact .inl (List.mem_append_right _ hb)
          · exact .inr (List.mem_append_left _ hb))) o)
        have y := Own.n (K := K) (S := S') (H := H') (by rw [k a (.inl (by simp))]; exact h1) h2 z
        simp only [M.put, h4]
        simpa [List.append_assoc] using y
end
end Pl

/-! The logic of statements that change things in place: slots as before, and a region of trees. -/
namespace Pl
open PySem PySem.Spec PyProof.Rows L2
open Evl (Ex)

abbrev Gs := List (Addr × M)
open Classical in
/-- the base and, of the region, what stands now -/
noncomputable def cov (H0 H : Hp) (fp : List Addr) : Hp := fun a => if a ∈ fp then H a else H0 a
theorem cov_in {H0 H : Hp} {fp : List Addr} {a : Addr} (h : a ∈ fp) : cov H0 H fp a = H a := if_pos h
theorem cov_out {H0 H : Hp} {fp : List Addr} {a : Addr} (h : a ∉ fp) : cov H0 H fp a = H0 a := if_neg h
theorem cov_nil {H0 H : Hp} : cov H0 H [] = H0 := funext fun a => cov_out (fun h => nomatch h)
def gv (g : Gs) : List V := g.map fun x => V.ref x.1
def gm (g : Gs) : List M := g.map (·.2)
section
variable (K : PySem.W.Frag)
structure RG (S0 H0 : Hp) (g : Gs) (S H : Hp) (fp : List Addr) : Prop where
  own : OwnL K S H (gv g) (gm g) fp
  nd : fp.Nodup
  no : ∀ a ∈ fp, H0 a = none ∧ S0 a = none
def SG (S0 H0 : Hp) (ρ : Rho) (g : Gs) (S H : Hp) (σ : L2.St) : Prop := ∃ fp, RG K S0 H0 g S H fp ∧ Stt K S0 (cov H0 H fp) ρ S H σ
end
section
variable {K : PySem.W.Frag} {S0 H0 S H S' H' : Hp} {σ : L2.St} {ρ ρ' : Rho} {g g' : Gs} {fp fp' : List Addr}
/-- from one state to a later one -/
theorem Stt.mv (s : Stt K S0 (cov H0 H fp) ρ S H σ) (no : ∀ a ∈ fp, H0 a = none ∧ S0 a = none) (lays : ∀ a ∈ fp, H a ≠ none) (eS : Ex S S') (eH : Ex S' H')
    (k : ∀ a, a ∉ fp → H a ≠ none → H' a = H a) (dis : ∀ a, a ∉ fp → S a = none → H a ≠ none → S' a = none) (new : ∀ a ∈ fp', (a ∈ fp ∨ H a = none) ∧ S' a = none) : Stt K S0 (cov H0 H' fp') ρ S' H' σ := by
  have base : ∀ a o, H0 a = some o → a ∉ fp ∧ H a = some o := fun a o e => by
    have n : a ∉ fp := fun z => by rw [(no a z).1] at e; cases e
    exact ⟨n, s.ext.h a o (by rw [cov_out n]; exact e)⟩
  refine ⟨⟨s.ext.s.trans eS, fun a o e => ?_, eH, fun a h1 h2 => ?_⟩, s.env.mono eS, fun i ds h => ?_, s.apart⟩
  · by_cases hf : a ∈ fp'
    · rw [cov_in hf] at e; exact e
    · rw [cov_out hf] at e
      obtain ⟨n, h⟩ := base a o e
      rw [k a n (by rw [h]; exact fun z => nomatch z)]
      exact h
  · by_cases hf : a ∈ fp'
    · exact (new a hf).2
    · rw [cov_out hf] at h2
      cases q : H0 a with
      | none => exact absurd q h2
      | some o =>
        obtain ⟨n, h⟩ := base a o q
        have hn : H a ≠ none := by rw [h]; exact fun z => nomatch z
        exact dis a n (s.ext.dis a h1 (by rw [cov_out n]; exact h2)) hn
  · obtain ⟨p, vs, h1, h2, h3, h4, h5⟩ := s.own i ds h
    have hn : H p ≠ none := by rw [h4]; exact fun z => nomatch z
    have n : p ∉ fp := fun z => by rw [cov_in z] at h2; exact hn h2
    refine ⟨p, vs, h1, ?_, dis p n h3 hn, by rw [k p n hn]; exact h4, h5.mono eS⟩
    have n' : p ∉ fp' := fun z => (new p z).1.elim n hn
    rw [cov_out n'] 
    rw [cov_out n] at h2
    exact h2
theorem SG.noS (s : Stt K S0 (cov H0 H fp) ρ S H σ) (r : RG K S0 H0 g S H fp) : ∀ a ∈ fp, S a = none := fun a ha => s.ext.dis a (r.no a ha).2 (by rw [cov_in ha]; exact r.own.lays a ha)
/-- all of the region as it is -/
theorem SG.go (s : SG K S0 H0 ρ g S H σ) (x : Ext S H S' H') : SG K S0 H0 ρ g S' H' σ := by
  obtain ⟨fp, r, s⟩ := s
  have n := SG.noS s r
  have same : ∀ a, H a ≠ none → H' a = H a := fun a ha => by
    cases q : H a with
    | none => exact absurd q ha
    | some o => exact x.h a o q
  exact ⟨fp, ⟨r.own.mono x.s fun a ha => same a (r.own.lays a ha), r.nd, r.no⟩, s.mv r.no r.own.lays x.s x.sub (fun a _ h => same a h) (fun a _ h1 h2 => x.dis a h1 h2) fun a ha => ⟨.inl ha, x.dis a (n a ha) (r.own.lays a ha)⟩⟩
theorem SG.env (s : SG K S0 H0 ρ g S H σ) : Env K S σ ρ := s.elim fun _ z => z.2.env
theorem SG.sub (s : SG K S0 H0 ρ g S H σ) : Ex S H := s.elim fun _ z => z.2.ext.sub
end
/-! ### statements -/
inductive Rs where
  | d (d : D) | o (es : List D) | t (m : M)
section
variable (K : PySem.W.Frag)
def Res (S0 H0 : Hp) (ρ : Rho) (g : Gs) (S H : Hp) (σ : L2.St) (v : V) : Rs → Prop
  | .d d => SG K S0 H0 ρ g S H σ ∧ Rd K S v d
  | .o es => SG K S0 H0 (ρ ++ [.o es]) g S H (σ ++ [some v])
  | .t m => ∃ p, v = .ref p ∧ SG K S0 H0 ρ (g ++ [(p, m)]) S H σ
structure FM where
  nx : Rho → Gs → Prop := fun _ _ => False
  rt : Rs → Gs → Prop := fun _ _ => False
  bk : Rho → Gs → Prop := fun _ _ => False
  ct : Rho → Gs → Prop := fun _ _ => False
structure AccM (S0 H0 S : Hp) (F : FM) (Dd : Ends) : Prop where
  nx : ∀ ρ g S' H' σ, F.nx ρ g → Ex S S' → SG K S0 H0 ρ g S' H' σ → Dd.nx σ H'
  bk : ∀ ρ g S' H' σ, F.bk ρ g → Ex S S' → SG K S0 H0 ρ g S' H' σ → Dd.bk σ H'
  ct : ∀ ρ g S' H' σ, F.ct ρ g → Ex S S' → SG K S0 H0 ρ g S' H' σ → Dd.ct σ H'
  rt : ∀ r g v ρ S' H' σ, F.rt r g → Res K S0 H0 ρ g S' H' σ v r → Dd.rt v H'
def TM (t : TS) (ρ : Rho) (g : Gs) (F : FM) : Prop := ∀ S0 H0 S H σ Dd, SG K S0 H0 ρ g S H σ → AccM K S0 H0 S F Dd → t Dd σ H
/-- an expression that may change the region -/
def EvX (te : TE) (ρ : Rho) (g : Gs) (r : Rs) (g' : Gs) : Prop := ∀ S0 H0 S H σ, SG K S0 H0 ρ g S H σ → ∀ Q : VK, (∀ v S' H', Ex S S' → Res K S0 H0 ρ g' S' H' σ v r → Q v H') → te σ H Q
def EvXT (tt : TT) (ρ : Rho) (g : Gs) (b : Bool) (g' : Gs) : Prop := ∀ S0 H0 S H σ, SG K S0 H0 ρ g S H σ → ∀ Q : Bool → Hp → Prop, (∀ S' H', Ex S S' → SG K S0 H0 ρ g' S' H' σ → Q b H') → tt σ H Q
end
section
variable {K : PySem.W.Frag} {S0 H0 S H S' H' : Hp} {σ : L2.St} {ρ ρ' ρ1 : Rho} {g g' g1 : Gs} {F G : FM} {t u : TS} {te : TE} {c : TT} {d : D} {es ds : List D} {Dd : Ends} {i : Nat} {b : Bool} {r : Rs}
theorem AccM.mono (e : Ex S S') (a : AccM K S0 H0 S F Dd) : AccM K S0 H0 S' F Dd :=
  ⟨fun ρ g S2 H2 σ h x s => a.nx ρ g S2 H2 σ h (e.trans x) s, fun ρ g S2 H2 σ h x s => a.bk ρ g S2 H2 σ h (e.trans x) s, fun ρ g S2 H2 σ h x s => a.ct ρ g S2 H2 σ h (e.trans x) s, a.rt⟩
theorem EvX.of (h : EvD K te ρ d) : EvX K te ρ g (.d d) g := fun S0 H0 S H σ s Q q => h S H σ s.sub s.env Q fun v S' H' x r => q v S' H' x.s ⟨s.go x, r⟩
theorem EvXT.of (h : EvT K c ρ b) : EvXT K c ρ g b g := fun S0 H0 S H σ s Q q => h S H σ s.sub s.env Q fun S' H' x => q S' H' x.s (s.go x)
theorem TM.weak (k : TM K t ρ g F) (n : ∀ ρ g, F.nx ρ g → G.nx ρ g) (r : ∀ d g, F.rt d g → G.rt d g) (b : ∀ ρ g, F.bk ρ g → G.bk ρ g) (c : ∀ ρ g, F.ct ρ g → G.ct ρ g) : TM K t ρ g G := fun S0 H0 S H σ Dd s a =>
  k S0 H0 S H σ Dd s ⟨fun ρ g S' H' σ h => a.nx ρ g S' H' σ (n ρ g h), fun ρ g S' H' σ h => a.bk ρ g S' H' σ (b ρ g h), fun ρ g S' H' σ h => a.ct ρ g S' H' σ (c ρ g h), fun d g v ρ S' H' σ h => a.rt d g v ρ S' H' σ (r d g h)⟩
theorem TM.seqP {N : Rho → Gs → Prop} (h : TM K t ρ g { F with nx := N }) (k : ∀ ρ' g', N ρ' g' → TM K u ρ' g' F) : TM K (tSeq t u) ρ g F := fun S0 H0 S H σ Dd s a =>
  h S0 H0 S H σ { Dd with nx := u Dd } s ⟨fun ρ' g' S' H' σ' n e s' => k ρ' g' n S0 H0 S' H' σ' Dd s' (a.mono e), a.bk, a.ct, a.rt⟩
theorem TM.seq (h : TM K t ρ g { F with nx := fun r x => r = ρ1 ∧ x = g1 }) (k : TM K u ρ1 g1 F) : TM K (tSeq t u) ρ g F := TM.seqP h fun _ _ e => by
  obtain ⟨e1, e2⟩ := e
  subst e1
  subst e2
  exact k
theorem TM.next (h : F.nx ρ g) : TM K tNext ρ g F := fun S0 H0 S H σ Dd s a => a.nx ρ g S H σ h (Ex.refl S) s
theorem TM.brk (h : F.bk ρ g) : TM K tBreak ρ g F := fun S0 H0 S H σ Dd s a => a.bk ρ g S H σ h (Ex.refl S) s
theorem TM.cont (h : F.ct ρ g) : TM K tCont ρ g F := fun S0 H0 S H σ Dd s a => a.ct ρ g S H σ h (Ex.refl S) s
theorem TM.retN (k : F.rt (.d .non) g) : TM K tRetN ρ g F := fun S0 H0 S H σ Dd s a => a.rt _ g .non ρ S H σ k ⟨s, .non⟩
theorem TM.retX (h : EvX K te ρ g r g') (k : F.rt r g') : TM K (tRet te) ρ g F := fun S0 H0 S H σ Dd s a =>
  h S0 H0 S H σ s _ fun v S' H' _ y => a.rt r g' v ρ S' H' σ k y
theorem TM.ifX (h : EvXT K c ρ g b g') (h1 : b = true → TM K t ρ g' F) (h2 : b = false → TM K u ρ g' F) : TM K (tIfS c t u) ρ g F := fun S0 H0 S H σ Dd s a =>
  h S0 H0 S H σ s _ fun S' H' x s' => by
    cases b with
    | true =>
      show t Dd σ H'
      exact h1 rfl S0 H0 S' H' σ Dd s' (a.mono x)
    | false =>
      show u Dd σ H'
      exact h2 rfl S0 H0 S' H' σ Dd s' (a.mono x)
theorem TM.guard (h : EvXT K c ρ g b g') (h1 : b = true → TM K t ρ g' { F with nx := fun _ _ => False }) (h2 : b = false → TM K u ρ g' F) : TM K (tSeq (tIfS c t tNext) u) ρ g F :=
  TM.seqP (N := fun r x => (r = ρ ∧ x = g') ∧ b = false) (TM.ifX h (fun e => (h1 e).weak (fun _ _ z => z.elim) (fun _ _ z => z) (fun _ _ z => z) fun _ _ z => z) fun e => TM.next ⟨⟨rfl, rfl⟩, e⟩) fun r x z => by
    obtain ⟨⟨e1, e3⟩, e2⟩ := z
    subst e1
    subst e3
    exact h2 e2
theorem TM.while (Pv : Nat → Rho → Gs → Prop) {m0 : Nat} (h0 : Pv m0 ρ g) (hs : ∀ (m : Nat) (ρ' : Rho) (g' : Gs), Pv m ρ' g' → ∃ b g2, EvXT K c ρ' g' b g2 ∧ (b = true → TM K t ρ' g2 { F with nx := fun r x => ∃ m', m' < m ∧ Pv m' r x, ct := fun r x => ∃ m', m' < m ∧ Pv m' r x, bk := F.nx }) ∧ (b = false → F.nx ρ' g2)) :
    TM K (tWhile c t) ρ g F := fun S0 H0 S H σ Dd s a => by
  refine ⟨fun m σ' H' => ∃ ρ' g' S', Pv m ρ' g' ∧ Ex S S' ∧ SG K S0 H0 ρ' g' S' H' σ', ⟨m0, ρ, g, S, h0, Ex.refl S, s⟩, ?_⟩
  rintro m σ' H' ⟨ρ', g', S', p, e, s'⟩
  obtain ⟨b, g2, hb, h1, h2⟩ := hs m ρ' g' p
  refine hb S0 H0 S' H' σ' s' _ fun S2 H2 x2 s2 => ?_
  have e2 := e.trans x2
  cases b with
  | true =>
    refine ⟨fun σ3 H3 => ∃ m', m' < m ∧ ∃ ρ3 g3 S3, Pv m' ρ3 g3 ∧ Ex S S3 ∧ SG K S0 H0 ρ3 g3 S3 H3 σ3, fun σ3 H3 z => z, ?_⟩
    exact h1 rfl S0 H0 S2 H2 σ' _ s2 ⟨fun ρ3 g3 S3 H3 σ3 ⟨m', l, n⟩ e3 s3 => ⟨m', l, ρ3, g3, S3, n, e2.trans e3, s3⟩, fun ρ3 g3 S3 H3 σ3 n e3 s3 => a.nx ρ3 g3 S3 H3 σ3 n (e2.trans e3) s3, fun ρ3 g3 S3 H3 σ3 ⟨m', l, n⟩ e3 s3 => ⟨m', l, ρ3, g3, S3, n, e2.trans e3, s3⟩, a.rt⟩
  | false => exact a.nx ρ' g2 S2 H2 σ' (h2 rfl) e2 s2
theorem SG.setV {ps : List (Nat × D)} {vs : List V} (s : SG K S0 H0 ρ g S H σ) (r : RdL K S vs (ps.map (·.2))) : SG K S0 H0 (setR ρ ps) g S H (Pl.setV σ (ps.map (·.1)) vs) := by
  obtain ⟨fp, rg, s⟩ := s
  exact ⟨fp, rg, s.setV r⟩
/-- for over things that stand outside the region -/
theorem TM.for {wi : TI} {tg : TG} (hi : EvI K wi ρ ds) (Pv : Nat → Rho → Gs → Prop) (h0 : Pv 0 ρ g) (hs : ∀ (i : Nat) (d : D) (ρ' : Rho) (g' : Gs), ds[i]? = some d → Pv i ρ' g' → ∃ ps, EvG K tg d ps ∧ TM K t (setR ρ' ps) g' { F with nx := Pv (i + 1), ct := Pv (i + 1), bk := F.nx })
    (hd : ∀ ρ' g', Pv ds.length ρ' g' → F.nx ρ' g') : TM K (tFor wi tg t) ρ g F := fun S0 H0 S H σ Dd s a =>
  hi S H σ s.sub s.env _ fun J S1 H1 x1 wk => by
    refine ⟨fun i m σ' H' => m = ds.length - i ∧ i ≤ ds.length ∧ ∃ ρ' g' S', Pv i ρ' g' ∧ Ex S1 S' ∧ SG K S0 H0 ρ' g' S' H' σ', ⟨ds.length, by simp, Nat.zero_le _, ρ, g, S1, h0, Ex.refl S1, s.go x1⟩, ?_⟩
    rintro i m σ' H' ⟨rfl, hi, ρ', g', S', p, e, s'⟩
    by_cases hlt : i < ds.length
    · have hdd : ds[i]? = some ds[i] := List.getElem?_eq_getElem hlt
      obtain ⟨ps, hg, ht⟩ := hs i ds[i] ρ' g' hdd p
      refine .inr ⟨wk.go S' H' i e s'.sub hlt, fun σ2 H2 => ∃ ρ2 g2 S2, Pv (i + 1) ρ2 g2 ∧ Ex S1 S2 ∧ SG K S0 H0 ρ2 g2 S2 H2 σ2, fun σ2 H2 z => ⟨ds.length - (i + 1), by omega, rfl, hlt, z⟩, fun xv H'' y => ?_⟩
      obtain ⟨S2, x2, r2⟩ := wk.yld S' H' i xv H'' ds[i] e s'.sub hdd y
      refine hg S2 H'' σ' xv x2.sub r2 _ fun ws rw => ?_
      have e2 : Ex S1 S2 := e.trans x2.s
      refine ht S0 H0 S2 H'' _ _ ((s'.go x2).setV rw) ⟨fun ρ3 g3 S3 H3 σ3 n e3 s3 => ⟨ρ3, g3, S3, n, e2.trans e3, s3⟩, fun ρ3 g3 S3 H3 σ3 n e3 s3 => a.nx ρ3 g3 S3 H3 σ3 n ((x1.s.trans e2).trans e3) s3, fun ρ3 g3 S3 H3 σ3 n e3 s3 => ⟨ρ3, g3, S3, n, e2.trans e3, s3⟩, a.rt⟩
    · have e0 : i = ds.length := by omega
      subst e0
      exact .inl ⟨wk.stop S' H' e s'.sub, a.nx ρ' g' S' H' σ' (hd ρ' g' p) (x1.s.trans e) s'⟩
/-! ### assignment -/
theorem TM.asgX {tg : TG} {ps : List (Nat × D)} (h : EvX K te ρ g (.d d) g') (hg : EvG K tg d ps) (k : F.nx (setR ρ ps) g') : TM K (tAsg te tg) ρ g F := fun S0 H0 S H σ Dd s a =>
  h S0 H0 S H σ s _ fun v S1 H1 x1 ⟨s1, r1⟩ => hg S1 H1 σ v s1.sub r1 _ fun vs rv => a.nx _ g' S1 H1 _ k x1 (s1.setV rv)
theorem TM.dropX (h : EvX K te ρ g (.d d) g') (k : F.nx ρ g') : TM K (tDrop te) ρ g F := fun S0 H0 S H σ Dd s a =>
  h S0 H0 S H σ s _ fun v S1 H1 x1 z => a.nx _ g' S1 H1 _ k x1 z.1
/-- a temporary list is put into a slot -/
theorem Stt.pull {v : V} (s : Stt K S0 H0 (ρ ++ [.o es]) S H (σ ++ [some v])) : Stt K S0 H0 (ρ.set i (.o es)) S H (σ.set i (some v)) ∧ Stt K S0 H0 ρ S H σ := by
  have hl : σ.length = ρ.length := by
    have z := s.env.len
    simp only [List.length_append, List.length_cons, List.length_nil] at z
    omega
  have up : ∀ {j : Nat} {x : Sl}, ρ[j]? = some x → (ρ ++ [Sl.o es])[j]? = some x ∧ (σ ++ [some v])[j]? = σ[j]? := fun {j x} h => by
    have hj : j < ρ.length := (List.getElem?_eq_some_iff.mp h).1
    exact ⟨by rw [List.getElem?_append_left hj]; exact h, by rw [List.getElem?_append_left (by omega)]⟩
  have s0 : Stt K S0 H0 ρ S H σ := ⟨s.ext, ⟨hl, fun j x h => by
      obtain ⟨e1, e2⟩ := up h
      rw [← e2]
      exact s.env.val j x e1⟩, fun j ds h => by
      obtain ⟨e1, e2⟩ := up h
      rw [← e2]
      exact s.own j ds e1, fun j k a b p h1 h2 e1 e2 => s.apart j k a b p (up h1).1 (up h2).1 (by rw [(up h1).2]; exact e1) (by rw [(up h2).2]; exact e2)⟩
  refine ⟨?_, s0⟩
  have hlast : (ρ ++ [Sl.o es])[ρ.length]? = some (.o es) := by simp
  have hlastσ : (σ ++ [some v])[ρ.length]? = some (some v) := by rw [← hl]; simp
  obtain ⟨p, vs, h1, h2, h3, h4, h5⟩ := s.own ρ.length es hlast
  rw [hlastσ] at h1
  cases h1
  refine s0.setO h2 h3 h4 h5 fun j ds _ hj e => ?_
  have hjl : j < ρ.length := (List.getElem?_eq_some_iff.mp hj).1
  have z := s.apart j ρ.length ds es p (up hj).1 hlast (by rw [(up hj).2]; exact e) hlastσ
  omega
theorem TM.asgO (h : EvX K te ρ g (.o es) g') (k : F.nx (ρ.set i (.o es)) g') : TM K (tAsg te (gName i)) ρ g F := fun S0 H0 S H σ Dd s a =>
  h S0 H0 S H σ s _ fun v S1 H1 x1 ⟨fp, rg, s1⟩ => a.nx _ g' S1 H1 _ k x1 ⟨fp, rg, s1.pull.1⟩
theorem TM.asgN (h : EvX K te ρ g (.t m) g') (k : ∀ p, F.nx (ρ.set i (.k (.adr p))) (g' ++ [(p, m)])) : TM K (tAsg te (gName i)) ρ g F := fun S0 H0 S H σ Dd s a =>
  h S0 H0 S H σ s _ fun v S1 H1 x1 ⟨p, e, fp, rg, s1⟩ => by
    subst e
    exact a.nx _ _ S1 H1 _ (k p) x1 ⟨fp, rg, s1.set (.adr p)⟩
end
end Pl

/-! Things that are changed in place: calls, ends, forgetting, writing at a place. -/
namespace Pl
open PySem PySem.Spec PyProof.Rows L2
open Evl (Ex)
section
variable {K : PySem.W.Frag} {S0 H0 S H S' H' : Hp} {σ : L2.St} {ρ ρ' ρ1 : Rho} {g g' g1 g2 : Gs} {F G : FM} {t u : TS} {te : TE} {c : TT} {d : D} {es ds : List D} {Dd : Ends} {i : Nat} {b : Bool} {r : Rs}
theorem OwnL.perm (h : List.Perm g g') : ∀ {fp : List Addr}, OwnL K S H (gv g) (gm g) fp → ∃ fp', List.Perm fp fp' ∧ OwnL K S H (gv g') (gm g') fp' := by
  induction h with
  | nil => exact fun {fp} o => ⟨fp, .refl _, o⟩
  | cons x _ ih =>
    intro fp o
    cases o with
    | cons h r =>
      obtain ⟨fp', p, o'⟩ := ih r
      exact ⟨_, p.append_left _, .cons h o'⟩
  | swap x y l =>
    intro fp o
    cases o with
    | cons h r =>
      cases r with
      | cons h2 r2 =>
        refine ⟨_, ?_, OwnL.cons h2 (OwnL.cons h r2)⟩
        rw [← List.append_assoc, ← List.append_assoc]
        exact List.perm_append_comm.append_right _
  | trans _ _ ih1 ih2 =>
    intro fp o
    obtain ⟨f1, p1, o1⟩ := ih1 o
    obtain ⟨f2, p2, o2⟩ := ih2 o1
    exact ⟨f2, p1.trans p2, o2⟩
theorem cov_perm {fp fp' : List Addr} (h : ∀ a, a ∈ fp ↔ a ∈ fp') : cov H0 H fp = cov H0 H fp' := funext fun a => by
  by_cases ha : a ∈ fp
  · rw [cov_in ha, cov_in ((h a).mp ha)]
  · rw [cov_out ha, cov_out fun z => ha ((h a).mpr z)]
theorem SG.perm (h : List.Perm g g') (s : SG K S0 H0 ρ g S H σ) : SG K S0 H0 ρ g' S H σ := by
  obtain ⟨fp, rg, s⟩ := s
  obtain ⟨fp', p, o⟩ := rg.own.perm h
  refine ⟨fp', ⟨o, p.nodup_iff.mp rg.nd, fun a ha => rg.no a (p.mem_iff.mpr ha)⟩, ?_⟩
  rw [← cov_perm fun a => p.mem_iff]
  exact s
theorem gv_app : gv (g ++ g') = gv g ++ gv g' := List.map_append
theorem gm_app : gm (g ++ g') = gm g ++ gm g' := List.map_append
theorem gv_len : (gv g).length = (gm g).length := by unfold gv gm; rw [List.length_map, List.length_map]
theorem SG.forget (s : SG K S0 H0 ρ (g ++ g') S H σ) : SG K S0 H0 ρ g S H σ := by
  obtain ⟨fp, rg, s⟩ := s
  have o := rg.own
  rw [gv_app, gm_app] at o
  obtain ⟨f1, f2, e, o1, o2⟩ := o.split gv_len
  have n := SG.noS s rg
  have sub : ∀ a ∈ f1, a ∈ fp := fun a ha => e ▸ List.mem_append_left _ ha
  exact ⟨f1, ⟨o1, (List.nodup_append.mp (e ▸ rg.nd)).1, fun a ha => rg.no a (sub a ha)⟩, s.mv rg.no rg.own.lays (Ex.refl S) s.ext.sub (fun a _ _ => rfl) (fun a _ h _ => h) fun a ha => ⟨.inl (sub a ha), n a (sub a ha)⟩⟩
theorem TM.perm (h : List.Perm g g') (k : TM K t ρ g' F) : TM K t ρ g F := fun S0 H0 S H σ Dd s a => k S0 H0 S H σ Dd (s.perm h) a
theorem TM.forget (h : List.Perm g (g1 ++ g2)) (k : TM K t ρ g1 F) : TM K t ρ g F := fun S0 H0 S H σ Dd s a => k S0 H0 S H σ Dd (s.perm h).forget a
/-! ### slots left behind -/
theorem Stt.clear (s : Stt K S0 H0 ρ S H σ) : Stt K S0 H0 [] S H [] := ⟨s.ext, ⟨rfl, fun i d h => by simp at h⟩, fun i ds h => by simp at h, fun i j a b p h => by simp at h⟩
theorem Stt.last {v : V} (s : Stt K S0 H0 (ρ ++ [.o es]) S H (σ ++ [some v])) : Stt K S0 H0 [.o es] S H [some v] := by
  have hl : σ.length = ρ.length := by
    have z := s.env.len
    simp only [List.length_append, List.length_cons, List.length_nil] at z
    omega
  have hlast : (ρ ++ [Sl.o es])[ρ.length]? = some (.o es) := by simp
  have hlastσ : (σ ++ [some v])[ρ.length]? = some (some v) := by rw [← hl]; simp
  refine ⟨s.ext, ⟨rfl, fun i d h => ?_⟩, fun i ds h => ?_, fun i j a b p h1 h2 _ _ => ?_⟩
  · match i, h with
    | 0, h => simp at h
    | i + 1, h => simp at h
  · match i, h with
    | 0, h =>
      simp at h
      subst h
      obtain ⟨p, vs, h1, h⟩ := s.own ρ.length es hlast
      rw [hlastσ] at h1
      exact ⟨p, vs, h1, h⟩
    | i + 1, h => simp at h
  · match i, j, h1, h2 with
    | 0, 0, _, _ => rfl
    | i + 1, _, h1, _ => simp at h1
    | 0, j + 1, _, h2 => simp at h2
theorem Res.bare {v : V} (s : Res K S0 H0 ρ g S H σ v r) : Res K S0 H0 [] g S H [] v r := by
  cases r with
  | d d =>
    obtain ⟨⟨fp, rg, s⟩, r⟩ := s
    exact ⟨⟨fp, rg, s.clear⟩, r⟩
  | o es =>
    obtain ⟨fp, rg, s⟩ := s
    exact ⟨fp, rg, s.last⟩
  | t m =>
    obtain ⟨p, e, fp, rg, s⟩ := s
    exact ⟨p, e, fp, rg, s.clear⟩
/-! ### calls -/
/-- own lists beside a caller's slots -/
theorem Stt.beside {B : Hp} {v : V} (s : Stt K S0 B ρ S H σ) (h : ∃ p vs, v = .ref p ∧ B p = none ∧ S p = none ∧ H p = some (.lst vs) ∧ RdL K S vs es) (new : ∀ p : Addr, v = .ref p → ∀ (j : Nat) (ds : List D), ρ[j]? = some (.o ds) → σ[j]? ≠ some (some (.ref p))) :
    Stt K S0 B (ρ ++ [.o es]) S H (σ ++ [some v]) := by
  have hl := s.env.len
  have dn : ∀ {j : Nat} {x : Sl}, (ρ ++ [Sl.o es])[j]? = some x → (j < ρ.length ∧ ρ[j]? = some x ∧ (σ ++ [some v])[j]? = σ[j]?) ∨ (j = ρ.length ∧ x = .o es ∧ (σ ++ [some v])[j]? = some (some v)) := fun {j x} e => by
    by_cases hj : j < ρ.length
    · rw [List.getElem?_append_left hj] at e
      exact .inl ⟨hj, e, by rw [List.getElem?_append_left (by omega)]⟩
    · have hj' : j < ρ.length + 1 := by
        have z := (List.getElem?_eq_some_iff.mp e).1
        simpa using z
      have ej : j = ρ.length := by omega
      subst ej
      simp at e
      exact .inr ⟨rfl, e.symm, by rw [← hl]; simp⟩
  refine ⟨s.ext, ⟨by rw [List.length_append, List.length_append, hl]; rfl, fun j x e => ?_⟩, fun j ds e => ?_, fun j k a b p e1 e2 e3 e4 => ?_⟩
  · rcases dn e with ⟨_, e, q⟩ | ⟨_, e, _⟩
    · rw [q]; exact s.env.val j x e
    · cases e
  · rcases dn e with ⟨_, e, q⟩ | ⟨_, e, q⟩
    · rw [q]; exact s.own j ds e
    · cases e
      obtain ⟨p, vs, e1, h⟩ := h
      exact ⟨p, vs, by rw [q, e1], h⟩
  · rcases dn e1 with ⟨_, e1, q1⟩ | ⟨j1, e1, q1⟩
    · rcases dn e2 with ⟨_, e2, q2⟩ | ⟨_, _, q2⟩
      · exact s.apart j k a b p e1 e2 (by rw [← q1]; exact e3) (by rw [← q2]; exact e4)
      · rw [q2] at e4
        cases e4
        rw [q1] at e3
        exact absurd e3 (new p rfl j a e1)
    · rcases dn e2 with ⟨_, e2, q2⟩ | ⟨j2, _, _⟩
      · rw [q1] at e3
        cases e3
        rw [q2] at e4
        exact absurd e4 (new p rfl k b e2)
      · rw [j1, j2]
/-- what a callee leaves, seen by its caller -/
theorem SG.ret {fs f2 : List Addr} {v : V} (s : Stt K S0 (cov H0 H (fs ++ f2)) ρ S H σ) (o1 : OwnL K S H (gv g) (gm g) fs) (o2 : OwnL K S H (gv g2) (gm g2) f2) (nd : (fs ++ f2).Nodup) (no : ∀ a ∈ fs ++ f2, H0 a = none ∧ S0 a = none)
    (q : Res K S (cov H (fun _ => none) fs) [] g' S' H' [] v r) : Ex S S' ∧ Res K S0 H0 ρ (g2 ++ g') S' H' σ v r := by
  have lays : ∀ a ∈ fs ++ f2, H a ≠ none := fun a ha => by
    rcases List.mem_append.mp ha with h | h
    · exact o1.lays a h
    · exact o2.lays a h
  have dj : ∀ a ∈ f2, a ∉ fs := fun a h2 h1 => (List.nodup_append.mp nd).2.2 a h1 a h2 rfl
  -- one and the same for all kinds of results
  have main : ∀ {ρc : Rho} {σc : L2.St} {gc : Gs}, SG K S (cov H (fun _ => none) fs) ρc gc S' H' σc → ∃ fc, Ex S S' ∧ RG K S0 H0 (g2 ++ gc) S' H' (f2 ++ fc) ∧ Stt K S0 (cov H0 H' (f2 ++ fc)) ρ S' H' σ ∧ Stt K S (cov (cov H (fun _ => none) fs) H' fc) ρc S' H' σc ∧
      (∀ a, a ∉ fs → H a ≠ none → (cov (cov H (fun _ => none) fs) H' fc) a ≠ none) ∧ (∀ a, a ∈ f2 ++ fc → a ∉ fc → a ∉ fs ∧ H a ≠ none) ∧ ∀ a, H0 a ≠ none → a ∉ fs ∧ H a ≠ none := fun {ρc σc gc} sc => by
    obtain ⟨fc, rc, sc⟩ := sc
    have cin : ∀ a, a ∉ fs → cov H (fun _ => none) fs a = H a := fun a h => cov_out h
    have cn : ∀ a ∈ fc, a ∈ fs ∨ H a = none := fun a ha => by
      by_cases h : a ∈ fs
      · exact .inl h
      · have z := (rc.no a ha).1
        rw [cin a h] at z
        exact .inr z
    have keep : ∀ a, a ∉ fs → H a ≠ none → cov (cov H (fun _ => none) fs) H' fc a = H a := fun a h1 h2 => by
      rw [cov_out fun z => (cn a z).elim h1 h2, cin a h1]
    have same : ∀ a, a ∉ fs → H a ≠ none → H' a = H a := fun a h1 h2 => by
      cases e : H a with
      | none => exact absurd e h2
      | some o => exact sc.ext.h a o ((keep a h1 h2).trans e)
    have eS : Ex S S' := sc.ext.s
    have nS := SG.noS sc rc
    have h0n : ∀ a, H0 a ≠ none → a ∉ fs ∧ H a ≠ none := fun a h => by
      have nf : a ∉ fs ++ f2 := fun z => h (no a z).1
      refine ⟨fun z => nf (List.mem_append_left _ z), ?_⟩
      cases e : H0 a with
      | none => exact absurd e h
      | some o =>
        rw [s.ext.h a o (by rw [cov_out nf]; exact e)]
        exact fun z => nomatch z
    refine ⟨fc, eS, ⟨?_, ?_, fun a ha => ?_⟩, ?_, sc, fun a h1 h2 => by rw [keep a h1 h2]; exact h2, fun a h1 h2 => ?_, h0n⟩
    · rw [gv_app, gm_app]
      exact (o2.mono eS fun a ha => same a (dj a ha) (o2.lays a ha)).append rc.own
    · refine List.nodup_append.mpr ⟨(List.nodup_append.mp nd).2.1, rc.nd, fun a ha b hb e => ?_⟩
      subst e
      exact (cn a hb).elim (dj a ha) (o2.lays a ha)
    · rcases List.mem_append.mp ha with ha | ha
      · exact no a (List.mem_append_right _ ha)
      · rcases cn a ha with h | h
        · exact no a (List.mem_append_left _ h)
        · refine ⟨?_, ?_⟩
          · cases e : H0 a with
            | none => rfl
            | some o => exact absurd h (h0n a (by rw [e]; exact fun z => nomatch z)).2
          · cases e : S0 a with
            | none => rfl
            | some o => rw [s.ext.sub a o (s.ext.s a o e)] at h; cases h
    · refine s.mv no lays eS sc.ext.sub (fun a h1 h2 => same a (fun z => h1 (List.mem_append_left _ z)) h2) (fun a h1 h2 h3 => ?_) fun a ha => ?_
      · have h1' : a ∉ fs := fun z => h1 (List.mem_append_left _ z)
        exact sc.ext.dis a h2 (by rw [keep a h1' h3]; exact h3)
      · rcases List.mem_append.mp ha with ha | ha
        · have z := o2.lays a ha
          exact ⟨.inl (List.mem_append_right _ ha), sc.ext.dis a (s.ext.dis a (no a (List.mem_append_right _ ha)).2 (by rw [cov_in (List.mem_append_right _ ha)]; exact z)) (by rw [keep a (dj a ha) z]; exact z)⟩
        · exact ⟨(cn a ha).imp (List.mem_append_left _) id, nS a ha⟩
    · rcases List.mem_append.mp h1 with ha | ha
      · exact ⟨dj a ha, o2.lays a ha⟩
      · exact absurd ha h2
  cases r with
  | d d =>
    obtain ⟨sc, rd⟩ := q
    obtain ⟨fc, e, rg, st, _⟩ := main sc
    exact ⟨e, ⟨_, rg, st⟩, rd⟩
  | t m =>
    obtain ⟨p, ev, sc⟩ := q
    obtain ⟨fc, e, rg, st, _⟩ := main sc
    refine ⟨e, p, ev, _, ?_, st⟩
    show RG K S0 H0 ((g2 ++ g') ++ [(p, m)]) S' H' (f2 ++ fc)
    rw [List.append_assoc]
    exact rg
  | o es =>
    obtain ⟨fc, e, rg, st, sc, k1, k2, k3⟩ := main q
    refine ⟨e, _, rg, ?_⟩
    obtain ⟨p, vs, h1, h2, h3, h4, h5⟩ := sc.own 0 es rfl
    have h1 : v = .ref p := by simpa using h1
    subst h1
    have hn : p ∈ fs ∨ H p = none := by
      by_cases h : p ∈ fs
      · exact .inl h
      · refine .inr ?_
        cases z : H p with
        | none => rfl
        | some o => exact absurd h2 (k1 p h (by rw [z]; exact fun y => nomatch y))
    have nfc : p ∉ fc := fun z => by
      rw [cov_in z, h4] at h2
      cases h2
    refine st.beside ⟨p, vs, rfl, ?_, h3, h4, h5⟩ fun p' ep j ds hj ej => ?_
    · have nf : p ∉ f2 ++ fc := fun z => by
        obtain ⟨a1, a2⟩ := k2 p z nfc
        exact hn.elim a1 a2
      rw [cov_out nf]
      cases z : H0 p with
      | none => rfl
      | some o =>
        obtain ⟨a1, a2⟩ := k3 p (by rw [z]; exact fun y => nomatch y)
        exact (hn.elim a1 a2).elim
    · cases ep
      obtain ⟨q', us, g1, g2', g3, g4, g5⟩ := s.own j ds hj
      rw [ej] at g1
      cases g1
      have nq : H p ≠ none := by rw [g4]; exact fun y => nomatch y
      rcases hn with h | h
      · rw [cov_in (List.mem_append_left _ h)] at g2'
        exact nq g2'
      · exact nq h
end
end Pl

/-! Things that are changed in place: a def's promise, a look at the region as data. -/
namespace Pl
open PySem PySem.Spec PyProof.Rows L2
open Evl (Ex)
section
variable (K : PySem.W.Frag)
/-- a def's promise: what stands in the region before and behind -/
def spG (Rel : List D → Gs → Rs → Gs → Prop) : Sp := fun vs H Q _ => ∃ S H0 ds g r g', SG K S H0 [] g S H [] ∧ RdL K S vs ds ∧ Rel ds g r g' ∧ ∀ v S' H', Ex S S' → Res K S H0 [] g' S' H' [] v r → Q v H'
end
section
variable {K : PySem.W.Frag} {S0 H0 S H S' H' : Hp} {σ : L2.St} {ρ ρ' ρ1 ρv : Rho} {g g' g1 g2 : Gs} {F G : FM} {t u : TS} {te : TE} {tA : TA} {c : TT} {d : D} {es ds : List D} {Dd : Ends} {i : Nat} {b : Bool} {r : Rs} {E : XK}
/-- a call that takes the part g1 of the region -/
theorem ex_call {Rel : List D → Gs → Rs → Gs → Prop} (hp : List.Perm g (g1 ++ g2)) (ha : EvA K tA ρ ds) (hr : Rel ds g1 r g') : EvX K (tCall (spG K Rel) [] E tA) ρ g r (g2 ++ g') := fun S0 H0 S H σ s Q q =>
  ha S H σ s.sub s.env _ fun vs S1 H1 x1 r1 => by
    have s1 := (s.go x1).perm hp
    obtain ⟨fp, rg, st⟩ := s1
    have o := rg.own
    rw [gv_app, gm_app] at o
    obtain ⟨fs, f2, e, o1, o2⟩ := o.split gv_len
    subst e
    have n := SG.noS st rg
    have hc : cov (cov H1 (fun _ => none) fs) H1 fs = H1 := funext fun a => by
      by_cases h : a ∈ fs
      · rw [cov_in h]
      · rw [cov_out h, cov_out h]
    refine ⟨S1, cov H1 (fun _ => none) fs, ds, g1, r, g', ⟨fs, ⟨o1, (List.nodup_append.mp rg.nd).1, fun a ha => ⟨cov_in ha, n a (List.mem_append_left _ ha)⟩⟩, ?_⟩, by rw [List.append_nil]; exact r1, hr, fun v S2 H2 _ z => ?_⟩
    · rw [hc]
      exact (⟨Ext.refl st.ext.sub, ⟨rfl, fun i d h => by simp at h⟩, fun i ds h => by simp at h, fun i j a b p h => by simp at h⟩ : Stt K S1 H1 [] S1 H1 [])
    · obtain ⟨e, y⟩ := SG.ret st o1 o2 rg.nd rg.no z
      exact q v S2 H2 (x1.s.trans e) y
theorem EvX.perm (hp : List.Perm g' g2) (h : EvX K te ρ g r g') (hn : ∀ m, r ≠ .t m) : EvX K te ρ g r g2 := fun S0 H0 S H σ s Q q => h S0 H0 S H σ s Q fun v S' H' e z => q v S' H' e <| by
  cases r with
  | d d => exact ⟨z.1.perm hp, z.2⟩
  | o es => exact SG.perm hp z
  | t m => exact absurd rfl (hn m)
theorem EvX.test (h : EvX K te ρ g (.d (.bl b)) g') : EvXT K (tTest te) ρ g b g' := fun S0 H0 S H σ s Q q => h S0 H0 S H σ s _ fun v S' H' e z => by
  obtain ⟨z1, z2⟩ := z
  cases z2
  exact ⟨b, rfl, q S' H' e z1⟩
theorem EvX.tb (h : EvX K te ρ g (.d (.bl b)) g') : EvXT K (tB te) ρ g b g' := fun S0 H0 S H σ s Q q => h S0 H0 S H σ s _ fun v S' H' e z => by
  obtain ⟨z1, z2⟩ := z
  cases z2
  exact ⟨b, rfl, q S' H' e z1⟩
theorem EvXT.not (h : EvXT K c ρ g b g') : EvXT K (tNot c) ρ g (!b) g' := fun S0 H0 S H σ s Q q => h S0 H0 S H σ s _ fun S' H' e z => q S' H' e z
/-- own lists that are told become data -/
theorem EvX.tell (h : EvX K te ρ g (.o es) g') : EvX K te ρ g (.d (.lst es)) g' := fun S0 H0 S H σ s Q q => h S0 H0 S H σ s Q fun v S' H' e z => by
  obtain ⟨fp, rg, st⟩ := z
  have hl : σ.length = ρ.length := by
    have z := st.env.len
    simp only [List.length_append, List.length_cons, List.length_nil] at z
    omega
  have hlast : (ρ ++ [Sl.o es])[ρ.length]? = some (.o es) := by simp
  have hlastσ : (σ ++ [some v])[ρ.length]? = some (some v) := by rw [← hl]; simp
  obtain ⟨S2, e2, st2⟩ := st.freeze hlast
  have n := SG.noS st rg
  have hs : (ρ ++ [Sl.o es]).set ρ.length (.k (.lst es)) = ρ ++ [.k (.lst es)] := by simp
  rw [hs] at st2
  obtain ⟨w, w1, w2⟩ := st2.env.val ρ.length (.lst es) (by simp)
  rw [hlastσ] at w1
  cases w1
  have up : ∀ {j : Nat} {x : Sl}, ρ[j]? = some x → (ρ ++ [Sl.k (.lst es)])[j]? = some x ∧ (σ ++ [some v])[j]? = σ[j]? := fun {j x} h => by
    have hj : j < ρ.length := (List.getElem?_eq_some_iff.mp h).1
    exact ⟨by rw [List.getElem?_append_left hj]; exact h, by rw [List.getElem?_append_left (by omega)]⟩
  refine q v S2 H' (e.trans e2) ⟨⟨fp, ⟨rg.own.mono e2 fun a _ => rfl, rg.nd, rg.no⟩, st2.ext, ⟨hl, fun j x h => ?_⟩, fun j ds h => ?_, fun j k a b p h1 h2 e1 e2 => ?_⟩, w2⟩
  · obtain ⟨a1, a2⟩ := up h
    rw [← a2]
    exact st2.env.val j x a1
  · obtain ⟨a1, a2⟩ := up h
    rw [← a2]
    exact st2.own j ds a1
  · exact st2.apart j k a b p (up h1).1 (up h2).1 (by rw [(up h1).2]; exact e1) (by rw [(up h2).2]; exact e2)
/-- .. is None -/
theorem EvX.isN {z : D} (h : EvX K te ρ g (.d d) g') (hr : RV K rr d .non z) : EvX K (tOp rr te (tC .non)) ρ g (.d z) g' := fun S0 H0 S H σ s Q q => h S0 H0 S H σ s _ fun v S' H' e y => by
  obtain ⟨y1, y2⟩ := y
  refine hr S' H' v .non y1.sub y2 .non Q fun w S2 H2 x2 r2 => q w S2 H2 (e.trans x2.s) ⟨y1.go x2, r2⟩
theorem RG.go {fp : List Addr} (rg : RG K S0 H0 g S H fp) (st : Stt K S0 (cov H0 H fp) ρ S H σ) (x : Ext S H S' H') : RG K S0 H0 g S' H' fp ∧ Stt K S0 (cov H0 H' fp) ρ S' H' σ := by
  have n := SG.noS st rg
  have same : ∀ a, H a ≠ none → H' a = H a := fun a ha => by
    cases q : H a with
    | none => exact absurd q ha
    | some o => exact x.h a o q
  exact ⟨⟨rg.own.mono x.s fun a ha => same a (rg.own.lays a ha), rg.nd, rg.no⟩, st.mv rg.no rg.own.lays x.s x.sub (fun a _ h => same a h) (fun a _ h1 h2 => x.dis a h1 h2) fun a ha => ⟨.inl ha, x.dis a (n a ha) (rg.own.lays a ha)⟩⟩
theorem SG.besideF {fp : List Addr} {p : Addr} {vs : List V} (rg0 : RG K S0 H0 g S H fp) (st0 : Stt K S0 (cov H0 H fp) ρ S H σ) (hp : H p = none) (rg : RG K S0 H0 g S' H' fp) (st : Stt K S0 (cov H0 H' fp) ρ S' H' σ) (sp : S' p = none) (h' : H' p = some (.lst vs)) (r : RdL K S' vs es) :
    SG K S0 H0 (ρ ++ [.o es]) g S' H' (σ ++ [some (.ref p)]) := by
  have nf : p ∉ fp := fun z => rg0.own.lays p z hp
  refine ⟨fp, rg, st.beside ⟨p, vs, rfl, ?_, sp, h', r⟩ fun p' ep j ds hj ej => ?_⟩
  · rw [cov_out nf]
    cases e : H0 p with
    | none => rfl
    | some o =>
      have z := st0.ext.h p o (by rw [cov_out nf]; exact e)
      rw [hp] at z
      cases z
  · cases ep
    obtain ⟨q', us, g1, g2', g3, g4, g5⟩ := st0.own j ds hj
    rw [ej] at g1
    cases g1
    rw [hp] at g4
    cases g4
theorem EvX.fresh (h : EvF K te ρ es) : EvX K te ρ g (.o es) g := fun S0 H0 S H σ s Q q => h S H σ s.sub s.env Q fun p vs S' H' x hp sp h' r => by
  obtain ⟨fp, rg, st⟩ := s
  obtain ⟨rg1, st1⟩ := rg.go st x
  exact q _ S' H' x.s (SG.besideF rg st hp rg1 st1 sp h' r)
/-! ### a look at the region and at own lists -/
mutual
def M.see : M → D
  | .d d => d
  | .n .lst ms => .lst (seeL ms)
  | .n (.dic ks) ms => .dc ks (seeL ms)
  | .n (.ins C fs) ms => .ob C fs (seeL ms)
def seeL : List M → List D
  | [] => []
  | m :: ms => m.see :: seeL ms
end
theorem seeL_map (ms : List M) : seeL ms = ms.map M.see := by
  induction ms with
  | nil => rfl
  | cons m ms ih => rw [seeL, ih]; rfl
theorem seeL_d (ds : List D) : seeL (ds.map M.d) = ds := by
  induction ds with
  | nil => rfl
  | cons m ms ih => rw [List.map_cons, seeL, ih]; rfl
mutual
theorem Own.see (e : Ex S S') : ∀ {v : V} {m : M} {fp : List Addr}, Own K S H v m fp → (∀ a ∈ fp, S' a = H a) → Rd K S' v m.see
  | _, _, _, .d h, _ => h.mono e
  | _, _, _, .n (s := .lst) h ho r, k => by
    have ho : _ = HO.lst _ := ho
    subst ho
    exact .lst ((k _ List.mem_cons_self).trans h) (OwnL.see e r fun a ha => k a (List.mem_cons_of_mem _ ha))
  | _, _, _, .n (s := .dic ks) h ho r, k => by
    obtain ⟨l, ho⟩ := ho
    subst ho
    exact .dc ((k _ List.mem_cons_self).trans h) l (OwnL.see e r fun a ha => k a (List.mem_cons_of_mem _ ha))
  | _, _, _, .n (s := .ins C fs) h ho r, k => by
    obtain ⟨l, dx, ho⟩ := ho
    subst ho
    exact .ob ((k _ List.mem_cons_self).trans h) l (OwnL.see e r fun a ha => k a (List.mem_cons_of_mem _ ha))
theorem OwnL.see (e : Ex S S') : ∀ {vs : List V} {ms : List M} {fp : List Addr}, OwnL K S H vs ms fp → (∀ a ∈ fp, S' a = H a) → RdL K S' vs (seeL ms)
  | _, _, _, .nil, _ => .nil
  | _, _, _, .cons h r, k => .cons (Own.see e h fun a ha => k a (List.mem_append_left _ ha)) (OwnL.see e r fun a ha => k a (List.mem_append_right _ ha))
end
inductive View (g : Gs) : Rho → Rho → Prop
  | nil : View g [] []
  | root {a : Addr} {m : M} {ρ ρ' : Rho} : (a, m) ∈ g → View g ρ ρ' → View g (.k (.adr a) :: ρ) (.k m.see :: ρ')
  | own {ds : List D} {ρ ρ' : Rho} : View g ρ ρ' → View g (.o ds :: ρ) (.k (.lst ds) :: ρ')
  | same {s : Sl} {ρ ρ' : Rho} : View g ρ ρ' → View g (s :: ρ) (s :: ρ')
theorem View.length {ρ ρ' : Rho} (h : View g ρ ρ') : ρ'.length = ρ.length := by
  induction h with
  | nil => rfl
  | root _ _ ih => exact congrArg (· + 1) ih
  | own _ ih => exact congrArg (· + 1) ih
  | same _ ih => exact congrArg (· + 1) ih
theorem View.get {ρ ρ' : Rho} (h : View g ρ ρ') : ∀ (i : Nat) (d : D), ρ'[i]? = some (.k d) → ρ[i]? = some (.k d) ∨ (∃ ds, ρ[i]? = some (.o ds) ∧ d = .lst ds) ∨ ∃ a m, ρ[i]? = some (.k (.adr a)) ∧ (a, m) ∈ g ∧ d = m.see := by
  induction h with
  | nil => exact fun i d e => by simp at e
  | root hm _ ih =>
    intro i d e
    match i with
    | 0 => simp at e; exact .inr (.inr ⟨_, _, rfl, hm, e.symm⟩)
    | i + 1 => exact ih i d e
  | own _ ih =>
    intro i d e
    match i with
    | 0 => simp at e; exact .inr (.inl ⟨_, rfl, e.symm⟩)
    | i + 1 => exact ih i d e
  | same _ ih =>
    intro i d e
    match i with
    | 0 => exact .inl e
    | i + 1 => exact ih i d e
theorem OwnL.mem {fp : List Addr} {g : Gs} (h : OwnL K S H (gv g) (gm g) fp) {a : Addr} {m : M} (hm : (a, m) ∈ g) : ∃ f, (∀ b ∈ f, b ∈ fp) ∧ Own K S H (.ref a) m f := by
  induction g generalizing fp with
  | nil => cases hm
  | cons x g ih =>
    cases h with
    | cons h r =>
      rcases List.mem_cons.mp hm with e | hm
      · subst e
        exact ⟨_, fun b hb => List.mem_append_left _ hb, h⟩
      · obtain ⟨f, h1, h2⟩ := ih r hm
        exact ⟨f, fun b hb => List.mem_append_right _ (h1 b hb), h2⟩
open Classical in
noncomputable def withP (P : Addr → Prop) (S H : Hp) : Hp := fun a => if P a then H a else S a
open Classical in
noncomputable def woP (P : Addr → Prop) (S : Hp) : Hp := fun a => if P a then none else S a
theorem SG.look {fp : List Addr} (rg : RG K S0 H0 g S H fp) (s : Stt K S0 (cov H0 H fp) ρ S H σ) (hv : View g ρ ρv) : ∃ P : Addr → Prop, Ex S (withP P S H) ∧ Ex (withP P S H) H ∧ Env K (withP P S H) σ ρv ∧
    ∀ S' H', Ext (withP P S H) H S' H' → (∀ p, H p = none → S' p = none → woP P S' p = none) ∧ Ex S (woP P S') ∧ RG K S0 H0 g (woP P S') H' fp ∧ Stt K S0 (cov H0 H' fp) ρ (woP P S') H' σ := by
  have n := SG.noS s rg
  have no : ∀ a, (Owns ρ σ a ∨ a ∈ fp) → S a = none ∧ H a ≠ none := fun a h => by
    rcases h with ⟨i, ds, h1, h2⟩ | h
    · obtain ⟨p, vs, g1, g2, g3, g4, g5⟩ := s.own i ds h1
      rw [g1] at h2
      cases h2
      exact ⟨g3, by rw [g4]; exact fun z => nomatch z⟩
    · exact ⟨n a h, rg.own.lays a h⟩
  refine ⟨fun a => Owns ρ σ a ∨ a ∈ fp, ?_⟩
  generalize hP : (fun a => Owns ρ σ a ∨ a ∈ fp) = P
  have noP : ∀ a, P a → S a = none ∧ H a ≠ none := fun a h => no a (by rw [← hP] at h; exact h)
  have e1 : Ex S (withP P S H) := fun a o e => by
    unfold withP
    rw [if_neg fun z => by rw [(noP a z).1] at e; cases e]
    exact e
  have e2 : Ex (withP P S H) H := fun a o e => by
    unfold withP at e
    split at e
    · exact e
    · exact s.ext.sub a o e
  have inP : ∀ a, P a → withP P S H a = H a := fun a h => if_pos h
  refine ⟨e1, e2, ⟨by rw [hv.length]; exact s.env.len, fun i d h => ?_⟩, fun S' H' x => ?_⟩
  · rcases hv.get i d h with h | ⟨ds, h', e⟩ | ⟨a, m, h', hm, e⟩
    · obtain ⟨v, h1, h2⟩ := s.env.val i d h
      exact ⟨v, h1, h2.mono e1⟩
    · subst e
      obtain ⟨p, vs, g1, g2, g3, g4, g5⟩ := s.own i ds h'
      have hp : P p := by rw [← hP]; exact .inl ⟨i, ds, h', g1⟩
      exact ⟨_, g1, .lst ((inP p hp).trans g4) (g5.mono e1)⟩
    · subst e
      obtain ⟨v, h1, h2⟩ := s.env.val i _ h'
      cases h2
      obtain ⟨f, k1, k2⟩ := rg.own.mem hm
      exact ⟨_, h1, k2.see e1 fun b hb => inP b (by rw [← hP]; exact .inr (k1 b hb))⟩
  · have eS : Ex S (woP P S') := fun a o e => by
      unfold woP
      rw [if_neg fun z => by rw [(noP a z).1] at e; cases e]
      exact x.s a o (e1 a o e)
    have eH : Ex (woP P S') H' := fun a o e => by
      unfold woP at e
      split at e
      · cases e
      · exact x.sub a o e
    have same : ∀ a, H a ≠ none → H' a = H a := fun a ha => by
      cases q : H a with
      | none => exact absurd q ha
      | some o => exact x.h a o q
    refine ⟨fun p _ sp => ?_, eS, ⟨rg.own.mono eS fun a ha => same a (rg.own.lays a ha), rg.nd, rg.no⟩, ?_⟩
    · unfold woP
      split
      · rfl
      · exact sp
    · refine s.mv rg.no rg.own.lays eS eH (fun a _ h => same a h) (fun a h1 h2 h3 => ?_) fun a ha => ⟨.inl ha, ?_⟩
      · unfold woP
        split
        · rfl
        · rename_i hn
          exact x.dis a (by unfold withP; rw [if_neg hn]; exact h2) h3
      · unfold woP
        rw [if_pos]
        rw [← hP]
        exact .inr ha
/-- expressions that read the region and own lists, and tell what is flat -/
theorem EvX.look (hv : View g ρ ρv) (h : EvD K te ρv d) (hf : d.flat = true) : EvX K te ρ g (.d d) g := fun S0 H0 S H σ s Q q => by
  obtain ⟨fp, rg, s⟩ := s
  obtain ⟨P, e1, e2, v, w⟩ := SG.look rg s hv
  refine h _ H σ e2 v Q fun x S' H' xx r => ?_
  obtain ⟨_, eS, rg', s'⟩ := w S' H' xx
  exact q x _ H' eS ⟨⟨fp, rg', s'⟩, r.flat hf⟩
theorem EvX.lookF (hv : View g ρ ρv) (h : EvF K te ρv es) (hf : ∀ d ∈ es, d.flat = true) : EvX K te ρ g (.o es) g := fun S0 H0 S H σ s Q q => by
  obtain ⟨fp, rg, s⟩ := s
  obtain ⟨P, e1, e2, v, w⟩ := SG.look rg s hv
  refine h _ H σ e2 v Q fun p vs S' H' xx hp sp h' r => ?_
  obtain ⟨k, eS, rg', s'⟩ := w S' H' xx
  exact q _ _ H' eS (SG.besideF rg s hp rg' s' (k p hp sp) h' (r.flat hf))
theorem EvXT.look (hv : View g ρ ρv) (h : EvT K c ρv b) : EvXT K c ρ g b g := fun S0 H0 S H σ s Q q => by
  obtain ⟨fp, rg, s⟩ := s
  obtain ⟨P, e1, e2, v, w⟩ := SG.look rg s hv
  refine h _ H σ e2 v Q fun S' H' xx => ?_
  obtain ⟨_, eS, rg', s'⟩ := w S' H' xx
  exact q _ H' eS ⟨fp, rg', s'⟩
end
end Pl

/-! Things that are changed in place: writing at a place; dicts; a def's ends. -/
namespace Pl
open PySem PySem.Spec PyProof.Rows L2
open Evl (Ex)
section
variable {K : PySem.W.Frag} {S0 H0 S H S' H' : Hp} {σ : L2.St} {ρ ρ' ρ1 ρv : Rho} {g g' g1 g2 gl gr : Gs} {F G : FM} {t u : TS} {te ti td tx tk tv : TE} {tA : TA} {c : TT} {d : D} {es ds : List D} {ms : List M} {m m1 m2 : M} {a : Addr} {π : List Nat} {Dd : Ends} {i j : Nat} {b : Bool} {r : Rs} {E : XK} {s : Shp}
/-! ### places -/
theorem Loc.snoc {v w : V} {p : Addr} {o : HO} {vs : List V} {k : Nat} {mk : M} (l : Loc H v m π (.ref p)) (hat : M.at π m = some (.n s ms)) (h1 : H p = some o) (h2 : s.ho o vs) (h3 : vs[k]? = some w) (h4 : ms[k]? = some mk) : Loc H v m (π ++ [k]) w := by
  generalize hu : V.ref p = u at l
  induction l with
  | nil =>
    subst hu
    simp only [M.at, Option.some.injEq] at hat
    subst hat
    exact .cons h1 h2 h3 h4 .nil
  | cons g1 g2 g3 g4 _ ih =>
    simp only [M.at, g4] at hat
    exact .cons g1 g2 g3 g4 (ih hat hu)
def EvP (K : PySem.W.Frag) (te : TE) (ρ : Rho) (g : Gs) (a : Addr) (m : M) (π : List Nat) : Prop := ∀ S0 H0 S H σ, SG K S0 H0 ρ g S H σ → ∀ Q : VK, (∀ u S' H', Ext S H S' H' → Loc H' (.ref a) m π u → Q u H') → te σ H Q
theorem ep_var (h : ρ[i]? = some (.k (.adr a))) : EvP K (tVar i) ρ g a m [] := fun S0 H0 S H σ s Q q => by
  obtain ⟨v, h1, h2⟩ := s.env.val i _ h
  cases h2
  exact ⟨_, h1, q _ S H (Ext.refl s.sub) .nil⟩
/-- what stands at a place -/
theorem SG.at {u : V} (st : SG K S0 H0 ρ g S H σ) (hg : (a, m) ∈ g) (l : Loc H (.ref a) m π u) (hat : M.at π m = some (.n s ms)) : ∃ p o vs fq, u = .ref p ∧ H p = some o ∧ s.ho o vs ∧ OwnL K S H vs ms fq := by
  obtain ⟨fp, rg, st⟩ := st
  obtain ⟨f, _, o⟩ := rg.own.mem hg
  obtain ⟨m1, f0, f1, f2, e, _, o1, _⟩ := o.focus l
  rw [hat] at e
  cases e
  cases o1 with
  | n h1 h2 h3 => exact ⟨_, _, _, _, rfl, h1, h2, h3⟩
theorem ep_ix {k : Nat} {mk : M} (h : EvP K te ρ g a m π) (hi : EvD K ti ρ (.int (k : Int))) (hg : (a, m) ∈ g) (hat : M.at π m = some (.n .lst ms)) (hk : ms[k]? = some mk) : EvP K (tOp (rIx K) te ti) ρ g a m (π ++ [k]) := fun S0 H0 S H σ st Q q =>
  h S0 H0 S H σ st _ fun u S1 H1 x1 l => by
    have st1 := st.go x1
    obtain ⟨p, o, vs, fq, e1, e2, e3, e4⟩ := st1.at hg l hat
    subst e1
    refine hi S1 H1 σ st1.sub st1.env _ fun w S2 H2 x2 r2 => ?_
    cases r2
    have hl : o = .lst vs := e3
    subst hl
    have hkl : k < vs.length := by
      rw [e4.length]
      exact (List.getElem?_eq_some_iff.mp hk).1
    obtain ⟨w, hw⟩ : ∃ w, vs[k]? = some w := ⟨_, List.getElem?_eq_getElem hkl⟩
    exact .inl ⟨_, _, _, w, rfl, rfl, Evl.sq_of (x2.h _ _ e2), atI_nat hw, q w S2 H2 (x1.trans x2) ((l.mono x2.h).snoc hat (x2.h _ _ e2) e3 hw hk)⟩
/-- a place is written -/
theorem SG.write {u : V} (st : SG K S0 H0 ρ g S H σ) (hg : g = gl ++ (a, m) :: gr) (l : Loc H (.ref a) m π u) (hat : M.at π m = some (.n s ms)) : ∃ p o vs fq, u = .ref p ∧ H p = some o ∧ S p = none ∧ s.ho o vs ∧ OwnL K S H vs ms fq ∧ p ∉ fq ∧
    ∀ o' s' vs' ms' fq', s'.ho o' vs' → OwnL K S (upd H p o') vs' ms' fq' → fq'.Sublist fq → SG K S0 H0 ρ (gl ++ (a, M.put (.n s' ms') π m) :: gr) S (upd H p o') σ := by
  obtain ⟨fp, rg, st⟩ := st
  subst hg
  have o := rg.own
  have hgm : (gm (gl ++ (a, m) :: gr))[gl.length]? = some m := by
    unfold gm
    simp
  have hgv : (gv (gl ++ (a, m) :: gr))[gl.length]? = some (.ref a) := by
    unfold gv
    simp
  obtain ⟨v, f0, f1, f2, k1, k2, k3, k4⟩ := o.focus hgm
  rw [hgv] at k1
  cases k1
  obtain ⟨m1, e0, e1, e2, j1, j2, j3, j4⟩ := k3.focus l
  rw [hat] at j1
  cases j1
  cases j3 with
  | n h1 h2 h3 =>
    rename_i p o vs fq
    have n := SG.noS st rg
    have nd := rg.nd
    have pin : p ∈ fp := by rw [k2, j2]; simp
    have hnd : p ∉ f0 ∧ p ∉ f2 ∧ p ∉ e0 ∧ p ∉ e2 ∧ p ∉ fq := by
      rw [k2, j2] at nd
      simp only [List.nodup_append, List.nodup_cons, List.mem_append, List.mem_cons] at nd
      grind
    refine ⟨p, o, vs, fq, rfl, h1, n p pin, h2, h3, hnd.2.2.2.2, fun o' s' vs' ms' fq' ho own sub => ?_⟩
    have z := k4 S (upd H p o') _ _ (Ex.refl S) (fun b hb => upd_ne fun e => by subst e; exact hb.elim hnd.1 hnd.2.1) (j4 S (upd H p o') (.n s' ms') (p :: fq') (Ex.refl S) (fun b hb => upd_ne fun e => by subst e; exact hb.elim hnd.2.2.1 hnd.2.2.2.1) (.n upd_same ho own))
    have sb : (f0 ++ (e0 ++ (p :: fq') ++ e2) ++ f2).Sublist fp := by
      rw [k2, j2]
      exact ((List.Sublist.refl f0).append (((List.Sublist.refl e0).append (sub.cons₂ p)).append (List.Sublist.refl e2))).append (List.Sublist.refl f2)
    refine ⟨_, ⟨?_, sb.nodup nd, fun b hb => rg.no b (sb.subset hb)⟩, st.mv (fp' := f0 ++ (e0 ++ (p :: fq') ++ e2) ++ f2) rg.no rg.own.lays (Ex.refl S) (fun b u q => ?_) (fun b hb _ => upd_ne fun e => hb (e ▸ pin)) (fun b _ hb _ => hb) fun b hb => ⟨.inl (sb.subset hb), n b (sb.subset hb)⟩⟩
    · have eg1 : gv (gl ++ (a, M.put (.n s' ms') π m) :: gr) = gv (gl ++ (a, m) :: gr) := by
        unfold gv
        simp
      have eg2 : gm (gl ++ (a, M.put (.n s' ms') π m) :: gr) = (gm (gl ++ (a, m) :: gr)).set gl.length (M.put (.n s' ms') π m) := by
        unfold gm
        simp
      rw [eg1, eg2]
      exact z
    · rw [upd_ne fun e => by rw [e, n p pin] at q; cases q]
      exact st.ext.sub b u q
/-! ### lists -/
theorem TM.append (hp : EvP K te ρ g a m π) (hg : g = gl ++ (a, m) :: gr) (hat : M.at π m = some (.n .lst ms)) (hx : EvD K tx ρ d) (hl : ms.length < 100000) (k : F.nx ρ (gl ++ (a, M.put (.n .lst (ms ++ [.d d])) π m) :: gr)) :
    TM K (tDrop (tBM K "list" rAppend te (tCons tx tNil))) ρ g F := fun S0 H0 S H σ Dd st ac =>
  hp S0 H0 S H σ st _ fun u S1 H1 x1 l => by
    have st1 := st.go x1
    obtain ⟨p, o, vs, fq, e1, e2, e3, e4⟩ := st1.at (by rw [hg]; simp) l hat
    subst e1
    have e3 : o = .lst vs := e3
    subst e3
    refine ⟨.inl ⟨rfl, _, Evl.sq_of e2⟩, ?_⟩
    refine hx S1 H1 σ st1.sub st1.env _ fun v S2 H2 x2 r2 => ?_
    have st2 := st1.go x2
    obtain ⟨p', o, vs, fq, e1, e2, _, e3, e4, e5, w⟩ := st2.write hg (l.mono x2.h) hat
    cases e1
    have e3 : o = .lst vs := e3
    subst e3
    refine ⟨p, vs, v, rfl, rfl, e2, Evl.sz_lt (by rw [e4.length]; exact hl), ?_⟩
    refine ac.nx _ _ S2 _ σ k (x1.s.trans x2.s) (w _ .lst _ _ _ rfl ((e4.mono (Ex.refl _) fun b hb => upd_ne fun e => e5 (by rw [← e]; exact hb)).append (.cons (.d r2) .nil)) ?_)
    rw [List.append_nil, List.append_nil]
    exact List.Sublist.refl _
theorem TM.remove {ns : List Int} (hp : EvP K te ρ g a m π) (hg : g = gl ++ (a, m) :: gr) (hat : M.at π m = some (.n .lst (ns.map fun n => M.d (.int n)))) {z : Int} (hx : EvD K tx ρ (.int z)) (hj : ns[j]? = some z) (hno : ∀ q : Nat, q < j → ns[q]? ≠ some z)
    (k : F.nx ρ (gl ++ (a, M.put (.n .lst ((ns.eraseIdx j).map fun n => M.d (.int n))) π m) :: gr)) : TM K (tDrop (tBM K "list" rRemI te (tCons tx tNil))) ρ g F := fun S0 H0 S H σ Dd st ac =>
  hp S0 H0 S H σ st _ fun u S1 H1 x1 l => by
    have st1 := st.go x1
    obtain ⟨p, o, vs, fq, e1, e2, e3, e4⟩ := st1.at (by rw [hg]; simp) l hat
    subst e1
    have e3 : o = .lst vs := e3
    subst e3
    refine ⟨.inl ⟨rfl, _, Evl.sq_of e2⟩, ?_⟩
    refine hx S1 H1 σ st1.sub st1.env _ fun v S2 H2 x2 r2 => ?_
    cases r2
    have st2 := st1.go x2
    obtain ⟨p', o, vs, fq, e1, e2, _, e3, e4, e5, w⟩ := st2.write hg (l.mono x2.h) hat
    cases e1
    have e3 : o = .lst vs := e3
    subst e3
    have em : ∀ xs : List Int, xs.map (fun n => M.d (.int n)) = (xs.map D.int).map M.d := fun xs => by rw [List.map_map]; rfl
    rw [em] at e4
    obtain ⟨ef, rl⟩ := e4.toD
    have ev := rl.ints
    subst ev
    subst ef
    refine ⟨p, ns, z, j, rfl, rfl, e2, hj, hno, ?_⟩
    refine ac.nx _ _ S2 _ σ k (x1.s.trans x2.s) (w _ .lst ((ns.eraseIdx j).map V.int) _ [] rfl ?_ (List.Sublist.refl _))
    rw [em]
    exact OwnL.ofD (RdL.ofInts _)
/-- x = xs.pop() of an own list -/
theorem T.popO {F : FE} (h : ρ[i]? = some (.o (ds ++ [d]))) (k : F.nx ((ρ.set i (.o ds)).set j (.k d))) : T K (tAsg (tBM0 K "list" rPop (tVar i)) (gName j)) ρ F := fun S0 H0 S H σ Dd s a => by
  obtain ⟨p, vs, h1, h2, h3, h4, h5⟩ := s.own i _ h
  refine ⟨_, h1, .inl ⟨rfl, _, Evl.sq_of h4⟩, ?_⟩
  obtain ⟨v, hv, rv⟩ := h5.get (i := ds.length) (d := d) (by simp)
  have hl : vs.length = ds.length + 1 := by rw [h5.length]; simp
  refine ⟨p, vs, v, rfl, rfl, h4, by rw [hl]; exact hv, ?_⟩
  have r2 : RdL K S vs.dropLast ds := by
    have z := h5.take ds.length
    rw [List.take_append_of_le_length (Nat.le_refl _), List.take_length] at z
    rw [List.dropLast_eq_take, hl]
    exact z
  exact a.nx _ S _ _ k (Ex.refl S) ((s.put (vs := vs) h h1 r2).set rv)
/-! ### lifting -/
/-- a statement that does not touch the region, and does not return -/
def FM.at (F : FM) (g : Gs) : FE := { nx := fun r => F.nx r g, bk := fun r => F.bk r g, ct := fun r => F.ct r g }
theorem TM.of (h : T K t ρ (F.at g)) : TM K t ρ g F := fun S0 H0 S H σ Dd st ac => by
  obtain ⟨fp, rg, st⟩ := st
  have n := SG.noS st rg
  have back : ∀ {ρ' : Rho} {S' H' : Hp} {σ' : L2.St}, Ex S S' → Stt K S0 (cov H0 H fp) ρ' S' H' σ' → SG K S0 H0 ρ' g S' H' σ' := fun {ρ' S' H' σ'} e s' => by
    have same : ∀ a ∈ fp, H' a = H a := fun a ha => by
      cases q : H a with
      | none => exact absurd q (rg.own.lays a ha)
      | some o => exact s'.ext.h a o (by rw [cov_in ha]; exact q)
    have ec : cov H0 H' fp = cov H0 H fp := funext fun a => by
      by_cases ha : a ∈ fp
      · rw [cov_in ha, cov_in ha, same a ha]
      · rw [cov_out ha, cov_out ha]
    exact ⟨fp, ⟨rg.own.mono e same, rg.nd, rg.no⟩, by rw [ec]; exact s'⟩
  exact h S0 (cov H0 H fp) S H σ Dd st ⟨fun ρ' S' H' σ' n e s' => ac.nx ρ' g S' H' σ' n e (back e s'), fun ρ' S' H' σ' n e s' => ac.bk ρ' g S' H' σ' n e (back e s'), fun ρ' S' H' σ' n e s' => ac.ct ρ' g S' H' σ' n e (back e s'), fun _ _ _ _ z => z.elim, fun _ _ _ _ _ z => z.elim⟩
/-! ### returns -/
theorem TM.ret (h : EvD K te ρ d) (k : F.rt (.d d) g) : TM K (tRet te) ρ g F := TM.retX (EvX.of h) k
theorem TM.retO (h : ρ[i]? = some (.o es)) (k : F.rt (.o es) g) : TM K (tRet (tVar i)) ρ g F := fun S0 H0 S H σ Dd st ac => by
  obtain ⟨fp, rg, st⟩ := st
  obtain ⟨p, vs, h1, h2, h3, h4, h5⟩ := st.own i es h
  refine ⟨_, h1, ac.rt (.o es) g _ [] S H [] k ⟨fp, rg, ?_⟩⟩
  exact (st.clear).beside ⟨p, vs, rfl, h2, h3, h4, h5⟩ fun p' _ j ds hj => by simp at hj
theorem TM.retT (h : ρ[i]? = some (.k (.adr a))) (hp : List.Perm g (g1 ++ [(a, m)])) (k : F.rt (.t m) g1) : TM K (tRet (tVar i)) ρ g F := fun S0 H0 S H σ Dd st ac => by
  obtain ⟨v, h1, h2⟩ := st.env.val i _ h
  cases h2
  exact ⟨_, h1, ac.rt (.t m) g1 _ ρ S H σ k ⟨a, rfl, st.perm hp⟩⟩
/-! ### a def -/
def FM.tell (r : Rs) (g : Gs) : FM := { nx := fun _ x => r = .d .non ∧ ∃ e, List.Perm x (g ++ e), rt := fun q x => q = r ∧ ∃ e, List.Perm x (g ++ e) }
theorem SG.start {vs : List V} {N : List Str} (st : SG K S0 H0 [] g S H []) (rl : RdL K S vs ds) : SG K S0 H0 (startR N.length ds) g S H (L2.start N vs) := by
  obtain ⟨fp, rg, st⟩ := st
  have z := stt_start (N := N) st.ext.sub rl
  refine ⟨fp, rg, st.ext, z.env, fun i es h => ?_, fun i j a b p h => ?_⟩
  · obtain ⟨p, vs, _, h2, _, h4, _⟩ := z.own i es h
    rw [h2] at h4
    cases h4
  · obtain ⟨p, vs, _, h2, _, h4, _⟩ := z.own i a h
    rw [h2] at h4
    cases h4
theorem TM.fin {Rel : List D → Gs → Rs → Gs → Prop} {vs : List V} {N : List Str} {H : Hp} {Q : VK} {E : XK} (h : spG K Rel vs H Q E) (k : ∀ ds g r g', Rel ds g r g' → TM K t (startR N.length ds) g (.tell r g')) : t { nx := fun _ H' => Q .non H', rt := Q } (L2.start N vs) H := by
  obtain ⟨S, H0, ds, g, r, g', st, rl, rel, q⟩ := h
  refine k ds g r g' rel S H0 S H _ _ (st.start rl) ⟨fun ρ x S' H' σ n e s => ?_, fun _ _ _ _ _ z => z.elim, fun _ _ _ _ _ z => z.elim, fun r' x v ρ S' H' σ n s => ?_⟩
  · obtain ⟨n, ex, hp⟩ := n
    subst n
    obtain ⟨fp, rg, s⟩ := (s.perm hp).forget
    exact q .non S' H' s.ext.s ⟨⟨fp, rg, s.clear⟩, .non⟩
  · obtain ⟨n, ex, hp⟩ := n
    subst n
    have s := s.bare
    have fin : ∀ {ρc σc}, SG K S H0 ρc x S' H' σc → Ex S S' ∧ SG K S H0 ρc g' S' H' σc := fun {ρc σc} z => by
      obtain ⟨fp, rg, y⟩ := (z.perm hp).forget
      exact ⟨y.ext.s, fp, rg, y⟩
    cases r' with
    | d d =>
      obtain ⟨e, y⟩ := fin s.1
      exact q v S' H' e ⟨y, s.2⟩
    | o es =>
      obtain ⟨e, y⟩ := fin s
      exact q v S' H' e y
    | t m =>
      obtain ⟨p, ev, s⟩ := s
      have hp2 : List.Perm (x ++ [(p, m)]) ((g' ++ [(p, m)]) ++ ex) := by
        refine (hp.append_right _).trans ?_
        rw [List.append_assoc, List.append_assoc]
        exact (List.perm_append_comm).append_left _
      obtain ⟨fp, rg, y⟩ := (s.perm hp2).forget
      exact q v S' H' y.ext.s ⟨p, ev, fp, rg, y⟩
theorem spG_len {Rel : List D → Gs → Rs → Gs → Prop} {n : Nat} (h : ∀ ds g r g', Rel ds g r g' → ds.length = n) : ∀ vs H Q E, spG K Rel vs H Q E → vs.length = n := fun vs H Q E ⟨S, H0, ds, g, r, g', _, rl, rel, _⟩ => rl.length.trans (h ds g r g' rel)
end
end Pl

/-! sorted(d), d a dict whose keys are whole numbers, fewer than 64. -/
namespace Sk
open PySem PySem.Spec PySem.Calls PyProof.Rows L2 PySem.W
def rSortedD : List V → Hp → VK → Prop := fun vs H Q => ∃ (a : Addr) (kvs : List (L2.Key × V)) (ns : List Int), vs = [V.ref a] ∧ H a = some (.dK kvs) ∧ kvs.map (·.1) = ns.map Sum.inl ∧ kvs.length < 64 ∧
  ∀ (ms : List Int) (p : Addr), ms.Pairwise (· ≤ ·) → ms.Perm ns → H p = none → Q (.ref p) (upd H p (.lst (ms.map V.int)))
theorem ints_at : ∀ {vs : List Value} {ns : List Int}, vs.length = ns.length → (∀ (j : Nat) (v : Value), vs[j]? = some v → ∃ k tk, ns[j]? = some k ∧ v = Value.int k tk) → IntsAre vs ns
  | [], [], _, _ => .nil
  | v :: vs, n :: ns, l, h => by
    obtain ⟨k, tk, e1, e2⟩ := h 0 v rfl
    simp at e1
    subst e1
    subst e2
    exact .cons _ tk (ints_at (Nat.succ.inj l) fun j u hu => h (j + 1) u hu)
theorem cr_sortedD {X : Cx} (hc : X.calm = true) : CallR X (.builtin "sorted") rSortedD := by
  intro pins s σ H vs us Q I r h
  obtain ⟨a, kvs, ns, rfl, ha, hk, h64, q⟩ := h
  rw [Vals.ref1 r]
  obtain ⟨_, hsys, ws, kv, dd⟩ := dk_of I.hok ha
  obtain ⟨ep, hat⟩ := dd.dictAt
  have hh := I.ok.hd hc
  have hl : ws.length = kvs.length := kv.length.symm
  have hnl : ns.length = kvs.length := by
    have z := congrArg List.length hk
    rw [List.length_map, List.length_map] at z
    exact z.symm
  refine Calls.call_function_entry kind_sorted plain_sorted entry_sorted (args_sorted1 _) ?_
  unfold Builtin.«sorted»
  refine wpAny_bind (m := checkCount "sorted" 1 1 _) (wpAny_pure ?_)
  refine wpAny_bind (kdu_collect (A := X.A.in1) (kdl_dict (knd := mixKind X.prog X.w) (kvs := ws) (ep := ep) hsys) hh hat (by rw [hl, sizeLine_eq]; omega) fun h1 tk acc k1 hacc => ?_)
  have hvl : acc.toList.length = ws.length := by rw [Array.length_toList]; exact hacc.1
  have hI : IntsAre acc.toList ns := ints_at (by rw [hvl, hl, hnl]) fun j v hv => by
    obtain ⟨k, x, hx, hk2⟩ := hacc.2 j v (by rw [← Array.getElem?_toList]; exact hv)
    have e1 : (ws.map (·.1))[j]? = some k := by rw [List.getElem?_map, hx]; rfl
    rw [← kv.keys, hk, List.getElem?_map] at e1
    cases e2 : ns[j]? with
    | none => rw [e2] at e1; cases e1
    | some n =>
      rw [e2] at e1
      cases e1
      have hk3 : keyIs (Sum.inl n) v = true := hk2
      rcases keyIs_shape hk3 with ⟨i, t, ev, e⟩ | ⟨z, t, ev, e⟩
      · cases ev
        exact ⟨_, t, rfl, e⟩
      · cases ev
  refine wpAny_bind (wpAny_newList ?_ (by rw [hvl, hl, sizeLine_eq]; omega))
  have hoL : (h1.push (seqObj "list" acc.toList.toArray 0)).get? h1.objs.size = some (seqObj "list" acc.toList.toArray 0) := Heap.get?_push_size _ rfl
  refine wpAny_bind (wpAny_holding (wpAny_call_entry slot_list_sort ⟨_, hoL, rfl⟩ entry_list_sort (list_sort_tree hoL hI (by rw [hvl, hl]; exact h64) fun out ns' a1 a2 a3 => ⟨_, rfl, ?_⟩) (args_list_sort _)))
  obtain ⟨c, hcc⟩ := sortedHeap_at (vs := acc.toList) (out := out) hoL
  have I1 : L2.Inv X pins σ H { s with heap := h1, toks := tk } := I.kept (t' := tk) k1
  have hn : H h1.objs.size = none := I1.hok.fresh (Nat.le_refl _)
  have hlen : (ns'.map V.int).length ≤ sizeLine := by rw [List.length_map, a2.length_eq, hnl, sizeLine_eq]; omega
  have kS : ∀ b u, h1.get? b = some u → (sortedHeap (h1.push (seqObj "list" acc.toList.toArray 0)) h1.objs.size acc.toList out).get? b = some u := fun b u q => by
    have hlt := Heap.lt_size q
    rw [sortedHeap_old (Nat.ne_of_lt hlt) (by rw [size_push']; exact Nat.lt_succ_of_lt hlt)]
    exact Heap.get?_push_of_some _ q
  have J := I1.laid (a := h1.objs.size) (o := .lst (ns'.map V.int)) (h' := sortedHeap (h1.push (seqObj "list" acc.toList.toArray 0)) h1.objs.size acc.toList out) (t' := tk) kS (Nat.le_refl _) ⟨hlen, out.toList, c, vals_of_ints a1, hcc⟩
  exact wpAny_pure ⟨_, rfl, .ref h1.objs.size, _, J, rfl, q ns' _ a3 a2 hn⟩
end Sk

/-! Dicts whose keys are whole numbers; rows. -/
namespace Pl
open PySem PySem.Spec PyProof.Rows L2
open Evl (Ex)
def ik (ns : List Int) : List L2.Key := ns.map Sum.inl
section
variable {K : PySem.W.Frag} {S0 H0 S H S' H' : Hp} {σ : L2.St} {ρ ρ' ρ1 ρv : Rho} {g g' g1 g2 gl gr : Gs} {F G : FM} {t u : TS} {te ti td tx tk tv ty : TE} {tA : TA} {c : TT} {d : D} {es ds : List D} {ms : List M} {m m1 m2 : M} {a : Addr} {π : List Nat} {Dd : Ends} {i j : Nat} {b : Bool} {r : Rs} {E : XK} {s : Shp}
theorem valV_zip {ns : List Int} {vs : List V} {k : Int} (hl : ns.length = vs.length) (h : ns[j]? = some k) (hn : ∀ q : Nat, q < j → ns[q]? ≠ some k) : valV ((ik ns).zip vs) (.inl k) = vs[j]? := by
  induction ns generalizing vs j with
  | nil => simp at h
  | cons n ns ih =>
    cases vs with
    | nil => simp at hl
    | cons v vs =>
      cases j with
      | zero =>
        simp at h
        subst h
        exact valV_pos rfl
      | succ j =>
        have hne : n ≠ k := fun e => hn 0 (Nat.succ_pos _) (by rw [e]; rfl)
        show valV ((Sum.inl n, v) :: ((ik ns).zip vs)) (.inl k) = (v :: vs)[j + 1]?
        rw [valV_neg (fun e => hne (Sum.inl.inj e)), ih (Nat.succ.inj hl) (by simpa using h) fun q hq => by
          have := hn (q + 1) (by omega)
          simpa using this]
        simp
theorem valV_out {ns : List Int} {vs : List V} {k : Int} (hl : ns.length = vs.length) (h : k ∉ ns) : valV ((ik ns).zip vs) (.inl k) = none := by
  induction ns generalizing vs with
  | nil => rfl
  | cons n ns ih =>
    cases vs with
    | nil => rfl
    | cons v vs =>
      show valV ((Sum.inl n, v) :: ((ik ns).zip vs)) (.inl k) = none
      rw [valV_neg (fun e => h (by rw [Sum.inl.inj e]; exact List.mem_cons_self)), ih (Nat.succ.inj hl) fun z => h (List.mem_cons_of_mem _ z)]
theorem first_at {k : Int} : ∀ {ns : List Int}, k ∈ ns → ∃ j, ns[j]? = some k ∧ ∀ q : Nat, q < j → ns[q]? ≠ some k
  | n :: ns, h => by
    by_cases e : n = k
    · exact ⟨0, by rw [e]; rfl, fun q hq => absurd hq (Nat.not_lt_zero _)⟩
    · obtain ⟨j, h1, h2⟩ := first_at (List.mem_of_ne_of_mem (Ne.symm e) h)
      refine ⟨j + 1, by simpa using h1, fun q hq => ?_⟩
      cases q with
      | zero => simpa using e
      | succ q => simpa using h2 q (by omega)
theorem ev_dget {ns : List Int} {k : Int} (hd : EvD K td ρ (.dc (ik ns) ds)) (hk : EvD K ty ρ (.int k)) (h : ns[j]? = some k) (hn : ∀ q : Nat, q < j → ns[q]? ≠ some k) (hv : ds[j]? = some d) : EvD K (tDGet td ty) ρ d := fun S H σ e v Q q =>
  hd S H σ e v _ fun u S1 H1 x1 r1 => hk S1 H1 σ x1.sub (v.mono x1.s) _ fun w S2 H2 x2 r2 => by
    cases r2
    cases r1 with
    | dc ha hl rl =>
      rename_i pa vs0
      have hl2 := (List.length_map (as := ns) Sum.inl).symm.trans hl
      obtain ⟨x, hx, rx⟩ := rl.get hv
      exact ⟨_, x, rfl, .inl ⟨_, .inl k, .inl (x2.sub _ _ (x2.s _ _ ha)), rfl, (by rw [valV_zip hl2 h hn, hx])⟩, q x S2 H2 (x1.trans x2) (rx.mono x2.s)⟩
theorem ev_din {ns : List Int} {k : Int} (hk : EvD K ty ρ (.int k)) (hd : EvD K td ρ (.dc (ik ns) ds)) : EvD K (tDIn ty td) ρ (.bl (decide (k ∈ ns))) := fun S H σ e v Q q =>
  hk S H σ e v _ fun w S1 H1 x1 r1 => hd S1 H1 σ x1.sub (v.mono x1.s) _ fun u S2 H2 x2 r2 => by
    cases r1
    cases r2 with
    | dc ha hl rl =>
      rename_i pa vs0
      have hl2 := (List.length_map (as := ns) Sum.inl).symm.trans hl
      refine ⟨_, _, rfl, .inl ⟨_, .inl k, .inl (x2.sub _ _ ha), rfl, rfl⟩, ?_⟩
      have e : (valV ((ik ns).zip vs0) (.inl k)).isSome = decide (k ∈ ns) := by
        by_cases hm : k ∈ ns
        · obtain ⟨j, h1, h2⟩ := first_at hm
          rw [valV_zip hl2 h1 h2, decide_eq_true hm, List.getElem?_eq_getElem (by rw [← hl2]; exact (List.getElem?_eq_some_iff.mp h1).1)]
          rfl
        · rw [valV_out hl2 hm, decide_eq_false hm]
          rfl
      rw [e]
      exact q _ S2 H2 (x1.trans x2) (.bl _)
theorem ev_dni {ns : List Int} {k : Int} (hk : EvD K ty ρ (.int k)) (hd : EvD K td ρ (.dc (ik ns) ds)) : EvD K (tDNotIn ty td) ρ (.bl (!decide (k ∈ ns))) := fun S H σ e v Q q =>
  hk S H σ e v _ fun w S1 H1 x1 r1 => hd S1 H1 σ x1.sub (v.mono x1.s) _ fun u S2 H2 x2 r2 => by
    cases r1
    cases r2 with
    | dc ha hl rl =>
      rename_i pa vs0
      have hl2 := (List.length_map (as := ns) Sum.inl).symm.trans hl
      refine ⟨_, _, rfl, .inl ⟨_, .inl k, .inl (x2.sub _ _ ha), rfl, rfl⟩, ?_⟩
      have e : (valV ((ik ns).zip vs0) (.inl k)).isSome = decide (k ∈ ns) := by
        by_cases hm : k ∈ ns
        · obtain ⟨j, h1, h2⟩ := first_at hm
          rw [valV_zip hl2 h1 h2, decide_eq_true hm, List.getElem?_eq_getElem (by rw [← hl2]; exact (List.getElem?_eq_some_iff.mp h1).1)]
          rfl
        · rw [valV_out hl2 hm, decide_eq_false hm]
          rfl
      rw [e]
      exact q _ S2 H2 (x1.trans x2) (.bl _)
/-! ### a walk over the keys -/
theorem ei_keys {ns : List Int} (h : EvD K td ρ (.fz ns)) : EvI K (iKeys td) ρ (ns.map D.int) := fun S H σ e v R q =>
  h S H σ e v _ fun w S1 H1 x1 r1 => by
    cases r1 with
    | fz ha hk =>
      rename_i p o kvs
      have hl : kvs.length = ns.length := by
        have z := congrArg List.length hk
        rwa [List.length_map, List.length_map] at z
      refine ⟨p, o, rfl, .inl ⟨kvs, x1.sub _ _ ha, q _ S1 H1 x1 ⟨fun S' H' i e1 e2 hi => ⟨e2 _ _ (e1 _ _ ha), by rw [hl]; rwa [List.length_map] at hi⟩, fun S' H' i x H'' d e1 e2 hd y => ?_, fun S' H' e1 e2 => ⟨e2 _ _ (e1 _ _ ha), by rw [hl, List.length_map]; exact Nat.le_refl _⟩⟩⟩⟩
      obtain ⟨rfl, k, v, h1, rfl⟩ := y
      have z : (kvs.map (·.1))[i]? = some k := by rw [List.getElem?_map, h1]; rfl
      rw [hk, List.getElem?_map] at z
      rw [List.getElem?_map] at hd
      cases e3 : ns[i]? with
      | none => rw [e3] at z; cases z
      | some n =>
        rw [e3] at z hd
        cases z
        cases hd
        exact ⟨S', Ext.refl e2, .int n⟩
open Classical in
noncomputable def woH (S H S3 : Hp) : Hp := fun a => if S a = none ∧ H a ≠ none then none else S3 a
theorem ext_woH {S3 H3 : Hp} (eS : Ex S S3) (eH : Ex H H3) (e3 : Ex S3 H3) : Ext S H (woH S H S3) H3 where
  s := fun a o e => by
    unfold woH
    rw [if_neg fun z => by rw [z.1] at e; cases e]
    exact eS a o e
  h := eH
  sub := fun a o e => by
    unfold woH at e
    split at e
    · cases e
    · exact e3 a o e
  dis := fun a h1 h2 => if_pos ⟨h1, h2⟩
theorem woH_none {S3 : Hp} {p : Addr} (h : S3 p = none) : woH S H S3 p = none := by
  unfold woH
  split
  · rfl
  · exact h
/-- all that is read, beside the root at p -/
theorem SG.look1 {p : Addr} {m : M} (st : SG K S0 H0 ρ g S H σ) (hp : List.Perm g (g1 ++ [(p, .n s ms)])) (hv : View g1 ρ ρv) : ∃ S2, Ex S S2 ∧ Ex S2 H ∧ Env K S2 σ ρv ∧ S2 p = none := by
  obtain ⟨fp, rg, s0⟩ := st.perm hp
  have o := rg.own
  rw [gv_app, gm_app] at o
  obtain ⟨f1, f2, ef, o1, o2⟩ := o.split gv_len
  have n := SG.noS s0 rg
  have hpf : p ∈ f2 := by
    cases o2 with
    | cons h1 h2 =>
      cases h1 with
      | n _ _ _ => simp
  have hp1 : p ∉ f1 := fun z => (List.nodup_append.mp (ef ▸ rg.nd)).2.2 p z p hpf rfl
  have sub : ∀ a ∈ f1, a ∈ fp := fun a ha => ef ▸ List.mem_append_left _ ha
  have hpfp : p ∈ fp := ef ▸ List.mem_append_right _ hpf
  have hHp : H p ≠ none := rg.own.lays p hpfp
  have nown : ¬ Owns ρ σ p := fun ⟨i, ds, h1, h2⟩ => by
    obtain ⟨q, vs, k1, k2, k3, k4, k5⟩ := s0.own i ds h1
    rw [k1] at h2
    cases h2
    rw [cov_in hpfp] at k2
    exact hHp k2
  have st1 : Stt K S0 (cov H0 H f1) ρ S H σ := s0.mv rg.no rg.own.lays (Ex.refl S) s0.ext.sub (fun a _ _ => rfl) (fun a _ h _ => h) fun a ha => ⟨.inl (sub a ha), n a (sub a ha)⟩
  have rg1 : RG K S0 H0 g1 S H f1 := ⟨o1, (List.nodup_append.mp (ef ▸ rg.nd)).1, fun a ha => rg.no a (sub a ha)⟩
  have e1 : Ex S (withP (fun a => Owns ρ σ a ∨ a ∈ f1) S H) := fun a o e => by
    unfold withP
    split
    · exact s0.ext.sub a o e
    · exact e
  have e2 : Ex (withP (fun a => Owns ρ σ a ∨ a ∈ f1) S H) H := fun a o e => by
    unfold withP at e
    split at e
    · exact e
    · exact s0.ext.sub a o e
  refine ⟨withP (fun a => Owns ρ σ a ∨ a ∈ f1) S H, e1, e2, ⟨by rw [hv.length]; exact s0.env.len, fun i d h => ?_⟩, ?_⟩
  · rcases hv.get i d h with h | ⟨ds, h', e⟩ | ⟨a, m, h', hm, e⟩
    · obtain ⟨v, h1, h2⟩ := s0.env.val i d h
      exact ⟨v, h1, h2.mono e1⟩
    · subst e
      obtain ⟨q, vs, k1, k2, k3, k4, k5⟩ := s0.own i ds h'
      exact ⟨_, k1, .lst ((if_pos (.inl ⟨i, ds, h', k1⟩)).trans k4) (k5.mono e1)⟩
    · subst e
      obtain ⟨v, h1, h2⟩ := s0.env.val i _ h'
      cases h2
      obtain ⟨f, k1, k2⟩ := o1.mem hm
      exact ⟨_, h1, k2.see e1 fun b hb => if_pos (.inr (k1 b hb))⟩
  · unfold withP
    rw [if_neg fun z => z.elim nown hp1]
    exact n p hpfp
/-- a list comprehension over the keys of a dict of the region -/
theorem EvX.keys {p : Addr} {ns : List Int} (hp : List.Perm g (g1 ++ [(p, .n (.dic (ik ns)) ms)])) (hi : ρ[i]? = some (.k (.adr p))) (hv : View g1 ρ ρv) (h : EvF K te (ρv.set i (.k (.fz ns))) es) (hf : ∀ d ∈ es, d.flat = true) : EvX K (tLockE te) ρ g (.o es) g := fun S0 H0 S H σ st Q q => by
  obtain ⟨S2, e1, e2, ev, sp⟩ := st.look1 (m := .d .non) hp hv
  obtain ⟨fp, rg, s0⟩ := id st
  obtain ⟨f, hfp, o⟩ := rg.own.mem (a := p) (m := .n (.dic (ik ns)) ms) (hp.mem_iff.mpr (by simp))
  cases o with
  | n h1 h2 h3 =>
    rename_i ho vs fq
    obtain ⟨hl, eo⟩ := h2
    subst eo
    obtain ⟨v0, g1', g2'⟩ := st.env.val i _ hi
    cases g2'
    refine ⟨p, _, h1, trivial, fun od => ?_⟩
    have hkeys : ((ik ns).zip vs).map (·.1) = ns.map Sum.inl := by
      show List.map Prod.fst ((ik ns).zip vs) = ik ns
      rw [List.map_fst_zip (by rw [hl]; exact Nat.le_refl _)]
    have ex3 : Ex S2 (upd S2 p (.frz od (.dK ((ik ns).zip vs)))) := Ex.new sp
    have sub3 : Ex (upd S2 p (.frz od (.dK ((ik ns).zip vs)))) (upd H p (.frz od (.dK ((ik ns).zip vs)))) := fun a o e => by
      by_cases ha : a = p
      · subst ha; rw [upd_same] at e ⊢; exact e
      · rw [upd_ne ha] at e ⊢; exact e2 a o e
    have ev3 : Env K (upd S2 p (.frz od (.dK ((ik ns).zip vs)))) σ (ρv.set i (.k (.fz ns))) := by
      have z := (ev.mono ex3).set (i := i) (d := .fz ns) (v := .ref p) (.fz upd_same hkeys)
      rw [show σ.set i (some (.ref p)) = σ from List.ext_getElem? fun q => by
        by_cases hq : i = q
        · subst hq
          by_cases hl : i < σ.length
          · rw [List.getElem?_set_self hl, g1']
          · rw [List.getElem?_eq_none (by rw [List.length_set]; omega), List.getElem?_eq_none (by omega)]
        · rw [List.getElem?_set_ne hq]] at z
      exact z
    refine h _ _ σ sub3 ev3 _ fun q2 ws S4 H4 x hq2 sq h4 rl => ?_
    have e4 : H4 p = some (.frz od (.dK ((ik ns).zip vs))) := x.h p _ upd_same
    refine ⟨e4, ?_⟩
    have nq : q2 ≠ p := fun z => by rw [z, upd_same] at hq2; cases hq2
    have hq0 : H q2 = none := by rw [upd_ne nq] at hq2; exact hq2
    have h4' : (upd H4 p (.dK ((ik ns).zip vs))) q2 = some (.lst ws) := by rw [upd_ne nq]; exact h4
    have S5 : ∃ S5 : Hp, Ex S S5 ∧ Ex S5 (upd H4 p (.dK ((ik ns).zip vs))) ∧ S5 q2 = none := by
      refine ⟨fun a => if a = p then none else S4 a, fun a o e => ?_, fun a o e => ?_, ?_⟩
      · have ha : a ≠ p := fun z => by subst z; rw [e1 _ _ e] at sp; cases sp
        show (if a = p then none else S4 a) = some o
        rw [if_neg ha]
        exact x.s a o (ex3 a o (e1 a o e))
      · by_cases ha : a = p
        · have e : (if a = p then none else S4 a) = some o := e
          rw [if_pos ha] at e; cases e
        · have e : (if a = p then none else S4 a) = some o := e
          rw [if_neg ha] at e
          rw [upd_ne ha]
          exact x.sub a o e
      · show (if q2 = p then none else S4 q2) = none
        rw [if_neg nq]
        exact sq
    obtain ⟨S5, a1, a2, a3⟩ := S5
    have eH : Ex H (upd H4 p (.dK ((ik ns).zip vs))) := fun a o e => by
      by_cases ha : a = p
      · subst ha; rw [upd_same, ← h1]; exact e
      · rw [upd_ne ha]
        exact x.h a o (by rw [upd_ne ha]; exact e)
    have xx := ext_woH a1 eH a2
    obtain ⟨rg', s'⟩ := rg.go s0 xx
    exact q _ _ _ xx.s (SG.besideF rg s0 hq0 rg' s' (woH_none a3) h4' (rl.flat hf))
/-! ### new dicts -/
theorem ex_disp1 {k : Int} (hk : EvD K tk ρ (.int k)) (hv : EvD K tv ρ d) : EvX K (tDisp [(tk, tv)]) ρ g (.t (.n (.dic (ik [k])) [.d d])) g := fun S0 H0 S H σ st Q q => by
  intro p hp
  obtain ⟨fp, rg, s0⟩ := id st
  have x0 : Ext S H S (upd H p (.dK [])) := Ext.hid s0.ext.sub hp
  refine hk S _ σ x0.sub s0.env _ fun w1 S1 H1 x1 r1 => hv S1 H1 σ x1.sub (s0.env.mono x1.s) _ fun w2 S2 H2 x2 r2 => ?_
  cases r1
  have xx := (x0.trans x1).trans x2
  have hp2 : H2 p = some (.dK []) := (x1.trans x2).h p _ upd_same
  refine ⟨hp2, [(.inl k, w2)], rfl, Nat.le_of_ble_eq_true rfl, ?_⟩
  have eH : Ex H (upd H2 p (.dK (mergeK [] [(.inl k, w2)]))) := fun a o e => by
    rw [upd_ne fun z => by rw [z, hp] at e; cases e]
    exact xx.h a o e
  have np : S2 p = none := (x1.trans x2).dis p (sub_none s0.ext.sub hp) (by rw [upd_same]; exact fun z => nomatch z)
  have e3 : Ex S2 (upd H2 p (.dK (mergeK [] [(.inl k, w2)]))) := fun a o e => by
    rw [upd_ne fun z => by rw [z, np] at e; cases e]
    exact xx.sub a o e
  have x3 : Ext S H S2 (upd H2 p (.dK (mergeK [] [(.inl k, w2)]))) := ⟨xx.s, eH, e3, xx.dis⟩
  obtain ⟨rg', s'⟩ := rg.go s0 x3
  have npf : p ∉ fp := fun z => rg.own.lays p z hp
  have h0p : H0 p = none := by
    cases z : H0 p with
    | none => rfl
    | some o =>
      have y := s0.ext.h p o (by rw [cov_out npf]; exact z)
      rw [hp] at y
      cases y
  have s0p : S0 p = none := by
    cases z : S0 p with
    | none => rfl
    | some o =>
      have y := s0.ext.sub p o (s0.ext.s p o z)
      rw [hp] at y
      cases y
  refine q _ S2 _ xx.s ⟨p, rfl, fp ++ [p], ⟨?_, ?_, fun a ha => ?_⟩, ?_⟩
  · rw [gv_app, gm_app]
    refine rg'.own.append ?_
    have z : OwnL K S2 (upd H2 p (.dK (mergeK [] [(.inl k, w2)]))) [.ref p] [.n (.dic (ik [k])) [.d d]] ((p :: []) ++ []) := .cons (.n (o := .dK (mergeK [] [(.inl k, w2)])) upd_same ⟨rfl, rfl⟩ (OwnL.ofD (ds := [d]) (.cons r2 .nil))) .nil
    exact z
  · refine List.nodup_append.mpr ⟨rg.nd, by simp, fun a ha b hb e => ?_⟩
    rw [List.mem_singleton.mp hb] at e
    subst e
    exact npf ha
  · rcases List.mem_append.mp ha with ha | ha
    · exact rg.no a ha
    · rw [List.mem_singleton.mp ha]
      exact ⟨h0p, s0p⟩
  · refine s0.mv rg.no rg.own.lays xx.s e3 (fun a _ h => ?_) (fun a _ h1 h2 => x3.dis a h1 h2) fun a ha => ?_
    · cases z : H a with
      | none => exact absurd z h
      | some o => exact x3.h a o z
    · rcases List.mem_append.mp ha with ha | ha
      · exact ⟨.inl ha, x3.dis a (SG.noS s0 rg a ha) (rg.own.lays a ha)⟩
      · rw [List.mem_singleton.mp ha]
        exact ⟨.inr hp, np⟩
/-- d[k] = v of a new key -/
theorem TM.dputNew {ns : List Int} {k : Int} (hv : EvD K tv ρ d) (hp : EvP K td ρ g a m π) (hk : EvD K ty ρ (.int k)) (hg : g = gl ++ (a, m) :: gr) (hat : M.at π m = some (.n (.dic (ik ns)) (ds.map M.d))) (hn : k ∉ ns) (hl : ns.length < 100000)
    (kk : F.nx ρ (gl ++ (a, M.put (.n (.dic (ik (ns ++ [k]))) ((ds ++ [d]).map M.d)) π m) :: gr)) : TM K (sDPut td ty tv) ρ g F := fun S0 H0 S H σ Dd st ac =>
  hv S H σ st.sub st.env _ fun v S1 H1 x1 r1 => by
    have st1 := st.go x1
    refine hp S0 H0 S1 H1 σ st1 _ fun u S2 H2 x2 l => ?_
    have st2 := st1.go x2
    refine hk S2 H2 σ st2.sub st2.env _ fun w S3 H3 x3 r3 => ?_
    cases r3
    have st3 := st2.go x3
    obtain ⟨p, o, vs, fq, e1, e2, _, e3, e4, e5, wr⟩ := st3.write hg (l.mono x3.h) hat
    obtain ⟨e6, e7⟩ := e4.toD
    obtain ⟨e8, e9⟩ := e3
    subst e1
    subst e9
    subst e6
    have hl2 : ns.length = vs.length := by rw [← e8]; exact (List.length_map _).symm
    refine ⟨p, _, rfl, .inl ⟨_, .inl k, e2, rfl, Evl.sz_lt (by rw [List.length_zip]; unfold ik; rw [List.length_map]; omega), rfl⟩, ?_⟩
    refine ac.nx _ _ S3 _ σ kk ((x1.s.trans x2.s).trans x3.s) (wr _ (.dic (ik (ns ++ [k]))) (vs ++ [v]) _ [] ⟨?_, ?_⟩ (OwnL.ofD (e7.append (.cons (r1.mono (x2.s.trans x3.s)) .nil))) (List.Sublist.refl _))
    · unfold ik
      rw [List.length_map, List.length_append, List.length_append, hl2]
      rfl
    · rw [putK_new v (valV_out hl2 hn)]
      unfold ik
      rw [List.map_append, List.zip_append (by rw [List.length_map]; exact hl2)]
      rfl
/-- sorted(..) of a new dict -/
theorem EvX.sortedT {ns ks : List Int} (h : EvX K te ρ g (.t (.n (.dic (ik ns)) (ds.map M.d))) g') (h64 : ns.length < 64) (hs : ks.Pairwise (· ≤ ·)) (hp : ks.Perm ns) : EvX K (tCB Sk.rSortedD (tCons te tNil)) ρ g (.o (ks.map D.int)) g' := fun S0 H0 S H σ st Q q =>
  h S0 H0 S H σ st _ fun v S1 H1 e z => by
    obtain ⟨p, ev, st1⟩ := z
    subst ev
    obtain ⟨fp, rg, s1⟩ := id st1
    obtain ⟨f, hf, o⟩ := rg.own.mem (a := p) (m := .n (.dic (ik ns)) (ds.map M.d)) (by simp)
    cases o with
    | n h1 h2 h3 =>
      rename_i ho vs fq
      obtain ⟨hl, eo⟩ := h2
      subst eo
      refine ⟨p, _, ns, rfl, h1, ?_, ?_, fun ms p2 hm1 hm2 hp2 => ?_⟩
      · show List.map Prod.fst ((ik ns).zip vs) = ik ns
        rw [List.map_fst_zip (by rw [hl]; exact Nat.le_refl _)]
      · rw [List.length_zip]
        unfold ik
        rw [List.length_map]
        omega
      · have em : ms = ks := (hm2.trans hp.symm).eq_of_pairwise (fun a b _ _ h1 h2 => by omega) hm1 hs
        subst em
        obtain ⟨fp, rg, s0⟩ := id (SG.forget st1)
        obtain ⟨rg', s'⟩ := rg.go s0 (Ext.hid s0.ext.sub hp2 (o := .lst (ms.map V.int)))
        exact q _ S1 _ e (SG.besideF rg s0 hp2 rg' s' (sub_none s0.ext.sub hp2) upd_same (RdL.ofInts ms))
end
end Pl

/-! New trees; rows that are empty. -/
namespace Pl
open PySem PySem.Spec PyProof.Rows L2
open Evl (Ex)
section
variable {K : PySem.W.Frag} {S0 H0 S H S' H' : Hp} {σ : L2.St} {ρ ρ' ρ1 ρv : Rho} {g g' g1 g2 gl gr : Gs} {F G : FM} {t u : TS} {te ti td tx tk tv ty : TE} {tA : TA} {c : TT} {d : D} {es ds : List D} {ms : List M} {m m1 m2 : M} {a : Addr} {π : List Nat} {Dd : Ends} {i j : Nat} {b : Bool} {r : Rs} {E : XK} {s : Shp}
theorem SG.add {p : Addr} {f : List Addr} (st : SG K S0 H0 ρ g S H σ) (x : Ext S H S' H') (o : Own K S' H' (.ref p) m f) (nd : f.Nodup) (no : ∀ a ∈ f, H a = none ∧ S' a = none) : SG K S0 H0 ρ (g ++ [(p, m)]) S' H' σ := by
  obtain ⟨fp, rg, s0⟩ := st
  obtain ⟨rg', s'⟩ := rg.go s0 x
  have nf : ∀ a ∈ f, a ∉ fp := fun a ha z => rg.own.lays a z (no a ha).1
  refine ⟨fp ++ f, ⟨?_, ?_, fun a ha => ?_⟩, ?_⟩
  · rw [gv_app, gm_app]
    refine rg'.own.append ?_
    have z : OwnL K S' H' [.ref p] [m] (f ++ []) := .cons o .nil
    rw [List.append_nil] at z
    exact z
  · refine List.nodup_append.mpr ⟨rg.nd, nd, fun a ha b hb e => ?_⟩
    subst e
    exact nf a hb ha
  · rcases List.mem_append.mp ha with ha | ha
    · exact rg.no a ha
    · have hp := (no a ha).1
      refine ⟨?_, ?_⟩
      · cases z : H0 a with
        | none => rfl
        | some o =>
          have y := s0.ext.h a o (by rw [cov_out (nf a ha)]; exact z)
          rw [hp] at y
          cases y
      · cases z : S0 a with
        | none => rfl
        | some o =>
          have y := s0.ext.sub a o (s0.ext.s a o z)
          rw [hp] at y
          cases y
  · refine s0.mv rg.no rg.own.lays x.s x.sub (fun a _ h => ?_) (fun a _ h1 h2 => x.dis a h1 h2) fun a ha => ?_
    · cases z : H a with
      | none => exact absurd z h
      | some o => exact x.h a o z
    · rcases List.mem_append.mp ha with ha | ha
      · exact ⟨.inl ha, x.dis a (SG.noS s0 rg a ha) (rg.own.lays a ha)⟩
      · exact ⟨.inr (no a ha).1, (no a ha).2⟩
theorem ownL_rows : ∀ {as : List Addr}, (∀ a ∈ as, H a = some (.lst [])) → OwnL K S H (as.map V.ref) (List.replicate as.length (.n .lst [])) as
  | [], _ => .nil
  | a :: as, h => by
    have z : OwnL K S H (.ref a :: as.map V.ref) (.n .lst [] :: List.replicate as.length (.n .lst [])) ((a :: []) ++ as) := .cons (.n (h a List.mem_cons_self) (show Shp.ho .lst (.lst []) [] from rfl) .nil) (ownL_rows fun b hb => h b (List.mem_cons_of_mem _ hb))
    exact z
/-- [[] for .. in ..] -/
theorem EvX.rows {wi : TI} {vs : List Nat} (hi : EvI K wi ρ ds) (hj : j ∈ vs) (hl : ds.length ≤ 50000) : EvX K (tLc wi (gName j) tYes (tLst tNil) vs) ρ g (.t (.n .lst (List.replicate ds.length (.n .lst [])))) g := fun S0 H0 S H σ st Q q =>
  hi S H σ st.sub st.env _ fun J S1 H1 x1 wk => fun Dl hD => by
    refine ⟨fun i m H' => m = ds.length - i ∧ i ≤ ds.length ∧ ∃ S' as, Ext S1 H1 S' H' ∧ S' Dl = none ∧ H' Dl = some (.lst (as.map V.ref)) ∧ as.length = i ∧ (Dl :: as).Nodup ∧ ∀ a ∈ as, H' a = some (.lst []) ∧ H1 a = none ∧ S' a = none,
      ⟨ds.length, by simp, Nat.zero_le _, S1, [], Ext.hid x1.sub hD, sub_none x1.sub hD, upd_same, rfl, by simp, fun _ z => nomatch z⟩, ?_⟩
    rintro i m H' ⟨rfl, hi, S', as, x, nS, hus, hal, nd, rows⟩
    by_cases hlt : i < ds.length
    · refine .inr ⟨wk.go S' H' i x.s x.sub hlt, fun H2 => ∃ S2 as2, Ext S1 H1 S2 H2 ∧ S2 Dl = none ∧ H2 Dl = some (.lst (as2.map V.ref)) ∧ as2.length = i + 1 ∧ (Dl :: as2).Nodup ∧ ∀ a ∈ as2, H2 a = some (.lst []) ∧ H1 a = none ∧ S2 a = none, fun H2 z => ⟨ds.length - (i + 1), by omega, rfl, hlt, z⟩, fun xv H'' y => ?_⟩
      have hd : ds[i]? = some ds[i] := List.getElem?_eq_getElem hlt
      obtain ⟨S2, x2, r2⟩ := wk.yld S' H' i xv H'' ds[i] x.s x.sub hd y
      refine ⟨by rw [wipe_set hj, wipe_wipe], ?_⟩
      refine ⟨Evl.sz_of (Nat.zero_le _), fun p hp => ?_⟩
      have hD2 : H'' Dl = some (.lst (as.map V.ref)) := x2.h _ _ hus
      have np : p ≠ Dl := fun z => by rw [z, hD2] at hp; cases hp
      have npa : ∀ a ∈ as, a ≠ p := fun a ha z => by rw [← z, x2.h _ _ (rows a ha).1] at hp; cases hp
      have h1p : H1 p = none := Evl.fresh_back (x.h.trans x2.h) hp
      have s2p : S2 p = none := sub_none x2.sub hp
      have s2D : S2 Dl = none := x2.dis _ nS (by rw [hus]; exact fun z => nomatch z)
      refine ⟨as.map V.ref, by rw [upd_ne (Ne.symm np)]; exact hD2, Evl.sz_lt (by rw [List.length_map]; omega), S2, as ++ [p], ⟨x.s.trans x2.s, fun a o ha => ?_, fun a o ha => ?_, fun a h1 h2 => x2.dis a (x.dis a h1 h2) ?_⟩, s2D, ?_, by rw [List.length_append, hal]; rfl, ?_, fun a ha => ?_⟩
      · rw [upd_ne (fun z => by rw [z, hD] at ha; cases ha), upd_ne (fun z => by rw [z, h1p] at ha; cases ha)]
        exact x2.h _ _ (x.h a o ha)
      · rw [upd_ne (fun z => by rw [z, s2D] at ha; cases ha), upd_ne (fun z => by rw [z, s2p] at ha; cases ha)]
        exact x2.sub a o ha
      · cases e : H1 a with
        | none => exact absurd e h2
        | some o => rw [x.h a o e]; exact fun z => nomatch z
      · rw [upd_same, List.map_append]
        rfl
      · have nd' := List.nodup_cons.mp nd
        refine List.nodup_cons.mpr ⟨fun z => ?_, List.nodup_append.mpr ⟨nd'.2, by simp, fun a ha b hb e => npa a ha (e.trans (List.mem_singleton.mp hb))⟩⟩
        rcases List.mem_append.mp z with z | z
        · exact nd'.1 z
        · exact np (List.mem_singleton.mp z).symm
      · rcases List.mem_append.mp ha with ha | ha
        · obtain ⟨r1, r2', r3⟩ := rows a ha
          have nD : a ≠ Dl := fun z => (List.nodup_cons.mp nd).1 (z ▸ ha)
          rw [upd_ne nD, upd_ne (npa a ha)]
          exact ⟨x2.h _ _ r1, r2', x2.dis a r3 (by rw [r1]; exact fun z => nomatch z)⟩
        · rw [List.mem_singleton.mp ha, upd_ne np, upd_same]
          exact ⟨rfl, h1p, s2p⟩
    · have e0 : i = ds.length := by omega
      subst e0
      refine .inl ⟨wk.stop S' H' x.s x.sub, ?_⟩
      have xx := x1.trans x
      refine q _ S' H' xx.s ⟨Dl, rfl, st.add xx (f := Dl :: as) ?_ nd fun a ha => ?_⟩
      · rw [← hal]
        exact .n hus (show Shp.ho .lst _ _ from rfl) (ownL_rows fun a ha => (rows a ha).1)
      · rcases List.mem_cons.mp ha with e | ha
        · rw [e]
          exact ⟨Evl.fresh_back x1.h hD, nS⟩
        · exact ⟨Evl.fresh_back x1.h (rows a ha).2.1, (rows a ha).2.2⟩
/-! ### calls that read the region -/
mutual
def M.flat : M → Bool
  | .d d => d.flat
  | .n _ ms => flatL ms
def flatL : List M → Bool
  | [] => true
  | m :: ms => m.flat && flatL ms
end
mutual
theorem Own.flat {S2 : Hp} : ∀ {v : V} {m : M} {f : List Addr}, Own K S H v m f → m.flat = true → Own K S2 H v m f
  | _, _, _, .d h, e => .d (h.flat e)
  | _, _, _, .n h ho r, e => .n h ho (OwnL.flat r e)
theorem OwnL.flat {S2 : Hp} : ∀ {vs : List V} {ms : List M} {f : List Addr}, OwnL K S H vs ms f → flatL ms = true → OwnL K S2 H vs ms f
  | _, _, _, .nil, _ => .nil
  | _, _, _, .cons h r, e => by
    have e : (_ && _) = true := e
    rw [Bool.and_eq_true] at e
    exact .cons (h.flat e.1) (r.flat e.2)
end
theorem flatL_map {α : Type} {f : α → M} : ∀ {l : List α}, (∀ x ∈ l, (f x).flat = true) → flatL (l.map f) = true
  | [], _ => rfl
  | x :: l, h => by
    show ((f x).flat && flatL (l.map f)) = true
    rw [h x List.mem_cons_self, flatL_map fun y hy => h y (List.mem_cons_of_mem _ hy)]
    rfl
theorem EvX.callV {Rel : List D → Gs → Rs → Gs → Prop} (hv : View g ρ ρv) (ha : EvA K tA ρv ds) (hr : Rel ds [] (.t m) []) (hf : m.flat = true) : EvX K (tCall (spG K Rel) [] E tA) ρ g (.t m) g := fun S0 H0 S H σ st Q q => by
  obtain ⟨fp, rg, s0⟩ := id st
  obtain ⟨P, e1, e2, v, _⟩ := SG.look rg s0 hv
  refine ha _ H σ e2 v _ fun vs S1 H1 x1 r1 => ?_
  refine ⟨S1, H1, ds, [], .t m, [], ⟨[], ⟨.nil, List.nodup_nil, fun _ z => nomatch z⟩, ?_⟩, by rw [List.append_nil]; exact r1, hr, fun w S2 H2 e3 z => ?_⟩
  · rw [cov_nil]
    exact ⟨Ext.refl x1.sub, ⟨rfl, fun i d h => by simp at h⟩, fun i ds h => by simp at h, fun i j a b p h => by simp at h⟩
  · obtain ⟨p, ew, fc, rc, sc⟩ := z
    subst ew
    have o := rc.own
    have o : OwnL K S2 H2 [.ref p] [m] fc := o
    cases o with
    | cons o1 o2 =>
      cases o2
      rename_i f
      rw [List.append_nil] at rc sc
      have eH : Ex H1 H2 := fun a o e => by
        have n : a ∉ f := fun z => by rw [(rc.no a z).1] at e; cases e
        exact sc.ext.h a o (by rw [cov_out n]; exact e)
      have xx : Ext S H (woH S H S2) H2 := ext_woH ((e1.trans x1.s).trans e3) (x1.h.trans eH) sc.ext.sub
      refine q _ _ H2 xx.s ⟨p, rfl, st.add xx (o1.flat hf) rc.nd fun a ha => ?_⟩
      have n1 := (rc.no a ha).1
      exact ⟨Evl.fresh_back x1.h n1, woH_none (SG.noS sc rc a ha)⟩
/-- a comprehension over a walked dict, put into a name -/
theorem TM.lockAsg (h : EvX K (tLockE te) ρ g (.o es) g') (k : F.nx (ρ.set i (.o es)) g') : TM K (tLock (tAsg te (gName i))) ρ g F := fun S0 H0 S H σ Dd s a => by
  have z := TM.asgO h k S0 H0 S H σ Dd s a
  obtain ⟨d, u, h1, h2, h3⟩ := z
  exact ⟨d, u, h1, h2, fun od => h3 od⟩
theorem lt1 {n c : Nat} (h : n + 64 < c) : n + 1 < c := by omega
end
end Pl

/-! What joints carry, as trees and as data. -/
namespace Pl
open PySem PySem.Spec PyProof.Rows L2
open Evl (Ex)
def nD (l : List Nat) : List D := l.map fun k : Nat => .int (k : Int)
def rowD (l : List Nat) : D := .lst (nD l)
def gridD (cs : Fr.Cs) : D := .lst (cs.map rowD)
def rowM (l : List Nat) : M := .n .lst (l.map fun k : Nat => .d (.int (k : Int)))
def gridM (cs : Fr.Cs) : M := .n .lst (cs.map rowM)
def kI (l : List Nat) : List Int := l.map fun k : Nat => (k : Int)
def aD (ah : Fr.Ah) : List D := ah.map fun p => .int (p.2 : Int)
def dctM (ah : Fr.Ah) : M := .n (.dic (ik (kI (Fr.keys ah)))) ((aD ah).map M.d)
def dctD (ah : Fr.Ah) : D := .dc (ik (kI (Fr.keys ah))) (aD ah)
theorem see_row (l : List Nat) : (rowM l).see = rowD l := by
  show D.lst (seeL (l.map fun k : Nat => M.d (.int (k : Int)))) = _
  have e : (l.map fun k : Nat => M.d (.int (k : Int))) = (nD l).map M.d := by unfold nD; rw [List.map_map]; rfl
  rw [e, seeL_d]
  rfl
theorem see_grid (cs : Fr.Cs) : (gridM cs).see = gridD cs := by
  show D.lst (seeL (cs.map rowM)) = _
  rw [seeL_map, List.map_map]
  unfold gridD
  refine congrArg D.lst (List.map_congr_left fun l _ => see_row l)
theorem see_dct (ah : Fr.Ah) : (dctM ah).see = dctD ah := by
  show D.dc _ (seeL ((aD ah).map M.d)) = _
  rw [seeL_d]
  rfl
theorem get_cs {cs : Fr.Cs} {j : Nat} (h : j < cs.length) : cs[j]? = some (Fr.at_ cs j) := by
  unfold Fr.at_
  simp [List.getD, h]
theorem at_grid {cs : Fr.Cs} {j : Nat} (h : j < cs.length) : M.at [j] (gridM cs) = some (rowM (Fr.at_ cs j)) := by
  have e : (cs.map rowM)[j]? = some (rowM (Fr.at_ cs j)) := by rw [List.getElem?_map, get_cs h]; rfl
  show (match (cs.map rowM)[j]? with | some m => M.at [] m | none => none) = _
  rw [e]
  rfl
theorem put_grid {cs : Fr.Cs} {j : Nat} {l : List Nat} (h : j < cs.length) : M.put (rowM l) [j] (gridM cs) = gridM (cs.set j l) := by
  have e : (cs.map rowM)[j]? = some (rowM (Fr.at_ cs j)) := by rw [List.getElem?_map, get_cs h]; rfl
  show (match (cs.map rowM)[j]? with | some m => M.n .lst ((cs.map rowM).set j (M.put (rowM l) [] m)) | none => .n .lst (cs.map rowM)) = _
  rw [e]
  show M.n .lst ((cs.map rowM).set j (rowM l)) = _
  unfold gridM
  rw [List.map_set]
theorem gridD_at {cs : Fr.Cs} {j : Nat} (h : j < cs.length) : atI (cs.map rowD) (j : Int) = some (rowD (Fr.at_ cs j)) := atI_nat (by rw [List.getElem?_map, get_cs h]; rfl)
theorem kI_mem {l : List Nat} {k : Nat} : (k : Int) ∈ kI l ↔ k ∈ l := by
  unfold kI
  rw [List.mem_map]
  constructor
  · rintro ⟨a, h, e⟩
    have : a = k := by omega
    rw [← this]
    exact h
  · exact fun h => ⟨k, h, rfl⟩
theorem visit_snoc (j f : Nat) : ∀ (l : List Nat) (ah : Fr.Ah) (wt : List Nat), Fr.visit j (l ++ [f]) ah wt = if f ∈ Fr.keys (Fr.visit j l ah wt).1 then Fr.visit j l ah wt else ((Fr.visit j l ah wt).1 ++ [(f, j)], (Fr.visit j l ah wt).2 ++ [f])
  | [], ah, wt => by by_cases h : f ∈ Fr.keys ah <;> simp [Fr.visit, h]
  | x :: l, ah, wt => by
    rw [List.cons_append]
    unfold Fr.visit
    split
    · exact visit_snoc j f l ah wt
    · exact visit_snoc j f l _ _
theorem visit_len (j : Nat) : ∀ (l : List Nat) (ah : Fr.Ah) (wt : List Nat), (Fr.visit j l ah wt).1.length ≤ ah.length + l.length ∧ (Fr.visit j l ah wt).2.length ≤ wt.length + l.length
  | [], ah, wt => by simp [Fr.visit]
  | x :: l, ah, wt => by
    unfold Fr.visit
    split
    · have := visit_len j l ah wt
      simp only [List.length_cons]
      omega
    · have := visit_len j l (ah ++ [(x, j)]) (wt ++ [x])
      simp only [List.length_cons, List.length_append, List.length_nil] at this ⊢
      omega
theorem visit_grow (j : Nat) : ∀ (l : List Nat) (ah : Fr.Ah) (wt : List Nat), ah.length ≤ (Fr.visit j l ah wt).1.length
  | [], ah, wt => Nat.le_refl _
  | x :: l, ah, wt => by
    unfold Fr.visit
    split
    · exact visit_grow j l ah wt
    · have := visit_grow j l (ah ++ [(x, j)]) (wt ++ [x])
      rw [List.length_append, List.length_cons, List.length_nil] at this
      omega
theorem reach_step (cs : Fr.Cs) (m j : Nat) (ah : Fr.Ah) (wt : List Nat) : Fr.reach cs (m + 1) ah (wt ++ [j]) = Fr.reach cs m (Fr.visit j (Fr.at_ cs j) ah wt).1 (Fr.visit j (Fr.at_ cs j) ah wt).2 := by
  conv => lhs; unfold Fr.reach
  simp
theorem seen_start {cs : Fr.Cs} {start : Nat} (hs : start < cs.length) : Fr.Seen cs.length cs start [(start, start)] [start] := by
  refine ⟨by simp [Fr.keys], fun k hk => ?_, ⟨[], rfl⟩, fun i f p h hi => ?_, fun k hk => ?_⟩
  · simp [Fr.keys] at hk
    omega
  · obtain ⟨m, rfl⟩ : ∃ m, i = m + 1 := ⟨i - 1, by omega⟩
    simp at h
  · simpa [Fr.keys] using hk
theorem dctM_snoc (ah : Fr.Ah) (f j : Nat) : M.n (.dic (ik (kI (Fr.keys ah) ++ [(f : Int)]))) ((aD ah ++ [D.int (j : Int)]).map M.d) = dctM (ah ++ [(f, j)]) := by
  unfold dctM
  rw [Fr.keys_append]
  unfold kI aD
  rw [List.map_append, List.map_append, List.map_append, List.map_append]
  rfl
theorem nD_snoc (l : List Nat) (f : Nat) : nD l ++ [D.int (f : Int)] = nD (l ++ [f]) := by unfold nD; rw [List.map_append]; rfl
theorem dct_flat (ah : Fr.Ah) : (dctM ah).flat = true := by
  show flatL ((aD ah).map M.d) = true
  refine flatL_map fun x hx => ?_
  obtain ⟨p, _, rfl⟩ := List.mem_map.mp hx
  rfl
theorem grid_flat (cs : Fr.Cs) : (gridM cs).flat = true := by
  show flatL (cs.map rowM) = true
  refine flatL_map fun l _ => ?_
  show flatL (l.map fun k : Nat => M.d (.int (k : Int))) = true
  exact flatL_map fun x _ => rfl
theorem rowM_kI (l : List Nat) : rowM l = .n .lst ((kI l).map fun n => M.d (.int n)) := by
  unfold rowM kI
  rw [List.map_map]
  rfl
theorem kI_erase {j : Nat} : ∀ {l : List Nat}, j ∈ l → ∃ i, (kI l)[i]? = some (j : Int) ∧ (∀ q : Nat, q < i → (kI l)[q]? ≠ some (j : Int)) ∧ (kI l).eraseIdx i = kI (l.erase j)
  | x :: l, h => by
    by_cases e : x = j
    · subst e
      refine ⟨0, rfl, fun q hq => absurd hq (Nat.not_lt_zero _), ?_⟩
      rw [List.erase_cons_head]
      rfl
    · obtain ⟨i, h1, h2, h3⟩ := kI_erase (List.mem_of_ne_of_mem (Ne.symm e) h)
      refine ⟨i + 1, h1, fun q hq => ?_, ?_⟩
      · cases q with
        | zero =>
          intro z
          have z : (x : Int) = (j : Int) := Option.some.inj z
          omega
        | succ q => exact h2 q (by omega)
      · rw [List.erase_cons_tail (by simpa using e)]
        show (x : Int) :: (kI l).eraseIdx i = _
        rw [h3]
        rfl
/-- what turning a bar about leaves -/
theorem turn_two {cs : Fr.Cs} {b j v : Nat} (hb : b < cs.length) (hj : j < cs.length) (ne : b ≠ j) : (Fr.at_ (Fr.turn cs b j) v).length ≤ (Fr.at_ cs v).length + 1 := by
  rw [Fr.turn_at hb hj ne]
  split
  · rename_i h
    subst h
    rw [List.length_append]
    exact Nat.le_refl _
  · split
    · rename_i h
      subst h
      exact Nat.le_trans (List.length_erase_le) (Nat.le_succ _)
    · exact Nat.le_succ _
theorem turn_set {cs : Fr.Cs} {b j : Nat} (hb : b < cs.length) (ne : b ≠ j) : (cs.set b ((Fr.at_ cs b).erase j)).set j (Fr.at_ cs j ++ [b]) = Fr.turn cs b j := by
  unfold Fr.turn
  rw [Fr.at_set hb, if_neg ne]
theorem row_app (l : List Nat) (b : Nat) : M.n .lst ((l.map fun k : Nat => M.d (.int (k : Int))) ++ [M.d (.int (b : Int))]) = rowM (l ++ [b]) := by
  unfold rowM
  rw [List.map_append]
  rfl
def passR (cs : Fr.Cs) (start spared : Nat) : Fr.Cs × Bool := match Fr.passOn cs start spared with
  | none => (cs, false)
  | some c => (c, true)
theorem keys_at {ah : Fr.Ah} {j : Nat} (h : j ∈ Fr.keys ah) : ∃ (i q : Nat), ah[i]? = some (j, q) := by
  obtain ⟨⟨x, q⟩, hm, e⟩ := List.mem_map.mp h
  obtain ⟨i, hi⟩ := List.getElem?_of_mem hm
  exact ⟨i, q, by rw [hi]; exact congrArg some (Prod.ext e rfl)⟩
theorem keys_get {ah : Fr.Ah} {i j q : Nat} (h : ah[i]? = some (j, q)) : (kI (Fr.keys ah))[i]? = some (j : Int) := by
  unfold kI Fr.keys
  rw [List.getElem?_map, List.getElem?_map, h]
  rfl
theorem keys_first {ah : Fr.Ah} (nd : (Fr.keys ah).Nodup) {i j q : Nat} (h : ah[i]? = some (j, q)) : ∀ k : Nat, k < i → (kI (Fr.keys ah))[k]? ≠ some (j : Int) := fun k hk e => by
  have hl : i < ah.length := (List.getElem?_eq_some_iff.mp h).1
  have hk2 : k < ah.length := by omega
  have e0 : ah[k]? = some (ah[k].1, ah[k].2) := List.getElem?_eq_getElem hk2
  rw [keys_get e0] at e
  have e1 : ah[k].1 = j := by
    have := Option.some.inj e
    omega
  rw [e1] at e0
  have := Fr.nd_pos nd h e0
  omega
/-- what holds while bars are turned about -/
def BackAt (cs : Fr.Cs) (ah : Fr.Ah) (start j0 m : Nat) (cs1 : Fr.Cs) (i j q : Nat) : Prop :=
  ah[i]? = some (j, q) ∧ i < m ∧ m ≤ cs.length + 1 ∧ cs1.length = cs.length ∧ (∀ v w, w ∈ Fr.at_ cs1 v → w < cs.length ∧ w ≠ v) ∧ (∀ i' v p' : Nat, i' < i → ah[i']? = some (v, p') → Fr.at_ cs1 v = Fr.at_ cs v) ∧
    (∀ v, (Fr.at_ cs1 v).length + m ≤ cs.length + 3) ∧ Fr.back ah start m cs1 j = Fr.back ah start (cs.length + 1) cs j0
theorem back_step {cs : Fr.Cs} {ah : Fr.Ah} {start j0 m : Nat} {cs1 : Fr.Cs} {i j q : Nat} (sn : Fr.Seen cs.length cs start ah []) (low : ∀ v w, w ∈ Fr.at_ cs v → w < cs.length ∧ w ≠ v) (h : BackAt cs ah start j0 (m + 1) cs1 i j q) (hne : j ≠ start) :
    j ∈ Fr.at_ cs1 q ∧ (q < cs.length ∧ j < cs.length) ∧ q ≠ j ∧ ∃ (i' q' : Nat), i' < i ∧ ah[i']? = some (q, q') ∧ BackAt cs ah start j0 m (Fr.turn cs1 q j) i' q q' := by
  obtain ⟨hi, him, hm, hl1, low1, same1, len1, hb1⟩ := h
  have i0 : i ≠ 0 := fun e => by
    subst e
    obtain ⟨r, hr⟩ := sn.head
    rw [hr] at hi
    simp at hi
    exact hne hi.1.symm
  obtain ⟨hjq, i', q', hi', hq'⟩ := sn.par i j q hi i0
  have eq := same1 i' q q' hi' hq'
  have hj1 : j ∈ Fr.at_ cs1 q := by rw [eq]; exact hjq
  obtain ⟨hjn, hjne⟩ := low q j hjq
  have hqn : q < cs.length := sn.low q (List.mem_map.mpr ⟨(q, q'), List.mem_of_getElem? hq', rfl⟩)
  have hql : q < cs1.length := by omega
  have hjl : j < cs1.length := by omega
  have ne : q ≠ j := fun e => hjne e.symm
  refine ⟨hj1, ⟨hqn, hjn⟩, ne, i', q', hi', hq', hq', by omega, by omega, by rw [Fr.turn_len, hl1], fun v w hw => ?_, fun i2 v p' h2 hv => ?_, fun v => ?_, ?_⟩
  · rw [Fr.turn_at hql hjl ne] at hw
    split at hw
    · rename_i e
      subst e
      rcases List.mem_append.mp hw with hw | hw
      · exact low1 _ _ hw
      · rw [List.mem_singleton.mp hw]
        exact ⟨hqn, ne⟩
    · split at hw
      · rename_i e
        subst e
        exact low1 _ _ (List.mem_of_mem_erase hw)
      · exact low1 _ _ hw
  · rw [Fr.turn_at hql hjl ne, if_neg, if_neg]
    · exact same1 i2 v p' (by omega) hv
    · intro e
      subst e
      have := Fr.nd_pos sn.nd hv hq'
      omega
    · intro e
      subst e
      have := Fr.nd_pos sn.nd hv hi
      omega
  · have := turn_two (v := v) hql hjl ne
    have := len1 v
    omega
  · rw [← hb1]
    show _ = Fr.back ah start (m + 1) cs1 j
    conv => rhs; unfold Fr.back
    rw [if_neg hne, Fr.look_at sn.nd hi]
end Pl
namespace Pl
open PySem PySem.Spec PyProof.Rows L2
open Evl (Ex)
def sortN (ks : List Nat) : List Nat := ks.mergeSort fun a b => decide (a ≤ b)
theorem sortN_perm (ks : List Nat) : (sortN ks).Perm ks := List.mergeSort_perm _ _
theorem sortN_rise (ks : List Nat) : (sortN ks).Pairwise (· ≤ ·) :=
  (List.pairwise_mergeSort (le := fun a b => decide (a ≤ b)) (fun a b c h1 h2 => by simp at h1 h2 ⊢; omega) (fun a b => by simp; omega) ks).imp fun h => by simpa using h
theorem kI_rise {ks : List Nat} (h : ks.Pairwise (· ≤ ·)) : (kI ks).Pairwise (· ≤ ·) := by
  unfold kI
  rw [List.pairwise_map]
  exact h.imp fun h => by omega
def layR : Option (List Nat) → Rs
  | none => .d .non
  | some ks => .o ((kI (sortN ks)).map D.int)
def bI (b : Fr.Bar) : Int × Int := ((b.1 : Int), (b.2 : Int))
def crowdL (cs : Fr.Cs) : List Fr.Bar → Option (List Nat)
  | [] => none
  | b :: r => match (Fr.lay cs b.1 b.2).2 with
    | none => crowdL (Fr.lay cs b.1 b.2).1 r
    | some ks => some ks
end Pl
namespace Pl
open PySem PySem.Spec PyProof.Rows L2
open Evl (Ex)
theorem at_bare (n v : Nat) : Fr.at_ (List.replicate n []) v = [] := by
  unfold Fr.at_
  by_cases h : v < n
  · simp [List.getD, h]
  · simp [List.getD, Nat.le_of_not_lt h]
theorem outs_bare (n : Nat) (S : Fr.JS) : ∀ k : Nat, Fr.outs (List.replicate n []) S k = 0
  | 0 => rfl
  | k + 1 => by
    unfold Fr.outs
    rw [outs_bare n S k, at_bare]
    simp
theorem fits_bare (n : Nat) : Fr.Fits n (List.replicate n []) [] where
  len := List.length_replicate
  two := fun v => by rw [at_bare]; exact Nat.zero_le _
  low := fun v w h => by rw [at_bare] at h; cases h
  out := fun S => by rw [outs_bare]; rfl
theorem slim_nil (n : Nat) : Fr.Slim n [] := fun S h => by
  have : Fr.ins [] S = 0 := rfl
  omega
end Pl
namespace Pl
/-- the numbers of the bars that are taken, from number i on -/
def chosenL (cs : Fr.Cs) : List Fr.Bar → Nat → List Nat
  | [], _ => []
  | b :: r, i => match (Fr.lay cs b.1 b.2).2 with
    | none => i :: chosenL (Fr.lay cs b.1 b.2).1 r (i + 1)
    | some _ => chosenL (Fr.lay cs b.1 b.2).1 r (i + 1)
end Pl

/-! What going through all bars tells: they are lean, or some joints are crowded. -/
namespace Fr
theorem card_inL {n : Nat} {ks : List Nat} (nd : ks.Nodup) (low : ∀ k ∈ ks, k < n) : card n (inL ks) = ks.length := by
  unfold card
  rw [List.countP_eq_length_filter]
  refine List.Perm.length_eq ((List.perm_ext_iff_of_nodup (List.nodup_range.filter _) nd).mpr fun k => ?_)
  rw [List.mem_filter, List.mem_range]
  unfold inL
  rw [decide_eq_true_eq]
  exact ⟨fun h => h.2, fun h => ⟨low k h, h⟩⟩
theorem ins_le_append (as bs : List Bar) (S : JS) : ins as S ≤ ins (as ++ bs) S := by
  unfold ins
  rw [List.countP_append]
  exact Nat.le_add_right _ _
theorem crowd_go {n : Nat} : ∀ (rest pre : List Bar) (cs : Cs), Ok n (pre ++ rest) → Fits n cs pre → Slim n pre → (Pl.crowdL cs rest = none → Slim n (pre ++ rest)) ∧
    ∀ ks, Pl.crowdL cs rest = some ks → ks.Nodup ∧ (∀ k ∈ ks, k < n) ∧ 2 ≤ ks.length ∧ 2 * ks.length < ins (pre ++ rest) (inL ks) + 3
  | [], pre, cs, _, _, sl => ⟨fun _ => by rw [List.append_nil]; exact sl, fun ks h => by cases h⟩
  | b :: rest, pre, cs, ok, ft, sl => by
    obtain ⟨o1, o2, o3⟩ := ok b (by simp)
    have eq : pre ++ b :: rest = (pre ++ [b]) ++ rest := by simp
    unfold Pl.crowdL
    cases hy : (lay cs b.1 b.2).2 with
    | none =>
      obtain ⟨f1, f2⟩ := lay_yes ft (fun c hc => ok c (List.mem_append_left _ hc)) sl o1 o2 o3 (Prod.ext rfl hy : lay cs b.1 b.2 = ((lay cs b.1 b.2).1, none))
      have z := crowd_go rest (pre ++ [b]) (lay cs b.1 b.2).1 (by rw [← eq]; exact ok) f1 f2
      rw [eq]
      exact z
    | some ks =>
      show (some ks = none → Slim n (pre ++ b :: rest)) ∧ ∀ ks', some ks = some ks' → ks'.Nodup ∧ (∀ k ∈ ks', k < n) ∧ 2 ≤ ks'.length ∧ 2 * ks'.length < ins (pre ++ b :: rest) (inL ks') + 3
      refine ⟨fun h => (Option.some_ne_none _ h).elim, fun ks' h => ?_⟩
      have h := Option.some.inj h
      subst h
      obtain ⟨_, nd, low, m1, m2, t1, t2⟩ := lay_no ft sl o1 o2 o3 (Prod.ext rfl hy : lay cs b.1 b.2 = ((lay cs b.1 b.2).1, some ks))
      rw [card_inL nd low] at t1 t2
      refine ⟨nd, low, t1, ?_⟩
      have i1 := ins_append pre b (inL ks)
      have e1 : inL ks b.1 = true := decide_eq_true m1
      have e2 : inL ks b.2 = true := decide_eq_true m2
      rw [e1, e2, Bool.and_self, if_pos rfl] at i1
      have i2 := ins_le_append (pre ++ [b]) rest (inL ks)
      rw [eq]
      omega
/-- None: lean; else: crowded joints -/
theorem crowd_spec {n : Nat} {nb : List Bar} (ok : Ok n nb) : (Pl.crowdL (List.replicate n []) nb = none ↔ Slim n nb) ∧
    ∀ ks, Pl.crowdL (List.replicate n []) nb = some ks → ks.Nodup ∧ (∀ k ∈ ks, k < n) ∧ 2 ≤ ks.length ∧ 2 * ks.length < ins nb (inL ks) + 3 := by
  obtain ⟨h1, h2⟩ := crowd_go nb [] (List.replicate n []) ok (Pl.fits_bare n) (Pl.slim_nil n)
  rw [List.nil_append] at h1 h2
  refine ⟨⟨h1, fun sl => ?_⟩, h2⟩
  cases e : Pl.crowdL (List.replicate n []) nb with
  | none => rfl
  | some ks =>
    obtain ⟨nd, low, k2, k3⟩ := h2 ks e
    have := sl (inL ks) (by rw [card_inL nd low]; exact k2)
    rw [card_inL nd low] at this
    omega
end Fr

/-! More of lists: an item of any data taken out, one popped into another list, turned about. -/
namespace Pl
open PySem PySem.Spec PyProof.Rows L2
open Evl (Ex)
/-- xs.remove(y): the first item that equals y goes -/
def rRemD (K : PySem.W.Frag) : V → List V → Hp → VK → Prop := fun x xs H Q => ∃ (a : Addr) (vs : List V) (y : V) (d : PyData) (ds : List PyData) (j : Nat) (z : PyData), x = V.ref a ∧ xs = [y] ∧ H a = some (.lst vs) ∧ DpAll K H vs ds ∧ Dp K H y d ∧
  PyData.canLayAll0 ds = true ∧ d.canLay0 = true ∧ d.depth ≤ 60 ∧ ds[j]? = some z ∧ PyData.eqv z d = true ∧ (∀ (m : Nat) (w : PyData), m < j → ds[m]? = some w → PyData.eqv w d = false) ∧ Q .non (upd H a (.lst (vs.eraseIdx j)))
theorem mt_removeD {X : Cx} (hu : X.A.units + 64 < cLine) : MtR X "list.remove" (rRemD X.K) := by
  intro pins s σ H x xs v us Q I rx rxs h
  obtain ⟨a, vs, y, d, ds, j, z, ex, exs, hH, ha, hy, sl, sd, dd, hz, hzj, hno, q⟩ := h
  subst ex
  subst exs
  cases rx
  obtain ⟨u, eu, ru⟩ := rxs.one
  subst eu
  obtain ⟨bs, r1⟩ := Dp.reads I d y u hy ru
  obtain ⟨big, its, n, rv, hl, ho⟩ := I.lstM hH
  obtain ⟨as, r2⟩ := Dp.readsAll I ds _ its ha rv
  have nl : its.length = ds.length := SeqAt.ReadsAll.length ds its as r2
  have me := SeqAt.readsAll_map ds its as sl r2
  have jl : j < ds.length := (List.getElem?_eq_some_iff.mp hz).1
  have hj : j < its.toArray.size := by rw [List.size_toArray]; omega
  have item : ∀ (m : Nat) (hm : m < its.toArray.size) (w : PyData), ds[m]? = some w → SeqAt.readOf s.heap its.toArray[m] = w := fun m hm w hw => by
    have hml : m < its.length := by rw [List.size_toArray] at hm; exact hm
    rw [← me, List.getElem?_map, List.getElem?_eq_getElem hml] at hw
    have := Option.some.inj hw
    simpa using this
  have room : X.A.units + 1 + min (PyData.depthAll ds) d.depth < cLine := by
    have := Nat.min_le_right (PyData.depthAll ds) d.depth
    omega
  refine call_meets PySem.F.slot_list_remove ⟨_, ho, rfl⟩ PySem.F.entry_list_remove (PySem.F.args_list_remove_2 _ _)
    (SeqAt.list_removeAt a its.toArray n none #[] u (fun w => PyData.eqv (SeqAt.readOf s.heap w) d) j hj ?_ (fun m hm hmj => ?_) (by rw [List.size_toArray]; omega)) ⟨ho, SeqAt.items_eqAt (vs := its.toArray) r2 r1 sl sd room, ?_⟩
  · show PyData.eqv (SeqAt.readOf s.heap its.toArray[j]) d = true
    rw [item j hj z hz, hzj]
  · have hmd : m < ds.length := by rw [List.size_toArray] at hm; omega
    show PyData.eqv (SeqAt.readOf s.heap its.toArray[m]) d = false
    rw [item m hm _ (List.getElem?_eq_getElem hmd)]
    exact hno m _ hmj (List.getElem?_eq_getElem hmd)
  · refine ⟨.non, _, I.lset (its' := its.eraseIdx j) (t' := s.toks) hH ho ?_ (rv.eraseIdx j) ?_, rfl, q⟩
    · show its.toArray.eraseIdxIfInBounds j = (its.eraseIdx j).toArray
      rw [List.eraseIdxIfInBounds_toArray]
    · exact Nat.le_trans (List.length_eraseIdx_le _ _) big
section
variable {K : PySem.W.Frag} {ρ : Rho} {te ti : TE} {d : D} {ds es : List D} {F : FE} {i j : Nat}
theorem mt_remD {X : Cx} {K : PySem.W.Frag} (h : X.K = K) (hu : X.A.units + 64 < cLine) : MtR X "list.remove" (rRemD K) := by subst h; exact mt_removeD hu
/-- xs.remove(y) of an own list -/
theorem T.removeD {k : Nat} (h : ρ[i]? = some (.o ds)) (he : EvD K te ρ d) (h0 : d.okd 59 = true) (h1 : ∀ x ∈ ds, x.okd 59 = true) (s0 : d.sm 60 = true) (s1 : ∀ x ∈ ds, x.sm 60 = true) (hj : ds[k]? = some d) (hn : ∀ m : Nat, m < k → ds[m]? ≠ some d) (kk : F.nx (ρ.set i (.o (ds.eraseIdx k)))) :
    T K (tDrop (tBM K "list" (rRemD K) (tVar i) (tCons te tNil))) ρ F := fun S0 H0 S H σ Dd s a => by
  obtain ⟨p, vs, g1, g2, g3, g4, g5⟩ := s.own i ds h
  refine ⟨_, g1, .inl ⟨rfl, _, Evl.sq_of g4⟩, ?_⟩
  refine he S H σ s.ext.sub s.env _ fun v S' H' x r => ?_
  have s' := s.go x
  have rl := (g5.mono x.s).mono x.sub
  have dl := okd_shape 59 d h0
  refine ⟨p, vs, v, d.py, pyL ds, k, d.py, rfl, rfl, x.h _ _ g4, dpL (fun v d => Rd.dp 59 v d) _ _ h1 rl, Rd.dp 59 _ _ h0 (r.mono x.sub), ?_, dl.1, by omega, ?_, eqv_dec s0 s0 (by simp), fun m w hm hw => ?_, ?_⟩
  · rw [pyL_map]
    exact canLayAll_of _ fun y hy => by
      obtain ⟨e, he, rfl⟩ := List.mem_map.mp hy
      exact (okd_shape 59 e (h1 e he)).1
  · rw [pyL_map, List.getElem?_map, hj]
    rfl
  · rw [pyL_map, List.getElem?_map] at hw
    cases e : ds[m]? with
    | none => rw [e] at hw; cases hw
    | some y =>
      rw [e] at hw
      cases hw
      have ne : y ≠ d := fun z => hn m hm (by rw [e, z])
      exact eqv_dec (b := false) (s1 y (List.mem_of_getElem? e)) s0 ⟨fun z => (Bool.false_ne_true z).elim, fun z => (ne z).elim⟩
  · exact a.nx _ S' _ σ kk x.s (s'.put (vs := vs) h g1 ((g5.mono x.s).eraseIdx k))
/-- found.append(left.pop(k)) of two own lists -/
theorem T.appendPop {k : Nat} (h : ρ[i]? = some (.o ds)) (h2 : ρ[j]? = some (.o es)) (ne : i ≠ j) (hi : EvD K ti (see ρ) (.int (k : Int))) (hk : es[k]? = some d) (hl : ds.length < 100000) (hl2 : es.length < 100000) (kk : F.nx ((ρ.set j (.o (es.eraseIdx k))).set i (.o (ds ++ [d])))) :
    T K (tDrop (tBM K "list" rAppend (tVar i) (tCons (tBM K "list" rPopAt (tVar j) (tCons ti tNil)) tNil))) ρ F := fun S0 H0 S H σ Dd s a => by
  obtain ⟨e, v, w⟩ := s.see
  obtain ⟨p, vs, g1, g2, g3, g4, g5⟩ := s.own i ds h
  obtain ⟨p2, vs2, f1, f2, f3, f4, f5⟩ := s.own j es h2
  refine ⟨_, g1, .inl ⟨rfl, _, Evl.sq_of g4⟩, _, f1, .inl ⟨rfl, _, Evl.sq_of f4⟩, ?_⟩
  refine hi _ H σ e v _ fun x S' H' xx r => ?_
  cases r
  obtain ⟨eS, s'⟩ := w S' H' xx
  have hkl : k < es.length := (List.getElem?_eq_some_iff.mp hk).1
  obtain ⟨y, hy, ry⟩ := (f5.mono eS).get hk
  have np : p ≠ p2 := fun z => ne (s.apart i j ds es p h h2 g1 (by rw [z]; exact f1))
  refine ⟨p2, vs2, (k : Int), k, y, rfl, rfl, xx.h _ _ f4, by omega, by omega, ?_, hy, ?_⟩
  · unfold seqIndex?
    have hv : vs2.length = es.length := f5.length
    rw [hv]
    have h0 : ¬ ((k : Int) < 0) := by omega
    simp only [h0, if_false]
    have h1 : (decide (0 ≤ (k : Int)) && decide ((k : Int) < (es.length : Int))) = true := by
      rw [Bool.and_eq_true]
      exact ⟨decide_eq_true (by omega), decide_eq_true (by omega)⟩
    rw [if_pos h1]
    rfl
  · have s1 := s'.put (vs := vs2) h2 f1 ((f5.mono eS).eraseIdx k)
    refine ⟨p, vs, y, rfl, rfl, by rw [upd_ne np]; exact xx.h _ _ g4, Evl.sz_lt (by rw [g5.length]; exact hl), ?_⟩
    have hi2 : (ρ.set j (.o (es.eraseIdx k)))[i]? = some (.o ds) := by rw [List.getElem?_set_ne (Ne.symm ne)]; exact h
    exact a.nx _ _ _ σ kk eS (s1.put (vs := vs) hi2 g1 ((g5.mono eS).append (.cons ry .nil)))
theorem RdL.rev {S : Hp} : ∀ {vs : List V} {ds : List D}, RdL K S vs ds → RdL K S vs.reverse ds.reverse
  | _, _, .nil => .nil
  | _, _, .cons h r => by
    rw [List.reverse_cons, List.reverse_cons]
    exact (RdL.rev r).append (.cons h .nil)
/-- xs[::-1] -/
theorem evF_revL (h : EvD K te ρ (.lst ds)) : EvF K (tRevL K te) ρ ds.reverse := fun S H σ e v Q q =>
  h S H σ e v _ fun u S1 H1 x1 r1 => by
    cases r1 with
    | lst ha rl =>
      exact ⟨_, _, rfl, Evl.sq_of (x1.sub _ _ ha), fun p hp => q p _ S1 _ (x1.trans (Ext.hid x1.sub hp)) (Evl.fresh_back x1.h hp) (sub_none x1.sub hp) upd_same rl.rev⟩
theorem ok_revL {X : Cx} {e : Expr} {te : TE} {k : Nat} {p1 p2 p3 pos : Pos} (h : X.K = K) (he : PE X e te) : PE X (.Subscript e (.Slice none none (some (.UnaryOp .USub (.Constant (.int 1) k p1) p2)) p3) pos) (tRevL K te) := by subst h; exact pe_revL he
/-- list(range(n)) -/
theorem evF_listRg {n : Nat} (h : EvD K te ρ (.int (n : Int))) (hn : n ≤ 100000) : EvF K (tLstRg (tRg1 te)) ρ ((kI (List.range n)).map D.int) := fun S H σ e v Q q =>
  h S H σ e v _ fun w S1 H1 x1 r1 => by
    cases r1
    refine ⟨_, rfl, RgOk.of_le (by omega) (by omega) (by omega) (by omega), fun p hp => ?_⟩
    have ev : rgV 0 (n : Int) = (kI (List.range n)).map V.int := by
      unfold rgV kI
      have e1 : ((n : Int) - 0).toNat = n := by omega
      rw [e1, List.map_map]
      refine List.map_congr_left fun k _ => ?_
      show V.int (0 + (k : Int)) = V.int (k : Int)
      rw [Int.zero_add]
    rw [ev]
    exact q p _ S1 _ (x1.trans (Ext.hid x1.sub hp)) (Evl.fresh_back x1.h hp) (sub_none x1.sub hp) upd_same (RdL.ofInts _)
/-- while, its test with a look at own lists -/
theorem T.whileV {c : TT} {t : TS} (Pv : Nat → Rho → Prop) {m0 : Nat} (h0 : Pv m0 ρ) (hs : ∀ (m : Nat) (ρ' : Rho), Pv m ρ' → ∃ b, EvT K c (see ρ') b ∧ (b = true → T K t ρ' { F with nx := fun r => ∃ m', m' < m ∧ Pv m' r, ct := fun r => ∃ m', m' < m ∧ Pv m' r, bk := F.nx }) ∧ (b = false → F.nx ρ')) :
    T K (tWhile c t) ρ F := fun S0 H0 S H σ Dd s a => by
  refine ⟨fun m σ' H' => ∃ ρ' S', Pv m ρ' ∧ Ex S S' ∧ Stt K S0 H0 ρ' S' H' σ', ⟨m0, ρ, S, h0, Ex.refl S, s⟩, ?_⟩
  rintro m σ' H' ⟨ρ', S', p, e, s'⟩
  obtain ⟨b, hb, h1, h2⟩ := hs m ρ' p
  obtain ⟨ev, vv, w⟩ := s'.see
  refine hb _ H' σ' ev vv _ fun S2 H2 x2 => ?_
  obtain ⟨eS, s2⟩ := w S2 H2 x2
  have e2 := e.trans eS
  cases b with
  | true =>
    refine ⟨fun σ3 H3 => ∃ m', m' < m ∧ ∃ ρ3 S3, Pv m' ρ3 ∧ Ex S S3 ∧ Stt K S0 H0 ρ3 S3 H3 σ3, fun σ3 H3 z => z, ?_⟩
    exact h1 rfl S0 H0 _ H2 σ' _ s2 ⟨fun ρ3 S3 H3 σ3 ⟨m', l, n⟩ e3 s3 => ⟨m', l, ρ3, S3, n, e2.trans e3, s3⟩, fun ρ3 S3 H3 σ3 n e3 s3 => a.nx ρ3 S3 H3 σ3 n (e2.trans e3) s3, fun ρ3 S3 H3 σ3 ⟨m', l, n⟩ e3 s3 => ⟨m', l, ρ3, S3, n, e2.trans e3, s3⟩, a.rt, a.rf⟩
  | false => exact a.nx ρ' _ H2 σ' (h2 rfl) e2 s2
/-- f(..) of one thing that may change the region -/
theorem EvX.cb1 {rc : List V → Hp → VK → Prop} {g g' : Gs} {z : D} (h : EvX K te ρ g (.d d) g') (hr : RC K rc [d] z) : EvX K (tCB rc (tCons te tNil)) ρ g (.d z) g' := fun S0 H0 S H σ s Q q => h S0 H0 S H σ s _ fun v S' H' e y => by
  obtain ⟨y1, y2⟩ := y
  exact hr S' H' [v] y1.sub (.cons y2 .nil) Q fun w S2 H2 x2 r2 => q w S2 H2 (e.trans x2.s) ⟨y1.go x2, r2⟩
end
end Pl

/-! Fresh lists of tuples, told with a look at own lists. -/
namespace Pl
open PySem PySem.Spec PyProof.Rows L2
open Evl (Ex)
/-- flat things and tuples of such -/
def D.still (d : D) : Bool := match d with
  | .tup ds => ds.all D.flat
  | d => d.flat
section
variable {K : PySem.W.Frag} {S S2 : Hp}
theorem Rd.still (k : ∀ a xs, S a = some (.tup xs) → S2 a = some (.tup xs)) {v : V} {d : D} (h : Rd K S v d) (e : d.still = true) : Rd K S2 v d := by
  have g : d.flat = true → Rd K S2 v d := fun f => h.flat f
  cases h with
  | tup h r =>
    refine .tup (k _ _ h) (r.flat fun x hx => ?_)
    have e : List.all _ D.flat = true := e
    exact List.all_eq_true.mp e x hx
  | _ => exact g e
theorem RdL.still (k : ∀ a xs, S a = some (.tup xs) → S2 a = some (.tup xs)) : ∀ {vs : List V} {ds : List D}, RdL K S vs ds → (∀ d ∈ ds, d.still = true) → RdL K S2 vs ds
  | _, _, .nil, _ => .nil
  | _, _, .cons h r, e => .cons (Rd.still k h (e _ List.mem_cons_self)) (RdL.still k r fun d hd => e d (List.mem_cons_of_mem _ hd))
end
section
variable {K : PySem.W.Frag} {ρ : Rho} {te : TE} {es : List D} {F : FE} {i : Nat}
theorem T.asgFV (h : EvF K te (see ρ) es) (hf : ∀ d ∈ es, d.still = true) (k : F.nx (ρ.set i (.o es))) : T K (tAsg te (gName i)) ρ F := fun S0 H0 S H σ Dd s a => by
  obtain ⟨e, v, w⟩ := s.see
  refine h _ H σ e v _ fun p vs S' H' xx hp sp h' r => ?_
  obtain ⟨eS, s'⟩ := w S' H' xx
  have kt : ∀ a xs, S' a = some (.tup xs) → woOwn ρ σ S' a = some (.tup xs) := fun b xs q => by
    unfold woOwn
    rw [if_neg]
    · exact q
    · rintro ⟨j, ds, h1, h2⟩
      obtain ⟨p', us, g1, g2, g3, g4, g5⟩ := s.own j ds h1
      rw [g1] at h2
      cases h2
      have z1 := xx.h _ _ g4
      rw [xx.sub _ _ q] at z1
      cases z1
  refine a.nx _ _ H' _ k eS (s'.setO (Evl.fresh_back s.ext.h hp) ?_ h' (r.still kt hf) fun j ds _ hh ej => ?_)
  · unfold woOwn
    split
    · rfl
    · exact sp
  · obtain ⟨q, us, g1, g2, g3, g4, g5⟩ := s.own j ds hh
    rw [g1] at ej
    cases ej
    rw [hp] at g4
    cases g4
end
end Pl

/-! What stands between two joints: the same as lay, without the bar; what is carried behind all bars. -/
namespace Fr
def btw (cs : Cs) (one other : Nat) : Cs × Option (List Nat) :=
  ((unload other one 3 (unload one one 3 cs).1).1, if (unload other one 3 (unload one one 3 cs).1).2 = true then none else some (keys (reached (unload other one 3 (unload one one 3 cs).1).1 other)))
theorem lay_none {cs : Cs} {one other : Nat} (h : (btw cs one other).2 = none) : lay cs one other = ((btw cs one other).1.set one (at_ (btw cs one other).1 one ++ [other]), none) := by
  unfold btw at h ⊢
  unfold lay
  by_cases e : (unload other one 3 (unload one one 3 cs).1).2 = true
  · simp only [e, if_true]
  · simp only [e] at h
    cases h
theorem lay_some {cs : Cs} {one other : Nat} {ks : List Nat} (h : (btw cs one other).2 = some ks) : lay cs one other = ((btw cs one other).1, some ks) := by
  unfold btw at h ⊢
  unfold lay
  by_cases e : (unload other one 3 (unload one one 3 cs).1).2 = true
  · simp only [e, if_true] at h
    cases h
  · simp only [if_neg e] at h ⊢
    cases h
    rfl
theorem btw_fits {n : Nat} {cs : Cs} {bs : List Bar} {one other : Nat} (ft : Fits n cs bs) (h1 : one < n) (h2 : other < n) : Fits n (btw cs one other).1 bs := by
  obtain ⟨ft1, _⟩ := unload_spec (spared := one) h1 3 cs ft (by have := ft.two one; omega)
  exact (unload_spec (spared := one) h2 3 _ ft1 (by have := ft1.two other; omega)).1
def layL (cs : Cs) : List Bar → Cs
  | [] => cs
  | b :: r => layL (lay cs b.1 b.2).1 r
/-- the bars that are taken -/
def keptL (cs : Cs) : List Bar → List Bar
  | [] => []
  | b :: r => if (lay cs b.1 b.2).2 = none then b :: keptL (lay cs b.1 b.2).1 r else keptL (lay cs b.1 b.2).1 r
theorem lay_len {cs : Cs} {one other n : Nat} {bs : List Bar} (ft : Fits n cs bs) (h1 : one < n) (h2 : other < n) : (lay cs one other).1.length = n := by
  have l := (btw_fits ft h1 h2).len
  cases h : (btw cs one other).2 with
  | none => rw [lay_none h]; simpa using l
  | some ks => rw [lay_some h]; exact l
theorem lay_fits_no {n : Nat} {cs : Cs} {bs : List Bar} {one other : Nat} {ks : List Nat} (ft : Fits n cs bs) (h1 : one < n) (h2 : other < n) (h : (lay cs one other).2 = some ks) : Fits n (lay cs one other).1 bs := by
  have l := btw_fits ft h1 h2
  cases hb : (btw cs one other).2 with
  | none => rw [lay_none hb] at h; cases h
  | some k => rw [lay_some hb]; exact l
theorem kept_go {n : Nat} : ∀ (nb pre : List Bar) (cs : Cs), Ok n nb → Ok n pre → Fits n cs pre → Slim n pre → Fits n (layL cs nb) (pre ++ keptL cs nb) ∧ Slim n (pre ++ keptL cs nb)
  | [], pre, cs, _, _, ft, sl => by
    unfold layL keptL
    rw [List.append_nil]
    exact ⟨ft, sl⟩
  | b :: r, pre, cs, ok, okp, ft, sl => by
    obtain ⟨o1, o2, o3⟩ := ok b List.mem_cons_self
    have okr : Ok n r := fun c hc => ok c (List.mem_cons_of_mem _ hc)
    unfold layL keptL
    cases hy : (lay cs b.1 b.2).2 with
    | none =>
      obtain ⟨f1, f2⟩ := lay_yes ft okp sl o1 o2 o3 (Prod.ext rfl hy : lay cs b.1 b.2 = ((lay cs b.1 b.2).1, none))
      have z := kept_go r (pre ++ [b]) _ okr (fun c hc => by
        rcases List.mem_append.mp hc with hc | hc
        · exact okp c hc
        · rw [List.mem_singleton.mp hc]; exact ⟨o1, o2, o3⟩) f1 f2
      rw [List.append_assoc] at z
      exact z
    | some ks =>
      have z := kept_go r pre _ okr okp (lay_fits_no ft o1 o2 hy) sl
      rw [if_neg (by simp)]
      exact z
theorem kept_spec {n : Nat} {nb : List Bar} (ok : Ok n nb) : Fits n (layL (List.replicate n []) nb) (keptL (List.replicate n []) nb) ∧ Slim n (keptL (List.replicate n []) nb) := by
  have := kept_go nb [] (List.replicate n []) ok (fun _ h => nomatch h) (Pl.fits_bare n) (Pl.slim_nil n)
  simpa using this
theorem layL_snoc : ∀ (nb : List Bar) (cs : Cs) (b : Bar), layL cs (nb ++ [b]) = (lay (layL cs nb) b.1 b.2).1
  | [], cs, b => rfl
  | a :: r, cs, b => layL_snoc r _ b
end Fr

/-! What keeps bars slim: a joint with two bars, or with three where one goes; fewer bars, other orders, other names. -/
namespace Fr
def wo (S : JS) (j : Nat) : JS := fun x => S x && !(x == j)
theorem card_wo {n j : Nat} {S : JS} (hj : j < n) (h : S j = true) : card n S = card n (wo S j) + 1 := by
  have hc := card_cup_cap n (wo S j) (one j)
  rw [card_one hj] at hc
  have e1 : card n (cup (wo S j) (one j)) = card n S := card_same fun x _ => by
    show (S x && !(x == j) || (x == j)) = S x
    cases e : (x == j) with
    | false => simp
    | true =>
      rw [beq_iff_eq.mp e, h]
      rfl
  have e2 : card n (cap (wo S j) (one j)) = 0 := by
    unfold card
    rw [List.countP_eq_zero]
    intro x _ e
    simp [cap, one, wo] at e
    exact e.1.2 e.2
  omega
theorem ins_wo {n j : Nat} {bs : List Bar} {S : JS} (ok : Ok j bs) : ins bs (wo S j) = ins bs S := by
  unfold ins
  refine countP_same fun b hb => ?_
  obtain ⟨l1, l2, _⟩ := ok b hb
  unfold wo
  have e1 : (b.1 == j) = false := by simp; omega
  have e2 : (b.2 == j) = false := by simp; omega
  rw [e1, e2]
  simp
theorem ins_app (as bs : List Bar) (S : JS) : ins (as ++ bs) S = ins as S + ins bs S := by
  unfold ins
  exact List.countP_append
theorem ins_cons (b : Bar) (bs : List Bar) (S : JS) : ins (b :: bs) S = ins bs S + (S b.1 && S b.2).toNat := by
  unfold ins
  rw [List.countP_cons]
  cases (S b.1 && S b.2) <;> simp
theorem ins_nil (S : JS) : ins [] S = 0 := rfl
theorem ins_perm {as bs : List Bar} (h : as.Perm bs) (S : JS) : ins as S = ins bs S := h.countP_eq _
theorem ins_sub {as bs : List Bar} (h : as.Sublist bs) (S : JS) : ins as S ≤ ins bs S := h.countP_le
theorem ins_erase {bs : List Bar} {b : Bar} (h : b ∈ bs) (S : JS) : ins (bs.erase b) S + (S b.1 && S b.2).toNat = ins bs S := by
  rw [ins_perm (List.perm_cons_erase h) S, ins_cons]
theorem Ok.up {j n : Nat} {bs : List Bar} (h : Ok j bs) (le : j ≤ n) : Ok n bs := fun b hb => by
  obtain ⟨a, b, c⟩ := h b hb
  exact ⟨by omega, by omega, c⟩
theorem Slim.sub {n : Nat} {as bs : List Bar} (h : Slim n bs) (e : as.Sublist bs) : Slim n as := fun S hS => by
  have := h S hS
  have := ins_sub e S
  omega
theorem Slim.perm {n : Nat} {as bs : List Bar} (h : Slim n bs) (e : as.Perm bs) : Slim n as := fun S hS => by
  rw [ins_perm e]
  exact h S hS
theorem Ok.sub {n : Nat} {as bs : List Bar} (h : Ok n bs) (e : as.Sublist bs) : Ok n as := fun b hb => h b (e.subset hb)
theorem Ok.perm {n : Nat} {as bs : List Bar} (h : Ok n bs) (e : as.Perm bs) : Ok n as := fun b hb => h b (e.subset hb)
theorem Ok.app {n : Nat} {as bs : List Bar} (h : Ok n as) (g : Ok n bs) : Ok n (as ++ bs) := fun b hb => (List.mem_append.mp hb).elim (h b) (g b)
theorem bool_sum2 {x y z : Bool} : (z && x).toNat + (z && y).toNat ≤ 2 := by cases x <;> cases y <;> cases z <;> decide
/-- at most one of some joints lies in a set of one joint -/
theorem two_slim {n j a b : Nat} {bs ad : List Bar} (ok : Ok j bs) (sl : Slim n bs) (hj : j < n) (ha : a < j) (hb : b < j) (ne : a ≠ b) (had : ∀ S : JS, ins ad S = (S j && S a).toNat + (S j && S b).toNat) : Slim n (bs ++ ad) := fun S hS => by
  rw [ins_app, had]
  cases e : S j with
  | false => simpa using sl S hS
  | true =>
    have c := card_wo hj e
    have i := ins_wo (n := n) (S := S) ok
    by_cases h2 : 2 ≤ card n (wo S j)
    · have := sl _ h2
      have := @bool_sum2 (S a) (S b) true
      omega
    · have z := ins_small (ok.up (Nat.le_of_lt hj)) (S := wo S j) (by omega)
      have : ¬ (S a = true ∧ S b = true) := fun ⟨q1, q2⟩ => ne (le_one_of (S := wo S j) (n := n) (by omega) (by omega) (by omega) (by simp [wo, q1]; omega) (by simp [wo, q2]; omega))
      revert this
      rw [i] at z
      cases S a <;> cases S b <;> simp <;> omega
theorem three_slim {n j a b c : Nat} {bs ad : List Bar} (ok : Ok j bs) (sl : Slim n bs) (hj : j < n) (ha : a < j) (hb : b < j) (hc : c < j) (ne : a ≠ b) (nca : c ≠ a) (ncb : c ≠ b) (hm : (a, b) ∈ bs)
    (had : ∀ S : JS, ins ad S = (S j && S a).toNat + (S j && S b).toNat + (S j && S c).toNat) : Slim n (bs.erase (a, b) ++ ad) := fun S hS => by
  rw [ins_app, had]
  have er := ins_erase hm S
  cases e : S j with
  | false =>
    have := sl S hS
    simp
    omega
  | true =>
    have cc := card_wo hj e
    have i := ins_wo (n := n) (S := S) ok
    by_cases h2 : 2 ≤ card n (wo S j)
    · have := sl _ h2
      revert er
      show ins _ S + (S a && S b).toNat = _ → _
      cases S a <;> cases S b <;> cases S c <;> simp <;> omega
    · have z := ins_small (ok.up (Nat.le_of_lt hj)) (S := wo S j) (by omega)
      have k : ∀ x y : Nat, x < j → y < j → x ≠ y → ¬ (S x = true ∧ S y = true) := fun x y hx hy ne ⟨q1, q2⟩ => ne (le_one_of (S := wo S j) (n := n) (by omega) (by omega) (by omega) (by simp [wo, q1]; omega) (by simp [wo, q2]; omega))
      have k1 := k a b ha hb ne
      have k2 := k c a hc ha nca
      have k3 := k c b hc hb ncb
      rw [i] at z
      revert k1 k2 k3 er
      show ins _ S + (S a && S b).toNat = _ → _
      cases S a <;> cases S b <;> cases S c <;> simp <;> omega
theorem slim_one {n a b : Nat} (h : a ≠ b) : Slim n [(a, b)] := fun S hS => by
  rw [ins_cons, ins_nil]
  have : (S a && S b).toNat ≤ 1 := Bool.toNat_le _
  show 0 + (S a && S b).toNat + 3 ≤ _
  omega
/-- too many bars for all joints -/
theorem not_slim_all {n : Nat} {bs : List Bar} (ok : Ok n bs) (h2 : 2 ≤ n) (h : 2 * n < bs.length + 3) : ¬ Slim n bs := fun sl => by
  have c : card n (fun _ => true) = n := by simp [card]
  have := sl (fun _ => true) (by omega)
  have i : ins bs (fun _ => true) = bs.length := by simp [ins]
  omega
theorem slim_len {n : Nat} {bs : List Bar} (h2 : 2 ≤ n) (sl : Slim n bs) : bs.length + 3 ≤ 2 * n := by
  have c : card n (fun _ => true) = n := by simp [card]
  have := sl (fun _ => true) (by omega)
  have i : ins bs (fun _ => true) = bs.length := by simp [ins]
  omega
theorem small_len {n : Nat} {l : List Nat} (nd : l.Nodup) (low : ∀ k ∈ l, k < n) : l.length ≤ n := by
  have h := card_inL nd low
  rw [← h]
  exact card_le _ _
/-- other names -/
theorem card_name {n : Nat} {f : Nat → Nat} (inj : ∀ x y, x < n → y < n → f x = f y → x = y) (low : ∀ x, x < n → f x < n) (S : JS) : card n (fun x => S (f x)) = card n S := by
  have p : ((List.range n).map f).Perm (List.range n) := by
    have nd : ((List.range n).map f).Nodup := by
      unfold List.Nodup
      rw [List.pairwise_map]
      exact List.Pairwise.imp_of_mem (fun hx hy ne e => ne (inj _ _ (List.mem_range.mp hx) (List.mem_range.mp hy) e)) (List.nodup_range (n := n))
    refine (List.perm_ext_iff_of_nodup nd List.nodup_range).mpr fun y => ⟨fun hy => ?_, fun hy => ?_⟩
    · obtain ⟨x, hx, rfl⟩ := List.mem_map.mp hy
      exact List.mem_range.mpr (low x (List.mem_range.mp hx))
    · by_cases h : y ∈ (List.range n).map f
      · exact h
      · have := small_len (n := n) (l := y :: (List.range n).map f) (List.nodup_cons.mpr ⟨h, nd⟩) fun k hk => by
          rcases List.mem_cons.mp hk with rfl | hk
          · exact List.mem_range.mp hy
          · obtain ⟨x, hx, rfl⟩ := List.mem_map.mp hk
            exact low x (List.mem_range.mp hx)
        simp at this
        omega
  unfold card
  rw [← p.countP_eq S, List.countP_map]
  rfl
theorem name_slim {n : Nat} {f : Nat → Nat} {as bs : List Bar} (inj : ∀ x y, x < n → y < n → f x = f y → x = y) (low : ∀ x, x < n → f x < n) (sl : Slim n bs) (h : ∀ S : JS, ins as S = ins bs fun x => S (f x)) : Slim n as := fun S hS => by
  rw [h, ← card_name inj low S]
  exact sl _ (by rw [card_name inj low S]; exact hS)
end Fr
namespace Fr
def thirds (b : Bar) (j : Nat) : List Nat := (List.range j).filter fun e => !decide (e = b.1) && !decide (e = b.2)
def tstep (more j : Nat) (bs : List Bar) : List Bar :=
  if 2 < j ∧ more / 64 % 2 = 1 then
    bs.erase (bs.getD (more % bs.length) (0, 0)) ++ [((bs.getD (more % bs.length) (0, 0)).1, j), (j, (bs.getD (more % bs.length) (0, 0)).2),
      ((thirds (bs.getD (more % bs.length) (0, 0)) j).getD (more / 128 % (thirds (bs.getD (more % bs.length) (0, 0)) j).length) 0, j)]
  else bs ++ [(more / 7 % j, j), (j, (more / 7 % j + 1 + more / 211 % (j - 1)) % j)]
/-- lean bars of a stiff frame, joint by joint -/
def tgo (mx : Nat → Nat) : Nat → List Bar
  | 0 => [(0, 1)]
  | k + 1 => tstep (mx (k + 2)) (k + 2) (tgo mx k)
def tightB (mx : Nat → Nat) (n : Nat) : List Bar := if n ≤ 1 then [] else tgo mx (n - 2)
theorem thirds_pos {b : Bar} {j : Nat} (h : 2 < j) : 0 < (thirds b j).length := by
  apply List.length_pos_iff.mpr
  intro e
  have h0 : ∀ x, x < j → x = b.1 ∨ x = b.2 := fun x hx => by
    by_cases h1 : x = b.1
    · exact .inl h1
    · by_cases h2 : x = b.2
      · exact .inr h2
      · have : x ∈ thirds b j := List.mem_filter.mpr ⟨List.mem_range.mpr hx, by simp [h1, h2]⟩
        rw [e] at this
        cases this
  have a0 := h0 0 (by omega)
  have a1 := h0 1 (by omega)
  have a2 := h0 2 (by omega)
  omega
theorem getD_mem {α : Type} {l : List α} {i : Nat} {d : α} (h : i < l.length) : l.getD i d ∈ l := by
  have : l.getD i d = l[i] := by simp [List.getD, h]
  rw [this]
  exact List.getElem_mem h
theorem other_ne {a m j : Nat} (ha : a < j) (h2 : 2 ≤ j) : (a + 1 + m % (j - 1)) % j < j ∧ (a + 1 + m % (j - 1)) % j ≠ a := by
  have hm : m % (j - 1) < j - 1 := Nat.mod_lt _ (by omega)
  refine ⟨Nat.mod_lt _ (by omega), fun e => ?_⟩
  by_cases h : a + 1 + m % (j - 1) < j
  · rw [Nat.mod_eq_of_lt h] at e
    omega
  · rw [Nat.mod_eq_sub_mod (by omega), Nat.mod_eq_of_lt (by omega)] at e
    omega
theorem tstep_ok {more j n : Nat} {bs : List Bar} (h2 : 2 ≤ j) (hj : j < n) (ok : Ok j bs) (sl : Slim n bs) (hl : 0 < bs.length) :
    Ok (j + 1) (tstep more j bs) ∧ Slim n (tstep more j bs) ∧ (tstep more j bs).length = bs.length + 2 := by
  unfold tstep
  have hm : bs.getD (more % bs.length) (0, 0) ∈ bs := getD_mem (Nat.mod_lt _ hl)
  generalize bs.getD (more % bs.length) (0, 0) = b at hm ⊢
  obtain ⟨o1, o2, o3⟩ := ok b hm
  split
  · rename_i h
    have tp := thirds_pos (b := b) h.1
    have ht : (thirds b j).getD (more / 128 % (thirds b j).length) 0 ∈ thirds b j := getD_mem (Nat.mod_lt _ tp)
    generalize (thirds b j).getD (more / 128 % (thirds b j).length) 0 = c at ht ⊢
    obtain ⟨c1, c2⟩ := List.mem_filter.mp ht
    have c1 := List.mem_range.mp c1
    simp at c2
    refine ⟨Ok.app ((ok.sub List.erase_sublist).up (Nat.le_succ j)) fun x hx => ?_, three_slim ok sl hj o1 o2 c1 o3 c2.1 c2.2 hm fun S => ?_, ?_⟩
    · simp at hx
      rcases hx with rfl | rfl | rfl <;> simp <;> omega
    · simp only [ins_cons, ins_nil]
      cases S j <;> cases S b.1 <;> cases S b.2 <;> cases S c <;> rfl
    · rw [List.length_append, List.length_erase_of_mem hm]
      simp
      omega
  · have ha : more / 7 % j < j := Nat.mod_lt _ (by omega)
    generalize more / 7 % j = a at ha ⊢
    obtain ⟨b1, b2⟩ := other_ne (m := more / 211) ha h2
    generalize (a + 1 + more / 211 % (j - 1)) % j = b at b1 b2 ⊢
    refine ⟨Ok.app (ok.up (Nat.le_succ j)) fun x hx => ?_, two_slim ok sl hj ha b1 (Ne.symm b2) fun S => ?_, by simp⟩
    · simp at hx
      rcases hx with rfl | rfl <;> simp <;> omega
    · simp only [ins_cons, ins_nil]
      cases S j <;> cases S a <;> cases S b <;> rfl
theorem tgo_ok {mx : Nat → Nat} {n : Nat} : ∀ k, k + 2 ≤ n → Ok (k + 2) (tgo mx k) ∧ Slim n (tgo mx k) ∧ (tgo mx k).length = 2 * k + 1
  | 0, h => ⟨fun b hb => by
      simp [tgo] at hb
      subst hb
      simp, slim_one (by decide), rfl⟩
  | k + 1, h => by
    obtain ⟨h1, h2, h3⟩ := tgo_ok (mx := mx) (n := n) k (by omega)
    obtain ⟨g1, g2, g3⟩ := tstep_ok (more := mx (k + 2)) (j := k + 2) (by omega) (by omega) h1 h2 (by omega)
    exact ⟨g1, g2, by show (tstep _ _ _).length = _; omega⟩
theorem tight_ok {mx : Nat → Nat} {n : Nat} (h : 2 ≤ n) : Ok n (tightB mx n) ∧ Slim n (tightB mx n) ∧ (tightB mx n).length + 3 = 2 * n := by
  obtain ⟨h1, h2, h3⟩ := tgo_ok (mx := mx) (n := n) (n - 2) (by omega)
  unfold tightB
  rw [if_neg (by omega)]
  have : n - 2 + 2 = n := by omega
  rw [this] at h1
  exact ⟨h1, h2, by omega⟩
end Fr

/-! Numbers below n by a test. -/
namespace Pl
open PySem PySem.Spec PyProof.Rows L2
open Evl (Ex)
def numI : D → Int
  | .int i => i
  | _ => 0
/-- rising numbers below n by a test -/
def pick (n : Nat) (f : Nat → Bool) : List Int := ((List.range n).filter f).map fun k : Nat => (k : Int)
theorem pick_rise (n : Nat) (f : Nat → Bool) : (pick n f).Pairwise (· < ·) := by
  unfold pick
  rw [List.pairwise_map]
  exact (List.pairwise_lt_range.filter f).imp fun h => by omega
theorem pick_mem {n : Nat} {f : Nat → Bool} {k : Int} : k ∈ pick n f ↔ ∃ i : Nat, i < n ∧ f i = true ∧ (i : Int) = k := by
  unfold pick
  rw [List.mem_map]
  constructor
  · rintro ⟨i, hi, e⟩
    rw [List.mem_filter, List.mem_range] at hi
    exact ⟨i, hi.1, hi.2, e⟩
  · rintro ⟨i, h1, h2, e⟩
    exact ⟨i, by rw [List.mem_filter, List.mem_range]; exact ⟨h1, h2⟩, e⟩
theorem pick_len (n : Nat) (f : Nat → Bool) : (pick n f).length ≤ n := by
  unfold pick
  rw [List.length_map]
  have := List.length_filter_le f (List.range n)
  rw [List.length_range] at this
  exact this
theorem evF_pick {K : PySem.W.Frag} {ρ : Rho} {wi : TI} {tt : TT} {te : TE} {vs : List Nat} {n : Nat} {j : Nat} {f : Nat → Bool} (hi : EvI K wi ρ (rngD 0 n 1)) (hj : j ∈ vs) (hn : n ≤ 1000)
    (ht : ∀ i : Nat, i < n → EvT K tt (setR (wipeR ρ vs) [(j, .int (i : Int))]) (f i)) (he : ∀ i : Nat, i < n → EvD K te (setR (wipeR ρ vs) [(j, .int (i : Int))]) (.int (i : Int))) :
    EvF K (tLc wi (gName j) tt te vs) ρ ((pick n f).map D.int) := by
  refine EvF.to (evF_lc hi (fun d => [(j, d)]) (fun d => f (numI d).toNat) id (fun d _ => eg_name) (fun d _ p hp => ?_) (fun d hd => ?_) (fun d hd _ => ?_) ?_) ?_
  · rw [List.mem_singleton.mp hp]
    exact hj
  · obtain ⟨i, hi, rfl⟩ := rngD_mem0 hd
    show EvT K tt _ (f ((i : Int)).toNat)
    rw [Int.toNat_natCast]
    exact ht i hi
  · obtain ⟨i, hi, rfl⟩ := rngD_mem0 hd
    exact he i hi
  · rw [rngD_len]
    omega
  · unfold pick rngD
    rw [List.filter_map, List.map_map, List.map_map]
    have e : ((fun d => f (numI d).toNat) ∘ fun i : Nat => D.int (0 + (i : Int) * 1)) = f := by
      funext i
      show f (0 + (i : Int) * 1).toNat = f i
      rw [Int.mul_one, Int.zero_add, Int.toNat_natCast]
    rw [e]
    refine List.map_congr_left fun i _ => ?_
    show D.int (0 + (i : Int) * 1) = D.int (i : Int)
    rw [Int.mul_one, Int.zero_add]
end Pl

/-! Lists of bars as data. -/
namespace Pl
open PySem PySem.Spec PyProof.Rows L2
open Evl (Ex)
def brs (nb : List Fr.Bar) : List D := (nb.map bI).map barD
theorem brs_app (as bs : List Fr.Bar) : brs (as ++ bs) = brs as ++ brs bs := by unfold brs; rw [List.map_append, List.map_append]
theorem brs_len (as : List Fr.Bar) : (brs as).length = as.length := by unfold brs; rw [List.length_map, List.length_map]
theorem brs_get {as : List Fr.Bar} {i : Nat} (h : i < as.length) : (brs as)[i]? = some (barD (bI (as.getD i (0, 0)))) := by
  unfold brs
  rw [List.getElem?_map, List.getElem?_map, List.getElem?_eq_getElem h]
  simp [List.getD, h]
theorem brs_mem {as : List Fr.Bar} {d : D} (h : d ∈ brs as) : ∃ b ∈ as, d = barD (bI b) := by
  obtain ⟨c, hc, rfl⟩ := List.mem_map.mp h
  obtain ⟨b, hb, rfl⟩ := List.mem_map.mp hc
  exact ⟨b, hb, rfl⟩
theorem brs_still {as : List Fr.Bar} : ∀ d ∈ brs as, d.still = true := fun d h => by
  obtain ⟨b, _, rfl⟩ := brs_mem h
  rfl
theorem brs_okd {as : List Fr.Bar} : ∀ d ∈ brs as, d.okd 59 = true := fun d h => by
  obtain ⟨b, _, rfl⟩ := brs_mem h
  rfl
theorem brs_sm {as : List Fr.Bar} : ∀ d ∈ brs as, d.sm 60 = true := fun d h => by
  obtain ⟨b, _, rfl⟩ := brs_mem h
  rfl
theorem erase_map {α β : Type} [BEq α] [LawfulBEq α] {f : α → β} (inj : ∀ x y, f x = f y → x = y) {a : α} : ∀ {l : List α}, a ∈ l → ∃ i, (l.map f)[i]? = some (f a) ∧ (∀ q : Nat, q < i → (l.map f)[q]? ≠ some (f a)) ∧ (l.map f).eraseIdx i = (l.erase a).map f
  | x :: l, h => by
    by_cases e : x = a
    · subst e
      refine ⟨0, rfl, fun q hq => absurd hq (Nat.not_lt_zero _), ?_⟩
      rw [List.erase_cons_head]
      rfl
    · obtain ⟨i, h1, h2, h3⟩ := erase_map inj (List.mem_of_ne_of_mem (Ne.symm e) h)
      refine ⟨i + 1, h1, fun q hq => ?_, ?_⟩
      · cases q with
        | zero =>
          intro z
          exact e (inj _ _ (Option.some.inj z))
        | succ q => exact h2 q (by omega)
      · rw [List.erase_cons_tail (by simpa using e)]
        show f x :: (l.map f).eraseIdx i = _
        rw [h3]
        rfl
theorem barI_inj : ∀ x y : Fr.Bar, barD (bI x) = barD (bI y) → x = y := fun x y h => by
  have h : D.tup [.int (x.1 : Int), .int (x.2 : Int)] = D.tup [.int (y.1 : Int), .int (y.2 : Int)] := h
  injection h with h
  injection h with h1 h2
  injection h2 with h2 _
  injection h1 with h1
  injection h2 with h2
  exact Prod.ext (by omega) (by omega)
theorem brs_erase {as : List Fr.Bar} {b : Fr.Bar} (h : b ∈ as) : ∃ i, (brs as)[i]? = some (barD (bI b)) ∧ (∀ q : Nat, q < i → (brs as)[q]? ≠ some (barD (bI b))) ∧ (brs as).eraseIdx i = brs (as.erase b) := by
  have e : ∀ l : List Fr.Bar, brs l = l.map fun x => barD (bI x) := fun l => by unfold brs; rw [List.map_map]; rfl
  rw [e, e]
  exact erase_map barI_inj h
theorem cut_from (xs : List D) (k : Nat) : cutD xs (some (k : Int)) none = xs.drop k := by
  unfold cutD
  rw [HT.sIx_nat, HT.sIx_none]
  by_cases h : k ≤ xs.length
  · rw [Nat.min_eq_left h, List.take_of_length_le (by rw [List.length_drop]; omega)]
  · rw [Nat.min_eq_right (by omega), List.drop_length, List.drop_eq_nil_of_le (by omega), List.take_nil]
theorem cut_to (xs : List D) (k : Nat) : cutD xs none (some (k : Int)) = xs.take k := by
  unfold cutD
  rw [HT.sIx_nat, HT.sIx_none, List.drop_zero, Nat.sub_zero]
  by_cases h : k ≤ xs.length
  · rw [Nat.min_eq_left h]
  · rw [Nat.min_eq_right (by omega), List.take_length, List.take_of_length_le (by omega)]
theorem natL_get {l : List Nat} {i : Nat} (h : i < l.length) : ((kI l).map D.int)[i]? = some (.int ((l.getD i 0 : Nat) : Int)) := by
  unfold kI
  rw [List.getElem?_map, List.getElem?_map, List.getElem?_eq_getElem h]
  simp [List.getD, h]
end Pl

/-! insert and clear of own lists. -/
namespace Pl
open PySem PySem.Spec PyProof.Rows L2
open Evl (Ex)
def rIns : V → List V → Hp → VK → Prop := fun x vs H Q => ∃ (l : Addr) (xs : List V) (i : Int) (y : V), x = .ref l ∧ vs = [.int i, y] ∧ H l = some (.lst xs) ∧ xs.length < sizeLine ∧ 0 ≤ i ∧ i < 2 ^ 63 ∧
    Q .non (upd H l (.lst (xs.take i.toNat ++ [y] ++ xs.drop i.toNat)))
theorem ok_insert {X : Cx} : MtR X "list.insert" rIns := mt_insert
section
variable {K : PySem.W.Frag} {ρ : Rho} {te ti : TE} {d : D} {ds es : List D} {F : FE} {i j : Nat}
theorem T.insert {k : Nat} (h : ρ[i]? = some (.o ds)) (hi : EvD K ti (see ρ) (.int (k : Int))) (he : EvD K te ρ d) (hl : ds.length < 100000) (hk : k ≤ ds.length) (kk : F.nx (ρ.set i (.o (ds.take k ++ [d] ++ ds.drop k)))) :
    T K (tDrop (tBM K "list" rIns (tVar i) (tCons ti (tCons te tNil)))) ρ F := fun S0 H0 S H σ Dd s a => by
  obtain ⟨e, v, w⟩ := s.see
  obtain ⟨p, vs, g1, g2, g3, g4, g5⟩ := s.own i ds h
  refine ⟨_, g1, .inl ⟨rfl, _, Evl.sq_of g4⟩, ?_⟩
  refine hi _ H σ e v _ fun x S' H' xx r => ?_
  cases r
  obtain ⟨eS, s'⟩ := w S' H' xx
  obtain ⟨p', vs', k1, k2, k3, k4, k5⟩ := s'.own i ds h
  rw [g1] at k1
  cases k1
  refine he _ H' σ s'.ext.sub s'.env _ fun y S2 H2 x2 r2 => ?_
  have s2 := s'.go x2
  refine ⟨p, vs', (k : Int), y, rfl, rfl, x2.h _ _ k4, Evl.sz_lt (by rw [k5.length]; exact hl), by omega, by omega, ?_⟩
  have rl := k5.mono x2.s
  rw [Int.toNat_natCast]
  exact a.nx _ _ _ σ kk (Ex.trans eS x2.s) (s2.put (vs := vs') h g1 (((rl.take k).append (.cons r2 .nil)).append (rl.drop k)))
theorem T.clear (h : ρ[i]? = some (.o ds)) (kk : F.nx (ρ.set i (.o []))) : T K (tDrop (tBM0 K "list" rClear (tVar i))) ρ F := fun S0 H0 S H σ Dd s a => by
  obtain ⟨p, vs, g1, g2, g3, g4, g5⟩ := s.own i ds h
  refine ⟨_, g1, .inl ⟨rfl, _, Evl.sq_of g4⟩, ?_⟩
  exact ⟨p, vs, rfl, rfl, g4, a.nx _ S _ σ kk (Ex.refl S) (s.put (vs := vs) h g1 .nil)⟩
end
end Pl

/-! Orders, other names, and sets, as the text that tries a frame makes them. -/
namespace Pl
def orderGo : Nat → Int → List Int → List Int → List Int
  | 0, _, _, found => found
  | k + 1, c, left, found => orderGo k (c / (left.length : Int)) (left.eraseIdx (c % (left.length : Int)).toNat) (found ++ [left.getD (c % (left.length : Int)).toNat 0])
def orderL (c : Int) (n : Nat) : List Int := orderGo n c ((List.range n).map fun k : Nat => (k : Int)) []
theorem take_out {l : List Int} : ∀ {i : Nat}, i < l.length → (l.getD i 0 :: l.eraseIdx i).Perm l := by
  induction l with
  | nil => intro i h; exact absurd h (Nat.not_lt_zero _)
  | cons x l ih =>
    intro i h
    cases i with
    | zero => exact .refl _
    | succ i => exact (List.Perm.swap x (l.getD i 0) (l.eraseIdx i)).trans ((ih (Nat.lt_of_succ_lt_succ h)).cons x)
theorem orderGo_perm : ∀ (k : Nat) (c : Int) (left found : List Int), left.length = k → (orderGo k c left found).Perm (found ++ left)
  | 0, c, left, found, h => by
    have : left = [] := List.length_eq_zero_iff.mp h
    subst this
    rw [List.append_nil]
    exact .refl _
  | k + 1, c, left, found, h => by
    have m1 := Int.emod_nonneg c (show (left.length : Int) ≠ 0 by omega)
    have m2 := Int.emod_lt_of_pos c (show (0 : Int) < (left.length : Int) by omega)
    have hi : (c % (left.length : Int)).toNat < left.length := by omega
    show (orderGo k (c / (left.length : Int)) (left.eraseIdx (c % (left.length : Int)).toNat) (found ++ [left.getD (c % (left.length : Int)).toNat 0])).Perm _
    generalize (c % (left.length : Int)).toNat = i at hi
    refine (orderGo_perm k _ _ _ (by rw [List.length_eraseIdx_of_lt hi]; omega)).trans ?_
    rw [List.append_assoc]
    exact (take_out hi).append_left found
/-- the order as numbers -/
def orderN (c : Int) (n : Nat) : List Nat := (orderL c n).map Int.toNat
theorem order_perm (c : Int) (n : Nat) : (orderN c n).Perm (List.range n) := by
  have h := (orderGo_perm n c ((List.range n).map fun k : Nat => (k : Int)) [] (by simp)).map Int.toNat
  rw [List.nil_append, List.map_map] at h
  have e : (Int.toNat ∘ fun k : Nat => (k : Int)) = id := by funext k; exact Int.toNat_natCast k
  rw [e, List.map_id] at h
  exact h
theorem orderL_eq (c : Int) (n : Nat) : orderL c n = kI (orderN c n) := by
  unfold kI orderN
  rw [List.map_map]
  have h := orderGo_perm n c ((List.range n).map fun k : Nat => (k : Int)) [] (by simp)
  refine (List.map_id _).symm.trans (List.map_congr_left fun x hx => ?_)
  obtain ⟨k, _, rfl⟩ := List.mem_map.mp (h.mem_iff.mp hx)
  rfl
theorem orderN_len (c : Int) (n : Nat) : (orderN c n).length = n := by
  have := (order_perm c n).length_eq
  rwa [List.length_range] at this
theorem orderN_low {c : Int} {n x : Nat} (h : x < n) : (orderN c n).getD x 0 < n := by
  have : (orderN c n).getD x 0 ∈ orderN c n := Fr.getD_mem (by rw [orderN_len]; exact h)
  exact List.mem_range.mp ((order_perm c n).mem_iff.mp this)
theorem orderN_inj {c : Int} {n x y : Nat} (hx : x < n) (hy : y < n) (e : (orderN c n).getD x 0 = (orderN c n).getD y 0) : x = y := by
  have nd : (orderN c n).Nodup := (order_perm c n).nodup_iff.mpr List.nodup_range
  have lx : x < (orderN c n).length := by rw [orderN_len]; exact hx
  have ly : y < (orderN c n).length := by rw [orderN_len]; exact hy
  simp only [List.getD, List.getElem?_eq_getElem lx, List.getElem?_eq_getElem ly, Option.getD_some] at e
  have q := List.pairwise_iff_getElem.mp nd
  rcases Nat.lt_trichotomy x y with h | h | h
  · exact absurd e (q x y lx ly h)
  · exact h
  · exact absurd e.symm (q y x ly lx h)
/-! ### other names -/
def nameP (bs : List (Int × Int)) (os : List Int) (c : Int) (k : Nat) : Int × Int :=
  (os.getD (bs.getD (((k : Int) + c) % (bs.length : Int)).toNat (0, 0)).1.toNat 0, os.getD (bs.getD (((k : Int) + c) % (bs.length : Int)).toNat (0, 0)).2.toNat 0)
def nameB (bs : List (Int × Int)) (os : List Int) (c : Int) (k : Nat) : Int × Int := if c / ((k : Int) + 2) % 2 = 1 then ((nameP bs os c k).2, (nameP bs os c k).1) else nameP bs os c k
def namedL (bs : List (Int × Int)) (os : List Int) (c : Int) (m : Nat) : List (Int × Int) := (List.range m).map (nameB bs os c)
theorem namedL_succ (bs : List (Int × Int)) (os : List Int) (c : Int) (m : Nat) : namedL bs os c (m + 1) = namedL bs os c m ++ [nameB bs os c m] := by
  unfold namedL
  rw [List.range_succ, List.map_append]
  rfl
def rotI (c : Int) (m k : Nat) : Nat := (((k : Int) + c) % (m : Int)).toNat
def turnB (q : Bool) (b : Fr.Bar) : Fr.Bar := if q then (b.2, b.1) else b
def nameN (nb : List Fr.Bar) (p : List Nat) (c : Int) (k : Nat) : Fr.Bar :=
  turnB (decide (c / ((k : Int) + 2) % 2 = 1)) (p.getD (nb.getD (rotI c nb.length k) (0, 0)).1 0, p.getD (nb.getD (rotI c nb.length k) (0, 0)).2 0)
def namedN (nb : List Fr.Bar) (p : List Nat) (c : Int) : List Fr.Bar := (List.range nb.length).map (nameN nb p c)
theorem getD_bI (nb : List Fr.Bar) (i : Nat) : (nb.map bI).getD i (0, 0) = bI (nb.getD i (0, 0)) := by
  by_cases h : i < nb.length
  · simp [List.getD, h]
  · simp [List.getD, Nat.le_of_not_lt h, bI]
theorem getD_kI (p : List Nat) (i : Nat) : (kI p).getD i 0 = ((p.getD i 0 : Nat) : Int) := by
  unfold kI
  by_cases h : i < p.length
  · simp [List.getD, h]
  · simp [List.getD, Nat.le_of_not_lt h]
theorem nameB_eq (nb : List Fr.Bar) (p : List Nat) (c : Int) (k : Nat) : nameB (nb.map bI) (kI p) c k = bI (nameN nb p c k) := by
  have e : nameP (nb.map bI) (kI p) c k = bI (p.getD (nb.getD (rotI c nb.length k) (0, 0)).1 0, p.getD (nb.getD (rotI c nb.length k) (0, 0)).2 0) := by
    unfold nameP rotI
    rw [List.length_map, getD_bI]
    show (_, _) = (_, _)
    simp only [bI, Int.toNat_natCast, getD_kI]
  unfold nameB nameN turnB
  rw [e]
  by_cases h : c / ((k : Int) + 2) % 2 = 1
  · rw [if_pos h, decide_eq_true h, if_pos rfl]; rfl
  · rw [if_neg h, decide_eq_false h, if_neg Bool.false_ne_true]
theorem namedL_eq (nb : List Fr.Bar) (p : List Nat) (c : Int) : namedL (nb.map bI) (kI p) c (nb.map bI).length = (namedN nb p c).map bI := by
  unfold namedL namedN
  rw [List.map_map, List.length_map]
  exact List.map_congr_left fun k _ => nameB_eq nb p c k
theorem namedN_len (nb : List Fr.Bar) (p : List Nat) (c : Int) : (namedN nb p c).length = nb.length := by unfold namedN; rw [List.length_map, List.length_range]
theorem rotI_lt {c : Int} {m k : Nat} (h : k < m) : rotI c m k < m := by
  unfold rotI
  have m1 := Int.emod_nonneg ((k : Int) + c) (show (m : Int) ≠ 0 by omega)
  have m2 := Int.emod_lt_of_pos ((k : Int) + c) (show (0 : Int) < (m : Int) by omega)
  omega
theorem rotI_inj {c : Int} {m x y : Nat} (hx : x < m) (hy : y < m) (h : rotI c m x = rotI c m y) : x = y := by
  unfold rotI at h
  have m1 := Int.emod_nonneg ((x : Int) + c) (show (m : Int) ≠ 0 by omega)
  have m2 := Int.emod_nonneg ((y : Int) + c) (show (m : Int) ≠ 0 by omega)
  have e : ((x : Int) + c) % (m : Int) = ((y : Int) + c) % (m : Int) := by omega
  have z := Int.emod_eq_emod_iff_emod_sub_eq_zero.mp e
  have z2 := Int.emod_eq_emod_iff_emod_sub_eq_zero.mp e.symm
  by_cases l : y ≤ x
  · rw [show ((x : Int) + c - ((y : Int) + c)) = ((x - y : Nat) : Int) by omega, Int.emod_eq_of_lt (by omega) (by omega)] at z
    omega
  · rw [show ((y : Int) + c - ((x : Int) + c)) = ((y - x : Nat) : Int) by omega, Int.emod_eq_of_lt (by omega) (by omega)] at z2
    omega
theorem range_perm {n : Nat} {f : Nat → Nat} (inj : ∀ x y, x < n → y < n → f x = f y → x = y) (low : ∀ x, x < n → f x < n) : ((List.range n).map f).Perm (List.range n) := by
  have nd : ((List.range n).map f).Nodup := by
    unfold List.Nodup
    rw [List.pairwise_map]
    exact List.Pairwise.imp_of_mem (fun hx hy ne e => ne (inj _ _ (List.mem_range.mp hx) (List.mem_range.mp hy) e)) (List.nodup_range (n := n))
  refine (List.perm_ext_iff_of_nodup nd List.nodup_range).mpr fun y => ⟨fun hy => ?_, fun hy => ?_⟩
  · obtain ⟨x, hx, rfl⟩ := List.mem_map.mp hy
    exact List.mem_range.mpr (low x (List.mem_range.mp hx))
  · by_cases h : y ∈ (List.range n).map f
    · exact h
    · have := Fr.small_len (n := n) (l := y :: (List.range n).map f) (List.nodup_cons.mpr ⟨h, nd⟩) fun k hk => by
        rcases List.mem_cons.mp hk with rfl | hk
        · exact List.mem_range.mp hy
        · obtain ⟨x, hx, rfl⟩ := List.mem_map.mp hk
          exact low x (List.mem_range.mp hx)
      simp at this
      omega
theorem range_getD (nb : List Fr.Bar) : (List.range nb.length).map (fun i => nb.getD i (0, 0)) = nb := by
  refine List.ext_getElem (by simp) fun i h1 h2 => ?_
  simp [List.getD, h2]
/-- the bars as they stand there, the first ones behind -/
theorem rot_perm (nb : List Fr.Bar) (c : Int) : ((List.range nb.length).map fun k => nb.getD (rotI c nb.length k) (0, 0)).Perm nb := by
  have h := (range_perm (n := nb.length) (f := rotI c nb.length) (fun x y hx hy => rotI_inj hx hy) fun x hx => rotI_lt hx).map fun i => nb.getD i (0, 0)
  rw [range_getD, List.map_map] at h
  exact h
theorem ins_named (nb : List Fr.Bar) (p : List Nat) (c : Int) (S : Fr.JS) : Fr.ins (namedN nb p c) S = Fr.ins nb fun x => S (p.getD x 0) := by
  rw [← Fr.ins_perm (rot_perm nb c)]
  unfold namedN Fr.ins
  rw [List.countP_map, List.countP_map]
  refine Fr.countP_same fun k _ => ?_
  show (S (nameN nb p c k).1 && S (nameN nb p c k).2) = (S _ && S _)
  unfold nameN turnB
  split
  · exact Bool.and_comm _ _
  · rfl
theorem named_ok {nb : List Fr.Bar} {n : Nat} (ok : Fr.Ok n nb) (o c : Int) : Fr.Ok n (namedN nb (orderN o n) c) := fun b hb => by
  obtain ⟨k, hk, rfl⟩ := List.mem_map.mp hb
  have hk := List.mem_range.mp hk
  have hm : nb.getD (rotI c nb.length k) (0, 0) ∈ nb := Fr.getD_mem (rotI_lt hk)
  obtain ⟨o1, o2, o3⟩ := ok _ hm
  unfold nameN turnB
  generalize nb.getD (rotI c nb.length k) (0, 0) = b at o1 o2 o3
  have l1 := orderN_low (c := o) o1
  have l2 := orderN_low (c := o) o2
  have ne : (orderN o n).getD b.1 0 ≠ (orderN o n).getD b.2 0 := fun e => o3 (orderN_inj o1 o2 e)
  split
  · exact ⟨l2, l1, Ne.symm ne⟩
  · exact ⟨l1, l2, ne⟩
theorem named_slim {nb : List Fr.Bar} {n : Nat} (sl : Fr.Slim n nb) (o c : Int) : Fr.Slim n (namedN nb (orderN o n) c) :=
  Fr.name_slim (f := fun x => (orderN o n).getD x 0) (fun x y hx hy => orderN_inj hx hy) (fun x hx => orderN_low hx) sl fun S => ins_named nb _ c S
/-! ### sets -/
def setsAll (js : List Int) : List (List Int) := js.foldl (fun acc j => acc ++ acc.map (· ++ [j])) [[]]
def setsL (js : List Int) : List (List Int) := (setsAll js).filter fun l => decide (1 < l.length)
theorem setsAll_snoc (js : List Int) (j : Int) : setsAll (js ++ [j]) = setsAll js ++ (setsAll js).map (· ++ [j]) := by
  unfold setsAll
  rw [List.foldl_append]
  rfl
theorem snoc_ind {α : Type} {p : List α → Prop} (h0 : p []) (hs : ∀ l x, p l → p (l ++ [x])) (l : List α) : p l := by
  have h : ∀ k : Nat, k ≤ l.length → p (l.take k) := fun k => by
    induction k with
    | zero => exact fun _ => h0
    | succ k ih =>
      intro hk
      rw [← List.take_append_getElem (show k < l.length by omega)]
      exact hs _ _ (ih (by omega))
  have := h l.length (Nat.le_refl _)
  rwa [List.take_length] at this
theorem setsAll_len (js : List Int) : (setsAll js).length = 2 ^ js.length := by
  refine snoc_ind (p := fun js => (setsAll js).length = 2 ^ js.length) rfl (fun js j ih => ?_) js
  rw [setsAll_snoc, List.length_append, List.length_map, ih, List.length_append]
  show _ = 2 ^ (js.length + 1)
  rw [Nat.pow_succ]
  omega
theorem setsAll_sub (js : List Int) : ∀ l, l ∈ setsAll js ↔ l.Sublist js := by
  refine snoc_ind (p := fun js => ∀ l, l ∈ setsAll js ↔ l.Sublist js) (fun l => ?_) (fun js j ih l => ?_) js
  · show l ∈ [[]] ↔ _
    rw [List.mem_singleton, List.sublist_nil]
  · rw [setsAll_snoc, List.mem_append, List.mem_map]
    constructor
    · rintro (h | ⟨k, hk, rfl⟩)
      · exact ((ih l).mp h).trans (List.sublist_append_left _ _)
      · exact ((ih k).mp hk).append (.refl _)
    · intro h
      obtain ⟨l1, l2, rfl, h1, h2⟩ := List.sublist_append_iff.mp h
      rcases l2 with _ | ⟨x, l2⟩
      · rw [List.append_nil]
        exact .inl ((ih l1).mpr h1)
      · have hl := h2.length_le
        have : l2 = [] := List.length_eq_zero_iff.mp (by simp at hl; exact List.length_eq_zero_iff.mpr hl)
        subst this
        have hx : x = j := List.mem_singleton.mp (h2.subset List.mem_cons_self)
        subst hx
        exact .inr ⟨l1, (ih l1).mpr h1, rfl⟩
theorem setsAll_short (js : List Int) : ∀ l ∈ setsAll js, l.length ≤ js.length := fun l h => ((setsAll_sub js l).mp h).length_le
def insideL (bs : List (Int × Int)) (js : List Int) : Nat := (bs.filter fun b => decide (b.1 ∈ js) && decide (b.2 ∈ js)).length
def isI (l : List Int) : Fr.JS := fun x => decide ((x : Int) ∈ l)
theorem inside_ins (nb : List Fr.Bar) (l : List Int) : insideL (nb.map bI) l = Fr.ins nb (isI l) := by
  unfold insideL Fr.ins
  rw [← List.countP_eq_length_filter, List.countP_map]
  rfl
def ofS (n : Nat) (S : Fr.JS) : List Int := kI ((List.range n).filter S)
theorem ofS_sub (n : Nat) (S : Fr.JS) : (ofS n S).Sublist (kI (List.range n)) := (List.filter_sublist).map _
theorem ofS_len (n : Nat) (S : Fr.JS) : (ofS n S).length = Fr.card n S := by
  unfold ofS kI Fr.card
  rw [List.length_map, List.countP_eq_length_filter]
theorem isI_ofS {n x : Nat} {S : Fr.JS} (h : x < n) : isI (ofS n S) x = S x := by
  unfold isI ofS
  have : ((x : Int) ∈ kI ((List.range n).filter S)) ↔ S x = true := by
    rw [kI_mem, List.mem_filter, List.mem_range]
    exact ⟨fun h => h.2, fun e => ⟨h, e⟩⟩
  cases e : S x with
  | true => exact decide_eq_true (this.mpr e)
  | false => exact decide_eq_false fun q => by rw [this.mp q] at e; cases e
theorem sub_nodup {n : Nat} {l : List Int} (h : l.Sublist (kI (List.range n))) : ∃ m : List Nat, l = kI m ∧ m.Nodup ∧ (∀ k ∈ m, k < n) ∧ m.Pairwise (· < ·) := by
  obtain ⟨m, hm, rfl⟩ := List.sublist_map_iff.mp h
  exact ⟨m, rfl, hm.nodup List.nodup_range, fun k hk => List.mem_range.mp (hm.subset hk), List.pairwise_lt_range.sublist hm⟩
theorem card_isI {n : Nat} {l : List Int} (h : l.Sublist (kI (List.range n))) : Fr.card n (isI l) = l.length := by
  obtain ⟨m, rfl, nd, low, _⟩ := sub_nodup h
  have e : isI (kI m) = Fr.inL m := by
    funext x
    unfold isI Fr.inL
    exact decide_eq_decide.mpr kI_mem
  rw [e, Fr.card_inL nd low]
  unfold kI
  rw [List.length_map]
/-- lean: no set crowded -/
theorem sets_slim {n : Nat} {nb : List Fr.Bar} (ok : Fr.Ok n nb) : (∀ l ∈ setsL (kI (List.range n)), ¬ (2 * l.length < insideL (nb.map bI) l + 3)) ↔ Fr.Slim n nb := by
  constructor
  · intro h S hS
    have hl := h (ofS n S) (List.mem_filter.mpr ⟨(setsAll_sub _ _).mpr (ofS_sub n S), by rw [decide_eq_true_eq, ofS_len]; omega⟩)
    rw [ofS_len, inside_ins, Fr.ins_same ok (T := S) fun x hx => isI_ofS hx] at hl
    omega
  · intro sl l hl
    obtain ⟨h1, h2⟩ := List.mem_filter.mp hl
    have h1 := (setsAll_sub _ _).mp h1
    have h2 := of_decide_eq_true h2
    have := sl (isI l) (by rw [card_isI h1]; exact h2)
    rw [card_isI h1] at this
    rw [inside_ins]
    omega
end Pl

/-! A call with no region before and after is like any other. -/
namespace Pl
open PySem PySem.Spec PyProof.Rows L2
open Evl (Ex)
section
variable {K : PySem.W.Frag} {S0 H0 S H S' H' : Hp} {σ : L2.St} {ρ : Rho} {tA : TA} {E : XK} {ds es : List D} {d : D} {N : List Str} {t : TS}
theorem SG.none (e : Ex S H) : SG K S H [] [] S H [] := by
  refine ⟨[], ⟨.nil, List.nodup_nil, fun _ h => nomatch h⟩, ?_⟩
  rw [cov_nil]
  exact ⟨Ext.refl e, ⟨rfl, fun i d h => by simp at h⟩, fun i ds h => by simp at h, fun i j a b p h => by simp at h⟩
theorem SG.bare (s : SG K S0 H0 ρ [] S H σ) : Stt K S0 H0 ρ S H σ := by
  obtain ⟨fp, rg, st⟩ := s
  have o := rg.own
  cases o
  rwa [cov_nil] at st
theorem SG.bareG {g : Gs} (s : SG K S0 H0 ρ g S H σ) : Stt K S0 H0 ρ S H σ := SG.bare (SG.forget (g := []) (g' := g) s)
theorem ev_callG {Rel : List D → Gs → Rs → Gs → Prop} (ha : EvA K tA ρ ds) (hr : Rel ds [] (.d d) []) : EvD K (tCall (spG K Rel) [] E tA) ρ d := fun S H σ e v Q q =>
  ha S H σ e v _ fun vs S1 H1 x1 r1 => ⟨S1, H1, ds, [], .d d, [], SG.none x1.sub, by rw [List.append_nil]; exact r1, hr, fun v S2 H2 _ z => q v S2 H2 (x1.trans (SG.bare z.1).ext) z.2⟩
theorem evF_callG {Rel : List D → Gs → Rs → Gs → Prop} (ha : EvA K tA ρ ds) (hr : Rel ds [] (.o es) []) : EvF K (tCall (spG K Rel) [] E tA) ρ es := fun S H σ e v Q q =>
  ha S H σ e v _ fun vs S1 H1 x1 r1 => ⟨S1, H1, ds, [], .o es, [], SG.none x1.sub, by rw [List.append_nil]; exact r1, hr, fun v S2 H2 _ z => by
    have z : SG K S1 H1 [.o es] [] S2 H2 [some v] := z
    have st := SG.bare z
    obtain ⟨p, ws, h1, h2, h3, h4, h5⟩ := st.own 0 es rfl
    have e : v = .ref p := Option.some.inj (Option.some.inj h1)
    subst e
    exact q p ws S2 H2 (x1.trans st.ext) (Evl.fresh_back x1.h h2) h3 h4 h5⟩
def FM.says (d : D) : FM := { nx := fun _ _ => d = .non, rt := fun r _ => r = .d d }
/-- a def that tells data, walked with a region of its own -/
theorem TM.finD {Rel : List D → D → Prop} {vs : List V} {H : Hp} {Q : VK} {E : XK} (h : spD K Rel vs H Q E) (k : ∀ ds d, Rel ds d → TM K t (startR N.length ds) [] (.says d)) : t { nx := fun _ H' => Q .non H', rt := Q } (L2.start N vs) H := by
  obtain ⟨S, ds, d, e, r, rel, q⟩ := h
  refine k ds d rel S H S H _ _ ((SG.none e).start r) ⟨fun ρ x S' H' σ n e' s => ?_, fun _ _ _ _ _ z => z.elim, fun _ _ _ _ _ z => z.elim, fun r' x v ρ S' H' σ n s => ?_⟩
  · have n : d = .non := n
    subst n
    exact q .non S' H' s.bareG.ext .non
  · have n : r' = .d d := n
    subst n
    exact q v S' H' s.1.bareG.ext s.2
end
end Pl
namespace Pl
theorem sortN_len (ks : List Nat) : (sortN ks).length = ks.length := (sortN_perm ks).length_eq
theorem kI_len (ks : List Nat) : (kI ks).length = ks.length := by unfold kI; rw [List.length_map]
theorem rise_of {l : List Nat} (h : l.Pairwise (· ≤ ·)) (nd : l.Nodup) : l.Pairwise (· < ·) := by
  have : l.Pairwise fun a b => a ≤ b ∧ a ≠ b := h.and nd
  exact this.imp fun h => by omega
theorem sortN_lt {ks : List Nat} (nd : ks.Nodup) : (sortN ks).Pairwise (· < ·) := rise_of (sortN_rise ks) ((sortN_perm ks).nodup_iff.mpr nd)
theorem kI_lt {ks : List Nat} (h : ks.Pairwise (· < ·)) : (kI ks).Pairwise (· < ·) := by
  unfold kI
  rw [List.pairwise_map]
  exact h.imp fun h => by omega
theorem isI_kI (m : List Nat) : isI (kI m) = Fr.inL m := by
  funext x
  unfold isI Fr.inL
  exact decide_eq_decide.mpr kI_mem
theorem inL_perm {l m : List Nat} (h : l.Perm m) : Fr.inL l = Fr.inL m := by
  funext x
  unfold Fr.inL
  exact decide_eq_decide.mpr h.mem_iff
theorem crowd_told {n : Nat} {nb : List Fr.Bar} (ok : Fr.Ok n nb) (hn : n ≤ 16) {ks : List Nat} (h : crowdL (List.replicate n []) nb = some ks) :
    (∀ x ∈ kI (sortN ks), 0 ≤ x ∧ x ≤ (n : Int) - 1) ∧ (kI (sortN ks)).Pairwise (· < ·) ∧ (kI (sortN ks)).length < 64 ∧ 2 ≤ (kI (sortN ks)).length ∧ 2 * (kI (sortN ks)).length < insideL (nb.map bI) (kI (sortN ks)) + 3 := by
  obtain ⟨nd, low, h2, h3⟩ := (Fr.crowd_spec ok).2 ks h
  have sm := Fr.small_len nd low
  rw [kI_len, sortN_len, inside_ins, isI_kI, inL_perm (sortN_perm ks)]
  refine ⟨fun x hx => ?_, kI_lt (sortN_lt nd), by omega, h2, h3⟩
  obtain ⟨k, hk, rfl⟩ := List.mem_map.mp hx
  have := low k ((sortN_perm ks).mem_iff.mp hk)
  omega
/-- bars as numbers -/
def unB (b : Int × Int) : Fr.Bar := (b.1.toNat, b.2.toNat)
theorem unB_bI {bs : List (Int × Int)} (h : ∀ b ∈ bs, 0 ≤ b.1 ∧ 0 ≤ b.2) : (bs.map unB).map bI = bs := by
  rw [List.map_map]
  refine (List.map_congr_left fun b hb => ?_).trans (List.map_id _)
  obtain ⟨h1, h2⟩ := h b hb
  show ((b.1.toNat : Int), (b.2.toNat : Int)) = b
  exact Prod.ext (Int.toNat_of_nonneg h1) (Int.toNat_of_nonneg h2)
end Pl

/-! The choice: going through bars, one taken where all stay slim; and by the room of all sets. -/
namespace Fr
open Classical in
noncomputable def pickN (n : Nat) : List Bar → List Bar → Nat → List Nat
  | _, [], _ => []
  | kb, b :: r, i => if Slim n (kb ++ [b]) then i :: pickN n (kb ++ [b]) r (i + 1) else pickN n kb r (i + 1)
open Classical in
noncomputable def pickB (n : Nat) : List Bar → List Bar → List Bar
  | _, [] => []
  | kb, b :: r => if Slim n (kb ++ [b]) then b :: pickB n (kb ++ [b]) r else pickB n kb r
theorem pickN_yes {n : Nat} {kb r : List Bar} {b : Bar} {i : Nat} (h : Slim n (kb ++ [b])) : pickN n kb (b :: r) i = i :: pickN n (kb ++ [b]) r (i + 1) := by rw [pickN, if_pos h]
theorem pickN_no {n : Nat} {kb r : List Bar} {b : Bar} {i : Nat} (h : ¬ Slim n (kb ++ [b])) : pickN n kb (b :: r) i = pickN n kb r (i + 1) := by rw [pickN, if_neg h]
theorem pickB_yes {n : Nat} {kb r : List Bar} {b : Bar} (h : Slim n (kb ++ [b])) : pickB n kb (b :: r) = b :: pickB n (kb ++ [b]) r := by rw [pickB, if_pos h]
theorem pickB_no {n : Nat} {kb r : List Bar} {b : Bar} (h : ¬ Slim n (kb ++ [b])) : pickB n kb (b :: r) = pickB n kb r := by rw [pickB, if_neg h]
theorem pickN_app {n : Nat} : ∀ (r s kb : List Bar) (i : Nat), pickN n kb (r ++ s) i = pickN n kb r i ++ pickN n (kb ++ pickB n kb r) s (i + r.length)
  | [], s, kb, i => by rw [pickB, List.append_nil]; rfl
  | b :: r, s, kb, i => by
    have e : i + (b :: r).length = i + 1 + r.length := by simp; omega
    by_cases h : Slim n (kb ++ [b])
    · rw [List.cons_append, pickN_yes h, pickN_yes h, pickB_yes h, pickN_app r s, e, List.append_assoc]
      rfl
    · rw [List.cons_append, pickN_no h, pickN_no h, pickB_no h, pickN_app r s, e]
theorem pickB_app {n : Nat} : ∀ (r s kb : List Bar), pickB n kb (r ++ s) = pickB n kb r ++ pickB n (kb ++ pickB n kb r) s
  | [], s, kb => by rw [pickB, List.append_nil]; rfl
  | b :: r, s, kb => by
    by_cases h : Slim n (kb ++ [b])
    · rw [List.cons_append, pickB_yes h, pickB_yes h, pickB_app r s, List.append_assoc]
      rfl
    · rw [List.cons_append, pickB_no h, pickB_no h, pickB_app r s]
theorem pickB_len {n : Nat} : ∀ (r kb : List Bar) (i : Nat), (pickN n kb r i).length = (pickB n kb r).length
  | [], kb, i => by rw [pickN, pickB]; rfl
  | b :: r, kb, i => by
    by_cases h : Slim n (kb ++ [b])
    · rw [pickN_yes h, pickB_yes h, List.length_cons, List.length_cons, pickB_len r]
    · rw [pickN_no h, pickB_no h, pickB_len r]
theorem pickB_slim {n : Nat} : ∀ (r kb : List Bar), Slim n kb → Slim n (kb ++ pickB n kb r)
  | [], kb, sl => by rw [pickB, List.append_nil]; exact sl
  | b :: r, kb, sl => by
    by_cases h : Slim n (kb ++ [b])
    · rw [pickB_yes h]
      have := pickB_slim r _ h
      rwa [List.append_assoc] at this
    · rw [pickB_no h]
      exact pickB_slim r kb sl
theorem pickB_sub {n : Nat} : ∀ (r kb : List Bar), (pickB n kb r).Sublist r
  | [], kb => by rw [pickB]; exact .refl _
  | b :: r, kb => by
    by_cases h : Slim n (kb ++ [b])
    · rw [pickB_yes h]
      exact (pickB_sub r _).cons₂ b
    · rw [pickB_no h]
      exact (pickB_sub r kb).cons b
theorem pickN_rise {n : Nat} : ∀ (r kb : List Bar) (i : Nat), (∀ k ∈ pickN n kb r i, i ≤ k ∧ k < i + r.length) ∧ (pickN n kb r i).Pairwise (· < ·)
  | [], kb, i => by
    rw [pickN]
    exact ⟨fun k h => (nomatch h), List.Pairwise.nil⟩
  | b :: r, kb, i => by
    by_cases h : Slim n (kb ++ [b])
    · rw [pickN_yes h]
      obtain ⟨h1, h2⟩ := pickN_rise r (kb ++ [b]) (i + 1)
      refine ⟨fun k hk => ?_, .cons (fun k hk => by have := h1 k hk; omega) h2⟩
      rw [List.length_cons]
      rcases List.mem_cons.mp hk with rfl | hk
      · omega
      · have := h1 k hk
        omega
    · rw [pickN_no h]
      obtain ⟨h1, h2⟩ := pickN_rise r kb (i + 1)
      refine ⟨fun k hk => ?_, h2⟩
      rw [List.length_cons]
      have := h1 k hk
      omega
/-- lean ones are all taken -/
theorem pickN_all {n : Nat} : ∀ (r kb : List Bar) (i : Nat), Slim n (kb ++ r) → pickN n kb r i = List.range' i r.length ∧ pickB n kb r = r
  | [], kb, i, _ => by rw [pickN, pickB]; exact ⟨rfl, rfl⟩
  | b :: r, kb, i, sl => by
    have e : kb ++ b :: r = (kb ++ [b]) ++ r := by simp
    rw [e] at sl
    have h : Slim n (kb ++ [b]) := sl.sub (List.sublist_append_left _ _)
    obtain ⟨h1, h2⟩ := pickN_all r (kb ++ [b]) (i + 1) sl
    rw [pickN_yes h, pickB_yes h, h1, h2]
    exact ⟨rfl, rfl⟩
/-- no room is left -/
theorem pickN_full {n : Nat} (h2 : 2 ≤ n) {kb : List Bar} (okk : Ok n kb) (hl : kb.length + 3 = 2 * n) : ∀ (r : List Bar) (i : Nat), Ok n r → pickN n kb r i = [] ∧ pickB n kb r = []
  | [], i, _ => by rw [pickN, pickB]; exact ⟨rfl, rfl⟩
  | b :: r, i, ok => by
    have h : ¬ Slim n (kb ++ [b]) := not_slim_all (okk.app fun c hc => by rw [List.mem_singleton.mp hc]; exact ok b List.mem_cons_self) h2 (by rw [List.length_append, List.length_singleton]; omega)
    rw [pickN_no h, pickB_no h]
    exact pickN_full h2 okk hl r (i + 1) fun c hc => ok c (List.mem_cons_of_mem _ hc)
/-- the joints' way of going through the bars takes the same ones -/
theorem lay_slim {n : Nat} {cs : Cs} {kb : List Bar} {b : Bar} (ft : Fits n cs kb) (okk : Ok n kb) (sl : Slim n kb) (o : b.1 < n ∧ b.2 < n ∧ b.1 ≠ b.2) : (lay cs b.1 b.2).2 = none ↔ Slim n (kb ++ [b]) := by
  obtain ⟨o1, o2, o3⟩ := o
  constructor
  · intro h
    exact (lay_yes ft okk sl o1 o2 o3 (Prod.ext rfl h : lay cs b.1 b.2 = ((lay cs b.1 b.2).1, none))).2
  · intro h
    cases hy : (lay cs b.1 b.2).2 with
    | none => rfl
    | some ks =>
      obtain ⟨_, nd, low, m1, m2, t1, t2⟩ := lay_no ft sl o1 o2 o3 (Prod.ext rfl hy : lay cs b.1 b.2 = ((lay cs b.1 b.2).1, some ks))
      have := h (inL ks) t1
      have i1 := ins_append kb b (inL ks)
      have e1 : inL ks b.1 = true := decide_eq_true m1
      have e2 : inL ks b.2 = true := decide_eq_true m2
      rw [e1, e2, Bool.and_self, if_pos rfl] at i1
      omega
theorem chosen_go {n : Nat} : ∀ (r kb : List Bar) (cs : Cs) (i : Nat), Ok n r → Ok n kb → Fits n cs kb → Slim n kb → Pl.chosenL cs r i = pickN n kb r i ∧ keptL cs r = pickB n kb r
  | [], kb, cs, i, _, _, _, _ => by rw [pickN, pickB]; exact ⟨rfl, rfl⟩
  | b :: r, kb, cs, i, ok, okk, ft, sl => by
    have o := ok b List.mem_cons_self
    have okr : Ok n r := fun c hc => ok c (List.mem_cons_of_mem _ hc)
    have hs := lay_slim ft okk sl o
    unfold Pl.chosenL keptL
    cases hy : (lay cs b.1 b.2).2 with
    | none =>
      have h := hs.mp hy
      obtain ⟨f1, f2⟩ := lay_yes ft okk sl o.1 o.2.1 o.2.2 (Prod.ext rfl hy : lay cs b.1 b.2 = ((lay cs b.1 b.2).1, none))
      obtain ⟨g1, g2⟩ := chosen_go r (kb ++ [b]) _ (i + 1) okr (okk.app fun c hc => by rw [List.mem_singleton.mp hc]; exact o) f1 f2
      rw [pickN_yes h, pickB_yes h, ← g1, ← g2]
      exact ⟨rfl, if_pos rfl⟩
    | some ks =>
      have h : ¬ Slim n (kb ++ [b]) := fun z => by rw [hs.mpr z] at hy; cases hy
      obtain ⟨g1, g2⟩ := chosen_go r kb _ (i + 1) okr okk (lay_fits_no ft o.1 o.2.1 hy) sl
      rw [pickN_no h, pickB_no h, ← g1, ← g2]
      exact ⟨rfl, if_neg (by simp)⟩
theorem chosen_spec {n : Nat} {nb : List Bar} (ok : Ok n nb) : Pl.chosenL (List.replicate n []) nb 0 = pickN n [] nb 0 ∧ keptL (List.replicate n []) nb = pickB n [] nb :=
  chosen_go nb [] _ 0 ok (fun _ h => nomatch h) (Pl.fits_bare n) (Pl.slim_nil n)
end Fr
namespace Pl
open PySem PySem.Spec PyProof.Rows L2
open Evl (Ex)
def nearL (L : List (List Int)) (b : Int × Int) : List Int := pick L.length fun k => decide (b.1 ∈ L.getD k []) && decide (b.2 ∈ L.getD k [])
def roomOf (kb : List Fr.Bar) (l : List Int) : Int := 2 * (l.length : Int) - 3 - (insideL (kb.map bI) l : Int)
def roomL (L : List (List Int)) (kb : List Fr.Bar) : List Int := L.map (roomOf kb)
theorem roomL_get (L : List (List Int)) (kb : List Fr.Bar) {k : Nat} (h : k < L.length) : (roomL L kb).getD k 0 = roomOf kb (L.getD k []) := by
  unfold roomL
  simp [List.getD, h]
theorem near_mem {L : List (List Int)} {b : Int × Int} {k : Int} : k ∈ nearL L b ↔ ∃ i : Nat, i < L.length ∧ (b.1 ∈ L.getD i [] ∧ b.2 ∈ L.getD i []) ∧ (i : Int) = k := by
  unfold nearL
  rw [pick_mem]
  constructor
  · rintro ⟨i, h1, h2, h3⟩
    rw [Bool.and_eq_true, decide_eq_true_eq, decide_eq_true_eq] at h2
    exact ⟨i, h1, h2, h3⟩
  · rintro ⟨i, h1, h2, h3⟩
    exact ⟨i, h1, by rw [Bool.and_eq_true, decide_eq_true_eq, decide_eq_true_eq]; exact h2, h3⟩
theorem inside_snoc (kb : List Fr.Bar) (b : Fr.Bar) (l : List Int) : insideL ((kb ++ [b]).map bI) l = insideL (kb.map bI) l + if (b.1 : Int) ∈ l ∧ (b.2 : Int) ∈ l then 1 else 0 := by
  rw [inside_ins, inside_ins, Fr.ins_append]
  by_cases h : (b.1 : Int) ∈ l ∧ (b.2 : Int) ∈ l
  · rw [if_pos h, if_pos (by unfold isI; rw [decide_eq_true h.1, decide_eq_true h.2]; rfl)]
  · rw [if_neg h, if_neg]
    intro z
    unfold isI at z
    rw [Bool.and_eq_true, decide_eq_true_eq, decide_eq_true_eq] at z
    exact h z
theorem whole_in {n : Nat} (h : 2 ≤ n) : kI (List.range n) ∈ setsL (kI (List.range n)) :=
  List.mem_filter.mpr ⟨(setsAll_sub _ _).mpr (.refl _), by rw [decide_eq_true_eq, kI_len, List.length_range]; omega⟩
theorem near_ne {n : Nat} {b : Fr.Bar} (h1 : b.1 < n) (h2 : b.2 < n) (h : 2 ≤ n) : 0 < (nearL (setsL (kI (List.range n))) (bI b)).length := by
  obtain ⟨i, hi, e⟩ := List.mem_iff_getElem.mp (whole_in h)
  refine List.length_pos_of_mem (a := (i : Int)) (near_mem.mpr ⟨i, hi, ?_, rfl⟩)
  have : (setsL (kI (List.range n))).getD i [] = kI (List.range n) := by simp [List.getD, hi, e]
  rw [this]
  exact ⟨kI_mem.mpr (List.mem_range.mpr h1), kI_mem.mpr (List.mem_range.mpr h2)⟩
theorem room_slim {n : Nat} {kb : List Fr.Bar} {b : Fr.Bar} (okk : Fr.Ok n kb) (sl : Fr.Slim n kb) (o : b.1 < n ∧ b.2 < n ∧ b.1 ≠ b.2) :
    (∀ k ∈ nearL (setsL (kI (List.range n))) (bI b), 0 < (roomL (setsL (kI (List.range n))) kb).getD k.toNat 0) ↔ Fr.Slim n (kb ++ [b]) := by
  have ok2 : Fr.Ok n (kb ++ [b]) := okk.app fun c hc => by rw [List.mem_singleton.mp hc]; exact o
  rw [← sets_slim ok2]
  have sl := (sets_slim okk).mpr sl
  constructor
  · intro h l hl
    obtain ⟨i, hi, e⟩ := List.mem_iff_getElem.mp hl
    have eg : (setsL (kI (List.range n))).getD i [] = l := by simp [List.getD, hi, e]
    rw [inside_snoc]
    by_cases q : (b.1 : Int) ∈ l ∧ (b.2 : Int) ∈ l
    · have z := h (i : Int) (near_mem.mpr ⟨i, hi, by rw [eg]; exact q, rfl⟩)
      rw [Int.toNat_natCast, roomL_get _ _ hi, eg] at z
      unfold roomOf at z
      rw [if_pos q]
      omega
    · rw [if_neg q]
      exact sl l hl
  · intro h k hk
    obtain ⟨i, hi, q, rfl⟩ := near_mem.mp hk
    rw [Int.toNat_natCast, roomL_get _ _ hi]
    have hm : (setsL (kI (List.range n))).getD i [] ∈ setsL (kI (List.range n)) := Fr.getD_mem hi
    have z := h _ hm
    have q : (b.1 : Int) ∈ (setsL (kI (List.range n))).getD i [] ∧ (b.2 : Int) ∈ (setsL (kI (List.range n))).getD i [] := q
    rw [inside_snoc, if_pos q] at z
    unfold roomOf
    omega
theorem room_next {L : List (List Int)} {kb : List Fr.Bar} {b : Fr.Bar} {R : List Int} (hl : R.length = L.length) (h : ∀ k : Nat, k < L.length → R.getD k 0 = (roomL L kb).getD k 0 - if (k : Int) ∈ nearL L (bI b) then 1 else 0) : R = roomL L (kb ++ [b]) := by
  have e2 : (roomL L (kb ++ [b])).length = L.length := by unfold roomL; rw [List.length_map]
  refine List.ext_getElem (by rw [hl, e2]) fun k h1 h2 => ?_
  have hk : k < L.length := by omega
  have a := h k hk
  have a2 := roomL_get L (kb ++ [b]) hk
  rw [roomL_get _ _ hk] at a
  have g1 : R.getD k 0 = R[k] := by simp [List.getD, h1]
  have g2 : (roomL L (kb ++ [b])).getD k 0 = (roomL L (kb ++ [b]))[k] := by simp [List.getD, h2]
  rw [← g1, ← g2, a, a2]
  unfold roomOf
  rw [inside_snoc]
  by_cases q : (b.1 : Int) ∈ L.getD k [] ∧ (b.2 : Int) ∈ L.getD k []
  · have q' : (bI b).1 ∈ L.getD k [] ∧ (bI b).2 ∈ L.getD k [] := q
    rw [if_pos (near_mem.mpr ⟨k, hk, q, rfl⟩), if_pos q]
    omega
  · rw [if_neg (fun z => q (by
      obtain ⟨i, _, q2, e⟩ := near_mem.mp z
      have : i = k := by omega
      rw [← this]
      exact q2)), if_neg q]
    omega
theorem ok_min {X : Cx} {K : PySem.W.Frag} (h : X.K = K) (hc : X.calm = true) : CallR X (.builtin "min") (rMin K) := by subst h; exact cr_min hc
theorem rc_min {K : PySem.W.Frag} {ns : List Int} {m : Int} (h1 : m ∈ ns) (h2 : ∀ y ∈ ns, m ≤ y) : RC K (rMin K) [.lst (ns.map D.int)] (.int m) := fun S H vs e r Q q => by
  cases r with
  | cons h t =>
    cases t
    cases h with
    | lst ha rl =>
      have z := rl.ints
      subst z
      refine ⟨_, ns, rfl, Evl.sq_of (e _ _ ha), List.length_pos_of_mem h1, fun k k1 k2 => ?_⟩
      have a := h2 k k1
      have b := k2 m h1
      have : k = m := by omega
      subst this
      exact q _ S H (Ext.refl e) (.int _)
theorem least_of : ∀ {ns : List Int}, 0 < ns.length → ∃ m ∈ ns, ∀ y ∈ ns, m ≤ y
  | [x], _ => ⟨x, List.mem_cons_self, fun y hy => by rw [List.mem_singleton.mp hy]; exact Int.le_refl _⟩
  | x :: y :: ns, _ => by
    obtain ⟨m, h1, h2⟩ := least_of (ns := y :: ns) (by simp)
    by_cases h : x ≤ m
    · exact ⟨x, List.mem_cons_self, fun z hz => by
        rcases List.mem_cons.mp hz with rfl | hz
        · exact Int.le_refl _
        · have := h2 z hz; omega⟩
    · exact ⟨m, List.mem_cons_of_mem _ h1, fun z hz => by
        rcases List.mem_cons.mp hz with rfl | hz
        · omega
        · exact h2 z hz⟩
end Pl

/-! What lean bars hold: parts, and that no lean ones are more; the worth. -/
namespace Fr
/-- two joints lie in a set without room -/
def Spn (n : Nat) (K : List Bar) (a b : Nat) : Prop := ∃ S : JS, Tight n K S ∧ S a = true ∧ S b = true
theorem Spn.symm {n : Nat} {K : List Bar} {a b : Nat} (h : Spn n K a b) : Spn n K b a := by
  obtain ⟨S, t, h1, h2⟩ := h
  exact ⟨S, t, h2, h1⟩
theorem Tight.mono {n : Nat} {K L : List Bar} {S : JS} (t : Tight n K S) (le : ins K S ≤ ins L S) (sl : Slim n L) : Tight n L S := by
  obtain ⟨h1, h2⟩ := t
  have := sl S h1
  exact ⟨h1, by omega⟩
theorem Spn.mono {n : Nat} {K L : List Bar} {a b : Nat} (h : Spn n K a b) (e : K.Sublist L) (sl : Slim n L) : Spn n L a b := by
  obtain ⟨S, t, h1, h2⟩ := h
  exact ⟨S, t.mono (ins_sub e S) sl, h1, h2⟩
theorem slim_snoc {n : Nat} {K : List Bar} {b : Bar} (sl : Slim n K) (h1 : b.1 < n) (h2 : b.2 < n) (ne : b.1 ≠ b.2) : Slim n (K ++ [b]) ↔ ¬ Spn n K b.1 b.2 := by
  constructor
  · rintro h ⟨S, ⟨t1, t2⟩, s1, s2⟩
    have i := ins_append K b S
    rw [s1, s2, Bool.and_self, if_pos rfl] at i
    have := h S t1
    omega
  · intro h S hS
    have i := ins_append K b S
    have s := sl S hS
    by_cases e : (S b.1 && S b.2) = true
    · rw [if_pos e] at i
      rw [Bool.and_eq_true] at e
      by_cases z : ins K S + 3 = 2 * card n S
      · exact (h ⟨S, ⟨hS, z⟩, e.1, e.2⟩).elim
      · omega
    · rw [if_neg e] at i
      omega
theorem ins_pos {bs : List Bar} {b : Bar} {S : JS} (hm : b ∈ bs) (h1 : S b.1 = true) (h2 : S b.2 = true) : 0 < ins bs S := List.countP_pos_iff.mpr ⟨b, hm, by rw [h1, h2]; rfl⟩
theorem bar_spn {n : Nat} {K : List Bar} {b : Bar} (ok : Ok n K) (sl : Slim n K) (hm : b ∈ K) : Spn n K b.1 b.2 := by
  obtain ⟨o1, o2, o3⟩ := ok b hm
  have c := card_two o1 o2 o3
  have s := sl (two b.1 b.2) (by omega)
  have p := ins_pos (S := two b.1 b.2) hm (by simp [two]) (by simp [two])
  exact ⟨two b.1 b.2, ⟨by omega, by omega⟩, by simp [two], by simp [two]⟩
/-- three joints that are held two by two are held by one set -/
theorem spn_three {n : Nat} {K : List Bar} (ok : Ok n K) (sl : Slim n K) {a b c : Nat} (ha : a < n) (hb : b < n) (hc : c < n) (nab : a ≠ b) (nac : a ≠ c) (nbc : b ≠ c)
    (h1 : Spn n K a b) (h2 : Spn n K a c) (h3 : Spn n K b c) : ∃ T, Tight n K T ∧ T a = true ∧ T b = true ∧ T c = true := by
  obtain ⟨S, tS, sa, sb⟩ := h1
  obtain ⟨T, tT, ta, tc⟩ := h2
  obtain ⟨U, tU, ub, uc⟩ := h3
  have p1 : 0 < card n (cap S T) := card_pos ha (by simp [cap, sa, ta])
  have p2 : 0 < card n (cap S U) := card_pos hb (by simp [cap, sb, ub])
  have p3 : 0 < card n (cap T U) := card_pos hc (by simp [cap, tc, uc])
  by_cases q1 : 2 ≤ card n (cap S T)
  · exact ⟨cup S T, (tS.cup sl tT q1).1, by simp [cup, sa], by simp [cup, sb], by simp [cup, tc]⟩
  by_cases q2 : 2 ≤ card n (cap S U)
  · exact ⟨cup S U, (tS.cup sl tU q2).1, by simp [cup, sa], by simp [cup, sb], by simp [cup, uc]⟩
  by_cases q3 : 2 ≤ card n (cap T U)
  · exact ⟨cup T U, (tT.cup sl tU q3).1, by simp [cup, ta], by simp [cup, ub], by simp [cup, tc]⟩
  have cc := card_cup_cap n (cap S U) (cap T U)
  have e1 : card n (cup (cap S U) (cap T U)) = card n (cap (cup S T) U) := card_same fun x _ => by
    show (S x && U x || T x && U x) = ((S x || T x) && U x)
    cases S x <;> cases T x <;> cases U x <;> rfl
  have e2 : card n (cap (cap S U) (cap T U)) = 0 := by
    cases z : card n (cap (cap S U) (cap T U)) with
    | zero => rfl
    | succ m =>
      have : 0 < card n (cap (cap S U) (cap T U)) := by omega
      obtain ⟨x, hx, h⟩ := List.countP_pos_iff.mp this
      have hx := List.mem_range.mp hx
      have h : (S x && U x && (T x && U x)) = true := h
      simp only [Bool.and_eq_true] at h
      obtain ⟨⟨k1, k2⟩, k3, _⟩ := h
      have : x = a := le_one_of (S := cap S T) (n := n) (by omega) hx ha (by simp [cap, k1, k3]) (by simp [cap, sa, ta])
      have : x = b := le_one_of (S := cap S U) (n := n) (by omega) hx hb (by simp [cap, k1, k2]) (by simp [cap, sb, ub])
      omega
  exact ⟨cup (cup S T) U, Tight.three ok sl tS tT tU (by omega) (by omega) (by omega) (by omega), by simp [cup, sa], by simp [cup, sb], by simp [cup, tc]⟩
open Classical in
/-- the part of two joints that hold each other -/
noncomputable def part (n : Nat) (K : List Bar) (a b : Nat) : JS := fun c => decide (c = a ∨ c = b ∨ (Spn n K a c ∧ Spn n K b c))
open Classical in
theorem part_iff {n : Nat} {K : List Bar} {a b c : Nat} : part n K a b c = true ↔ (c = a ∨ c = b ∨ (Spn n K a c ∧ Spn n K b c)) := by unfold part; exact decide_eq_true_iff
section
variable {n : Nat} {K : List Bar} {a b : Nat}
theorem part_most (ok : Ok n K) (sl : Slim n K) (ha : a < n) (hb : b < n) (ne : a ≠ b) (h : Spn n K a b) : ∀ m, m ≤ n → ∃ U, Tight n K U ∧ U a = true ∧ U b = true ∧ ∀ c, c < m → (∃ T, Tight n K T ∧ T a = true ∧ T b = true ∧ T c = true) → U c = true
  | 0, _ => by
    obtain ⟨S, t, h1, h2⟩ := h
    exact ⟨S, t, h1, h2, fun c hc => absurd hc (Nat.not_lt_zero _)⟩
  | m + 1, hm => by
    obtain ⟨U, tU, ua, ub, uc⟩ := part_most ok sl ha hb ne h m (by omega)
    by_cases q : ∃ T, Tight n K T ∧ T a = true ∧ T b = true ∧ T m = true
    · obtain ⟨T, tT, ta, tb, tm⟩ := q
      refine ⟨cup U T, Tight.cup_of sl tU tT ha hb ne ua ub ta tb, by simp [cup, ua], by simp [cup, ub], fun c hc hT => ?_⟩
      by_cases e : c = m
      · subst e
        simp [cup, tm]
      · simp [cup, uc c (by omega) hT]
    · refine ⟨U, tU, ua, ub, fun c hc hT => ?_⟩
      by_cases e : c = m
      · subst e
        exact (q hT).elim
      · exact uc c (by omega) hT
theorem part_all (ok : Ok n K) (sl : Slim n K) (ha : a < n) (hb : b < n) (ne : a ≠ b) (h : Spn n K a b) :
    Tight n K (part n K a b) ∧ ∀ T, Tight n K T → T a = true → T b = true → ∀ x, x < n → T x = true → part n K a b x = true := by
  obtain ⟨U, tU, ua, ub, uc⟩ := part_most ok sl ha hb ne h n (Nat.le_refl n)
  have e : ∀ x, x < n → U x = part n K a b x := fun x hx => by
    cases q : part n K a b x with
    | true =>
      rcases part_iff.mp q with rfl | rfl | ⟨h1, h2⟩
      · exact ua
      · exact ub
      · by_cases x1 : x = a
        · rw [x1]; exact ua
        by_cases x2 : x = b
        · rw [x2]; exact ub
        exact uc x hx (spn_three ok sl ha hb hx ne (Ne.symm x1) (Ne.symm x2) h h1 h2)
    | false =>
      cases z : U x with
      | false => rfl
      | true =>
        have : part n K a b x = true := part_iff.mpr (.inr (.inr ⟨⟨U, tU, ua, z⟩, ⟨U, tU, ub, z⟩⟩))
        rw [q] at this
        cases this
  exact ⟨tU.same ok e, fun T tT ta tb x hx tx => by rw [← e x hx]; exact uc x hx ⟨T, tT, ta, tb, tx⟩⟩
theorem part_left : part n K a b a = true := part_iff.mpr (.inl rfl)
theorem part_right : part n K a b b = true := part_iff.mpr (.inr (.inl rfl))
/-- two of a part have that part -/
theorem part_same (ok : Ok n K) (sl : Slim n K) (ha : a < n) (hb : b < n) (ne : a ≠ b) (h : Spn n K a b) {x y : Nat} (hx : x < n) (hy : y < n) (nxy : x ≠ y) (px : part n K a b x = true) (py : part n K a b y = true) :
    Spn n K x y ∧ ∀ z, z < n → part n K a b z = part n K x y z := by
  obtain ⟨t1, m1⟩ := part_all ok sl ha hb ne h
  have hxy : Spn n K x y := ⟨_, t1, px, py⟩
  obtain ⟨t2, m2⟩ := part_all ok sl hx hy nxy hxy
  refine ⟨hxy, fun z hz => ?_⟩
  have i1 : part n K a b z = true → part n K x y z = true := fun q => m2 _ t1 px py z hz q
  have pa := m2 _ t1 px py a ha part_left
  have pb := m2 _ t1 px py b hb part_right
  have i2 : part n K x y z = true → part n K a b z = true := fun q => m1 _ t2 pa pb z hz q
  cases q : part n K x y z with
  | true => exact i2 q
  | false =>
    cases r : part n K a b z with
    | false => rfl
    | true => rw [i1 r] at q; cases q
end
theorem least_ex {p : Nat → Prop} : ∀ x, p x → ∃ m, p m ∧ ∀ y, y < m → ¬ p y := fun x => by
  induction x using Nat.strongRecOn with
  | ind x ih =>
    intro h
    by_cases q : ∃ y, y < x ∧ p y
    · obtain ⟨y, hy, py⟩ := q
      exact ih y hy py
    · exact ⟨x, h, fun y hy py => q ⟨y, hy, py⟩⟩
theorem least_two {n : Nat} {S : JS} (h : 2 ≤ card n S) : ∃ a b, a < b ∧ b < n ∧ S a = true ∧ S b = true ∧ ∀ c, c < n → S c = true → c = a ∨ b ≤ c := by
  obtain ⟨x, y, lxy, hy, sx, sy⟩ := exists_two h
  obtain ⟨a, pa, la⟩ := least_ex (p := fun c => S c = true) x sx
  have hax : a ≤ x := by
    by_cases q : a ≤ x
    · exact q
    · exact (la x (by omega) sx).elim
  obtain ⟨b, ⟨pb, hb⟩, lb⟩ := least_ex (p := fun c => S c = true ∧ a < c) y ⟨sy, by omega⟩
  have hby : b ≤ y := by
    by_cases q : b ≤ y
    · exact q
    · exact (lb y (by omega) ⟨sy, by omega⟩).elim
  refine ⟨a, b, hb, by omega, pa, pb, fun c hc sc => ?_⟩
  by_cases q : c = a
  · exact .inl q
  · right
    have : a < c := by
      by_cases r : c < a
      · exact (la c r sc).elim
      · omega
    by_cases r : b ≤ c
    · exact r
    · exact (lb c (by omega) ⟨sc, this⟩).elim
/-- the two least joints of a part -/
def Ld (n : Nat) (K : List Bar) (a b : Nat) : Prop := a < b ∧ b < n ∧ Spn n K a b ∧ ∀ c, c < n → part n K a b c = true → c = a ∨ b ≤ c
section
variable {n : Nat} {K : List Bar}
theorem lead_ex (ok : Ok n K) (sl : Slim n K) {x y : Nat} (hx : x < n) (hy : y < n) (ne : x ≠ y) (h : Spn n K x y) : ∃ a b, Ld n K a b ∧ part n K a b x = true ∧ part n K a b y = true := by
  obtain ⟨t, _⟩ := part_all ok sl hx hy ne h
  obtain ⟨a, b, lab, hb, pa, pb, hl⟩ := least_two t.1
  obtain ⟨hab, e⟩ := part_same ok sl hx hy ne h (by omega) hb (by omega) pa pb
  refine ⟨a, b, ⟨lab, hb, hab, fun c hc q => hl c hc (by rw [e c hc]; exact q)⟩, ?_, ?_⟩
  · rw [← e x hx]; exact part_left
  · rw [← e y hy]; exact part_right
theorem lead_uniq (ok : Ok n K) (sl : Slim n K) {a b a' b' x y : Nat} (h : Ld n K a b) (h' : Ld n K a' b') (hx : x < n) (hy : y < n) (ne : x ≠ y) (p1 : part n K a b x = true) (p2 : part n K a b y = true)
    (q1 : part n K a' b' x = true) (q2 : part n K a' b' y = true) : a = a' ∧ b = b' := by
  obtain ⟨l1, hb, s1, m1⟩ := h
  obtain ⟨l2, hb', s2, m2⟩ := h'
  obtain ⟨_, e1⟩ := part_same ok sl (show a < n by omega) hb (by omega) s1 hx hy ne p1 p2
  obtain ⟨_, e2⟩ := part_same ok sl (show a' < n by omega) hb' (by omega) s2 hx hy ne q1 q2
  have e : ∀ z, z < n → part n K a b z = part n K a' b' z := fun z hz => by rw [e1 z hz, e2 z hz]
  have z1 := m1 a' (by omega) (by rw [e a' (by omega)]; exact part_left)
  have z2 := m1 b' hb' (by rw [e b' hb']; exact part_right)
  have z3 := m2 a (by omega) (by rw [← e a (by omega)]; exact part_left)
  have z4 := m2 b hb (by rw [← e b hb]; exact part_right)
  omega
open Classical in
/-- the two least joints of each part, rising -/
noncomputable def ldrs (n : Nat) (K : List Bar) : List Bar := (List.range n).flatMap fun a => ((List.range n).filter fun b => decide (Ld n K a b)).map fun b => (a, b)
open Classical in
theorem ldrs_mem {p : Bar} : p ∈ ldrs n K ↔ Ld n K p.1 p.2 := by
  unfold ldrs
  rw [List.mem_flatMap]
  constructor
  · rintro ⟨a, _, h⟩
    obtain ⟨b, hb, rfl⟩ := List.mem_map.mp h
    exact of_decide_eq_true (List.mem_filter.mp hb).2
  · intro h
    obtain ⟨h1, h2, _⟩ := id h
    exact ⟨p.1, List.mem_range.mpr (by omega), List.mem_map.mpr ⟨p.2, List.mem_filter.mpr ⟨List.mem_range.mpr h2, decide_eq_true h⟩, rfl⟩⟩
def Lex (x y : Bar) : Prop := x.1 < y.1 ∨ (x.1 = y.1 ∧ x.2 < y.2)
theorem ldrs_lex : (ldrs n K).Pairwise Lex := by
  unfold ldrs
  rw [List.pairwise_flatMap]
  refine ⟨fun a _ => ?_, List.pairwise_lt_range.imp fun {a b} h x hx y hy => ?_⟩
  · rw [List.pairwise_map]
    exact (List.pairwise_lt_range.filter _).imp fun h => .inr ⟨rfl, h⟩
  · obtain ⟨u, _, rfl⟩ := List.mem_map.mp hx
    obtain ⟨v, _, rfl⟩ := List.mem_map.mp hy
    exact .inl h
theorem ldrs_nodup : (ldrs n K).Nodup := ldrs_lex.imp fun {x y} h e => by
  subst e
  rcases h with h | h <;> omega
end
theorem count_one {α : Type} {p : α → Bool} : ∀ {l : List α} {x : α}, l.Nodup → x ∈ l → p x = true → (∀ y ∈ l, p y = true → y = x) → l.countP p = 1
  | y :: l, x, nd, hx, px, h => by
    obtain ⟨n1, n2⟩ := List.nodup_cons.mp nd
    rcases List.mem_cons.mp hx with rfl | hx
    · rw [List.countP_cons, if_pos px]
      have : l.countP p = 0 := List.countP_eq_zero.mpr fun y hy e => by
        have := h y (List.mem_cons_of_mem _ hy) e
        subst this
        exact n1 hy
      omega
    · have hy : ¬ p y = true := fun e => by
        have := h y List.mem_cons_self e
        subst this
        exact n1 hx
      rw [List.countP_cons, if_neg hy, count_one n2 hx px fun z hz => h z (List.mem_cons_of_mem _ hz)]
theorem sum_add {α : Type} (f g : α → Nat) : ∀ l : List α, (l.map fun x => f x + g x).sum = (l.map f).sum + (l.map g).sum
  | [] => rfl
  | x :: l => by
    simp only [List.map_cons, List.sum_cons]
    rw [sum_add f g l]
    omega
theorem sum_one {α : Type} {f : α → Nat} : ∀ {l : List α}, (∀ x ∈ l, f x = 1) → (l.map f).sum = l.length
  | [], _ => rfl
  | x :: l, h => by
    simp only [List.map_cons, List.sum_cons, List.length_cons]
    rw [sum_one fun y hy => h y (List.mem_cons_of_mem _ hy), h x List.mem_cons_self]
    omega
theorem sum_le {α : Type} {f g : α → Nat} : ∀ {l : List α}, (∀ x ∈ l, f x ≤ g x) → (l.map f).sum ≤ (l.map g).sum
  | [], _ => Nat.le_refl _
  | x :: l, h => by
    simp only [List.map_cons, List.sum_cons]
    have := sum_le fun y hy => h y (List.mem_cons_of_mem _ hy)
    have := h x List.mem_cons_self
    omega
theorem sum_count {β : Type} (q : β → Bool) : ∀ J : List β, (J.map fun x => (q x).toNat).sum = J.countP q
  | [] => rfl
  | x :: J => by
    simp only [List.map_cons, List.sum_cons, List.countP_cons]
    rw [sum_count q J]
    cases q x <;> simp <;> omega
theorem sum_swap {α β : Type} (q : α → β → Bool) (J : List β) : ∀ l : List α, (l.map fun p => J.countP (q p)).sum = (J.map fun x => l.countP fun p => q p x).sum
  | [] => by
    have : (J.map fun x => ([] : List α).countP fun p => q p x).sum = 0 := by
      induction J with
      | nil => rfl
      | cons y J ih => simp only [List.map_cons, List.sum_cons, ih]; rfl
    rw [this]
    rfl
  | p :: l => by
    simp only [List.map_cons, List.sum_cons]
    rw [sum_swap q J l, ← sum_count (q p) J, ← sum_add]
    congr 1
    refine List.map_congr_left fun x _ => ?_
    rw [List.countP_cons]
    cases q p x <;> simp <;> omega
section
variable {n : Nat} {K J : List Bar}
theorem ins_ldrs (ok : Ok n K) (sl : Slim n K) (okJ : Ok n J) (h : ∀ x ∈ J, Spn n K x.1 x.2) : ((ldrs n K).map fun p => ins J (part n K p.1 p.2)).sum = J.length := by
  have e := sum_swap (fun (p : Bar) (x : Bar) => part n K p.1 p.2 x.1 && part n K p.1 p.2 x.2) J (ldrs n K)
  refine Eq.trans e (sum_one fun x hx => ?_)
  obtain ⟨o1, o2, o3⟩ := okJ x hx
  obtain ⟨a, b, hl, p1, p2⟩ := lead_ex ok sl o1 o2 o3 (h x hx)
  refine count_one (x := (a, b)) ldrs_nodup (ldrs_mem.mpr hl) (by rw [p1, p2]; rfl) fun y hy e => ?_
  rw [Bool.and_eq_true] at e
  obtain ⟨z1, z2⟩ := lead_uniq ok sl (ldrs_mem.mp hy) hl o1 o2 o3 e.1 e.2 p1 p2
  exact Prod.ext z1 z2
/-- twice the joints less three, added up over the parts -/
theorem parts_sum (ok : Ok n K) (sl : Slim n K) : ((ldrs n K).map fun p => 2 * card n (part n K p.1 p.2) - 3).sum = K.length := by
  rw [← ins_ldrs ok sl ok fun x hx => bar_spn ok sl hx]
  congr 1
  refine List.map_congr_left fun p hp => ?_
  obtain ⟨h1, h2, h3, _⟩ := ldrs_mem.mp hp
  obtain ⟨⟨t1, t2⟩, _⟩ := part_all ok sl (show p.1 < n by omega) h2 (by omega) h3
  omega
/-- no lean ones that are held are more -/
theorem span_le (ok : Ok n K) (sl : Slim n K) (okJ : Ok n J) (slJ : Slim n J) (h : ∀ x ∈ J, Spn n K x.1 x.2) : J.length ≤ K.length := by
  rw [← ins_ldrs ok sl okJ h, ← ins_ldrs ok sl ok fun x hx => bar_spn ok sl hx]
  refine sum_le fun p hp => ?_
  obtain ⟨h1, h2, h3, _⟩ := ldrs_mem.mp hp
  obtain ⟨⟨t1, t2⟩, _⟩ := part_all ok sl (show p.1 < n by omega) h2 (by omega) h3
  have := slJ _ t1
  omega
end
/-! ### the worth -/
noncomputable def rk (n : Nat) (nb : List Bar) : Nat := (pickB n [] nb).length
/-- two joints hold each other -/
def Hld (n : Nat) (nb : List Bar) (a b : Nat) : Prop := Spn n (pickB n [] nb) a b
section
variable {n : Nat} {nb as bs : List Bar}
theorem basis_slim (n : Nat) (nb : List Bar) : Slim n (pickB n [] nb) := by
  have := pickB_slim nb [] (Pl.slim_nil n)
  simpa using this
theorem basis_ok (ok : Ok n nb) : Ok n (pickB n [] nb) := ok.sub (pickB_sub nb [])
theorem pick_spn : ∀ (r kb : List Bar), Ok n r → Ok n kb → Slim n kb → ∀ x ∈ r, Spn n (kb ++ pickB n kb r) x.1 x.2
  | b :: r, kb, ok, okk, sl, x, hx => by
    have o := ok b List.mem_cons_self
    have okr : Ok n r := fun c hc => ok c (List.mem_cons_of_mem _ hc)
    by_cases h : Slim n (kb ++ [b])
    · have okb : Ok n (kb ++ [b]) := okk.app fun c hc => by rw [List.mem_singleton.mp hc]; exact o
      rw [pickB_yes h]
      have e : kb ++ b :: pickB n (kb ++ [b]) r = (kb ++ [b]) ++ pickB n (kb ++ [b]) r := by simp
      rw [e]
      have s2 := pickB_slim r _ h
      rcases List.mem_cons.mp hx with rfl | hx
      · exact (bar_spn okb h (List.mem_append_right _ (List.mem_singleton.mpr rfl))).mono (List.sublist_append_left _ _) s2
      · exact pick_spn r _ okr okb h x hx
    · rw [pickB_no h]
      rcases List.mem_cons.mp hx with rfl | hx
      · have : Spn n kb x.1 x.2 := by
          by_cases q : Spn n kb x.1 x.2
          · exact q
          · exact (h ((slim_snoc sl o.1 o.2.1 o.2.2).mpr q)).elim
        exact this.mono (List.sublist_append_left _ _) (pickB_slim r kb sl)
      · exact pick_spn r kb okr okk sl x hx
theorem hld_bar (ok : Ok n nb) {x : Bar} (hx : x ∈ nb) : Hld n nb x.1 x.2 := by
  have := pick_spn nb [] ok (fun _ h => nomatch h) (Pl.slim_nil n) x hx
  rwa [List.nil_append] at this
theorem rk_max {J : List Bar} (ok : Ok n nb) (okJ : Ok n J) (slJ : Slim n J) (h : ∀ x ∈ J, Hld n nb x.1 x.2) : J.length ≤ rk n nb :=
  span_le (basis_ok ok) (basis_slim n nb) okJ slJ h
theorem rk_sub (oka : Ok n as) (okb : Ok n bs) (h : ∀ x ∈ as, Hld n bs x.1 x.2) : rk n as ≤ rk n bs :=
  rk_max okb (basis_ok oka) (basis_slim n as) fun x hx => h x ((pickB_sub as []).subset hx)
theorem rk_snoc {x : Bar} (o : x.1 < n ∧ x.2 < n ∧ x.1 ≠ x.2) : (Hld n nb x.1 x.2 → rk n (nb ++ [x]) = rk n nb) ∧ (¬ Hld n nb x.1 x.2 → rk n (nb ++ [x]) = rk n nb + 1) := by
  have e : pickB n [] (nb ++ [x]) = pickB n [] nb ++ pickB n (pickB n [] nb) [x] := by rw [pickB_app, List.nil_append]
  have s := slim_snoc (b := x) (basis_slim n nb) o.1 o.2.1 o.2.2
  constructor
  · intro h
    unfold rk
    rw [e, pickB_no (fun z => s.mp z h), pickB, List.append_nil]
  · intro h
    unfold rk
    rw [e, pickB_yes (s.mpr h), pickB, List.length_append]
    rfl
theorem hld_rk {x : Bar} (o : x.1 < n ∧ x.2 < n ∧ x.1 ≠ x.2) : Hld n nb x.1 x.2 ↔ rk n (nb ++ [x]) = rk n nb := by
  obtain ⟨h1, h2⟩ := rk_snoc (nb := nb) o
  by_cases h : Hld n nb x.1 x.2
  · exact ⟨h1, fun _ => h⟩
  · have := h2 h
    exact ⟨fun z => (h z).elim, fun z => by omega⟩
theorem ok_snoc {x : Bar} (ok : Ok n nb) (o : x.1 < n ∧ x.2 < n ∧ x.1 ≠ x.2) : Ok n (nb ++ [x]) := ok.app fun c hc => by rw [List.mem_singleton.mp hc]; exact o
/-- what is held by the one is held by the other -/
theorem hld_le (oka : Ok n as) (okb : Ok n bs) (h : ∀ x ∈ as, Hld n bs x.1 x.2) {a b : Nat} (ha : a < n) (hb : b < n) (ne : a ≠ b) (q : Hld n as a b) : Hld n bs a b := by
  have o : (a, b).1 < n ∧ (a, b).2 < n ∧ (a, b).1 ≠ (a, b).2 := ⟨ha, hb, ne⟩
  by_cases z : Hld n bs a b
  · exact z
  -- else a basis of the one, with this bar, and all of the other's
  have okab := ok_snoc okb o
  have hab : ∀ x, x ∈ bs ++ [(a, b)] → Hld n (bs ++ [(a, b)]) x.1 x.2 := fun x hx => hld_bar okab hx
  -- all of as ++ bs ++ [(a,b)] is held by bs ++ [(a,b)]; and by bs alone
  have oka2 : Ok n (bs ++ as) := okb.app oka
  have k1 : pickB n [] (bs ++ as) = pickB n [] bs := by
    have go : ∀ r : List Bar, Ok n r → (∀ x ∈ r, Hld n bs x.1 x.2) → pickB n (pickB n [] bs) r = [] := fun r => by
      induction r with
      | nil => intro _ _; rw [pickB]
      | cons y r ih =>
        intro okr hr
        have oy := okr y List.mem_cons_self
        rw [pickB_no fun s => (slim_snoc (basis_slim n bs) oy.1 oy.2.1 oy.2.2).mp s (hr y List.mem_cons_self)]
        exact ih (fun c hc => okr c (List.mem_cons_of_mem _ hc)) fun c hc => hr c (List.mem_cons_of_mem _ hc)
    rw [pickB_app, List.nil_append, go as oka h, List.append_nil]
  have e2 : Hld n (bs ++ as) a b ↔ Hld n bs a b := by unfold Hld; rw [k1]
  -- the rank of as, bs and the bar: no more than of as and bs
  have r1 := (rk_snoc (nb := bs ++ as) o).2 fun y => z (e2.mp y)
  have okas : Ok n (as ++ bs) := oka.app okb
  have r2 : rk n ((bs ++ as) ++ [(a, b)]) ≤ rk n (as ++ bs) := rk_sub (ok_snoc oka2 o) okas fun x hx => by
    rcases List.mem_append.mp hx with hx | hx
    · exact hld_bar okas (List.mem_append.mpr (List.mem_append.mp hx).symm)
    · rw [List.mem_singleton.mp hx]
      have : pickB n [] (as ++ bs) = pickB n [] as ++ pickB n (pickB n [] as) bs := by rw [pickB_app, List.nil_append]
      show Spn n _ a b
      rw [this]
      have s := pickB_slim bs _ (basis_slim n as)
      exact q.mono (List.sublist_append_left _ _) s
  have r3 : rk n (as ++ bs) ≤ rk n (bs ++ as) := rk_sub okas oka2 fun x hx => hld_bar oka2 (List.mem_append.mpr (List.mem_append.mp hx).symm)
  omega
theorem hld_symm {a b : Nat} (h : Hld n nb a b) : Hld n nb b a := Spn.symm h
/-- the same bars, in any order, turned or not -/
def Sub (as bs : List Bar) : Prop := ∀ x ∈ as, x ∈ bs ∨ (x.2, x.1) ∈ bs
theorem sub_hld (okb : Ok n bs) (h : Sub as bs) : ∀ x ∈ as, Hld n bs x.1 x.2 := fun x hx => (h x hx).elim (hld_bar okb) fun q => hld_symm (hld_bar okb q)
theorem rk_same (oka : Ok n as) (okb : Ok n bs) (h1 : Sub as bs) (h2 : Sub bs as) : rk n as = rk n bs := Nat.le_antisymm (rk_sub oka okb (sub_hld okb h1)) (rk_sub okb oka (sub_hld oka h2))
theorem hld_same (oka : Ok n as) (okb : Ok n bs) (h1 : Sub as bs) (h2 : Sub bs as) {a b : Nat} (ha : a < n) (hb : b < n) (ne : a ≠ b) : Hld n as a b ↔ Hld n bs a b :=
  ⟨hld_le oka okb (sub_hld okb h1) ha hb ne, hld_le okb oka (sub_hld oka h2) ha hb ne⟩
/-- the frame without the bar at i -/
theorem rk_less {i : Nat} (ok : Ok n nb) (hi : i < nb.length) : (Hld n (nb.eraseIdx i) nb[i].1 nb[i].2 → rk n (nb.eraseIdx i) = rk n nb ∧ ∀ a b, a < n → b < n → a ≠ b → (Hld n (nb.eraseIdx i) a b ↔ Hld n nb a b)) ∧
    (¬ Hld n (nb.eraseIdx i) nb[i].1 nb[i].2 → rk n (nb.eraseIdx i) + 1 = rk n nb) := by
  have okl : Ok n (nb.eraseIdx i) := ok.sub (List.eraseIdx_sublist _ _)
  have o := ok nb[i] (List.getElem_mem hi)
  have all : ∀ x ∈ nb, x ∈ nb.eraseIdx i ∨ x = nb[i] := fun x hx => by
    obtain ⟨j, hj, e⟩ := List.mem_iff_getElem.mp hx
    by_cases q : j = i
    · subst q; exact .inr e.symm
    · exact .inl (List.mem_eraseIdx_iff_getElem.mpr ⟨j, hj, q, e⟩)
  have s1 : Sub nb (nb.eraseIdx i ++ [nb[i]]) := fun x hx => .inl ((all x hx).elim (List.mem_append_left _) fun e => List.mem_append_right _ (by rw [e]; exact List.mem_singleton.mpr rfl))
  have s2 : Sub (nb.eraseIdx i ++ [nb[i]]) nb := fun x hx => .inl ((List.mem_append.mp hx).elim (fun h => (List.eraseIdx_sublist _ _).subset h) fun h => by rw [List.mem_singleton.mp h]; exact List.getElem_mem hi)
  have e := rk_same ok (ok_snoc okl o) s1 s2
  obtain ⟨h1, h2⟩ := rk_snoc (nb := nb.eraseIdx i) o
  refine ⟨fun h => ⟨by rw [e, h1 h], fun a b ha hb ne => ⟨fun q => hld_le okl ok (fun x hx => hld_bar ok ((List.eraseIdx_sublist _ _).subset hx)) ha hb ne q, fun q => hld_le ok okl (fun x hx => ?_) ha hb ne q⟩⟩, fun h => by rw [e, h2 h]⟩
  rcases all x hx with hx | rfl
  · exact hld_bar okl hx
  · exact h
end
end Fr

/-! What stands between two joints is told by what is carried, and the joints told are the fewest. -/
namespace Fr
def lens (cs : Cs) (S : JS) : Nat → Nat
  | 0 => 0
  | k + 1 => lens cs S k + if S k = true then (at_ cs k).length else 0
theorem outs_lens (cs : Cs) (S : JS) : ∀ k, outs cs S k ≤ lens cs S k
  | 0 => Nat.le_refl _
  | k + 1 => by
    have := outs_lens cs S k
    have h := List.countP_le_length (p := S) (l := at_ cs k)
    unfold outs lens
    split <;> omega
theorem outs_eq {cs : Cs} {S : JS} : ∀ {k : Nat}, outs cs S k = lens cs S k → ∀ v, v < k → S v = true → (at_ cs v).countP S = (at_ cs v).length
  | 0, _, v, hv, _ => absurd hv (Nat.not_lt_zero _)
  | k + 1, h, v, hv, sv => by
    have a := outs_lens cs S k
    have b := List.countP_le_length (p := S) (l := at_ cs k)
    unfold outs lens at h
    by_cases e : v = k
    · subst e
      rw [if_pos sv, if_pos sv] at h
      omega
    · refine outs_eq (k := k) ?_ v (by omega) sv
      split at h <;> omega
theorem card_succ (k : Nat) (S : JS) : card (k + 1) S = card k S + if S k = true then 1 else 0 := by
  unfold card
  rw [List.range_succ, List.countP_append, List.countP_cons, List.countP_nil]
  simp
theorem lens_low {cs : Cs} {S : JS} {one other : Nat} (two : ∀ v, (at_ cs v).length ≤ 2) (ne : one ≠ other) (s1 : S one = true) (s2 : S other = true) (e1 : at_ cs one = []) (e2 : (at_ cs other).length ≤ 1) :
    ∀ k, lens cs S k + (if one < k then 2 else 0) + (if other < k then 1 else 0) ≤ 2 * card k S
  | 0 => by simp [lens]
  | k + 1 => by
    have ih := lens_low two ne s1 s2 e1 e2 k
    have t := two k
    rw [card_succ]
    unfold lens
    by_cases a : k = one
    · subst a
      rw [if_pos s1, if_pos s1, if_pos (Nat.lt_succ_self k), e1]
      rw [if_neg (Nat.lt_irrefl k)] at ih
      by_cases q : other < k
      · rw [if_pos (by omega)]
        rw [if_pos q] at ih
        simp
        omega
      · rw [if_neg (by omega)]
        rw [if_neg q] at ih
        simp
        omega
    · by_cases b : k = other
      · subst b
        rw [if_pos s2, if_pos s2, if_pos (show k < k + 1 by omega)]
        rw [if_neg (Nat.lt_irrefl k)] at ih
        by_cases q : one < k
        · rw [if_pos (by omega)]
          rw [if_pos q] at ih
          omega
        · rw [if_neg (by omega)]
          rw [if_neg q] at ih
          omega
      · have p1 : (if one < k + 1 then 2 else 0) = (if one < k then 2 else 0) := by
          by_cases q : one < k
          · rw [if_pos q, if_pos (by omega)]
          · rw [if_neg q, if_neg (by omega)]
        have p2 : (if other < k + 1 then 1 else 0) = (if other < k then 1 else 0) := by
          by_cases q : other < k
          · rw [if_pos q, if_pos (by omega)]
          · rw [if_neg q, if_neg (by omega)]
        rw [p1, p2]
        split <;> omega
theorem closed_reached {n : Nat} {cs : Cs} {start : Nat} {ah : Ah} {S : JS} (sn : Seen n cs start ah []) (s0 : S start = true) (cl : ∀ v, v < n → S v = true → ∀ w ∈ at_ cs v, S w = true) : ∀ (m i f p : Nat), i ≤ m → ah[i]? = some (f, p) → S f = true
  | m, 0, f, p, _, h => by
    obtain ⟨r, hr⟩ := sn.head
    rw [hr] at h
    simp at h
    rw [← h.1]
    exact s0
  | 0, i + 1, _, _, hi, _ => by omega
  | m + 1, i + 1, f, p, hi, h => by
    obtain ⟨hf, i', q, hi', hq⟩ := sn.par (i + 1) f p h (by omega)
    have hp := closed_reached sn s0 cl m i' p q (by omega) hq
    exact cl p (sn.low p (List.mem_map.mpr ⟨(p, q), List.mem_of_getElem? hq, rfl⟩)) hp f hf
theorem btw_lay (cs : Cs) (one other : Nat) : (btw cs one other).2 = none ↔ (lay cs one other).2 = none := by
  cases h : (btw cs one other).2 with
  | none => rw [lay_none h]
  | some ks => rw [lay_some h]
/-- the joints told are the fewest without room -/
theorem btw_min {n : Nat} {cs : Cs} {bs : List Bar} {one other : Nat} {ks : List Nat} (ft : Fits n cs bs) (sl : Slim n bs) (h1 : one < n) (h2 : other < n) (ne : one ≠ other) (h : (btw cs one other).2 = some ks) :
    ks.Nodup ∧ (∀ k ∈ ks, k < n) ∧ one ∈ ks ∧ other ∈ ks ∧ Tight n bs (inL ks) ∧ ∀ S, Tight n bs S → S one = true → S other = true → ∀ k ∈ ks, S k = true := by
  obtain ⟨_, nd, low, m1, m2, tk⟩ := lay_no ft sl h1 h2 ne (show lay cs one other = ((btw cs one other).1, some ks) from lay_some h)
  refine ⟨nd, low, m1, m2, tk, fun S tS s1 s2 => ?_⟩
  obtain ⟨a, _, c, _⟩ := unload_spec (spared := one) h1 3 cs ft (by have := ft.two one; omega)
  have c := c (unload_all ft sl h1)
  obtain ⟨a2, b2, c2, d2⟩ := unload_spec (spared := one) h2 3 (unload one one 3 cs).1 a (by have := a.two other; omega)
  unfold btw at h
  dsimp only at h
  by_cases hy : (unload other one 3 (unload one one 3 cs).1).2 = true
  · rw [if_pos hy] at h
    cases h
  · rw [if_neg hy] at h
    have ek := Option.some.inj h
    have hf : (unload other one 3 (unload one one 3 cs).1).2 = false := by simpa using hy
    obtain ⟨g1, g2⟩ := d2 hf
    have e1 : at_ (unload other one 3 (unload one one 3 cs).1).1 one = [] := by
      have := b2 one ne rfl
      rw [c] at this
      exact List.eq_nil_of_length_eq_zero this
    generalize (unload other one 3 (unload one one 3 cs).1).1 = c3 at *
    subst ek
    obtain ⟨sn, sh⟩ := reached_seen a2.len a2.low h2
    have q := ins_reached a2 h2 g2
    have t := reach_two a2 h2 g1
    have s := sl _ t
    rw [if_pos ⟨h1, m1, ne⟩, e1] at q
    have z0 : ([] : List Nat).length = 0 := rfl
    have e2 : (at_ c3 other).length ≤ 1 := by
      have := a2.two other
      omega
    have ll := lens_low a2.two ne s1 s2 e1 e2 n
    rw [if_pos h1, if_pos h2] at ll
    have lo := outs_lens c3 S n
    obtain ⟨t1, t2⟩ := tS
    rw [a2.out] at t2
    have eq : outs c3 S n = lens c3 S n := by omega
    have cl : ∀ v, v < n → S v = true → ∀ w ∈ at_ c3 v, S w = true := fun v hv sv w hw => by
      have := outs_eq eq v hv sv
      exact List.countP_eq_length.mp this w hw
    intro k hk
    obtain ⟨i, p, hi⟩ : ∃ i p, (reached c3 other)[i]? = some (k, p) := by
      obtain ⟨⟨x, p⟩, hm, e⟩ := List.mem_map.mp hk
      obtain ⟨i, hi⟩ := List.getElem?_of_mem hm
      exact ⟨i, p, by rw [hi]; exact congrArg some (Prod.ext e rfl)⟩
    exact closed_reached sn s2 cl i i k p (Nat.le_refl _) hi
/-- told by what is carried: do the two hold each other -/
theorem btw_spn {n : Nat} {cs : Cs} {bs : List Bar} {one other : Nat} (ft : Fits n cs bs) (ok : Ok n bs) (sl : Slim n bs) (h1 : one < n) (h2 : other < n) (ne : one ≠ other) : (btw cs one other).2 = none ↔ ¬ Spn n bs one other := by
  rw [btw_lay, ← slim_snoc (b := (one, other)) sl h1 h2 ne]
  exact lay_slim (b := (one, other)) ft ok sl ⟨h1, h2, ne⟩
end Fr

/-! New trees by plain expressions; trees that become data; calls that are handed new trees. -/
namespace Pl
open PySem PySem.Spec PyProof.Rows L2
open Evl (Ex)
/-- a new tree -/
def EvM (K : PySem.W.Frag) (te : TE) (ρ : Rho) (m : M) : Prop := ∀ S H σ, Ex S H → Env K S σ ρ → ∀ Q : VK, (∀ p f S' H', Ext S H S' H' → Own K S' H' (.ref p) m f → f.Nodup → (∀ a ∈ f, H a = none ∧ S' a = none) → Q (.ref p) H') → te σ H Q
section
variable {K : PySem.W.Frag} {S0 H0 S H S' H' : Hp} {σ : L2.St} {ρ ρ' ρ1 ρv : Rho} {g g' g1 g2 gl gr : Gs} {F G : FM} {t u : TS} {te ti td tx tk tv ty : TE} {tA : TA} {c : TT} {d : D} {es ds : List D} {ms : List M} {m m1 m2 : M} {a : Addr} {π : List Nat} {Dd : Ends} {i j : Nat} {b : Bool} {r : Rs} {E : XK} {s : Shp}
theorem EvX.ofM (h : EvM K te ρ m) : EvX K te ρ g (.t m) g := fun S0 H0 S H σ st Q q =>
  h S H σ st.sub st.env Q fun p f S' H' x o nd no => q _ S' H' x.s ⟨p, rfl, st.add x o nd no⟩
theorem EvX.lookM (hv : View g ρ ρv) (h : EvM K te ρv m) (hf : m.flat = true) : EvX K te ρ g (.t m) g := fun S0 H0 S H σ st Q q => by
  obtain ⟨fp, rg, s0⟩ := id st
  obtain ⟨P, e1, e2, v, _⟩ := SG.look rg s0 hv
  refine h _ H σ e2 v _ fun p f S' H' x o nd no => ?_
  have xx : Ext S H (woH S H S') H' := ext_woH (e1.trans x.s) x.h x.sub
  exact q _ _ H' xx.s ⟨p, rfl, st.add xx (o.flat hf) nd fun a ha => ⟨(no a ha).1, woH_none (no a ha).2⟩⟩
open Classical in
/-- a tree that is told becomes data -/
theorem SG.tellT {p : Addr} (st : SG K S0 H0 ρ (g ++ [(p, m)]) S H σ) : ∃ S2, Ex S S2 ∧ SG K S0 H0 ρ g S2 H σ ∧ Rd K S2 (.ref p) m.see := by
  obtain ⟨fp, rg, s0⟩ := st
  have o := rg.own
  rw [gv_app, gm_app] at o
  obtain ⟨f1, f2, e, o1, o2⟩ := o.split gv_len
  have o2 : OwnL K S H [.ref p] [m] f2 := o2
  have n := SG.noS s0 rg
  have nd := rg.nd
  rw [e] at nd
  obtain ⟨nd1, nd2, nd3⟩ := List.nodup_append.mp nd
  have sub1 : ∀ a ∈ f1, a ∈ fp := fun a ha => e ▸ List.mem_append_left _ ha
  have sub2 : ∀ a ∈ f2, a ∈ fp := fun a ha => e ▸ List.mem_append_right _ ha
  have e1 : Ex S (withP (fun a => a ∈ f2) S H) := fun a o h => by
    unfold withP
    rw [if_neg fun z => by rw [n a (sub2 a z)] at h; cases h]
    exact h
  have e2 : Ex (withP (fun a => a ∈ f2) S H) H := fun a o h => by
    unfold withP at h
    split at h
    · exact h
    · exact s0.ext.sub a o h
  have in2 : ∀ a ∈ f2, withP (fun a => a ∈ f2) S H a = H a := fun a h => if_pos h
  refine ⟨_, e1, ⟨f1, ⟨o1.mono e1 fun a _ => rfl, nd1, fun a ha => rg.no a (sub1 a ha)⟩, s0.mv rg.no rg.own.lays e1 e2 (fun a _ _ => rfl) (fun a hn hs _ => ?_) fun a ha => ⟨.inl (sub1 a ha), ?_⟩⟩, ?_⟩
  · unfold withP
    rw [if_neg fun z => hn (sub2 a z)]
    exact hs
  · unfold withP
    rw [if_neg fun z => nd3 a ha a z rfl]
    exact n a (sub1 a ha)
  · cases o2 with
    | cons h r =>
      cases r
      exact h.see e1 fun b hb => in2 b (List.mem_append_left _ hb)
theorem EvX.tellT (h : EvX K te ρ g (.t m) g') : EvX K te ρ g (.d m.see) g' := fun S0 H0 S H σ st Q q => h S0 H0 S H σ st Q fun v S' H' e z => by
  obtain ⟨p, ev, z⟩ := z
  subst ev
  obtain ⟨S2, e2, st2, r2⟩ := z.tellT
  exact q _ S2 H' (e.trans e2) ⟨st2, r2⟩
/-- arguments, some of them new trees -/
def EvXA (K : PySem.W.Frag) (tA : TA) (ρ : Rho) (g : Gs) (P : List D → Gs → Prop) : Prop := ∀ S0 H0 S H σ, SG K S0 H0 ρ g S H σ → ∀ Q : List V → Hp → Prop, (∀ vs ds g' S' H', Ex S S' → P ds g' → SG K S0 H0 ρ g' S' H' σ → RdL K S' vs ds → Q vs H') → tA σ H Q
theorem xa_of (h : EvA K tA ρ ds) : EvXA K tA ρ g fun es x => es = ds ∧ x = g := fun S0 H0 S H σ st Q q => h S H σ st.sub st.env Q fun vs S' H' x r => q vs ds g S' H' x.s ⟨rfl, rfl⟩ (st.go x) r
theorem xa_d {P : List D → Gs → Prop} (h : EvD K te ρ d) (hr : EvXA K tA ρ g P) : EvXA K (tCons te tA) ρ g fun es x => ∃ l, es = d :: l ∧ P l x := fun S0 H0 S H σ st Q q =>
  h S H σ st.sub st.env _ fun v S1 H1 x1 r1 => hr S0 H0 S1 H1 σ (st.go x1) _ fun vs ds g' S' H' e p s2 r2 => q _ _ _ S' H' (x1.s.trans e) ⟨ds, rfl, p⟩ s2 (.cons (r1.mono e) r2)
theorem xa_t {P : Addr → List D → Gs → Prop} (h : EvX K te ρ g (.t m) g') (hr : ∀ p, EvXA K tA ρ (g' ++ [(p, m)]) (P p)) : EvXA K (tCons te tA) ρ g fun es x => ∃ p l, es = .adr p :: l ∧ P p l x := fun S0 H0 S H σ st Q q =>
  h S0 H0 S H σ st _ fun v S1 H1 e1 z => by
    obtain ⟨p, ev, s1⟩ := z
    subst ev
    exact hr p S0 H0 S1 H1 σ s1 _ fun vs ds g2 S' H' e pp s2 r2 => q _ _ _ S' H' (e1.trans e) ⟨p, ds, rfl, pp⟩ s2 (.cons (.adr p) r2)
theorem Res.forget {x e : Gs} {v : V} (hp : List.Perm x (g' ++ e)) (z : Res K S0 H0 ρ x S H σ v r) : Res K S0 H0 ρ g' S H σ v r := by
  cases r with
  | d d => exact ⟨(z.1.perm hp).forget, z.2⟩
  | o es => exact SG.forget (SG.perm hp z)
  | t m =>
    obtain ⟨p, ev, s⟩ := z
    have hp2 : List.Perm (x ++ [(p, m)]) ((g' ++ [(p, m)]) ++ e) := by
      refine (hp.append_right _).trans ?_
      rw [List.append_assoc, List.append_assoc]
      exact (List.perm_append_comm).append_left _
    exact ⟨p, ev, (s.perm hp2).forget⟩
/-- a call with such arguments; what it leaves of new trees is forgotten -/
theorem ex_callA {Rel : List D → Gs → Rs → Gs → Prop} {P : List D → Gs → Prop} (ha : EvXA K tA ρ g P) (hr : ∀ ds x, P ds x → ∃ g1 g2 gq e, List.Perm x (g1 ++ g2) ∧ Rel ds g1 r gq ∧ List.Perm (g2 ++ gq) (g' ++ e)) : EvX K (tCall (spG K Rel) [] E tA) ρ g r g' := fun S0 H0 S H σ st0 Q q =>
  ha S0 H0 S H σ st0 _ fun vs ds x S1 H1 e1 pp s1 r1 => by
    obtain ⟨g1, g2, gq, ex, hp, rel, hq⟩ := hr ds x pp
    obtain ⟨fp, rg, st⟩ := s1.perm hp
    have o := rg.own
    rw [gv_app, gm_app] at o
    obtain ⟨fs, f2, e, o1, o2⟩ := o.split gv_len
    subst e
    have n := SG.noS st rg
    have hc : cov (cov H1 (fun _ => none) fs) H1 fs = H1 := funext fun a => by
      by_cases h : a ∈ fs
      · rw [cov_in h]
      · rw [cov_out h, cov_out h]
    refine ⟨S1, cov H1 (fun _ => none) fs, ds, g1, r, gq, ⟨fs, ⟨o1, (List.nodup_append.mp rg.nd).1, fun a ha => ⟨cov_in ha, n a (List.mem_append_left _ ha)⟩⟩, ?_⟩, by rw [List.append_nil]; exact r1, rel, fun v S2 H2 _ z => ?_⟩
    · rw [hc]
      exact (⟨Ext.refl st.ext.sub, ⟨rfl, fun i d h => by simp at h⟩, fun i ds h => by simp at h, fun i j a b p h => by simp at h⟩ : Stt K S1 H1 [] S1 H1 [])
    · obtain ⟨e, y⟩ := SG.ret st o1 o2 rg.nd rg.no z
      exact q v S2 H2 (e1.trans e) (Res.forget hq y)
def rowF (e : D → List D) (d : D) : M := .n .lst ((e d).map M.d)
/-- a list of new lists -/
theorem EvM.lc {wi : TI} {tg : TG} {vs : List Nat} (hi : EvI K wi ρ ds) (ps : D → List (Nat × D)) (e : D → List D) (hg : ∀ d ∈ ds, EvG K tg d (ps d)) (hs : ∀ d ∈ ds, ∀ p ∈ ps d, p.1 ∈ vs)
    (he : ∀ d ∈ ds, EvF K te (setR (wipeR ρ vs) (ps d)) (e d)) (hl : ds.length ≤ 50000) : EvM K (tLc wi tg tYes te vs) ρ (.n .lst (ds.map (rowF e))) := fun S H σ ee v Q q =>
  hi S H σ ee v _ fun J S1 H1 x1 wk => fun Dl hD => by
    refine ⟨fun i m H' => m = ds.length - i ∧ i ≤ ds.length ∧ ∃ S' as, Ext S1 H1 S' H' ∧ S' Dl = none ∧ H' Dl = some (.lst (as.map V.ref)) ∧ as.length = i ∧ OwnL K S' H' (as.map V.ref) ((ds.take i).map (rowF e)) as ∧ (Dl :: as).Nodup ∧ ∀ a ∈ as, H1 a = none ∧ S' a = none,
      ⟨ds.length, by simp, Nat.zero_le _, S1, [], Ext.hid x1.sub hD, sub_none x1.sub hD, upd_same, rfl, .nil, by simp, fun _ z => nomatch z⟩, ?_⟩
    rintro i m H' ⟨rfl, hi, S', as, x, nS, hus, hal, ow, nd, rows⟩
    by_cases hlt : i < ds.length
    · refine .inr ⟨wk.go S' H' i x.s x.sub hlt, fun H2 => ∃ S2 as2, Ext S1 H1 S2 H2 ∧ S2 Dl = none ∧ H2 Dl = some (.lst (as2.map V.ref)) ∧ as2.length = i + 1 ∧ OwnL K S2 H2 (as2.map V.ref) ((ds.take (i + 1)).map (rowF e)) as2 ∧ (Dl :: as2).Nodup ∧ ∀ a ∈ as2, H1 a = none ∧ S2 a = none, fun H2 z => ⟨ds.length - (i + 1), by omega, rfl, hlt, z⟩, fun xv H'' y => ?_⟩
      have hd : ds[i]? = some ds[i] := List.getElem?_eq_getElem hlt
      have hm : ds[i] ∈ ds := List.getElem_mem hlt
      obtain ⟨S2, x2, r2⟩ := wk.yld S' H' i xv H'' ds[i] x.s x.sub hd y
      have tk : ds.take (i + 1) = ds.take i ++ [ds[i]] := (List.take_append_getElem hlt).symm
      refine hg _ hm S2 H'' _ xv x2.sub r2 _ fun ws rws => ⟨?_, ?_⟩
      · rw [wipe_setV fun j hj => by
          obtain ⟨p, hp, rfl⟩ := List.mem_map.mp hj
          exact hs _ hm p hp, wipe_wipe]
      · have ev : Env K S2 (setV (L2.wipe σ vs) ((ps ds[i]).map (·.1)) ws) (setR (wipeR ρ vs) (ps ds[i])) := (((v.mono ((x1.s.trans x.s).trans x2.s)).wipe vs)).setV rws
        refine he _ hm S2 H'' _ x2.sub ev _ fun p us S4 H4 x4 hp sp h4 r4 => ?_
        have xx := x2.trans x4
        have hD4 : H4 Dl = some (.lst (as.map V.ref)) := xx.h _ _ hus
        have np : p ≠ Dl := fun z => by rw [z, x2.h _ _ hus] at hp; cases hp
        have lay : ∀ a ∈ as, H' a ≠ none := fun a ha => ow.lays a ha
        have same4 : ∀ a, H' a ≠ none → H4 a = H' a := fun a ha => by
          cases z : H' a with
          | none => exact absurd z ha
          | some o => exact xx.h a o z
        have npa : ∀ a ∈ as, a ≠ p := fun a ha z => by
          have l := lay a ha
          cases w : H' a with
          | none => exact l w
          | some o =>
            have := x2.h a o w
            rw [z, hp] at this
            cases this
        have h1p : H1 p = none := Evl.fresh_back (x.h.trans x2.h) hp
        have s4D : S4 Dl = none := xx.dis _ nS (by rw [hus]; exact fun z => nomatch z)
        have nDa : ∀ a ∈ as, a ≠ Dl := fun a ha z => (List.nodup_cons.mp nd).1 (z ▸ ha)
        have ul : (as.map V.ref).length ≤ ds.length := by rw [List.length_map]; omega
        refine ⟨as.map V.ref, hD4, Evl.sz_lt (by omega), S4, as ++ [p], ?_, s4D, ?_, by rw [List.length_append, hal]; rfl, ?_, ?_, fun a ha => ?_⟩
        · have yy := x.trans xx
          refine ⟨yy.s, fun a o ha => ?_, fun a o ha => ?_, yy.dis⟩
          · rw [upd_ne (ne_of_none ha hD)]
            exact yy.h a o ha
          · rw [upd_ne (fun z => by rw [z, s4D] at ha; cases ha)]
            exact yy.sub a o ha
        · rw [upd_same, List.map_append]
          rfl
        · rw [tk, List.map_append, List.map_append]
          refine OwnL.append (ow.mono xx.s fun a ha => ?_) ?_
          · rw [upd_ne (nDa a ha)]
            exact same4 a (lay a ha)
          · have z : OwnL K S4 (upd H4 Dl (.lst (as.map V.ref ++ [V.ref p]))) [.ref p] [rowF e ds[i]] ((p :: []) ++ []) := .cons (.n (by rw [upd_ne np]; exact h4) (show Shp.ho .lst (.lst us) us from rfl) (OwnL.ofD r4)) .nil
            exact z
        · have nd' := List.nodup_cons.mp nd
          refine List.nodup_cons.mpr ⟨fun z => ?_, List.nodup_append.mpr ⟨nd'.2, by simp, fun a ha b hb e => npa a ha (e.trans (List.mem_singleton.mp hb))⟩⟩
          rcases List.mem_append.mp z with z | z
          · exact nd'.1 z
          · exact np (List.mem_singleton.mp z).symm
        · rcases List.mem_append.mp ha with ha | ha
          · exact ⟨(rows a ha).1, xx.dis a (rows a ha).2 (lay a ha)⟩
          · rw [List.mem_singleton.mp ha]
            exact ⟨h1p, sp⟩
    · have e0 : i = ds.length := by omega
      subst e0
      rw [List.take_length] at ow
      refine .inl ⟨wk.stop S' H' x.s x.sub, ?_⟩
      have xx := x1.trans x
      refine q Dl (Dl :: as) S' H' xx (.n hus (show Shp.ho .lst _ _ from rfl) ow) nd fun a ha => ?_
      rcases List.mem_cons.mp ha with e | ha
      · rw [e]
        exact ⟨Evl.fresh_back x1.h hD, nS⟩
      · exact ⟨Evl.fresh_back x1.h (rows a ha).1, (rows a ha).2⟩
end
end Pl

/-! sorted of a list of numbers; what each joint holds, and the parts, as lists. -/
namespace Pl
open PySem PySem.Spec PyProof.Rows L2
open Evl (Ex)
theorem ok_sortedI {X : Cx} {K : PySem.W.Frag} (h : X.K = K) : CallR X (.builtin "sorted") (rSorted K) := by subst h; exact cr_sorted
theorem rc_sortedI {K : PySem.W.Frag} {ns ms : List Int} (h64 : ns.length < 64) (hs : ms.Pairwise (· ≤ ·)) (hp : ms.Perm ns) : RCF K (rSorted K) [.lst (ns.map D.int)] (ms.map D.int) := fun S H vs e r Q q => by
  cases r with
  | cons h t =>
    cases t
    cases h with
    | lst ha rl =>
      have z := rl.ints
      subst z
      refine ⟨_, ns, rfl, Evl.sq_of (e _ _ ha), h64, fun ks p h1 h2 hp2 => ?_⟩
      have em : ks = ms := (h1.trans hp.symm).eq_of_pairwise (fun a b _ _ h1 h2 => by omega) h2 hs
      subst em
      exact q p _ S _ (Ext.hid e hp2) hp2 (sub_none e hp2) upd_same (RdL.ofInts ks)
/-- two rising lists of the same numbers -/
theorem rise_eq {l m : List Nat} (h1 : l.Pairwise (· < ·)) (h2 : m.Pairwise (· < ·)) (h : ∀ x, x ∈ l ↔ x ∈ m) : l = m := by
  have n1 : l.Nodup := h1.imp fun h => by omega
  have n2 : m.Nodup := h2.imp fun h => by omega
  exact ((List.perm_ext_iff_of_nodup n1 n2).mpr h).eq_of_pairwise (fun a b _ _ x y => by omega) (h1.imp fun h => Nat.le_of_lt h) (h2.imp fun h => Nat.le_of_lt h)
theorem sortN_eq {l m : List Nat} (nd : l.Nodup) (hm : m.Pairwise (· < ·)) (h : ∀ x, x ∈ l ↔ x ∈ m) : sortN l = m :=
  rise_eq (sortN_lt nd) hm fun x => by rw [(sortN_perm l).mem_iff, h]
open Classical in
/-- the joints that a joint holds, and itself -/
noncomputable def heldL (n : Nat) (K : List Fr.Bar) (x : Nat) : List Nat := (List.range n).filter fun y => decide (y = x ∨ Fr.Spn n K x y)
open Classical in
theorem heldL_mem {n : Nat} {K : List Fr.Bar} {x y : Nat} : y ∈ heldL n K x ↔ y < n ∧ (y = x ∨ Fr.Spn n K x y) := by
  unfold heldL
  rw [List.mem_filter, List.mem_range, decide_eq_true_eq]
theorem heldL_rise (n : Nat) (K : List Fr.Bar) (x : Nat) : (heldL n K x).Pairwise (· < ·) := List.pairwise_lt_range.filter _
theorem heldL_len (n : Nat) (K : List Fr.Bar) (x : Nat) : (heldL n K x).length ≤ n := by
  unfold heldL
  exact Nat.le_trans (List.length_filter_le _ _) (by rw [List.length_range]; exact Nat.le_refl _)
/-- the joints of a part -/
noncomputable def partL (n : Nat) (K : List Fr.Bar) (p : Fr.Bar) : List Nat := (List.range n).filter (Fr.part n K p.1 p.2)
noncomputable def partsL (n : Nat) (nb : List Fr.Bar) : List (List Nat) := (Fr.ldrs n (Fr.pickB n [] nb)).map (partL n (Fr.pickB n [] nb))
theorem partL_mem {n : Nat} {K : List Fr.Bar} {p : Fr.Bar} {y : Nat} : y ∈ partL n K p ↔ y < n ∧ Fr.part n K p.1 p.2 y = true := by
  unfold partL
  rw [List.mem_filter, List.mem_range]
theorem partL_rise (n : Nat) (K : List Fr.Bar) (p : Fr.Bar) : (partL n K p).Pairwise (· < ·) := List.pairwise_lt_range.filter _
/-- as the text makes it: those that both hold -/
def bothL (n : Nat) (A B : List Nat) : List Nat := A.filter fun y => decide (y ∈ B)
theorem both_part {n : Nat} {K : List Fr.Bar} {a b : Nat} (hb : b ∈ heldL n K a) (ne : a ≠ b) (ha : a < n) : bothL n (heldL n K a) (heldL n K b) = partL n K (a, b) := by
  obtain ⟨hbn, h⟩ := heldL_mem.mp hb
  have h : Fr.Spn n K a b := h.elim (fun e => (ne e.symm).elim) id
  refine rise_eq ((heldL_rise _ _ _).filter _) (partL_rise _ _ _) fun x => ?_
  unfold bothL
  rw [List.mem_filter, decide_eq_true_eq, heldL_mem, heldL_mem, partL_mem, Fr.part_iff]
  constructor
  · rintro ⟨⟨hx, h1⟩, _, h2⟩
    refine ⟨hx, ?_⟩
    rcases h1 with rfl | h1
    · exact .inl rfl
    · rcases h2 with rfl | h2
      · exact .inr (.inl rfl)
      · exact .inr (.inr ⟨h1, h2⟩)
  · rintro ⟨hx, rfl | rfl | ⟨h1, h2⟩⟩
    · exact ⟨⟨hx, .inl rfl⟩, hx, .inr h.symm⟩
    · exact ⟨⟨hx, .inr h⟩, hx, .inl rfl⟩
    · exact ⟨⟨hx, .inr h1⟩, hx, .inr h2⟩
/-- the two first ones are these: they lead -/
theorem lead_first {n : Nat} {K : List Fr.Bar} {a b : Nat} (ha : a < n) (hb : b ∈ heldL n K a) : (bothL n (heldL n K a) (heldL n K b)).take 2 = [a, b] ↔ Fr.Ld n K a b := by
  have rise : (bothL n (heldL n K a) (heldL n K b)).Pairwise (· < ·) := (heldL_rise _ _ _).filter _
  constructor
  · intro h
    generalize hl : bothL n (heldL n K a) (heldL n K b) = l at h rise
    match l, h, rise, hl with
    | x :: y :: r, h, rise, hl =>
      have h : [x, y] = [a, b] := h
      injection h with e1 h
      injection h with e2 _
      subst e1
      subst e2
      obtain ⟨r1, r2⟩ := List.pairwise_cons.mp rise
      have lt := r1 y List.mem_cons_self
      obtain ⟨hbn, hs⟩ := heldL_mem.mp hb
      have hs : Fr.Spn n K x y := hs.elim (fun e => by omega) id
      refine ⟨lt, hbn, hs, fun c hc pc => ?_⟩
      have hm : c ∈ partL n K (x, y) := partL_mem.mpr ⟨hc, pc⟩
      rw [← both_part hb (by omega) ha, hl] at hm
      rcases List.mem_cons.mp hm with rfl | hm
      · exact .inl rfl
      · rcases List.mem_cons.mp hm with rfl | hm
        · exact .inr (Nat.le_refl _)
        · exact .inr (Nat.le_of_lt ((List.pairwise_cons.mp r2).1 c hm))
  · rintro ⟨lt, hbn, hs, hl⟩
    have e := both_part hb (by omega) ha
    have ma : a ∈ bothL n (heldL n K a) (heldL n K b) := by rw [e]; exact partL_mem.mpr ⟨ha, Fr.part_left⟩
    have mb : b ∈ bothL n (heldL n K a) (heldL n K b) := by rw [e]; exact partL_mem.mpr ⟨hbn, Fr.part_right⟩
    have all : ∀ c ∈ bothL n (heldL n K a) (heldL n K b), c = a ∨ b ≤ c := fun c hc => by
      rw [e] at hc
      obtain ⟨h1, h2⟩ := partL_mem.mp hc
      exact hl c h1 h2
    generalize bothL n (heldL n K a) (heldL n K b) = l at rise ma mb all
    match l, rise, ma, mb, all with
    | [], _, ma, _, _ => cases ma
    | [x], _, ma, mb, _ =>
      have := List.mem_singleton.mp ma
      have := List.mem_singleton.mp mb
      omega
    | x :: y :: r, rise, ma, mb, all =>
      obtain ⟨r1, r2⟩ := List.pairwise_cons.mp rise
      obtain ⟨r3, _⟩ := List.pairwise_cons.mp r2
      have lxy := r1 y List.mem_cons_self
      have ex : x = a := by
        rcases all x List.mem_cons_self with e | e
        · exact e
        · rcases List.mem_cons.mp ma with e2 | hm
          · exact e2.symm
          · have := r1 a hm
            omega
      have ey : y = b := by
        rcases all y (List.mem_cons_of_mem _ List.mem_cons_self) with e | e
        · omega
        · rcases List.mem_cons.mp mb with e2 | hm
          · omega
          · rcases List.mem_cons.mp hm with e3 | hm
            · exact e3.symm
            · have := r3 b hm
              omega
      subst ex
      subst ey
      rfl
open Classical in
/-- as the text finds them -/
theorem parts_walk (n : Nat) (K : List Fr.Bar) (a : Nat) : ((heldL n K a).filter fun b => decide (Fr.Ld n K a b)) = (List.range n).filter fun b => decide (Fr.Ld n K a b) := by
  refine rise_eq ((heldL_rise _ _ _).filter _) (List.pairwise_lt_range.filter _) fun x => ?_
  rw [List.mem_filter, List.mem_filter, decide_eq_true_eq, heldL_mem, List.mem_range]
  constructor
  · rintro ⟨⟨h1, _⟩, h2⟩
    exact ⟨h1, h2⟩
  · rintro ⟨h1, h2⟩
    exact ⟨⟨h1, .inr h2.2.2.1⟩, h2⟩
end Pl

/-! The knots that bars tie as they come in an order. -/
namespace Fr
def barAt (nb : List Bar) (i : Nat) : Bar := nb.getD i (0, 0)
def knotL (nb : List Bar) (ks : List Nat) (i : Nat) (laid : List Nat) : List Nat := (List.range nb.length).filter fun a => (decide ((barAt nb a).1 ∈ ks) && decide ((barAt nb a).2 ∈ ks)) && (decide (a = i) || decide (a ∈ laid))
def tiedL (nb : List Bar) : Cs → List Nat → List Nat → List (Nat × List Nat)
  | _, [], _ => []
  | cs, i :: r, laid => match (lay cs (barAt nb i).1 (barAt nb i).2).2 with
    | none => tiedL nb (lay cs (barAt nb i).1 (barAt nb i).2).1 r (laid ++ [i])
    | some ks => (i, knotL nb ks i laid) :: tiedL nb (lay cs (barAt nb i).1 (barAt nb i).2).1 r laid
theorem tiedL_nil (nb : List Bar) (cs : Cs) (laid : List Nat) : tiedL nb cs [] laid = [] := rfl
theorem tiedL_none {nb : List Bar} {cs : Cs} {i : Nat} {r laid : List Nat} (h : (lay cs (barAt nb i).1 (barAt nb i).2).2 = none) : tiedL nb cs (i :: r) laid = tiedL nb (lay cs (barAt nb i).1 (barAt nb i).2).1 r (laid ++ [i]) := by
  conv => lhs; unfold tiedL
  rw [h]
theorem tiedL_some {nb : List Bar} {cs : Cs} {i : Nat} {r laid ks : List Nat} (h : (lay cs (barAt nb i).1 (barAt nb i).2).2 = some ks) : tiedL nb cs (i :: r) laid = (i, knotL nb ks i laid) :: tiedL nb (lay cs (barAt nb i).1 (barAt nb i).2).1 r laid := by
  conv => lhs; unfold tiedL
  rw [h]
theorem barAt_mem {nb : List Bar} {i : Nat} (h : i < nb.length) : barAt nb i ∈ nb := getD_mem h
theorem barAt_ok {n : Nat} {nb : List Bar} (ok : Ok n nb) {l : List Nat} (h : ∀ i ∈ l, i < nb.length) : Ok n (l.map (barAt nb)) := fun b hb => by
  obtain ⟨i, hi, rfl⟩ := List.mem_map.mp hb
  exact ok _ (barAt_mem (h i hi))
/-- what a knot is told by -/
def Told (n : Nat) (nb : List Bar) (lj : List Nat) (i : Nat) (l : List Nat) : Prop := ∃ T : JS, Tight n (lj.map (barAt nb)) T ∧ T (barAt nb i).1 = true ∧ T (barAt nb i).2 = true ∧
  (∀ S, Tight n (lj.map (barAt nb)) S → S (barAt nb i).1 = true → S (barAt nb i).2 = true → ∀ k, k < n → T k = true → S k = true) ∧ ∀ a, a ∈ l ↔ a < nb.length ∧ (T (barAt nb a).1 = true ∧ T (barAt nb a).2 = true) ∧ (a = i ∨ a ∈ lj)
theorem tied_all {n : Nat} {nb : List Bar} (ok : Ok n nb) : ∀ (os laid : List Nat) (cs : Cs), (∀ i ∈ os, i < nb.length) → (∀ i ∈ laid, i < nb.length) → (laid ++ os).Nodup → Fits n cs (laid.map (barAt nb)) → Slim n (laid.map (barAt nb)) →
    ∃ F, F.Sublist (laid ++ os) ∧ laid.Sublist F ∧ Slim n (F.map (barAt nb)) ∧ (∀ j ∈ os, j ∈ F ∨ ∃ p ∈ tiedL nb cs os laid, p.1 = j) ∧
      ∀ p ∈ tiedL nb cs os laid, p.1 ∈ os ∧ p.1 ∉ F ∧ ∃ lj, lj.Sublist F ∧ (∃ pre post, os = pre ++ p.1 :: post ∧ ∀ a ∈ lj, a ∈ laid ∨ a ∈ pre) ∧ Told n nb lj p.1 p.2
  | [], laid, cs, _, _, _, _, sl => ⟨laid, by rw [List.append_nil]; exact .refl _, .refl _, sl, (fun j h => (nomatch h)), (fun p h => (nomatch h))⟩
  | i :: r, laid, cs, ho, hl, nd, ft, sl => by
    have o := ok _ (barAt_mem (ho i List.mem_cons_self))
    have okl := barAt_ok ok hl
    have hor : ∀ j ∈ r, j < nb.length := fun j hj => ho j (List.mem_cons_of_mem _ hj)
    have hs := lay_slim (b := barAt nb i) ft okl sl o
    have hbl := btw_lay cs (barAt nb i).1 (barAt nb i).2
    unfold tiedL
    cases hy : (lay cs (barAt nb i).1 (barAt nb i).2).2 with
    | none =>
      obtain ⟨f1, f2⟩ := lay_yes ft okl sl o.1 o.2.1 o.2.2 (Prod.ext rfl hy : lay cs (barAt nb i).1 (barAt nb i).2 = ((lay cs (barAt nb i).1 (barAt nb i).2).1, none))
      have e : (laid ++ [i]).map (barAt nb) = laid.map (barAt nb) ++ [barAt nb i] := by rw [List.map_append]; rfl
      have el : (laid ++ [i]) ++ r = laid ++ i :: r := by simp
      obtain ⟨F, h1, h2, h3, h4, h5⟩ := tied_all ok r (laid ++ [i]) _ hor (fun j hj => by
        rcases List.mem_append.mp hj with hj | hj
        · exact hl j hj
        · rw [List.mem_singleton.mp hj]; exact ho i List.mem_cons_self) (by rw [el]; exact nd) (by rw [e]; exact f1) (by rw [e]; exact f2)
      rw [el] at h1
      refine ⟨F, h1, (List.sublist_append_left _ _).trans h2, h3, fun j hj => ?_, fun p hp => ?_⟩
      · rcases List.mem_cons.mp hj with rfl | hj
        · exact .inl (h2.subset (List.mem_append_right _ (List.mem_singleton.mpr rfl)))
        · exact h4 j hj
      · obtain ⟨g1, g2, lj, g3, ⟨pre, post, g4, g5⟩, g6⟩ := h5 p hp
        refine ⟨List.mem_cons_of_mem _ g1, g2, lj, g3, ⟨i :: pre, post, by rw [g4]; rfl, fun a ha => ?_⟩, g6⟩
        rcases g5 a ha with g | g
        · rcases List.mem_append.mp g with g | g
          · exact .inl g
          · rw [List.mem_singleton.mp g]; exact .inr List.mem_cons_self
        · exact .inr (List.mem_cons_of_mem _ g)
    | some ks =>
      have f1 := lay_fits_no ft o.1 o.2.1 hy
      have nd2 : (laid ++ r).Nodup := nd.sublist ((List.sublist_cons_self i r).append_left laid)
      obtain ⟨F, h1, h2, h3, h4, h5⟩ := tied_all ok r laid _ hor hl nd2 f1 sl
      have hb : (btw cs (barAt nb i).1 (barAt nb i).2).2 = some ks := by
        cases q : (btw cs (barAt nb i).1 (barAt nb i).2).2 with
        | none => rw [hbl.mp q] at hy; cases hy
        | some kk => rw [lay_some q] at hy; exact hy
      obtain ⟨knd, klow, m1, m2, tk, mn⟩ := btw_min ft sl o.1 o.2.1 o.2.2 hb
      have ni : i ∉ laid ++ r := fun z => by
        have q : (laid ++ i :: r).Perm (i :: (laid ++ r)) := List.perm_middle
        exact (List.nodup_cons.mp (q.nodup_iff.mp nd)).1 z
      refine ⟨F, h1.trans ((List.sublist_cons_self i r).append_left laid), h2, h3, fun j hj => ?_, fun p hp => ?_⟩
      · rcases List.mem_cons.mp hj with rfl | hj
        · exact .inr ⟨_, List.mem_cons_self, rfl⟩
        · rcases h4 j hj with h | ⟨p, hp, e⟩
          · exact .inl h
          · exact .inr ⟨p, List.mem_cons_of_mem _ hp, e⟩
      · rcases List.mem_cons.mp hp with rfl | hp
        · refine ⟨List.mem_cons_self, fun z => ni (h1.subset z), laid, h2, ⟨[], r, rfl, fun a ha => .inl ha⟩, inL ks, tk, decide_eq_true m1, decide_eq_true m2, fun S tS s1 s2 k _ hk => mn S tS s1 s2 k (of_decide_eq_true hk), fun a => ?_⟩
          show a ∈ knotL nb ks i laid ↔ _
          unfold knotL inL
          rw [List.mem_filter, List.mem_range]
          simp only [Bool.and_eq_true, Bool.or_eq_true, decide_eq_true_eq]
        · obtain ⟨g1, g2, lj, g3, ⟨pre, post, g4, g5⟩, g6⟩ := h5 p hp
          exact ⟨List.mem_cons_of_mem _ g1, g2, lj, g3, ⟨i :: pre, post, by rw [g4]; rfl, fun a ha => (g5 a ha).imp id (List.mem_cons_of_mem _)⟩, g6⟩
section
variable {n : Nat} {nb : List Bar}
theorem basis_all {K : List Bar} (sl : Slim n K) : pickB n [] K = K := (pickN_all K [] 0 (by simpa using sl)).2
/-- what lean ones of the bars hold, the bars hold -/
theorem spn_hld {K bs : List Bar} (okK : Ok n K) (sl : Slim n K) (okb : Ok n bs) (h : ∀ x ∈ K, x ∈ bs) {a b : Nat} (ha : a < n) (hb : b < n) (ne : a ≠ b) (q : Spn n K a b) : Hld n bs a b :=
  hld_le okK okb (fun x hx => hld_bar okb (h x hx)) ha hb ne (by unfold Hld; rw [basis_all sl]; exact q)
theorem erase_mem {i j : Nat} (hj : j < nb.length) (ne : j ≠ i) : barAt nb j ∈ nb.eraseIdx i :=
  List.mem_eraseIdx_iff_getElem.mpr ⟨j, hj, ne, by unfold barAt; simp [List.getD, hj]⟩
theorem barAt_get {i : Nat} (h : i < nb.length) : barAt nb i = nb[i] := by unfold barAt; simp [List.getD, h]
/-- the bars of an order: those that some knot has are those that others hold -/
theorem tied_iff (ok : Ok n nb) {os : List Nat} (hp : os.Perm (List.range nb.length)) {i : Nat} (hi : i < nb.length) :
    ((∃ p ∈ tiedL nb (List.replicate n []) os [], i ∈ p.2) ↔ Hld n (nb.eraseIdx i) (barAt nb i).1 (barAt nb i).2) ∧
    (∀ p ∈ tiedL nb (List.replicate n []) os [], p.1 < nb.length ∧ Hld n (nb.eraseIdx p.1) (barAt nb p.1).1 (barAt nb p.1).2 ∧ p.1 ∈ p.2 ∧ ∃ lj, (∀ a ∈ lj, a < nb.length) ∧ lj.Nodup ∧ Slim n (lj.map (barAt nb)) ∧ p.1 ∉ lj ∧ Told n nb lj p.1 p.2 ∧ ∃ pre post, os = pre ++ p.1 :: post ∧ ∀ a ∈ lj, a ∈ pre) := by
  have ho : ∀ j ∈ os, j < nb.length := fun j hj => List.mem_range.mp (hp.mem_iff.mp hj)
  have ndo : os.Nodup := hp.nodup_iff.mpr List.nodup_range
  obtain ⟨F, h1, h2, h3, h4, h5⟩ := tied_all ok os [] (List.replicate n []) ho (fun _ h => nomatch h) (by simpa using ndo) (Pl.fits_bare n) (Pl.slim_nil n)
  rw [List.nil_append] at h1
  have ndF : F.Nodup := ndo.sublist h1
  have hF : ∀ j ∈ F, j < nb.length := fun j hj => ho j (h1.subset hj)
  have key : ∀ p ∈ tiedL nb (List.replicate n []) os [], p.1 < nb.length ∧ Hld n (nb.eraseIdx p.1) (barAt nb p.1).1 (barAt nb p.1).2 ∧ p.1 ∈ p.2 ∧ ∃ lj, (∀ a ∈ lj, a < nb.length) ∧ lj.Nodup ∧ Slim n (lj.map (barAt nb)) ∧ p.1 ∉ lj ∧ Told n nb lj p.1 p.2 ∧ ∃ pre post, os = pre ++ p.1 :: post ∧ ∀ a ∈ lj, a ∈ pre := fun p hpm => by
    obtain ⟨g1, g2, lj, g3, ⟨pre, post, g4, g5⟩, g6⟩ := h5 p hpm
    have hlj : ∀ a ∈ lj, a < nb.length := fun a ha => hF a (g3.subset ha)
    have slj : Slim n (lj.map (barAt nb)) := h3.sub (g3.map _)
    have npj : p.1 ∉ lj := fun z => g2 (g3.subset z)
    obtain ⟨T, t1, t2, t3, t4, t5⟩ := id g6
    have o := ok _ (barAt_mem (ho _ g1))
    refine ⟨ho _ g1, spn_hld (barAt_ok ok hlj) slj (ok.sub (List.eraseIdx_sublist _ _)) (fun x hx => ?_) o.1 o.2.1 o.2.2 ⟨T, t1, t2, t3⟩, (t5 p.1).mpr ⟨ho _ g1, ⟨t2, t3⟩, .inl rfl⟩, lj, hlj, ndF.sublist g3, slj, npj, g6, pre, post, g4, fun a ha => (g5 a ha).elim (fun z => nomatch z) id⟩
    obtain ⟨a, ha, rfl⟩ := List.mem_map.mp hx
    exact erase_mem (hlj a ha) fun e => npj (e ▸ ha)
  refine ⟨⟨?_, fun hh => ?_⟩, key⟩
  · rintro ⟨p, hpm, hip⟩
    obtain ⟨k1, k2, _, lj, k3, knd, k4, k5, ⟨T, t1, t2, t3, t4, t5⟩, _⟩ := key p hpm
    obtain ⟨q1, ⟨q2, q3⟩, q4⟩ := (t5 i).mp hip
    rcases q4 with rfl | q4
    · exact k2
    · -- the bar at i changes with that at p.1
      have okl := barAt_ok ok k3
      have pe : (lj.map (barAt nb)).Perm (barAt nb i :: (lj.erase i).map (barAt nb)) := (List.perm_cons_erase q4).map _
      have ie : ∀ S, ins (lj.map (barAt nb)) S = ins ((lj.erase i).map (barAt nb)) S + (S (barAt nb i).1 && S (barAt nb i).2).toNat := fun S => by rw [ins_perm pe, ins_cons]
      have sle : Slim n ((lj.erase i).map (barAt nb)) := k4.sub ((List.erase_sublist).map _)
      have op := ok _ (barAt_mem k1)
      have oi := ok _ (barAt_mem q1)
      have sl2 : Slim n ((lj.erase i).map (barAt nb) ++ [barAt nb p.1]) := (slim_snoc sle op.1 op.2.1 op.2.2).mpr fun ⟨S, tS, s1, s2⟩ => by
        have tS2 : Tight n (lj.map (barAt nb)) S := tS.mono (by rw [ie]; exact Nat.le_add_right _ _) k4
        have z := ie S
        rw [t4 S tS2 s1 s2 _ oi.1 q2, t4 S tS2 s1 s2 _ oi.2.1 q3] at z
        have := tS.2
        have := tS2.2
        simp at z
        omega
      refine spn_hld (K := (lj.erase i).map (barAt nb) ++ [barAt nb p.1]) ((barAt_ok ok fun a ha => k3 a (List.mem_of_mem_erase ha)).app fun c hc => by rw [List.mem_singleton.mp hc]; exact op) sl2 (ok.sub (List.eraseIdx_sublist _ _)) (fun x hx => ?_) oi.1 oi.2.1 oi.2.2 ⟨T, ⟨t1.1, ?_⟩, q2, q3⟩
      · rcases List.mem_append.mp hx with hx | hx
        · obtain ⟨a, ha, rfl⟩ := List.mem_map.mp hx
          exact erase_mem (k3 a (List.mem_of_mem_erase ha)) ((List.Nodup.mem_erase_iff knd).mp ha).1
        · rw [List.mem_singleton.mp hx]
          exact erase_mem k1 fun e => k5 (e ▸ q4)
      · have z := ie T
        rw [q2, q3] at z
        have a := ins_append ((lj.erase i).map (barAt nb)) (barAt nb p.1) T
        rw [t2, t3, Bool.and_self, if_pos rfl] at a
        have := t1.2
        simp at z
        omega
  · by_cases hno : ∃ p ∈ tiedL nb (List.replicate n []) os [], i ∈ p.2
    · exact hno
    · exfalso
      have him : i ∈ os := hp.mem_iff.mpr (List.mem_range.mpr hi)
      have hiF : i ∈ F := by
        rcases h4 i him with h | ⟨p, hpm, e⟩
        · exact h
        · exact (hno ⟨p, hpm, by rw [← e]; exact (key p hpm).2.2.1⟩).elim
      have okF := barAt_ok ok hF
      have okE := barAt_ok ok fun a (ha : a ∈ F.erase i) => hF a (List.mem_of_mem_erase ha)
      have slE : Slim n ((F.erase i).map (barAt nb)) := h3.sub ((List.erase_sublist).map _)
      have oke : Ok n (nb.eraseIdx i) := ok.sub (List.eraseIdx_sublist _ _)
      have all : ∀ j, j < nb.length → j ≠ i → Spn n ((F.erase i).map (barAt nb)) (barAt nb j).1 (barAt nb j).2 := fun j hj ne => by
        rcases h4 j (hp.mem_iff.mpr (List.mem_range.mpr hj)) with h | ⟨p, hpm, e⟩
        · exact bar_spn okE slE (List.mem_map.mpr ⟨j, (List.mem_erase_of_ne ne).mpr h, rfl⟩)
        · subst e
          obtain ⟨_, _, lj, g3, _, T, t1, t2, t3, t4, t5⟩ := h5 p hpm
          have nin : ¬ i ∈ p.2 := fun z => hno ⟨p, hpm, z⟩
          refine ⟨T, t1.mono ?_ slE, t2, t3⟩
          by_cases q : i ∈ lj
          · have ni : ¬ (T (barAt nb i).1 = true ∧ T (barAt nb i).2 = true) := fun z => nin ((t5 i).mpr ⟨hi, z, .inr q⟩)
            have pe : (lj.map (barAt nb)).Perm (barAt nb i :: (lj.erase i).map (barAt nb)) := (List.perm_cons_erase q).map _
            rw [ins_perm pe, ins_cons]
            have e0 : (T (barAt nb i).1 && T (barAt nb i).2).toNat = 0 := by
              cases z1 : T (barAt nb i).1 <;> cases z2 : T (barAt nb i).2 <;> first | rfl | exact (ni ⟨z1, z2⟩).elim
            rw [e0]
            exact ins_sub ((List.Sublist.erase i g3).map _) T
          · have e1 : lj = lj.erase i := (List.erase_of_not_mem q).symm
            rw [e1]
            exact ins_sub ((List.Sublist.erase i g3).map _) T
      have r1 : rk n (nb.eraseIdx i) ≤ ((F.erase i).map (barAt nb)).length := span_le okE slE (basis_ok oke) (basis_slim n _) fun x hx => by
        have hx2 := (pickB_sub _ []).subset hx
        obtain ⟨j, hj, ne, e⟩ := List.mem_eraseIdx_iff_getElem.mp hx2
        rw [← e, ← barAt_get hj]
        exact all j hj ne
      have r2 : (F.map (barAt nb)).length ≤ rk n nb := rk_max ok okF h3 fun x hx => by
        obtain ⟨j, hj, rfl⟩ := List.mem_map.mp hx
        exact hld_bar ok (barAt_mem (hF j hj))
      have r3 := ((rk_less ok hi).1 (by rw [← barAt_get hi]; exact hh)).1
      rw [List.length_map, List.length_erase_of_mem hiF] at r1
      rw [List.length_map] at r2
      have : 0 < F.length := List.length_pos_of_mem hiF
      omega
/-- the last one of an order is tied just where the others hold it -/
theorem tied_last (ok : Ok n nb) {os : List Nat} {i : Nat} (hp : (os ++ [i]).Perm (List.range nb.length)) (hi : i < nb.length) :
    (∃ p ∈ tiedL nb (List.replicate n []) (os ++ [i]) [], p.1 = i) ↔ Hld n (nb.eraseIdx i) (barAt nb i).1 (barAt nb i).2 := by
  obtain ⟨h1, h2⟩ := tied_iff ok hp hi
  constructor
  · rintro ⟨p, hpm, rfl⟩
    exact (h2 p hpm).2.1
  · intro h
    obtain ⟨p, hpm, hip⟩ := h1.mpr h
    refine ⟨p, hpm, ?_⟩
    obtain ⟨_, _, _, lj, _, _, _, _, ⟨T, _, _, _, _, t5⟩, pre, post, e, hpre⟩ := h2 p hpm
    rcases ((t5 i).mp hip).2.2 with q | q
    · exact q.symm
    · exfalso
      have nd : (os ++ [i]).Nodup := hp.nodup_iff.mpr List.nodup_range
      have hpi := hpre i q
      rcases List.eq_nil_or_concat post with rfl | ⟨post', x, rfl⟩
      · have := List.append_inj' e rfl
        have e2 : i = p.1 := by simpa using this.2
        have : os = pre := this.1
        subst this
        exact (List.nodup_append.mp nd).2.2 i hpi i (List.mem_singleton.mpr rfl) rfl
      · have e' : os ++ [i] = (pre ++ p.1 :: post') ++ [x] := by rw [e]; simp
        have := List.append_inj' e' rfl
        have e1 := this.1
        have : i ∈ os := by rw [e1]; exact List.mem_append_left _ hpi
        exact (List.nodup_append.mp nd).2.2 i this i (List.mem_singleton.mpr rfl) rfl
end
end Fr

/-! Dicts of the region: their values, d.get(k) of a new one, a key's new value that is looked up. -/
namespace Pl
open PySem PySem.Spec PyProof.Rows L2
open Evl (Ex)
section
variable {K : PySem.W.Frag} {S0 H0 S H S' H' : Hp} {σ : L2.St} {ρ ρ' ρ1 ρv : Rho} {g g' g1 g2 gl gr : Gs} {F G : FM} {t u : TS} {te ti td tx tk tv ty : TE} {tA : TA} {c : TT} {d : D} {es ds : List D} {ms : List M} {m m1 m2 : M} {a : Addr} {π : List Nat} {Dd : Ends} {i j : Nat} {b : Bool} {r : Rs} {E : XK} {s : Shp}
theorem ei_vals {ks : List L2.Key} (h : EvD K td ρ (.fv ks ds)) : EvI K (iVals td) ρ ds := fun S H σ e v R q =>
  h S H σ e v _ fun w S1 H1 x1 r1 => by
    cases r1 with
    | fv ha hl rl =>
      rename_i p o xs
      have hz : (ks.zip xs).length = ds.length := by rw [List.length_zip, hl, Nat.min_self, rl.length]
      refine ⟨p, o, ks.zip xs, rfl, x1.sub _ _ ha, q _ S1 H1 x1 ⟨fun S' H' i e1 e2 hi => ⟨e2 _ _ (e1 _ _ ha), by rw [hz]; exact hi⟩, fun S' H' i x H'' d e1 e2 hd y => ?_, fun S' H' e1 e2 => ⟨e2 _ _ (e1 _ _ ha), by rw [hz]; exact Nat.le_refl _⟩⟩⟩
      obtain ⟨rfl, k, h1⟩ := y
      obtain ⟨u, hu, ru⟩ := rl.get hd
      have z := congrArg (Option.map Prod.snd) h1
      rw [← List.getElem?_map] at z
      have hs : (ks.zip xs).map Prod.snd = xs := List.map_snd_zip (by rw [hl]; exact Nat.le_refl _)
      rw [hs, hu] at z
      have z : some u = some x := z
      cases z
      exact ⟨S', Ext.refl e2, ru.mono e1⟩
/-- a fresh list from the values of a dict of the region -/
theorem EvX.vals {p : Addr} {ns : List Int} (hp : List.Perm g (g1 ++ [(p, .n (.dic (ik ns)) (ds.map M.d))])) (hi : ρ[i]? = some (.k (.adr p))) (hv : View g1 ρ ρv) (h : EvF K te (ρv.set i (.k (.fv (ik ns) ds))) es) (hf : ∀ d ∈ es, d.flat = true) : EvX K (tLockE te) ρ g (.o es) g := fun S0 H0 S H σ st Q q => by
  obtain ⟨S2, e1, e2, ev, sp⟩ := st.look1 (m := .d .non) hp hv
  obtain ⟨fp, rg, s0⟩ := id st
  obtain ⟨f, hfp, o⟩ := rg.own.mem (a := p) (m := .n (.dic (ik ns)) (ds.map M.d)) (hp.mem_iff.mpr (by simp))
  cases o with
  | n h1 h2 h3 =>
    rename_i ho vs fq
    obtain ⟨hl, eo⟩ := h2
    subst eo
    obtain ⟨v0, g1', g2'⟩ := st.env.val i _ hi
    cases g2'
    refine ⟨p, _, h1, trivial, fun od => ?_⟩
    have ex3 : Ex S2 (upd S2 p (.frz od (.dK ((ik ns).zip vs)))) := Ex.new sp
    have sub3 : Ex (upd S2 p (.frz od (.dK ((ik ns).zip vs)))) (upd H p (.frz od (.dK ((ik ns).zip vs)))) := fun a o e => by
      by_cases ha : a = p
      · subst ha; rw [upd_same] at e ⊢; exact e
      · rw [upd_ne ha] at e ⊢; exact e2 a o e
    have ev3 : Env K (upd S2 p (.frz od (.dK ((ik ns).zip vs)))) σ (ρv.set i (.k (.fv (ik ns) ds))) := by
      have z := (ev.mono ex3).set (i := i) (d := .fv (ik ns) ds) (v := .ref p) (.fv upd_same hl ((h3.toD.2.mono e1).mono ex3))
      rw [show σ.set i (some (.ref p)) = σ from List.ext_getElem? fun q => by
        by_cases hq : i = q
        · subst hq
          by_cases hl : i < σ.length
          · rw [List.getElem?_set_self hl, g1']
          · rw [List.getElem?_eq_none (by rw [List.length_set]; omega), List.getElem?_eq_none (by omega)]
        · rw [List.getElem?_set_ne hq]] at z
      exact z
    refine h _ _ σ sub3 ev3 _ fun q2 ws S4 H4 x hq2 sq h4 rl => ?_
    have e4 : H4 p = some (.frz od (.dK ((ik ns).zip vs))) := x.h p _ upd_same
    refine ⟨e4, ?_⟩
    have nq : q2 ≠ p := fun z => by rw [z, upd_same] at hq2; cases hq2
    have hq0 : H q2 = none := by rw [upd_ne nq] at hq2; exact hq2
    have h4' : (upd H4 p (.dK ((ik ns).zip vs))) q2 = some (.lst ws) := by rw [upd_ne nq]; exact h4
    have S5 : ∃ S5 : Hp, Ex S S5 ∧ Ex S5 (upd H4 p (.dK ((ik ns).zip vs))) ∧ S5 q2 = none := by
      refine ⟨fun a => if a = p then none else S4 a, fun a o e => ?_, fun a o e => ?_, ?_⟩
      · have ha : a ≠ p := fun z => by subst z; rw [e1 _ _ e] at sp; cases sp
        show (if a = p then none else S4 a) = some o
        rw [if_neg ha]
        exact x.s a o (ex3 a o (e1 a o e))
      · by_cases ha : a = p
        · have e : (if a = p then none else S4 a) = some o := e
          rw [if_pos ha] at e; cases e
        · have e : (if a = p then none else S4 a) = some o := e
          rw [if_neg ha] at e
          rw [upd_ne ha]
          exact x.sub a o e
      · show (if q2 = p then none else S4 q2) = none
        rw [if_neg nq]
        exact sq
    obtain ⟨S5, a1, a2, a3⟩ := S5
    have eH : Ex H (upd H4 p (.dK ((ik ns).zip vs))) := fun a o e => by
      by_cases ha : a = p
      · subst ha; rw [upd_same, ← h1]; exact e
      · rw [upd_ne ha]
        exact x.h a o (by rw [upd_ne ha]; exact e)
    have xx := ext_woH a1 eH a2
    obtain ⟨rg', s'⟩ := rg.go s0 xx
    exact q _ _ _ xx.s (SG.besideF rg s0 hq0 rg' s' (woH_none a3) h4' (rl.flat hf))
/-- d.get(k) of a new dict -/
theorem EvX.dget1 {ns : List Int} {k : Int} (h : EvX K td ρ g (.t (.n (.dic (ik ns)) (ds.map M.d))) g') (hk : EvD K ty ρ (.int k)) (hd : (∃ j, ns[j]? = some k ∧ (∀ q : Nat, q < j → ns[q]? ≠ some k) ∧ ds[j]? = some d) ∨ (k ∉ ns ∧ d = .non)) : EvX K (tDGet1 td ty) ρ g (.d d) g' := fun S0 H0 S H σ st Q q =>
  h S0 H0 S H σ st _ fun v S1 H1 e z => by
    obtain ⟨p, ev, st1⟩ := z
    subst ev
    obtain ⟨fp, rg, s1⟩ := id st1
    obtain ⟨f, hf, o⟩ := rg.own.mem (a := p) (m := .n (.dic (ik ns)) (ds.map M.d)) (by simp)
    cases o with
    | n h1 h2 h3 =>
      rename_i ho vs fq
      obtain ⟨hl, eo⟩ := h2
      subst eo
      obtain ⟨_, rl⟩ := h3.toD
      have hl2 : ns.length = vs.length := by rw [← hl]; exact (List.length_map _).symm
      refine ⟨p, rfl, .inl ⟨_, .inl h1⟩, hk S1 H1 σ st1.sub st1.env _ fun w S2 H2 x2 r2 => ?_⟩
      cases r2
      have st2 := (SG.forget st1).go x2
      rcases hd with ⟨j, k1, k2, k3⟩ | ⟨k1, rfl⟩
      · obtain ⟨y, hy, ry⟩ := rl.get k3
        refine ⟨some y, .inl ⟨_, .inl k, .inl (x2.h _ _ h1), rfl, ?_⟩, q y S2 H2 (e.trans x2.s) ⟨st2, ry.mono x2.s⟩⟩
        rw [valV_zip hl2 k1 k2, hy]
      · exact ⟨none, .inl ⟨_, .inl k, .inl (x2.h _ _ h1), rfl, (valV_out hl2 k1).symm⟩, q .non S2 H2 (e.trans x2.s) ⟨st2, .non⟩⟩
/-- d[k] = v of a new key, v looked up -/
theorem TM.dputX {ns : List Int} {k : Int} (hv : EvX K tv ρ g (.d d) g) (hp : EvP K td ρ g a m π) (hk : EvD K ty ρ (.int k)) (hg : g = gl ++ (a, m) :: gr) (hat : M.at π m = some (.n (.dic (ik ns)) (ds.map M.d))) (hn : k ∉ ns) (hl : ns.length < 100000)
    (kk : F.nx ρ (gl ++ (a, M.put (.n (.dic (ik (ns ++ [k]))) ((ds ++ [d]).map M.d)) π m) :: gr)) : TM K (sDPut td ty tv) ρ g F := fun S0 H0 S H σ Dd st ac =>
  hv S0 H0 S H σ st _ fun v S1 H1 ex1 z => by
    obtain ⟨st1, r1⟩ := z
    refine hp S0 H0 S1 H1 σ st1 _ fun u S2 H2 x2 l => ?_
    have st2 := st1.go x2
    refine hk S2 H2 σ st2.sub st2.env _ fun w S3 H3 x3 r3 => ?_
    cases r3
    have st3 := st2.go x3
    obtain ⟨p, o, vs, fq, e1, e2, _, e3, e4, e5, wr⟩ := st3.write hg (l.mono x3.h) hat
    obtain ⟨e6, e7⟩ := e4.toD
    obtain ⟨e8, e9⟩ := e3
    subst e1
    subst e9
    subst e6
    have hl2 : ns.length = vs.length := by rw [← e8]; exact (List.length_map _).symm
    refine ⟨p, _, rfl, .inl ⟨_, .inl k, e2, rfl, Evl.sz_lt (by rw [List.length_zip]; unfold ik; rw [List.length_map]; omega), rfl⟩, ?_⟩
    refine ac.nx _ _ S3 _ σ kk ((ex1.trans x2.s).trans x3.s) (wr _ (.dic (ik (ns ++ [k]))) (vs ++ [v]) _ [] ⟨?_, ?_⟩ (OwnL.ofD (e7.append (.cons (r1.mono (x2.s.trans x3.s)) .nil))) (List.Sublist.refl _))
    · unfold ik
      rw [List.length_map, List.length_append, List.length_append, hl2]
      rfl
    · rw [putK_new v (valV_out hl2 hn)]
      unfold ik
      rw [List.map_append, List.zip_append (by rw [List.length_map]; exact hl2)]
      rfl
theorem em_dnew : EvM K tDNewK ρ (.n (.dic []) []) := fun S H σ e v Q q => fun p hp =>
  q p [p] S _ (Ext.hid e hp) (.n (o := .dK []) (vs := []) (fp := []) upd_same ⟨rfl, rfl⟩ .nil) (by simp) fun a ha => by
    rw [List.mem_singleton.mp ha]
    exact ⟨hp, sub_none e hp⟩
end
theorem nD_kI (l : List Nat) : nD l = (kI l).map D.int := by unfold nD kI; rw [List.map_map]; rfl
theorem nD_len (l : List Nat) : (nD l).length = l.length := by unfold nD; rw [List.length_map]
def tiedM (l : List (Nat × List Nat)) : M := .n (.dic (ik (kI (l.map (·.1))))) ((l.map fun p => D.lst (nD p.2)).map M.d)
open Classical in
/-- the bars that are too many -/
noncomputable def manyL (n : Nat) (nb : List Fr.Bar) : List Nat := (List.range nb.length).filter fun i => decide (Fr.Hld n (nb.eraseIdx i) (Fr.barAt nb i).1 (Fr.barAt nb i).2)
open Classical in
theorem manyL_mem {n : Nat} {nb : List Fr.Bar} {i : Nat} : i ∈ manyL n nb ↔ i < nb.length ∧ Fr.Hld n (nb.eraseIdx i) (Fr.barAt nb i).1 (Fr.barAt nb i).2 := by
  unfold manyL
  rw [List.mem_filter, List.mem_range, decide_eq_true_eq]
theorem manyL_rise (n : Nat) (nb : List Fr.Bar) : (manyL n nb).Pairwise (· < ·) := List.pairwise_lt_range.filter _
theorem manyL_len (n : Nat) (nb : List Fr.Bar) : (manyL n nb).length ≤ nb.length := by
  unfold manyL
  exact Nat.le_trans (List.length_filter_le _ _) (by rw [List.length_range]; exact Nat.le_refl _)
def orderBut (m i : Nat) : List Nat := (List.range m).filter (fun a => !decide (a = i)) ++ [i]
theorem orderBut_perm {m i : Nat} (h : i < m) : (orderBut m i).Perm (List.range m) := by
  unfold orderBut
  have nd : ((List.range m).filter (fun a => !decide (a = i)) ++ [i]).Nodup := List.nodup_append.mpr ⟨List.nodup_range.filter _, by simp, fun a ha b hb e => by
    rw [List.mem_singleton.mp hb] at e
    subst e
    simpa using (List.mem_filter.mp ha).2⟩
  refine (List.perm_ext_iff_of_nodup nd List.nodup_range).mpr fun x => ?_
  rw [List.mem_append, List.mem_filter, List.mem_singleton]
  simp only [List.mem_range, Bool.not_eq_true', decide_eq_false_iff_not]
  constructor
  · rintro (⟨h1, _⟩ | rfl)
    · exact h1
    · exact h
  · intro hx
    by_cases q : x = i
    · exact .inr q
    · exact .inl ⟨hx, q⟩
/-- the knot told of a bar -/
def knotOf (n : Nat) (nb : List Fr.Bar) (i : Nat) : Option (Nat × List Nat) := (Fr.tiedL nb (List.replicate n []) (orderBut nb.length i) []).find? fun p => decide (p.1 = i)
def knotD (n : Nat) (nb : List Fr.Bar) (i : Nat) : D := match knotOf n nb i with
  | none => .non
  | some p => .lst (nD p.2)
end Pl

/-! The worth, the parts, and the bars that are too many: one bar less, one bar more. -/
namespace Fr
section
variable {n : Nat} {nb as bs : List Bar}
theorem rk_slim : rk n nb = nb.length ↔ Slim n nb := by
  constructor
  · intro h
    have e : pickB n [] nb = nb := (pickB_sub nb []).eq_of_length h
    rw [← e]
    exact basis_slim n nb
  · intro h
    unfold rk
    rw [basis_all h]
theorem rk_le (n : Nat) (nb : List Bar) : rk n nb ≤ nb.length := (pickB_sub nb []).length_le
/-- bars that are not lean: one is held by others -/
theorem not_slim_hld (ok : Ok n nb) (h : ¬ Slim n nb) : ∃ i, i < nb.length ∧ Hld n (nb.eraseIdx i) (barAt nb i).1 (barAt nb i).2 := by
  obtain ⟨m, h1, h2⟩ := least_ex (p := fun m => ¬ Slim n (nb.take m)) nb.length (by rwa [List.take_length])
  obtain ⟨i, rfl⟩ : ∃ i, m = i + 1 := by
    cases m with
    | zero => exact (h1 (by rw [List.take_zero]; exact Pl.slim_nil n)).elim
    | succ i => exact ⟨i, rfl⟩
  have sl : Slim n (nb.take i) := by
    by_cases q : Slim n (nb.take i)
    · exact q
    · exact (h2 i (Nat.lt_succ_self i) q).elim
  have hi : i < nb.length := by
    by_cases q : i < nb.length
    · exact q
    · exact (h1 (by rw [List.take_of_length_le (by omega)]; rw [List.take_of_length_le (by omega)] at sl; exact sl)).elim
  have e : nb.take (i + 1) = nb.take i ++ [barAt nb i] := by rw [barAt_get hi]; exact (List.take_append_getElem hi).symm
  rw [e] at h1
  have o := ok _ (barAt_mem hi)
  have sp : Spn n (nb.take i) (barAt nb i).1 (barAt nb i).2 := by
    by_cases q : Spn n (nb.take i) (barAt nb i).1 (barAt nb i).2
    · exact q
    · exact (h1 ((slim_snoc sl o.1 o.2.1 o.2.2).mpr q)).elim
  refine ⟨i, hi, spn_hld (ok.sub (List.take_sublist _ _)) sl (ok.sub (List.eraseIdx_sublist _ _)) (fun x hx => ?_) o.1 o.2.1 o.2.2 sp⟩
  obtain ⟨j, hj, ej⟩ := List.mem_iff_getElem.mp hx
  rw [List.length_take] at hj
  rw [List.getElem_take] at ej
  have := erase_mem (nb := nb) (i := i) (j := j) (by omega) (by omega)
  rw [barAt_get (by omega)] at this
  rw [← ej]
  exact this
theorem slim_not_hld (ok : Ok n nb) (h : Slim n nb) {i : Nat} (hi : i < nb.length) : ¬ Hld n (nb.eraseIdx i) (barAt nb i).1 (barAt nb i).2 := fun q => by
  have r := ((rk_less ok hi).1 (by rw [← barAt_get hi]; exact q)).1
  have r1 := rk_slim.mpr h
  have r2 := rk_le n (nb.eraseIdx i)
  rw [List.length_eraseIdx_of_lt hi] at r2
  omega
theorem part_congr {K L : List Bar} (h : ∀ a b, a < n → b < n → a ≠ b → (Spn n K a b ↔ Spn n L a b)) {a b c : Nat} (ha : a < n) (hb : b < n) (hc : c < n) : part n K a b c = part n L a b c := by
  have e : part n K a b c = true ↔ part n L a b c = true := by
    rw [part_iff, part_iff]
    by_cases q1 : c = a
    · exact ⟨fun _ => .inl q1, fun _ => .inl q1⟩
    by_cases q2 : c = b
    · exact ⟨fun _ => .inr (.inl q2), fun _ => .inr (.inl q2)⟩
    rw [h a c ha hc (Ne.symm q1), h b c hb hc (Ne.symm q2)]
  cases h1 : part n K a b c <;> cases h2 : part n L a b c <;> simp_all
theorem ld_congr {K L : List Bar} (h : ∀ a b, a < n → b < n → a ≠ b → (Spn n K a b ↔ Spn n L a b)) (a b : Nat) : Ld n K a b ↔ Ld n L a b := by
  constructor
  · rintro ⟨h1, h2, h3, h4⟩
    exact ⟨h1, h2, (h a b (by omega) h2 (by omega)).mp h3, fun c hc p => h4 c hc (by rw [part_congr h (by omega) h2 hc]; exact p)⟩
  · rintro ⟨h1, h2, h3, h4⟩
    exact ⟨h1, h2, (h a b (by omega) h2 (by omega)).mpr h3, fun c hc p => h4 c hc (by rw [← part_congr h (by omega) h2 hc]; exact p)⟩
theorem ldrs_congr {K L : List Bar} (h : ∀ a b, a < n → b < n → a ≠ b → (Spn n K a b ↔ Spn n L a b)) : ldrs n K = ldrs n L := by
  unfold ldrs
  congr 1
  funext a
  congr 1
  refine List.filter_congr fun b _ => ?_
  exact decide_eq_decide.mpr (ld_congr h a b)
end
end Fr
namespace Pl
open PySem PySem.Spec PyProof.Rows L2
section
variable {n : Nat} {nb as bs : List Fr.Bar}
theorem parts_congr (h : ∀ a b, a < n → b < n → a ≠ b → (Fr.Hld n as a b ↔ Fr.Hld n bs a b)) : partsL n as = partsL n bs := by
  unfold partsL
  rw [Fr.ldrs_congr h]
  refine List.map_congr_left fun p hp => ?_
  obtain ⟨h1, h2, _⟩ := Fr.ldrs_mem.mp hp
  unfold partL
  exact List.filter_congr fun c hc => Fr.part_congr h (by omega) h2 (List.mem_range.mp hc)
theorem many_nil (ok : Fr.Ok n nb) : manyL n nb = [] ↔ Fr.Slim n nb := by
  constructor
  · intro h
    by_cases q : Fr.Slim n nb
    · exact q
    · obtain ⟨i, hi, hh⟩ := Fr.not_slim_hld ok q
      have := manyL_mem.mpr ⟨hi, hh⟩
      rw [h] at this
      cases this
  · intro h
    cases e : manyL n nb with
    | nil => rfl
    | cons i r =>
      have : i ∈ manyL n nb := by rw [e]; exact List.mem_cons_self
      obtain ⟨hi, hh⟩ := manyL_mem.mp this
      exact (Fr.slim_not_hld ok h hi hh).elim
theorem knot_none (ok : Fr.Ok n nb) {i : Nat} (hi : i < nb.length) : knotD n nb i = .non ↔ ¬ Fr.Hld n (nb.eraseIdx i) (Fr.barAt nb i).1 (Fr.barAt nb i).2 := by
  have pm := orderBut_perm hi
  unfold orderBut at pm
  have h := Fr.tied_last ok pm hi
  unfold knotD knotOf orderBut
  constructor
  · intro e q
    obtain ⟨p, hp, ep⟩ := h.mpr q
    cases f : (Fr.tiedL nb (List.replicate n []) ((List.range nb.length).filter (fun a => !decide (a = i)) ++ [i]) []).find? fun p => decide (p.1 = i) with
    | none =>
      have := List.find?_eq_none.mp f p hp
      simp [ep] at this
    | some p => rw [f] at e; cases e
  · intro q
    cases f : (Fr.tiedL nb (List.replicate n []) ((List.range nb.length).filter (fun a => !decide (a = i)) ++ [i]) []).find? fun p => decide (p.1 = i) with
    | none => rfl
    | some p => exact (q (h.mp ⟨p, List.mem_of_find?_eq_some f, by have z := List.find?_some f; simpa using z⟩)).elim
/-- without a bar -/
theorem rk_without (ok : Fr.Ok n nb) {i : Nat} (hi : i < nb.length) : (Fr.rk n (nb.eraseIdx i) : Int) = (Fr.rk n nb : Int) - (if !decide (i ∈ manyL n nb) then 1 else 0) := by
  obtain ⟨h1, h2⟩ := Fr.rk_less ok hi
  rw [← Fr.barAt_get hi] at h1 h2
  by_cases q : i ∈ manyL n nb
  · have := (h1 (manyL_mem.mp q).2).1
    rw [decide_eq_true q]
    simp
    omega
  · have := h2 fun z => q (manyL_mem.mpr ⟨hi, z⟩)
    rw [decide_eq_false q]
    simp
    omega
theorem parts_without (ok : Fr.Ok n nb) {i : Nat} (hi : i < nb.length) (q : i ∈ manyL n nb) : partsL n (nb.eraseIdx i) = partsL n nb :=
  parts_congr ((Fr.rk_less ok hi).1 (by rw [← Fr.barAt_get hi]; exact (manyL_mem.mp q).2)).2
theorem erase_cut (nb : List Fr.Bar) (i : Nat) : nb.take i ++ nb.drop (i + 1) = nb.eraseIdx i := (List.eraseIdx_eq_take_drop_succ nb i).symm
theorem erase_last (nb : List Fr.Bar) (x : Fr.Bar) : (nb ++ [x]).eraseIdx nb.length = nb := by
  rw [List.eraseIdx_append_of_length_le (Nat.le_refl _), Nat.sub_self]
  simp
theorem barAt_last (nb : List Fr.Bar) (x : Fr.Bar) : Fr.barAt (nb ++ [x]) nb.length = x := by
  unfold Fr.barAt
  simp [List.getD]
end
theorem rc_int1 {K : PySem.W.Frag} {k : Bool} : RC K (fun xs H Q => (∃ i, xs = [V.int i] ∧ Q (.int i) H) ∨ ∃ k, xs = [V.bl k] ∧ Q (.int (if k then 1 else 0)) H) [.bl k] (.int (if k then 1 else 0)) := fun S H vs e r Q q => by
  cases r with
  | cons h t =>
    cases t
    cases h
    exact .inr ⟨k, rfl, q _ S H (Ext.refl e) (.int _)⟩
end Pl
namespace Pl
open PySem PySem.Spec PyProof.Rows L2
theorem size_3 (a b : Int) : Builtin.Range.rangeSize a b 3 = if a < b then (b - a - 1) / 3 + 1 else 0 := by
  unfold Builtin.Range.rangeSize
  rw [if_pos (by decide)]
theorem small_3 {a b : Int} (ha : 0 ≤ a) (ha' : a ≤ 1000) (hb : 0 ≤ b) (hb' : b ≤ 1000) : Builtin.Range.small a b 3 = true := by
  unfold Builtin.Range.small
  rw [size_3, if_pos (show (3 : Int) > 0 by decide)]
  have q1 : 0 ≤ (b - a - 1) / 3 + 1 ∨ ¬ a < b := by omega
  have q2 : (b - a - 1) / 3 + 1 ≤ 1001 := by omega
  generalize (b - a - 1) / 3 + 1 = n at q1 q2
  simp only [Builtin.Range.rangeFitsLong, Bool.and_eq_true, Bool.or_eq_true, decide_eq_true_eq, beq_iff_eq]
  split <;> omega
theorem rgc3 (a b : Nat) (ha : a ≤ 1000) (hb : b ≤ 1000) : ∃ n : Nat, RgC (a : Int) (b : Int) 3 n ∧ n ≤ 1000 ∧ ∀ i : Nat, i < n → a + i * 3 < b := by
  refine ⟨if a < b then (b - a - 1) / 3 + 1 else 0, ⟨by decide, by decide, small_3 (by omega) (by omega) (by omega) (by omega), ?_⟩, by split <;> omega, fun i hi => by split at hi <;> omega⟩
  rw [size_3]
  split <;> split <;> omega
theorem size_5 (a b : Int) : Builtin.Range.rangeSize a b 5 = if a < b then (b - a - 1) / 5 + 1 else 0 := by
  unfold Builtin.Range.rangeSize
  rw [if_pos (by decide)]
theorem small_5 {a b : Int} (ha : 0 ≤ a) (ha' : a ≤ 1000) (hb : 0 ≤ b) (hb' : b ≤ 1000) : Builtin.Range.small a b 5 = true := by
  unfold Builtin.Range.small
  rw [size_5, if_pos (show (5 : Int) > 0 by decide)]
  have q1 : 0 ≤ (b - a - 1) / 5 + 1 ∨ ¬ a < b := by omega
  have q2 : (b - a - 1) / 5 + 1 ≤ 1001 := by omega
  generalize (b - a - 1) / 5 + 1 = n at q1 q2
  simp only [Builtin.Range.rangeFitsLong, Bool.and_eq_true, Bool.or_eq_true, decide_eq_true_eq, beq_iff_eq]
  split <;> omega
theorem rgc5 (a b : Nat) (ha : a ≤ 1000) (hb : b ≤ 1000) : ∃ n : Nat, RgC (a : Int) (b : Int) 5 n ∧ n ≤ 1000 ∧ ∀ i : Nat, i < n → a + i * 5 < b := by
  refine ⟨if a < b then (b - a - 1) / 5 + 1 else 0, ⟨by decide, by decide, small_5 (by omega) (by omega) (by omega) (by omega), ?_⟩, by split <;> omega, fun i hi => by split at hi <;> omega⟩
  rw [size_5]
  split <;> split <;> omega
/-- lists of lists of numbers, compared -/
theorem rowsD_eq {as bs : List (List Nat)} : as.map rowD = bs.map rowD ↔ as = bs := by
  refine (List.map_inj_right fun x y h => ?_)
  have h : D.lst (nD x) = D.lst (nD y) := h
  injection h with h
  exact (List.map_inj_right fun a b e => by injection e with e; omega).mp h
theorem rows_okd (as : List (List Nat)) : (D.lst (as.map rowD)).okd 60 = true := by
  refine List.all_eq_true.mpr fun x hx => ?_
  obtain ⟨l, _, rfl⟩ := List.mem_map.mp hx
  exact List.all_eq_true.mpr fun y hy => by obtain ⟨i, _, rfl⟩ := List.mem_map.mp hy; rfl
theorem rows_sm (as : List (List Nat)) : (D.lst (as.map rowD)).sm 60 = true := by
  refine List.all_eq_true.mpr fun x hx => ?_
  obtain ⟨l, _, rfl⟩ := List.mem_map.mp hx
  exact List.all_eq_true.mpr fun y hy => by obtain ⟨i, _, rfl⟩ := List.mem_map.mp hy; rfl
theorem rv_eqRows {K : PySem.W.Frag} {as bs : List (List Nat)} : RV K (rEqD K) (.lst (as.map rowD)) (.lst (bs.map rowD)) (.bl (decide (as = bs))) :=
  rv_eqS (rows_okd as) (rows_okd bs) (rows_sm as) (rows_sm bs) (by rw [decide_eq_true_eq, D.lst.injEq, rowsD_eq])
theorem rv_neRows {K : PySem.W.Frag} {as bs : List (List Nat)} : RV K (rNeD K) (.lst (as.map rowD)) (.lst (bs.map rowD)) (.bl (!decide (as = bs))) :=
  rv_neS (rows_okd as) (rows_okd bs) (rows_sm as) (rows_sm bs) (by rw [decide_eq_true_eq, D.lst.injEq, rowsD_eq])
end Pl
namespace Pl
def pOne (u : Int) (n : Nat) : Nat := (u % (n : Int)).toNat
def pOther (u v : Int) (n : Nat) : Nat := (((pOne u n : Int) + 1 + v % ((n : Int) - 1)) % (n : Int)).toNat
theorem pPair (u v : Int) {n : Nat} (h : 2 ≤ n) : ((pOne u n : Nat) : Int) = u % (n : Int) ∧ ((pOther u v n : Nat) : Int) = ((pOne u n : Int) + 1 + v % ((n : Int) - 1)) % (n : Int) ∧ pOne u n < n ∧ pOther u v n < n ∧ pOne u n ≠ pOther u v n := by
  have a1 := Int.emod_nonneg u (show (n : Int) ≠ 0 by omega)
  have a2 := Int.emod_lt_of_pos u (show (0 : Int) < (n : Int) by omega)
  have e1 : ((pOne u n : Nat) : Int) = u % (n : Int) := by unfold pOne; omega
  have b1 := Int.emod_nonneg ((pOne u n : Int) + 1 + v % ((n : Int) - 1)) (show (n : Int) ≠ 0 by omega)
  have b2 := Int.emod_lt_of_pos ((pOne u n : Int) + 1 + v % ((n : Int) - 1)) (show (0 : Int) < (n : Int) by omega)
  have e2 : ((pOther u v n : Nat) : Int) = ((pOne u n : Int) + 1 + v % ((n : Int) - 1)) % (n : Int) := by unfold pOther; omega
  refine ⟨e1, e2, by omega, by omega, fun e => ?_⟩
  have c1 := Int.emod_nonneg v (show (n : Int) - 1 ≠ 0 by omega)
  have c2 := Int.emod_lt_of_pos v (show (0 : Int) < (n : Int) - 1 by omega)
  generalize v % ((n : Int) - 1) = t at *
  by_cases l : (pOne u n : Int) + 1 + t < n
  · rw [Int.emod_eq_of_lt (by omega) l] at e2
    omega
  · rw [← Int.sub_emod_right, Int.emod_eq_of_lt (by omega) (by omega)] at e2
    omega
theorem brs_take (nb : List Fr.Bar) (k : Nat) : (brs nb).take k = brs (nb.take k) := by unfold brs; rw [List.map_take, List.map_take]
theorem brs_drop (nb : List Fr.Bar) (k : Nat) : (brs nb).drop k = brs (nb.drop k) := by unfold brs; rw [List.map_drop, List.map_drop]
def crowdD (n : Nat) (nb : List Fr.Bar) : D := match crowdL (List.replicate n []) nb with
  | none => .non
  | some ks => .lst ((kI (sortN ks)).map D.int)
theorem crowdD_iff {n : Nat} {nb : List Fr.Bar} (ok : Fr.Ok n nb) : crowdD n nb = .non ↔ Fr.Slim n nb := by
  unfold crowdD
  rw [← (Fr.crowd_spec ok).1]
  cases crowdL (List.replicate n []) nb with
  | none => exact ⟨fun _ => rfl, fun _ => rfl⟩
  | some ks => exact ⟨fun h => (by cases h), fun h => (by cases h)⟩
end Pl

/-! sorted of a list of data that are alike. -/
namespace So
open PySem PySem.Spec PySem.Calls PyProof.Rows L2 PySem.W
abbrev leD (x y : V × PyData) : Bool := sortLe (listOrd itemOrd) false (fun b : V × PyData => keyToks b.2) x y
def rSortD (K : PySem.W.Frag) : List V → Hp → VK → Prop := fun vs H Q => ∃ (a : Addr) (xs : List V) (ds : List PyData), vs = [V.ref a] ∧ SqL K H a xs ∧ DpAll K H xs ds ∧ AllAlike ds ∧ Sortable ds ∧ (∀ d ∈ ds, d.depth ≤ 60) ∧
  ∀ p : Addr, H p = none → Q (.ref p) (upd H p (.lst (((xs.zip ds).mergeSort leD).map Prod.fst)))
section
variable {X : Cx}
theorem each_of {h : Heap} : ∀ {xs : List V} {us : List Value} {ds : List PyData} {as : List Addr}, Vals xs us → ReadsAll h us ds as → EachIs (fun v (b : V × PyData) => RelV b.1 v ∧ ∃ as, Reads h v b.2 as) us (xs.zip ds)
  | _, _, _, _, .nil, r => by cases r; exact .nil
  | _, _, _, _, .cons hx hr, r => by
    cases r with
    | cons r rs => exact .cons ⟨hx, _, r⟩ (each_of hr rs)
theorem vals_of {h : Heap} : ∀ {us : List Value} {bs : List (V × PyData)}, EachIs (fun v (b : V × PyData) => RelV b.1 v ∧ ∃ as, Reads h v b.2 as) us bs → Vals (bs.map Prod.fst) us
  | _, _, .nil => .nil
  | _, _, .cons h r => .cons h.1 (vals_of r)
theorem data_of {h : Heap} : ∀ {us : List Value} {ds : List PyData} {as : List Addr}, ReadsAll h us ds as → EachIs (fun v d => ∃ as, Reads h v d as) us ds
  | [], _, _, r => by cases r; exact .nil
  | _ :: us, _, _, r => by
    cases r with
    | cons r rs => exact .cons ⟨_, r⟩ (data_of rs)
theorem cr_sortD (hu : X.A.units + 64 < cLine) : CallR X (.builtin "sorted") (rSortD X.K) := by
  intro pins s σ H vs us Q I r h
  obtain ⟨a, xs, ds, rfl, hs, hd, hal, hk, hdep, q⟩ := h
  obtain ⟨its, rv, hl, hz⟩ := I.list hs
  rw [Vals.ref1 r]
  obtain ⟨as, rd⟩ := Dp.readsAll I ds _ its hd rv
  have hlen : its.length ≤ sizeLine := by rw [← rv.length]; exact hz
  have old : ∀ b o, s.heap.get? b = some o → (sortingHeap (copyHeap s.heap its) (s.heap.objs.size + 1) its).get? b = some o := fun b o e => sorting_copy_old e
  have e1 := data_of rd
  have e2 : EachIs (fun v d => ∃ as, Reads (sortingHeap (copyHeap s.heap its) (s.heap.objs.size + 1) its) v d as) its ds := e1.mono fun v d ⟨as, r⟩ => ⟨as, Reads.keeps old r⟩
  refine sorted_vals hl.isList (SortsAt.data (s := { s with heap := sortingHeap (copyHeap s.heap its) (s.heap.objs.size + 1) its }) e2 hal hk fun d hdm => ?_) hlen ?_
  · have := hdep d hdm
    show X.A.units + 1 + 1 + d.depth < cLine
    omega
  · have eb := each_of rv rd
    have ek : EachIs (fun v (b : V × PyData) => (dataKind (sortingHeap (copyHeap s.heap its) (s.heap.objs.size + 1) its) ds).keyOf v = some (keyToks b.2)) its (xs.zip ds) := by
      refine EachIs.of_zip eb.length fun p hp => ?_
      obtain ⟨_, as', rr⟩ := eb.zip p hp
      have hm : p.2 ∈ xs.zip ds := (List.of_mem_zip hp).2
      exact dataKind_some hal (List.of_mem_zip hm).2 (Reads.keeps old rr)
    have es := sortVals_each (κ := dataKind (sortingHeap (copyHeap s.heap its) (s.heap.objs.size + 1) its) ds) (rev := false) (fun b : V × PyData => keyToks b.2) eb ek
    have hv := vals_of es
    obtain ⟨ep, he'⟩ := sortedAll_at s.heap its (sortVals (dataKind (sortingHeap (copyHeap s.heap its) (s.heap.objs.size + 1) its) ds) false its its).toArray
    have hlv : (((xs.zip ds).mergeSort leD).map Prod.fst).length ≤ sizeLine := by
      have e3 := hv.length
      rw [sortVals_length false rfl] at e3
      exact Nat.le_trans (Nat.le_of_eq e3) hlen
    exact ⟨.ref _, upd H (s.heap.objs.size + 1) (.lst (((xs.zip ds).mergeSort leD).map Prod.fst)), I.laid (t' := s.toks) (fun _ _ => sortedAll_old) (Nat.le_succ _) ⟨hlv, _, ep, hv, he'⟩, rfl, q _ (I.hok.fresh (Nat.le_succ _))⟩
end
end So

/-! sorted of a list of lists of numbers. -/
namespace Pl
open PySem PySem.Spec PyProof.Rows L2 PySem.W
open Evl (Ex)
def rowP (l : List Nat) : PyData := (rowD l).py
def rowLt (a b : List Nat) : Bool := lexLt itemOrd (keyToks (rowP a)) (keyToks (rowP b))
theorem rowP_eq (l : List Nat) : rowP l = .list (l.map fun k : Nat => .int (k : Int)) := by
  show PyData.list (pyL (nD l)) = _
  rw [pyL_map]
  unfold nD
  rw [List.map_map]
  rfl
theorem row_nil (b : List Nat) (y : Nat) : rowLt [] (y :: b) = true := by
  unfold rowLt
  rw [rowP_eq, rowP_eq]
  show lexLt itemOrd [.inl 0] (.inl 1 :: (_ ++ _)) = true
  rw [lex_diff (O := itemOrd) (by decide)]
  rfl
theorem row_cons (x y : Nat) (l m : List Nat) : rowLt (x :: l) (y :: m) = if x = y then rowLt l m else decide (x < y) := by
  unfold rowLt
  rw [rowP_eq, rowP_eq, rowP_eq, rowP_eq]
  show lexLt itemOrd (.inl 1 :: (.inl (x : Int) :: keyToksAll (l.map fun k : Nat => PyData.int (k : Int)))) (.inl 1 :: (.inl (y : Int) :: keyToksAll (m.map fun k : Nat => PyData.int (k : Int)))) = if x = y then lexLt itemOrd (keyToksAll (l.map fun k : Nat => PyData.int (k : Int))) (keyToksAll (m.map fun k : Nat => PyData.int (k : Int))) else decide (x < y)
  rw [lex_self (O := itemOrd)]
  by_cases e : x = y
  · subst e
    rw [if_pos rfl, lex_self (O := itemOrd)]
  · rw [if_neg e, lex_diff (O := itemOrd) (fun z => e (by injection z with z; omega))]
    show decide ((x : Int) < (y : Int)) = _
    exact decide_eq_decide.mpr (by omega)
theorem toks_inj : ∀ {a b : List Nat}, keyToks (rowP a) = keyToks (rowP b) → a = b
  | [], [], _ => rfl
  | [], y :: b, h => by
    rw [rowP_eq, rowP_eq] at h
    have h : [Sum.inl (0 : Int)] = (Sum.inl 1 :: _ : List (Int ⊕ List Nat)) := h
    injection h with h _
    injection h with h
    exact absurd h (by decide)
  | x :: a, [], h => by
    rw [rowP_eq, rowP_eq] at h
    have h : (Sum.inl 1 :: _ : List (Int ⊕ List Nat)) = [Sum.inl (0 : Int)] := h
    injection h with h _
    injection h with h
    exact absurd h (by decide)
  | x :: a, y :: b, h => by
    rw [rowP_eq, rowP_eq] at h
    have h : (Sum.inl (1 : Int) :: (Sum.inl (x : Int) :: keyToksAll (a.map fun k : Nat => PyData.int (k : Int))) : List (Int ⊕ List Nat)) = Sum.inl 1 :: (Sum.inl (y : Int) :: keyToksAll (b.map fun k : Nat => PyData.int (k : Int))) := h
    injection h with _ h
    injection h with h1 h2
    injection h1 with h1
    have : a = b := toks_inj (by rw [rowP_eq, rowP_eq]; exact h2)
    rw [this, show x = y by omega]
theorem row_anti {a b : List Nat} (h1 : rowLt a b = false) (h2 : rowLt b a = false) : a = b := toks_inj (lex_total (O := itemOrd) _ _ h1 h2)
theorem row_asym {a b : List Nat} (h : rowLt a b = true) : rowLt b a = false := by
  cases e : rowLt b a with
  | false => rfl
  | true =>
    have z := (listOrd itemOrd).trans _ _ _ (show (listOrd itemOrd).blt (keyToks (rowP a)) (keyToks (rowP b)) = true from h) e
    rw [(listOrd itemOrd).irrefl] at z
    cases z
section
variable {K : PySem.W.Frag}
theorem ok_sortD {X : Cx} (h : X.K = K) (hu : X.A.units + 64 < cLine) : CallR X (.builtin "sorted") (So.rSortD K) := by subst h; exact So.cr_sortD hu
abbrev rowR (a b : V × List Nat) : Bool := sortLe (listOrd itemOrd) false (fun p : V × List Nat => keyToks (rowP p.2)) a b
theorem RdL.pairs {S : Hp} : ∀ {T : List (V × List Nat)}, (∀ p ∈ T, Rd K S p.1 (rowD p.2)) → RdL K S (T.map Prod.fst) ((T.map Prod.snd).map rowD)
  | [], _ => .nil
  | p :: T, h => .cons (h p List.mem_cons_self) (RdL.pairs fun q hq => h q (List.mem_cons_of_mem _ hq))
theorem RdL.zipR {S : Hp} : ∀ {xs : List V} {as : List (List Nat)}, RdL K S xs (as.map rowD) → ∀ p ∈ xs.zip as, Rd K S p.1 (rowD p.2)
  | [], _, _, p, hp => by cases hp
  | x :: xs, [], r, p, hp => by cases r
  | x :: xs, a :: as, r, p, hp => by
    have r : RdL K S (x :: xs) (rowD a :: as.map rowD) := r
    cases r with
    | cons h t =>
      rcases List.mem_cons.mp hp with rfl | hp
      · exact h
      · exact RdL.zipR t p hp
theorem rc_sortRows {as bs : List (List Nat)} (hp : bs.Perm as) (hs : bs.Pairwise fun a b => rowLt b a = false) : RCF K (So.rSortD K) [.lst (as.map rowD)] (bs.map rowD) := fun S H vs e r Q q => by
  cases r with
  | cons h t =>
    cases t
    cases h with
    | lst ha rl =>
      rename_i a xs
      have hlen : xs.length = as.length := by rw [rl.length, List.length_map]
      have okd : ∀ x ∈ as.map rowD, x.okd 59 = true := fun x hx => by
        obtain ⟨l, _, rfl⟩ := List.mem_map.mp hx
        exact List.all_eq_true.mpr fun y hy => by obtain ⟨i, _, rfl⟩ := List.mem_map.mp hy; rfl
      have dp := dpL (fun v d => Rd.dp 59 v d) _ _ okd (rl.mono e)
      have ed : pyL (as.map rowD) = as.map rowP := by rw [pyL_map, List.map_map]; rfl
      rw [ed] at dp
      have isl : ∀ d ∈ as.map rowP, ∃ l : List Nat, d = .list (l.map fun k : Nat => .int (k : Int)) := fun d hd => by
        obtain ⟨l, _, rfl⟩ := List.mem_map.mp hd
        exact ⟨l, rowP_eq l⟩
      refine ⟨a, xs, as.map rowP, rfl, Evl.sq_of (e _ _ ha), dp, fun d hd d' hd' => ?_, .inr fun d hd => ?_, fun d hd => ?_, fun p hpn => ?_⟩
      · obtain ⟨l, rfl⟩ := isl d hd
        obtain ⟨m, rfl⟩ := isl d' hd'
        show alikeAll _ _ = true
        clear hd hd'
        induction l generalizing m with
        | nil => rfl
        | cons x l ih =>
          cases m with
          | nil => rfl
          | cons y m => exact ih m
      · obtain ⟨l, rfl⟩ := isl d hd
        exact ⟨fun z => (by cases z), fun xs z => (by cases z)⟩
      · obtain ⟨l, hl, rfl⟩ := List.mem_map.mp hd
        exact (okd_shape 60 (rowD l) (by
          exact List.all_eq_true.mpr fun y hy => by obtain ⟨i, _, rfl⟩ := List.mem_map.mp hy; rfl)).2
      · -- the sorted pairs
        have em : ((xs.zip as).mergeSort rowR).map (fun p => (p.1, rowP p.2)) = (xs.zip (as.map rowP)).mergeSort So.leD := by
          rw [sort_maps (r := rowR) (s := So.leD) (fun p : V × List Nat => (p.1, rowP p.2)) (fun a _ b _ => rfl)]
          congr 1
          rw [List.zip_map_right]
          rfl
        have pm : ((xs.zip as).mergeSort rowR).Perm (xs.zip as) := List.mergeSort_perm _ _
        have e1 : ((xs.zip (as.map rowP)).mergeSort So.leD).map Prod.fst = ((xs.zip as).mergeSort rowR).map Prod.fst := by
          rw [← em, List.map_map]
          rfl
        have snd : ((xs.zip as).mergeSort rowR).map Prod.snd = bs := by
          have p2 : (((xs.zip as).mergeSort rowR).map Prod.snd).Perm as := by
            have := pm.map Prod.snd
            rwa [List.map_snd_zip (by omega)] at this
          have s2 := sort_pairwise (sortLe_total (listOrd itemOrd) false fun p : V × List Nat => keyToks (rowP p.2)) (xs.zip as)
          have s3 : (((xs.zip as).mergeSort rowR).map Prod.snd).Pairwise fun a b => rowLt b a = false := by
            rw [List.pairwise_map]
            refine s2.imp fun {a b} h => ?_
            have h : (!rowLt b.2 a.2) = true := h
            simpa using h
          exact (p2.trans hp.symm).eq_of_pairwise (fun a b _ _ h1 h2 => row_anti h2 h1) s3 hs
        rw [e1]
        have rr := RdL.pairs (K := K) (S := S) (T := (xs.zip as).mergeSort rowR) fun p hpm => RdL.zipR rl p (pm.mem_iff.mp hpm)
        rw [snd] at rr
        exact q p _ S _ (Ext.hid e hpn) hpn (sub_none e hpn) upd_same rr
end
end Pl

/-! Other names for joints: the worth, what is held, parts. -/
namespace Fr
def fb (f : Nat → Nat) (b : Bar) : Bar := (f b.1, f b.2)
/-- f and g turn the joints about, each the other's way back -/
structure Turn (n : Nat) (f g : Nat → Nat) : Prop where
  fl : ∀ x, x < n → f x < n
  gl : ∀ x, x < n → g x < n
  gf : ∀ x, x < n → g (f x) = x
  fg : ∀ x, x < n → f (g x) = x
section
variable {n : Nat} {f g : Nat → Nat} {nb K : List Bar}
theorem Turn.symm (t : Turn n f g) : Turn n g f := ⟨t.gl, t.fl, t.fg, t.gf⟩
theorem Turn.inj (t : Turn n f g) : ∀ x y, x < n → y < n → f x = f y → x = y := fun x y hx hy h => by
  have := congrArg g h
  rwa [t.gf x hx, t.gf y hy] at this
theorem ok_map (t : Turn n f g) (ok : Ok n nb) : Ok n (nb.map (fb f)) := fun c hc => by
  obtain ⟨b, hb, rfl⟩ := List.mem_map.mp hc
  obtain ⟨o1, o2, o3⟩ := ok b hb
  exact ⟨t.fl _ o1, t.fl _ o2, fun e => o3 (t.inj _ _ o1 o2 e)⟩
theorem ins_map (K : List Bar) (f : Nat → Nat) (S : JS) : ins (K.map (fb f)) S = ins K fun x => S (f x) := by
  unfold ins
  rw [List.countP_map]
  rfl
theorem slim_map (t : Turn n f g) (sl : Slim n K) : Slim n (K.map (fb f)) := name_slim (f := f) t.inj t.fl sl fun S => ins_map K f S
theorem spn_map (t : Turn n f g) (ok : Ok n K) {a b : Nat} (ha : a < n) (hb : b < n) (h : Spn n K a b) : Spn n (K.map (fb f)) (f a) (f b) := by
  obtain ⟨S, ⟨t1, t2⟩, s1, s2⟩ := h
  refine ⟨fun x => S (g x), ⟨?_, ?_⟩, by show S (g (f a)) = true; rw [t.gf a ha]; exact s1, by show S (g (f b)) = true; rw [t.gf b hb]; exact s2⟩
  · rw [card_name t.symm.inj t.gl]
    exact t1
  · rw [card_name t.symm.inj t.gl, ins_map, ins_same ok (T := S) fun x hx => by rw [t.gf x hx]]
    exact t2
theorem map_back (t : Turn n f g) (ok : Ok n nb) : (nb.map (fb f)).map (fb g) = nb := by
  rw [List.map_map]
  refine (List.map_congr_left fun b hb => ?_).trans (List.map_id _)
  obtain ⟨o1, o2, _⟩ := ok b hb
  exact Prod.ext (t.gf _ o1) (t.gf _ o2)
theorem hld_map1 (t : Turn n f g) (ok : Ok n nb) {a b : Nat} (ha : a < n) (hb : b < n) (ne : a ≠ b) (h : Hld n nb a b) : Hld n (nb.map (fb f)) (f a) (f b) := by
  have okb := basis_ok ok
  refine spn_hld (ok_map t okb) (slim_map t (basis_slim n nb)) (ok_map t ok) (fun x hx => ?_) (t.fl a ha) (t.fl b hb) (fun e => ne (t.inj a b ha hb e)) (spn_map t okb ha hb h)
  obtain ⟨y, hy, rfl⟩ := List.mem_map.mp hx
  exact List.mem_map.mpr ⟨y, (pickB_sub nb []).subset hy, rfl⟩
theorem hld_map (t : Turn n f g) (ok : Ok n nb) {a b : Nat} (ha : a < n) (hb : b < n) (ne : a ≠ b) : Hld n nb a b ↔ Hld n (nb.map (fb f)) (f a) (f b) := by
  refine ⟨hld_map1 t ok ha hb ne, fun h => ?_⟩
  have := hld_map1 t.symm (ok_map t ok) (t.fl a ha) (t.fl b hb) (fun e => ne (t.inj a b ha hb e)) h
  rwa [map_back t ok, t.gf a ha, t.gf b hb] at this
theorem rk_map1 (t : Turn n f g) (ok : Ok n nb) : rk n nb ≤ rk n (nb.map (fb f)) := by
  have okb := basis_ok ok
  have h := rk_max (ok_map t ok) (ok_map t okb) (slim_map t (basis_slim n nb)) fun x hx => hld_bar (ok_map t ok) (by
    obtain ⟨y, hy, rfl⟩ := List.mem_map.mp hx
    exact List.mem_map.mpr ⟨y, (pickB_sub nb []).subset hy, rfl⟩)
  rwa [List.length_map] at h
theorem rk_map (t : Turn n f g) (ok : Ok n nb) : rk n (nb.map (fb f)) = rk n nb := by
  have h := rk_map1 t.symm (ok_map t ok)
  rw [map_back t ok] at h
  exact Nat.le_antisymm h (rk_map1 t ok)
/-- the same bars by other names, in any order, turned or not -/
structure Alike (n : Nat) (f g : Nat → Nat) (nb ob : List Bar) : Prop where
  turn : Turn n f g
  ok : Ok n nb
  oko : Ok n ob
  s1 : Sub (nb.map (fb f)) ob
  s2 : Sub ob (nb.map (fb f))
variable {ob : List Bar}
theorem sub_map {as bs : List Bar} (h : Sub as bs) (f : Nat → Nat) : Sub (as.map (fb f)) (bs.map (fb f)) := fun x hx => by
  obtain ⟨y, hy, rfl⟩ := List.mem_map.mp hx
  rcases h y hy with q | q
  · exact .inl (List.mem_map.mpr ⟨y, q, rfl⟩)
  · exact .inr (List.mem_map.mpr ⟨_, q, rfl⟩)
theorem Alike.symm (a : Alike n f g nb ob) : Alike n g f ob nb := by
  have e := map_back a.turn a.ok
  refine ⟨a.turn.symm, a.oko, a.ok, ?_, ?_⟩
  · have := sub_map a.s2 g
    rwa [e] at this
  · have := sub_map a.s1 g
    rwa [e] at this
theorem Alike.rk (a : Alike n f g nb ob) : Fr.rk n ob = Fr.rk n nb := by
  rw [← rk_map a.turn a.ok]
  exact rk_same a.oko (ok_map a.turn a.ok) a.s2 a.s1
theorem Alike.hld (q : Alike n f g nb ob) {a b : Nat} (ha : a < n) (hb : b < n) (ne : a ≠ b) : Hld n nb a b ↔ Hld n ob (f a) (f b) := by
  have ne2 : f a ≠ f b := fun e => ne (q.turn.inj a b ha hb e)
  rw [hld_map q.turn q.ok ha hb ne]
  exact hld_same (ok_map q.turn q.ok) q.oko q.s1 q.s2 (q.turn.fl a ha) (q.turn.fl b hb) ne2
theorem Alike.prt (q : Alike n f g nb ob) {a b c : Nat} (ha : a < n) (hb : b < n) (hc : c < n) : part n (pickB n [] nb) a b c = part n (pickB n [] ob) (f a) (f b) (f c) := by
  have e : part n (pickB n [] nb) a b c = true ↔ part n (pickB n [] ob) (f a) (f b) (f c) = true := by
    rw [part_iff, part_iff]
    have i1 : c = a ↔ f c = f a := ⟨fun e => by rw [e], fun e => q.turn.inj c a hc ha e⟩
    have i2 : c = b ↔ f c = f b := ⟨fun e => by rw [e], fun e => q.turn.inj c b hc hb e⟩
    by_cases q1 : c = a
    · exact ⟨fun _ => .inl (i1.mp q1), fun _ => .inl q1⟩
    by_cases q2 : c = b
    · exact ⟨fun _ => .inr (.inl (i2.mp q2)), fun _ => .inr (.inl q2)⟩
    have h1 := q.hld ha hc (Ne.symm q1)
    have h2 := q.hld hb hc (Ne.symm q2)
    unfold Hld at h1 h2
    rw [h1, h2, ← i1, ← i2]
  cases h1 : Fr.part n (pickB n [] nb) a b c <;> cases h2 : Fr.part n (pickB n [] ob) (f a) (f b) (f c) <;> simp_all
end
end Fr
namespace Pl
open Fr (Alike)
section
variable {n : Nat} {f g : Nat → Nat} {nb ob : List Fr.Bar}
/-- a part as a list begins with its two least joints -/
theorem partL_head {n : Nat} {K : List Fr.Bar} {p : Fr.Bar} (h : Fr.Ld n K p.1 p.2) : ∃ r, partL n K p = p.1 :: p.2 :: r := by
  obtain ⟨l, hb, hs, hl⟩ := id h
  have hm : p.2 ∈ heldL n K p.1 := heldL_mem.mpr ⟨hb, .inr hs⟩
  have e := both_part hm (by omega) (show p.1 < n by omega)
  have t := (lead_first (show p.1 < n by omega) hm).mpr h
  rw [e] at t
  match hq : partL n K p, t with
  | x :: y :: r, t =>
    have t : [x, y] = [p.1, p.2] := t
    injection t with t1 t
    injection t with t2 _
    exact ⟨r, by rw [t1, t2]⟩
  | [x], t =>
    cases t
  | [], t =>
    cases t
theorem parts_lt (n : Nat) (nb : List Fr.Bar) : (partsL n nb).Pairwise fun a b => rowLt a b = true := by
  unfold partsL
  rw [List.pairwise_map]
  refine List.Pairwise.imp_of_mem (fun {p q} hp hq h => ?_) (Fr.ldrs_lex (n := n) (K := Fr.pickB n [] nb))
  obtain ⟨r, hr⟩ := partL_head (Fr.ldrs_mem.mp hp)
  obtain ⟨t, ht⟩ := partL_head (Fr.ldrs_mem.mp hq)
  rw [hr, ht, row_cons]
  rcases h with h | ⟨h1, h2⟩
  · rw [if_neg (by omega)]
    exact decide_eq_true h
  · rw [if_pos h1, row_cons, if_neg (by omega)]
    exact decide_eq_true h2
theorem parts_le (n : Nat) (nb : List Fr.Bar) : (partsL n nb).Pairwise fun a b => rowLt b a = false := (parts_lt n nb).imp fun h => row_asym h
theorem rowLt_irrefl (a : List Nat) : rowLt a a = false := (PyProof.Rows.listOrd PyProof.Rows.itemOrd).irrefl _
theorem parts_nodup (n : Nat) (nb : List Fr.Bar) : (partsL n nb).Nodup := (parts_lt n nb).imp fun {a b} h e => by
  subst e
  rw [rowLt_irrefl] at h
  cases h
/-- a part by other names -/
def nameL (f : Nat → Nat) (l : List Nat) : List Nat := sortN (l.map f)
theorem part_sub (q : Alike n f g nb ob) {l : List Nat} (h : l ∈ partsL n nb) : nameL f l ∈ partsL n ob := by
  obtain ⟨p, hp, rfl⟩ := List.mem_map.mp h
  obtain ⟨h1, h2, h3, h4⟩ := Fr.ldrs_mem.mp hp
  have ha : p.1 < n := by omega
  have ne : p.1 ≠ p.2 := by omega
  have ne2 : f p.1 ≠ f p.2 := fun e => ne (q.turn.inj _ _ ha h2 e)
  have hh : Fr.Hld n ob (f p.1) (f p.2) := (q.hld ha h2 ne).mp h3
  have okk := Fr.basis_ok q.oko
  have sl := Fr.basis_slim n ob
  obtain ⟨a, b, hl, m1, m2⟩ := Fr.lead_ex okk sl (q.turn.fl _ ha) (q.turn.fl _ h2) ne2 hh
  obtain ⟨l1, l2, l3, _⟩ := id hl
  obtain ⟨_, same⟩ := Fr.part_same okk sl (show a < n by omega) l2 (by omega) l3 (q.turn.fl _ ha) (q.turn.fl _ h2) ne2 m1 m2
  refine List.mem_map.mpr ⟨(a, b), Fr.ldrs_mem.mpr hl, (sortN_eq ?_ (partL_rise _ _ _) fun y => ?_).symm⟩
  · have nd : (partL n (Fr.pickB n [] nb) p).Nodup := (partL_rise _ _ _).imp fun h => by omega
    unfold List.Nodup
    rw [List.pairwise_map]
    exact List.Pairwise.imp_of_mem (fun hx hy ne e => ne (q.turn.inj _ _ (partL_mem.mp hx).1 (partL_mem.mp hy).1 e)) nd
  · rw [List.mem_map, partL_mem]
    constructor
    · rintro ⟨c, hc, rfl⟩
      obtain ⟨c1, c2⟩ := partL_mem.mp hc
      refine ⟨q.turn.fl c c1, ?_⟩
      rw [same _ (q.turn.fl c c1), ← q.prt ha h2 c1]
      exact c2
    · rintro ⟨hy, hpy⟩
      rw [same y hy] at hpy
      refine ⟨g y, partL_mem.mpr ⟨q.turn.gl y hy, ?_⟩, q.turn.fg y hy⟩
      rw [q.prt ha h2 (q.turn.gl y hy), q.turn.fg y hy]
      exact hpy
theorem name_back (q : Alike n f g nb ob) {l : List Nat} (h : l ∈ partsL n nb) : nameL g (nameL f l) = l := by
  obtain ⟨p, hp, rfl⟩ := List.mem_map.mp h
  have low : ∀ c ∈ partL n (Fr.pickB n [] nb) p, c < n := fun c hc => (partL_mem.mp hc).1
  have nd : (partL n (Fr.pickB n [] nb) p).Nodup := (partL_rise _ _ _).imp fun h => by omega
  have nd1 : ((partL n (Fr.pickB n [] nb) p).map f).Nodup := by
    unfold List.Nodup
    rw [List.pairwise_map]
    exact List.Pairwise.imp_of_mem (fun hx hy ne e => ne (q.turn.inj _ _ (low _ hx) (low _ hy) e)) nd
  have mem1 : ∀ y, y ∈ nameL f (partL n (Fr.pickB n [] nb) p) ↔ ∃ c ∈ partL n (Fr.pickB n [] nb) p, f c = y := fun y => by
    unfold nameL
    rw [(sortN_perm _).mem_iff, List.mem_map]
  have nd2 : (nameL f (partL n (Fr.pickB n [] nb) p)).Nodup := (sortN_perm _).nodup_iff.mpr nd1
  refine sortN_eq ?_ (partL_rise _ _ _) fun x => ?_
  · unfold List.Nodup
    rw [List.pairwise_map]
    refine List.Pairwise.imp_of_mem (fun {u v} hu hv ne e => ne ?_) nd2
    obtain ⟨c, hc, rfl⟩ := (mem1 u).mp hu
    obtain ⟨d, hd, rfl⟩ := (mem1 v).mp hv
    rw [q.turn.gf c (low c hc), q.turn.gf d (low d hd)] at e
    rw [e]
  · rw [List.mem_map]
    constructor
    · rintro ⟨y, hy, rfl⟩
      obtain ⟨c, hc, rfl⟩ := (mem1 y).mp hy
      rw [q.turn.gf c (low c hc)]
      exact hc
    · intro hx
      exact ⟨f x, (mem1 _).mpr ⟨x, hx, rfl⟩, q.turn.gf x (low x hx)⟩
/-- the parts by other names, sorted, are the other's -/
theorem parts_perm (q : Alike n f g nb ob) : (partsL n ob).Perm ((partsL n nb).map (nameL f)) := by
  refine (List.perm_ext_iff_of_nodup (parts_nodup n ob) ?_).mpr fun l => ?_
  · unfold List.Nodup
    rw [List.pairwise_map]
    refine List.Pairwise.imp_of_mem (fun {u v} hu hv ne e => ne ?_) (parts_nodup n nb)
    rw [← name_back q hu, ← name_back q hv, e]
  · rw [List.mem_map]
    constructor
    · intro h
      exact ⟨nameL g l, part_sub q.symm h, name_back q.symm h⟩
    · rintro ⟨m, hm, rfl⟩
      exact part_sub q hm
end
end Pl

/-! The same bars in another order, some turned, by other names: the bars that are too many. -/
namespace Fr
theorem turn_of {n : Nat} {f : Nat → Nat} (inj : ∀ x y, x < n → y < n → f x = f y → x = y) (low : ∀ x, x < n → f x < n) : ∃ g, Turn n f g := by
  have p := Pl.range_perm inj low
  have ex : ∀ y, y < n → ∃ x, x < n ∧ f x = y := fun y hy => by
    have := p.mem_iff.mpr (List.mem_range.mpr hy)
    obtain ⟨x, hx, e⟩ := List.mem_map.mp this
    exact ⟨x, List.mem_range.mp hx, e⟩
  refine ⟨fun y => if h : ∃ x, x < n ∧ f x = y then Classical.choose h else 0, low, fun y hy => ?_, fun x hx => ?_, fun y hy => ?_⟩
  · show (if h : ∃ x, x < n ∧ f x = y then Classical.choose h else 0) < n
    rw [dif_pos (ex y hy)]
    exact (Classical.choose_spec (ex y hy)).1
  · show (if h : ∃ z, z < n ∧ f z = f x then Classical.choose h else 0) = x
    have h : ∃ z, z < n ∧ f z = f x := ⟨x, hx, rfl⟩
    rw [dif_pos h]
    obtain ⟨h1, h2⟩ := Classical.choose_spec h
    exact inj _ _ h1 hx h2
  · show f (if h : ∃ x, x < n ∧ f x = y then Classical.choose h else 0) = y
    rw [dif_pos (ex y hy)]
    exact (Classical.choose_spec (ex y hy)).2
end Fr
namespace Pl
open Fr (Alike)
/-- the bars at some places, by other names, some turned -/
def otherB (f : Nat → Nat) (t : Nat → Bool) (nb : List Fr.Bar) (i : Nat) : Fr.Bar := turnB (t i) (Fr.fb f (Fr.barAt nb i))
theorem erase_maps {α β : Type} (h : α → β) : ∀ (l : List α) (k : Nat), (l.map h).eraseIdx k = (l.eraseIdx k).map h
  | [], _ => rfl
  | _ :: _, 0 => rfl
  | x :: l, k + 1 => congrArg (h x :: ·) (erase_maps h l k)
def otherL (f : Nat → Nat) (t : Nat → Bool) (nb : List Fr.Bar) (P : List Nat) : List Fr.Bar := P.map (otherB f t nb)
theorem turn_or (q : Bool) (b : Fr.Bar) : turnB q b = b ∨ turnB q b = (b.2, b.1) := by
  unfold turnB
  cases q with
  | true => exact .inr rfl
  | false => exact .inl rfl
section
variable {n : Nat} {f g : Nat → Nat} {t : Nat → Bool} {nb : List Fr.Bar} {P : List Nat}
theorem other_ok (tr : Fr.Turn n f g) (ok : Fr.Ok n nb) (h : ∀ i ∈ P, i < nb.length) : Fr.Ok n (otherL f t nb P) := fun c hc => by
  obtain ⟨i, hi, rfl⟩ := List.mem_map.mp hc
  obtain ⟨o1, o2, o3⟩ := ok _ (Fr.barAt_mem (h i hi))
  have l1 := tr.fl _ o1
  have l2 := tr.fl _ o2
  have ne : f (Fr.barAt nb i).1 ≠ f (Fr.barAt nb i).2 := fun e => o3 (tr.inj _ _ o1 o2 e)
  unfold otherB
  rcases turn_or (t i) (Fr.fb f (Fr.barAt nb i)) with e | e
  · rw [e]; exact ⟨l1, l2, ne⟩
  · rw [e]; exact ⟨l2, l1, Ne.symm ne⟩
/-- from a list of bars whose places are P's -/
theorem alike_of {mb : List Fr.Bar} (tr : Fr.Turn n f g) (ok : Fr.Ok n nb) (okm : Fr.Ok n mb) (h : ∀ i ∈ P, i < nb.length) (h1 : ∀ b ∈ mb, ∃ i ∈ P, Fr.barAt nb i = b) (h2 : ∀ i ∈ P, Fr.barAt nb i ∈ mb) : Alike n f g mb (otherL f t nb P) := by
  refine ⟨tr, okm, other_ok tr ok h, fun x hx => ?_, fun x hx => ?_⟩
  · obtain ⟨b, hb, rfl⟩ := List.mem_map.mp hx
    obtain ⟨i, hi, rfl⟩ := h1 b hb
    have m : otherB f t nb i ∈ otherL f t nb P := List.mem_map.mpr ⟨i, hi, rfl⟩
    unfold otherB at m
    rcases turn_or (t i) (Fr.fb f (Fr.barAt nb i)) with e | e
    · rw [e] at m; exact .inl m
    · rw [e] at m; exact .inr m
  · obtain ⟨i, hi, rfl⟩ := List.mem_map.mp hx
    have m : Fr.fb f (Fr.barAt nb i) ∈ mb.map (Fr.fb f) := List.mem_map.mpr ⟨_, h2 i hi, rfl⟩
    unfold otherB
    rcases turn_or (t i) (Fr.fb f (Fr.barAt nb i)) with e | e
    · rw [e]; exact .inl m
    · rw [e]; exact .inr m
theorem other_alike (tr : Fr.Turn n f g) (ok : Fr.Ok n nb) (pm : P.Perm (List.range nb.length)) : Alike n f g nb (otherL f t nb P) := by
  have h : ∀ i ∈ P, i < nb.length := fun i hi => List.mem_range.mp (pm.mem_iff.mp hi)
  refine alike_of tr ok ok h (fun b hb => ?_) fun i hi => Fr.barAt_mem (h i hi)
  obtain ⟨i, hi, e⟩ := List.mem_iff_getElem.mp hb
  exact ⟨i, pm.mem_iff.mpr (List.mem_range.mpr hi), by rw [Fr.barAt_get hi]; exact e⟩
theorem other_less (tr : Fr.Turn n f g) (ok : Fr.Ok n nb) (pm : P.Perm (List.range nb.length)) {k : Nat} (hk : k < P.length) : Alike n f g (nb.eraseIdx P[k]) ((otherL f t nb P).eraseIdx k) := by
  have h : ∀ i ∈ P, i < nb.length := fun i hi => List.mem_range.mp (pm.mem_iff.mp hi)
  have nd : P.Nodup := pm.nodup_iff.mpr List.nodup_range
  have e : (otherL f t nb P).eraseIdx k = otherL f t nb (P.eraseIdx k) := by
    unfold otherL
    rw [erase_maps]
  have sub : ∀ i ∈ P.eraseIdx k, i ∈ P ∧ i ≠ P[k] := fun i hi => by
    obtain ⟨j, hj, ne, ej⟩ := List.mem_eraseIdx_iff_getElem.mp hi
    refine ⟨by rw [← ej]; exact List.getElem_mem hj, fun z => ?_⟩
    rw [← ej] at z
    have q := List.pairwise_iff_getElem.mp nd
    rcases Nat.lt_trichotomy j k with l | l | l
    · exact q j k hj hk l z
    · exact ne l
    · exact q k j hk hj l z.symm
  rw [e]
  refine alike_of tr ok (ok.sub (List.eraseIdx_sublist _ _)) (fun i hi => h i (sub i hi).1) (fun b hb => ?_) fun i hi => Fr.erase_mem (h i (sub i hi).1) (sub i hi).2
  obtain ⟨i, hi, ne, ei⟩ := List.mem_eraseIdx_iff_getElem.mp hb
  have him : i ∈ P := pm.mem_iff.mpr (List.mem_range.mpr hi)
  obtain ⟨j, hj, ej⟩ := List.mem_iff_getElem.mp him
  refine ⟨i, List.mem_eraseIdx_iff_getElem.mpr ⟨j, hj, fun z => ne ?_, ej⟩, by rw [Fr.barAt_get hi]; exact ei⟩
  subst z
  exact ej.symm
theorem other_many (tr : Fr.Turn n f g) (ok : Fr.Ok n nb) (pm : P.Perm (List.range nb.length)) {k : Nat} (hk : k < P.length) : k ∈ manyL n (otherL f t nb P) ↔ P[k] ∈ manyL n nb := by
  have h : ∀ i ∈ P, i < nb.length := fun i hi => List.mem_range.mp (pm.mem_iff.mp hi)
  have hi := h _ (List.getElem_mem hk)
  have ho := other_ok (t := t) tr ok h
  have lo : (otherL f t nb P).length = P.length := by unfold otherL; rw [List.length_map]
  rw [manyL_mem, manyL_mem, lo]
  have o := ok _ (Fr.barAt_mem hi)
  have hd := (other_less (t := t) tr ok pm hk).hld o.1 o.2.1 o.2.2
  have eb : Fr.barAt (otherL f t nb P) k = otherB f t nb P[k] := by
    unfold Fr.barAt otherL
    simp [List.getD, hk]
  rw [eb, hd]
  unfold otherB
  rcases turn_or (t P[k]) (Fr.fb f (Fr.barAt nb P[k])) with e | e
  · rw [e]
    exact ⟨fun z => ⟨hi, z.2⟩, fun z => ⟨hk, z.2⟩⟩
  · rw [e]
    exact ⟨fun z => ⟨hi, Fr.hld_symm z.2⟩, fun z => ⟨hk, Fr.hld_symm z.2⟩⟩
theorem idx_get (P : List Nat) {i : Nat} (h : i ∈ P) : ∃ hk : P.idxOf i < P.length, P[P.idxOf i] = i := ⟨List.idxOf_lt_length_of_mem h, List.getElem_idxOf _⟩
theorem many_perm (tr : Fr.Turn n f g) (ok : Fr.Ok n nb) (pm : P.Perm (List.range nb.length)) : (manyL n (otherL f t nb P)).Perm ((manyL n nb).map fun i => P.idxOf i) := by
  have nd1 : (manyL n (otherL f t nb P)).Nodup := (manyL_rise _ _).imp fun h => by omega
  have nd0 : (manyL n nb).Nodup := (manyL_rise _ _).imp fun h => by omega
  have inP : ∀ i ∈ manyL n nb, i ∈ P := fun i hi => pm.mem_iff.mpr (List.mem_range.mpr (manyL_mem.mp hi).1)
  have lo : (otherL f t nb P).length = P.length := by unfold otherL; rw [List.length_map]
  refine (List.perm_ext_iff_of_nodup nd1 ?_).mpr fun k => ?_
  · unfold List.Nodup
    rw [List.pairwise_map]
    refine List.Pairwise.imp_of_mem (fun {u v} hu hv ne e => ne ?_) nd0
    obtain ⟨_, e1⟩ := idx_get P (inP u hu)
    obtain ⟨_, e2⟩ := idx_get P (inP v hv)
    rw [← e1, ← e2]
    simp only [e]
  · rw [List.mem_map]
    constructor
    · intro h
      have hk : k < P.length := by
        have := (manyL_mem.mp h).1
        rwa [lo] at this
      have hm := (other_many tr ok pm hk).mp h
      refine ⟨P[k], hm, ?_⟩
      have nd : P.Nodup := pm.nodup_iff.mpr List.nodup_range
      obtain ⟨hl, e⟩ := idx_get P (inP _ hm)
      have q := List.pairwise_iff_getElem.mp nd
      rcases Nat.lt_trichotomy (P.idxOf P[k]) k with l | l | l
      · exact absurd e (q _ _ hl hk l)
      · exact l
      · exact absurd e.symm (q _ _ hk hl l)
    · rintro ⟨i, hi, rfl⟩
      obtain ⟨hl, e⟩ := idx_get P (inP i hi)
      exact (other_many tr ok pm hl).mpr (by rw [e]; exact hi)
theorem other_slim (tr : Fr.Turn n f g) (ok : Fr.Ok n nb) (pm : P.Perm (List.range nb.length)) : Fr.Slim n (otherL f t nb P) ↔ Fr.Slim n nb := by
  have e := (other_alike (t := t) tr ok pm).rk
  have lo : (otherL f t nb P).length = nb.length := by
    unfold otherL
    rw [List.length_map, pm.length_eq, List.length_range]
  rw [← Fr.rk_slim, ← Fr.rk_slim, e, lo]
end
end Pl
namespace Pl
open PySem PySem.Spec PyProof.Rows L2
open Evl (Ex)
theorem ok_index {X : Cx} {K : PySem.W.Frag} (h : X.K = K) : MtR X "list.index" (rIndex K) := by subst h; exact mt_index
theorem ev_index {K : PySem.W.Frag} {ρ : Rho} {te tx : TE} {ns : List Int} {k : Int} {j : Nat} (hd : EvD K te ρ (.lst (ns.map D.int))) (hx : EvD K tx ρ (.int k)) (hj : ns[j]? = some k) (hn : ∀ m : Nat, m < j → ns[m]? ≠ some k) : EvD K (tBM K "list" (rIndex K) te (tCons tx tNil)) ρ (.int (j : Int)) := fun S H σ e v Q q =>
  hd S H σ e v _ fun w S1 H1 x1 r1 => by
    cases r1 with
    | lst ha rl =>
      have z := rl.ints
      subst z
      refine ⟨.inl ⟨rfl, _, Evl.sq_of (x1.sub _ _ ha)⟩, hx S1 H1 σ x1.sub (v.mono x1.s) _ fun u S2 H2 x2 r2 => ?_⟩
      cases r2
      refine ⟨_, ns.map V.int, .int k, j, .int k, rfl, rfl, Evl.sq_of (x2.h _ _ (x1.sub _ _ ha)), rfl, List.all_eq_true.mpr fun y hy => by obtain ⟨i, _, rfl⟩ := List.mem_map.mp hy; rfl, by rw [List.getElem?_map, hj]; rfl, by simp [eqV], fun m z' hm hz => ?_, q _ S2 H2 (x1.trans x2) (.int _)⟩
      rw [List.getElem?_map] at hz
      cases e3 : ns[m]? with
      | none => rw [e3] at hz; cases hz
      | some y =>
        rw [e3] at hz
        cases hz
        have ne : y ≠ k := fun z => hn m hm (by rw [e3, z])
        simp [eqV, ne]
end Pl
namespace Pl
open PySem PySem.Spec PyProof.Rows L2
theorem ok_bm {X : Cx} {K : PySem.W.Frag} {o e : Expr} {es : List Expr} {to : TE} {t : TA} {name : Str} {apos cpos : Pos} {T id : String} {r : V → List V → Hp → VK → Prop} (hK : X.K = K) (pa : PlainAttrs T) (slot : Slot T name id) (hty : typeOf (.builtin id) = pure (.type "method_descriptor")) (hm : MtR X id r) (ho : PE X o to) (ha : PA X (e :: es) t)
    (hbase : attributeBase o name X.env (eval o X.env) = eval o X.env := by rfl)
    (hfew : ((backTo cpos (starEach (e :: es) X.env)).all (fun x => !x.1) && (backToKw cpos (keywordEach [] X.env)).all (fun x => x.1.isSome)
      && decide ((e :: es).length + ([] : List Keyword).length + (if ([] : List Keyword).isEmpty then 0 else 1) < 30)) = true := by rfl)
    (hline : (apos.endLine == cpos.line) = true := by rfl) (hs : starEach (e :: es) X.env = (false, eval e X.env) :: starEach es X.env := by rfl) (hplain : (backTo cpos (starEach es X.env)).any (·.1) = false := by rfl) :
    PE X (.Call (.Attribute o name apos) (e :: es) [] cpos) (tBM K T r to t) := by subst hK; exact pe_bm pa slot hty hm ho ha hbase hfew hline hs hplain
end Pl

/-! What a knot looks like: twice its joints less two, and fewer of these joints are not crowded by it. -/
namespace Fr
section
variable {n : Nat} {nb : List Bar} {lj l : List Nat} {i : Nat}
theorem told_perm {T : JS} (ndl : l.Nodup) (ndj : lj.Nodup) (ni : i ∉ lj) (hj : ∀ a ∈ lj, a < nb.length) (hi : i < nb.length) (t2 : T (barAt nb i).1 = true) (t3 : T (barAt nb i).2 = true)
    (t5 : ∀ a, a ∈ l ↔ a < nb.length ∧ (T (barAt nb a).1 = true ∧ T (barAt nb a).2 = true) ∧ (a = i ∨ a ∈ lj)) : l.Perm (i :: lj.filter fun a => T (barAt nb a).1 && T (barAt nb a).2) := by
  have nd2 : (i :: lj.filter fun a => T (barAt nb a).1 && T (barAt nb a).2).Nodup := List.nodup_cons.mpr ⟨fun z => ni (List.mem_filter.mp z).1, ndj.filter _⟩
  refine (List.perm_ext_iff_of_nodup ndl nd2).mpr fun a => ?_
  rw [t5, List.mem_cons, List.mem_filter, Bool.and_eq_true]
  constructor
  · rintro ⟨h1, h2, rfl | h3⟩
    · exact .inl rfl
    · exact .inr ⟨h3, h2⟩
  · rintro (rfl | ⟨h1, h2⟩)
    · exact ⟨hi, ⟨t2, t3⟩, .inl rfl⟩
    · exact ⟨hj a h1, h2, .inr h1⟩
theorem knot_shape (ok : Ok n nb) (hj : ∀ a ∈ lj, a < nb.length) (ndj : lj.Nodup) (sl : Slim n (lj.map (barAt nb))) (ni : i ∉ lj) (hi : i < nb.length) (ndl : l.Nodup) (h : Told n nb lj i l) :
    ∃ T : JS, l.length + 2 = 2 * card n T ∧ 2 ≤ card n T ∧ (∀ x, x < n → (T x = true ↔ ∃ a ∈ l, (barAt nb a).1 = x ∨ (barAt nb a).2 = x)) ∧
      ∀ W : JS, 2 ≤ card n W → (∀ x, x < n → W x = true → T x = true) → (∃ x, x < n ∧ T x = true ∧ W x = false) → ins (l.map (barAt nb)) W + 3 ≤ 2 * card n W := by
  obtain ⟨T, tT, t2, t3, t4, t5⟩ := h
  have pm := told_perm ndl ndj ni hj hi t2 t3 t5
  have o := ok _ (barAt_mem hi)
  have okl := barAt_ok ok hj
  have cnt : ∀ W : JS, ins ((lj.filter fun a => T (barAt nb a).1 && T (barAt nb a).2).map (barAt nb)) W ≤ ins (lj.map (barAt nb)) W := fun W => ins_sub ((List.filter_sublist).map _) W
  have len : (lj.filter fun a => T (barAt nb a).1 && T (barAt nb a).2).length = ins (lj.map (barAt nb)) T := by
    unfold ins
    rw [List.countP_map, ← List.countP_eq_length_filter]
    rfl
  obtain ⟨c1, c2⟩ := id tT
  refine ⟨T, ?_, c1, fun x hx => ⟨fun tx => ?_, fun hz => ?_⟩, fun W hW sub ⟨x, hx, tx, wx⟩ => ?_⟩
  · rw [pm.length_eq, List.length_cons, len]
    omega
  · -- each joint is an end
    by_cases q : ∃ a ∈ l, (barAt nb a).1 = x ∨ (barAt nb a).2 = x
    · exact q
    · exfalso
      have no : ∀ a ∈ l, (barAt nb a).1 ≠ x ∧ (barAt nb a).2 ≠ x := fun a ha => ⟨fun z => q ⟨a, ha, .inl z⟩, fun z => q ⟨a, ha, .inr z⟩⟩
      have il : i ∈ l := (t5 i).mpr ⟨hi, ⟨t2, t3⟩, .inl rfl⟩
      have cw := card_wo hx tx
      have two : 2 ≤ card n (wo T x) := two_le_card o.1 o.2.1 o.2.2 (by have := (no i il).1; simp [wo, t2, this]) (by have := (no i il).2; simp [wo, t3, this])
      have e : ins (lj.map (barAt nb)) (wo T x) = ins (lj.map (barAt nb)) T := by
        unfold ins
        rw [List.countP_map, List.countP_map]
        refine countP_same fun a ha => ?_
        show (wo T x (barAt nb a).1 && wo T x (barAt nb a).2) = (T (barAt nb a).1 && T (barAt nb a).2)
        cases z : (T (barAt nb a).1 && T (barAt nb a).2) with
        | true =>
          rw [Bool.and_eq_true] at z
          have hm : a ∈ l := (t5 a).mpr ⟨hj a ha, z, .inr ha⟩
          have n1 := (no a hm).1
          have n2 := (no a hm).2
          simp [wo, z.1, z.2, n1, n2]
        | false =>
          unfold wo
          rw [Bool.and_eq_false_iff] at z
          rcases z with z | z <;> simp [z]
      have := sl _ two
      omega
  · obtain ⟨a, ha, q⟩ := hz
    obtain ⟨_, ⟨h1, h2⟩, _⟩ := (t5 a).mp ha
    rcases q with rfl | rfl
    · exact h1
    · exact h2
  · rw [ins_perm (pm.map (barAt nb)), List.map_cons, ins_cons]
    have a1 := cnt W
    have a2 := sl W hW
    by_cases both : W (barAt nb i).1 = true ∧ W (barAt nb i).2 = true
    · have : ¬ Tight n (lj.map (barAt nb)) W := fun tW => by
        have := t4 W tW both.1 both.2 x hx tx
        rw [wx] at this
        cases this
      have lt : ins (lj.map (barAt nb)) W + 3 ≠ 2 * card n W := fun e => this ⟨hW, e⟩
      rw [both.1, both.2]
      show _ + 1 + 3 ≤ _
      omega
    · have e0 : (W (barAt nb i).1 && W (barAt nb i).2).toNat = 0 := by
        cases z1 : W (barAt nb i).1 <;> cases z2 : W (barAt nb i).2 <;> first | rfl | exact (both ⟨z1, z2⟩).elim
      rw [e0]
      omega
end
end Fr

/-! isinstance of an exception that is known as a thing of the heap that stays as it is. -/
namespace Ex0
open PySem PySem.Spec PyProof.Rows L2
def rIsEr (K : PySem.W.Frag) : List V → Hp → VK → Prop := fun xs H Q => ∃ (a D : Addr) (o : Obj) (u : HO) (c : V) (cv : Value) (b : Bool), xs = [.ref a, c] ∧ H a = some (.frz o u) ∧ o.cls = .ref D ∧ o.dict = none ∧ (∃ vs, o.data = .fields vs) ∧ ExcC K D ∧
  (∀ w, RelV c w → w = cv) ∧ PySem.W.kitOne K (.ref D) cv = some b ∧ Q (.bl b) H
theorem call_isEr {X : Cx} : CallR X (.builtin "isinstance") (rIsEr X.K) := by
  intro pins s σ H xs us Q I r h
  obtain ⟨a, D, oe, uo, c, cv, b, rfl, hH, hc, hd, ⟨vs, hv⟩, C, hcv, e, q⟩ := h
  cases r with
  | cons rx rr =>
    cases rr with
    | cons rt rr =>
      cases rr
      cases rx
      have ec := hcv _ rt
      subst ec
      have hget : s.heap.get? a = some oe := (I.hok a _ hH).1
      have J : PySem.W.InstAt s.heap a oe D none := by
        obtain ⟨oc, od, oda, osl⟩ := oe
        dsimp only at hc hd hv
        subst hc hd hv
        exact ⟨hget, rfl, rfl, trivial⟩
      exact PySem.W.kia_one (PySem.W.handS_kitx_exc C.hg C.hk C.hs C.hd C.ha C.hn C.ht C.hm) I.kIn J e (fun z => nomatch z) fun tk => ⟨.bl b, H, I.kept (t' := tk) fun _ _ z => z, rfl, q⟩
end Ex0

/-! A call that is handed the exception that the suite holds: the callee knows it as a thing of the heap that stays as it is. -/
namespace Ex0
open PySem PySem.Spec PyProof.Rows L2
def xt : HO := .ext fun _ => True
def era (a : Addr) (H : Hp) : Hp := fun b => if b = a then none else H b
theorem era_same {a : Addr} {H : Hp} : era a H a = none := if_pos rfl
theorem era_ne {a b : Addr} {H : Hp} (h : b ≠ a) : era a H b = H b := if_neg h
section
variable {X : Cx} {pins : List (Addr × Obj)} {σ : L2.St} {H : Hp} {s : Shared} {a : Addr} {oe : Obj} {vs : Array Value}
theorem hold_in (I : Inv X pins σ H s) (ha : s.heap.get? a = some oe) (hd : oe.data = .fields vs) (na : H a = none) (nK : X.K.lookup a = none) (nL : a ≠ X.env.locals) (nF : a ∉ X.fs) :
    Env0 X.prog X.w X.K X.mg (PySem.W.hideAll X.base [a]) X.A X.stack s (upd H a (.frz oe xt)) := by
  have nns : ∀ (L : Addr) (m : Str → Option Value), X.base.Ns L m → L ≠ a := fun L m h z => by
    obtain ⟨o, es, ep, e, d, _⟩ := h
    have q := (I.bs L o e).1
    rw [z, ha] at q
    have q := Option.some.inj q
    subst q
    rw [hd] at d
    cases d
  have keep : ∀ L, L ≠ a → ∀ o, X.base.get? L = some o → (PySem.W.hideAll X.base [a]).get? L = some o := fun L h o e => PySem.W.hideAll_get _ e fun z => h (List.mem_singleton.mp z)
  have nS : ∀ b ∈ frs X.stack, b ≠ a := fun b hb z => by
    rcases List.mem_cons.mp (I.stkSub b hb) with e | e
    · exact nL (z.symm.trans e)
    · exact nF (z ▸ e)
  have up : ∀ b o, H b = some o → upd H a (.frz oe xt) b = some o := fun b o e => by
    rw [upd_ne fun z => by rw [z, na] at e; cases e]
    exact e
  obtain ⟨mk, mG, ⟨mb, mB, hB⟩, mN⟩ := I.ok.mod
  refine ⟨I.ok.frames, ⟨fun b o e => keep b (fun z => by rw [z, nK] at e; cases e) o (mk b o e), mG.at (keep _ (nns _ _ mG)), ⟨mb, mB.at (keep _ (nns _ _ mB)), hB⟩, ?_⟩, fun b o e => ?_, ?_, ?_, fun b hb => ?_, fun b o e => ?_, I.bare⟩
  · obtain ⟨mc, h1, h2⟩ := mN
    exact ⟨mc, h1.at (keep _ (nns _ _ h1)), h2⟩
  · have e1 := PySem.W.of_hideAll _ e
    have ne : b ≠ a := fun z => by
      rw [PySem.W.hideAll_none [a] (List.mem_singleton.mpr z)] at e
      cases e
    rw [upd_ne ne]
    exact I.bs b o e1
  · rw [PySem.W.hideAll_size]
    exact Nat.le_trans I.ok.bsz I.sz
  · refine funFrames_none I.stack fun L hL => ?_
    cases q : (PySem.W.hideAll X.base [a]).get? L with
    | none => rfl
    | some o =>
      have z := (I.stack.mem hL).1
      rw [PySem.W.of_hideAll _ q] at z
      cases z
  · rw [upd_ne (nS b hb)]
    exact I.stkFree b hb
  · by_cases hb : b = a
    · subst hb
      rw [upd_same] at e
      cases e
      exact ⟨ha, trivial, ⟨_, ha⟩, fun _ _ _ _ => trivial⟩
    · rw [upd_ne hb] at e
      exact (I.hok b o e).stay (fun _ _ _ q => q) (fun c q => up c _ q) fun c xs q => up c _ q
theorem hold_out (I : Inv X pins σ H s) {s' : Shared} {Q Q' : VK} {u : Value} (ha : s.heap.get? a = some oe) (na : H a = none) (nL : a ≠ X.env.locals) (nF : a ∉ X.fs) (h : CE X.stack X.prog X.w (upd H a (.frz oe xt)) s Q u s')
    (hQ : ∀ v H', H' a = some (.frz oe xt) → Q v H' → Q' v (era a H')) : EP X pins σ Q' u s' := by
  obtain ⟨v, H', os, bare, un, hok, r, q⟩ := h
  have z : H' a = some (.frz oe xt) := un.frzs a oe xt upd_same
  have za : s'.heap.get? a = some oe := (hok a _ z).1
  have ne : ∀ {b o}, H b = some o → b ≠ a := fun {b o} e w => by rw [w, na] at e; cases e
  have nS : ∀ b ∈ frs X.stack, b ≠ a := fun b hb z => by
    rcases List.mem_cons.mp (I.stkSub b hb) with e | e
    · exact nL (z.symm.trans e)
    · exact nF (z ▸ e)
  have un2 : Un (frs X.stack) [] H (era a H') s.heap s'.heap := by
    refine ⟨fun b o e n hb hx => ?_, fun b o e n hb hx => ?_, fun b o e n hx => ?_, un.there, fun b xs e => ?_, fun b o u e => ?_, fun b ps e => ?_⟩
    · by_cases w : b = a
      · subst w
        rw [ha] at e
        rw [za, e]
      · exact un.keep b o e (by rw [upd_ne w]; exact n) hb hx
    · exact un.slot b o e (by rw [upd_ne (nS b hb)]; exact n) hb hx
    · by_cases w : b = a
      · subst w
        exact era_same
      · rw [era_ne w]
        exact un.free b o e (by rw [upd_ne w]; exact n) hx
    · rw [era_ne (ne e)]
      exact un.tups b xs (by rw [upd_ne (ne e)]; exact e)
    · rw [era_ne (ne e)]
      exact un.frzs b o u (by rw [upd_ne (ne e)]; exact e)
    · rw [era_ne (ne e)]
      exact un.tbls b ps (by rw [upd_ne (ne e)]; exact e)
  have hok2 : HOk X.prog X.w (era a H') s'.heap := fun b o e => by
    have w : b ≠ a := fun w => by rw [w, era_same] at e; cases e
    rw [era_ne w] at e
    have ne2 : ∀ {c o}, H' c = some o → (∀ u, o ≠ .frz oe u) → c ≠ a := fun {c o} e h w => by
      rw [w, z] at e
      cases e
      exact h _ rfl
    exact (hok b o e).stay (fun _ _ _ q => q) (fun c q => by rw [era_ne (ne2 q fun _ h => by cases h)]; exact q) fun c xs q => by rw [era_ne (ne2 q fun _ h => by cases h)]; exact q
  exact I.after ⟨v, era a H', os, bare, un2, hok2, r, hQ v H' z q⟩
end
end Ex0

/-! Lists walked, tuples taken apart, comprehensions while an exception is handled. -/
namespace Ex0
open PySem PySem.Spec PyProof.Rows L2
open HotX (HotAt)
section
variable {prog : Program} {w : World} {A : Around} {E : Value → Shared → Prop} {s : Shared} {x1 : Addr}
theorem hot_stays {h h' : Heap} (hot : HotAt A x1 h) (k : ∀ o, h.get? x1 = some o → h'.get? x1 = some o) : HotAt A x1 h' := by
  obtain ⟨hh, o, vs, h1, d, c⟩ := hot
  exact ⟨hh, o, vs, k o h1, d, c⟩
/-- the end of a walk: StopIteration is made, gets its context -/
theorem stop_hot {α : Type} {it : Addr} {h0 : Heap} {Q : α → Shared → Prop} (hot : HotAt A x1 s.heap) (k : ∀ b o, b ≠ it → h0.get? b = some o → s.heap.get? b = some o)
    (hE : ∀ e h', Shared.TypeIs { s with heap := h' } (.ref e) "StopIteration" → Heap.ExtBut it h0 h' → E (.ref e) { s with heap := h' }) :
    wpAny (model prog w) A (newExc (.type "StopIteration") [] >>= fun e => (raiseNew e : Sem α)) Q E s := by
  obtain ⟨hh, o1, vs1, h1, d1, c1⟩ := hot
  refine wpAny_bind ?_
  simp only [newExc, newTuple]
  refine wpAny_bind (wpAny_newObj_type ?_ (by size_fits))
  refine wpAny_bind (m := firstArgMember _ _) (wpAny_of_eq (a := Value.none) (by first | rfl | (simp only [firstArgMember]; rfl)) ?_)
  refine wpAny_newObj_type ?_ (by size_fits)
  refine HotX.raiseNew_hot ⟨hh, o1, vs1, Heap.get?_push_of_some _ (Heap.get?_push_of_some _ h1), d1, c1⟩ (Nat.ne_of_lt (Heap.lt_size (Heap.get?_push_of_some _ h1))) (Heap.get?_push_size _ rfl) rfl (by first | (simp; done) | (simp; omega)) ?_
  refine hE _ _ ⟨_, Heap.get?_update_self _ (Heap.get?_push_size _ rfl) rfl, rfl⟩ fun b o hb e => ?_
  rw [Heap.get?_update_other _ _ (Nat.ne_of_gt (Heap.lt_size (Heap.get?_push_of_some _ (k b o hb e))))]
  exact Heap.get?_push_of_some _ (Heap.get?_push_of_some _ (k b o hb e))
theorem list_end_hot {it l : Addr} {i : Nat} {items : Array Value} {Q : Option Value → Shared → Prop} (hot : HotAt A x1 s.heap) (ne : x1 ≠ it) (hit : s.heap.IsListIter it l i) (hl : s.heap.IsList l items) (hx : items[i]? = none)
    (hQ : ∀ h', Heap.ExtBut it s.heap h' → Q none { s with heap := h' }) : wpAny (model prog w) A (pyNext (.ref it)) Q E s := by
  obtain ⟨oi, hoi, hci, hdi⟩ := id hit
  obtain ⟨ol, hol, _, nl, hdl⟩ := hl
  unfold pyNext
  refine wpAny_bind (wpAny_attempt (wpAny_callSpecial?_slot (name := Str.ofString "__next__") hit.typeIs slot_listiter_next (wpAny_call_entry slot_listiter_next hit.typeIs entry_listiter_next ?_ (args_listiter_next _))))
  show wpAny _ _ (field (.ref it) 0 >>= _) _ _ s
  refine wpAny_bind (wpAny_field hoi hdi (x := .ref l) rfl ?_)
  show wpAny _ _ (if (Value.ref l == Value.none) = true then _ else _) _ _ s
  rw [if_neg (show ¬ ((Value.ref l == Value.none) = true) from Bool.false_ne_true)]
  show wpAny _ _ (field (.ref it) 1 >>= _) _ _ s
  refine wpAny_bind (wpAny_field hoi hdi (x := .int i 0) rfl ?_)
  show wpAny _ _ (seqItems? (.ref l) >>= _) _ _ s
  refine wpAny_bind (wpAny_seqItems hol hdl ?_)
  simp only [Int.toNat_natCast, hx]
  refine wpAny_bind (wpAny_rule (wpAny_bind (wpAny_setField hoi hdi (by simp) ?_)))
  have kk : ∀ b o, b ≠ it → s.heap.get? b = some o → (s.heap.update it (Obj.mapFields (·.setIfInBounds 0 Value.none))).get? b = some o := fun b o hb e => (Heap.get?_update_other _ _ (Ne.symm hb)).trans e
  refine stop_hot (A := A.in1) (h0 := s.heap) (it := it) (hot_stays (A := A.in1) (h := s.heap) hot fun o e => kk _ o ne e) kk fun e h' ty ex => ?_
  exact wpAny_bind (wpAny_isInstance (T := "StopIteration") (b := true) ty isSubtype_stop (wpAny_pure (hQ h' ex)))
theorem tup_end_hot {it t : Addr} {i : Nat} {items : Array Value} {Q : Option Value → Shared → Prop} (hot : HotAt A x1 s.heap) (ne : x1 ≠ it) (hit : IsTupIter s.heap it t i) (ht : IsTup s.heap t items) (hx : items[i]? = none)
    (hQ : ∀ h', Heap.ExtBut it s.heap h' → Q none { s with heap := h' }) : wpAny (model prog w) A (pyNext (.ref it)) Q E s := by
  obtain ⟨oi, hoi, hci, hdi⟩ := id hit
  obtain ⟨ol, hol, _, nl, hdl⟩ := ht
  unfold pyNext
  refine wpAny_bind (wpAny_attempt (wpAny_callSpecial?_slot (name := Str.ofString "__next__") hit.typeIs slot_tupleiter_next (wpAny_call_entry slot_tupleiter_next hit.typeIs entry_tupleiter_next ?_ (args_tupleiter_next _))))
  show wpAny _ _ (field (.ref it) 0 >>= _) _ _ s
  refine wpAny_bind (wpAny_field hoi hdi (x := .ref t) rfl ?_)
  show wpAny _ _ (if (Value.ref t == Value.none) = true then _ else _) _ _ s
  rw [if_neg (show ¬ ((Value.ref t == Value.none) = true) from Bool.false_ne_true)]
  show wpAny _ _ (field (.ref it) 1 >>= _) _ _ s
  refine wpAny_bind (wpAny_field hoi hdi (x := .int i 0) rfl ?_)
  show wpAny _ _ (seqItems? (.ref t) >>= _) _ _ s
  refine wpAny_bind (wpAny_seqItems hol hdl ?_)
  simp only [Int.toNat_natCast, hx]
  refine wpAny_bind (wpAny_rule (wpAny_bind (wpAny_setField hoi hdi (by simp) ?_)))
  have kk : ∀ b o, b ≠ it → s.heap.get? b = some o → (s.heap.update it (Obj.mapFields (·.setIfInBounds 0 Value.none))).get? b = some o := fun b o hb e => (Heap.get?_update_other _ _ (Ne.symm hb)).trans e
  refine stop_hot (A := A.in1) (h0 := s.heap) (it := it) (hot_stays (A := A.in1) (h := s.heap) hot fun o e => kk _ o ne e) kk fun e h' ty ex => ?_
  exact wpAny_bind (wpAny_isInstance (T := "StopIteration") (b := true) ty isSubtype_stop (wpAny_pure (hQ h' ex)))
theorem apart_hot {t : Addr} {items : Array Value} {Q : List Value → Shared → Prop} (hot : HotAt A x1 s.heap) (ht : IsTup s.heap t items)
    (hQ : ∀ h', Heap.ExtBut s.heap.objs.size s.heap h' → Q items.toList { s with heap := h' }) : wpAny (model prog w) A (unpackItems (.ref t) items.size none) Q E s := by
  have ht1 : t ≠ s.heap.objs.size := by
    obtain ⟨o, ho, _⟩ := ht
    exact Nat.ne_of_lt (Heap.lt_size ho)
  have hx1 : x1 ≠ s.heap.objs.size := by
    obtain ⟨_, o, _, ho, _⟩ := hot
    exact Nat.ne_of_lt (Heap.lt_size ho)
  unfold unpackItems
  refine wpAny_bind ?_
  unfold notIterableAtAll
  refine wpAny_bind (wpAny_specialOf ht.typeIs slot_tuple_iter.lookup (wpAny_pure ?_))
  simp only [Bool.false_eq_true, if_false]
  refine wpAny_bind (wpAny_holding (iter_tuple ht (wpAny_bind (wpAny_holding (draw_tuple ht1 items.size 0 _ _ ⟨_, Heap.get?_push_size _ rfl, rfl, rfl⟩ (ht.push _) (by omega) fun h1 hi1 sb1 => ?_)))))
  rw [show List.take items.size (List.drop 0 items.toList) = items.toList from by rw [List.drop_zero]; exact List.take_of_length_le (by simp), if_neg (by simp)]
  refine wpAny_bind (wpAny_holding (tup_end_hot (hot_stays hot fun o e => sb1.extBut _ o hx1 (Heap.get?_push_of_some _ e)) hx1 hi1 ((ht.push _).extBut sb1.extBut ht1) (by simp) fun h2 eb2 => ?_))
  simp only [Option.isSome_none, Bool.false_eq_true, if_false]
  exact wpAny_pure (hQ h2 fun b o hb e => eb2 b o hb (sb1.extBut b o hb (Heap.get?_push_of_some _ e)))
theorem pull_hot {env : Env} {elts : List Expr} {kk : Nat} {pos : Pos} {t : Addr} {items : Array Value} {Q : Unit → Shared → Prop} (hot : HotAt A x1 s.heap) (ht : IsTup s.heap t items) (hn : (assignEach elts env).length = items.size)
    (hst : (assignEach elts env).findIdx? (·.1) = none) (h : ∀ h', Heap.ExtBut s.heap.objs.size s.heap h' → wpAny (model prog w) A (assignInOrder ((assignEach elts env).map (·.2)) items.toList) Q E { s with heap := h' }) :
    wpAny (model prog w) A (assign (.Tuple elts kk pos) env (.ref t)) Q E s := by
  rw [assign_Tuple]
  refine wpAny_bind (wpAny_standAt ?_)
  unfold unpack
  rw [hn, hst]
  exact wpAny_bind (wpAny_holding (apart_hot hot ht h))
end
/-! ### a context that bears the handled exception as a thing that stays -/
def Hott (X : Cx) : Prop := ∃ (a : Addr) (oe : Obj) (fs : Array Value), X.A.handled = some (.ref a) ∧ X.H_0 a = some (.frz oe xt) ∧ oe.data = .fields fs ∧ fs[2]? = some .none
section
variable {X : Cx} {pins : List (Addr × Obj)} {σ : L2.St} {H : Hp} {s : Shared}
theorem Hott.at (c : Hott X) (I : Inv X pins σ H s) : ∃ x1, HotAt X.A x1 s.heap ∧ H x1 ≠ none := by
  obtain ⟨a, oe, fs, hh, h0, hd, hc⟩ := c
  have q := I.base.frzs a oe xt h0
  exact ⟨a, ⟨hh, oe, fs, (I.hok a _ q).1, hd, hc⟩, by rw [q]; exact fun z => by cases z⟩
theorem pg_tupX {es : List Expr} {k : Nat} {t : TGs} {n : Nat} {pos : Pos} (hc : Hott X) (h : PGs X es t) (hn : (assignEach es X.env).length = n := by rfl) (hst : (assignEach es X.env).findIdx? (·.1) = none := by rfl) : PG X (.Tuple es k pos) (gTup X.K n t) := by
  refine ⟨fun pins s σ H v u Q I r hw => ?_⟩
  obtain ⟨b, xs, rfl, hq, hl, hw⟩ := hw
  cases r
  obtain ⟨its, rv, ht, _⟩ := I.tuple hq
  obtain ⟨x1, hot, _⟩ := hc.at I
  refine pull_hot hot ht (by simp [hn, ← hl, rv.length]) hst fun h' hx => ?_
  exact h.run pins _ σ H xs _ Q (I.kept (t' := s.toks) fun b o e => hx b o (Nat.ne_of_lt (Heap.lt_size e)) e) (by simpa using rv) hw
end
end Ex0

/-! A list comprehension over a list while an exception is handled. -/
namespace Ex0
open PySem PySem.Spec PyProof.Rows L2
open HotX (HotAt)
section
variable {X : Cx}
theorem lc_hot {pins : List (Addr × Obj)} {s : Shared} {σ : L2.St} {H : Hp} {Q : VK} {elt tg l : Expr} {ifs : List Expr} {scope : Scope} {own : List (Str × Nat)} {pos pos' : Pos} {tl : TE} {g : TG} {tt : TT} {te : TE} {use : Option (Value → Sem Unit)} {Qf : Value → Shared → Prop}
    (hc : Hott X) (hN : X.N.Nodup) (I : Inv X pins σ H s) (hl : PE X l tl) (ok : BlkOk X.N X.env.scope scope own)
    (hg : ∀ s H C cl fp, Hott (X.blk s H scope (compEnvC scope cl C X.env) fp) → PG (X.blk s H scope (compEnvC scope cl C X.env) fp) tg g) (ht : ∀ s H C cl fp, PTs (X.blk s H scope (compEnvC scope cl C X.env) fp) ifs tt)
    (he : ∀ s H C cl fp, PE (X.blk s H scope (compEnvC scope cl C X.env) fp) elt te) (hs : ∀ x, foldedSetIterable l X.env x = pure x) (h : tLc (iList X.K tl) g tt te (own.map (·.2)) σ H Q)
    (hRR : ∀ D C s' m H', Inv X pins σ H' s' → Q (.ref D) H' → s'.heap.Ns C m → FpOk X pins H' C → compPost (model X.prog X.w) X.A X.xe use Qf (.ref D) C (.ok .next) s') :
    wpAny (model X.prog X.w) X.A (comprehension (.ListComp elt [⟨tg, l, ifs, 0⟩] scope pos) scope X.env pos' (newList []) false (eval l X.env) use) Qf X.xe s := by
  have frees : ∀ y ∈ scope.names, y.2 = .free → ∃ c, X.env.cells.lookup y.1 = some c := fun y hy e => (ok.free y hy e).elim (fun k => I.ok.has _ (.inl k)) fun k => I.ok.has _ (.inr k)
  refine wpAny_comprehension_free (use := use) rfl hs (closure_ok frees) ok.kind (fun y hy e => by rw [ok.uniq y hy, e]) (thn (hl.run pins s σ H _ I h) fun xv s1 hx => ?_)
  obtain ⟨x, H1, I1, r1, a, rfl, ⟨xs0, hq0⟩, q⟩ := hx
  cases r1
  obtain ⟨its0, _, p0, _⟩ := I1.list hq0
  refine wpAny_pyIter_list p0.isList ?_
  have f1 : FpOk X pins H1 s1.heap.objs.size := I1.fpOk (Nat.le_refl _) (I1.hok.fresh (Nat.le_refl _))
  have I2 : Inv X pins σ H1 { s1 with heap := s1.heap.push { cls := .type "list_iterator", data := .fields #[.ref a, .int 0 0] } } := I1.kept (t' := s1.toks) fun b o e => Heap.get?_push_of_some _ e
  have it2 : Heap.IsListIter (s1.heap.push { cls := .type "list_iterator", data := .fields #[.ref a, .int 0 0] }) s1.heap.objs.size a 0 := ⟨_, Heap.get?_push_size _ rfl, rfl, rfl⟩
  generalize s1.heap.objs.size = it at f1 it2 ⊢
  change wpAny _ _ _ _ _ ({ s1 with heap := s1.heap.push { cls := .type "list_iterator", data := .fields #[.ref a, .int 0 0] } } : Shared)
  generalize hs2 : ({ s1 with heap := s1.heap.push { cls := .type "list_iterator", data := .fields #[.ref a, .int 0 0] } } : Shared) = s2 at I2 ⊢
  have it2 : s2.heap.IsListIter it a 0 := by rw [← hs2]; exact it2
  refine wpAny_newObj_type (newEnv_comp ?_) (by show 0 ≤ sizeLine; decide)
  have nD : H1 s2.heap.objs.size = none := I2.hok.fresh (Nat.le_refl _)
  obtain ⟨W, ⟨m0, w0⟩, turn⟩ := q _ nD
  have lt2 : it < s2.heap.objs.size := by
    obtain ⟨o, e, _⟩ := it2
    exact Heap.lt_size e
  have I3 : Inv X pins σ (upd H1 s2.heap.objs.size (.lst [])) { s2 with heap := s2.heap.push { cls := .type "list", data := .seq ([] : List Value).toArray } } :=
    I2.laid (t' := s2.toks) (fun b o e => Heap.get?_push_of_some _ e) (Nat.le_refl _) ⟨Nat.zero_le _, [], 0, .nil, Heap.get?_push_size _ rfl⟩
  have f3 : FpOk X pins (upd H1 s2.heap.objs.size (.lst [])) it := ⟨by rw [upd_ne (Nat.ne_of_lt lt2)]; exact f1.1, f1.2⟩
  have it3 : Heap.IsListIter (s2.heap.push { cls := .type "list", data := .seq ([] : List Value).toArray }) it a 0 := it2.at fun o e => Heap.get?_push_of_some _ e
  have lt3 : it < (s2.heap.push { cls := .type "list", data := .seq ([] : List Value).toArray }).objs.size := by
    rw [Heap.size_push]
    exact Nat.lt_succ_of_lt lt2
  generalize s2.heap.objs.size = D at *
  generalize upd H1 D (.lst []) = H3 at *
  generalize hs3 : ({ s2 with heap := s2.heap.push { cls := .type "list", data := .seq ([] : List Value).toArray } } : Shared) = s3 at I3 ⊢
  have e3 : s3.heap = s2.heap.push { cls := .type "list", data := .seq ([] : List Value).toArray } := by rw [← hs3]
  rw [← e3] at it3 lt3
  have I4 := block_start (fp := [it]) I3 ok hN fun b hb => by rw [List.mem_singleton.mp hb]; exact ⟨f3, lt3⟩
  have pg := hg s3 H3 s3.heap.objs.size (cellsFrom (s3.heap.objs.size + 1) scope.names (cloFrom X.env.cells scope.names [])) [it]
  have pt := ht s3 H3 s3.heap.objs.size (cellsFrom (s3.heap.objs.size + 1) scope.names (cloFrom X.env.cells scope.names [])) [it]
  have pe := he s3 H3 s3.heap.objs.size (cellsFrom (s3.heap.objs.size + 1) scope.names (cloFrom X.env.cells scope.names [])) [it]
  have goal : codeAny (model X.prog X.w) X.A (.compStart (.ListComp elt [⟨tg, l, ifs, 0⟩] scope pos) 0 (.ref it) (.ref D) (compEnvC scope (cellsFrom (s3.heap.objs.size + 1) scope.names (cloFrom X.env.cells scope.names [])) s3.heap.objs.size X.env))
      (compPost (model X.prog X.w) X.A X.xe use Qf (.ref D) s3.heap.objs.size) { s3 with heap := pushCells (s3.heap.push { cls := .type "dict", data := .dict #[] }) scope.names } := by
    generalize hv : compEnvC scope (cellsFrom (s3.heap.objs.size + 1) scope.names (cloFrom X.env.cells scope.names [])) s3.heap.objs.size X.env = cv at I4 pg pt pe ⊢
    have lv : cv.locals = s3.heap.objs.size := by rw [← hv]; rfl
    have it4 : (pushCells (s3.heap.push { cls := .type "dict", data := .dict #[] }) scope.names).IsListIter it a 0 := it3.at fun o e => pushCells_keeps _ _ _ _ (Heap.get?_push_of_some _ e)
    have hot : Hott (X.blk s3 H3 scope cv [it]) := by
      obtain ⟨b, oe, fs, hh, h0, hd, hx⟩ := hc
      exact ⟨b, oe, fs, hh, I3.base.frzs b oe xt h0, hd, hx⟩
    have pg := pg hot
    generalize hs4 : ({ s3 with heap := pushCells (s3.heap.push { cls := .type "dict", data := .dict #[] }) scope.names } : Shared) = s4 at I4 ⊢
    have it4 : s4.heap.IsListIter it a 0 := by rw [← hs4]; exact it4
    have stat : ∀ {σ' : L2.St} {H' : Hp} {s' : Shared}, Inv (X.blk s3 H3 scope cv [it]) [] σ' H' s' → H' it = none → FpOk (X.blk s3 H3 scope cv [it]) [] H' it := fun {σ' H' s'} J n =>
      ⟨n, (J.ok.exf it (List.mem_singleton.mpr rfl)).1, J.ok.exfs it (List.mem_singleton.mpr rfl), .inl (List.mem_singleton.mpr rfl), fun x c e => (J.ok.exf it (List.mem_singleton.mpr rfl)).2 x c e, fun p hp => by cases hp⟩
    refine codeAny_compStart_list ?_ (wpAny_pyIter_listiter it4 ?_)
    all_goals
      refine compLoop_any (fun n s' => ∃ i H', Inv (X.blk s3 H3 scope cv [it]) [] (wipe σ (own.map (·.2))) H' s' ∧ s'.heap.IsListIter it a i ∧ H' it = none ∧ W i n H') ?_ m0 ⟨0, H3, I4, it4, f3.1, w0⟩
      rintro n s5 ⟨i, H5, I5, it5, n5, w5⟩
      obtain ⟨f0, g1, g2, g3, g4, g5⟩ := stat I5 n5
      rcases turn i n H5 w5 with ⟨⟨xs, hq, hx⟩, qq⟩ | ⟨⟨xs, x, hq, hx⟩, Nx, hNx, step⟩
      · obtain ⟨its, rv, p, _⟩ := I5.list hq
        obtain ⟨x1, ho, nx⟩ := hot.at I5
        have len := rv.length
        refine list_end_hot ho (fun z => nx (z ▸ n5)) it5 p.isList (by simp; omega) fun h' eb => ?_
        have I6 : Inv (X.blk s3 H3 scope cv [it]) [] (wipe σ (own.map (·.2))) H5 { s5 with heap := h' } := I5.turned (t' := s5.toks) (fun b o hb e => eb b o hb e) f0 g1 g3 g4 g5
        have I7 : Inv X pins σ H5 { s5 with heap := h' } := I3.call' (ch := [it]) I6.os I6.base I6.hok I6.bare fun b hb => by
          rw [List.mem_singleton.mp hb]
          exact ⟨f3.2.2.2.1, f3.2.1, f3.2.2.2.2.1, f3.2.2.2.2.2⟩
        have nC : H5 s3.heap.objs.size = none := by
          have z : H5 cv.locals = none := I6.free
          rwa [lv] at z
        obtain ⟨m, hn, _⟩ := I6.loc
        have hn : h'.Ns cv.locals m := hn
        rw [lv] at hn
        exact hRR D _ _ m H5 I7 qq hn (I3.fpOk (Nat.le_refl _) nC)
      · obtain ⟨its, rv, p, _⟩ := I5.list hq
        obtain ⟨u, hu, ru⟩ := rv.get hx
        refine wpAny_pyNext_list_item it5 p.isList (x := u) (by simpa using hu) fun h' it6 sb => ?_
        have I6 : Inv (X.blk s3 H3 scope cv [it]) [] (wipe σ (own.map (·.2))) H5 { s5 with heap := h' } := I5.turned (t' := s5.toks) (fun b o hb e => (sb.2 b hb).trans e) f0 g1 g3 g4 g5
        have y7 : (Itl X.K a).yld i H5 x H5 := ⟨rfl, fun ys hy => by rw [I5.list_inj hy hq]; exact hx⟩
        obtain ⟨oi, eo, co, dd⟩ := id it6
        refine go_of (s := { s5 with heap := h' }) eo co dd (by decide) ?_
        have I8 := I6.pinned (fp := [it]) (fun b hb => by rw [List.mem_singleton.mp hb]; exact stat I6 n5) fun b hb => by
          rw [List.mem_singleton.mp hb]
          exact ⟨oi, eo, fun v z => by rw [dd] at z; cases z⟩
        refine thnF (pg.run _ _ _ H5 x u _ I8 ru (step x H5 y7)) fun _ s8 ⟨σ8, H8, I9, w8, q8⟩ => ?_
        refine thnF (pt.run _ s8 σ8 H8 _ I9 q8) fun b s9 ⟨H9, I10, q9⟩ => ?_
        have fin : ∀ {s' : Shared} {H' : Hp}, Inv (X.blk s3 H3 scope cv [it]) ([] ++ pinsAt [it] h') σ8 H' s' → Nx H' → ∃ m, m < n ∧ ∃ i H', Inv (X.blk s3 H3 scope cv [it]) [] (wipe σ (own.map (·.2))) H' s' ∧ s'.heap.IsListIter it a i ∧ H' it = none ∧ W i m H' := fun {s' H'} J nx => by
          obtain ⟨m', hm, w'⟩ := hNx H' nx
          have z := J.pin (it, oi) (List.mem_append_right _ (List.mem_append_right _ (mem_pinsAt (List.mem_singleton.mpr rfl) eo)))
          refine ⟨m', hm, i + 1, H', (J.unpinned (pins := [])).weak (by rw [← w8, wipe_length]) (fun j v e => ?_), it6.at fun o e => ?_, z.2.1, w'⟩
          · rw [← w8] at e
            exact (wipe_some e).1
          · have e : h'.get? it = some o := e
            rw [eo] at e
            cases e
            exact z.1
        cases b with
        | false =>
          simp only [Bool.false_eq_true, if_false] at q9 ⊢
          exact fin I10 q9
        | true =>
          simp only [if_true] at q9 ⊢
          refine thnF (pe.run _ s9 σ8 H9 _ I10 q9) fun z s10 ⟨yv, H10, I11, r10, acc, hD, hz, nx⟩ => ?_
          exact app_ok (X := X.blk s3 H3 scope cv [it]) I11 hD hz r10 fun s11 I12 => fin I12 nx
  subst hs3
  exact goal
/-- name = [..] on one line, the name a local -/
theorem ps_lcHot {i : Nat} {y : Str} {py : Pos} {elt tg l : Expr} {ifs : List Expr} {scope : Scope} {own : List (Str × Nat)} {pos spos : Pos} {tl : TE} {g : TG} {tt : TT} {te : TE} (hc : Hott X) (hN : X.N.Nodup) (hy : X.N[i]? = some y) (hyl : X.env.scope.names.lookup y = some .local)
    (hsw : swapsWith (.ListComp elt [⟨tg, l, ifs, 0⟩] scope pos) (some (.Name y py)) spos.line X.env = pure true) (hl : PE X l tl) (ok : BlkOk X.N X.env.scope scope own)
    (hg : ∀ s H C cl fp, Hott (X.blk s H scope (compEnvC scope cl C X.env) fp) → PG (X.blk s H scope (compEnvC scope cl C X.env) fp) tg g) (ht : ∀ s H C cl fp, PTs (X.blk s H scope (compEnvC scope cl C X.env) fp) ifs tt)
    (he : ∀ s H C cl fp, PE (X.blk s H scope (compEnvC scope cl C X.env) fp) elt te) (hs : ∀ x, foldedSetIterable l X.env x = pure x := by intro _; rfl) :
    PS X (.Assign [.Name y py] (.ListComp elt [⟨tg, l, ifs, 0⟩] scope pos) spos) (tAsg (tLc (iList X.K tl) g tt te (own.map (·.2))) (gName i)) := by
  refine ⟨fun pins s σ H D I h => ?_⟩
  rw [exec_Assign_Name_used _ _ _ _ hsw]
  refine wpAny_bind (wpAny_standAt (wpAny_bind ?_))
  change wpAny _ X.A (do let _ ← comprehension (.ListComp elt [⟨tg, l, ifs, 0⟩] scope pos) scope X.env (firstIterPos [⟨tg, l, ifs, 0⟩] pos) (newList []) false (eval l X.env) (some (assign (.Name y py) X.env))) _ _ s
  refine wpAny_bind (thn (lc_hot (Q := fun x H1 => gName i x σ H1 D.nx) (Qf := fun _ s' => SP X pins D .next s') hc hN I hl ok hg ht he hs h fun L C s' m H' J q hn f => ?_) fun _ s' hq => wpAny_pure (wpAny_pure hq))
  change wpAny _ _ (assign (.Name y py) X.env (.ref L)) _ _ _
  refine wpAny_assign_Name (store_ok2 (v := V.ref L) J hN hy (.inl hyl) rfl (fun s2 J2 ⟨b, sb, hb⟩ => ?_) (.inr hyl))
  obtain ⟨f0, f1, f2, f3, f4, f5⟩ := f
  have nb : C ≠ b := hb.elim (fun z => by rw [z]; exact f1) fun z e => f4 y b z e.symm
  exact ⟨m, hn.sameBut sb nb, fun h3 sb3 => ⟨_, H', J2.turned (t' := s2.toks) (fun b o hb e => (sb3.2 b hb).trans e) f0 f1 f3 f4 f5, q⟩⟩
end
end Ex0

/-! A def that is handed the exception in the suite that holds it. -/
namespace Ex0
open PySem PySem.Spec PyProof.Rows L2
open HotX (HotAt)
structure FnE (P : Program) (w : World) (K : PySem.W.Frag) (mg : Str → Option Value) (base : Heap) (k : Nat) (f : Addr) (fd : FuncData) (ps : List Str) (sp : Sp) : Prop where
  len : ∀ vs H Q E, sp vs H Q E → vs.length = ps.length
  run : ∀ (A : Around) (outer : List Env) (s : Shared) (H : Hp) (us : List Value) (vs : List V) (Q : VK) (a : Addr) (oe : Obj) (fs : Array Value), L2H.RoomH k A → A.handled = some (.ref a) → H a = some (.frz oe xt) → oe.data = .fields fs → fs[2]? = some .none →
    Env0 P w K mg base A outer s H → BindsTo s fd ⟨us, []⟩ (ps.zip us) → Vals vs us → sp vs H Q E0 → codeAny (model P w) A (.call (.ref f) ⟨us, []⟩) (CR CX0 outer P w H s Q E0) s
abbrev cxE (P : Program) (w : World) (K : PySem.W.Frag) (mg : Str → Option Value) (base : Heap) (N : List Str) (qual : Str) (scope : Scope) (f : Addr) (cd : Value) (A : Around) (outer : List Env) (s : Shared) (H : Hp) (p : Addr × Obj) : Cx :=
  L2H.cxH CX0 P w K mg base N qual scope f cd A outer s H E0 p
/-- THE RULE for such a def -/
theorem fnE_of {P : Program} {w : World} {K : PySem.W.Frag} {mg : Str → Option Value} {base : Heap} {x qual : Str} {params : Arguments} {body : List Stmt} {scope : Scope} {dvs : List V} {kws : List (Str × V)} {f : Addr} {fd : FuncData} {N ps : List Str} {k : Nat} {sp : Sp}
    (F : FunD K x qual params body scope dvs kws f fd) (S : FnScope N ps scope) (len : ∀ vs H Q E, sp vs H Q E → vs.length = ps.length)
    (hbody : ∀ (cdv : Value) (A : Around) (outer : List Env) (s : Shared) (H : Hp) (vs : List V) (Q : VK) (p : Addr × Obj), L2H.RoomH k (A.deeper (envOfC qual scope s.heap.objs.size f cdv)) → Hott (cxE P w K mg base N qual scope f cdv A outer s H p) → sp vs H Q E0 →
      ∃ t, PSs (cxE P w K mg base N qual scope f cdv A outer s H p) body t ∧ t { nx := fun _ H' => Q .non H', rt := Q } (L2.start N vs) H) : FnE P w K mg base (k + 1) f fd ps sp := by
  obtain ⟨oc, od, dV, kV, doc, pm, an, cdv, ct, osl, rfl, lk, hcd, _, _⟩ := F.ex
  refine ⟨len, fun A outer s H us vs Q a oe fs hr hh h0 hd hx e0 hb r hsp => ?_⟩
  have hl := len _ _ _ _ hsp
  have KX : K.In s.heap := e0.mod.kin.keeps fun b o e => (e0.bs b o e).1
  have lim : s.heap.NoLimit := e0.mod.nolimit.keeps fun b o e => (e0.bs b o e).1
  obtain ⟨o, es, ep, eo, dO, _⟩ := e0.mod.glob
  have pin : L2H.PinOk outer H s (mainGlobals, o) := by
    refine ⟨(e0.bs _ o eo).1, (e0.bs _ o eo).2, fun hm => ?_, fun v z => ?_⟩
    · have q := (e0.funs.mem hm).1
      rw [eo] at q
      cases q
    · have z : o.data = .cell v := z
      rw [dO] at z
      cases z
  have kinds : ∀ y ∈ ps.zip us, scope.names.lookup y.1 = some .local ∨ (scope.names.lookup y.1 = some .cell ∧ ((cellsFrom (s.heap.objs.size + 1) scope.names []).lookup y.1).isSome = true) := fun ⟨n, v⟩ hy =>
    (S.par n (List.of_mem_zip hy).1).elim .inl fun q => .inr ⟨q, PySem.W.cellsFrom_some _ _ _ (.inl q)⟩
  refine codeAny_call_function hr.depth (KX _ _ lk) rfl S.co S.gen rfl (PySem.W.codeRec_of KX hcd) (hb _ _ _ _ (wpAny_newFunctionEnv_cells S.kind kinds fun env he s1 y => ?_))
  subst he
  refine ⟨lim.keeps y.toInCall.keep, codeAny_func ?_⟩
  obtain ⟨t, ht, hq⟩ := hbody cdv A outer s H vs Q (mainGlobals, o) (hr.deeper _) ⟨a, oe, fs, hh, h0, hd, hx⟩ hsp
  have I : Inv (cxE P w K mg base N qual scope f cdv A outer s H (mainGlobals, o)) [] (L2.start N vs) H s1 := L2H.inv_startH S pin e0 hl r y
  refine wpAny_mono (ht.run [] s1 (L2.start N vs) H _ I hq) (fun fl s' q => ?_) fun _ _ q => q
  cases fl with
  | ret u =>
    obtain ⟨v, σ', H', J, rv, q⟩ := q
    exact ⟨v, H', J.os, J.bare, J.base, J.hok, rv, q⟩
  | next =>
    obtain ⟨σ', H', J, q⟩ := q
    exact ⟨V.non, H', J.os, J.bare, J.base, J.hok, rfl, q⟩
  | brk =>
    obtain ⟨_, _, _, q⟩ := q
    exact q.elim
  | cont =>
    obtain ⟨_, _, _, q⟩ := q
    exact q.elim
def CalE (P : Program) (w : World) (K : PySem.W.Frag) (mg : Str → Option Value) (base : Heap) (k : Nat) (x : Str) (ps : List Str) (sp : Sp) : Prop :=
  ∃ f fd, FnE P w K mg base k f fd ps sp ∧ mg x = some (.ref f) ∧ PySem.W.keepIn K (.ref f) = true ∧ Binds K fd ps []
/-- f(error), error the exception that the suite holds: of the class at C, with no dict -/
def tAsk (sp : Sp) (a C : Addr) (cls : Value) (d : Option Addr) (t : TA) : TE := fun σ H Q => t σ H fun vs H1 => H1 a = none →
  cls = .ref C ∧ d = none ∧ ∀ oe : Obj, oe.cls = .ref C → oe.dict = none → (∃ fs, oe.data = .fields fs) → sp vs (upd H1 a (.frz oe xt)) (fun v H' => H' a = some (.frz oe xt) → Q v (era a H')) E0
theorem pe_ask {X : Cx} {a C : Addr} {oe : Obj} {cls : Value} {d : Option Addr} {pn : List (Addr × Obj)} {k j : Nat} {x : Str} {ps : List Str} {sp : Sp} {e : Expr} {p pos : Pos} {t : TA} (CK : ∀ base, CalE X.prog X.w X.K X.mg base k x ps sp)
    (hz : L2N.Zn cls d oe) (hf : ∃ vs, oe.data = .fields vs) (nK : ∀ b o, X.K.lookup b = some o → o.cls ≠ .ref C) (hr : Room j X.A) (hj : k ≤ j) (ha : PA (X.suite a ((a, oe) :: pn)) (e :: []) t)
    (hg : Gl X x := by rfl) (hdb : (x == ("__debug__" : Str)) = false := by decide) (he : starEach (e :: []) X.env = (false, eval e X.env) :: starEach [] X.env := by rfl) (hpl : (backTo pos (starEach [] X.env)).any (·.1) = false := by rfl) :
    PE (X.suite a ((a, oe) :: pn)) (.Call (.Name x p) (e :: []) [] pos) (tAsk sp a C cls d t) := by
  obtain ⟨f, fd, F, hm, hk, hb⟩ := CK (PySem.W.hideAll X.base [a])
  refine ⟨fun pins s σ H Q I h => wpAny_Call_Name_kw (ld_glob I hg hm ?_ hdb)⟩
  refine PySem.W.callWith_K (h₀ := X.base) I.ok.mod.kin hk (thn (ha.run pos pins s σ H _ I h) fun us s1 ⟨vs, H1, I1, r, q⟩ => ⟨I1.kIn, ?_⟩) he hpl
  obtain ⟨hget, na, nL, nF, _⟩ := I1.pin (a, oe) (List.mem_append.mpr (.inl List.mem_cons_self))
  obtain ⟨e1, e2, q⟩ := q na
  obtain ⟨z1, z2, z3⟩ := hz
  have q := q oe (z1.trans e1) (z2.trans e2) hf
  obtain ⟨fs, hd⟩ := hf
  have hlen : us.length = ps.length := by rw [← r.length]; exact F.len _ _ _ _ q
  have nKa : X.K.lookup a = none := by
    cases w : X.K.lookup a with
    | none => rfl
    | some o =>
      have w2 := I1.kIn a o w
      rw [hget] at w2
      have w2 := Option.some.inj w2
      subst w2
      exact absurd (z1.trans e1) (nK a _ w)
  have b := hb s1 us I1.kIn (by rw [List.append_nil]; exact hlen)
  rw [List.append_nil] at b
  have hr := hr.mono hj
  have room : L2H.RoomH k (X.suite a ((a, oe) :: pn)).A := ⟨hr.dp, hr.un⟩
  refine wpAny_call (codeAny_mono (F.run _ _ s1 _ us vs _ a oe fs room rfl upd_same hd (z3 fs hd) (hold_in I1 hget hd na nKa nL nF) b r q) fun r s' hq => ?_)
  cases r with
  | error e => exact hq.elim
  | ok fl =>
    cases fl with
    | ret u => exact hold_out I1 hget na nL nF hq fun v H' h1 h2 => h2 h1
    | next => exact False.elim hq
    | brk => exact False.elim hq
    | cont => exact False.elim hq
end Ex0

/-! Refusals as data: a def that raises, the suite that asks which class it was. -/
namespace Pl
open PySem PySem.Spec PyProof.Rows L2
open Evl (Ex)
section
variable {K : PySem.W.Frag} {X : Cx}
theorem ok_isEr (h : X.K = K) : CallR X (.builtin "isinstance") (Ex0.rIsEr K) := by subst h; exact Ex0.call_isEr
theorem rc_isEr {C B : Addr} {b : Bool} (c : ExcC K C) (h : PySem.W.kitOne K (.ref C) (.ref B) = some b) : RC K (Ex0.rIsEr K) [.er C, .adr B] (.bl b) := fun S H vs e r Q q => by
  cases r with
  | cons h1 t1 =>
    cases t1 with
    | cons h2 t2 =>
      cases t2
      cases h2
      cases h1 with
      | er hs hc hd hv => exact ⟨_, _, _, _, _, .ref B, b, rfl, e _ _ hs, hc, hd, hv, c, fun w z => z, h, q _ S H (Ext.refl e) (.bl b)⟩
theorem rc_isErT {C : Addr} {n : String} {b : Bool} (c : ExcC K C) (h : PySem.W.kitOne K (.ref C) (.type n) = some b) : RC K (Ex0.rIsEr K) [.er C, .ty n] (.bl b) := fun S H vs e r Q q => by
  cases r with
  | cons h1 t1 =>
    cases t1 with
    | cons h2 t2 =>
      cases t2
      cases h2
      cases h1 with
      | er hs hc hd hv => exact ⟨_, _, _, _, _, .type n, b, rfl, e _ _ hs, hc, hd, hv, c, fun w z => z, h, q _ S H (Ext.refl e) (.bl b)⟩
theorem ok_tupX {es : List Expr} {k n : Nat} {t : TGs} {pos : Pos} (hK : X.K = K) (hc : Ex0.Hott X) (h : PGs X es t) (hn : (assignEach es X.env).length = n := by rfl) (hst : (assignEach es X.env).findIdx? (·.1) = none := by rfl) : PG X (.Tuple es k pos) (gTup K n t) := by
  subst hK
  exact Ex0.pg_tupX hc h hn hst
theorem ok_lcHot {i : Nat} {y : Str} {py : Pos} {elt tg l : Expr} {ifs : List Expr} {scope : Scope} {own : List (Str × Nat)} {pos spos : Pos} {tl : TE} {g : TG} {tt : TT} {te : TE} (hK : X.K = K) (hc : Ex0.Hott X) (hN : X.N.Nodup) (hy : X.N[i]? = some y) (hyl : X.env.scope.names.lookup y = some .local)
    (hsw : swapsWith (.ListComp elt [⟨tg, l, ifs, 0⟩] scope pos) (some (.Name y py)) spos.line X.env = pure true) (hl : PE X l tl) (ok : BlkOk X.N X.env.scope scope own)
    (hg : ∀ s H C cl fp, Ex0.Hott (X.blk s H scope (compEnvC scope cl C X.env) fp) → PG (X.blk s H scope (compEnvC scope cl C X.env) fp) tg g) (ht : ∀ s H C cl fp, PTs (X.blk s H scope (compEnvC scope cl C X.env) fp) ifs tt)
    (he : ∀ s H C cl fp, PE (X.blk s H scope (compEnvC scope cl C X.env) fp) elt te) (hs : ∀ x, foldedSetIterable l X.env x = pure x := by intro _; rfl) :
    PS X (.Assign [.Name y py] (.ListComp elt [⟨tg, l, ifs, 0⟩] scope pos) spos) (tAsg (tLc (iList K tl) g tt te (own.map (·.2))) (gName i)) := by
  subst hK
  exact Ex0.ps_lcHot hc hN hy hyl hsw hl ok hg ht he hs
end
/-! ### what the classes say -/
def excB (K : PySem.W.Frag) (C : Addr) : Bool :=
  decide (PySem.W.findIn K (.ref C) "__getattribute__" = some (some (.builtin "BaseException.__getattribute__"))) && (decide (PySem.W.findIn K (.ref C) "__getattr__" = some none) && (decide (PySem.W.subIn K (.ref C) (.type "BaseException") = some true) && (PySem.W.hasDictIn K C &&
  (decide (PySem.W.findIn K (.ref C) "__class__" = some (some (.builtin "object.__class__"))) && (decide (PySem.W.specialIn K (.builtin "object.__class__") "__get__" = some (some (.builtin "getset_descriptor.__get__"))) && (decide (PySem.W.takesIn K (.builtin "object.__class__") = some true) && decide (PySem.W.mroIn K C (.type "object") = some true)))))))
theorem excB_ok {K : PySem.W.Frag} {C : Addr} (h : excB K C = true) : ExcC K C := by
  unfold excB at h
  simp only [Bool.and_eq_true, decide_eq_true_eq] at h
  obtain ⟨h1, h2, h3, h4, h5, h6, h7, h8⟩ := h
  exact ⟨h1, h2, h3, h4, h5, h6, h7, h8⟩
/-- of a class: what isinstance says of its instances, by names; and nothing written is one of them -/
def kindB (x : Str) (ys : List (Str × Bool)) (K : PySem.W.Frag) : Bool :=
  excB K (He.ga K x) && ((ys.all fun y => decide (PySem.W.kitOne K (.ref (He.ga K x)) (.ref (He.ga K y.1)) = some y.2)) && (decide (PySem.W.kitOne K (.ref (He.ga K x)) (.type "ValueError") = some true) && K.all fun p => decide (p.2.cls ≠ .ref (He.ga K x))))
structure Kind (x : Str) (ys : List (Str × Bool)) (K : PySem.W.Frag) : Prop where
  exc : ExcC K (He.ga K x)
  is : ∀ y ∈ ys, PySem.W.kitOne K (.ref (He.ga K x)) (.ref (He.ga K y.1)) = some y.2
  ve : PySem.W.kitOne K (.ref (He.ga K x)) (.type "ValueError") = some true
  no : ∀ b o, K.lookup b = some o → o.cls ≠ .ref (He.ga K x)
theorem kindB_ok {x : Str} {ys : List (Str × Bool)} {K : PySem.W.Frag} (h : kindB x ys K = true) : Kind x ys K := by
  unfold kindB at h
  simp only [Bool.and_eq_true, decide_eq_true_eq, List.all_eq_true] at h
  obtain ⟨h1, h2, h3, h4⟩ := h
  exact ⟨excB_ok h1, h2, h3, fun b o e => h4 (b, o) (He.lookup_mem e)⟩
/-- the classes, and the law's words for them -/
def classes7 : List (Str × Str) := [("BadCount", "count"), ("BadBar", "bar"), ("NoBar", "none"), ("Full", "full"), ("NotLean", "crowd"), ("Loose", "loose"), ("BadStep", "step")]
def kinds7 (x : Str) : List (Str × Bool) := classes7.map fun p => (p.1, p.1 == x)
theorem Kind.at {x y z : Str} {K : PySem.W.Frag} (k : Kind x (kinds7 x) K) (h : (y, z) ∈ classes7) : PySem.W.kitOne K (.ref (He.ga K x)) (.ref (He.ga K y)) = some (y == x) := k.is (y, y == x) (List.mem_map.mpr ⟨(y, z), h, rfl⟩)
/-! ### a def that raises -/
section
variable (K : PySem.W.Frag)
def spX (C : Addr) (Rel : List D → Prop) : Sp := fun vs H _ E => ∃ S ds, Ex S H ∧ RdL K S vs ds ∧ Rel ds ∧ ∀ S' H', Ext S H S' H' → E (.ref C) none H'
def Up (E : XK) (C : Addr) (t : TS) (ρ : Rho) : Prop := ∀ S0 H0 S H σ Dd, Stt K S0 H0 ρ S H σ → (∀ S' H', Ext S0 H0 S' H' → E (.ref C) none H') → t Dd σ H
end
section
variable {K : PySem.W.Frag} {E : XK} {C : Addr} {t u : TS} {ρ ρ1 : Rho} {c : TT}
theorem Up.raise : Up K E C (fun _ _ H => E (.ref C) none H) ρ := fun S0 H0 S H σ Dd s q => q S H s.ext
theorem Up.seq (h : T K t ρ { nx := fun r => r = ρ1 }) (k : Up K E C u ρ1) : Up K E C (tSeq t u) ρ := fun S0 H0 S H σ Dd s q =>
  h S0 H0 S H σ _ s ⟨fun r S' H' σ' e _ s' => by subst e; exact k S0 H0 S' H' σ' Dd s' q, fun _ _ _ _ z => z.elim, fun _ _ _ _ z => z.elim, fun _ _ _ _ z => z.elim, fun _ _ _ _ _ z => z.elim⟩
theorem Up.first (h : Up K E C t ρ) : Up K E C (tSeq t u) ρ := fun S0 H0 S H σ Dd s q => h S0 H0 S H σ _ s q
theorem Up.if (h : EvT K c ρ true) (k : Up K E C t ρ) : Up K E C (tIfS c t u) ρ := fun S0 H0 S H σ Dd s q => h S H σ s.ext.sub s.env _ fun S' H' x => by
  show t Dd σ H'
  exact k S0 H0 S' H' σ Dd (s.go x) q
theorem Up.fin {N : List Str} {Rel : List D → Prop} {vs : List V} {H : Hp} {Q : VK} (h : spX K C Rel vs H Q E) (k : ∀ ds, Rel ds → Up K E C t (startR N.length ds)) : t { nx := fun _ H' => Q .non H', rt := Q } (L2.start N vs) H := by
  obtain ⟨S, ds, e, r, rel, q⟩ := h
  exact k ds rel S H S H _ _ (stt_start e r) q
end
/-! ### the suite -/
theorem strs_of {K : PySem.W.Frag} {S : Hp} : ∀ {ws : List Str} {vs : List V}, RdL K S vs (ws.map D.str) → vs = ws.map V.str
  | [], _, .nil => rfl
  | _ :: _, _, .cons h r => by cases h; rw [strs_of r]; rfl
theorem rd_strs {K : PySem.W.Frag} {S : Hp} : ∀ (ws : List Str), RdL K S (ws.map V.str) (ws.map D.str)
  | [] => .nil
  | x :: ws => .cons (.str x) (rd_strs ws)
section
variable {K : PySem.W.Frag} {Rel : List D → List D → Prop} {a C : Addr} {cls : Value} {d : Option Addr} {i : Nat} {ws : List Str} {S H : Hp} {σ : L2.St} {Q : VK}
/-- the suite's question -/
theorem ask_of (hc : cls = .ref C) (hd : d = none) (rel : Rel [.er C] (ws.map D.str)) (e : Ex S H) (hs : σ[i]? = some (some (.ref a))) (na : H a = none)
    (q : ∀ p H', Ext S H S H' → H' p = some (.lst (ws.map V.str)) → Q (.ref p) H') : Ex0.tAsk (spF K Rel) a C cls d (tCons (tVar i) tNil) σ H Q := by
  refine ⟨.ref a, hs, fun _ => ⟨hc, hd, fun oe c1 c2 c3 => ?_⟩⟩
  have sa : S a = none := sub_none e na
  have e1 : Ex (upd S a (.frz oe Ex0.xt)) (upd H a (.frz oe Ex0.xt)) := fun b o z => by
    by_cases hb : b = a
    · subst hb
      rw [upd_same] at z ⊢
      exact z
    · rw [upd_ne hb] at z ⊢
      exact e b o z
  refine ⟨upd S a (.frz oe Ex0.xt), [.er C], ws.map D.str, e1, .cons (.er upd_same c1 c2 c3) .nil, rel, fun p vs S' H' x hp sp h' r fz => ?_⟩
  have np : p ≠ a := fun z => by
    subst z
    rw [upd_same] at hp
    cases hp
  have ne : ∀ {b o}, H b = some o → b ≠ a := fun {b o} z w => by rw [w, na] at z; cases z
  have hh : Ex H (Ex0.era a H') := fun b o z => by
    rw [Ex0.era_ne (ne z)]
    exact x.h b o (by rw [upd_ne (ne z)]; exact z)
  refine q p _ ⟨Ex.refl S, hh, e.trans hh, fun _ z _ => z⟩ ?_
  rw [Ex0.era_ne np, h', strs_of r]
end
end Pl
namespace Pl
open PySem PySem.Spec PyProof.Rows L2
open Evl (Ex)
theorem roomH_units {k : Nat} {A : Around} (r : L2H.RoomH k A) : A.units + 64 < cLine := by
  have := r.un
  omega
theorem takes0N {X : Cx} : L2N.Takes X (fun _ _ _ _ => False) := fun _ _ x => by
  obtain ⟨_, _, _, _, _, _, _, _, _, _, _, _, _, _, _, _, z⟩ := x
  exact z.elim
section
variable {K : PySem.W.Frag}
theorem spX_len {C : Addr} {Rel : List D → Prop} {n : Nat} (h : ∀ ds, Rel ds → ds.length = n) : ∀ vs H Q E, spX K C Rel vs H Q E → vs.length = n := fun vs H Q E z => by
  obtain ⟨S, ds, e, r, rel, _⟩ := z
  rw [r.length]
  exact h ds rel
theorem okd_strs {ws : List Str} (h : ∀ x ∈ ws, PyData.strOk x = true) : (D.lst (ws.map D.str)).okd 60 = true := List.all_eq_true.mpr fun d hd => by
  obtain ⟨x, hx, rfl⟩ := List.mem_map.mp hd
  exact h x hx
theorem sm_strs (ws : List Str) : (D.lst (ws.map D.str)).sm 60 = true := List.all_eq_true.mpr fun d hd => by
  obtain ⟨x, hx, rfl⟩ := List.mem_map.mp hd
  rfl
theorem eqv_strs (ws : List Str) : PyData.eqv (D.lst (ws.map D.str)).py (D.lst (ws.map D.str)).py = true := (eqv_iff 60 _ _ (sm_strs ws) (sm_strs ws)).mpr rfl
/-- the suite: return kind(error) == [the word] -/
theorem ask_one {Rel : List D → List D → Prop} {a C : Addr} {cls : Value} {d : Option Addr} {i : Nat} {x : Str} {S0 H0 S H : Hp} {σ : L2.St} {Q : VK} (hc : cls = .ref C) (hd : d = none) (rel : Rel [.er C] [.str x]) (hx : PyData.strOk x = true)
    (e : Ext S0 H0 S H) (hs : σ[i]? = some (some (.ref a))) (na : H a = none) (q : ∀ H', Ext S0 H0 S H' → Q (.bl true) H') :
    tOp (rEqD K) (Ex0.tAsk (spF K Rel) a C cls d (tCons (tVar i) tNil)) (tLst (tCons (tC (.str x)) tNil)) σ H Q := by
  refine ask_of (ws := [x]) hc hd rel e.sub hs na fun p H3 x3 h3 => ?_
  refine ⟨by show 1 ≤ sizeLine; rw [sizeLine_eq]; omega, fun p2 hp2 => ?_⟩
  have np : p ≠ p2 := fun z => by rw [z, hp2] at h3; cases h3
  have s1 : Ext S0 H0 S H3 := e.trans x3
  have s2 : Ext S0 H0 S (upd H3 p2 (.lst [.str x])) := s1.trans (Ext.hid s1.sub hp2)
  refine rv_eq (K := K) (x := .lst ([x].map D.str)) (y := .lst ([x].map D.str)) (okd_strs fun y hy => by rw [List.mem_singleton.mp hy]; exact hx) (okd_strs fun y hy => by rw [List.mem_singleton.mp hy]; exact hx) (upd H3 p2 (.lst [.str x])) (upd H3 p2 (.lst [.str x])) (.ref p) (.ref p2) (Ex.refl _)
    (.lst (by rw [upd_ne np]; exact h3) (rd_strs [x])) (.lst upd_same (rd_strs [x])) Q fun w S' H' x4 r4 => ?_
  rw [eqv_strs] at r4
  cases r4
  exact q H' (s2.trans ⟨Ex.refl S, x4.h, s2.sub.trans x4.h, fun _ z _ => z⟩)
end
end Pl
namespace Pl
open PySem PySem.Spec PyProof.Rows L2
/-- no whole number -/
def Dull (d : D) : Prop := d.kind = "NoneType" ∨ d.kind = "bool" ∨ d.kind = "str" ∨ d.kind = "list" ∨ d.kind = "tuple"
theorem dull_isi {K : PySem.W.Frag} {d : D} (h : Dull d) : ∃ a b, RC K (rIsi K) [d, .ty "int"] (.bl a) ∧ RC K (rIsi K) [d, .ty "bool"] (.bl b) ∧ (a && !b) = false := by
  rcases h with h | h | h | h | h
  · exact ⟨false, false, rc_isi (by rw [h]; decide +kernel) (by rw [h]; decide), rc_isi (by rw [h]; decide +kernel) (by rw [h]; decide), rfl⟩
  · exact ⟨true, true, rc_isi (by rw [h]; decide +kernel) (by rw [h]; decide), rc_isi (by rw [h]; decide +kernel) (by rw [h]; decide), rfl⟩
  · exact ⟨false, false, rc_isi (by rw [h]; decide +kernel) (by rw [h]; decide), rc_isi (by rw [h]; decide +kernel) (by rw [h]; decide), rfl⟩
  · exact ⟨false, false, rc_isi (by rw [h]; decide +kernel) (by rw [h]; decide), rc_isi (by rw [h]; decide +kernel) (by rw [h]; decide), rfl⟩
  · exact ⟨false, false, rc_isi (by rw [h]; decide +kernel) (by rw [h]; decide), rc_isi (by rw [h]; decide +kernel) (by rw [h]; decide), rfl⟩
/-- whether a datum is a joint of so many -/
inductive JD (c : Int) : D → Bool → Prop
  | int (j : Int) : JD c (.int j) (decide (0 ≤ j) && decide (j < c))
  | no {d : D} (h : Dull d) : JD c d false
end Pl

/-! Trees whose branches are roots of their own for a while: taken apart, put together; walked, looked up. -/
namespace Pl
open PySem PySem.Spec PyProof.Rows L2
open Evl (Ex)
section
variable {K : PySem.W.Frag} {S0 H0 S H S' H' : Hp} {σ : L2.St} {ρ ρ' ρ1 ρv : Rho} {g g' g1 g2 gl gr : Gs} {F G : FM} {t u : TS} {te ti td tx tk tv ty : TE} {tA : TA} {c : TT} {d : D} {es ds : List D} {ms : List M} {m m1 m2 mv : M} {a : Addr} {π : List Nat} {Dd : Ends} {i j : Nat} {b : Bool} {r : Rs} {E : XK} {s : Shp}
/-- branches that are told by their addresses -/
def adrM (as : List Addr) : List M := as.map fun a => M.d (.adr a)
def M.isN : M → Bool
  | .d _ => false
  | .n _ _ => true
theorem adrM_own : ∀ (as : List Addr), OwnL K S H (as.map V.ref) (adrM as) []
  | [] => .nil
  | a :: as => by
    have z := OwnL.cons (Own.d (K := K) (S := S) (H := H) (Rd.adr a)) (adrM_own as)
    exact z
theorem adrM_inv : ∀ {as : List Addr} {vs : List V} {f : List Addr}, OwnL K S H vs (adrM as) f → f = [] ∧ vs = as.map V.ref
  | [], _, _, .nil => ⟨rfl, rfl⟩
  | a :: as, _, _, .cons h r => by
    cases h with
    | d h =>
      cases h
      obtain ⟨e1, e2⟩ := adrM_inv (as := as) r
      subst e1
      subst e2
      exact ⟨rfl, rfl⟩
theorem own_refs : ∀ {ms : List M} {vs : List V} {f : List Addr}, (∀ m ∈ ms, m.isN = true) → OwnL K S H vs ms f → ∃ as : List Addr, vs = as.map V.ref ∧ as.length = ms.length
  | [], _, _, _, .nil => ⟨[], rfl, rfl⟩
  | m :: ms, _, _, hm, .cons h r => by
    obtain ⟨as, e1, e2⟩ := own_refs (ms := ms) (fun x hx => hm x (List.mem_cons_of_mem _ hx)) r
    have h0 := hm m List.mem_cons_self
    cases h with
    | d _ => cases h0
    | n h1 h2 h3 => exact ⟨_ :: as, by rw [e1]; rfl, by rw [List.length_cons, List.length_cons, e2]⟩
theorem gv_zip : ∀ {as : List Addr} {ms : List M}, as.length = ms.length → gv (as.zip ms) = as.map V.ref
  | [], [], _ => rfl
  | a :: as, m :: ms, h => by
    have z := gv_zip (as := as) (ms := ms) (Nat.succ.inj h)
    show V.ref a :: gv (as.zip ms) = V.ref a :: as.map V.ref
    rw [z]
theorem gm_zip : ∀ {as : List Addr} {ms : List M}, as.length = ms.length → gm (as.zip ms) = ms
  | [], [], _ => rfl
  | a :: as, m :: ms, h => by
    have z := gm_zip (as := as) (ms := ms) (Nat.succ.inj h)
    show m :: gm (as.zip ms) = m :: ms
    rw [z]
theorem SG.join {p : Addr} {as : List Addr} (hl : as.length = ms.length) (st : SG K S0 H0 ρ (g1 ++ (p, .n s (adrM as)) :: as.zip ms) S H σ) : SG K S0 H0 ρ (g1 ++ [(p, .n s ms)]) S H σ := by
  obtain ⟨fp, rg, s0⟩ := st
  have o := rg.own
  rw [gv_app, gm_app] at o
  obtain ⟨f1, f2, e, o1, o2⟩ := o.split gv_len
  have o2 : OwnL K S H (.ref p :: gv (as.zip ms)) (.n s (adrM as) :: gm (as.zip ms)) f2 := o2
  cases o2 with
  | cons h r =>
    rename_i fa fb
    rw [gv_zip hl, gm_zip hl] at r
    cases h with
    | n h1 h2 h3 =>
      obtain ⟨e1, e2⟩ := adrM_inv h3
      subst e1
      subst e2
      refine ⟨fp, ⟨?_, rg.nd, rg.no⟩, s0⟩
      rw [gv_app, gm_app, e]
      refine o1.append ?_
      have z : OwnL K S H [.ref p] [.n s ms] ((p :: fb) ++ []) := .cons (.n h1 h2 r) .nil
      rw [List.append_nil] at z
      exact z
theorem SG.split {p : Addr} (hm : ∀ m ∈ ms, m.isN = true) (st : SG K S0 H0 ρ (g1 ++ [(p, .n s ms)]) S H σ) : ∃ as : List Addr, as.length = ms.length ∧ SG K S0 H0 ρ (g1 ++ (p, .n s (adrM as)) :: as.zip ms) S H σ := by
  obtain ⟨fp, rg, s0⟩ := st
  have o := rg.own
  rw [gv_app, gm_app] at o
  obtain ⟨f1, f2, e, o1, o2⟩ := o.split gv_len
  have o2 : OwnL K S H [.ref p] [.n s ms] f2 := o2
  cases o2 with
  | cons h r =>
    cases r
    cases h with
    | n h1 h2 h3 =>
      rename_i ho vs fq
      obtain ⟨as, ev, hl⟩ := own_refs hm h3
      subst ev
      refine ⟨as, hl, fp, ⟨?_, rg.nd, rg.no⟩, s0⟩
      rw [gv_app, gm_app, e]
      refine o1.append ?_
      have z : OwnL K S H (.ref p :: gv (as.zip ms)) (.n s (adrM as) :: gm (as.zip ms)) ((p :: []) ++ fq) := .cons (.n h1 h2 (adrM_own as)) (by rw [gv_zip hl, gm_zip hl]; exact h3)
      rw [List.append_nil]
      exact z
theorem TM.join {p : Addr} {as : List Addr} (hp : List.Perm g (g1 ++ (p, .n s (adrM as)) :: as.zip ms)) (hl : as.length = ms.length) (k : TM K t ρ (g1 ++ [(p, .n s ms)]) F) : TM K t ρ g F := fun S0 H0 S H σ Dd st ac => k S0 H0 S H σ Dd (SG.join hl (st.perm hp)) ac
theorem TM.split {p : Addr} (hp : List.Perm g (g1 ++ [(p, .n s ms)])) (hm : ∀ m ∈ ms, m.isN = true) (k : ∀ as : List Addr, as.length = ms.length → TM K t ρ (g1 ++ (p, .n s (adrM as)) :: as.zip ms) F) : TM K t ρ g F := fun S0 H0 S H σ Dd st ac => by
  obtain ⟨as, hl, z⟩ := SG.split hm (st.perm hp)
  exact k as hl S0 H0 S H σ Dd z ac
/-- [] as a new tree -/
theorem em_lnew : EvM K (tLst tNil) ρ (.n .lst []) := fun S H σ e v Q q => ⟨Evl.sz_of (Nat.zero_le _), fun p hp =>
  q p [p] S _ (Ext.hid e hp) (.n (o := .lst []) (vs := []) (fp := []) upd_same rfl .nil) (by simp) fun a ha => by
    rw [List.mem_singleton.mp ha]
    exact ⟨hp, sub_none e hp⟩⟩
/-- d[k] = v of a new key, v a new tree -/
theorem TM.dputT {ns : List Int} {k : Int} (hv : EvX K tv ρ g (.t mv) g2) (hp : ∀ p0, EvP K td ρ (g2 ++ [(p0, mv)]) a m π) (hk : EvD K ty ρ (.int k)) (hg : g2 = gl ++ (a, m) :: gr) (hat : M.at π m = some (.n (.dic (ik ns)) ms)) (hn : k ∉ ns) (hl : ns.length < 100000)
    (kk : ∀ p0, F.nx ρ (gl ++ (a, M.put (.n (.dic (ik (ns ++ [k]))) (ms ++ [.d (.adr p0)])) π m) :: (gr ++ [(p0, mv)]))) : TM K (sDPut td ty tv) ρ g F := fun S0 H0 S H σ Dd st ac =>
  hv S0 H0 S H σ st _ fun v S1 H1 ex1 z => by
    obtain ⟨p0, ev, st1⟩ := z
    subst ev
    refine hp p0 S0 H0 S1 H1 σ st1 _ fun u S2 H2 x2 l => ?_
    have st2 := st1.go x2
    refine hk S2 H2 σ st2.sub st2.env _ fun w S3 H3 x3 r3 => ?_
    cases r3
    have st3 := st2.go x3
    have hg3 : g2 ++ [(p0, mv)] = gl ++ (a, m) :: (gr ++ [(p0, mv)]) := by rw [hg]; simp
    obtain ⟨p, o, vs, fq, e1, e2, _, e3, e4, e5, wr⟩ := st3.write hg3 (l.mono x3.h) hat
    obtain ⟨e8, e9⟩ := e3
    subst e1
    subst e9
    have hl2 : ns.length = vs.length := by rw [← e8]; exact (List.length_map _).symm
    refine ⟨p, _, rfl, .inl ⟨_, .inl k, e2, rfl, Evl.sz_lt (by rw [List.length_zip]; unfold ik; rw [List.length_map]; omega), rfl⟩, ?_⟩
    refine ac.nx _ _ S3 _ σ (kk p0) ((ex1.trans x2.s).trans x3.s) (wr _ (.dic (ik (ns ++ [k]))) (vs ++ [.ref p0]) _ (fq ++ ([] ++ [])) ⟨?_, ?_⟩ ((e4.mono (Ex.refl _) fun b hb => upd_ne fun e => e5 (by rw [← e]; exact hb)).append (.cons (.d (.adr p0)) .nil)) (by simp))
    · unfold ik
      rw [List.length_map, List.length_append, List.length_append, hl2]
      rfl
    · rw [putK_new (.ref p0) (valV_out hl2 hn)]
      unfold ik
      rw [List.map_append, List.zip_append (by rw [List.length_map]; exact hl2)]
      rfl
/-- a new list of data, as an own list -/
theorem SG.pull {p : Addr} (st : SG K S0 H0 ρ (g ++ [(p, .n .lst (ds.map M.d))]) S H σ) : SG K S0 H0 (ρ ++ [.o ds]) g S H (σ ++ [some (.ref p)]) := by
  obtain ⟨fp, rg, s0⟩ := st
  have o := rg.own
  rw [gv_app, gm_app] at o
  obtain ⟨f1, f2, e, o1, o2⟩ := o.split gv_len
  have o2 : OwnL K S H [.ref p] [.n .lst (ds.map M.d)] f2 := o2
  have n := SG.noS s0 rg
  have nd := rg.nd
  rw [e] at nd
  obtain ⟨nd1, nd2, nd3⟩ := List.nodup_append.mp nd
  have sub1 : ∀ a ∈ f1, a ∈ fp := fun a ha => e ▸ List.mem_append_left _ ha
  have sub2 : ∀ a ∈ f2, a ∈ fp := fun a ha => e ▸ List.mem_append_right _ ha
  cases o2 with
  | cons h r =>
    cases r
    cases h with
    | n h1 h2 h3 =>
      rename_i ho vs fq
      have h2 : ho = .lst vs := h2
      subst h2
      obtain ⟨e6, e7⟩ := h3.toD
      subst e6
      have pf : p ∈ fp := sub2 p (by simp)
      have np1 : p ∉ f1 := fun z => nd3 p z p (by simp) rfl
      refine ⟨f1, ⟨o1, nd1, fun a ha => rg.no a (sub1 a ha)⟩, (s0.mv (fp' := f1) rg.no rg.own.lays (Ex.refl S) s0.ext.sub (fun a _ _ => rfl) (fun a _ h _ => h) fun a ha => ⟨.inl (sub1 a ha), n a (sub1 a ha)⟩).beside ⟨p, vs, rfl, ?_, n p pf, h1, e7⟩ fun p' ep j es hj ej => ?_⟩
      · rw [cov_out np1]
        exact (rg.no p pf).1
      · cases ep
        obtain ⟨q', us, g1, g2', g3, g4, g5⟩ := s0.own j es hj
        rw [ej] at g1
        cases g1
        rw [cov_in pf, g4] at g2'
        cases g2'
theorem EvX.pull (h : EvX K te ρ g (.t (.n .lst (ds.map M.d))) g') : EvX K te ρ g (.o ds) g' := fun S0 H0 S H σ st Q q => h S0 H0 S H σ st Q fun v S' H' e z => by
  obtain ⟨p, ev, z⟩ := z
  subst ev
  exact q _ S' H' e z.pull
theorem Stt.base {B B' : Hp} {p : Addr} (s : Stt K S0 B ρ S H σ) (n : S p = none) (hno : ∀ (j : Nat) (ds : List D), ρ[j]? = some (.o ds) → σ[j]? ≠ some (some (.ref p))) (hB : ∀ a, a ≠ p → B' a = B a) (hp : B' p = H p) : Stt K S0 B' ρ S H σ := by
  refine ⟨⟨s.ext.s, fun a o e => ?_, s.ext.sub, fun a h1 h2 => ?_⟩, s.env, fun j es hj => ?_, s.apart⟩
  · by_cases ha : a = p
    · subst ha
      rw [hp] at e
      exact e
    · rw [hB a ha] at e
      exact s.ext.h a o e
  · by_cases ha : a = p
    · subst ha
      exact n
    · rw [hB a ha] at h2
      exact s.ext.dis a h1 h2
  · obtain ⟨q, us, g1, g2, g3, g4, g5⟩ := s.own j es hj
    refine ⟨q, us, g1, ?_, g3, g4, g5⟩
    rw [hB q fun z => hno j es hj (by rw [g1, z])]
    exact g2
/-- an own list as a tree -/
theorem SG.root {v : V} (st : SG K S0 H0 (ρ ++ [.o ds]) g S H (σ ++ [some v])) : ∃ p, v = .ref p ∧ SG K S0 H0 ρ (g ++ [(p, .n .lst (ds.map M.d))]) S H σ := by
  obtain ⟨fp, rg, s0⟩ := st
  have s1 := s0.pull (i := 0)
  have hl : σ.length = ρ.length := s1.2.env.len
  obtain ⟨p, vs, h1, h2, h3, h4, h5⟩ := s0.own ρ.length ds (by simp)
  rw [← hl] at h1
  have h1 : v = .ref p := by simpa using h1
  subst h1
  have npf : p ∉ fp := fun z => by
    rw [cov_in z, h4] at h2
    cases h2
  rw [cov_out npf] at h2
  have s0p : S0 p = Option.none := by
    cases z : S0 p with
    | none => rfl
    | some o =>
      have y := s0.ext.s p o z
      rw [h3] at y
      cases y
  refine ⟨p, rfl, fp ++ [p], ⟨?_, ?_, fun a ha => ?_⟩, s1.2.base (p := p) h3 (fun j es hj ej => ?_) (fun a ha => ?_) (cov_in (List.mem_append_right _ (List.mem_singleton.mpr rfl)))⟩
  · rw [gv_app, gm_app]
    refine rg.own.append ?_
    have z : OwnL K S H [.ref p] [.n .lst (ds.map M.d)] ((p :: []) ++ []) := .cons (.n h4 rfl (OwnL.ofD h5)) .nil
    exact z
  · refine List.nodup_append.mpr ⟨rg.nd, by simp, fun a ha b hb eq => ?_⟩
    rw [List.mem_singleton.mp hb] at eq
    subst eq
    exact npf ha
  · rcases List.mem_append.mp ha with ha | ha
    · exact rg.no a ha
    · rw [List.mem_singleton.mp ha]
      exact ⟨h2, s0p⟩
  · have hj2 : j < ρ.length := (List.getElem?_eq_some_iff.mp hj).1
    have z := s0.apart j ρ.length es ds p (by rw [List.getElem?_append_left hj2]; exact hj) (by simp) (by rw [List.getElem?_append_left (by omega)]; exact ej) (by rw [← hl]; simp)
    omega
  · by_cases hf : a ∈ fp
    · rw [cov_in hf, cov_in (List.mem_append_left _ hf)]
    · rw [cov_out hf, cov_out fun z => (List.mem_append.mp z).elim hf fun z => ha (List.mem_singleton.mp z)]
theorem EvX.root (h : EvX K te ρ g (.o ds) g') : EvX K te ρ g (.t (.n .lst (ds.map M.d))) g' := fun S0 H0 S H σ st Q q => h S0 H0 S H σ st Q fun v S' H' e z => by
  obtain ⟨p, ev, z2⟩ := SG.root z
  subst ev
  exact q _ S' H' e ⟨p, rfl, z2⟩
theorem perm_mid {α : Type} (l : List α) (a b : α) : List.Perm (l ++ [a] ++ [b]) (l ++ [b] ++ [a]) := by
  rw [List.append_assoc, List.append_assoc]
  exact List.Perm.append_left _ (List.Perm.swap _ _ _)
theorem adr_get {as : List Addr} (h : as.length = ms.length) (hm : ms[j]? = some m) : ∃ a, as[j]? = some a ∧ ∃ g1 g2, as.zip ms = g1 ++ (a, m) :: g2 := by
  have hj : j < ms.length := (List.getElem?_eq_some_iff.mp hm).1
  have em : ms[j] = m := (List.getElem?_eq_some_iff.mp hm).2
  refine ⟨as[j], List.getElem?_eq_getElem (by omega), (as.zip ms).take j, (as.zip ms).drop (j + 1), ?_⟩
  have hz : j < (as.zip ms).length := by rw [List.length_zip]; omega
  rw [← em, show (as[j], ms[j]) = (as.zip ms)[j] from (List.getElem_zip ..).symm, ← List.drop_eq_getElem_cons hz, List.take_append_drop]
/-- d.get(k) of a new dict of trees -/
theorem EvX.dgetT {ns : List Int} {k : Int} (h : EvX K td ρ g (.t (.n (.dic (ik ns)) ms)) g') (hk : EvD K ty ρ (.int k)) (hm : ∀ m ∈ ms, m.isN = true) (h1 : ns[j]? = some k) (h2 : ∀ q : Nat, q < j → ns[q]? ≠ some k) (h3 : ms[j]? = some m) : EvX K (tDGet1 td ty) ρ g (.t m) g' := fun S0 H0 S H σ st Q q =>
  h S0 H0 S H σ st _ fun v S1 H1 e z => by
    obtain ⟨p, ev, st1⟩ := z
    subst ev
    obtain ⟨as, hl, st1⟩ := SG.split hm st1
    obtain ⟨fp, rg, s1⟩ := id st1
    obtain ⟨f, hf, o⟩ := rg.own.mem (a := p) (m := .n (.dic (ik ns)) (adrM as)) (by simp)
    obtain ⟨a, ha, gA, gB, hz⟩ := adr_get hl h3
    cases o with
    | n k1 k2 k3 =>
      rename_i ho vs fq
      obtain ⟨hlen, eo⟩ := k2
      subst eo
      obtain ⟨_, ev⟩ := adrM_inv k3
      subst ev
      have hl2 : ns.length = (as.map V.ref).length := by rw [← hlen]; exact (List.length_map _).symm
      refine ⟨p, rfl, .inl ⟨_, .inl k1⟩, hk S1 H1 σ st1.sub st1.env _ fun w S2 H2 x2 r2 => ?_⟩
      cases r2
      have st2 := st1.go x2
      refine ⟨some (.ref a), .inl ⟨_, .inl k, .inl (x2.h _ _ k1), rfl, ?_⟩, q (.ref a) S2 H2 (e.trans x2.s) ⟨a, rfl, ?_⟩⟩
      · rw [valV_zip hl2 h1 h2, List.getElem?_map, ha]
        rfl
      · refine SG.forget (g' := (p, .n (.dic (ik ns)) (adrM as)) :: (gA ++ gB)) (st2.perm ?_)
        rw [hz, List.append_assoc]
        refine List.Perm.append_left _ ?_
        exact List.perm_middle (l₁ := (p, .n (.dic (ik ns)) (adrM as)) :: gA)
theorem EvX.dgetN {ns : List Int} {k : Int} (h : EvX K td ρ g (.t (.n (.dic (ik ns)) ms)) g') (hk : EvD K ty ρ (.int k)) (h1 : k ∉ ns) : EvX K (tDGet1 td ty) ρ g (.d .non) g' := fun S0 H0 S H σ st Q q =>
  h S0 H0 S H σ st _ fun v S1 H1 e z => by
    obtain ⟨p, ev, st1⟩ := z
    subst ev
    obtain ⟨fp, rg, s1⟩ := id st1
    obtain ⟨f, hf, o⟩ := rg.own.mem (a := p) (m := .n (.dic (ik ns)) ms) (by simp)
    cases o with
    | n k1 k2 k3 =>
      rename_i ho vs fq
      obtain ⟨hlen, eo⟩ := k2
      subst eo
      have hl2 : ns.length = vs.length := by rw [← hlen]; exact (List.length_map _).symm
      refine ⟨p, rfl, .inl ⟨_, .inl k1⟩, hk S1 H1 σ st1.sub st1.env _ fun w S2 H2 x2 r2 => ?_⟩
      cases r2
      have st2 := (SG.forget st1).go x2
      exact ⟨none, .inl ⟨_, .inl k, .inl (x2.h _ _ k1), rfl, (valV_out hl2 h1).symm⟩, q .non S2 H2 (e.trans x2.s) ⟨st2, .non⟩⟩
open Classical in
/-- branches become data -/
theorem SG.tellB {p : Addr} (st : SG K S0 H0 ρ (g ++ [(p, .n s ms)]) S H σ) : ∃ S2, Ex S S2 ∧ SG K S0 H0 ρ (g ++ [(p, .n s ((ms.map M.see).map M.d))]) S2 H σ := by
  obtain ⟨fp, rg, s0⟩ := st
  have o := rg.own
  rw [gv_app, gm_app] at o
  obtain ⟨f1, f2, e, o1, o2⟩ := o.split gv_len
  have o2 : OwnL K S H [.ref p] [.n s ms] f2 := o2
  have n := SG.noS s0 rg
  have nd := rg.nd
  rw [e] at nd
  obtain ⟨nd1, nd2, nd3⟩ := List.nodup_append.mp nd
  cases o2 with
  | cons h r =>
    cases r
    cases h with
    | n h1 h2 h3 =>
      rename_i ho vs fq
      have nd2 : ((p :: fq) ++ []).Nodup := nd2
      rw [List.append_nil] at nd2
      obtain ⟨np, ndq⟩ := List.nodup_cons.mp nd2
      have subq : ∀ a ∈ fq, a ∈ fp := fun a ha => e ▸ List.mem_append_right _ (List.mem_append_left _ (List.mem_cons_of_mem _ ha))
      have sub1 : ∀ a ∈ f1, a ∈ fp := fun a ha => e ▸ List.mem_append_left _ ha
      have pf : p ∈ fp := e ▸ List.mem_append_right _ (List.mem_append_left _ List.mem_cons_self)
      have e1 : Ex S (withP (fun a => a ∈ fq) S H) := fun a o h => by
        unfold withP
        rw [if_neg fun z => by rw [n a (subq a z)] at h; cases h]
        exact h
      have e2 : Ex (withP (fun a => a ∈ fq) S H) H := fun a o h => by
        unfold withP at h
        split at h
        · exact h
        · exact s0.ext.sub a o h
      have inq : ∀ a ∈ fq, withP (fun a => a ∈ fq) S H a = H a := fun a h => if_pos h
      have out : ∀ a, a ∉ fq → withP (fun a => a ∈ fq) S H a = S a := fun a h => if_neg h
      have n1q : ∀ a ∈ f1, a ∉ fq := fun a ha z => nd3 a ha a (List.mem_append_left _ (List.mem_cons_of_mem _ z)) rfl
      refine ⟨_, e1, f1 ++ [p], ⟨?_, ?_, fun a ha => ?_⟩, s0.mv rg.no rg.own.lays e1 e2 (fun a _ _ => rfl) (fun a hn hs _ => ?_) fun a ha => ?_⟩
      · rw [gv_app, gm_app]
        refine (o1.mono e1 fun a _ => rfl).append ?_
        have rl := h3.see e1 inq
        rw [seeL_map] at rl
        have z : OwnL K (withP (fun a => a ∈ fq) S H) H [.ref p] [.n s ((ms.map M.see).map M.d)] ((p :: []) ++ []) := .cons (.n h1 h2 (OwnL.ofD rl)) .nil
        exact z
      · refine List.nodup_append.mpr ⟨nd1, by simp, fun a ha b hb eq => ?_⟩
        rw [List.mem_singleton.mp hb] at eq
        subst eq
        exact nd3 a ha a (List.mem_append_left _ List.mem_cons_self) rfl
      · rcases List.mem_append.mp ha with ha | ha
        · exact rg.no a (sub1 a ha)
        · rw [List.mem_singleton.mp ha]
          exact rg.no p pf
      · rw [out a fun z => hn (subq a z)]
        exact hs
      · rcases List.mem_append.mp ha with ha | ha
        · exact ⟨.inl (sub1 a ha), by rw [out a (n1q a ha)]; exact n a (sub1 a ha)⟩
        · rw [List.mem_singleton.mp ha]
          exact ⟨.inl pf, by rw [out p np]; exact n p pf⟩
theorem TM.tellB {p : Addr} (hp : List.Perm g (g1 ++ [(p, .n s ms)])) (k : TM K t ρ (g1 ++ [(p, .n s ((ms.map M.see).map M.d))]) F) : TM K t ρ g F := fun S0 H0 S H σ Dd st ac => by
  obtain ⟨S2, e, z⟩ := SG.tellB (st.perm hp)
  exact k S0 H0 S2 H σ Dd z (ac.mono e)
/-- for x in xs, xs a list of the region that stays as it is -/
theorem TM.forR {tg : TG} (hi : ρ[i]? = some (.k (.adr a))) (Pv : Nat → Rho → Gs → Prop) (h0 : Pv 0 ρ g) (hg : (a, .n .lst (ds.map M.d)) ∈ g)
    (hr : ∀ (n : Nat) (ρ' : Rho) (g' : Gs), Pv n ρ' g' → (a, .n .lst (ds.map M.d)) ∈ g')
    (hs : ∀ (n : Nat) (d : D) (ρ' : Rho) (g' : Gs), ds[n]? = some d → Pv n ρ' g' → ∃ ps, EvG K tg d ps ∧ TM K t (setR ρ' ps) g' { F with nx := Pv (n + 1), ct := Pv (n + 1), bk := F.nx })
    (he : ∀ (ρ' : Rho) (g' : Gs), Pv ds.length ρ' g' → F.nx ρ' g') : TM K (tFor (iList K (tVar i)) tg t) ρ g F := fun S0 H0 S H σ Dd st ac => by
  have look : ∀ {ρ' : Rho} {g' : Gs} {S' H' : Hp} {σ' : L2.St}, (a, .n .lst (ds.map M.d)) ∈ g' → SG K S0 H0 ρ' g' S' H' σ' → ∃ vs, H' a = some (.lst vs) ∧ RdL K S' vs ds := fun {ρ' g' S' H' σ'} hm z => by
    obtain ⟨fp, rg, s0⟩ := z
    obtain ⟨f, hf, o⟩ := rg.own.mem hm
    cases o with
    | n k1 k2 k3 =>
      rename_i ho vs fq
      have k2 : ho = .lst vs := k2
      subst k2
      exact ⟨vs, k1, k3.toD.2⟩
  obtain ⟨v, hv1, hv2⟩ := st.env.val i _ hi
  cases hv2
  obtain ⟨vs0, hx0, _⟩ := look hg st
  refine ⟨_, hv1, a, rfl, ⟨_, Evl.sq_of hx0⟩, ?_⟩
  refine ⟨fun n m σ' H' => m = ds.length - n ∧ n ≤ ds.length ∧ ∃ ρ' g' S', Pv n ρ' g' ∧ Ex S S' ∧ SG K S0 H0 ρ' g' S' H' σ', ⟨ds.length, by simp, Nat.zero_le _, ρ, g, S, h0, Ex.refl S, st⟩, ?_⟩
  rintro n m σ' H' ⟨rfl, hn, ρ', g', S', p, e, s'⟩
  obtain ⟨vs, hx, rl⟩ := look (hr n ρ' g' p) s'
  by_cases hlt : n < ds.length
  · have hdd : ds[n]? = some ds[n] := List.getElem?_eq_getElem hlt
    obtain ⟨y, hy, ry⟩ := rl.get hdd
    obtain ⟨ps, hgg, ht⟩ := hs n ds[n] ρ' g' hdd p
    refine .inr ⟨⟨vs, y, Evl.sq_of hx, hy⟩, fun σ2 H2 => ∃ ρ2 g2 S2, Pv (n + 1) ρ2 g2 ∧ Ex S S2 ∧ SG K S0 H0 ρ2 g2 S2 H2 σ2, fun σ2 H2 z => ⟨ds.length - (n + 1), by omega, rfl, hlt, z⟩, fun xv H'' w => ?_⟩
    obtain ⟨rfl, w⟩ := w
    have w := w vs (Evl.sq_of hx)
    rw [hy] at w
    cases w
    refine hgg S' H'' σ' y s'.sub ry _ fun ws rw => ?_
    refine ht S0 H0 S' H'' _ _ (s'.setV rw) ⟨fun ρ3 g3 S3 H3 σ3 n e3 s3 => ⟨ρ3, g3, S3, n, e.trans e3, s3⟩, fun ρ3 g3 S3 H3 σ3 n e3 s3 => ac.nx ρ3 g3 S3 H3 σ3 n (e.trans e3) s3, fun ρ3 g3 S3 H3 σ3 n e3 s3 => ⟨ρ3, g3, S3, n, e.trans e3, s3⟩, ac.rt⟩
  · have e0 : n = ds.length := by omega
    subst e0
    exact .inl ⟨⟨vs, Evl.sq_of hx, by rw [rl.length]; exact Nat.le_refl _⟩, ac.nx ρ' g' S' H' σ' (he ρ' g' p) e s'⟩
end
end Pl

/-! Knots as they are told; one bar more than a stiff lean frame has. -/
namespace Fr
section
variable {n : Nat} {nb : List Bar} {i : Nat}
theorem tied_rise : ∀ (os laid : List Nat) (cs : Cs), ∀ p ∈ tiedL nb cs os laid, p.2.Pairwise (· < ·)
  | [], laid, cs, p, h => by rw [tiedL_nil] at h; cases h
  | j :: r, laid, cs, p, h => by
    cases hy : (lay cs (barAt nb j).1 (barAt nb j).2).2 with
    | none =>
      rw [tiedL_none hy] at h
      exact tied_rise r _ _ p h
    | some ks =>
      rw [tiedL_some hy] at h
      rcases List.mem_cons.mp h with e | h
      · rw [e]
        exact List.pairwise_lt_range.filter _
      · exact tied_rise r _ _ p h
theorem erase_idx (nb : List Bar) (i : Nat) : nb.eraseIdx i = ((List.range nb.length).eraseIdx i).map (barAt nb) := by
  rw [← Pl.erase_maps]
  congr 1
  exact (Pl.range_getD nb).symm
theorem mem_but {m a i : Nat} (h : a < m) (ne : a ≠ i) : a ∈ (List.range m).eraseIdx i :=
  List.mem_eraseIdx_iff_getElem.mpr ⟨a, by rw [List.length_range]; exact h, ne, List.getElem_range _⟩
theorem slim_idx {l : List Nat} (nd : l.Nodup) (h : ∀ a ∈ l, a < nb.length ∧ a ≠ i) (sl : Slim n (nb.eraseIdx i)) : Slim n (l.map (barAt nb)) := by
  have pm : l.Perm (((List.range nb.length).eraseIdx i).filter fun a => decide (a ∈ l)) := by
    refine (List.perm_ext_iff_of_nodup nd ((List.nodup_range.sublist (List.eraseIdx_sublist _ _)).filter _)).mpr fun a => ?_
    rw [List.mem_filter, decide_eq_true_eq]
    exact ⟨fun q => ⟨mem_but (h a q).1 (h a q).2, q⟩, fun q => q.2⟩
  rw [erase_idx] at sl
  exact (sl.sub ((List.filter_sublist).map _)).perm (pm.map _)
/-- others lean: the bar's knot has all that are too many -/
theorem one_more (ok : Ok n nb) (hi : i < nb.length) (sl : Slim n (nb.eraseIdx i)) {p : Nat × List Nat} (hp : Pl.knotOf n nb i = some p) : p.2 = Pl.manyL n nb := by
  have pm := Pl.orderBut_perm hi
  unfold Pl.knotOf at hp
  have hpm := List.mem_of_find?_eq_some hp
  have hpi : p.1 = i := by
    have z := List.find?_some hp
    simpa using z
  refine Pl.rise_eq (tied_rise _ _ _ p hpm) (Pl.manyL_rise n nb) fun x => ?_
  constructor
  · intro hx
    obtain ⟨_, _, _, lj, _, _, _, _, ⟨T, _, _, _, _, t5⟩, _⟩ := (tied_iff ok pm hi).2 p hpm
    have hx2 := ((t5 x).mp hx).1
    exact Pl.manyL_mem.mpr ⟨hx2, (tied_iff ok pm hx2).1.mp ⟨p, hpm, hx⟩⟩
  · intro hx
    obtain ⟨h1, h2⟩ := Pl.manyL_mem.mp hx
    obtain ⟨q, hq, hxq⟩ := (tied_iff ok pm h1).1.mpr h2
    obtain ⟨q1, _, _, lj, hj, ndj, slj, nq, ⟨T, tT, t2, t3, _, _⟩, pre, post, eo, hpre⟩ := (tied_iff ok pm hi).2 q hq
    have ndo : (Pl.orderBut nb.length i).Nodup := pm.nodup_iff.mpr List.nodup_range
    have eq : q.1 = i := by
      by_cases e : q.1 = i
      · exact e
      · exfalso
        have hne : ∀ a ∈ pre, a ≠ i := fun a ha z => by
          subst z
          have e2 := eo
          unfold Pl.orderBut at e2
          rcases List.eq_nil_or_concat post with rfl | ⟨post', y, rfl⟩
          · have z := (List.append_inj' e2 rfl).2
            exact e (by simpa using z.symm)
          · have e3 : (List.range nb.length).filter (fun b => !decide (b = a)) ++ [a] = (pre ++ q.1 :: post') ++ [y] := by rw [e2]; simp
            have z := (List.append_inj' e3 rfl).1
            have w : a ∈ (List.range nb.length).filter fun b => !decide (b = a) := by rw [z]; exact List.mem_append_left _ ha
            simpa using (List.mem_filter.mp w).2
        have s := slim_idx (l := lj ++ [q.1]) (List.nodup_append.mpr ⟨ndj, by simp, fun a ha b hb z => nq (by rw [List.mem_singleton.mp hb] at z; exact z ▸ ha)⟩) (fun a ha => by
          rcases List.mem_append.mp ha with ha | ha
          · exact ⟨hj a ha, hne a (hpre a ha)⟩
          · rw [List.mem_singleton.mp ha]
            exact ⟨q1, e⟩) sl
        rw [List.map_append] at s
        have o := ok _ (barAt_mem q1)
        exact (slim_snoc slj o.1 o.2.1 o.2.2).mp s ⟨T, tT, t2, t3⟩
    -- the dict has one entry for each number
    obtain ⟨F, f1, f2, f3, f4, f5⟩ := tied_all ok (Pl.orderBut nb.length i) [] (List.replicate n []) (fun j hj => List.mem_range.mp (pm.mem_iff.mp hj)) (fun _ h => nomatch h) (by simpa using ndo) (Pl.fits_bare n) (Pl.slim_nil n)
    have one : ∀ (os laid : List Nat) (cs : Cs), os.Nodup → ∀ p ∈ tiedL nb cs os laid, ∀ q ∈ tiedL nb cs os laid, p.1 = q.1 → p = q := by
      intro os
      induction os with
      | nil => intro laid cs _ p hp; rw [tiedL_nil] at hp; cases hp
      | cons j r ih =>
        intro laid cs nd p hp q hq e
        obtain ⟨n1, n2⟩ := List.nodup_cons.mp nd
        have low : ∀ (os laid : List Nat) (cs : Cs), ∀ p ∈ tiedL nb cs os laid, p.1 ∈ os := by
          intro os
          induction os with
          | nil => intro laid cs p hp; rw [tiedL_nil] at hp; cases hp
          | cons j r ih =>
            intro laid cs p hp
            cases hy : (lay cs (barAt nb j).1 (barAt nb j).2).2 with
            | none =>
              rw [tiedL_none hy] at hp
              exact List.mem_cons_of_mem _ (ih _ _ p hp)
            | some ks =>
              rw [tiedL_some hy] at hp
              rcases List.mem_cons.mp hp with e | hp
              · rw [e]; exact List.mem_cons_self
              · exact List.mem_cons_of_mem _ (ih _ _ p hp)
        cases hy : (lay cs (barAt nb j).1 (barAt nb j).2).2 with
        | none =>
          rw [tiedL_none hy] at hp hq
          exact ih _ _ n2 p hp q hq e
        | some ks =>
          rw [tiedL_some hy] at hp hq
          rcases List.mem_cons.mp hp with e1 | hp
          · rcases List.mem_cons.mp hq with e2 | hq
            · rw [e1, e2]
            · exact (n1 (by have := low _ _ _ q hq; rw [← e, e1] at this; exact this)).elim
          · rcases List.mem_cons.mp hq with e2 | hq
            · exact (n1 (by have := low _ _ _ p hp; rw [e, e2] at this; exact this)).elim
            · exact ih _ _ n2 p hp q hq e
    rw [one _ _ _ ndo p hpm q hq (by rw [hpi, eq])]
    exact hxq
end
end Fr
namespace Pl
/-- what makes numbers of bars a knot -/
structure Knot (nb : List Fr.Bar) (l : List Nat) (i : Nat) (js : List Nat) : Prop where
  h1 : l.Pairwise (· < ·)
  h2 : ∀ a ∈ l, a < nb.length
  h4 : i ∈ l
  j1 : js.Pairwise (· < ·)
  j2 : ∀ x, x ∈ js ↔ ∃ a ∈ l, (Fr.barAt nb a).1 = x ∨ (Fr.barAt nb a).2 = x
  hc : l.length + 2 = 2 * js.length
  hs : ∀ m : List Int, m.Sublist (kI js) → 2 ≤ m.length → m.length < js.length → insideL ((l.map (Fr.barAt nb)).map bI) m + 3 ≤ 2 * m.length
theorem kI_sub {l m : List Nat} (h : l.Sublist m) : (kI l).Sublist (kI m) := h.map _
theorem knot_fit {n : Nat} {nb : List Fr.Bar} {i : Nat} (ok : Fr.Ok n nb) (hi : i < nb.length) {p : Nat × List Nat} (hp : knotOf n nb i = some p) : ∃ js : List Nat, js.length ≤ n ∧ Knot nb p.2 i js := by
  have pm := orderBut_perm hi
  unfold knotOf at hp
  have hpm := List.mem_of_find?_eq_some hp
  have hpi : p.1 = i := by
    have z := List.find?_some hp
    simpa using z
  have ri := Fr.tied_rise _ _ _ p hpm
  obtain ⟨q1, _, q3, lj, hj, ndj, slj, nq, tl, _⟩ := (Fr.tied_iff ok pm hi).2 p hpm
  obtain ⟨T, s1, s2, s3, s4⟩ := Fr.knot_shape ok hj ndj slj nq q1 (ri.imp fun h => Nat.ne_of_lt h) tl
  have hlow : ∀ a ∈ p.2, a < nb.length := by
    obtain ⟨_, _, _, _, _, t5⟩ := tl
    exact fun a ha => ((t5 a).mp ha).1
  have cT : ((List.range n).filter T).length = Fr.card n T := List.countP_eq_length_filter.symm
  refine ⟨(List.range n).filter T, by rw [cT]; exact Fr.card_le n T, ri, hlow, by rw [← hpi]; exact q3, List.pairwise_lt_range.filter _, fun x => ?_, by rw [cT]; exact s1, fun m hm h2 h3 => ?_⟩
  · rw [List.mem_filter, List.mem_range]
    constructor
    · rintro ⟨h1, h2⟩
      exact (s3 x h1).mp h2
    · rintro ⟨a, ha, q⟩
      have o := ok _ (Fr.barAt_mem (hlow a ha))
      have hx : x < n := by rcases q with q | q <;> omega
      exact ⟨hx, (s3 x hx).mpr ⟨a, ha, q⟩⟩
  · have hm2 : m.Sublist (kI (List.range n)) := hm.trans (kI_sub List.filter_sublist)
    have c := card_isI hm2
    rw [inside_ins]
    have sub : ∀ x, x < n → isI m x = true → T x = true := fun x hx h => by
      have z : (x : Int) ∈ m := of_decide_eq_true h
      exact (List.mem_filter.mp (kI_mem.mp (hm.subset z))).2
    rw [← c]
    refine s4 (isI m) (by rw [c]; exact h2) sub ?_
    by_cases q : ∃ x, x < n ∧ T x = true ∧ isI m x = false
    · exact q
    · exfalso
      have : Fr.card n T ≤ Fr.card n (isI m) := Fr.card_mono fun x hx tx => by
        cases z : isI m x with
        | true => rfl
        | false => exact (q ⟨x, hx, tx, z⟩).elim
      omega
theorem knot_some {n : Nat} {nb : List Fr.Bar} {i : Nat} (ok : Fr.Ok n nb) (hi : i < nb.length) : (∃ p, knotOf n nb i = some p) ↔ i ∈ manyL n nb := by
  have h := knot_none ok hi
  rw [manyL_mem]
  unfold knotD at h
  cases q : knotOf n nb i with
  | none =>
    rw [q] at h
    exact ⟨fun ⟨p, e⟩ => (by cases e), fun z => (h.mp rfl z.2).elim⟩
  | some p =>
    rw [q] at h
    refine ⟨fun _ => ⟨hi, ?_⟩, fun _ => ⟨p, rfl⟩⟩
    by_cases z : Fr.Hld n (nb.eraseIdx i) (Fr.barAt nb i).1 (Fr.barAt nb i).2
    · exact z
    · cases h.mpr z
/-- one bar more, at i, than a stiff lean frame has -/
theorem great_knot {n : Nat} {nb : List Fr.Bar} {i : Nat} (ok : Fr.Ok n nb) (h2 : 2 ≤ n) (hi : i < nb.length) (sl : Fr.Slim n (nb.eraseIdx i)) (hl : (nb.eraseIdx i).length + 3 = 2 * n) : ∃ js : List Nat, js.length ≤ n ∧ Knot nb (manyL n nb) i js := by
  have okl : Fr.Ok n (nb.eraseIdx i) := ok.sub (List.eraseIdx_sublist _ _)
  have o := ok _ (Fr.barAt_mem hi)
  have call : Fr.card n (fun _ => true) = n := by
    unfold Fr.card
    exact (congrFun List.countP_true _).trans List.length_range
  have iall : Fr.ins (nb.eraseIdx i) (fun _ => true) = (nb.eraseIdx i).length := congrFun List.countP_true _
  have hh : Fr.Hld n (nb.eraseIdx i) (Fr.barAt nb i).1 (Fr.barAt nb i).2 := by
    unfold Fr.Hld
    rw [Fr.basis_all sl]
    exact ⟨fun _ => true, ⟨by rw [call]; exact h2, by rw [call, iall]; exact hl⟩, rfl, rfl⟩
  obtain ⟨p, hp⟩ := (knot_some ok hi).mpr (manyL_mem.mpr ⟨hi, hh⟩)
  rw [← Fr.one_more ok hi sl hp]
  exact knot_fit ok hi hp
end Pl

/-! Drawn numbers, drawn things of a list, what is no joint. -/
namespace Pl
open PySem PySem.Spec PyProof.Rows L2
def md (c : Int) (m : Nat) : Nat := (c % (m : Int)).toNat
theorem md_eq (c : Int) {m : Nat} (h : 0 < m) : ((md c m : Nat) : Int) = c % (m : Int) ∧ md c m < m := by
  unfold md
  have := Int.emod_nonneg c (show (m : Int) ≠ 0 by omega)
  have := Int.emod_lt_of_pos c (show (0 : Int) < (m : Int) by omega)
  omega
theorem JD.out {c j : Int} (h : ¬ (0 ≤ j ∧ j < c)) : JD c (.int j) false := by
  have z : (decide (0 ≤ j) && decide (j < c)) = false := by
    rw [← Bool.decide_and]
    exact decide_eq_false h
  rw [← z]
  exact .int j
theorem JD.in {c j : Int} (h1 : 0 ≤ j) (h2 : j < c) : JD c (.int j) true := by
  have z : (decide (0 ≤ j) && decide (j < c)) = true := by rw [decide_eq_true h1, decide_eq_true h2]; rfl
  rw [← z]
  exact .int j
theorem dull_non : Dull .non := .inl rfl
theorem dull_bl {b : Bool} : Dull (.bl b) := .inr (.inl rfl)
theorem dull_str {s : Str} : Dull (.str s) := .inr (.inr (.inl rfl))
theorem dull_lst {ds : List D} : Dull (.lst ds) := .inr (.inr (.inr (.inl rfl)))
theorem dull_tup {ds : List D} : Dull (.tup ds) := .inr (.inr (.inr (.inr rfl)))
section
variable {K : PySem.W.Frag}
theorem rv_pow {i j : Int} (h : CPow i j) : RV K (rI CPow fun i j => .int (i ^ j.toNat)) (.int i) (.int j) (.int (i ^ j.toNat)) := rv_I h fun _ => .int _
theorem rv_pickL {ds : List D} {c m : Int} (hm : (ds.length : Int) = m) (h : 0 < m) : ∃ d ∈ ds, RV K (rIx K) (.lst ds) (.int (c % m)) d := by
  have a1 := Int.emod_nonneg c (show m ≠ 0 by omega)
  have a2 := Int.emod_lt_of_pos c h
  have hl : (c % m).toNat < ds.length := by omega
  exact ⟨ds[(c % m).toNat], List.getElem_mem hl, rv_ixL (atI_int a1 (List.getElem?_eq_getElem hl))⟩
theorem erase_ins {α : Type} (l : List α) (x : α) {k : Nat} (h : k ≤ l.length) : (l.take k ++ [x] ++ l.drop k).eraseIdx k = l ∧ (l.take k ++ [x] ++ l.drop k)[k]? = some x ∧ (l.take k ++ [x] ++ l.drop k).length = l.length + 1 := by
  have hk : (l.take k).length = k := by rw [List.length_take]; omega
  refine ⟨?_, ?_, ?_⟩
  · rw [List.append_assoc, List.eraseIdx_append_of_length_le (by omega), hk, Nat.sub_self]
    exact List.take_append_drop k l
  · rw [List.append_assoc, List.getElem?_append_right (by omega), hk, Nat.sub_self]
    rfl
  · simp only [List.length_append, List.length_drop, hk, List.length_singleton]
    omega
end
end Pl

/-! Walks over lists that are told by a function; x in a list of data. -/
namespace Pl
open PySem PySem.Spec PyProof.Rows L2
open Evl (Ex)
section
variable {K : PySem.W.Frag} {ρ : Rho}
theorem evF_lcM {α : Type} {wi : TI} {g : TG} {tt : TT} {te : TE} {vs : List Nat} {xs : List α} {gd : α → D} (hi : EvI K wi ρ (xs.map gd)) (ps : α → List (Nat × D)) (f : α → Bool) (e : α → D) (hg : ∀ d ∈ xs, EvG K g (gd d) (ps d)) (hs : ∀ d ∈ xs, ∀ p ∈ ps d, p.1 ∈ vs)
    (ht : ∀ d ∈ xs, EvT K tt (setR (wipeR ρ vs) (ps d)) (f d)) (he : ∀ d ∈ xs, f d = true → EvD K te (setR (wipeR ρ vs) (ps d)) (e d)) (hl : xs.length ≤ 50000) : EvF K (tLc wi g tt te vs) ρ ((xs.filter f).map e) := fun S H σ ee v Q q =>
  hi S H σ ee v _ fun J S1 H1 x1 wk => fun Dl hD => by
    refine ⟨fun i m H' => m = xs.length - i ∧ i ≤ xs.length ∧ ∃ S' us, Ext S1 H1 S' H' ∧ S' Dl = none ∧ H' Dl = some (.lst us) ∧ RdL K S' us (((xs.take i).filter f).map e),
      ⟨xs.length, by simp, Nat.zero_le _, S1, [], Ext.hid x1.sub hD, sub_none x1.sub hD, upd_same, .nil⟩, ?_⟩
    rintro i m H' ⟨rfl, hi, S', us, x, nS, hus, rl⟩
    by_cases hlt : i < xs.length
    · refine .inr ⟨wk.go S' H' i x.s x.sub (by rw [List.length_map]; exact hlt), fun H2 => ∃ S2 us2, Ext S1 H1 S2 H2 ∧ S2 Dl = none ∧ H2 Dl = some (.lst us2) ∧ RdL K S2 us2 (((xs.take (i + 1)).filter f).map e), fun H2 z => ⟨xs.length - (i + 1), by omega, rfl, hlt, z⟩, fun xv H'' y => ?_⟩
      have hd : (xs.map gd)[i]? = some (gd xs[i]) := by rw [List.getElem?_map, List.getElem?_eq_getElem hlt]; rfl
      have hlm : i < (xs.map gd).length := by rw [List.length_map]; exact hlt
      have hm : xs[i] ∈ xs := List.getElem_mem hlt
      obtain ⟨S2, x2, r2⟩ := wk.yld S' H' i xv H'' (gd xs[i]) x.s x.sub hd y
      have tk : xs.take (i + 1) = xs.take i ++ [xs[i]] := (List.take_append_getElem hlt).symm
      refine hg _ hm S2 H'' _ xv x2.sub r2 _ fun ws rws => ⟨?_, ?_⟩
      · rw [wipe_setV fun j hj => by
          obtain ⟨p, hp, rfl⟩ := List.mem_map.mp hj
          exact hs _ hm p hp, wipe_wipe]
      · have ev : Env K S2 (setV (L2.wipe σ vs) ((ps xs[i]).map (·.1)) ws) (setR (wipeR ρ vs) (ps xs[i])) := (((v.mono ((x1.s.trans x.s).trans x2.s)).wipe vs)).setV rws
        have nl : ∀ {S3 H3 : Hp}, Ext S2 H'' S3 H3 → S3 Dl = none := fun x3 => x3.dis Dl (x2.dis Dl nS (by rw [hus]; exact fun z => nomatch z)) (by rw [x2.h Dl _ hus]; exact fun z => nomatch z)
        refine ht _ hm S2 H'' _ x2.sub ev _ fun S3 H3 x3 => ?_
        cases hf : f xs[i] with
        | false =>
          refine ⟨S3, us, (x.trans x2).trans x3, nl x3, (x2.trans x3).h _ _ hus, ?_⟩
          rw [tk, List.filter_append, List.filter_cons, hf]
          simp only [Bool.false_eq_true, if_false, List.filter_nil, List.append_nil]
          exact rl.mono (x2.trans x3).s
        | true =>
          refine he _ hm hf S3 H3 _ x3.sub (ev.mono x3.s) _ fun yv S4 H4 x4 r4 => ?_
          have hu4 := (x2.trans (x3.trans x4)).h _ _ hus
          have n4 := nl (x3.trans x4)
          have ul : us.length ≤ xs.length := by
            rw [rl.length, List.length_map]
            exact Nat.le_trans (List.length_filter_le _ _) (by rw [List.length_take]; omega)
          refine ⟨us, hu4, Evl.sz_lt (by omega), S4, us ++ [yv], ?_, n4, upd_same, ?_⟩
          · have xx := (x.trans x2).trans (x3.trans x4)
            refine ⟨xx.s, fun a o ha => ?_, fun a o ha => ?_, xx.dis⟩
            · rw [upd_ne (ne_of_none ha hD)]
              exact xx.h a o ha
            · rw [upd_ne (fun z => by rw [z, n4] at ha; cases ha)]
              exact xx.sub a o ha
          · rw [tk, List.filter_append, List.filter_cons, hf]
            simp only [if_true, List.filter_nil]
            rw [List.map_append]
            exact (rl.mono (x2.trans (x3.trans x4)).s).append (.cons r4 .nil)
    · have e0 : i = xs.length := by omega
      subst e0
      rw [List.take_length] at rl
      exact .inl ⟨by have z := wk.stop S' H' x.s x.sub; rwa [List.length_map] at z, q Dl us S' H' (x1.trans x) (Evl.fresh_back x1.h hD) nS hus rl⟩

theorem rngD_eq (n : Nat) : rngD 0 n 1 = (List.range n).map fun i : Nat => D.int (i : Int) := by
  unfold rngD
  refine List.map_congr_left fun i _ => ?_
  rw [Int.mul_one, Int.zero_add]
/-- [.. for k in range(n) if ..] -/
theorem evF_lcN {wi : TI} {tt : TT} {te : TE} {vs : List Nat} {n j : Nat} (hi : EvI K wi ρ (rngD 0 n 1)) (hj : j ∈ vs) (hn : n ≤ 1000) (f : Nat → Bool) (e : Nat → D)
    (ht : ∀ i : Nat, i < n → EvT K tt (setR (wipeR ρ vs) [(j, .int (i : Int))]) (f i)) (he : ∀ i : Nat, i < n → f i = true → EvD K te (setR (wipeR ρ vs) [(j, .int (i : Int))]) (e i)) :
    EvF K (tLc wi (gName j) tt te vs) ρ (((List.range n).filter f).map e) := by
  rw [rngD_eq] at hi
  exact evF_lcM hi (fun k => [(j, .int (k : Int))]) f e (fun _ _ => eg_name) (fun _ _ p hp => by rw [List.mem_singleton.mp hp]; exact hj) (fun i hi => ht i (List.mem_range.mp hi)) (fun i hi => he i (List.mem_range.mp hi)) (by rw [List.length_range]; omega)
variable {F : FE} {t : TS} {FF : FM} {g : Gs}
theorem T.forM {α : Type} {xs : List α} {gd : α → D} {wi : TI} {tg : TG} (hi : EvI K wi ρ (xs.map gd)) (Pv : Nat → Rho → Prop) (h0 : Pv 0 ρ) (hs : ∀ (i : Nat) (x : α) (ρ' : Rho), xs[i]? = some x → Pv i ρ' → ∃ ps, EvG K tg (gd x) ps ∧ T K t (setR ρ' ps) { F with nx := Pv (i + 1), ct := Pv (i + 1), bk := F.nx })
    (hd : ∀ ρ', Pv xs.length ρ' → F.nx ρ') : T K (tFor wi tg t) ρ F := T.for hi Pv h0 (fun i d ρ' he p => by
  rw [List.getElem?_map] at he
  cases q : xs[i]? with
  | none => rw [q] at he; cases he
  | some x =>
    rw [q] at he
    cases he
    exact hs i x ρ' q p) (by rw [List.length_map]; exact hd)
theorem TM.forM {α : Type} {xs : List α} {gd : α → D} {wi : TI} {tg : TG} (hi : EvI K wi ρ (xs.map gd)) (Pv : Nat → Rho → Gs → Prop) (h0 : Pv 0 ρ g) (hs : ∀ (i : Nat) (x : α) (ρ' : Rho) (g' : Gs), xs[i]? = some x → Pv i ρ' g' → ∃ ps, EvG K tg (gd x) ps ∧ TM K t (setR ρ' ps) g' { FF with nx := Pv (i + 1), ct := Pv (i + 1), bk := FF.nx })
    (hd : ∀ ρ' g', Pv xs.length ρ' g' → FF.nx ρ' g') : TM K (tFor wi tg t) ρ g FF := TM.for hi Pv h0 (fun i d ρ' g' he p => by
  rw [List.getElem?_map] at he
  cases q : xs[i]? with
  | none => rw [q] at he; cases he
  | some x =>
    rw [q] at he
    cases he
    exact hs i x ρ' g' q p) (by rw [List.length_map]; exact hd)
theorem T.forN {n : Nat} {wi : TI} {tg : TG} (hi : EvI K wi ρ (rngD 0 n 1)) (Pv : Nat → Rho → Prop) (h0 : Pv 0 ρ) (hs : ∀ (i : Nat) (ρ' : Rho), i < n → Pv i ρ' → ∃ ps, EvG K tg (.int (i : Int)) ps ∧ T K t (setR ρ' ps) { F with nx := Pv (i + 1), ct := Pv (i + 1), bk := F.nx })
    (hd : ∀ ρ', Pv n ρ' → F.nx ρ') : T K (tFor wi tg t) ρ F := T.for hi Pv h0 (fun i d ρ' he p => by
  obtain ⟨h1, rfl⟩ := rngD_get0 he
  exact hs i ρ' h1 p) (by rw [rngD_len]; exact hd)
theorem TM.forN {n : Nat} {wi : TI} {tg : TG} (hi : EvI K wi ρ (rngD 0 n 1)) (Pv : Nat → Rho → Gs → Prop) (h0 : Pv 0 ρ g) (hs : ∀ (i : Nat) (ρ' : Rho) (g' : Gs), i < n → Pv i ρ' g' → ∃ ps, EvG K tg (.int (i : Int)) ps ∧ TM K t (setR ρ' ps) g' { FF with nx := Pv (i + 1), ct := Pv (i + 1), bk := FF.nx })
    (hd : ∀ ρ' g', Pv n ρ' g' → FF.nx ρ' g') : TM K (tFor wi tg t) ρ g FF := TM.for hi Pv h0 (fun i d ρ' g' he p => by
  obtain ⟨h1, rfl⟩ := rngD_get0 he
  exact hs i ρ' g' h1 p) (by rw [rngD_len]; exact hd)
/-- enumerate(xs) -/
theorem T.forE {α : Type} {xs : List α} {gd : α → D} {wi : TI} {tg : TG} (hi : EvI K wi ρ (enumD (xs.map gd))) (Pv : Nat → Rho → Prop) (h0 : Pv 0 ρ) (hs : ∀ (i : Nat) (x : α) (ρ' : Rho), xs[i]? = some x → Pv i ρ' → ∃ ps, EvG K tg (.tup [.int (i : Int), gd x]) ps ∧ T K t (setR ρ' ps) { F with nx := Pv (i + 1), ct := Pv (i + 1), bk := F.nx })
    (hd : ∀ ρ', Pv xs.length ρ' → F.nx ρ') : T K (tFor wi tg t) ρ F := T.for hi Pv h0 (fun i d ρ' he p => by
  obtain ⟨y, hy, rfl⟩ := enumD_get he
  rw [List.getElem?_map] at hy
  cases q : xs[i]? with
  | none => rw [q] at hy; cases hy
  | some x =>
    rw [q] at hy
    cases hy
    exact hs i x ρ' q p) (by rw [enumD_len, List.length_map]; exact hd)
/-! ### x in xs, of data -/
theorem units65 {k : Nat} {A : Around} (r : Room k A) : A.units + 65 < cLine := by
  have := r.un
  omega
theorem okd_mono : ∀ (n m : Nat) (d : D), n ≤ m → d.okd n = true → d.okd m = true
  | _, m, .non, _, _ => by cases m <;> rfl
  | _, m, .bl _, _, _ => by cases m <;> rfl
  | _, m, .int _, _, _ => by cases m <;> rfl
  | n, m, .str s, _, h => by cases n <;> cases m <;> exact h
  | n, _, .adr _, _, h => by cases n <;> cases h
  | n, _, .ty _, _, h => by cases n <;> cases h
  | n, _, .dc _ _, _, h => by cases n <;> cases h
  | n, _, .ob _ _ _, _, h => by cases n <;> cases h
  | n, _, .fz _, _, h => by cases n <;> cases h
  | n, _, .fv _ _, _, h => by cases n <;> cases h
  | n, _, .er _, _, h => by cases n <;> cases h
  | 0, _, .ro _, _, h => by cases h
  | 0, _, .lst _, _, h => by cases h
  | 0, _, .tup _, _, h => by cases h
  | _ + 1, 0, .ro _, l, _ => absurd l (by omega)
  | _ + 1, 0, .lst _, l, _ => absurd l (by omega)
  | _ + 1, 0, .tup _, l, _ => absurd l (by omega)
  | n + 1, m + 1, .ro _, _, _ => rfl
  | n + 1, m + 1, .lst ds, l, h => List.all_eq_true.mpr fun d hd => okd_mono n m d (by omega) (List.all_eq_true.mp h d hd)
  | n + 1, m + 1, .tup ds, l, h => List.all_eq_true.mpr fun d hd => okd_mono n m d (by omega) (List.all_eq_true.mp h d hd)
theorem okd_up {d : D} (h : d.okd 59 = true) : d.okd 60 = true := okd_mono 59 60 d (by decide) h
theorem ok_inD {X : Cx} (h : X.K = K) (hu : X.A.units + 65 < cLine) : OpR X (compareOp .In) (rInD K) := by subst h; exact op_inD hu
theorem ok_niD {X : Cx} (h : X.K = K) (hu : X.A.units + 65 < cLine) : OpR X (compareOp .NotIn) (rNotInD K) := by subst h; exact op_notInD hu
theorem any_eqv {x : D} {ds : List D} (sx : x.sm 60 = true) (sds : ∀ d ∈ ds, d.sm 60 = true) : (((ds.map D.py).any fun z => PyData.eqv z x.py) = true) ↔ x ∈ ds := by
  rw [List.any_map, List.any_eq_true]
  constructor
  · rintro ⟨d, hd, h⟩
    have z := (eqv_iff 60 d x (sds d hd) sx).mp h
    exact z ▸ hd
  · exact fun h => ⟨x, h, (eqv_iff 60 x x sx sx).mpr rfl⟩
theorem rv_inD {x : D} {ds : List D} {b : Bool} (hx : x.okd 59 = true) (hds : ∀ d ∈ ds, d.okd 59 = true) (sx : x.sm 60 = true) (sds : ∀ d ∈ ds, d.sm 60 = true) (h : b = true ↔ x ∈ ds) : RV K (rInD K) x (.lst ds) (.bl b) := fun S H v u e r1 r2 Q q => by
  have hx60 : x.okd 60 = true := okd_up hx
  have hL : (D.lst ds).okd 60 = true := List.all_eq_true.mpr hds
  have d2 := Rd.dp 60 _ _ hL (r2.mono e)
  have s2 := okd_shaped hL
  have ep : (D.lst ds).py = .list (ds.map D.py) := by rw [D.py, pyL_map]
  rw [ep] at d2 s2
  refine ⟨x.py, ds.map D.py, Rd.dp 60 _ _ hx60 (r1.mono e), d2, okd_shaped hx60, s2, ?_⟩
  have eb : ((ds.map D.py).any fun z => PyData.eqv z x.py) = b := Bool.eq_iff_iff.mpr ((any_eqv sx sds).trans h.symm)
  rw [eb]
  exact q _ S H (Ext.refl e) (.bl b)
theorem rv_isBl {a b : Bool} : RV K rIsB (.bl a) (.bl b) (.bl (decide (a = b))) := fun S H v u e r1 r2 Q q => by
  cases r1
  cases r2
  exact ⟨a, b, rfl, rfl, q _ S H (Ext.refl e) (.bl _)⟩
theorem rv_notBl {a b : Bool} : RV K rNotB (.bl a) (.bl b) (.bl (!decide (a = b))) := fun S H v u e r1 r2 Q q => by
  cases r1
  cases r2
  exact ⟨a, b, rfl, rfl, q _ S H (Ext.refl e) (.bl _)⟩
theorem rv_niD {x : D} {ds : List D} {b : Bool} (hx : x.okd 59 = true) (hds : ∀ d ∈ ds, d.okd 59 = true) (sx : x.sm 60 = true) (sds : ∀ d ∈ ds, d.sm 60 = true) (h : b = true ↔ x ∈ ds) : RV K (rNotInD K) x (.lst ds) (.bl (!b)) := fun S H v u e r1 r2 Q q => by
  have hx60 : x.okd 60 = true := okd_up hx
  have hL : (D.lst ds).okd 60 = true := List.all_eq_true.mpr hds
  have d2 := Rd.dp 60 _ _ hL (r2.mono e)
  have s2 := okd_shaped hL
  have ep : (D.lst ds).py = .list (ds.map D.py) := by rw [D.py, pyL_map]
  rw [ep] at d2 s2
  refine ⟨x.py, ds.map D.py, Rd.dp 60 _ _ hx60 (r1.mono e), d2, okd_shaped hx60, s2, ?_⟩
  have eb : ((ds.map D.py).any fun z => PyData.eqv z x.py) = b := Bool.eq_iff_iff.mpr ((any_eqv sx sds).trans h.symm)
  rw [eb]
  exact q _ S H (Ext.refl e) (.bl _)
end
end Pl

/-! Statements without a region within those with one; rows as trees; stiff frames have one part. -/
namespace Pl
open PySem PySem.Spec PyProof.Rows L2
open Evl (Ex)
section
variable {K : PySem.W.Frag} {ρ : Rho} {t : TS} {F : FM} {g g1 g2 : Gs} {E : XK} {tA : TA} {ds : List D} {m : M}
def FM.flat (F : FM) : FE := { nx := fun r => F.nx r [], rt := fun d => F.rt (.d d) [], rf := fun es => F.rt (.o es) [], bk := fun r => F.bk r [], ct := fun r => F.ct r [] }
theorem SG.ofS {S0 H0 S H : Hp} {σ : L2.St} (s : Stt K S0 H0 ρ S H σ) : SG K S0 H0 ρ [] S H σ := ⟨[], ⟨.nil, List.nodup_nil, fun _ h => nomatch h⟩, by rw [cov_nil]; exact s⟩
theorem SG.ofX {S0 H0 S' H' : Hp} (x : Ext S0 H0 S' H') : Stt K S0 H0 [] S' H' [] := ⟨x, ⟨rfl, fun i d h => by simp at h⟩, fun i ds h => by simp at h, fun i j a b p h => by simp at h⟩
/-- no region: as without one -/
theorem TM.ofT (h : T K t ρ F.flat) : TM K t ρ [] F := fun S0 H0 S H σ Dd st ac =>
  h S0 H0 S H σ Dd st.bare ⟨fun ρ' S' H' σ' n e s' => ac.nx ρ' [] S' H' σ' n e (SG.ofS s'), fun ρ' S' H' σ' n e s' => ac.bk ρ' [] S' H' σ' n e (SG.ofS s'), fun ρ' S' H' σ' n e s' => ac.ct ρ' [] S' H' σ' n e (SG.ofS s'),
    fun d v S' H' n x r => ac.rt (.d d) [] v [] S' H' [] n ⟨SG.ofS (SG.ofX x), r⟩,
    fun es p vs S' H' n x h0 sp hp r => ac.rt (.o es) [] (.ref p) [] S' H' [] n (SG.ofS ((SG.ofX x).beside ⟨p, vs, rfl, h0, sp, hp, r⟩ fun _ _ j ds hj => by simp at hj))⟩
/-- the region is left behind -/
theorem TM.drop (h : T K t ρ F.flat) : TM K t ρ g F := TM.forget (g1 := []) (g2 := g) (List.Perm.refl _) (TM.ofT h)
theorem ev_callT {Rel : List D → Gs → Rs → Gs → Prop} (ha : EvA K tA ρ ds) (hr : Rel ds [] (.t m) []) : EvD K (tCall (spG K Rel) [] E tA) ρ m.see := fun S H σ e v Q q =>
  ha S H σ e v _ fun vs S1 H1 x1 r1 => ⟨S1, H1, ds, [], .t m, [], SG.none x1.sub, by rw [List.append_nil]; exact r1, hr, fun v S2 H2 _ z => by
    obtain ⟨p, ev, z⟩ := z
    subst ev
    obtain ⟨S3, e3, z3, r3⟩ := SG.tellT (g := []) z
    exact q _ S3 H2 (x1.trans (SG.bare z3).ext) r3⟩
def rowT (l : List Nat) : M := .n .lst ((nD l).map M.d)
theorem see_rowT (l : List Nat) : (rowT l).see = rowD l := by
  show D.lst (seeL _) = D.lst _
  rw [seeL_d]
def rowsT (ls : List (List Nat)) : M := .n .lst (ls.map rowT)
theorem see_rowsT (ls : List (List Nat)) : (rowsT ls).see = .lst (ls.map rowD) := by
  show D.lst (seeL _) = D.lst _
  rw [seeL_map, List.map_map]
  refine congrArg D.lst (List.map_congr_left fun l _ => see_rowT l)
theorem rowT_isN {ls : List (List Nat)} : ∀ m ∈ ls.map rowT, m.isN = true := fun m hm => by
  obtain ⟨e, _, rfl⟩ := List.mem_map.mp hm
  rfl
theorem adrM_map (as : List Addr) : adrM as = (as.map D.adr).map M.d := by
  unfold adrM
  rw [List.map_map]
  rfl
theorem zip_rowT {as : List Addr} {ls : List (List Nat)} {a : Addr} {l : List Nat} (h : as.length = ls.length) : (as ++ [a]).zip ((ls ++ [l]).map rowT) = as.zip (ls.map rowT) ++ [(a, rowT l)] := by
  rw [List.map_append, List.zip_append (by rw [List.length_map]; exact h)]
  rfl
end
theorem partsL_mem0 {n : Nat} {nb : List Fr.Bar} (ok : Fr.Ok n nb) {l : List Nat} : l ∈ partsL n nb ↔ ∃ a b, a < b ∧ b < n ∧ Fr.Spn n (Fr.pickB n [] nb) a b ∧ l = partL n (Fr.pickB n [] nb) (a, b) := by
  have okk := Fr.basis_ok ok
  have slk := Fr.basis_slim n nb
  unfold partsL
  generalize Fr.pickB n [] nb = kb at okk slk
  rw [List.mem_map]
  constructor
  · rintro ⟨p, hp, rfl⟩
    obtain ⟨h1, h2, h3, _⟩ := Fr.ldrs_mem.mp hp
    exact ⟨p.1, p.2, h1, h2, h3, rfl⟩
  · rintro ⟨a, b, h1, h2, h3, rfl⟩
    obtain ⟨a', b', hL, pa, pb⟩ := Fr.lead_ex okk slk (show a < n by omega) h2 (by omega) h3
    obtain ⟨k1, k2, k3, _⟩ := id hL
    refine ⟨(a', b'), Fr.ldrs_mem.mpr hL, ?_⟩
    have same := (Fr.part_same okk slk (show a' < n by omega) k2 (by omega) k3 (show a < n by omega) h2 (by omega) pa pb).2
    unfold partL
    exact List.filter_congr fun z hz => same z (List.mem_range.mp hz)
theorem parts_few {n : Nat} {nb : List Fr.Bar} (ok : Fr.Ok n nb) : (partsL n nb).length ≤ nb.length := by
  have okk := Fr.basis_ok ok
  have slk := Fr.basis_slim n nb
  have hps := Fr.parts_sum okk slk
  have hk := (Fr.pickB_sub (n := n) nb []).length_le
  unfold partsL
  rw [List.length_map]
  have one : ((Fr.ldrs n (Fr.pickB n [] nb)).map fun _ => 1).sum = (Fr.ldrs n (Fr.pickB n [] nb)).length := Fr.sum_one fun _ _ => rfl
  have le := Fr.sum_le (l := Fr.ldrs n (Fr.pickB n [] nb)) (f := fun _ => 1) (g := fun p => 2 * Fr.card n (Fr.part n (Fr.pickB n [] nb) p.1 p.2) - 3) fun p hp => by
    obtain ⟨h1, h2, h3, _⟩ := Fr.ldrs_mem.mp hp
    obtain ⟨⟨t1, _⟩, _⟩ := Fr.part_all okk slk (show p.1 < n by omega) h2 (by omega) h3
    omega
  omega
theorem parts_short {n : Nat} {nb : List Fr.Bar} {l : List Nat} (h : l ∈ partsL n nb) : l.length ≤ n := by
  obtain ⟨p, _, rfl⟩ := List.mem_map.mp h
  unfold partL
  exact Nat.le_trans (List.length_filter_le _ _) (by rw [List.length_range]; exact Nat.le_refl _)
/-! ### stiff frames -/
section
variable {n : Nat} {nb : List Fr.Bar}
theorem card_all (n : Nat) : Fr.card n (fun _ => true) = n := (congrFun List.countP_true _).trans List.length_range
theorem ins_all (bs : List Fr.Bar) : Fr.ins bs (fun _ => true) = bs.length := congrFun List.countP_true _
theorem range_all {n : Nat} {p : Nat → Bool} (h : ∀ x, x < n → p x = true) : (List.range n).filter p = List.range n := List.filter_eq_self.mpr fun x hx => h x (List.mem_range.mp hx)
theorem stiff_parts (ok : Fr.Ok n nb) (h2 : 2 ≤ n) : Fr.rk n nb + 3 = 2 * n ↔ partsL n nb = [List.range n] := by
  have okk := Fr.basis_ok ok
  have slk := Fr.basis_slim n nb
  have hps := Fr.parts_sum okk slk
  have hnd := parts_nodup n nb
  unfold Fr.rk
  unfold partsL at hnd ⊢
  generalize Fr.pickB n [] nb = kb at okk slk hps hnd
  constructor
  · intro h
    have sp : ∀ a b, Fr.Spn n kb a b := fun a b => ⟨fun _ => true, ⟨by rw [card_all]; exact h2, by rw [card_all, ins_all]; exact h⟩, rfl, rfl⟩
    have one : ∀ p ∈ Fr.ldrs n kb, partL n kb p = List.range n := fun p hp => range_all fun x _ => Fr.part_iff.mpr (.inr (.inr ⟨sp _ _, sp _ _⟩))
    obtain ⟨a, b, hL, _⟩ := Fr.lead_ex okk slk (show 0 < n by omega) (show 1 < n by omega) (by decide) (sp 0 1)
    have hm : List.range n ∈ (Fr.ldrs n kb).map (partL n kb) := List.mem_map.mpr ⟨(a, b), Fr.ldrs_mem.mpr hL, one _ (Fr.ldrs_mem.mpr hL)⟩
    have all : ∀ l ∈ (Fr.ldrs n kb).map (partL n kb), l = List.range n := fun l hl => by
      obtain ⟨p, hp, rfl⟩ := List.mem_map.mp hl
      exact one p hp
    generalize (Fr.ldrs n kb).map (partL n kb) = L at hm all hnd
    cases L with
    | nil => cases hm
    | cons x t =>
      cases t with
      | nil => rw [all x List.mem_cons_self]
      | cons y t =>
        have e1 := all x List.mem_cons_self
        have e2 := all y (List.mem_cons_of_mem _ List.mem_cons_self)
        rw [e1, e2] at hnd
        exact ((List.nodup_cons.mp hnd).1 List.mem_cons_self).elim
  · intro h
    generalize Fr.ldrs n kb = L at h hps
    cases L with
    | nil => cases h
    | cons p t =>
      cases t with
      | cons y t =>
        have z := congrArg List.length h
        simp at z
      | nil =>
        have e : partL n kb p = List.range n := by
          rw [List.map_cons, List.map_nil] at h
          exact (List.cons.inj h).1
        have c : Fr.card n (Fr.part n kb p.1 p.2) = n := by
          have z := congrArg List.length e
          unfold partL at z
          rw [List.length_range] at z
          exact List.countP_eq_length_filter.trans z
        simp only [List.map_cons, List.map_nil, List.sum_cons, List.sum_nil, c] at hps
        omega
end
end Pl

/-! sum(xss, []): lists put one behind the other. -/
namespace Su
open PySem PySem.Spec PyProof.Rows L2
theorem list_str : isSubtype (.type "list") (.type "str") = pure false := by rw [isSubtype_type]; kernel_rfl
theorem list_bytes : isSubtype (.type "list") (.type "bytes") = pure false := by rw [isSubtype_type]; kernel_rfl
theorem list_bytearray : isSubtype (.type "list") (.type "bytearray") = pure false := by rw [isSubtype_type]; kernel_rfl
theorem args_two (a b : Value) : argsOk "sum" ⟨[a, b], []⟩ := by unfold argsOk; kernel_rfl
section
variable {prog : Program} {w : World} {A : Around} {R : Result → Shared → Prop} {s0 : Shared} {h0 : Heap} {L I S : Addr} {us : List Value} {ys : Nat → List Value} {tot : Nat → List Value}
theorem loop (hh : A.handled = none) (hne : L ≠ I) (hSI : S ≠ I) (hSL : S ≠ L) (hS0 : h0.get? S = none) (hSz : h0.objs.size ≤ S) (hI0 : h0.get? I = none)
    (hu : ∀ i v, us[i]? = some v → ∃ l n, v = .ref l ∧ h0.get? l = some { cls := .type "list", data := .seq (ys i).toArray n }) (ht : ∀ i, tot (i + 1) = tot i ++ ys i) (hz : ∀ i, i < us.length → (tot i).length + (ys i).length ≤ sizeLine)
    (hR : ∀ (p : Addr) (n : Nat) (h' : Heap) (tk : Nat), (∀ b o, h0.get? b = some o → h'.get? b = some o) → h'.get? p = some { cls := .type "list", data := .seq (tot us.length).toArray n } → (us.length = 0 ∨ h0.objs.size ≤ p) → R (.ok (.ret (.ref p))) { s0 with heap := h', toks := tk }) :
    ∀ (k i : Nat) (h : Heap) (tk0 : Nat) (t : Addr) (tn c : Nat), us.length - i = k → i ≤ us.length → (∀ b o, h0.get? b = some o → h.get? b = some o) → h.IsListIter I L i → h.IsList L us.toArray → t ≠ S → t ≠ I →
      h.get? t = some { cls := .type "list", data := .seq (tot i).toArray tn } → (i = 0 ∨ h0.objs.size ≤ t) → h.get? S = some { cls := .type "list", dict := none, data := .seq #[.ref t] c, slots := #[] } →
      codeAny (model prog w) A (.builtin "sum.loop" ⟨[.ref I, .ref S, rawInt 2, rawInt 0], []⟩) R { s0 with heap := h, toks := tk0 } := by
  have W := Walks.list (prog := prog) (w := w) (A := A.in1) hh I L hne us.toArray
  have hsz : us.toArray.size = us.length := by simp
  intro k
  induction k with
  | zero =>
    intro i h tk0 t tn c hk hi kp hit hl tS tI hT hti hS
    have hin : i = us.length := by omega
    subst hin
    refine codeAny_builtin F.entry_sum_loop ?_
    rw [Around.under_plainId F.plain_sum_loop _]
    show wpAny _ A.in1 (seqItems? (.ref S) >>= _) _ _ { s0 with heap := h, toks := tk0 }
    refine wpAny_bind (wpAny_seqItems hS rfl ?_)
    show wpAny _ A.in1 (tryCatch (pyNext (.ref I)) _ >>= _) _ _ { s0 with heap := h, toks := tk0 }
    refine wpAny_bind (wpAny_tryCatch (W.done { s0 with heap := h, toks := tk0 } _ _ ⟨by rw [hsz]; exact hit, hl⟩ fun h' tk hk' => ?_))
    have kI : ∀ b o, b ≠ I → h.get? b = some o → h'.get? b = some o := fun b o hb e => hk' b o (fun z => hb (List.mem_singleton.mp z)) e
    exact wpAny_pure (hR t tn h' tk (fun b o e => kI b o (fun z => by rw [z, hI0] at e; cases e) (kp b o e)) (kI t _ tI hT) hti)
  | succ k ih =>
    intro i h tk0 t tn c hk hi kp hit hl tS tI hT hti hS
    have hlt : i < us.length := by omega
    refine codeAny_builtin F.entry_sum_loop ?_
    rw [Around.under_plainId F.plain_sum_loop _]
    show wpAny _ A.in1 (seqItems? (.ref S) >>= _) _ _ { s0 with heap := h, toks := tk0 }
    refine wpAny_bind (wpAny_seqItems hS rfl ?_)
    show wpAny _ A.in1 (tryCatch (pyNext (.ref I)) _ >>= _) _ _ { s0 with heap := h, toks := tk0 }
    refine wpAny_bind (wpAny_tryCatch (W.item i { s0 with heap := h, toks := tk0 } _ _ (by rw [hsz]; exact hlt) ⟨hit, hl⟩ fun v h' tk hP hst' hk' => ?_))
    have kI : ∀ b o, b ≠ I → h.get? b = some o → h'.get? b = some o := fun b o hb e => hk' b o (fun z => hb (List.mem_singleton.mp z)) e
    obtain ⟨l, n, rfl, hl0⟩ := hu i v (by simpa using hP)
    have hl' := kI l _ (fun z => by rw [z, hI0] at hl0; cases hl0) (kp l _ hl0)
    have hT' := kI t _ tI hT
    have hS' := kI S _ hSI hS
    show wpAny _ A.in1 ((holding [.ref l] (binaryOp .Add (.ref t) (.ref l))).attempt >>= _) _ _ _
    refine wpAny_bind (wpAny_attempt (wpAny_holding (PySem.P.add_list (n := tn) (n2 := n) hT' hl' ?_ (by have z := hz i hlt; simp only [List.size_toArray]; exact z))))
    show wpAny _ A.in1 (updateSeq S (fun _ => #[.ref h'.objs.size]) >>= _) _ _ _
    have hS1 : (h'.push { cls := .type "list", data := .seq ((tot i).toArray ++ (ys i).toArray) }).get? S = _ := Heap.get?_push_of_some _ hS'
    refine wpAny_bind (wpAny_updateSeq hS1 rfl ?_)
    have hS₂ := Heap.get?_update_self (Obj.mapSeq fun _ => #[Value.ref h'.objs.size]) hS1 rfl
    refine wpAny_bind (wpAny_letGo ?_)
    have ne2 : ∀ b, b ≠ S → ∀ o, h'.get? b = some o → (((h'.push { cls := .type "list", data := .seq ((tot i).toArray ++ (ys i).toArray) }).update S (Obj.mapSeq fun _ => #[Value.ref h'.objs.size])).update S (Obj.mapSeq fun _ => #[Value.ref h'.objs.size])).get? b = some o := fun b hb o e =>
      (Heap.get?_update_other _ _ (Ne.symm hb)).trans ((Heap.get?_update_other _ _ (Ne.symm hb)).trans (Heap.get?_push_of_some _ e))
    have ltS : S < h'.objs.size := Heap.lt_size hS'
    have ltI : I < h'.objs.size := by
      obtain ⟨o, e, _⟩ := hst'.1
      exact Heap.lt_size e
    have kp' : ∀ b o, h0.get? b = some o → h'.get? b = some o := fun b o e => kI b o (fun z => by rw [z, hI0] at e; cases e) (kp b o e)
    have sz1 : h0.objs.size ≤ h'.objs.size := Nat.le_trans hSz (Nat.le_of_lt ltS)
    refine wpAny_bind (wpAny_updateSeq hS₂ rfl (wpAny_pure ⟨plainId_quiet F.plain_sum_loop _, ih (i + 1) _ _ h'.objs.size 0 _ (by omega) hlt (fun b o e => ?_) (hst'.1.at fun o e => ne2 I (Ne.symm hSI) o e) (hst'.2.at fun o e => ne2 L (Ne.symm hSL) o e) (Nat.ne_of_gt ltS) (Nat.ne_of_gt ltI) ?_ (.inr sz1) (Heap.get?_update_self _ hS₂ rfl)⟩))
    · exact ne2 b (fun z => by rw [z, hS0] at e; cases e) o (kp' b o e)
    · refine (Heap.get?_update_other _ _ (Nat.ne_of_lt ltS)).trans ((Heap.get?_update_other _ _ (Nat.ne_of_lt ltS)).trans ?_)
      rw [Heap.get?_push_size _ rfl, ht]
      simp
end
section
variable {prog : Program} {w : World} {A : Around} {E : Value → Shared → Prop} {s : Shared} {L B : Addr} {us : List Value} {ys : Nat → List Value} {tot : Nat → List Value} {Q : Value → Shared → Prop}
theorem sum_lists (hh : A.handled = none) (hl : s.heap.IsList L us.toArray) (h0 : tot 0 = []) {bn : Nat} (hb : s.heap.get? B = some { cls := .type "list", data := .seq #[] bn })
    (hu : ∀ i v, us[i]? = some v → ∃ l n, v = .ref l ∧ s.heap.get? l = some { cls := .type "list", data := .seq (ys i).toArray n }) (ht : ∀ i, tot (i + 1) = tot i ++ ys i) (hz : ∀ i, i < us.length → (tot i).length + (ys i).length ≤ sizeLine)
    (hQ : ∀ (p : Addr) (n : Nat) (h' : Heap) (tk : Nat), (∀ b o, s.heap.get? b = some o → h'.get? b = some o) → h'.get? p = some { cls := .type "list", data := .seq (tot us.length).toArray n } → (us.length = 0 ∨ s.heap.objs.size ≤ p) → Q (.ref p) { s with heap := h', toks := tk }) :
    wpAny (model prog w) A (call (.builtin "sum") [.ref L, .ref B]) Q E s := by
  refine call_function_tree F.kind_sum F.plain_sum F.entry_sum (args_two _ _) ?_
  unfold Builtin.«sum»
  simp only [List.length_cons, List.length_nil]
  rw [if_neg (by decide)]
  refine wpAny_bind (wpAny_of_eq (show Builtin.Builtins.bindParams "sum" ["start"] 0 ⟨[.ref B], []⟩ = pure [some (.ref B)] from rfl) ?_)
  refine wpAny_bind (wpAny_pyIter_list hl ?_)
  refine wpAny_bind (wpAny_pure ?_)
  have ty : ∀ (h : Heap) (tk : Nat), (∀ b o, s.heap.get? b = some o → h.get? b = some o) → Shared.TypeIs { s with heap := h, toks := tk } (.ref B) "list" := fun h tk k => ⟨_, k _ _ hb, rfl⟩
  simp only [List.forIn_cons, List.forIn_nil]
  refine wpAny_bind (wpAny_bind (wpAny_bind (wpAny_isInstance (T := "list") (b := false) (ty _ _ fun b o e => Heap.get?_push_of_some _ e) list_str ?_)))
  simp only [Bool.false_eq_true, if_false]
  refine wpAny_pure (wpAny_bind (wpAny_bind (wpAny_isInstance (T := "list") (b := false) (ty _ _ fun b o e => Heap.get?_push_of_some _ e) list_bytes ?_)))
  simp only [Bool.false_eq_true, if_false]
  refine wpAny_pure (wpAny_bind (wpAny_bind (wpAny_isInstance (T := "list") (b := false) (ty _ _ fun b o e => Heap.get?_push_of_some _ e) list_bytearray ?_)))
  simp only [Bool.false_eq_true, if_false]
  refine wpAny_pure (wpAny_pure ?_)
  refine wpAny_bind (wpAny_newObj_type ?_)
  have sp : s.heap.objs.size < (s.heap.push { cls := .type "list_iterator", data := .fields #[.ref L, .int 0 0] }).objs.size := by rw [Heap.size_push]; exact Nat.lt_succ_self _
  have n1 := Nat.ne_of_lt sp
  have spl := Nat.le_of_lt sp
  have lL : L < s.heap.objs.size := by
    obtain ⟨o, e, _⟩ := hl
    exact Heap.lt_size e
  have lB : B < s.heap.objs.size := Heap.lt_size hb
  have fresh : ∀ b, s.heap.objs.size ≤ b → s.heap.get? b = none := fun b hb => Heap.get?_none_of_le hb
  refine wpAny_pure ⟨plainId_quiet F.plain_sum_loop _, loop (s0 := s) (h0 := s.heap) (us := us) (ys := ys) (tot := tot) hh (Nat.ne_of_lt lL) (Ne.symm n1) (Ne.symm (Nat.ne_of_lt (Nat.lt_of_lt_of_le lL spl))) (fresh _ spl) spl (fresh _ (Nat.le_refl _)) hu ht hz (fun p n h' tk k e1 e2 => hQ p n h' tk k e1 e2)
    us.length 0 _ _ B bn 0 rfl (Nat.zero_le _) (fun b o e => Heap.get?_push_of_some _ (Heap.get?_push_of_some _ e)) ?_ ?_ (Nat.ne_of_lt (Nat.lt_of_lt_of_le lB spl)) (Nat.ne_of_lt lB) ?_ (.inl rfl) ?_⟩
  · exact ⟨_, Heap.get?_push_of_some _ (Heap.get?_push_size _ rfl), rfl, rfl⟩
  · exact hl.at fun o e => Heap.get?_push_of_some _ (Heap.get?_push_of_some _ e)
  · rw [h0]
    exact Heap.get?_push_of_some _ (Heap.get?_push_of_some _ hb)
  · exact Heap.get?_push_size _ rfl
end
section
variable {X : Cx}
/-- sum(xss, b), b an empty list: a new list of all that is in xss, which isn't empty -/
def rSumL (K : PySem.W.Frag) : List V → Hp → VK → Prop := fun vs H Q => ∃ (a b : Addr) (ls : List Addr) (yss : List (List V)), vs = [.ref a, .ref b] ∧ SqL K H a (ls.map V.ref) ∧ H b = some (.lst []) ∧ ls.length = yss.length ∧ 0 < ls.length ∧ (∀ (i : Nat) (l : Addr) (ys : List V), ls[i]? = some l → yss[i]? = some ys → H l = some (.lst ys)) ∧ yss.flatten.length ≤ sizeLine ∧
  ∀ p, H p = none → Q (.ref p) (upd H p (.lst yss.flatten))
theorem flat_take {α : Type} (yss : List (List α)) (i : Nat) : (yss.take (i + 1)).flatten = (yss.take i).flatten ++ yss.getD i [] := by
  by_cases h : i < yss.length
  · rw [← List.take_append_getElem h, List.flatten_append]
    simp [List.getD, h]
  · rw [List.take_of_length_le (by omega), List.take_of_length_le (by omega)]
    simp [List.getD, h]
theorem cr_sumL (hc : X.calm = true) : CallR X (.builtin "sum") (rSumL X.K) := by
  intro pins s σ H vs us Q I r h
  obtain ⟨a, b, ls, yss, rfl, hs, hb, hlen, h1, hall, hz, q⟩ := h
  obtain ⟨its, rv, hl, _⟩ := I.list hs
  obtain ⟨_, bits, bn, rb, lb, eb⟩ := I.lstM hb
  have eb0 : bits = [] := List.length_eq_zero_iff.mp (by rw [← lb]; rfl)
  subst eb0
  cases r with
  | cons ra r =>
    cases r with
    | cons rb2 r =>
      cases r
      cases ra
      cases rb2
      have hits : its.length = ls.length := by rw [← rv.length, List.length_map]
      have each : ∀ i : Nat, i < ls.length → ∃ (l : Addr) (vs : List Value) (n : Nat), its[i]? = some (.ref l) ∧ Vals (yss.getD i []) vs ∧ s.heap.get? l = some { cls := .type "list", data := .seq vs.toArray n } := fun i hi => by
        obtain ⟨u, hu, ru⟩ := rv.get (i := i) (x := V.ref ls[i]) (by rw [List.getElem?_map, List.getElem?_eq_getElem hi]; rfl)
        cases ru
        have hy : yss[i]? = some (yss.getD i []) := by
          have hi2 : i < yss.length := by omega
          simp [List.getD, hi2]
        obtain ⟨_, vs, n, rvs, _, e⟩ := I.lstM (hall i ls[i] _ (List.getElem?_eq_getElem hi) hy)
        exact ⟨_, vs, n, hu, rvs, e⟩
      have hch : ∃ ys : Nat → List Value, ∀ i : Nat, i < ls.length → ∃ (l : Addr) (n : Nat), its[i]? = some (.ref l) ∧ Vals (yss.getD i []) (ys i) ∧ s.heap.get? l = some { cls := .type "list", data := .seq (ys i).toArray n } := by
        refine ⟨fun i => if h : i < ls.length then (each i h).choose_spec.choose else [], fun i hi => ?_⟩
        simp only [dif_pos hi]
        obtain ⟨n, e1, e2, e3⟩ := (each i hi).choose_spec.choose_spec
        exact ⟨_, n, e1, e2, e3⟩
      obtain ⟨ys, hys⟩ := hch
      have tv : ∀ i : Nat, i ≤ ls.length → Vals (yss.take i).flatten ((List.range i).flatMap ys) := fun i => by
        induction i with
        | zero => intro _; rw [List.take_zero]; exact .nil
        | succ i ih =>
          intro hi
          obtain ⟨_, _, _, e2, _⟩ := hys i (by omega)
          rw [flat_take, List.range_succ, List.flatMap_append]
          refine (ih (by omega)).append ?_
          simpa using e2
      have tl : ∀ i : Nat, i ≤ ls.length → ((List.range i).flatMap ys).length ≤ yss.flatten.length := fun i hi => by
        rw [← (tv i hi).length]
        have z := congrArg (fun l => l.flatten.length) (List.take_append_drop i yss)
        simp only [List.flatten_append, List.length_append] at z
        omega
      refine sum_lists (I.ok.hd hc) hl.isList (ys := ys) (tot := fun i => (List.range i).flatMap ys) rfl eb (fun i v hv => ?_) (fun i => by rw [List.range_succ, List.flatMap_append]; simp) (fun i hi => ?_) fun p n h' tk k e1 e2 => ?_
      · have hi : i < ls.length := by rw [← hits]; exact (List.getElem?_eq_some_iff.mp hv).1
        obtain ⟨l, n, e1, _, e3⟩ := hys i hi
        rw [hv] at e1
        cases e1
        exact ⟨l, n, rfl, e3⟩
      · have hi2 : i < ls.length := by omega
        have z := tl (i + 1) hi2
        rw [List.range_succ, List.flatMap_append, List.length_append] at z
        simp only [List.flatMap_cons, List.flatMap_nil, List.append_nil] at z
        omega
      · have hp : s.heap.objs.size ≤ p := e2.elim (fun z => absurd z (by omega)) id
        rw [hits] at e1
        have v := tv ls.length (Nat.le_refl _)
        rw [List.take_of_length_le (by omega)] at v
        exact ⟨.ref p, _, I.laid (o := .lst yss.flatten) k hp ⟨hz, _, n, v, e1⟩, rfl, q p (I.hok.fresh hp)⟩
end
end Su

/-! Promises with several outcomes; a tree in a slot told as data; sum of lists; max. -/
namespace Pl
open PySem PySem.Spec PyProof.Rows L2
open Evl (Ex)
section
variable {K : PySem.W.Frag} {S0 H0 S H S' H' : Hp} {σ : L2.St} {ρ ρ' ρ1 ρv : Rho} {g g' g1 g2 gl gr : Gs} {F G : FM} {t u : TS} {te ti td tx tk tv ty : TE} {tA : TA} {c : TT} {d : D} {es ds : List D} {ms : List M} {m m1 m2 mv : M} {a : Addr} {π : List Nat} {Dd : Ends} {i j : Nat} {b : Bool} {r : Rs} {E : XK} {s : Shp}
/-- a def's promise: one of the outcomes P -/
def spQ (K : PySem.W.Frag) (Rel : List D → Gs → (Rs → Gs → Prop) → Prop) : Sp := fun vs H Q _ => ∃ S H0 ds g P, SG K S H0 [] g S H [] ∧ RdL K S vs ds ∧ Rel ds g P ∧ ∀ r g' v S' H', P r g' → Ex S S' → Res K S H0 [] g' S' H' [] v r → Q v H'
def EvQ (K : PySem.W.Frag) (te : TE) (ρ : Rho) (g : Gs) (P : Rs → Gs → Prop) : Prop := ∀ S0 H0 S H σ, SG K S0 H0 ρ g S H σ → ∀ Q : VK, (∀ r g' v S' H', P r g' → Ex S S' → Res K S0 H0 ρ g' S' H' σ v r → Q v H') → te σ H Q
theorem spQ_len {Rel : List D → Gs → (Rs → Gs → Prop) → Prop} {n : Nat} (h : ∀ ds g P, Rel ds g P → ds.length = n) : ∀ vs H Q E, spQ K Rel vs H Q E → vs.length = n := fun vs H Q E ⟨S, H0, ds, g, P, _, rl, rel, _⟩ => rl.length.trans (h ds g P rel)
/-- a call with arguments, some of them new trees -/
theorem ev_callQ {Rel : List D → Gs → (Rs → Gs → Prop) → Prop} {PA : List D → Gs → Prop} {P : Rs → Gs → Prop} (ha : EvXA K tA ρ g PA) (hr : ∀ ds x, PA ds x → ∃ g1 g2 P1, List.Perm x (g1 ++ g2) ∧ Rel ds g1 P1 ∧ ∀ r gq, P1 r gq → ∃ g' e, P r g' ∧ List.Perm (g2 ++ gq) (g' ++ e)) : EvQ K (tCall (spQ K Rel) [] E tA) ρ g P := fun S0 H0 S H σ st0 Q q =>
  ha S0 H0 S H σ st0 _ fun vs ds x S1 H1 e1 pp s1 r1 => by
    obtain ⟨g1, g2, P1, hp, rel, hq⟩ := hr ds x pp
    obtain ⟨fp, rg, st⟩ := s1.perm hp
    have o := rg.own
    rw [gv_app, gm_app] at o
    obtain ⟨fs, f2, e, o1, o2⟩ := o.split gv_len
    subst e
    have n := SG.noS st rg
    have hc : cov (cov H1 (fun _ => none) fs) H1 fs = H1 := funext fun a => by
      by_cases h : a ∈ fs
      · rw [cov_in h]
      · rw [cov_out h, cov_out h]
    refine ⟨S1, cov H1 (fun _ => none) fs, ds, g1, P1, ⟨fs, ⟨o1, (List.nodup_append.mp rg.nd).1, fun a ha => ⟨cov_in ha, n a (List.mem_append_left _ ha)⟩⟩, ?_⟩, by rw [List.append_nil]; exact r1, rel, fun r gq v S2 H2 hP _ z => ?_⟩
    · rw [hc]
      exact (⟨Ext.refl st.ext.sub, ⟨rfl, fun i d h => by simp at h⟩, fun i ds h => by simp at h, fun i j a b p h => by simp at h⟩ : Stt K S1 H1 [] S1 H1 [])
    · obtain ⟨e, y⟩ := SG.ret st o1 o2 rg.nd rg.no z
      obtain ⟨g', ex, hP', hpp⟩ := hq r gq hP
      exact q r g' v S2 H2 hP' (e1.trans e) (Res.forget hpp y)
def FM.tellQ (P : Rs → Gs → Prop) : FM := { nx := fun _ x => ∃ g e, P (.d .non) g ∧ List.Perm x (g ++ e), rt := fun q x => ∃ g e, P q g ∧ List.Perm x (g ++ e) }
theorem TM.finQ {Rel : List D → Gs → (Rs → Gs → Prop) → Prop} {vs : List V} {N : List Str} {H : Hp} {Q : VK} {E : XK} (h : spQ K Rel vs H Q E) (k : ∀ ds g P, Rel ds g P → TM K t (startR N.length ds) g (.tellQ P)) : t { nx := fun _ H' => Q .non H', rt := Q } (L2.start N vs) H := by
  obtain ⟨S, H0, ds, g, P, st, rl, rel, q⟩ := h
  refine k ds g P rel S H0 S H _ _ (st.start rl) ⟨fun ρ x S' H' σ n e s => ?_, fun _ _ _ _ _ z => z.elim, fun _ _ _ _ _ z => z.elim, fun r' x v ρ S' H' σ n s => ?_⟩
  · obtain ⟨g', ex, hP, hp⟩ := n
    obtain ⟨fp, rg, s⟩ := (s.perm hp).forget
    exact q (.d .non) g' .non S' H' hP s.ext.s ⟨⟨fp, rg, s.clear⟩, .non⟩
  · obtain ⟨g', ex, hP, hp⟩ := n
    have s := s.bare
    have fin : ∀ {ρc σc}, SG K S H0 ρc x S' H' σc → Ex S S' ∧ SG K S H0 ρc g' S' H' σc := fun {ρc σc} z => by
      obtain ⟨fp, rg, y⟩ := (z.perm hp).forget
      exact ⟨y.ext.s, fp, rg, y⟩
    cases r' with
    | d d =>
      obtain ⟨e, y⟩ := fin s.1
      exact q _ g' v S' H' hP e ⟨y, s.2⟩
    | o es =>
      obtain ⟨e, y⟩ := fin s
      exact q _ g' v S' H' hP e y
    | t m =>
      obtain ⟨p, ev, s⟩ := s
      have hp2 : List.Perm (x ++ [(p, m)]) ((g' ++ [(p, m)]) ++ ex) := by
        refine (hp.append_right _).trans ?_
        rw [List.append_assoc, List.append_assoc]
        exact (List.perm_append_comm).append_left _
      obtain ⟨fp, rg, y⟩ := (s.perm hp2).forget
      exact q _ g' v S' H' hP y.ext.s ⟨p, ev, fp, rg, y⟩
/-- x = f(..) by one of the outcomes, all of them data -/
theorem TM.asgQ {tg : TG} {P : Rs → Gs → Prop} (h : EvQ K te ρ g P) (hk : ∀ r g', P r g' → ∃ d ps, r = .d d ∧ EvG K tg d ps ∧ F.nx (setR ρ ps) g') : TM K (tAsg te tg) ρ g F := fun S0 H0 S H σ Dd s a =>
  h S0 H0 S H σ s _ fun r g' v S1 H1 hP x1 z => by
    obtain ⟨d, ps, rfl, hg, k⟩ := hk r g' hP
    obtain ⟨s1, r1⟩ := z
    exact hg S1 H1 σ v s1.sub r1 _ fun vs rv => a.nx _ g' S1 H1 _ k x1 (s1.setV rv)
/-- an expression by one of the outcomes, told -/
theorem TM.retQ {P : Rs → Gs → Prop} (h : EvQ K te ρ g P) (hk : ∀ r g', P r g' → F.rt r g') : TM K (tRet te) ρ g F := fun S0 H0 S H σ Dd s a =>
  h S0 H0 S H σ s _ fun r g' v S1 H1 hP x1 z => a.rt r g' v ρ S1 H1 σ (hk r g' hP) z
theorem EvQ.of (h : EvX K te ρ g r g') {P : Rs → Gs → Prop} (hP : P r g') : EvQ K te ρ g P := fun S0 H0 S H σ s Q q => h S0 H0 S H σ s Q fun v S' H' e z => q r g' v S' H' hP e z
theorem SG.tellO {v : V} (z : SG K S0 H0 (ρ ++ [.o es]) g S H (σ ++ [some v])) : ∃ S2, Ex S S2 ∧ SG K S0 H0 ρ g S2 H σ ∧ Rd K S2 v (.lst es) := by
  obtain ⟨fp, rg, st⟩ := z
  have hl : σ.length = ρ.length := by
    have z := st.env.len
    simp only [List.length_append, List.length_cons, List.length_nil] at z
    omega
  have hlast : (ρ ++ [Sl.o es])[ρ.length]? = some (.o es) := by simp
  have hlastσ : (σ ++ [some v])[ρ.length]? = some (some v) := by rw [← hl]; simp
  obtain ⟨S2, e2, st2⟩ := st.freeze hlast
  have n := SG.noS st rg
  have hs : (ρ ++ [Sl.o es]).set ρ.length (.k (.lst es)) = ρ ++ [.k (.lst es)] := by simp
  rw [hs] at st2
  obtain ⟨w, w1, w2⟩ := st2.env.val ρ.length (.lst es) (by simp)
  rw [hlastσ] at w1
  cases w1
  have up : ∀ {j : Nat} {x : Sl}, ρ[j]? = some x → (ρ ++ [Sl.k (.lst es)])[j]? = some x ∧ (σ ++ [some v])[j]? = σ[j]? := fun {j x} h => by
    have hj : j < ρ.length := (List.getElem?_eq_some_iff.mp h).1
    exact ⟨by rw [List.getElem?_append_left hj]; exact h, by rw [List.getElem?_append_left (by omega)]⟩
  refine ⟨S2, e2, ⟨fp, ⟨rg.own.mono e2 fun a _ => rfl, rg.nd, rg.no⟩, st2.ext, ⟨hl, fun j x h => ?_⟩, fun j ds h => ?_, fun j k a b p h1 h2 e1 e2 => ?_⟩, w2⟩
  · obtain ⟨a1, a2⟩ := up h
    rw [← a2]
    exact st2.env.val j x a1
  · obtain ⟨a1, a2⟩ := up h
    rw [← a2]
    exact st2.own j ds a1
  · exact st2.apart j k a b p (up h1).1 (up h2).1 (by rw [(up h1).2]; exact e1) (by rw [(up h2).2]; exact e2)
/-- own lists that are told become data -/
theorem EvQ.tell {P P' : Rs → Gs → Prop} (h : EvQ K te ρ g P) (hP : ∀ r g', P r g' → ∃ es, r = .o es ∧ P' (.d (.lst es)) g') : EvQ K te ρ g P' := fun S0 H0 S H σ s Q q => h S0 H0 S H σ s Q fun r g' v S' H' hp e z => by
  obtain ⟨es, rfl, hp'⟩ := hP r g' hp
  obtain ⟨S2, e2, z2, r2⟩ := SG.tellO z
  exact q _ g' v S2 H' hp' (e.trans e2) ⟨z2, r2⟩
/-- a tree in a slot becomes data -/
theorem TM.tellS {q : Addr} (h : ρ[i]? = some (.k (.adr q))) (hp : List.Perm g (g1 ++ [(q, m)])) (k : TM K t (ρ.set i (.k m.see)) g1 F) : TM K t ρ g F := fun S0 H0 S H σ Dd st ac => by
  obtain ⟨S2, e, z, rd⟩ := SG.tellT (st.perm hp)
  obtain ⟨v, h1, h2⟩ := st.env.val i _ h
  cases h2
  obtain ⟨fp, rg, s⟩ := z
  have s2 := s.set (i := i) rd
  have eσ : σ.set i (some (.ref q)) = σ := by
    obtain ⟨hl, he⟩ := List.getElem?_eq_some_iff.mp h1
    rw [← he]
    exact List.set_getElem_self hl
  rw [eσ] at s2
  exact k S0 H0 S2 H σ Dd ⟨fp, rg, s2⟩ (ac.mono e)
/-! ### sum of lists -/
theorem ok_sumL {X : Cx} (h : X.K = K) (hc : X.calm = true) : CallR X (.builtin "sum") (Su.rSumL K) := by subst h; exact Su.cr_sumL hc
theorem ok_max {X : Cx} (h : X.K = K) (hc : X.calm = true) : CallR X (.builtin "max") (rMax K) := by subst h; exact cr_max hc
theorem ok_sum {X : Cx} (h : X.K = K) (hc : X.calm = true) : CallR X (.builtin "sum") (rSum K) := by subst h; exact cr_sum hc
theorem rc_sum {ns : List Int} : RC K (rSum K) [.lst (ns.map D.int)] (.int ns.sum) := fun S H vs e r Q q => by
  cases r with
  | cons h t =>
    cases t
    cases h with
    | lst ha rl =>
      have z := rl.ints
      subst z
      exact ⟨_, ns, rfl, Evl.sq_of (e _ _ ha), q _ S H (Ext.refl e) (.int _)⟩
theorem rc_max {ns : List Int} {m : Int} (h1 : m ∈ ns) (h2 : ∀ y ∈ ns, y ≤ m) : RC K (rMax K) [.lst (ns.map D.int)] (.int m) := fun S H vs e r Q q => by
  cases r with
  | cons h t =>
    cases t
    cases h with
    | lst ha rl =>
      have z := rl.ints
      subst z
      refine ⟨_, ns, rfl, Evl.sq_of (e _ _ ha), List.length_pos_of_mem h1, fun x hx hy => ?_⟩
      have ex : x = m := Int.le_antisymm (h2 x hx) (hy m h1)
      subst ex
      exact q _ S H (Ext.refl e) (.int _)
theorem rdl_lists : ∀ {xs : List V} {yss : List (List D)}, RdL K S xs (yss.map D.lst) → ∃ (ls : List Addr) (vss : List (List V)), xs = ls.map V.ref ∧ ls.length = yss.length ∧ vss.length = yss.length ∧ (∀ (i : Nat) (l : Addr) (ys : List V), ls[i]? = some l → vss[i]? = some ys → S l = some (.lst ys)) ∧ RdL K S vss.flatten yss.flatten
  | _, [], .nil => ⟨[], [], rfl, rfl, rfl, fun i l ys h => by simp at h, .nil⟩
  | _, ys :: yss, .cons h r => by
    obtain ⟨ls, vss, e1, e2, e3, e4, e5⟩ := rdl_lists r
    cases h with
    | lst ha rl =>
      rename_i a vs
      refine ⟨a :: ls, vs :: vss, by rw [e1]; rfl, by simp [e2], by simp [e3], fun i l ws h1 h2 => ?_, ?_⟩
      · cases i with
        | zero =>
          simp at h1 h2
          rw [← h1, ← h2]
          exact ha
        | succ i => exact e4 i l ws (by simpa using h1) (by simpa using h2)
      · rw [List.flatten_cons, List.flatten_cons]
        exact rl.append e5
theorem rc_sumL {yss : List (List D)} (h1 : 0 < yss.length) (hz : yss.flatten.length ≤ 100000) : RCF K (Su.rSumL K) [.lst (yss.map D.lst), .lst []] yss.flatten := fun S H vs e r Q q => by
  cases r with
  | cons ra r =>
    cases r with
    | cons rb r =>
      cases r
      cases ra with
      | lst ha rl =>
        cases rb with
        | lst hb rn =>
          cases rn
          obtain ⟨ls, vss, e1, e2, e3, e4, e5⟩ := rdl_lists rl
          subst e1
          refine ⟨_, _, ls, vss, rfl, Evl.sq_of (e _ _ ha), e _ _ hb, by omega, by omega, fun i l ys h1 h2 => e _ _ (e4 i l ys h1 h2), Evl.sz_of (by rw [e5.length]; exact hz), fun p hp => ?_⟩
          exact q p _ S _ (Ext.hid e hp) hp (sub_none e hp) upd_same e5
end
end Pl

/-! Blocks that have one joint together at most: lean, and each a part. -/
namespace Fr
open Pl (turnB)
section
variable {n : Nat}
theorem sub_length {l m : List Nat} (hl : l.Nodup) (hm : m.Nodup) (h : ∀ x ∈ l, x ∈ m) : l.length ≤ m.length := by
  have pm : (m.filter fun x => decide (x ∈ l)).Perm l := (List.perm_ext_iff_of_nodup (hm.filter _) hl).mpr fun x => by
    rw [List.mem_filter, decide_eq_true_eq]
    exact ⟨fun z => z.2, fun z => ⟨h x z, z⟩⟩
  rw [← pm.length_eq]
  exact List.length_filter_le _ _
/-- fewer joints, by other names -/
theorem emb_card {k : Nat} {f : Nat → Nat} (inj : ∀ x y, x < k → y < k → f x = f y → x = y) (low : ∀ x, x < k → f x < n) (S : JS) : card k (fun x => S (f x)) ≤ card n S := by
  unfold card
  rw [List.countP_eq_length_filter, List.countP_eq_length_filter, ← List.length_map (f := f)]
  refine sub_length ?_ (List.nodup_range.filter _) fun x hx => ?_
  · exact List.pairwise_map.mpr ((List.Pairwise.filter _ List.nodup_range).imp_of_mem fun {a b} ha hb hne e => hne (inj a b (List.mem_range.mp (List.mem_filter.mp ha).1) (List.mem_range.mp (List.mem_filter.mp hb).1) e))
  · obtain ⟨y, hy, rfl⟩ := List.mem_map.mp hx
    obtain ⟨h1, h2⟩ := List.mem_filter.mp hy
    exact List.mem_filter.mpr ⟨List.mem_range.mpr (low y (List.mem_range.mp h1)), h2⟩
theorem emb_slim {k : Nat} {bs : List Bar} {f : Nat → Nat} (inj : ∀ x y, x < k → y < k → f x = f y → x = y) (low : ∀ x, x < k → f x < n) (ok : Ok k bs) (sl : Slim k bs) : Slim n (bs.map (fb f)) := fun S hS => by
  rw [ins_map]
  have c := emb_card inj low S
  by_cases h : 2 ≤ card k fun x => S (f x)
  · have := sl _ h
    omega
  · rw [ins_small ok (by omega)]
    omega
/-- blocks, each with lean bars that leave it no room; m joints so far -/
inductive Glued (n : Nat) : Nat → List (List Nat) → List (List Bar) → Prop
  | nil : Glued n 0 [] []
  | snoc {m : Nat} {Bs : List (List Nat)} {Ks : List (List Bar)} (h : Glued n m Bs Ks) (m' : Nat) (B : List Nat) (L : List Bar) (nd : B.Nodup) (b2 : 2 ≤ B.length) (len : L.length + 3 = 2 * B.length) (sl : Slim n L)
      (within : ∀ b ∈ L, b.1 ∈ B ∧ b.2 ∈ B ∧ b.1 ≠ b.2) (low : ∀ x ∈ B, x < m') (up : m ≤ m') (le : m' ≤ n) (cov : ∀ x, x < m' → x < m ∨ x ∈ B) (one : ∀ x ∈ B, ∀ y ∈ B, x < m → y < m → x = y) : Glued n m' (Bs ++ [B]) (Ks ++ [L])
theorem card_block {B : List Nat} (nd : B.Nodup) (low : ∀ x ∈ B, x < n) : card n (inL B) = B.length := card_inL nd low
theorem block_tight {B : List Nat} {L : List Bar} (nd : B.Nodup) (b2 : 2 ≤ B.length) (len : L.length + 3 = 2 * B.length) (within : ∀ b ∈ L, b.1 ∈ B ∧ b.2 ∈ B ∧ b.1 ≠ b.2) (low : ∀ x ∈ B, x < n) : Tight n L (inL B) := by
  have c := card_block nd low
  have i : ins L (inL B) = L.length := by
    unfold ins
    rw [List.countP_eq_length]
    intro b hb
    obtain ⟨h1, h2, _⟩ := within b hb
    show (decide (b.1 ∈ B) && decide (b.2 ∈ B)) = true
    rw [decide_eq_true h1, decide_eq_true h2]
    rfl
  exact ⟨by omega, by omega⟩
theorem glued_low {m : Nat} {Bs : List (List Nat)} {Ks : List (List Bar)} (h : Glued n m Bs Ks) : m ≤ n ∧ Bs.length = Ks.length ∧ (∀ B ∈ Bs, ∀ x ∈ B, x < m) ∧ (∀ x, x < m → ∃ B ∈ Bs, x ∈ B) ∧ (∀ L ∈ Ks, ∀ b ∈ L, b.1 < m ∧ b.2 < m ∧ b.1 ≠ b.2) := by
  induction h with
  | nil => exact ⟨Nat.zero_le _, rfl, (fun _ h => nomatch h), (fun _ h => absurd h (Nat.not_lt_zero _)), fun _ h => nomatch h⟩
  | snoc h m' B L nd b2 len sl within low up le cov one ih =>
    obtain ⟨_, i2, i3, i4, i5⟩ := ih
    refine ⟨le, by simp [i2], fun C hC x hx => ?_, fun x hx => ?_, fun C hC b hb => ?_⟩
    · rcases List.mem_append.mp hC with hC | hC
      · have := i3 C hC x hx; omega
      · rw [List.mem_singleton.mp hC] at hx; exact low x hx
    · rcases cov x hx with h | h
      · obtain ⟨C, c1, c2⟩ := i4 x h
        exact ⟨C, List.mem_append_left _ c1, c2⟩
      · exact ⟨B, List.mem_append_right _ (List.mem_singleton.mpr rfl), h⟩
    · rcases List.mem_append.mp hC with hC | hC
      · obtain ⟨a1, a2, a3⟩ := i5 C hC b hb
        exact ⟨by omega, by omega, a3⟩
      · rw [List.mem_singleton.mp hC] at hb
        obtain ⟨a1, a2, a3⟩ := within b hb
        exact ⟨low _ a1, low _ a2, a3⟩
/-- one block more -/
theorem glue {m : Nat} {K L : List Bar} {B : List Nat} (okK : ∀ b ∈ K, b.1 < m ∧ b.2 < m ∧ b.1 ≠ b.2) (hm : m ≤ n) (slK : Slim n K) (slL : Slim n L) (within : ∀ b ∈ L, b.1 ∈ B ∧ b.2 ∈ B ∧ b.1 ≠ b.2) (low : ∀ x ∈ B, x < n)
    (one : ∀ x ∈ B, ∀ y ∈ B, x < m → y < m → x = y) : Slim n (K ++ L) ∧ ∀ S, Tight n (K ++ L) S → (Tight n K S) ∨ (∀ x, x < n → S x = true → x ∈ B) := by
  have okn : Ok n K := fun b hb => by obtain ⟨h1, h2, h3⟩ := okK b hb; exact ⟨by omega, by omega, h3⟩
  have okl : Ok n L := fun b hb => by obtain ⟨h1, h2, h3⟩ := within b hb; exact ⟨low _ h1, low _ h2, h3⟩
  have main : ∀ S : JS, 2 ≤ card n S → ins (K ++ L) S + 3 ≤ 2 * card n S ∧ (ins (K ++ L) S + 3 = 2 * card n S → Tight n K S ∨ ∀ x, x < n → S x = true → x ∈ B) := fun S hS => by
    have e1 : ins K S = ins K (cap S fun x => decide (x < m)) := countP_same fun b hb => by
      obtain ⟨h1, h2, _⟩ := okK b hb
      show (S b.1 && S b.2) = ((S b.1 && decide (b.1 < m)) && (S b.2 && decide (b.2 < m)))
      rw [decide_eq_true h1, decide_eq_true h2, Bool.and_true, Bool.and_true]
    have e2 : ins L S = ins L (cap S (inL B)) := countP_same fun b hb => by
      obtain ⟨h1, h2, _⟩ := within b hb
      show (S b.1 && S b.2) = ((S b.1 && decide (b.1 ∈ B)) && (S b.2 && decide (b.2 ∈ B)))
      rw [decide_eq_true h1, decide_eq_true h2, Bool.and_true, Bool.and_true]
    have cc := card_cup_cap n (cap S fun x => decide (x < m)) (cap S (inL B))
    have c1 : card n (cup (cap S fun x => decide (x < m)) (cap S (inL B))) ≤ card n S := card_mono fun x _ h => by
      have h : ((S x && decide (x < m)) || (S x && decide (x ∈ B))) = true := h
      cases q : S x with
      | true => rfl
      | false => rw [q] at h; cases h
    have c2 : card n (cap (cap S fun x => decide (x < m)) (cap S (inL B))) ≤ 1 := by
      by_cases q : 2 ≤ card n (cap (cap S fun x => decide (x < m)) (cap S (inL B)))
      · exfalso
        obtain ⟨a, b, lab, hb, ha2, hb2⟩ := exists_two q
        have ha2 : ((S a && decide (a < m)) && (S a && decide (a ∈ B))) = true := ha2
        have hb2 : ((S b && decide (b < m)) && (S b && decide (b ∈ B))) = true := hb2
        simp only [Bool.and_eq_true, decide_eq_true_eq] at ha2 hb2
        have := one a ha2.2.2 b hb2.2.2 ha2.1.2 hb2.1.2
        omega
      · omega
    have s1 : card n (cap S fun x => decide (x < m)) ≤ card n S := card_mono fun x _ h => by
      have h : (S x && decide (x < m)) = true := h
      rw [Bool.and_eq_true] at h; exact h.1
    have s2 : card n (cap S (inL B)) ≤ card n S := card_mono fun x _ h => by
      have h : (S x && decide (x ∈ B)) = true := h
      rw [Bool.and_eq_true] at h; exact h.1
    rw [ins_app, e1, e2]
    have bK : 2 ≤ card n (cap S fun x => decide (x < m)) → ins K (cap S fun x => decide (x < m)) + 3 ≤ 2 * card n (cap S fun x => decide (x < m)) := slK _
    have bL : 2 ≤ card n (cap S (inL B)) → ins L (cap S (inL B)) + 3 ≤ 2 * card n (cap S (inL B)) := slL _
    have zK : card n (cap S fun x => decide (x < m)) ≤ 1 → ins K (cap S fun x => decide (x < m)) = 0 := ins_small okn
    have zL : card n (cap S (inL B)) ≤ 1 → ins L (cap S (inL B)) = 0 := ins_small okl
    generalize hkS : card n (cap S fun x => decide (x < m)) = kS at *
    generalize hlS : card n (cap S (inL B)) = lS at *
    generalize hiK : ins K (cap S fun x => decide (x < m)) = iK at *
    generalize hiL : ins L (cap S (inL B)) = iL at *
    refine ⟨?_, fun e => ?_⟩
    · by_cases q1 : 2 ≤ kS <;> by_cases q2 : 2 ≤ lS
      · have := bK q1; have := bL q2; omega
      · have := bK q1; have := zL (by omega); omega
      · have := bL q2; have := zK (by omega); omega
      · have := zK (by omega); have := zL (by omega); omega
    · by_cases q1 : 2 ≤ kS
      · by_cases q2 : 2 ≤ lS
        · have := bK q1; have := bL q2; omega
        · left
          have := zL (by omega)
          have := bK q1
          exact ⟨hS, by rw [e1]; omega⟩
      · right
        intro x hx sx
        have := zK (by omega)
        have h2 : 2 ≤ lS := by
          by_cases q2 : 2 ≤ lS
          · exact q2
          · have := zL (by omega); omega
        have := bL h2
        -- all of S is in B
        by_cases q : x ∈ B
        · exact q
        · exfalso
          have lt : card n (cap S (inL B)) < card n S := by
            have w := card_wo (n := n) (j := x) (S := S) hx sx
            have le2 : card n (cap S (inL B)) ≤ card n (wo S x) := card_mono fun y _ h => by
              have h : (S y && decide (y ∈ B)) = true := h
              rw [Bool.and_eq_true, decide_eq_true_eq] at h
              show (S y && !(y == x)) = true
              have ne : (y == x) = false := by
                cases z : y == x with
                | false => rfl
                | true => rw [beq_iff_eq] at z; subst z; exact (q h.2).elim
              rw [h.1, ne]
              rfl
            omega
          omega
  exact ⟨fun S hS => (main S hS).1, fun S ⟨t1, t2⟩ => (main S t1).2 t2⟩
theorem glued_flat {m : Nat} {Bs : List (List Nat)} {Ks : List (List Bar)} (h : Glued n m Bs Ks) : Ok n Ks.flatten ∧ Slim n Ks.flatten ∧ ∀ S, Tight n Ks.flatten S → ∃ B ∈ Bs, ∀ x, x < n → S x = true → x ∈ B := by
  induction h with
  | nil => exact ⟨fun _ h => (nomatch h), Pl.slim_nil n, fun S ⟨t1, t2⟩ => by have z : ins [] S = 0 := rfl; simp only [List.flatten_nil] at t2; omega⟩
  | snoc h m' B L nd b2 len sl within low up le cov one ih =>
    rename_i m0 Bs Ks
    obtain ⟨i1, i2, i3⟩ := ih
    obtain ⟨g1, _, g3, _, g5⟩ := glued_low h
    have e : ∀ Ks : List (List Bar), (Ks ++ [L]).flatten = Ks.flatten ++ L := fun Ks => by simp
    rw [e]
    have okK : ∀ b ∈ Ks.flatten, b.1 < m0 ∧ b.2 < m0 ∧ b.1 ≠ b.2 := fun b hb => by
      obtain ⟨C, c1, c2⟩ := List.mem_flatten.mp hb
      exact g5 C c1 b c2
    obtain ⟨k1, k2⟩ := glue okK g1 i2 sl within (fun x hx => by have := low x hx; omega) one
    refine ⟨i1.app fun b hb => ?_, k1, fun S tS => ?_⟩
    · obtain ⟨a1, a2, a3⟩ := within b hb
      have := low _ a1
      have := low _ a2
      exact ⟨by omega, by omega, a3⟩
    · rcases k2 S tS with q | q
      · obtain ⟨C, c1, c2⟩ := i3 S q
        exact ⟨C, List.mem_append_left _ c1, c2⟩
      · exact ⟨B, List.mem_append_right _ (List.mem_singleton.mpr rfl), q⟩
/-- each block with its bars -/
theorem glued_at {m : Nat} {Bs : List (List Nat)} {Ks : List (List Bar)} (h : Glued n m Bs Ks) : ∀ (i : Nat) (B : List Nat) (L : List Bar), Bs[i]? = some B → Ks[i]? = some L → B.Nodup ∧ 2 ≤ B.length ∧ (∀ x ∈ B, x < n) ∧ (∀ b ∈ L, b.1 ∈ B ∧ b.2 ∈ B ∧ b.1 ≠ b.2) ∧ L.length + 3 = 2 * B.length ∧ Slim n L := by
  induction h with
  | nil => intro i B L h1; simp at h1
  | snoc h m' B L nd b2 len sl within low up le cov one ih =>
    rename_i m0 Bs Ks
    intro i C M h1 h2
    obtain ⟨_, g2, _⟩ := glued_low h
    by_cases hi : i < Bs.length
    · rw [List.getElem?_append_left hi] at h1
      rw [List.getElem?_append_left (by omega)] at h2
      exact ih i C M h1 h2
    · have hi2 : i = Bs.length := by
        have z := (List.getElem?_eq_some_iff.mp h1).1
        simp at z
        omega
      subst hi2
      rw [List.getElem?_append_right (Nat.le_refl _), Nat.sub_self] at h1
      rw [List.getElem?_append_right (by omega), g2, Nat.sub_self] at h2
      simp at h1 h2
      subst h1
      subst h2
      exact ⟨nd, b2, fun x hx => by have := low x hx; omega, within, len, sl⟩
/-- two blocks have one joint together at most -/
theorem glued_two {m : Nat} {Bs : List (List Nat)} {Ks : List (List Bar)} (h : Glued n m Bs Ks) : ∀ (i j : Nat) (B C : List Nat), Bs[i]? = some B → Bs[j]? = some C → i ≠ j → ∀ x ∈ B, ∀ y ∈ B, x ∈ C → y ∈ C → x = y := by
  induction h with
  | nil => intro i j B C h1; simp at h1
  | snoc h m' B0 L nd b2 len sl within low up le cov one ih =>
    rename_i m0 Bs Ks
    intro i j B C h1 h2 ne x hx y hy hx2 hy2
    obtain ⟨_, _, g3, _, _⟩ := glued_low h
    have dec : ∀ {k : Nat} {D : List Nat}, (Bs ++ [B0])[k]? = some D → (k < Bs.length ∧ Bs[k]? = some D) ∨ (k = Bs.length ∧ D = B0) := fun {k D} hk => by
      by_cases q : k < Bs.length
      · rw [List.getElem?_append_left q] at hk
        exact .inl ⟨q, hk⟩
      · have z := (List.getElem?_eq_some_iff.mp hk).1
        simp at z
        have : k = Bs.length := by omega
        subst this
        simp at hk
        exact .inr ⟨rfl, hk.symm⟩
    rcases dec h1 with ⟨q1, k1⟩ | ⟨q1, rfl⟩
    · rcases dec h2 with ⟨q2, k2⟩ | ⟨q2, rfl⟩
      · exact ih i j B C k1 k2 ne x hx y hy hx2 hy2
      · have hm := List.mem_of_getElem? k1
        exact one x hx2 y hy2 (g3 B hm x hx) (g3 B hm y hy)
    · rcases dec h2 with ⟨q2, k2⟩ | ⟨q2, rfl⟩
      · have hm := List.mem_of_getElem? k2
        exact one x hx y hy (g3 C hm x hx2) (g3 C hm y hy2)
      · exact absurd (q1.trans q2.symm) ne
end
end Fr

/-! Glued blocks with some bars more within blocks: what is held, the worth, the parts, the bars that are too many. -/
namespace Fr
open Pl (manyL partsL partL manyL_mem sortN)
/-- blocks, their lean bars, all their bars -/
structure Grown (n : Nat) (Bs : List (List Nat)) (Ks Ns : List (List Bar)) : Prop where
  gl : Glued n n Bs Ks
  len : Ns.length = Ks.length
  more : ∀ (i : Nat) (B : List Nat) (L N : List Bar), Bs[i]? = some B → Ks[i]? = some L → Ns[i]? = some N → ∃ E, N = L ++ E ∧ ∀ b ∈ E, b.1 ∈ B ∧ b.2 ∈ B ∧ b.1 ≠ b.2
section
variable {n : Nat} {Bs : List (List Nat)} {Ks Ns : List (List Bar)}
theorem get3 (gr : Grown n Bs Ks Ns) {i : Nat} (hi : i < Ns.length) : ∃ B L N E, Bs[i]? = some B ∧ Ks[i]? = some L ∧ Ns[i]? = some N ∧ N = L ++ E ∧ ∀ b ∈ E, b.1 ∈ B ∧ b.2 ∈ B ∧ b.1 ≠ b.2 := by
  obtain ⟨_, g2, _⟩ := glued_low gr.gl
  have h1 : i < Ks.length := by have := gr.len; omega
  have h2 : i < Bs.length := by omega
  obtain ⟨E, e1, e2⟩ := gr.more i _ _ _ (List.getElem?_eq_getElem h2) (List.getElem?_eq_getElem h1) (List.getElem?_eq_getElem hi)
  exact ⟨_, _, _, E, List.getElem?_eq_getElem h2, List.getElem?_eq_getElem h1, List.getElem?_eq_getElem hi, e1, e2⟩
theorem flat_mem {α : Type} {xs : List (List α)} {x : α} : x ∈ xs.flatten ↔ ∃ (i : Nat) (l : List α), xs[i]? = some l ∧ x ∈ l := by
  rw [List.mem_flatten]
  constructor
  · rintro ⟨l, h1, h2⟩
    obtain ⟨i, hi⟩ := List.getElem?_of_mem h1
    exact ⟨i, l, hi, h2⟩
  · rintro ⟨i, l, h1, h2⟩
    exact ⟨l, List.mem_of_getElem? h1, h2⟩
/-- a bar of all lies within its block -/
theorem grown_in (gr : Grown n Bs Ks Ns) {i : Nat} {N : List Bar} {b : Bar} (hN : Ns[i]? = some N) (hb : b ∈ N) : ∃ B, Bs[i]? = some B ∧ b.1 ∈ B ∧ b.2 ∈ B ∧ b.1 ≠ b.2 := by
  obtain ⟨B, L, N', E, h1, h2, h3, e, hE⟩ := get3 gr (List.getElem?_eq_some_iff.mp hN).1
  rw [hN] at h3
  cases h3
  obtain ⟨_, _, _, w, _, _⟩ := glued_at gr.gl i B L h1 h2
  rw [e] at hb
  exact ⟨B, h1, (List.mem_append.mp hb).elim (w b) (hE b)⟩
theorem grown_ok (gr : Grown n Bs Ks Ns) : Ok n Ns.flatten := fun b hb => by
  obtain ⟨i, N, h1, h2⟩ := flat_mem.mp hb
  obtain ⟨B, hB, a1, a2, a3⟩ := grown_in gr h1 h2
  obtain ⟨_, _, g3, _⟩ := glued_low gr.gl
  exact ⟨g3 B (List.mem_of_getElem? hB) _ a1, g3 B (List.mem_of_getElem? hB) _ a2, a3⟩
theorem sub_flat {α : Type} {xs : List (List α)} {i : Nat} {l : List α} (h : xs[i]? = some l) : l.Sublist xs.flatten := by
  induction xs generalizing i with
  | nil => simp at h
  | cons y ys ih =>
    rw [List.flatten_cons]
    cases i with
    | zero =>
      simp at h
      rw [h]
      exact List.sublist_append_left _ _
    | succ i => exact (ih (by simpa using h)).trans (List.sublist_append_right _ _)
theorem block_spn (gr : Grown n Bs Ks Ns) {i : Nat} {B : List Nat} {L J : List Bar} (hB : Bs[i]? = some B) (hL : Ks[i]? = some L) (sub : L.Sublist J) (slJ : Slim n J) {a b : Nat} (ha : a ∈ B) (hb : b ∈ B) : Spn n J a b := by
  obtain ⟨nd, b2, low, w, len, _⟩ := glued_at gr.gl i B L hB hL
  have t := block_tight nd b2 len w low
  exact ⟨inL B, t.mono (ins_sub sub _) slJ, decide_eq_true ha, decide_eq_true hb⟩
theorem grown_spn (gr : Grown n Bs Ks Ns) {a b : Nat} (ha : a < n) (hb : b < n) : Spn n Ks.flatten a b ↔ ∃ B ∈ Bs, a ∈ B ∧ b ∈ B := by
  obtain ⟨_, sl, ti⟩ := glued_flat gr.gl
  constructor
  · rintro ⟨S, tS, sa, sb⟩
    obtain ⟨B, hB, h⟩ := ti S tS
    exact ⟨B, hB, h a ha sa, h b hb sb⟩
  · rintro ⟨B, hB, h1, h2⟩
    obtain ⟨i, hi⟩ := List.getElem?_of_mem hB
    obtain ⟨_, g2, _⟩ := glued_low gr.gl
    have hk : i < Ks.length := by have := (List.getElem?_eq_some_iff.mp hi).1; omega
    exact block_spn gr hi (List.getElem?_eq_getElem hk) (sub_flat (List.getElem?_eq_getElem hk)) sl h1 h2
theorem lean_in (gr : Grown n Bs Ks Ns) : ∀ x ∈ Ks.flatten, x ∈ Ns.flatten := fun x hx => by
  obtain ⟨i, L, h1, h2⟩ := flat_mem.mp hx
  have hi : i < Ns.length := by have := (List.getElem?_eq_some_iff.mp h1).1; have := gr.len; omega
  obtain ⟨B, L', N, E, k1, k2, k3, e, _⟩ := get3 gr hi
  rw [h1] at k2
  cases k2
  exact flat_mem.mpr ⟨i, N, k3, by rw [e]; exact List.mem_append_left _ h2⟩
theorem held_in (gr : Grown n Bs Ks Ns) : ∀ x ∈ Ns.flatten, Hld n Ks.flatten x.1 x.2 := fun x hx => by
  obtain ⟨_, sl, _⟩ := glued_flat gr.gl
  unfold Hld
  rw [basis_all sl]
  obtain ⟨i, N, h1, h2⟩ := flat_mem.mp hx
  obtain ⟨B, hB, a1, a2, _⟩ := grown_in gr h1 h2
  have o := grown_ok gr x hx
  exact (grown_spn gr o.1 o.2.1).mpr ⟨B, List.mem_of_getElem? hB, a1, a2⟩
theorem grown_hld (gr : Grown n Bs Ks Ns) {a b : Nat} (ha : a < n) (hb : b < n) (ne : a ≠ b) : Hld n Ns.flatten a b ↔ ∃ B ∈ Bs, a ∈ B ∧ b ∈ B := by
  obtain ⟨okK, sl, _⟩ := glued_flat gr.gl
  have okN := grown_ok gr
  rw [← grown_spn gr ha hb]
  have e : Hld n Ks.flatten a b ↔ Spn n Ks.flatten a b := by unfold Hld; rw [basis_all sl]
  rw [← e]
  exact ⟨hld_le okN okK (held_in gr) ha hb ne, hld_le okK okN (fun x hx => hld_bar okN (lean_in gr x hx)) ha hb ne⟩
theorem grown_rk (gr : Grown n Bs Ks Ns) : rk n Ns.flatten = Ks.flatten.length := by
  obtain ⟨okK, sl, _⟩ := glued_flat gr.gl
  have okN := grown_ok gr
  have e : rk n Ks.flatten = Ks.flatten.length := rk_slim.mpr sl
  rw [← e]
  exact Nat.le_antisymm (rk_sub okN okK (held_in gr)) (rk_sub okK okN fun x hx => hld_bar okN (lean_in gr x hx))
theorem grown_sum {m : Nat} (h : Glued n m Bs Ks) : (Ks.flatten.length : Int) = (Bs.map fun B => 2 * (B.length : Int) - 3).sum := by
  induction h with
  | nil => rfl
  | snoc h m' B L nd b2 len sl within low up le cov one ih =>
    rw [List.map_append, List.sum_append, ← ih]
    simp only [List.flatten_append, List.length_append, List.map_cons, List.map_nil, List.sum_cons, List.sum_nil, List.flatten_cons, List.flatten_nil, List.length_nil]
    omega
/-- the parts are the blocks -/
theorem grown_part (gr : Grown n Bs Ks Ns) {B : List Nat} (hB : B ∈ Bs) {a b : Nat} (ha : a ∈ B) (hb : b ∈ B) (ne : a ≠ b) : partL n (pickB n [] Ns.flatten) (a, b) = sortN B := by
  have okN := grown_ok gr
  have okk := basis_ok okN
  have slk := basis_slim n Ns.flatten
  obtain ⟨_, g2, g3, _⟩ := glued_low gr.gl
  have hld := fun {x y : Nat} (hx : x < n) (hy : y < n) (nxy : x ≠ y) => grown_hld gr hx hy nxy
  unfold Hld at hld
  have han := g3 B hB a ha
  have hbn := g3 B hB b hb
  have hab := (hld han hbn ne).mpr ⟨B, hB, ha, hb⟩
  obtain ⟨tp, _⟩ := part_all okk slk han hbn ne hab
  obtain ⟨i, hi⟩ := List.getElem?_of_mem hB
  have hk : i < Ks.length := by have := (List.getElem?_eq_some_iff.mp hi).1; omega
  obtain ⟨nd, _⟩ := glued_at gr.gl i B _ hi (List.getElem?_eq_getElem hk)
  -- the part, tight for the basis, is tight for the lean bars: within one block
  obtain ⟨okK, slK, ti⟩ := glued_flat gr.gl
  have tK : ∃ C ∈ Bs, ∀ x, x < n → part n (pickB n [] Ns.flatten) a b x = true → x ∈ C := by
    have hsp : ∀ {x y : Nat}, x < n → y < n → x ≠ y → (Spn n (pickB n [] Ns.flatten) x y ↔ Spn n Ks.flatten x y) := fun {x y} hx hy nxy => by
      rw [grown_spn gr hx hy]
      exact hld hx hy nxy
    obtain ⟨t2, _⟩ := part_all okK slK han hbn ne ((hsp han hbn ne).mp hab)
    obtain ⟨C, hC, h⟩ := ti _ t2
    refine ⟨C, hC, fun x hx px => h x hx ?_⟩
    rw [← part_congr (fun x y hx hy nxy => hsp hx hy nxy) han hbn hx]
    exact px
  obtain ⟨C, hC, hin⟩ := tK
  have eC : C = B := by
    obtain ⟨j, hj⟩ := List.getElem?_of_mem hC
    by_cases e : i = j
    · subst e
      rw [hi] at hj
      exact (Option.some.inj hj).symm
    · exact absurd (glued_two gr.gl i j B C hi hj e a ha b hb (hin a han part_left) (hin b hbn part_right)) ne
  subst eC
  refine (Pl.sortN_eq nd (Pl.partL_rise _ _ _) fun x => ?_).symm
  rw [Pl.partL_mem]
  constructor
  · intro hx
    have hxn := g3 C hC x hx
    refine ⟨hxn, part_iff.mpr ?_⟩
    by_cases e1 : x = a
    · exact .inl e1
    · by_cases e2 : x = b
      · exact .inr (.inl e2)
      · exact .inr (.inr ⟨(hld han hxn (Ne.symm e1)).mpr ⟨C, hC, ha, hx⟩, (hld hbn hxn (Ne.symm e2)).mpr ⟨C, hC, hb, hx⟩⟩)
  · rintro ⟨hxn, px⟩
    exact hin x hxn px
theorem block_pair (gr : Grown n Bs Ks Ns) {B : List Nat} (hB : B ∈ Bs) : ∃ a b, a ∈ B ∧ b ∈ B ∧ a < b ∧ b < n ∧ B.Nodup ∧ ∀ x ∈ B, x < n := by
  obtain ⟨i, hi⟩ := List.getElem?_of_mem hB
  obtain ⟨_, g2, _⟩ := glued_low gr.gl
  have hk : i < Ks.length := by have := (List.getElem?_eq_some_iff.mp hi).1; omega
  obtain ⟨nd, b2, low, _⟩ := glued_at gr.gl i B _ hi (List.getElem?_eq_getElem hk)
  obtain ⟨a, b, lab, hbn, ha, hb⟩ := exists_two (n := n) (S := inL B) (by rw [card_block nd low]; exact b2)
  exact ⟨a, b, of_decide_eq_true ha, of_decide_eq_true hb, lab, hbn, nd, low⟩
theorem sortN_inj {n : Nat} {B C : List Nat} (h : sortN B = sortN C) : ∀ x, x ∈ B ↔ x ∈ C := fun x => by
  rw [← (Pl.sortN_perm B).mem_iff, h, (Pl.sortN_perm C).mem_iff]
theorem grown_parts (gr : Grown n Bs Ks Ns) : (partsL n Ns.flatten).Perm (Bs.map sortN) := by
  have okN := grown_ok gr
  have nd2 : (Bs.map sortN).Nodup := by
    refine List.pairwise_iff_getElem.mpr fun i j hi hj hij e => ?_
    rw [List.length_map] at hi hj
    rw [List.getElem_map, List.getElem_map] at e
    obtain ⟨a, b, ha, hb, lab, _⟩ := block_pair gr (List.getElem_mem hi)
    have same := sortN_inj (n := n) e
    have := glued_two gr.gl i j _ _ (List.getElem?_eq_getElem hi) (List.getElem?_eq_getElem hj) (by omega) a ha b hb ((same a).mp ha) ((same b).mp hb)
    omega
  refine (List.perm_ext_iff_of_nodup (Pl.parts_nodup n _) nd2).mpr fun l => ?_
  have pm : l ∈ partsL n Ns.flatten ↔ ∃ a b, a < b ∧ b < n ∧ Spn n (pickB n [] Ns.flatten) a b ∧ l = partL n (pickB n [] Ns.flatten) (a, b) := Pl.partsL_mem0 okN
  rw [pm, List.mem_map]
  constructor
  · rintro ⟨a, b, h1, h2, h3, rfl⟩
    obtain ⟨B, hB, ha, hb⟩ := (grown_hld gr (show a < n by omega) h2 (by omega)).mp h3
    exact ⟨B, hB, (grown_part gr hB ha hb (by omega)).symm⟩
  · rintro ⟨B, hB, rfl⟩
    obtain ⟨a, b, ha, hb, lab, hbn, _⟩ := block_pair gr hB
    exact ⟨a, b, lab, hbn, (grown_hld gr (show a < n by omega) hbn (by omega)).mpr ⟨B, hB, ha, hb⟩, (grown_part gr hB ha hb (by omega)).symm⟩
theorem grown_slim (gr : Grown n Bs Ks Ns) : Slim n Ns.flatten ↔ Ns.flatten.length = Ks.flatten.length := by
  rw [← rk_slim, grown_rk gr]
  exact eq_comm
theorem flat_split {α : Type} : ∀ {xs : List (List α)} {j : Nat}, j < xs.flatten.length → ∃ (i : Nat) (A C : List α) (b : α), xs[i]? = some (A ++ b :: C) ∧ xs.flatten[j]? = some b ∧ xs.flatten.eraseIdx j = (xs.set i (A ++ C)).flatten
  | [], j, h => absurd h (Nat.not_lt_zero _)
  | y :: ys, j, h => by
    rw [List.flatten_cons] at h ⊢
    by_cases q : j < y.length
    · refine ⟨0, y.take j, y.drop (j + 1), y[j], ?_, ?_, ?_⟩
      · show some y = _
        rw [← List.drop_eq_getElem_cons q, List.take_append_drop]
      · rw [List.getElem?_append_left q, List.getElem?_eq_getElem q]
      · rw [List.eraseIdx_append_of_lt_length q, List.eraseIdx_eq_take_drop_succ]
        rfl
    · rw [List.length_append] at h
      obtain ⟨i, A, C, b, e1, e2, e3⟩ := flat_split (xs := ys) (j := j - y.length) (by omega)
      refine ⟨i + 1, A, C, b, e1, ?_, ?_⟩
      · rw [List.getElem?_append_right (by omega)]
        exact e2
      · rw [List.eraseIdx_append_of_length_le (by omega), e3]
        rfl
/-- a bar that is too many is of a block with bars more -/
theorem grown_many (gr : Grown n Bs Ks Ns) {j : Nat} (h : j ∈ manyL n Ns.flatten) : ∃ (i : Nat) (B : List Nat), Bs[i]? = some B ∧ (barAt Ns.flatten j).1 ∈ B ∧ (barAt Ns.flatten j).2 ∈ B ∧ Ns[i]? ≠ Ks[i]? := by
  obtain ⟨hj, hh⟩ := manyL_mem.mp h
  have okN := grown_ok gr
  obtain ⟨okK, slK, _⟩ := glued_flat gr.gl
  obtain ⟨i, A, C, b, e1, e2, e3⟩ := flat_split hj
  have eb : barAt Ns.flatten j = b := by
    have z := barAt_get hj
    rw [z]
    exact (List.getElem?_eq_some_iff.mp e2).2
  obtain ⟨B, hB, a1, a2, _⟩ := grown_in gr e1 (List.mem_append_right _ List.mem_cons_self : b ∈ A ++ b :: C)
  refine ⟨i, B, hB, by rw [eb]; exact a1, by rw [eb]; exact a2, fun eq => ?_⟩
  have hKi : Ks[i]? = some (A ++ b :: C) := by rw [← eq]; exact e1
  have hik : i < Ks.length := (List.getElem?_eq_some_iff.mp hKi).1
  -- the lean ones without that bar hold all that are left
  have lenK : ((Ks.set i (A ++ C)).flatten).length + 1 = Ks.flatten.length := by
    have z : ∀ (xs : List (List Bar)) (i : Nat), xs[i]? = some (A ++ b :: C) → ((xs.set i (A ++ C)).flatten).length + 1 = xs.flatten.length := fun xs => by
      induction xs with
      | nil => intro i h; simp at h
      | cons y ys ih =>
        intro i h
        cases i with
        | zero =>
          simp at h
          subst h
          simp
          omega
        | succ i =>
          have z := ih i (by simpa using h)
          simp only [List.set_cons_succ, List.flatten_cons, List.length_append] at z ⊢
          omega
    exact z Ks i hKi
  have subK : (Ks.set i (A ++ C)).flatten.Sublist Ks.flatten := by
    have z : ∀ (xs : List (List Bar)) (i : Nat), xs[i]? = some (A ++ b :: C) → (xs.set i (A ++ C)).flatten.Sublist xs.flatten := fun xs => by
      induction xs with
      | nil => intro i h; simp at h
      | cons y ys ih =>
        intro i h
        cases i with
        | zero =>
          simp at h
          subst h
          simp only [List.set_cons_zero, List.flatten_cons]
          exact (List.Sublist.append (List.Sublist.refl _) (List.sublist_cons_self _ _)).append (List.Sublist.refl _)
        | succ i =>
          simp only [List.set_cons_succ, List.flatten_cons]
          exact (List.Sublist.refl _).append (ih i (by simpa using h))
    exact z Ks i hKi
  have slW := slK.sub subK
  have okW := okK.sub subK
  have allW : ∀ x ∈ Ns.flatten.eraseIdx j, Hld n (Ks.set i (A ++ C)).flatten x.1 x.2 := fun x hx => by
    rw [e3] at hx
    obtain ⟨i', N, h1, h2⟩ := flat_mem.mp hx
    by_cases ei : i = i'
    · subst ei
      have hi2 : i < Ns.length := (List.getElem?_eq_some_iff.mp e1).1
      rw [List.getElem?_set_self hi2] at h1
      cases h1
      exact hld_bar okW (flat_mem.mpr ⟨i, A ++ C, List.getElem?_set_self hik, h2⟩)
    · rw [List.getElem?_set_ne ei] at h1
      have hi' : i' < Ns.length := (List.getElem?_eq_some_iff.mp h1).1
      obtain ⟨B', L', N', E', k1, k2, k3, _, _⟩ := get3 gr hi'
      obtain ⟨B2, hB2, c1, c2, _⟩ := grown_in gr h1 h2
      rw [k1] at hB2
      cases hB2
      unfold Hld
      rw [basis_all slW]
      exact block_spn gr k1 k2 (sub_flat (i := i') (by rw [List.getElem?_set_ne ei]; exact k2)) slW c1 c2
  have r1 := rk_sub (okN.sub (List.eraseIdx_sublist _ _)) okW allW
  have r2 : rk n (Ks.set i (A ++ C)).flatten ≤ ((Ks.set i (A ++ C)).flatten).length := rk_le n _
  have r3 := (rk_less okN hj).1
  rw [← barAt_get hj] at r3
  have r4 := (r3 hh).1
  have r5 := grown_rk gr
  omega
end
end Fr

/-! Other names and another order, as one; blocks joint by joint. Trees put into lists. -/
namespace Pl
open PySem PySem.Spec PyProof.Rows L2
open Evl (Ex)
theorem named_other {n : Nat} (nb : List Fr.Bar) (o c : Int) : ∃ g t, Fr.Turn n (fun x => (orderN o n).getD x 0) g ∧ ((List.range nb.length).map (rotI c nb.length)).Perm (List.range nb.length) ∧
    namedN nb (orderN o n) c = otherL (fun x => (orderN o n).getD x 0) t nb ((List.range nb.length).map (rotI c nb.length)) := by
  obtain ⟨g, tr⟩ := Fr.turn_of (n := n) (f := fun x => (orderN o n).getD x 0) (fun x y hx hy e => orderN_inj hx hy e) (fun x hx => orderN_low hx)
  have pm := range_perm (n := nb.length) (f := rotI c nb.length) (fun x y hx hy e => rotI_inj hx hy e) fun x hx => rotI_lt hx
  refine ⟨g, fun i => decide (c / ((((List.range nb.length).map (rotI c nb.length)).idxOf i : Nat) + 2 : Int) % 2 = 1), tr, pm, ?_⟩
  unfold namedN otherL
  rw [List.map_map]
  refine List.map_congr_left fun k hk => ?_
  have hk := List.mem_range.mp hk
  have hkl : k < ((List.range nb.length).map (rotI c nb.length)).length := by simp [hk]
  have ek : ((List.range nb.length).map (rotI c nb.length))[k] = rotI c nb.length k := by simp
  obtain ⟨h1, h2⟩ := idx_get ((List.range nb.length).map (rotI c nb.length)) (i := rotI c nb.length k) (List.mem_map.mpr ⟨k, List.mem_range.mpr hk, rfl⟩)
  have nd : ((List.range nb.length).map (rotI c nb.length)).Nodup := pm.nodup_iff.mpr List.nodup_range
  have ei : ((List.range nb.length).map (rotI c nb.length)).idxOf (rotI c nb.length k) = k := by
    rcases Nat.lt_trichotomy (((List.range nb.length).map (rotI c nb.length)).idxOf (rotI c nb.length k)) k with l | l | l
    · exact absurd (h2.trans ek.symm) (List.pairwise_iff_getElem.mp nd _ _ h1 hkl l)
    · exact l
    · exact absurd (ek.trans h2.symm) (List.pairwise_iff_getElem.mp nd _ _ hkl h1 l)
  show nameN nb (orderN o n) c k = turnB (decide (c / ((((List.range nb.length).map (rotI c nb.length)).idxOf (rotI c nb.length k) : Nat) + 2 : Int) % 2 = 1)) _
  rw [ei]
  rfl
section
variable {K : PySem.W.Frag} {S0 H0 S H S' H' : Hp} {σ : L2.St} {ρ : Rho} {g g2 gl gr : Gs} {F : FM} {tx te : TE} {ms : List M} {mv : M} {a : Addr} {i : Nat}
theorem TM.freeze {t : TS} {ds : List D} (h : ρ[i]? = some (.o ds)) (k : TM K t (ρ.set i (.k (.lst ds))) g F) : TM K t ρ g F := fun S0 H0 S H σ Dd st ac => by
  obtain ⟨fp, rg, s⟩ := st
  obtain ⟨S', e, s'⟩ := s.freeze h
  exact k S0 H0 S' H σ Dd ⟨fp, ⟨rg.own.mono e fun _ _ => rfl, rg.nd, rg.no⟩, s'⟩ (ac.mono e)
/-- xs.append(new list), xs a root -/
theorem TM.appendT (h : ρ[i]? = some (.k (.adr a))) (hm : (a, .n .lst ms) ∈ g) (hx : EvX K tx ρ g (.t mv) g2) (hg : g2 = gl ++ (a, .n .lst ms) :: gr) (hl : ms.length < 100000)
    (k : ∀ p0, F.nx ρ (gl ++ (a, .n .lst (ms ++ [.d (.adr p0)])) :: (gr ++ [(p0, mv)]))) : TM K (tDrop (tBM K "list" rAppend (tVar i) (tCons tx tNil))) ρ g F := fun S0 H0 S H σ Dd st ac => by
  obtain ⟨v, h1, h2⟩ := st.env.val i _ h
  cases h2
  obtain ⟨p, o, vs, fq, e1, e2, e3, e4⟩ := st.at hm (Loc.nil (m := .n .lst ms)) rfl
  cases e1
  have e3 : o = .lst vs := e3
  subst e3
  refine ⟨_, h1, .inl ⟨rfl, _, Evl.sq_of e2⟩, hx S0 H0 S H σ st _ fun w S2 H2 ex2 z => ?_⟩
  obtain ⟨p0, ew, st2⟩ := z
  subst ew
  have hg2 : g2 ++ [(p0, mv)] = gl ++ (a, .n .lst ms) :: (gr ++ [(p0, mv)]) := by rw [hg]; simp
  obtain ⟨p', o, vs, fq, e1, e2, _, e3, e4, e5, wr⟩ := st2.write hg2 (Loc.nil (m := .n .lst ms)) rfl
  cases e1
  have e3 : o = .lst vs := e3
  subst e3
  refine ⟨_, vs, _, rfl, rfl, e2, Evl.sz_lt (by rw [e4.length]; exact hl), ?_⟩
  have kk := k p0
  refine ac.nx _ _ S2 _ σ kk ex2 (wr _ .lst _ _ _ rfl ((e4.mono (Ex.refl _) fun b hb => upd_ne fun e => e5 (by rw [← e]; exact hb)).append (.cons (.d (.adr p0)) .nil)) ?_)
  rw [List.append_nil, List.append_nil]
  exact List.Sublist.refl _
theorem evF_listRg2 {ta tb : TE} {x y : Nat} (ha : EvD K ta ρ (.int (x : Int))) (hb : EvD K tb ρ (.int (y : Int))) (hn : y ≤ 1000) (hx : x ≤ y) : EvF K (tLstRg (tRg2 ta tb)) ρ ((kI (List.range' x (y - x))).map D.int) := fun S H σ e v Q q =>
  ha S H σ e v _ fun w S1 H1 x1 r1 => hb S1 H1 σ x1.sub (v.mono x1.s) _ fun w2 S2 H2 x2 r2 => by
    cases r1
    cases r2
    refine ⟨_, _, rfl, rfl, RgOk.of_le (by omega) (by omega) (by omega) (by omega), fun p hp => ?_⟩
    have ev : rgV (x : Int) (y : Int) = (kI (List.range' x (y - x))).map V.int := by
      unfold rgV kI
      have e1 : ((y : Int) - (x : Int)).toNat = y - x := by omega
      rw [e1, List.map_map, List.range'_eq_map_range, List.map_map]
      refine List.map_congr_left fun k _ => ?_
      show V.int ((x : Int) + (k : Int)) = V.int ((x + k : Nat) : Int)
      congr 1
    rw [ev]
    exact q p _ S2 _ ((x1.trans x2).trans (Ext.hid x2.sub hp)) (Evl.fresh_back (x1.trans x2).h hp) (sub_none x2.sub hp) upd_same (RdL.ofInts _)
end
/-- a list of bars as a tree -/
def barsT (L : List Fr.Bar) : M := .n .lst ((brs L).map M.d)
theorem see_barsT (L : List Fr.Bar) : (barsT L).see = .lst (brs L) := by
  show D.lst (seeL _) = D.lst _
  rw [seeL_d]
def blocksT (Ls : List (List Fr.Bar)) : M := .n .lst (Ls.map barsT)
theorem see_blocksT (Ls : List (List Fr.Bar)) : (blocksT Ls).see = .lst ((Ls.map brs).map D.lst) := by
  show D.lst (seeL _) = D.lst _
  rw [seeL_map, List.map_map, List.map_map]
  exact congrArg D.lst (List.map_congr_left fun l _ => see_barsT l)
theorem brs_flat (Ls : List (List Fr.Bar)) : (Ls.map brs).flatten = brs Ls.flatten := by
  induction Ls with
  | nil => rfl
  | cons l ls ih => rw [List.map_cons, List.flatten_cons, ih, List.flatten_cons, brs_app]
theorem zip_bars {as : List Addr} {Ls : List (List Fr.Bar)} {a : Addr} {L : List Fr.Bar} (h : as.length = Ls.length) : (as ++ [a]).zip ((Ls ++ [L]).map barsT) = as.zip (Ls.map barsT) ++ [(a, barsT L)] := by
  rw [List.map_append, List.zip_append (by rw [List.length_map]; exact h)]
  rfl
/-- what holds while blocks are drawn -/
structure Drawing (m : Nat) (Bs : List (List Nat)) (Ks : List (List Fr.Bar)) : Prop where
  gl : ∀ N, m ≤ N → Fr.Glued N m Bs Ks
  le : m ≤ 16
  five : ∀ B ∈ Bs, B.length ≤ 5
  cnt : Ks.flatten.length ≤ 7 * Bs.length
  len : Bs.length = Ks.length
theorem drawing_nil : Drawing 0 [] [] := ⟨fun _ _ => .nil, by decide, (fun _ h => nomatch h), by simp, rfl⟩
theorem drawing_step {m m' : Nat} {Bs : List (List Nat)} {Ks : List (List Fr.Bar)} (d : Drawing m Bs Ks) (mx : Nat → Nat) {J : List Nat} (nd : J.Nodup) (l2 : 2 ≤ J.length) (l5 : J.length ≤ 5) (low : ∀ x ∈ J, x < m') (up : m ≤ m') (h16 : m' ≤ 16) (cov : ∀ x, x < m' → x < m ∨ x ∈ J) (one : ∀ x ∈ J, ∀ y ∈ J, x < m → y < m → x = y) :
    Drawing m' (Bs ++ [J]) (Ks ++ [(Fr.tightB mx J.length).map (Fr.fb fun x => J.getD x 0)]) := by
  obtain ⟨tok, tsl, tln⟩ := Fr.tight_ok (mx := mx) l2
  have get : ∀ x, x < J.length → J.getD x 0 = J[x]! := fun x hx => by simp [List.getD, hx]
  have mem : ∀ x, x < J.length → J.getD x 0 ∈ J := fun x hx => Fr.getD_mem hx
  have inj : ∀ x y, x < J.length → y < J.length → J.getD x 0 = J.getD y 0 → x = y := fun x y hx hy e => by
    have e : J[x] = J[y] := by simpa [List.getD, hx, hy] using e
    rcases Nat.lt_trichotomy x y with l | l | l
    · exact absurd e (List.pairwise_iff_getElem.mp nd x y hx hy l)
    · exact l
    · exact absurd e.symm (List.pairwise_iff_getElem.mp nd y x hy hx l)
  refine ⟨fun N hN => (d.gl N (by omega)).snoc m' J _ nd l2 (by rw [List.length_map]; exact tln) (Fr.emb_slim inj (fun x hx => by have := low _ (mem x hx); omega) tok tsl) (fun b hb => ?_) low up hN cov one, h16, fun B hB => ?_, ?_, by rw [List.length_append, List.length_append, d.len]; rfl⟩
  · obtain ⟨b0, hb0, rfl⟩ := List.mem_map.mp hb
    obtain ⟨o1, o2, o3⟩ := tok b0 hb0
    exact ⟨mem _ o1, mem _ o2, fun e => o3 (inj _ _ o1 o2 e)⟩
  · rcases List.mem_append.mp hB with h | h
    · exact d.five B h
    · rw [List.mem_singleton.mp h]; exact l5
  · have := d.cnt
    simp only [List.flatten_append, List.length_append, List.flatten_cons, List.flatten_nil, List.length_nil, List.length_map, List.length_cons]
    omega
end Pl
namespace Fr
theorem flat_set_len : ∀ {Ns : List (List Bar)} {i : Nat} {N : List Bar} (b : Bar), Ns[i]? = some N → ((Ns.set i (N ++ [b])).flatten).length = Ns.flatten.length + 1
  | [], i, N, b, h => by simp at h
  | M :: Ns, 0, N, b, h => by
    simp at h
    subst h
    simp
    omega
  | M :: Ns, i + 1, N, b, h => by
    have z := flat_set_len (Ns := Ns) (i := i) b (by simpa using h)
    simp only [List.set_cons_succ, List.flatten_cons, List.length_append] at z ⊢
    omega
theorem grown_start {n : Nat} {Bs : List (List Nat)} {Ks : List (List Bar)} (gl : Glued n n Bs Ks) : Grown n Bs Ks Ks := ⟨gl, rfl, fun i B L N h1 h2 h3 => by
  rw [h2] at h3
  cases h3
  exact ⟨[], by simp, fun _ h => nomatch h⟩⟩
theorem grown_step {n : Nat} {Bs : List (List Nat)} {Ks Ns : List (List Bar)} {i : Nat} {B : List Nat} {N : List Bar} {b : Bar} (gr : Grown n Bs Ks Ns) (hB : Bs[i]? = some B) (hN : Ns[i]? = some N) (hb : b.1 ∈ B ∧ b.2 ∈ B ∧ b.1 ≠ b.2) : Grown n Bs Ks (Ns.set i (N ++ [b])) := by
  refine ⟨gr.gl, by rw [List.length_set]; exact gr.len, fun j C L M h1 h2 h3 => ?_⟩
  by_cases e : i = j
  · subst e
    rw [List.getElem?_set_self (List.getElem?_eq_some_iff.mp hN).1] at h3
    cases h3
    obtain ⟨E, e1, e2⟩ := gr.more i C L N h1 h2 hN
    rw [hB] at h1
    cases h1
    exact ⟨E ++ [b], by rw [e1, List.append_assoc], fun c hc => (List.mem_append.mp hc).elim (e2 c) fun z => by rw [List.mem_singleton.mp z]; exact hb⟩
  · rw [List.getElem?_set_ne e] at h3
    exact gr.more j C L M h1 h2 h3
end Fr

/-! Blocks by other names: parts, what is held, which bars are too many, and how great a knot is. -/
namespace Pl
open Fr (Grown Alike Hld rk Slim)
theorem sortN_same {l m : List Nat} (h : l.Perm m) : sortN l = sortN m :=
  (((sortN_perm l).trans h).trans (sortN_perm m).symm).eq_of_pairwise (fun a b _ _ x y => Nat.le_antisymm x y) (sortN_rise l) (sortN_rise m)
section
variable {n : Nat} {Bs : List (List Nat)} {Ks Ns : List (List Fr.Bar)} {f g : Nat → Nat} {ob : List Fr.Bar}
theorem names_parts (gr : Grown n Bs Ks Ns) (al : Alike n f g Ns.flatten ob) : (partsL n ob).Perm ((Bs.map fun B => B.map f).map sortN) := by
  refine (parts_perm al).trans ?_
  have e : ((Bs.map sortN).map (nameL f)) = (Bs.map fun B => B.map f).map sortN := by
    rw [List.map_map, List.map_map]
    refine List.map_congr_left fun B _ => ?_
    exact sortN_same ((sortN_perm B).map f)
  rw [← e]
  exact (Fr.grown_parts gr).map _
theorem names_hld (gr : Grown n Bs Ks Ns) (al : Alike n f g Ns.flatten ob) {a b : Nat} (ha : a < n) (hb : b < n) (ne : a ≠ b) : Hld n ob a b ↔ ∃ C ∈ Bs.map (fun B => B.map f), a ∈ C ∧ b ∈ C := by
  have t := al.turn
  have h := al.hld (a := g a) (b := g b) (t.gl a ha) (t.gl b hb) (fun e => ne (by rw [← t.fg a ha, ← t.fg b hb, e]))
  rw [t.fg a ha, t.fg b hb] at h
  rw [← h, Fr.grown_hld gr (t.gl a ha) (t.gl b hb) (fun e => ne (by rw [← t.fg a ha, ← t.fg b hb, e]))]
  obtain ⟨_, _, g3, _⟩ := Fr.glued_low gr.gl
  constructor
  · rintro ⟨B, hB, h1, h2⟩
    exact ⟨_, List.mem_map.mpr ⟨B, hB, rfl⟩, List.mem_map.mpr ⟨_, h1, t.fg a ha⟩, List.mem_map.mpr ⟨_, h2, t.fg b hb⟩⟩
  · rintro ⟨C, hC, h1, h2⟩
    obtain ⟨B, hB, rfl⟩ := List.mem_map.mp hC
    obtain ⟨x, hx, rfl⟩ := List.mem_map.mp h1
    obtain ⟨y, hy, rfl⟩ := List.mem_map.mp h2
    exact ⟨B, hB, by rw [t.gf x (g3 B hB x hx)]; exact hx, by rw [t.gf y (g3 B hB y hy)]; exact hy⟩
theorem names_rk (gr : Grown n Bs Ks Ns) (al : Alike n f g Ns.flatten ob) : (rk n ob : Int) = (Bs.map fun B => 2 * (B.length : Int) - 3).sum := by
  rw [al.rk, Fr.grown_rk gr, Fr.grown_sum gr.gl]
theorem names_stiff (gr : Grown n Bs Ks Ns) (al : Alike n f g Ns.flatten ob) (h2 : 2 ≤ n) : rk n ob + 3 = 2 * n ↔ Bs.length = 1 := by
  rw [al.rk, stiff_parts (Fr.grown_ok gr) h2]
  have pm := Fr.grown_parts gr
  constructor
  · intro h
    rw [h] at pm
    have := pm.length_eq
    rw [List.length_map] at this
    exact this.symm
  · intro h
    obtain ⟨B, rfl⟩ := List.length_eq_one_iff.mp h
    have e := List.perm_singleton.mp pm
    rw [e]
    obtain ⟨_, _, g3, g4, _⟩ := Fr.glued_low gr.gl
    obtain ⟨_, _, _, _, _, _, nd, _⟩ := Fr.block_pair gr (List.mem_singleton.mpr rfl : B ∈ [B])
    congr 1
    refine sortN_eq nd List.pairwise_lt_range fun x => ?_
    rw [List.mem_range]
    constructor
    · exact fun hx => g3 B (List.mem_singleton.mpr rfl) x hx
    · intro hx
      obtain ⟨C, hC, h⟩ := g4 x hx
      rw [List.mem_singleton.mp hC] at h
      exact h
theorem names_many {t : Nat → Bool} {P : List Nat} (gr : Grown n Bs Ks Ns) (tr : Fr.Turn n f g) (pm : P.Perm (List.range Ns.flatten.length)) {k : Nat} (hk : k ∈ manyL n (otherL f t Ns.flatten P)) :
    ∃ (i : Nat) (B : List Nat), Bs[i]? = some B ∧ Ns[i]? ≠ Ks[i]? ∧ (Fr.barAt (otherL f t Ns.flatten P) k).1 ∈ B.map f ∧ (Fr.barAt (otherL f t Ns.flatten P) k).2 ∈ B.map f := by
  have okN := Fr.grown_ok gr
  have hl : k < P.length := by
    have := (manyL_mem.mp hk).1
    unfold otherL at this
    rwa [List.length_map] at this
  obtain ⟨i, B, hB, h1, h2, h3⟩ := Fr.grown_many gr ((other_many tr okN pm hl).mp hk)
  refine ⟨i, B, hB, h3, ?_⟩
  have e : Fr.barAt (otherL f t Ns.flatten P) k = turnB (t P[k]) (Fr.fb f (Fr.barAt Ns.flatten P[k])) := by
    unfold Fr.barAt otherL otherB
    simp [List.getD, hl]
    rfl
  rw [e]
  have m1 : f (Fr.barAt Ns.flatten P[k]).1 ∈ B.map f := List.mem_map.mpr ⟨_, h1, rfl⟩
  have m2 : f (Fr.barAt Ns.flatten P[k]).2 ∈ B.map f := List.mem_map.mpr ⟨_, h2, rfl⟩
  rcases turn_or (t P[k]) (Fr.fb f (Fr.barAt Ns.flatten P[k])) with e | e
  · rw [e]; exact ⟨m1, m2⟩
  · rw [e]; exact ⟨m2, m1⟩
theorem names_none {t : Nat → Bool} {P : List Nat} (gr : Grown n Bs Ks Ns) (tr : Fr.Turn n f g) (pm : P.Perm (List.range Ns.flatten.length)) : manyL n (otherL f t Ns.flatten P) = [] ↔ Ns.flatten.length = Ks.flatten.length := by
  have okN := Fr.grown_ok gr
  rw [many_nil (other_alike tr okN pm).oko, other_slim tr okN pm, Fr.grown_slim gr]
/-- the joints of a knot are of one part -/
theorem knot_part {nb : List Fr.Bar} {i : Nat} (ok : Fr.Ok n nb) (hi : i < nb.length) {p : Nat × List Nat} (hp : knotOf n nb i = some p) : ∃ js : List Nat, Knot nb p.2 i js ∧ ∃ l ∈ partsL n nb, js.length ≤ l.length := by
  obtain ⟨js, _, kn⟩ := knot_fit ok hi hp
  refine ⟨js, kn, ?_⟩
  have pm := orderBut_perm hi
  unfold knotOf at hp
  have hpm := List.mem_of_find?_eq_some hp
  have hpi : p.1 = i := by
    have z := List.find?_some hp
    simpa using z
  obtain ⟨q1, _, q3, lj, hj, ndj, slj, nq, ⟨T, tT, t2, t3, _, t5⟩, _⟩ := (Fr.tied_iff ok pm hi).2 p hpm
  rw [hpi] at t2 t3
  have o := ok _ (Fr.barAt_mem hi)
  have okj := Fr.barAt_ok ok hj
  have hld : ∀ x y, x < n → y < n → x ≠ y → T x = true → T y = true → Hld n nb x y := fun x y hx hy ne tx ty =>
    Fr.spn_hld okj slj ok (fun b hb => by obtain ⟨a, ha, rfl⟩ := List.mem_map.mp hb; exact Fr.barAt_mem (hj a ha)) hx hy ne ⟨T, tT, tx, ty⟩
  have inT : ∀ x ∈ js, x < n ∧ T x = true := fun x hx => by
    obtain ⟨a, ha, q⟩ := (kn.j2 x).mp hx
    have oa := ok _ (Fr.barAt_mem (kn.h2 a ha))
    have ta := ((t5 a).mp ha).2.1
    rcases q with rfl | rfl
    · exact ⟨oa.1, ta.1⟩
    · exact ⟨oa.2.1, ta.2⟩
  -- in the order of the two ends
  have two : ∃ a b, a < b ∧ b < n ∧ T a = true ∧ T b = true := by
    rcases Nat.lt_trichotomy (Fr.barAt nb i).1 (Fr.barAt nb i).2 with l | l | l
    · exact ⟨_, _, l, o.2.1, t2, t3⟩
    · exact absurd l o.2.2
    · exact ⟨_, _, l, o.1, t3, t2⟩
  obtain ⟨a, b, lab, hbn, ta, tb⟩ := two
  have han : a < n := by omega
  refine ⟨partL n (Fr.pickB n [] nb) (a, b), (partsL_mem0 ok).mpr ⟨a, b, lab, hbn, hld a b han hbn (by omega) ta tb, rfl⟩, ?_⟩
  refine Fr.sub_length (kn.j1.imp fun h => Nat.ne_of_lt h) ((partL_rise _ _ _).imp fun h => Nat.ne_of_lt h) fun x hx => ?_
  obtain ⟨hxn, tx⟩ := inT x hx
  refine partL_mem.mpr ⟨hxn, Fr.part_iff.mpr ?_⟩
  by_cases e1 : x = a
  · exact .inl e1
  · by_cases e2 : x = b
    · exact .inr (.inl e2)
    · exact .inr (.inr ⟨hld a x han hxn (Ne.symm e1) ta tx, hld b x hbn hxn (Ne.symm e2) tb tx⟩)
/-- all bars of a told knot are too many -/
theorem knot_many {nb : List Fr.Bar} {i : Nat} (ok : Fr.Ok n nb) (hi : i < nb.length) {p : Nat × List Nat} (hp : knotOf n nb i = some p) : ∀ x ∈ p.2, x ∈ manyL n nb := fun x hx => by
  have pm := orderBut_perm hi
  unfold knotOf at hp
  have hpm := List.mem_of_find?_eq_some hp
  obtain ⟨_, _, _, lj, _, _, _, _, ⟨T, _, _, _, _, t5⟩, _⟩ := (Fr.tied_iff ok pm hi).2 p hpm
  have hx2 := ((t5 x).mp hx).1
  exact manyL_mem.mpr ⟨hx2, (Fr.tied_iff ok pm hx2).1.mp ⟨p, hpm, hx⟩⟩
end
end Pl

open PySem PySem.Spec PyProof.Rows L2 Pl
local macro_rules | `(tactic| walk_at "ev") => `(tactic| first
  | exact ev_var rfl | exact ev_int | exact ev_bl | exact ev_non | exact ev_str | exact ev_ty | exact ea_nil | exact et_yes
  | (with_reducible refine' ev_op ?_ ?_ ?_ <;> walk_at "ev")
  | (with_reducible refine' ev_cb ?_ ?_ <;> walk_at "ev")
  | (with_reducible refine' ev_call ?_ ?_ <;> walk_at "ev")
  | (with_reducible refine' ev_neg ?_ <;> walk_at "ev")
  | (with_reducible refine' ev_not ?_ <;> walk_at "ev")
  | (with_reducible refine' ev_tup ?_ (Nat.le_of_ble_eq_true rfl) <;> walk_at "ev")
  | (with_reducible refine' ea_cons ?_ ?_ <;> walk_at "ev")
  | (with_reducible refine' et_test ?_ <;> walk_at "ev")
  | (with_reducible refine' et_B ?_ <;> walk_at "ev")
  | (with_reducible refine' et_not ?_ <;> walk_at "ev")
  | exact rv_plusI | exact rv_sub | exact rv_lt | exact rv_le | exact rv_gt | exact rv_ge | exact rv_eqI | exact rv_neI | exact rv_eqB | exact rv_neB | exact rv_inL | exact rv_inT | exact rv_eqInts | exact rv_neInts | exact rv_eqBars | exact rv_neBars
  | refine' rv_mul ?_ | refine' rv_div ?_ ?_ | refine' rv_mod ?_ ?_ | refine' rv_ixL ?_ | refine' rv_ixT ?_ | refine' rv_ixR ?_ | refine' rv_plusT ?_ ?_
  | exact RCF.data rc_listL | exact RCF.data rc_listT | exact RCF.data rc_listR | exact rc_lenL | exact rc_lenT | exact rc_lenR | exact rc_isiK "int" rfl (by decide +kernel) (by decide) | exact rc_isiK "bool" rfl (by decide +kernel) (by decide) | exact rc_isiK "list" rfl (by decide +kernel) (by decide) | exact rc_isiK "tuple" rfl (by decide +kernel) (by decide) | exact rc_isiK "NoneType" rfl (by decide +kernel) (by decide) | exact rc_isiK "str" rfl (by decide +kernel) (by decide) | exact rc_all
  | (with_reducible refine' ev_lst ?_ (Nat.le_of_ble_eq_true rfl) <;> walk_at "ev")
  | (with_reducible refine' ev_cbF ?_ ?_ <;> walk_at "ev") | exact rc_listL | exact rc_listT | exact rc_listR
  | (with_reducible refine' ev_callF ?_ ?_ <;> walk_at "ev")
  | (with_reducible refine' ev_opF ?_ ?_ (rvF_plus ?_) <;> walk_at "ev")
  | (with_reducible refine' EvF.data ?_ <;> walk_at "ev")
  | refine RVF.data (rvF_plus ?_)
  | skip)
local macro_rules | `(tactic| walk_at "view") => `(tactic| first
  | exact View.nil
  | (refine View.root (by first | exact List.Mem.head _ | exact List.Mem.tail _ (List.Mem.head _) | exact List.Mem.tail _ (List.Mem.tail _ (List.Mem.head _))) ?_; walk_at "view")
  | (refine View.own ?_; walk_at "view")
  | (refine View.same ?_; walk_at "view"))
namespace A
open PySem PySem.Spec PyProof.Rows L2 Pl
open Evl (Ex)
def top (i : Nat) : Stmt := PySem.Challenge.pw_stiffbars_k10_whole_of_blocks.main.body.getD i (.Pass ⟨0, 0, 0, 0⟩)
abbrev FnP (K : PySem.W.Frag) (x : Str) (st : Stmt) (f : Addr) (fd : FuncData) : Prop := FunD K x x (defArgs st) (defBody st) (defScope st) [] [] f fd
structure Mods (K : PySem.W.Frag) (mg : Str → Option Value) : Prop where
  m_all : mg "all" = none
  m_bool : mg "bool" = none
  m_enumerate : mg "enumerate" = none
  m_int : mg "int" = none
  m_isinstance : mg "isinstance" = none
  m_len : mg "len" = none
  m_list : mg "list" = none
  m_max : mg "max" = none
  m_range : mg "range" = none
  m_set : mg "set" = none
  m_sorted : mg "sorted" = none
  m_sum : mg "sum" = none
  m_tuple : mg "tuple" = none
  k_MOST_JOINTS : ∃ t, mg "MOST_JOINTS" = some (.int 16 t)
  k_MOST_BARS : ∃ t, mg "MOST_BARS" = some (.int 60 t)
  k_HANDS : ∃ t, mg "HANDS" = some (.int 2 t)
/-! ### is_number -/
abbrev s_is_number : Stmt := top 12
theorem sc_is_number : FnScope ["value"] ["value"] (defScope s_is_number) := ⟨rfl, rfl, rfl, by decide +kernel, rfl, by decide +kernel, by decide +kernel⟩
inductive R_is_number : List D → D → Prop
  | int (i : Int) : R_is_number [.int i] (.bl true)
  | no (d : D) (h : Dull d) : R_is_number [d] (.bl false)

section
variable {P : Program} {w : World} {K : PySem.W.Frag} {mg : Str → Option Value} {base : Heap}
theorem ok_is_number {f : Addr} {fd : FuncData} (F : FnP K "is_number" s_is_number f fd) (g : mg "is_number" = some (.ref f)) (M : Mods K mg)  : Cal P w K mg base CX0 1 "is_number" ["value"] (spD K R_is_number) := by
  refine ⟨f, fd, F.ok sc_is_number (spD_len fun ds d r => by cases r <;> rfl) (fun cdv A outer s H vs Q E hr h => ?_), g, F.kp, F.bindsN fun _ _ _ _ _ _ us hl => match us, hl with | [_], _ => rfl⟩
  have hu := hr.units
  refine ⟨_, PSs.nox (pss_one (ps_ret (pe_and (pe_callB (ok_isi (K := K) rfl) (by rfl) M.m_isinstance (by decide +kernel) (pa_cons (pv 0) (pa_cons (pe_bltn (v := .ty "int") (by rfl) M.m_int (by decide +kernel) rfl) pa_nil))) (pe_one (pe_not (pe_callB (ok_isi (K := K) rfl) (by rfl) M.m_isinstance (by decide +kernel) (pa_cons (pv 0) (pa_cons (pe_bltn (v := .ty "bool") (by rfl) M.m_bool (by decide +kernel) rfl) pa_nil)))))))), ?_⟩
  refine T.fin (K := K) h fun ds d rel => ?_
  cases rel with
  | int i =>
    refine T.ret (d := .bl (true && !false)) (ev_and (by walk_at "ev") fun _ => ?_) rfl
    walk_at "ev"
  | no d hd =>
    obtain ⟨a, b, h1, h2, h3⟩ := dull_isi (K := K) hd
    refine T.ret (d := .bl (a && !b)) (ev_and (ev_cb (ea_cons (ev_var rfl) (ea_cons ev_ty ea_nil)) h1) fun _ => ev_not (ev_cb (ea_cons (ev_var rfl) (ea_cons ev_ty ea_nil)) h2)) ?_
    rw [h3]
    rfl
end
/-! ### check_count -/
abbrev s_check_count : Stmt := top 9
theorem sc_check_count : FnScope ["count"] ["count"] (defScope s_check_count) := ⟨rfl, rfl, rfl, by decide +kernel, rfl, by decide +kernel, by decide +kernel⟩
inductive R_check_count : List D → D → Prop
  | int (c : Int) (h1 : 1 ≤ c) (h2 : c ≤ 16) : R_check_count [.int c] .non

section
variable {P : Program} {w : World} {K : PySem.W.Frag} {mg : Str → Option Value} {base : Heap}
theorem ok_check_count {f : Addr} {fd : FuncData} (F : FnP K "check_count" s_check_count f fd) (g : mg "check_count" = some (.ref f)) (M : Mods K mg) (C_is_number : Cal P w K mg base CX0 1 "is_number" ["value"] (spD K R_is_number)) : Cal P w K mg base CX0 2 "check_count" ["count"] (spD K R_check_count) := by
  obtain ⟨t_MOST_JOINTS, k_MOST_JOINTS⟩ := M.k_MOST_JOINTS
  refine ⟨f, fd, F.ok sc_check_count (spD_len fun ds d r => by cases r <;> rfl) (fun cdv A outer s H vs Q E hr h => ?_), g, F.kp, F.bindsN fun _ _ _ _ _ _ us hl => match us, hl with | [_], _ => rfl⟩
  have hu := hr.units
  refine ⟨_, PSs.nox (pss_one (ps_if (PW.pt (pw_or (pt_not (pt_val (pe_cal C_is_number hr (by decide) pass0 (pa_cons (pv 0) pa_nil)))) (pw_or1 (pt_not (pt_chain op_le op_le pe_int (pv 0) (pe_glob (v := .int 16) rfl k_MOST_JOINTS ⟨_, rfl⟩)))))) (pss_one ps_never) pss_nil)), ?_⟩
  refine T.fin (K := K) h fun ds d rel => ?_
  cases rel with | int c h1 h2 =>
  refine T.ifS (b := !true || !(decide (1 ≤ c) && decide (c ≤ 16))) (et_or (et_not (et_B (ev_call (by walk_at "ev") (.int c)))) fun _ => et_not (et_test (ev_chain (by walk_at "ev") (by walk_at "ev") rv_le fun _ => ⟨.int 16, by walk_at "ev", rv_le⟩))) (fun b => ?_) fun _ => T.next rfl
  rw [decide_eq_true h1, decide_eq_true h2] at b
  cases b
end
/-! ### is_joint -/
abbrev s_is_joint : Stmt := top 11
theorem sc_is_joint : FnScope ["count", "joint"] ["count", "joint"] (defScope s_is_joint) := ⟨rfl, rfl, rfl, by decide +kernel, rfl, by decide +kernel, by decide +kernel⟩
inductive R_is_joint : List D → D → Prop
  | int (c j : Int) : R_is_joint [.int c, .int j] (.bl (decide (0 ≤ j) && decide (j < c)))
  | no (c : Int) (d : D) (h : Dull d) : R_is_joint [.int c, d] (.bl false)
theorem R_is_joint.of {c : Int} {d : D} {b : Bool} (h : JD c d b) : R_is_joint [.int c, d] (.bl b) := by
  cases h with
  | int j => exact .int c j
  | no h => exact .no c d h

section
variable {P : Program} {w : World} {K : PySem.W.Frag} {mg : Str → Option Value} {base : Heap}
theorem ok_is_joint {f : Addr} {fd : FuncData} (F : FnP K "is_joint" s_is_joint f fd) (g : mg "is_joint" = some (.ref f)) (M : Mods K mg) (C_is_number : Cal P w K mg base CX0 1 "is_number" ["value"] (spD K R_is_number)) : Cal P w K mg base CX0 2 "is_joint" ["count", "joint"] (spD K R_is_joint) := by
  refine ⟨f, fd, F.ok sc_is_joint (spD_len fun ds d r => by cases r <;> rfl) (fun cdv A outer s H vs Q E hr h => ?_), g, F.kp, F.bindsN fun _ _ _ _ _ _ us hl => match us, hl with | [_, _], _ => rfl⟩
  have hu := hr.units
  refine ⟨_, PSs.nox (pss_one (ps_ret (pe_and (pe_cal C_is_number hr (by decide) pass0 (pa_cons (pv 1) pa_nil)) (pe_one (pe_chain op_le op_lt pe_int (pv 1) (pv 0)))))), ?_⟩
  refine T.fin (K := K) h fun ds d rel => ?_
  cases rel with
  | int c j =>
    refine T.ret (d := .bl (true && (decide (0 ≤ j) && decide (j < c)))) (ev_and (ev_call (by walk_at "ev") (.int j)) fun _ => ?_) rfl
    exact ev_chain (by walk_at "ev") (by walk_at "ev") rv_le fun _ => ⟨.int c, by walk_at "ev", rv_lt⟩
  | no c d hd =>
    exact T.ret (d := .bl (false && false)) (ev_and (ev_call (ea_cons (ev_var rfl) ea_nil) (.no d hd)) fun z => by cases z) rfl
end
/-! ### is_bar -/
abbrev s_is_bar : Stmt := top 10
theorem sc_is_bar : FnScope ["count", "bar", "one", "other"] ["count", "bar"] (defScope s_is_bar) := ⟨rfl, rfl, rfl, by decide +kernel, rfl, by decide +kernel, by decide +kernel⟩
/-- two different joints of so many -/
def Good (c : Int) (b : Int × Int) : Prop := 0 ≤ b.1 ∧ b.1 < c ∧ 0 ≤ b.2 ∧ b.2 < c ∧ b.1 ≠ b.2
inductive R_is_bar : List D → D → Prop
  | good (c : Int) (b : Int × Int) (h : Good c b) : R_is_bar [.int c, barD b] (.bl true)
  | bad (c : Int) (x y : D) (jx jy : Bool) (hx : JD c x jx) (hy : JD c y jy) (h : (jx && jy) = false ∨ ∃ i : Int, x = .int i ∧ y = .int i) : R_is_bar [.int c, .tup [x, y]] (.bl false)

section
variable {P : Program} {w : World} {K : PySem.W.Frag} {mg : Str → Option Value} {base : Heap}
theorem ok_is_bar {f : Addr} {fd : FuncData} (F : FnP K "is_bar" s_is_bar f fd) (g : mg "is_bar" = some (.ref f)) (M : Mods K mg) (C_is_joint : Cal P w K mg base CX0 2 "is_joint" ["count", "joint"] (spD K R_is_joint)) : Cal P w K mg base CX0 3 "is_bar" ["count", "bar"] (spD K R_is_bar) := by
  refine ⟨f, fd, F.ok sc_is_bar (spD_len fun ds d r => by cases r <;> rfl) (fun cdv A outer s H vs Q E hr h => ?_), g, F.kp, F.bindsN fun _ _ _ _ _ _ us hl => match us, hl with | [_, _], _ => rfl⟩
  have hu := hr.units
  refine ⟨_, PSs.nox (pss_cons (ps_if (PW.pt (pw_or (pt_not (pt_val (pe_callB (ok_isi (K := K) rfl) (by rfl) M.m_isinstance (by decide +kernel) (pa_cons (pv 1) (pa_cons (pe_bltn (v := .ty "tuple") (by rfl) M.m_tuple (by decide +kernel) rfl) pa_nil))))) (pw_or1 (pt_cmpR (ok_ne (K := K) rfl hu) (pe_callB (ok_len (K := K) rfl) (by rfl) M.m_len (by decide +kernel) (pa_cons (pv 1) pa_nil)) pe_int (nomark _))))) (pss_one (ps_ret pe_bl)) pss_nil)
      (pss_cons (ps_asg (pv 1) (ok_tup (K := K) rfl rfl (pgs_cons (pg_name (i := 2) sc_is_bar.nd rfl (Or.inl rfl)) (pgs_cons (pg_name (i := 3) sc_is_bar.nd rfl (Or.inl rfl)) pgs_nil))))
      (pss_one (ps_ret (pe_and (pe_cal C_is_joint hr (by decide) pass0 (pa_cons (pv 0) (pa_cons (pv 2) pa_nil))) (pe_and (pe_cal C_is_joint hr (by decide) pass0 (pa_cons (pv 0) (pa_cons (pv 3) pa_nil))) (pe_one (pe_cmpR (ok_ne (K := K) rfl hu) (pv 2) (pv 3) (nomark _))))))))), ?_⟩
  refine T.fin (K := K) h fun ds d rel => ?_
  cases rel with
  | good c b h =>
    obtain ⟨h1, h2, h3, h4, h5⟩ := h
    obtain ⟨x, y⟩ := b
    refine T.guard (b := !true || !decide ((2 : Int) = 2)) (et_or (et_not (et_B (by walk_at "ev"))) fun _ => ?_) (fun b => by cases b) fun _ => ?_
    · exact et_test (ev_op (x := .int 2) (y := .int 2) (ev_cb (ds := [.tup [.int x, .int y]]) (by walk_at "ev") rc_lenT) (by walk_at "ev") rv_neI)
    refine T.seq (T.asgG (d := .tup [.int x, .int y]) (ps := [(2, .int x), (3, .int y)]) (by walk_at "ev") (eg_tup (egs_cons eg_name (egs_cons eg_name egs_nil)) rfl) rfl) ?_
    refine T.ret (d := .bl ((decide (0 ≤ x) && decide (x < c)) && ((decide (0 ≤ y) && decide (y < c)) && !decide (x = y)))) (ev_and (ev_call (by walk_at "ev") (.int c x)) fun _ => ev_and (ev_call (by walk_at "ev") (.int c y)) fun _ => (by walk_at "ev")) ?_
    show D.bl _ = D.bl true
    rw [decide_eq_true h1, decide_eq_true h2, decide_eq_true h3, decide_eq_true h4, decide_eq_false h5]
    rfl
  | bad c x y jx jy hx hy h =>
    refine T.guard (b := !true || !decide ((2 : Int) = 2)) (et_or (et_not (et_B (ev_cb (ea_cons (ev_var rfl) (ea_cons ev_ty ea_nil)) (rc_isiK "tuple" rfl (by decide +kernel) (by decide))))) fun _ => ?_) (fun b => by cases b) fun _ => ?_
    · exact et_test (ev_op (x := .int 2) (y := .int 2) (ev_cb (ds := [.tup [x, y]]) (ea_cons (ev_var rfl) ea_nil) rc_lenT) ev_int rv_neI)
    refine T.seq (T.asgG (d := .tup [x, y]) (ps := [(2, x), (3, y)]) (ev_var rfl) (eg_tup (egs_cons eg_name (egs_cons eg_name egs_nil)) rfl) rfl) ?_
    rcases h with h | ⟨i, rfl, rfl⟩
    · refine T.ret (d := .bl (jx && (jy && false))) (ev_and (ev_call (ea_cons (ev_var rfl) (ea_cons (ev_var rfl) ea_nil)) (.of hx)) fun e1 => ev_and (ev_call (ea_cons (ev_var rfl) (ea_cons (ev_var rfl) ea_nil)) (.of hy)) fun e2 => ?_) ?_
      · rw [e1, e2] at h
        cases h
      · cases jx <;> cases jy <;> first | rfl | cases h
    · refine T.ret (d := .bl (jx && (jy && !decide (i = i)))) (ev_and (ev_call (ea_cons (ev_var rfl) (ea_cons (ev_var rfl) ea_nil)) (.of hx)) fun e1 => ev_and (ev_call (ea_cons (ev_var rfl) (ea_cons (ev_var rfl) ea_nil)) (.of hy)) fun e2 => ev_op (ev_var rfl) (ev_var rfl) rv_neI) ?_
      show D.bl _ = D.bl false
      rw [decide_eq_true rfl]
      cases jx <;> cases jy <;> rfl
end
/-! ### checked -/
abbrev s_checked : Stmt := top 8
theorem sc_checked : FnScope ["count", "bars", "number", "bar"] ["count", "bars"] (defScope s_checked) := ⟨rfl, rfl, rfl, by decide +kernel, rfl, by decide +kernel, by decide +kernel⟩
inductive R_checked : List D → List D → Prop
  | good (c : Int) (bs : List (Int × Int)) (h1 : 1 ≤ c) (h2 : c ≤ 16) (h3 : bs.length ≤ 60) (h : ∀ b ∈ bs, Good c b) : R_checked [.int c, .lst (bs.map barD)] (bs.map barD)

section
variable {P : Program} {w : World} {K : PySem.W.Frag} {mg : Str → Option Value} {base : Heap}
theorem ok_checked {f : Addr} {fd : FuncData} (F : FnP K "checked" s_checked f fd) (g : mg "checked" = some (.ref f)) (M : Mods K mg) (C_check_count : Cal P w K mg base CX0 2 "check_count" ["count"] (spD K R_check_count)) (C_is_bar : Cal P w K mg base CX0 3 "is_bar" ["count", "bar"] (spD K R_is_bar)) : Cal P w K mg base CX0 4 "checked" ["count", "bars"] (spF K R_checked) := by
  obtain ⟨t_MOST_BARS, k_MOST_BARS⟩ := M.k_MOST_BARS
  refine ⟨f, fd, F.ok sc_checked (spF_len fun ds d r => by cases r <;> rfl) (fun cdv A outer s H vs Q E hr h => ?_), g, F.kp, F.bindsN fun _ _ _ _ _ _ us hl => match us, hl with | [_, _], _ => rfl⟩
  have hu := hr.units
  refine ⟨_, PSs.nox (pss_cons (ps_expr (pe_cal C_check_count hr (by decide) pass0 (pa_cons (pv 0) pa_nil)))
      (pss_cons (ps_if (pt_not (pt_val (pe_callB (ok_isi (K := K) rfl) (by rfl) M.m_isinstance (by decide +kernel) (pa_cons (pv 1) (pa_cons (pe_bltn (v := .ty "list") (by rfl) M.m_list (by decide +kernel) rfl) pa_nil))))) (pss_one ps_never) pss_nil)
      (pss_cons (ps_if (pt_cmpR op_gt (pe_callB (ok_len (K := K) rfl) (by rfl) M.m_len (by decide +kernel) (pa_cons (pv 1) pa_nil)) (pe_glob (v := .int 60) rfl k_MOST_BARS ⟨_, rfl⟩) (nomark _)) (pss_one ps_never) pss_nil)
      (pss_cons (ps_for PassesOwn.never rfl (ok_ienum (K := K) rfl (by rfl) M.m_enumerate (pa_cons (pv 1) pa_nil)) (ok_tup (K := K) rfl rfl (pgs_cons (pg_name (i := 2) sc_checked.nd rfl (Or.inl rfl)) (pgs_cons (pg_name (i := 3) sc_checked.nd rfl (Or.inl rfl)) pgs_nil))) (pss_one (ps_if (pt_not (pt_val (pe_cal C_is_bar hr (by decide) pass0 (pa_cons (pv 0) (pa_cons (pv 3) pa_nil))))) (pss_one ps_never) pss_nil)))
      (pss_one (ps_ret (pe_callTy (ok_list (K := K) rfl) (by rfl) M.m_list (by decide +kernel) (pa_cons (pv 1) pa_nil)))))))), ?_⟩
  refine T.finF (K := K) h fun ds d rel => ?_
  cases rel with | good c bs h1 h2 h3 h =>
  refine T.seq (T.drop (d := .non) (ev_call (by walk_at "ev") (.int c h1 h2)) rfl) ?_
  refine T.guard (b := !true) (by walk_at "ev") (fun b => by cases b) fun _ => ?_
  refine T.guard (b := decide ((60 : Int) < ((bs.map barD).length : Int))) (by walk_at "ev") (fun b => ?_) fun _ => ?_
  · have := of_decide_eq_true b
    rw [List.length_map] at this
    omega
  refine T.seqP (N := fun r => ∃ s2 s3, r = [.k (.int c), .k (.lst (bs.map barD)), s2, s3]) (T.for (ei_enum (by walk_at "ev")) (fun _ r => ∃ s2 s3, r = [.k (.int c), .k (.lst (bs.map barD)), s2, s3]) ⟨_, _, rfl⟩ ?_ fun _ z => z) ?_
  · rintro i d r hd ⟨s2, s3, rfl⟩
    obtain ⟨x, hx, rfl⟩ := enumD_get hd
    rw [List.getElem?_map] at hx
    cases q : bs[i]? with
    | none => rw [q] at hx; cases hx
    | some b =>
      rw [q] at hx
      cases hx
      refine ⟨_, eg_tup (egs_cons eg_name (egs_cons eg_name egs_nil)) rfl, ?_⟩
      refine T.ifS (b := !true) (et_not (et_B (ev_call (by walk_at "ev") (.good c b (h b (List.mem_of_getElem? q)))))) (fun b => by cases b) fun _ => T.next ⟨_, _, rfl⟩
  · rintro r ⟨s2, s3, rfl⟩
    exact T.retF (by walk_at "ev") rfl
end
/-! ### among -/
abbrev s_among : Stmt := top 13
theorem sc_among : FnScope ["bars", "joints", "number", "one", "other"] ["bars", "joints"] (defScope s_among) := ⟨rfl, rfl, rfl, by decide +kernel, rfl, by decide +kernel, by decide +kernel⟩
def amongL (bs : List (Int × Int)) (js : List Int) : List Int :=
  ((List.range bs.length).filter fun k => decide ((bs.getD k (0, 0)).1 ∈ js) && decide ((bs.getD k (0, 0)).2 ∈ js)).map fun k : Nat => (k : Int)
inductive R_among : List D → List D → Prop
  | mk (bs : List (Int × Int)) (js : List Int) (h : bs.length ≤ 100) : R_among [.lst (bs.map barD), .lst (js.map D.int)] ((amongL bs js).map D.int)
theorem enum_bars (bs : List (Int × Int)) : enumD (bs.map barD) = (List.range bs.length).map fun i : Nat => .tup [.int (i : Int), barD (bs.getD i (0, 0))] := by
  unfold enumD
  rw [List.length_map]
  refine List.map_congr_left fun i hi => ?_
  have h := List.mem_range.mp hi
  simp [List.getD, h]
theorem enum_bar {bs : List (Int × Int)} {d : D} (h : d ∈ enumD (bs.map barD)) : ∃ i : Nat, i < bs.length ∧ d = .tup [.int (i : Int), barD (bs.getD i (0, 0))] := by
  rw [enum_bars] at h
  obtain ⟨i, hi, rfl⟩ := List.mem_map.mp h
  exact ⟨i, List.mem_range.mp hi, rfl⟩
def amP : D → List (Nat × D)
  | .tup [i, .tup [a, b]] => [(2, i), (3, a), (4, b)]
  | _ => []
def amF (js : List Int) : D → Bool
  | .tup [_, .tup [.int a, .int b]] => decide (a ∈ js) && decide (b ∈ js)
  | _ => false
def amE : D → D
  | .tup [i, _] => i
  | d => d

section
variable {P : Program} {w : World} {K : PySem.W.Frag} {mg : Str → Option Value} {base : Heap}
theorem ok_among {f : Addr} {fd : FuncData} (F : FnP K "among" s_among f fd) (g : mg "among" = some (.ref f)) (M : Mods K mg)  : Cal P w K mg base CX0 1 "among" ["bars", "joints"] (spF K R_among) := by
  refine ⟨f, fd, F.ok sc_among (spF_len fun ds d r => by cases r <;> rfl) (fun cdv A outer s H vs Q E hr h => ?_), g, F.kp, F.bindsN fun _ _ _ _ _ _ us hl => match us, hl with | [_, _], _ => rfl⟩
  have hu := hr.units
  refine ⟨_, PSs.nox (pss_one (ps_ret (pe_lc (own := [("number", 2), ("one", 3), ("other", 4)]) (g := (gTup K 2 (gCons (gName 2) (gCons (gTup K 2 (gCons (gName 3) (gCons (gName 4) gNil))) gNil)))) (tt := _) rfl sc_among.nd (ok_ienum (K := K) rfl (by rfl) M.m_enumerate (pa_cons (pv 0) pa_nil)) (blkOk_by (N := ["bars", "joints", "number", "one", "other"]) (sc := defScope s_among) (by decide +kernel)) (fun _ _ _ _ _ => (ok_tup (K := K) rfl rfl (pgs_cons (pg_name (i := 2) sc_among.nd rfl (Or.inl rfl)) (pgs_cons (ok_tup (K := K) rfl rfl (pgs_cons (pg_name (i := 3) sc_among.nd rfl (Or.inl rfl)) (pgs_cons (pg_name (i := 4) sc_among.nd rfl (Or.inl rfl)) pgs_nil))) pgs_nil)))) (fun _ _ _ _ _ => (pts_one (PW.pt (pw_and (pt_cmpR (ok_in (K := K) rfl) (pv 3) (pv 1) (by with_unfolding_all rfl)) (pw_and1 (pt_cmpR (ok_in (K := K) rfl) (pv 4) (pv 1) (by with_unfolding_all rfl))))))) (fun _ _ _ _ _ => (pv 2))))), ?_⟩
  refine T.finF (K := K) h fun ds d rel => ?_
  cases rel with | mk bs js h =>
  refine T.retF (EvF.to (evF_lc (ei_enum (by walk_at "ev")) amP (amF js) amE (fun d hd => ?_) (fun d hd p hp => ?_) (fun d hd => ?_) (fun d hd _ => ?_) ?_) ?_) rfl
  · obtain ⟨i, hi, rfl⟩ := enum_bar hd
    exact eg_tup (egs_cons eg_name (egs_cons (eg_tup (egs_cons eg_name (egs_cons eg_name egs_nil)) rfl) egs_nil)) rfl
  · obtain ⟨i, hi, rfl⟩ := enum_bar hd
    have hp : p ∈ [(2, D.int (i : Int)), (3, D.int (bs.getD i (0, 0)).1), (4, D.int (bs.getD i (0, 0)).2)] := hp
    simp only [List.mem_cons, List.not_mem_nil, or_false] at hp
    rcases hp with rfl | rfl | rfl <;> simp
  · obtain ⟨i, hi, rfl⟩ := enum_bar hd
    exact et_and (et_test (ev_op (ev_var rfl) (ev_var rfl) rv_inL)) fun _ => et_test (ev_op (ev_var rfl) (ev_var rfl) rv_inL)
  · obtain ⟨i, hi, rfl⟩ := enum_bar hd
    exact ev_var rfl
  · rw [enumD_len, List.length_map]
    omega
  · rw [enum_bars, List.filter_map, List.map_map]
    unfold amongL
    rw [List.map_map]
    rfl
end
/-! ### bare -/
abbrev s_bare : Stmt := top 16
theorem sc_bare : FnScope ["count", "_"] ["count"] (defScope s_bare) := ⟨rfl, rfl, rfl, by decide +kernel, rfl, by decide +kernel, by decide +kernel⟩
inductive R_bare : List D → Gs → Rs → Gs → Prop
  | mk (n : Nat) (h : n ≤ 16) : R_bare [.int (n : Int)] [] (.t (gridM (List.replicate n []))) []

section
variable {P : Program} {w : World} {K : PySem.W.Frag} {mg : Str → Option Value} {base : Heap}
theorem ok_bare {f : Addr} {fd : FuncData} (F : FnP K "bare" s_bare f fd) (g : mg "bare" = some (.ref f)) (M : Mods K mg)  : Cal P w K mg base CX0 1 "bare" ["count"] (spG K R_bare) := by
  refine ⟨f, fd, F.ok sc_bare (spG_len fun _ _ _ _ r => by cases r <;> rfl) (fun cdv A outer s H vs Q E hr h => ?_), g, F.kp, F.bindsN fun _ _ _ _ _ _ us hl => match us, hl with | [_], _ => rfl⟩
  have hu := hr.units
  refine ⟨_, PSs.nox (pss_one (ps_ret (pe_lc (own := [("_", 1)]) (g := (gName 1)) (tt := tYes) rfl sc_bare.nd (pi_range1 (by rfl) M.m_range (pa_cons (pv 0) pa_nil)) (blkOk_by (N := ["count", "_"]) (sc := defScope s_bare) (by decide +kernel)) (fun _ _ _ _ _ => (pg_name (i := 1) sc_bare.nd rfl (Or.inl rfl))) (fun _ _ _ _ _ => pts_nil) (fun _ _ _ _ _ => (pe_lst pa_nil))))), ?_⟩
  refine TM.fin (K := K) h fun ds g r g1 rel => ?_
  cases rel with | mk n h =>
  have e : gridM (List.replicate n []) = .n .lst (List.replicate (rngD 0 ((n : Nat) : Int).toNat 1).length (.n .lst [])) := by
    unfold gridM
    rw [rngD_len, List.map_replicate, Int.toNat_natCast]
    rfl
  exact TM.retX (EvX.rows (ei_rng1 (by walk_at "ev") ⟨by omega, by omega⟩) (by simp) (by rw [rngD_len]; omega)) ⟨by rw [e], [], List.Perm.refl _⟩
end
/-! ### reached -/
abbrev s_reached : Stmt := top 22
theorem sc_reached : FnScope ["carried", "start", "ahead", "waiting", "joint", "far"] ["carried", "start"] (defScope s_reached) := ⟨rfl, rfl, rfl, by decide +kernel, rfl, by decide +kernel, by decide +kernel⟩
inductive R_reached : List D → Gs → Rs → Gs → Prop
  | mk (cs : Fr.Cs) (start : Nat) (hl : cs.length ≤ 16) (hs : start < cs.length) (low : ∀ v w, w ∈ Fr.at_ cs v → w < cs.length ∧ w ≠ v) (two : ∀ v, (Fr.at_ cs v).length ≤ 2) : R_reached [gridD cs, .int (start : Int)] [] (.t (dctM (Fr.reached cs start))) []

section
variable {P : Program} {w : World} {K : PySem.W.Frag} {mg : Str → Option Value} {base : Heap}
theorem ok_reached {f : Addr} {fd : FuncData} (F : FnP K "reached" s_reached f fd) (g : mg "reached" = some (.ref f)) (M : Mods K mg)  : Cal P w K mg base CX0 1 "reached" ["carried", "start"] (spG K R_reached) := by
  refine ⟨f, fd, F.ok sc_reached (spG_len fun _ _ _ _ r => by cases r <;> rfl) (fun cdv A outer s H vs Q E hr h => ?_), g, F.kp, F.bindsN fun _ _ _ _ _ _ us hl => match us, hl with | [_, _], _ => rfl⟩
  have hu := hr.units
  refine ⟨_, PSs.nox (pss_cons (ps_set (i := 2) sc_reached.nd rfl (Or.inl rfl) (pe_disp (pps_cons (pv 1) (pv 1) pps_nil) rfl rfl (by simp) (by decide)))
      (pss_cons (ps_set (i := 3) sc_reached.nd rfl (Or.inl rfl) (pe_lst (pa_cons (pv 1) pa_nil)))
      (pss_cons (ps_while PassesOwn.never (pt_truth (pv 3) (by intro _; rfl)) (pss_cons (ps_set (i := 4) sc_reached.nd rfl (Or.inl rfl) (pe_bm0 PySem.F.plainAttrs_list PySem.F.slot_list_pop PySem.F.type_list_pop mt_pop (pv 3)))
      (pss_one (ps_for PassesOwn.never rfl (ok_ilist (K := K) rfl (pe_ix (ok_ix (K := K) rfl) (pv 0) (pv 4) (fun _ _ => rfl))) (pg_name (i := 5) sc_reached.nd rfl (Or.inl rfl)) (pss_one (ps_if (pt_cmp (pc_dnotin (lt1 hu) (pv 5) (pv 2)) (by with_unfolding_all rfl)) (pss_cons (ps_dput (lt1 hu) (pv 2) (pv 5) (pv 4) rfl)
      (pss_one (ps_expr (pe_bm PySem.F.plainAttrs_list PySem.F.slot_list_append PySem.F.type_list_append mt_append (pv 3) (pa_cons (pv 5) pa_nil))))) pss_nil))))))
      (pss_one (ps_ret (pv 2)))))), ?_⟩
  refine TM.fin (K := K) h fun ds g r g1 rel => ?_
  cases rel with | mk cs start hl hs low two =>
  refine TM.seqP (N := fun r x => ∃ p, r = [.k (gridD cs), .k (.int (start : Int)), .k (.adr p), .u, .u, .u] ∧ x = [(p, dctM [(start, start)])])
    (TM.asgN (ex_disp1 (by walk_at "ev") (by walk_at "ev")) fun p => ⟨p, rfl, rfl⟩) ?_
  rintro r x ⟨p, rfl, rfl⟩
  refine TM.seq (g1 := [(p, dctM [(start, start)])]) (ρ1 := [.k (gridD cs), .k (.int (start : Int)), .k (.adr p), .o (nD [start]), .u, .u]) (TM.of (T.asgF (es := [.int (start : Int)]) (by walk_at "ev") ⟨rfl, rfl⟩)) ?_
  refine TM.seqP (N := fun r x => ∃ s3 s4 s5, r = [.k (gridD cs), .k (.int (start : Int)), .k (.adr p), s3, s4, s5] ∧ x = [(p, dctM (Fr.reached cs start))])
    (TM.while (fun m r x => ∃ ah wt s4 s5, (r = [.k (gridD cs), .k (.int (start : Int)), .k (.adr p), .o (nD wt), s4, s5] ∧ x = [(p, dctM ah)]) ∧ Fr.Seen cs.length cs start ah wt ∧ 2 * (cs.length - ah.length) + wt.length < m ∧ m ≤ 2 * cs.length + 2 ∧ Fr.reach cs m ah wt = Fr.reached cs start)
      (m0 := 2 * cs.length + 2) ⟨[(start, start)], [start], _, _, ⟨rfl, rfl⟩, seen_start hs, by simp; omega, Nat.le_refl _, rfl⟩ ?_) ?_
  · rintro m r x ⟨ah, wt, s4, s5, ⟨rfl, rfl⟩, sn, hm, hm2, he⟩
    refine ⟨!(nD wt).isEmpty, _, EvXT.look (ρv := [.k (gridD cs), .k (.int (start : Int)), .k (.adr p), .k (.lst (nD wt)), s4, s5]) (.same (.same (.same (.own (.same (.same .nil)))))) (et_truL (ev_var rfl)), fun hb => ?_, fun hb => ?_⟩
    · obtain ⟨wt, j, rfl⟩ : ∃ w j, wt = w ++ [j] := by
        rcases List.eq_nil_or_concat wt with e | ⟨w, j, e⟩
        · subst e
          exact absurd hb (by decide)
        · exact ⟨w, j, by rw [e, List.concat_eq_append]⟩
      obtain ⟨m, rfl⟩ : ∃ k, m = k + 1 := ⟨m - 1, by omega⟩
      have hj : j ∈ Fr.keys ah := sn.wsub j (by simp)
      have hjl : j < cs.length := sn.low j hj
      have sml := Fr.seen_small sn
      refine TM.seq (g1 := [(p, dctM ah)]) (ρ1 := [.k (gridD cs), .k (.int (start : Int)), .k (.adr p), .o (nD wt), .k (.int (j : Int)), s5]) (TM.of (T.popO (ds := nD wt) (d := .int (j : Int)) (by rw [nD_snoc]; rfl) ⟨rfl, rfl⟩)) ?_
      refine TM.for (ds := nD (Fr.at_ cs j)) (ei_list (ev_op (ev_var rfl) (ev_var rfl) (rv_ixL (gridD_at hjl)))) (fun i r x => ∃ s5, r = [.k (gridD cs), .k (.int (start : Int)), .k (.adr p), .o (nD (Fr.visit j ((Fr.at_ cs j).take i) ah wt).2), .k (.int (j : Int)), s5] ∧ x = [(p, dctM (Fr.visit j ((Fr.at_ cs j).take i) ah wt).1)]) ⟨_, rfl, rfl⟩ ?_ ?_
      · rintro i d r x hd ⟨s5, rfl, rfl⟩
        have hi : i < (Fr.at_ cs j).length := by
          have z := (List.getElem?_eq_some_iff.mp hd).1
          unfold nD at z
          rwa [List.length_map] at z
        have ed : d = .int (((Fr.at_ cs j)[i] : Nat) : Int) := by
          unfold nD at hd
          rw [List.getElem?_map, List.getElem?_eq_getElem hi] at hd
          exact (Option.some.inj hd).symm
        subst ed
        have tk : (Fr.at_ cs j).take (i + 1) = (Fr.at_ cs j).take i ++ [(Fr.at_ cs j)[i]] := (List.take_append_getElem hi).symm
        have vl := visit_len j ((Fr.at_ cs j).take i) ah wt
        have tl : ((Fr.at_ cs j).take i).length ≤ 2 := by rw [List.length_take]; have := two j; omega
        have wl : wt.length ≤ 100 := by
          rw [List.length_append, List.length_cons, List.length_nil] at hm
          omega
        refine ⟨_, eg_name, ?_⟩
        generalize hv : Fr.visit j ((Fr.at_ cs j).take i) ah wt = vw at vl ⊢
        have hn : Fr.visit j ((Fr.at_ cs j).take (i + 1)) ah wt = if (Fr.at_ cs j)[i] ∈ Fr.keys vw.1 then vw else (vw.1 ++ [((Fr.at_ cs j)[i], j)], vw.2 ++ [(Fr.at_ cs j)[i]]) := by rw [tk, visit_snoc, hv]
        generalize hf : (Fr.at_ cs j)[i] = f at hn ⊢
        refine TM.ifX (b := !decide ((f : Int) ∈ kI (Fr.keys vw.1))) (g' := [(p, dctM vw.1)]) (EvXT.look (ρv := [.k (gridD cs), .k (.int (start : Int)), .k (dctM vw.1).see, .k (.lst (nD vw.2)), .k (.int (j : Int)), .k (.int (f : Int))]) (.same (.same (.root (by simp) (.own (.same (.same .nil)))))) (by
          rw [see_dct]
          exact et_B (ev_dni (ev_var rfl) (ev_var rfl)))) (fun hb => ?_) (fun hb => ?_)
        · have hnm : f ∉ Fr.keys vw.1 := fun z => by
            rw [decide_eq_true (kI_mem.mpr z)] at hb
            cases hb
          rw [if_neg hnm] at hn
          refine TM.seq (g1 := [(p, dctM (vw.1 ++ [(f, j)]))]) (ρ1 := [.k (gridD cs), .k (.int (start : Int)), .k (.adr p), .o (nD vw.2), .k (.int (j : Int)), .k (.int (f : Int))])
            (TM.dputNew (gl := []) (gr := []) (ns := kI (Fr.keys vw.1)) (ds := aD vw.1) (π := []) (m := dctM vw.1) (d := .int (j : Int)) (ev_var rfl) (ep_var rfl) (ev_var rfl) rfl rfl (fun z => hnm (kI_mem.mp z)) (by unfold kI Fr.keys; rw [List.length_map, List.length_map]; omega) ⟨rfl, by rw [← dctM_snoc]; rfl⟩) ?_
          refine TM.of (T.append (ds := nD vw.2) (d := .int (f : Int)) rfl (ev_var rfl) (by unfold nD; rw [List.length_map]; omega) ?_)
          refine ⟨.k (.int (f : Int)), ?_, ?_⟩
          · rw [hn, nD_snoc]
            rfl
          · rw [hn]
        · have hnm : f ∈ Fr.keys vw.1 := by
            have : decide ((f : Int) ∈ kI (Fr.keys vw.1)) = true := by simpa using hb
            exact kI_mem.mp (of_decide_eq_true this)
          rw [if_pos hnm] at hn
          refine TM.next ⟨.k (.int (f : Int)), ?_, ?_⟩
          · rw [hn]
            rfl
          · rw [hn]
      · rintro r x ⟨s5, rfl, rfl⟩
        have el : (nD (Fr.at_ cs j)).length = (Fr.at_ cs j).length := by unfold nD; rw [List.length_map]
        rw [el, List.take_length]
        refine ⟨m, Nat.lt_succ_self _, _, _, _, _, ⟨rfl, rfl⟩, ?_⟩
        have hr := reach_step cs m j ah wt
        have gr := visit_grow j (Fr.at_ cs j) ah wt
        have sn' : Fr.Seen cs.length cs start ah wt := ⟨sn.nd, sn.low, sn.head, sn.par, fun k hk => sn.wsub k (List.mem_append_left _ hk)⟩
        obtain ⟨s1, _, _, _, _, s6⟩ := Fr.visit_seen low (Fr.at_ cs j) ah wt (fun _ h => h) hj sn'
        have sml2 := Fr.seen_small s1
        rw [List.length_append, List.length_cons, List.length_nil] at hm
        exact ⟨s1, by omega, by omega, by rw [← hr, he]⟩
    · have hw : wt = [] := by
        cases wt with
        | nil => rfl
        | cons a b => exact absurd hb (by simp [nD])
      subst hw
      obtain ⟨m, rfl⟩ : ∃ k, m = k + 1 := ⟨m - 1, by omega⟩
      refine ⟨_, _, _, rfl, ?_⟩
      rw [← he]
      rfl
  · rintro r x ⟨s3, s4, s5, rfl, rfl⟩
    exact TM.retT (g1 := []) rfl (List.Perm.refl _) ⟨rfl, [], List.Perm.refl _⟩
end
/-! ### pass_on -/
abbrev s_pass_on : Stmt := top 21
theorem sc_pass_on : FnScope ["carried", "start", "spared", "ahead", "free", "joint", "before"] ["carried", "start", "spared"] (defScope s_pass_on) := ⟨rfl, rfl, rfl, by decide +kernel, rfl, by decide +kernel, by decide +kernel⟩
inductive R_pass_on : List D → Gs → Rs → Gs → Prop
  | mk (a : Addr) (cs : Fr.Cs) (start spared : Nat) (hl : cs.length ≤ 16) (hs : start < cs.length) (low : ∀ v w, w ∈ Fr.at_ cs v → w < cs.length ∧ w ≠ v) (two : ∀ v, (Fr.at_ cs v).length ≤ 2) :
    R_pass_on [.adr a, .int (start : Int), .int (spared : Int)] [(a, gridM cs)] (.d (.bl (passR cs start spared).2)) [(a, gridM (passR cs start spared).1)]
def freeF (cs : Fr.Cs) (start spared : Nat) : D → Bool
  | .int k => decide ((Fr.at_ cs k.toNat).length < 2) && (!decide (k = (start : Int)) && !decide (k = (spared : Int)))
  | _ => false

section
variable {P : Program} {w : World} {K : PySem.W.Frag} {mg : Str → Option Value} {base : Heap}
theorem ok_pass_on {f : Addr} {fd : FuncData} (F : FnP K "pass_on" s_pass_on f fd) (g : mg "pass_on" = some (.ref f)) (M : Mods K mg) (C_reached : Cal P w K mg base CX0 1 "reached" ["carried", "start"] (spG K R_reached)) : Cal P w K mg base CX0 2 "pass_on" ["carried", "start", "spared"] (spG K R_pass_on) := by
  obtain ⟨t_HANDS, k_HANDS⟩ := M.k_HANDS
  refine ⟨f, fd, F.ok sc_pass_on (spG_len fun _ _ _ _ r => by cases r <;> rfl) (fun cdv A outer s H vs Q E hr h => ?_), g, F.kp, F.bindsN fun _ _ _ _ _ _ us hl => match us, hl with | [_, _, _], _ => rfl⟩
  have hu := hr.units
  refine ⟨_, PSs.nox (pss_cons (ps_set (i := 3) sc_pass_on.nd rfl (Or.inl rfl) (pe_cal C_reached hr (by decide) pass0 (pa_cons (pv 0) (pa_cons (pv 1) pa_nil))))
      (pss_cons (ps_lock (ps_setLc (i := 4) (own := [("joint", 5)]) (g := (gName 5)) (tt := _) rfl sc_pass_on.nd rfl rfl (sw_true rfl rfl rfl (by decide +kernel)) (pi_keys (pv 3)) (blkOk_by (N := ["carried", "start", "spared", "ahead", "free", "joint", "before"]) (sc := defScope s_pass_on) (by decide +kernel)) (fun _ _ _ _ _ => (pg_name (i := 5) sc_pass_on.nd rfl (Or.inl rfl))) (fun _ _ _ _ _ => (pts_one (PW.pt (pw_and (pt_cmpR op_lt (pe_callB (ok_len (K := K) rfl) (by rfl) M.m_len (by decide +kernel) (pa_cons (pe_ix (ok_ix (K := K) rfl) (pv 0) (pv 5) (fun _ _ => rfl)) pa_nil)) (pe_glob (v := .int 2) rfl k_HANDS ⟨_, rfl⟩) (nomark _)) (pw_and (pt_cmpR (ok_ne (K := K) rfl hu) (pv 5) (pv 1) (nomark _)) (pw_and1 (pt_cmpR (ok_ne (K := K) rfl hu) (pv 5) (pv 2) (nomark _)))))))) (fun _ _ _ _ _ => (pv 5))))
      (pss_cons (ps_if (pt_not (pt_truth (pv 4) (by intro _; rfl))) (pss_one (ps_ret pe_bl)) pss_nil)
      (pss_cons (ps_set (i := 5) sc_pass_on.nd rfl (Or.inl rfl) (pe_ix (ok_ix (K := K) rfl) (pv 4) pe_int (fun _ _ => rfl)))
      (pss_cons (ps_while PassesOwn.never (pt_cmpR (ok_ne (K := K) rfl hu) (pv 5) (pv 1) (nomark _)) (pss_cons (ps_set (i := 6) sc_pass_on.nd rfl (Or.inl rfl) (pe_dget (lt1 hu) (pv 3) (pv 5) (fun _ _ => rfl)))
      (pss_cons (ps_expr (pe_bm PySem.F.plainAttrs_list PySem.F.slot_list_remove PySem.F.type_list_remove mt_remove (pe_ix (ok_ix (K := K) rfl) (pv 0) (pv 6) (fun _ _ => rfl)) (pa_cons (pv 5) pa_nil)))
      (pss_cons (ps_expr (pe_bm PySem.F.plainAttrs_list PySem.F.slot_list_append PySem.F.type_list_append mt_append (pe_ix (ok_ix (K := K) rfl) (pv 0) (pv 5) (fun _ _ => rfl)) (pa_cons (pv 6) pa_nil)))
      (pss_one (ps_set (i := 5) sc_pass_on.nd rfl (Or.inl rfl) (pv 6)))))))
      (pss_one (ps_ret pe_bl))))))), ?_⟩
  refine TM.fin (K := K) h fun ds g r g1 rel => ?_
  cases rel with | mk a cs start spared hl hs low two =>
  obtain ⟨sn, _⟩ := Fr.reached_seen rfl low hs
  refine TM.seqP (N := fun r x => ∃ p, r = [.k (.adr a), .k (.int (start : Int)), .k (.int (spared : Int)), .k (.adr p), .u, .u, .u] ∧ x = [(a, gridM cs), (p, dctM (Fr.reached cs start))])
    (TM.asgN (EvX.callV (ρv := [.k (gridM cs).see, .k (.int (start : Int)), .k (.int (spared : Int)), .u, .u, .u, .u]) (.root (by simp) (.same (.same (.same (.same (.same (.same .nil))))))) (ea_cons ((ev_var rfl).to (see_grid cs)) (ea_cons (ev_var rfl) ea_nil)) (.mk cs start hl hs low two) (dct_flat _)) fun p => ⟨p, rfl, rfl⟩) ?_
  rintro r x ⟨p, rfl, rfl⟩
  generalize hah : Fr.reached cs start = ah at sn ⊢
  have sml := Fr.seen_small sn
  have hfree : Fr.freeOf cs start spared = (Fr.keys ah).filter fun j => decide ((Fr.at_ cs j).length < 2) && (!decide (j = start) && !decide (j = spared)) := by unfold Fr.freeOf; rw [hah]
  refine TM.seq (g1 := [(a, gridM cs), (p, dctM ah)]) (ρ1 := [.k (.adr a), .k (.int (start : Int)), .k (.int (spared : Int)), .k (.adr p), .o (nD (Fr.freeOf cs start spared)), .u, .u])
    (TM.lockAsg (EvX.keys (i := 3) (p := p) (ns := kI (Fr.keys ah)) (ms := (aD ah).map Pl.M.d) (g1 := [(a, gridM cs)]) (ρv := [.k (gridM cs).see, .k (.int (start : Int)), .k (.int (spared : Int)), .k (.adr p), .u, .u, .u]) (List.Perm.refl _) rfl (.root (by simp) (.same (.same (.same (.same (.same (.same .nil)))))))
      (EvF.to (evF_lc (ds := (kI (Fr.keys ah)).map D.int) (ei_keys (ev_var rfl)) (fun d => [(5, d)]) (freeF cs start spared) id (fun d _ => eg_name) (fun d _ q hq => by rw [List.mem_singleton.mp hq]; simp) (fun d hd => ?_) (fun d hd _ => ?_) (by unfold kI Fr.keys; rw [List.length_map, List.length_map, List.length_map]; omega)) ?_) (fun d hd => ?_)) ⟨rfl, rfl⟩) ?_
  · obtain ⟨k, hk, rfl⟩ := List.mem_map.mp hd
    obtain ⟨j, hj, rfl⟩ := List.mem_map.mp hk
    have hjl := sn.low j hj
    refine EvT.to (et_and (et_test (ev_op (ev_cb (ea_cons (ev_op ((ev_var rfl).to (see_grid cs)) (ev_var rfl) (rv_ixL (gridD_at hjl))) ea_nil) rc_lenL) ev_int rv_lt)) fun _ => et_and (et_test (ev_op (ev_var rfl) (ev_var rfl) rv_neI)) fun _ => et_test (ev_op (ev_var rfl) (ev_var rfl) rv_neI)) ?_
    show _ = (decide ((Fr.at_ cs ((j : Nat) : Int).toNat).length < 2) && (!decide (((j : Nat) : Int) = (start : Int)) && !decide (((j : Nat) : Int) = (spared : Int))))
    have el : (nD (Fr.at_ cs j)).length = (Fr.at_ cs j).length := by unfold nD; rw [List.length_map]
    rw [Int.toNat_natCast, el]
    have e2 : decide (((Fr.at_ cs j).length : Int) < 2) = decide ((Fr.at_ cs j).length < 2) := decide_eq_decide.mpr (by omega)
    rw [e2]
  · obtain ⟨k, hk, rfl⟩ := List.mem_map.mp hd
    exact ev_var rfl
  · rw [hfree, List.map_id]
    unfold nD kI
    rw [List.map_map, List.filter_map]
    refine congrArg _ (List.filter_congr fun j hj => ?_)
    show (decide ((Fr.at_ cs ((j : Nat) : Int).toNat).length < 2) && (!decide (((j : Nat) : Int) = (start : Int)) && !decide (((j : Nat) : Int) = (spared : Int)))) = _
    have e1 : decide (((j : Nat) : Int) = (start : Int)) = decide (j = start) := decide_eq_decide.mpr (by omega)
    have e2 : decide (((j : Nat) : Int) = (spared : Int)) = decide (j = spared) := decide_eq_decide.mpr (by omega)
    rw [Int.toNat_natCast, e1, e2]
  · obtain ⟨k, _, rfl⟩ := List.mem_map.mp hd
    rfl
  · refine TM.guard (b := !!(nD (Fr.freeOf cs start spared)).isEmpty) (g' := [(a, gridM cs), (p, dctM ah)]) (EvXT.look (ρv := [.k (.adr a), .k (.int (start : Int)), .k (.int (spared : Int)), .k (.adr p), .k (.lst (nD (Fr.freeOf cs start spared))), .u, .u]) (.same (.same (.same (.same (.own (.same (.same .nil))))))) (et_not (et_truL (ev_var rfl)))) (fun hb => ?_) (fun hb => ?_)
    · have he : Fr.freeOf cs start spared = [] := by
        cases e : Fr.freeOf cs start spared with
        | nil => rfl
        | cons x y => rw [e] at hb; cases hb
      have hp : passR cs start spared = (cs, false) := by unfold passR Fr.passOn; rw [he]
      rw [hp]
      exact TM.ret ev_bl ⟨rfl, [(p, dctM ah)], List.Perm.refl _⟩
    · obtain ⟨j0, r0, he⟩ : ∃ x y, Fr.freeOf cs start spared = x :: y := by
        cases e : Fr.freeOf cs start spared with
        | nil => rw [e] at hb; cases hb
        | cons x y => exact ⟨x, y, rfl⟩
      have hp : passR cs start spared = (Fr.back ah start (cs.length + 1) cs j0, true) := by unfold passR Fr.passOn; rw [he, hah]
      have hj0 : j0 ∈ Fr.keys ah := by
        have z : j0 ∈ Fr.freeOf cs start spared := by rw [he]; exact List.mem_cons_self
        rw [hfree] at z
        exact (List.mem_filter.mp z).1
      rw [he, hp]
      refine TM.seq (g1 := [(a, gridM cs), (p, dctM ah)]) (ρ1 := [.k (.adr a), .k (.int (start : Int)), .k (.int (spared : Int)), .k (.adr p), .o (nD (j0 :: r0)), .k (.int (j0 : Int)), .u])
        (TM.asgX (d := .int (j0 : Int)) (EvX.look (ρv := [.k (.adr a), .k (.int (start : Int)), .k (.int (spared : Int)), .k (.adr p), .k (.lst (nD (j0 :: r0))), .u, .u]) (.same (.same (.same (.same (.own (.same (.same .nil))))))) (ev_op (ev_var rfl) ev_int (rv_ixL (atI_int (Int.le_refl 0) rfl))) rfl) eg_name ⟨rfl, rfl⟩) ?_
      refine TM.seqP (N := fun r x => ∃ s5 s6, r = [.k (.adr a), .k (.int (start : Int)), .k (.int (spared : Int)), .k (.adr p), .o (nD (j0 :: r0)), s5, s6] ∧ x = [(a, gridM (Fr.back ah start (cs.length + 1) cs j0)), (p, dctM ah)])
        (TM.while (fun m r x => ∃ cs1 i j q s6, (r = [.k (.adr a), .k (.int (start : Int)), .k (.int (spared : Int)), .k (.adr p), .o (nD (j0 :: r0)), .k (.int ((j : Nat) : Int)), s6] ∧ x = [(a, gridM cs1), (p, dctM ah)]) ∧ BackAt cs ah start j0 m cs1 i j q) (m0 := cs.length + 1) ?_ ?_) ?_
      · obtain ⟨i, q, hi⟩ := keys_at hj0
        exact ⟨cs, i, j0, q, _, ⟨rfl, rfl⟩, hi, by have := (List.getElem?_eq_some_iff.mp hi).1; omega, Nat.le_refl _, rfl, low, fun _ _ _ _ _ => rfl, fun v => by have := two v; omega, rfl⟩
      · rintro m r x ⟨cs1, i, j, q, s6, ⟨rfl, rfl⟩, hi, him, hm, hl1, low1, same1, len1, hb1⟩
        refine ⟨!decide ((j : Int) = (start : Int)), _, EvXT.of (et_test (ev_op (ev_var rfl) (ev_var rfl) rv_neI)), fun hb => ?_, fun hb => ?_⟩
        · have hne : j ≠ start := fun e => by rw [e] at hb; simp at hb
          obtain ⟨m, rfl⟩ : ∃ k, m = k + 1 := ⟨m - 1, by omega⟩
          obtain ⟨w1, w2, w3, i', q', w4, w5, w6⟩ := back_step sn low ⟨hi, him, hm, hl1, low1, same1, len1, hb1⟩ hne
          obtain ⟨idx, x1, x2, x3⟩ := kI_erase w1
          have hql : q < cs1.length := by omega
          have hjl : j < cs1.length := by omega
          refine TM.seq (g1 := [(a, gridM cs1), (p, dctM ah)]) (ρ1 := [.k (.adr a), .k (.int (start : Int)), .k (.int (spared : Int)), .k (.adr p), .o (nD (j0 :: r0)), .k (.int (j : Int)), .k (.int (q : Int))])
            (TM.asgX (d := .int (q : Int)) (EvX.look (ρv := [.k (.adr a), .k (.int (start : Int)), .k (.int (spared : Int)), .k (dctM ah).see, .o (nD (j0 :: r0)), .k (.int (j : Int)), s6]) (.same (.same (.same (.root (by simp) (.same (.same (.same .nil))))))) (ev_dget (j := i) (ns := kI (Fr.keys ah)) (ds := aD ah) (k := (j : Int)) ((ev_var rfl).to (see_dct ah)) (ev_var rfl) (keys_get hi) (keys_first sn.nd hi) (by unfold aD; rw [List.getElem?_map, hi]; rfl)) rfl) eg_name ⟨rfl, rfl⟩) ?_
          refine TM.seq (g1 := [(a, gridM (cs1.set q ((Fr.at_ cs1 q).erase j))), (p, dctM ah)]) (ρ1 := [.k (.adr a), .k (.int (start : Int)), .k (.int (spared : Int)), .k (.adr p), .o (nD (j0 :: r0)), .k (.int (j : Int)), .k (.int (q : Int))])
            (TM.remove (gl := []) (gr := [(p, dctM ah)]) (a := a) (m := gridM cs1) (π := [q]) (ns := kI (Fr.at_ cs1 q)) (z := (j : Int)) (j := idx) (ep_ix (π := []) (k := q) (ms := cs1.map rowM) (mk := rowM (Fr.at_ cs1 q)) (ep_var rfl) (ev_var rfl) (by simp) rfl (by rw [List.getElem?_map, get_cs hql]; rfl)) rfl (by rw [at_grid hql, rowM_kI]) (ev_var rfl) x1 x2 ⟨rfl, by rw [x3, ← rowM_kI, put_grid hql]; rfl⟩) ?_
          have hj2 : j < (cs1.set q ((Fr.at_ cs1 q).erase j)).length := by rw [List.length_set]; exact hjl
          have ej2 : Fr.at_ (cs1.set q ((Fr.at_ cs1 q).erase j)) j = Fr.at_ cs1 j := by rw [Fr.at_set hql, if_neg w3]
          refine TM.seq (g1 := [(a, gridM (Fr.turn cs1 q j)), (p, dctM ah)]) (ρ1 := [.k (.adr a), .k (.int (start : Int)), .k (.int (spared : Int)), .k (.adr p), .o (nD (j0 :: r0)), .k (.int (j : Int)), .k (.int (q : Int))])
            (TM.append (gl := []) (gr := [(p, dctM ah)]) (a := a) (m := gridM (cs1.set q ((Fr.at_ cs1 q).erase j))) (π := [j]) (ms := (Fr.at_ cs1 j).map fun k : Nat => Pl.M.d (.int (k : Int))) (d := .int (q : Int)) (ep_ix (π := []) (k := j) (ms := (cs1.set q ((Fr.at_ cs1 q).erase j)).map rowM) (mk := rowM (Fr.at_ cs1 j)) (ep_var rfl) (ev_var rfl) (by simp) rfl (by rw [List.getElem?_map, get_cs hj2, ej2]; rfl)) rfl (by rw [at_grid hj2, ej2]; rfl) (ev_var rfl) (by rw [List.length_map]; have := len1 j; omega) ⟨rfl, by rw [row_app, put_grid hj2, turn_set hql w3]; rfl⟩) ?_
          exact TM.of (T.asg (ev_var rfl) ⟨m, Nat.lt_succ_self _, Fr.turn cs1 q j, i', q, q', _, ⟨rfl, rfl⟩, w6⟩)
        · have hjs : j = start := by
            have z : decide ((j : Int) = (start : Int)) = true := by simpa using hb
            have := of_decide_eq_true z
            omega
          obtain ⟨m, rfl⟩ : ∃ k, m = k + 1 := ⟨m - 1, by omega⟩
          refine ⟨_, _, rfl, ?_⟩
          rw [← hb1]
          unfold Fr.back
          rw [if_pos hjs]
      · rintro r x ⟨s5, s6, rfl, rfl⟩
        exact TM.ret ev_bl ⟨rfl, [(p, dctM ah)], List.Perm.refl _⟩
end
/-! ### unload -/
abbrev s_unload : Stmt := top 20
theorem sc_unload : FnScope ["carried", "start", "spared"] ["carried", "start", "spared"] (defScope s_unload) := ⟨rfl, rfl, rfl, by decide +kernel, rfl, by decide +kernel, by decide +kernel⟩
inductive R_unload : List D → Gs → Rs → Gs → Prop
  | mk (a : Addr) (cs : Fr.Cs) (bs : List Fr.Bar) (start spared : Nat) (hl : cs.length ≤ 16) (hs : start < cs.length) (ft : Fr.Fits cs.length cs bs) :
    R_unload [.adr a, .int (start : Int), .int (spared : Int)] [(a, gridM cs)] (.d (.bl (Fr.unload start spared 3 cs).2)) [(a, gridM (Fr.unload start spared 3 cs).1)]

section
variable {P : Program} {w : World} {K : PySem.W.Frag} {mg : Str → Option Value} {base : Heap}
theorem ok_unload {f : Addr} {fd : FuncData} (F : FnP K "unload" s_unload f fd) (g : mg "unload" = some (.ref f)) (M : Mods K mg) (C_pass_on : Cal P w K mg base CX0 2 "pass_on" ["carried", "start", "spared"] (spG K R_pass_on)) : Cal P w K mg base CX0 3 "unload" ["carried", "start", "spared"] (spG K R_unload) := by
  refine ⟨f, fd, F.ok sc_unload (spG_len fun _ _ _ _ r => by cases r <;> rfl) (fun cdv A outer s H vs Q E hr h => ?_), g, F.kp, F.bindsN fun _ _ _ _ _ _ us hl => match us, hl with | [_, _, _], _ => rfl⟩
  have hu := hr.units
  refine ⟨_, PSs.nox (pss_cons (ps_while PassesOwn.never (pt_truth (pe_ix (ok_ix (K := K) rfl) (pv 0) (pv 1) (fun _ _ => rfl)) (by intro _; rfl)) (pss_one (ps_if (pt_not (pt_val (pe_cal C_pass_on hr (by decide) pass0 (pa_cons (pv 0) (pa_cons (pv 1) (pa_cons (pv 2) pa_nil)))))) (pss_one (ps_ret pe_bl)) pss_nil)))
      (pss_one (ps_ret pe_bl))), ?_⟩
  refine TM.fin (K := K) h fun ds g r g1 rel => ?_
  cases rel with | mk a cs bs start spared hl hs ft =>
  refine TM.seqP (N := fun r x => (r = [.k (.adr a), .k (.int (start : Int)), .k (.int (spared : Int))] ∧ x = [(a, gridM (Fr.unload start spared 3 cs).1)]) ∧ (Fr.unload start spared 3 cs).2 = true)
    (TM.while (fun m r x => ∃ cs1, (r = [.k (.adr a), .k (.int (start : Int)), .k (.int (spared : Int))] ∧ x = [(a, gridM cs1)]) ∧ Fr.Fits cs.length cs1 bs ∧ (Fr.at_ cs1 start).length < m ∧ Fr.unload start spared m cs1 = Fr.unload start spared 3 cs) (m0 := 3)
      ⟨cs, ⟨rfl, rfl⟩, ft, by have := ft.two start; omega, rfl⟩ ?_) ?_
  · rintro m r x ⟨cs1, ⟨rfl, rfl⟩, ft1, hm, he⟩
    have hl1 := ft1.len
    have hs1 : start < cs1.length := by omega
    obtain ⟨m, rfl⟩ : ∃ k, m = k + 1 := ⟨m - 1, by omega⟩
    refine ⟨!(nD (Fr.at_ cs1 start)).isEmpty, _, EvXT.look (ρv := [.k (gridM cs1).see, .k (.int (start : Int)), .k (.int (spared : Int))]) (.root (by simp) (.same (.same .nil))) (et_truL (ev_op ((ev_var rfl).to (see_grid cs1)) (ev_var rfl) (rv_ixL (gridD_at hs1)))), fun hb => ?_, fun hb => ?_⟩
    · have hne : Fr.at_ cs1 start ≠ [] := fun e => by rw [e] at hb; cases hb
      have hu1 : Fr.unload start spared (m + 1) cs1 = match Fr.passOn cs1 start spared with | none => (cs1, false) | some cs' => Fr.unload start spared m cs' := by
        conv => lhs; unfold Fr.unload
        first
          | (rw [if_neg hne]; done)
          | (rw [if_neg hne]; cases Fr.passOn cs1 start spared <;> rfl)
      refine TM.ifX (b := !(passR cs1 start spared).2) (g' := [(a, gridM (passR cs1 start spared).1)]) (EvXT.not (EvX.test (ex_call (g1 := [(a, gridM cs1)]) (g2 := []) (List.Perm.refl _) (ea_cons (ev_var rfl) (ea_cons (ev_var rfl) (ea_cons (ev_var rfl) ea_nil))) (.mk a cs1 start spared (by omega) hs1 (by rw [hl1]; exact ft1.low) ft1.two)))) (fun hb => ?_) (fun hb => ?_)
      · cases hp : Fr.passOn cs1 start spared with
        | some c => unfold passR at hb; rw [hp] at hb; cases hb
        | none =>
          have ep : passR cs1 start spared = (cs1, false) := by unfold passR; rw [hp]
          rw [hp] at hu1
          rw [ep, ← he, hu1]
          exact TM.ret ev_bl ⟨rfl, [], List.Perm.refl _⟩
      · cases hp : Fr.passOn cs1 start spared with
        | none => unfold passR at hb; rw [hp] at hb; cases hb
        | some c =>
          have ep : passR cs1 start spared = (c, true) := by unfold passR; rw [hp]
          rw [hp] at hu1
          rw [ep]
          obtain ⟨f1, f2, _⟩ := Fr.passOn_some ft1 hs hp
          exact TM.next ⟨m, Nat.lt_succ_self _, c, ⟨rfl, rfl⟩, f1, by omega, by rw [← he, hu1]⟩
    · have hne : Fr.at_ cs1 start = [] := by
        cases e : Fr.at_ cs1 start with
        | nil => rfl
        | cons u v => rw [e] at hb; cases hb
      have hu1 : Fr.unload start spared (m + 1) cs1 = (cs1, true) := by
        conv => lhs; unfold Fr.unload
        rw [if_pos hne]
      rw [← he, hu1]
      exact ⟨⟨rfl, rfl⟩, rfl⟩
  · rintro r x ⟨⟨rfl, rfl⟩, ht⟩
    rw [ht]
    exact TM.ret ev_bl ⟨rfl, [], List.Perm.refl _⟩
end
/-! ### crowd_between -/
abbrev s_crowd_between : Stmt := top 19
theorem sc_crowd_between : FnScope ["carried", "one", "other"] ["carried", "one", "other"] (defScope s_crowd_between) := ⟨rfl, rfl, rfl, by decide +kernel, rfl, by decide +kernel, by decide +kernel⟩
inductive R_crowd_between : List D → Gs → Rs → Gs → Prop
  | mk (a : Addr) (cs : Fr.Cs) (bs : List Fr.Bar) (one other : Nat) (hl : cs.length ≤ 16) (h1 : one < cs.length) (h2 : other < cs.length) (ft : Fr.Fits cs.length cs bs) :
    R_crowd_between [.adr a, .int (one : Int), .int (other : Int)] [(a, gridM cs)] (layR (Fr.btw cs one other).2) [(a, gridM (Fr.btw cs one other).1)]

section
variable {P : Program} {w : World} {K : PySem.W.Frag} {mg : Str → Option Value} {base : Heap}
theorem ok_crowd_between {f : Addr} {fd : FuncData} (F : FnP K "crowd_between" s_crowd_between f fd) (g : mg "crowd_between" = some (.ref f)) (M : Mods K mg) (C_unload : Cal P w K mg base CX0 3 "unload" ["carried", "start", "spared"] (spG K R_unload)) (C_reached : Cal P w K mg base CX0 1 "reached" ["carried", "start"] (spG K R_reached)) : Cal P w K mg base CX0 4 "crowd_between" ["carried", "one", "other"] (spG K R_crowd_between) := by
  refine ⟨f, fd, F.ok sc_crowd_between (spG_len fun _ _ _ _ r => by cases r <;> rfl) (fun cdv A outer s H vs Q E hr h => ?_), g, F.kp, F.bindsN fun _ _ _ _ _ _ us hl => match us, hl with | [_, _, _], _ => rfl⟩
  have hu := hr.units
  refine ⟨_, PSs.nox (pss_cons (ps_expr (pe_cal C_unload hr (by decide) pass0 (pa_cons (pv 0) (pa_cons (pv 1) (pa_cons (pv 1) pa_nil)))))
      (pss_cons (ps_if (pt_val (pe_cal C_unload hr (by decide) pass0 (pa_cons (pv 0) (pa_cons (pv 2) (pa_cons (pv 1) pa_nil))))) (pss_one (ps_ret pe_non)) pss_nil)
      (pss_one (ps_ret (pe_callB (Sk.cr_sortedD rfl) (by rfl) M.m_sorted (by decide +kernel) (pa_cons (pe_cal C_reached hr (by decide) pass0 (pa_cons (pv 0) (pa_cons (pv 2) pa_nil))) pa_nil)))))), ?_⟩
  refine TM.fin (K := K) h fun ds g r g1 rel => ?_
  cases rel with | mk a cs bs one other hl h1 h2 ft =>
  obtain ⟨ft1, _⟩ := Fr.unload_spec (spared := one) h1 3 cs ft (by have := ft.two one; omega)
  refine TM.seq (ρ1 := [.k (.adr a), .k (.int (one : Int)), .k (.int (other : Int))]) (g1 := [(a, gridM (Fr.unload one one 3 cs).1)]) (TM.dropX (ex_call (g1 := [(a, gridM cs)]) (g2 := []) (List.Perm.refl _) (ea_cons (ev_var rfl) (ea_cons (ev_var rfl) (ea_cons (ev_var rfl) ea_nil))) (.mk a cs bs one one hl h1 ft)) ⟨rfl, rfl⟩) ?_
  have hlay : Fr.btw cs one other = ((Fr.unload other one 3 (Fr.unload one one 3 cs).1).1, if (Fr.unload other one 3 (Fr.unload one one 3 cs).1).2 = true then none else some (Fr.keys (Fr.reached (Fr.unload other one 3 (Fr.unload one one 3 cs).1).1 other))) := rfl
  generalize (Fr.unload one one 3 cs).1 = c1 at ft1 hlay ⊢
  obtain ⟨ft2, _⟩ := Fr.unload_spec (spared := one) h2 3 c1 ft1 (by have := ft1.two other; omega)
  have l1 := ft1.len
  have l2 := ft2.len
  rw [hlay]
  refine TM.guard (b := (Fr.unload other one 3 c1).2) (g' := [(a, gridM (Fr.unload other one 3 c1).1)]) (EvX.test (ex_call (g1 := [(a, gridM c1)]) (g2 := []) (List.Perm.refl _) (ea_cons (ev_var rfl) (ea_cons (ev_var rfl) (ea_cons (ev_var rfl) ea_nil))) (.mk a c1 bs other one (by omega) (by omega) (by rw [l1]; exact ft1)))) (fun hb => ?_) (fun hb => ?_)
  · rw [if_pos hb]
    exact TM.ret ev_non ⟨rfl, [], List.Perm.refl _⟩
  · have hb' : ¬ (Fr.unload other one 3 c1).2 = true := by rw [hb]; exact Bool.false_ne_true
    rw [if_neg hb']
    generalize (Fr.unload other one 3 c1).1 = c2 at ft2 l2 ⊢
    have h22 : other < c2.length := by omega
    have low2 : ∀ v w, w ∈ Fr.at_ c2 v → w < c2.length ∧ w ≠ v := by rw [l2]; exact ft2.low
    obtain ⟨sn, _⟩ := Fr.reached_seen rfl low2 h22
    have sml := Fr.seen_small sn
    refine TM.retX (r := layR (some (Fr.keys (Fr.reached c2 other)))) (EvX.sortedT (ns := kI (Fr.keys (Fr.reached c2 other))) (ds := aD (Fr.reached c2 other)) (EvX.callV (ρv := [.k (gridM c2).see, .k (.int (one : Int)), .k (.int (other : Int))]) (.root (by simp) (.same (.same .nil))) (ea_cons ((ev_var rfl).to (see_grid c2)) (ea_cons (ev_var rfl) ea_nil)) (.mk c2 other (by omega) h22 low2 ft2.two) (dct_flat _)) (by unfold kI Fr.keys; rw [List.length_map, List.length_map]; omega) (kI_rise (sortN_rise _)) ((sortN_perm _).map _)) ⟨rfl, [], List.Perm.refl _⟩
end
/-! ### lay -/
abbrev s_lay : Stmt := top 18
theorem sc_lay : FnScope ["carried", "one", "other", "crowd"] ["carried", "one", "other"] (defScope s_lay) := ⟨rfl, rfl, rfl, by decide +kernel, rfl, by decide +kernel, by decide +kernel⟩
inductive R_lay : List D → Gs → Rs → Gs → Prop
  | mk (a : Addr) (cs : Fr.Cs) (bs : List Fr.Bar) (one other : Nat) (hl : cs.length ≤ 16) (h1 : one < cs.length) (h2 : other < cs.length) (ft : Fr.Fits cs.length cs bs) :
    R_lay [.adr a, .int (one : Int), .int (other : Int)] [(a, gridM cs)] (layR (Fr.lay cs one other).2) [(a, gridM (Fr.lay cs one other).1)]

section
variable {P : Program} {w : World} {K : PySem.W.Frag} {mg : Str → Option Value} {base : Heap}
theorem ok_lay {f : Addr} {fd : FuncData} (F : FnP K "lay" s_lay f fd) (g : mg "lay" = some (.ref f)) (M : Mods K mg) (C_crowd_between : Cal P w K mg base CX0 4 "crowd_between" ["carried", "one", "other"] (spG K R_crowd_between)) : Cal P w K mg base CX0 5 "lay" ["carried", "one", "other"] (spG K R_lay) := by
  refine ⟨f, fd, F.ok sc_lay (spG_len fun _ _ _ _ r => by cases r <;> rfl) (fun cdv A outer s H vs Q E hr h => ?_), g, F.kp, F.bindsN fun _ _ _ _ _ _ us hl => match us, hl with | [_, _, _], _ => rfl⟩
  have hu := hr.units
  refine ⟨_, PSs.nox (pss_cons (ps_set (i := 3) sc_lay.nd rfl (Or.inl rfl) (pe_cal C_crowd_between hr (by decide) pass0 (pa_cons (pv 0) (pa_cons (pv 1) (pa_cons (pv 2) pa_nil)))))
      (pss_cons (ps_if (pt_cmpR op_isN (pv 3) pe_non (nomark _)) (pss_one (ps_expr (pe_bm PySem.F.plainAttrs_list PySem.F.slot_list_append PySem.F.type_list_append mt_append (pe_ix (ok_ix (K := K) rfl) (pv 0) (pv 1) (fun _ _ => rfl)) (pa_cons (pv 2) pa_nil)))) pss_nil)
      (pss_one (ps_ret (pv 3))))), ?_⟩
  refine TM.fin (K := K) h fun ds g r g1 rel => ?_
  cases rel with | mk a cs bs one other hl h1 h2 ft =>
  have ft2 := Fr.btw_fits ft h1 h2
  have l2 := ft2.len
  have R0 := R_crowd_between.mk a cs bs one other hl h1 h2 ft
  have hlay : ((Fr.btw cs one other).2 = none → Fr.lay cs one other = ((Fr.btw cs one other).1.set one (Fr.at_ (Fr.btw cs one other).1 one ++ [other]), none)) ∧ ∀ ks, (Fr.btw cs one other).2 = some ks → Fr.lay cs one other = ((Fr.btw cs one other).1, some ks) := ⟨Fr.lay_none, fun _ => Fr.lay_some⟩
  generalize Fr.btw cs one other = q at R0 ft2 l2 hlay
  obtain ⟨c2, o2⟩ := q
  have l2 : c2.length = cs.length := l2
  have ft2 : Fr.Fits cs.length c2 bs := ft2
  have h12 : one < c2.length := by omega
  cases o2 with
  | none =>
    rw [hlay.1 rfl]
    refine TM.seq (ρ1 := [.k (.adr a), .k (.int (one : Int)), .k (.int (other : Int)), .k .non]) (g1 := [(a, gridM c2)]) (TM.asgX (d := .non) (ex_call (g1 := [(a, gridM cs)]) (g2 := []) (List.Perm.refl _) (ea_cons (ev_var rfl) (ea_cons (ev_var rfl) (ea_cons (ev_var rfl) ea_nil))) R0) eg_name ⟨rfl, rfl⟩) ?_
    refine TM.seq (ρ1 := [.k (.adr a), .k (.int (one : Int)), .k (.int (other : Int)), .k .non]) (g1 := [(a, gridM (c2.set one (Fr.at_ c2 one ++ [other])))])
      (TM.ifX (b := true) (g' := [(a, gridM c2)]) (EvXT.of (et_test (ev_op (ev_var rfl) ev_non (rv_isN (by simp))))) (fun _ =>
        TM.append (gl := []) (gr := []) (a := a) (m := gridM c2) (π := [one]) (ms := (Fr.at_ c2 one).map fun k : Nat => Pl.M.d (.int (k : Int))) (d := .int (other : Int)) (ep_ix (π := []) (k := one) (ms := c2.map rowM) (mk := rowM (Fr.at_ c2 one)) (ep_var rfl) (ev_var rfl) (by simp) rfl (by rw [List.getElem?_map, get_cs h12]; rfl)) rfl (by rw [at_grid h12]; rfl) (ev_var rfl) (by rw [List.length_map]; exact Nat.lt_of_le_of_lt (ft2.two one) (by decide)) ⟨rfl, by rw [row_app, put_grid h12]; rfl⟩) (fun hb => by cases hb)) ?_
    exact TM.ret (ev_var rfl) ⟨rfl, [], List.Perm.refl _⟩
  | some ks =>
    rw [hlay.2 ks rfl]
    refine TM.seq (ρ1 := [.k (.adr a), .k (.int (one : Int)), .k (.int (other : Int)), .o ((kI (sortN ks)).map D.int)]) (g1 := [(a, gridM c2)])
        (TM.asgO (ex_call (g1 := [(a, gridM cs)]) (g2 := []) (List.Perm.refl _) (ea_cons (ev_var rfl) (ea_cons (ev_var rfl) (ea_cons (ev_var rfl) ea_nil))) R0) ⟨rfl, rfl⟩) ?_
    refine TM.seq (ρ1 := [.k (.adr a), .k (.int (one : Int)), .k (.int (other : Int)), .o ((kI (sortN ks)).map D.int)]) (g1 := [(a, gridM c2)])
      (TM.ifX (b := false) (g' := [(a, gridM c2)]) (EvXT.look (ρv := [.k (.adr a), .k (.int (one : Int)), .k (.int (other : Int)), .k (.lst ((kI (sortN ks)).map D.int))]) (.same (.same (.same (.own .nil)))) (et_test (ev_op (ev_var rfl) ev_non (rv_isN (by simp))))) (fun hb => by cases hb) (fun _ => TM.next ⟨rfl, rfl⟩)) ?_
    exact TM.retO rfl ⟨rfl, [], List.Perm.refl _⟩
end
/-! ### carrying -/
abbrev s_carrying : Stmt := top 17
theorem sc_carrying : FnScope ["count", "rows", "carried", "one", "other"] ["count", "rows"] (defScope s_carrying) := ⟨rfl, rfl, rfl, by decide +kernel, rfl, by decide +kernel, by decide +kernel⟩
inductive R_carrying : List D → Gs → Rs → Gs → Prop
  | mk (n : Nat) (nb : List Fr.Bar) (h2 : n ≤ 16) (ok : Fr.Ok n nb) : R_carrying [.int (n : Int), .lst ((nb.map bI).map barD)] [] (.t (gridM (Fr.layL (List.replicate n []) nb))) []

section
variable {P : Program} {w : World} {K : PySem.W.Frag} {mg : Str → Option Value} {base : Heap}
theorem ok_carrying {f : Addr} {fd : FuncData} (F : FnP K "carrying" s_carrying f fd) (g : mg "carrying" = some (.ref f)) (M : Mods K mg) (C_bare : Cal P w K mg base CX0 1 "bare" ["count"] (spG K R_bare)) (C_lay : Cal P w K mg base CX0 5 "lay" ["carried", "one", "other"] (spG K R_lay)) : Cal P w K mg base CX0 6 "carrying" ["count", "rows"] (spG K R_carrying) := by
  refine ⟨f, fd, F.ok sc_carrying (spG_len fun _ _ _ _ r => by cases r <;> rfl) (fun cdv A outer s H vs Q E hr h => ?_), g, F.kp, F.bindsN fun _ _ _ _ _ _ us hl => match us, hl with | [_, _], _ => rfl⟩
  have hu := hr.units
  refine ⟨_, PSs.nox (pss_cons (ps_set (i := 2) sc_carrying.nd rfl (Or.inl rfl) (pe_cal C_bare hr (by decide) pass0 (pa_cons (pv 0) pa_nil)))
      (pss_cons (ps_for PassesOwn.never rfl (ok_ilist (K := K) rfl (pv 1)) (ok_tup (K := K) rfl rfl (pgs_cons (pg_name (i := 3) sc_carrying.nd rfl (Or.inl rfl)) (pgs_cons (pg_name (i := 4) sc_carrying.nd rfl (Or.inl rfl)) pgs_nil))) (pss_one (ps_expr (pe_cal C_lay hr (by decide) pass0 (pa_cons (pv 2) (pa_cons (pv 3) (pa_cons (pv 4) pa_nil)))))))
      (pss_one (ps_ret (pv 2))))), ?_⟩
  refine TM.fin (K := K) h fun ds g r g1 rel => ?_
  cases rel with | mk n nb h2 ok =>
  refine TM.seqP (N := fun r x => ∃ p, r = [.k (.int (n : Int)), .k (.lst ((nb.map bI).map barD)), .k (.adr p), .u, .u] ∧ x = [(p, gridM (List.replicate n []))])
    (TM.asgN (ex_call (g1 := []) (g2 := []) (List.Perm.refl _) (ea_cons (ev_var rfl) ea_nil) (.mk n h2)) fun p => ⟨p, rfl, rfl⟩) ?_
  rintro r x ⟨p, rfl, rfl⟩
  refine TM.seqP (N := fun r x => ∃ s3 s4, r = [.k (.int (n : Int)), .k (.lst ((nb.map bI).map barD)), .k (.adr p), s3, s4] ∧ x = [(p, gridM (Fr.layL (List.replicate n []) nb))])
    (TM.for (ds := (nb.map bI).map barD) (ei_list (ev_var rfl)) (fun i r x => ∃ s3 s4, r = [.k (.int (n : Int)), .k (.lst ((nb.map bI).map barD)), .k (.adr p), s3, s4] ∧ x = [(p, gridM (Fr.layL (List.replicate n []) (nb.take i)))])
      ⟨_, _, rfl, rfl⟩ ?_ ?_) ?_
  · rintro i d r x hd ⟨s3, s4, rfl, rfl⟩
    have hi : i < nb.length := by
      have z := (List.getElem?_eq_some_iff.mp hd).1
      rwa [List.length_map, List.length_map] at z
    have hb : nb[i]? = some nb[i] := List.getElem?_eq_getElem hi
    have hm : nb[i] ∈ nb := List.getElem_mem hi
    generalize nb[i] = b at hb hm
    have ed : d = barD (bI b) := by
      rw [List.getElem?_map, List.getElem?_map, hb] at hd
      exact (Option.some.inj hd).symm
    subst ed
    obtain ⟨o1, o2, o3⟩ := ok b hm
    have tk : nb.take (i + 1) = nb.take i ++ [b] := by rw [List.take_add_one, hb]; rfl
    obtain ⟨ft, _⟩ := Fr.kept_spec (n := n) (nb := nb.take i) fun c hc => ok c (List.mem_of_mem_take hc)
    have l1 := ft.len
    rw [tk, Fr.layL_snoc]
    generalize Fr.layL (List.replicate n []) (nb.take i) = cs at ft l1 ⊢
    generalize Fr.keptL (List.replicate n []) (nb.take i) = bs at ft
    have R0 := R_lay.mk p cs bs b.1 b.2 (by omega) (by omega) (by omega) (by rw [l1]; exact ft)
    refine ⟨_, eg_tup (egs_cons eg_name (egs_cons eg_name egs_nil)) rfl, ?_⟩
    cases hy : (Fr.lay cs b.1 b.2).2 with
    | none =>
      rw [hy] at R0
      exact TM.dropX (d := .non) (g' := [(p, gridM (Fr.lay cs b.1 b.2).1)]) (ex_call (g1 := [(p, gridM cs)]) (g2 := []) (List.Perm.refl _) (ea_cons (ev_var rfl) (ea_cons (ev_var rfl) (ea_cons (ev_var rfl) ea_nil))) R0) ⟨_, _, rfl, rfl⟩
    | some ks =>
      rw [hy] at R0
      exact TM.dropX (g' := [(p, gridM (Fr.lay cs b.1 b.2).1)]) (EvX.tell (ex_call (g1 := [(p, gridM cs)]) (g2 := []) (List.Perm.refl _) (ea_cons (ev_var rfl) (ea_cons (ev_var rfl) (ea_cons (ev_var rfl) ea_nil))) R0)) ⟨_, _, rfl, rfl⟩
  · rintro r x ⟨s3, s4, rfl, rfl⟩
    rw [List.length_map, List.length_map, List.take_length]
    exact ⟨_, _, rfl, rfl⟩
  · rintro r x ⟨s3, s4, rfl, rfl⟩
    exact TM.retT (g1 := []) (a := p) rfl (List.Perm.refl _) ⟨rfl, [], List.Perm.refl _⟩
end
/-! ### chosen -/
abbrev s_chosen : Stmt := top 24
theorem sc_chosen : FnScope ["count", "bars", "rows", "carried", "numbers", "number", "one", "other"] ["count", "bars"] (defScope s_chosen) := ⟨rfl, rfl, rfl, by decide +kernel, rfl, by decide +kernel, by decide +kernel⟩
inductive R_chosen : List D → Gs → Rs → Gs → Prop
  | mk (n : Nat) (nb : List Fr.Bar) (h1 : 1 ≤ n) (h2 : n ≤ 16) (ok : Fr.Ok n nb) (hl : nb.length ≤ 60) : R_chosen [.int (n : Int), .lst ((nb.map bI).map barD)] [] (.o (nD (chosenL (List.replicate n []) nb 0))) []

section
variable {P : Program} {w : World} {K : PySem.W.Frag} {mg : Str → Option Value} {base : Heap}
theorem ok_chosen {f : Addr} {fd : FuncData} (F : FnP K "chosen" s_chosen f fd) (g : mg "chosen" = some (.ref f)) (M : Mods K mg) (C_checked : Cal P w K mg base CX0 4 "checked" ["count", "bars"] (spF K R_checked)) (C_bare : Cal P w K mg base CX0 1 "bare" ["count"] (spG K R_bare)) (C_lay : Cal P w K mg base CX0 5 "lay" ["carried", "one", "other"] (spG K R_lay)) : Cal P w K mg base CX0 6 "chosen" ["count", "bars"] (spG K R_chosen) := by
  refine ⟨f, fd, F.ok sc_chosen (spG_len fun _ _ _ _ r => by cases r <;> rfl) (fun cdv A outer s H vs Q E hr h => ?_), g, F.kp, F.bindsN fun _ _ _ _ _ _ us hl => match us, hl with | [_, _], _ => rfl⟩
  have hu := hr.units
  refine ⟨_, PSs.nox (pss_cons (ps_set (i := 2) sc_chosen.nd rfl (Or.inl rfl) (pe_cal C_checked hr (by decide) pass0 (pa_cons (pv 0) (pa_cons (pv 1) pa_nil))))
      (pss_cons (ps_set (i := 3) sc_chosen.nd rfl (Or.inl rfl) (pe_cal C_bare hr (by decide) pass0 (pa_cons (pv 0) pa_nil)))
      (pss_cons (ps_set (i := 4) sc_chosen.nd rfl (Or.inl rfl) (pe_lst pa_nil))
      (pss_cons (ps_for PassesOwn.never rfl (ok_ienum (K := K) rfl (by rfl) M.m_enumerate (pa_cons (pv 2) pa_nil)) (ok_tup (K := K) rfl rfl (pgs_cons (pg_name (i := 5) sc_chosen.nd rfl (Or.inl rfl)) (pgs_cons (ok_tup (K := K) rfl rfl (pgs_cons (pg_name (i := 6) sc_chosen.nd rfl (Or.inl rfl)) (pgs_cons (pg_name (i := 7) sc_chosen.nd rfl (Or.inl rfl)) pgs_nil))) pgs_nil))) (pss_one (ps_if (pt_cmpR op_isN (pe_cal C_lay hr (by decide) pass0 (pa_cons (pv 3) (pa_cons (pv 6) (pa_cons (pv 7) pa_nil)))) pe_non (nomark _)) (pss_one (ps_expr (pe_bm PySem.F.plainAttrs_list PySem.F.slot_list_append PySem.F.type_list_append mt_append (pv 4) (pa_cons (pv 5) pa_nil)))) pss_nil)))
      (pss_one (ps_ret (pv 4))))))), ?_⟩
  refine TM.fin (K := K) h fun ds g r g1 rel => ?_
  cases rel with | mk n nb h1 h2 ok hl =>
  refine TM.seq (ρ1 := [.k (.int (n : Int)), .k (.lst ((nb.map bI).map barD)), .k (.lst ((nb.map bI).map barD)), .u, .u, .u, .u, .u]) (g1 := [])
    (TM.of (T.asg (EvF.data (ev_callF (ea_cons (ev_var rfl) (ea_cons (ev_var rfl) ea_nil)) (.good (n : Int) (nb.map bI) (by omega) (by omega) (by rw [List.length_map]; exact hl) fun b hb => ?_))) ⟨rfl, rfl⟩)) ?_
  · obtain ⟨c, hc, rfl⟩ := List.mem_map.mp hb
    obtain ⟨o1, o2, o3⟩ := ok c hc
    exact ⟨by unfold bI; omega, by unfold bI; omega, by unfold bI; omega, by unfold bI; omega, by unfold bI; omega⟩
  refine TM.seqP (N := fun r x => ∃ p, r = [.k (.int (n : Int)), .k (.lst ((nb.map bI).map barD)), .k (.lst ((nb.map bI).map barD)), .k (.adr p), .u, .u, .u, .u] ∧ x = [(p, gridM (List.replicate n []))])
    (TM.asgN (ex_call (g1 := []) (g2 := []) (List.Perm.refl _) (ea_cons (ev_var rfl) ea_nil) (.mk n h2)) fun p => ⟨p, rfl, rfl⟩) ?_
  rintro r x ⟨p, rfl, rfl⟩
  refine TM.seq (ρ1 := [.k (.int (n : Int)), .k (.lst ((nb.map bI).map barD)), .k (.lst ((nb.map bI).map barD)), .k (.adr p), .o [], .u, .u, .u]) (g1 := [(p, gridM (List.replicate n []))]) (TM.of (T.asgF (es := []) (by walk_at "ev") ⟨rfl, rfl⟩)) ?_
  refine TM.seqP (N := fun r x => ∃ cs s5 s6 s7, r = [.k (.int (n : Int)), .k (.lst ((nb.map bI).map barD)), .k (.lst ((nb.map bI).map barD)), .k (.adr p), .o (nD (chosenL (List.replicate n []) nb 0)), s5, s6, s7] ∧ x = [(p, gridM cs)])
    (TM.for (ds := enumD ((nb.map bI).map barD)) (ei_enum (ea_cons (ev_var rfl) ea_nil)) (fun i r x => ∃ cs bs fd s5 s6 s7, (r = [.k (.int (n : Int)), .k (.lst ((nb.map bI).map barD)), .k (.lst ((nb.map bI).map barD)), .k (.adr p), .o (nD fd), s5, s6, s7] ∧ x = [(p, gridM cs)]) ∧ Fr.Fits n cs bs ∧ (Fr.Slim n bs ∧ Fr.Ok n bs) ∧ fd.length ≤ i ∧ fd ++ chosenL cs (nb.drop i) i = chosenL (List.replicate n []) nb 0)
      ⟨_, [], [], _, _, _, ⟨rfl, rfl⟩, fits_bare n, ⟨slim_nil n, fun _ h => nomatch h⟩, Nat.zero_le _, rfl⟩ ?_ ?_) ?_
  · rintro i d r x hd ⟨cs, bs, fd, s5, s6, s7, ⟨rfl, rfl⟩, ft, ⟨sl, okb⟩, hfl, hc⟩
    have hi : i < nb.length := by
      have z := (List.getElem?_eq_some_iff.mp hd).1
      rwa [enumD_len, List.length_map, List.length_map] at z
    obtain ⟨y, hy, rfl⟩ := enumD_get hd
    have hb : nb[i]? = some nb[i] := List.getElem?_eq_getElem hi
    have hm : nb[i] ∈ nb := List.getElem_mem hi
    have dr : nb.drop i = nb[i] :: nb.drop (i + 1) := List.drop_eq_getElem_cons hi
    generalize nb[i] = b at hb hm dr
    rw [List.getElem?_map, List.getElem?_map, hb] at hy
    have ed : barD (bI b) = y := Option.some.inj hy
    subst ed
    obtain ⟨o1, o2, o3⟩ := ok b hm
    have l1 := ft.len
    have R0 := R_lay.mk p cs bs b.1 b.2 (by omega) (by omega) (by omega) (by rw [l1]; exact ft)
    rw [dr] at hc
    refine ⟨_, eg_tup (egs_cons eg_name (egs_cons (eg_tup (egs_cons eg_name (egs_cons eg_name egs_nil)) rfl) egs_nil)) rfl, ?_⟩
    cases hy : (Fr.lay cs b.1 b.2).2 with
    | none =>
      rw [hy] at R0
      have hc2 : (fd ++ [i]) ++ chosenL (Fr.lay cs b.1 b.2).1 (nb.drop (i + 1)) (i + 1) = chosenL (List.replicate n []) nb 0 := by
        rw [← hc]
        conv => rhs; unfold chosenL
        rw [hy]
        simp
      obtain ⟨f1, f2⟩ := Fr.lay_yes ft okb sl o1 o2 o3 (Prod.ext rfl hy : Fr.lay cs b.1 b.2 = ((Fr.lay cs b.1 b.2).1, none))
      refine TM.ifX (b := true) (g' := [(p, gridM (Fr.lay cs b.1 b.2).1)]) (EvX.test (EvX.isN (ex_call (g1 := [(p, gridM cs)]) (g2 := []) (List.Perm.refl _) (ea_cons (ev_var rfl) (ea_cons (ev_var rfl) (ea_cons (ev_var rfl) ea_nil))) R0) (rv_isN (by simp)))) (fun _ => ?_) (fun hb => by cases hb)
      refine TM.of (T.append (ds := nD fd) (d := .int (i : Int)) rfl (ev_var rfl) (by unfold nD; rw [List.length_map]; omega) ?_)
      refine ⟨_, bs ++ [b], fd ++ [i], .k (.int (i : Int)), .k (.int (b.1 : Int)), .k (.int (b.2 : Int)), ⟨?_, rfl⟩, f1, ⟨f2, fun c hc => ?_⟩, ?_, hc2⟩
      · rw [nD_snoc]
        rfl
      · rcases List.mem_append.mp hc with hc | hc
        · exact okb c hc
        · rw [List.mem_singleton.mp hc]
          exact ⟨o1, o2, o3⟩
      · rw [List.length_append]
        show fd.length + 1 ≤ i + 1
        omega
    | some ks =>
      rw [hy] at R0
      have hc2 : fd ++ chosenL (Fr.lay cs b.1 b.2).1 (nb.drop (i + 1)) (i + 1) = chosenL (List.replicate n []) nb 0 := by
        rw [← hc]
        conv => rhs; unfold chosenL
        rw [hy]
      obtain ⟨f1, _⟩ := Fr.lay_no ft sl o1 o2 o3 (Prod.ext rfl hy : Fr.lay cs b.1 b.2 = ((Fr.lay cs b.1 b.2).1, some ks))
      refine TM.ifX (b := false) (g' := [(p, gridM (Fr.lay cs b.1 b.2).1)]) (EvX.test (EvX.isN (EvX.tell (ex_call (g1 := [(p, gridM cs)]) (g2 := []) (List.Perm.refl _) (ea_cons (ev_var rfl) (ea_cons (ev_var rfl) (ea_cons (ev_var rfl) ea_nil))) R0)) (rv_isN (by simp)))) (fun hb => by cases hb) (fun _ => ?_)
      exact TM.next ⟨_, bs, fd, .k (.int (i : Int)), .k (.int (b.1 : Int)), .k (.int (b.2 : Int)), ⟨rfl, rfl⟩, f1, ⟨sl, okb⟩, by omega, hc2⟩
  · rintro r x ⟨cs, bs, fd, s5, s6, s7, ⟨rfl, rfl⟩, _, _, _, hc⟩
    refine ⟨cs, s5, s6, s7, ?_, rfl⟩
    rw [← hc, enumD_len, List.length_map, List.length_map, List.drop_length]
    unfold chosenL
    rw [List.append_nil]
  · rintro r x ⟨cs, s5, s6, s7, rfl, rfl⟩
    exact TM.retO rfl ⟨rfl, _, List.Perm.refl _⟩
end
/-! ### worth -/
abbrev s_worth : Stmt := top 25
theorem sc_worth : FnScope ["count", "bars"] ["count", "bars"] (defScope s_worth) := ⟨rfl, rfl, rfl, by decide +kernel, rfl, by decide +kernel, by decide +kernel⟩
inductive R_worth : List D → Gs → Rs → Gs → Prop
  | mk (n : Nat) (nb : List Fr.Bar) (h1 : 1 ≤ n) (h2 : n ≤ 16) (ok : Fr.Ok n nb) (hl : nb.length ≤ 60) : R_worth [.int (n : Int), .lst ((nb.map bI).map barD)] [] (.d (.int ((chosenL (List.replicate n []) nb 0).length : Int))) []

section
variable {P : Program} {w : World} {K : PySem.W.Frag} {mg : Str → Option Value} {base : Heap}
theorem ok_worth {f : Addr} {fd : FuncData} (F : FnP K "worth" s_worth f fd) (g : mg "worth" = some (.ref f)) (M : Mods K mg) (C_chosen : Cal P w K mg base CX0 6 "chosen" ["count", "bars"] (spG K R_chosen)) : Cal P w K mg base CX0 7 "worth" ["count", "bars"] (spG K R_worth) := by
  refine ⟨f, fd, F.ok sc_worth (spG_len fun _ _ _ _ r => by cases r <;> rfl) (fun cdv A outer s H vs Q E hr h => ?_), g, F.kp, F.bindsN fun _ _ _ _ _ _ us hl => match us, hl with | [_, _], _ => rfl⟩
  have hu := hr.units
  refine ⟨_, PSs.nox (pss_one (ps_ret (pe_callB (ok_len (K := K) rfl) (by rfl) M.m_len (by decide +kernel) (pa_cons (pe_cal C_chosen hr (by decide) pass0 (pa_cons (pv 0) (pa_cons (pv 1) pa_nil))) pa_nil)))), ?_⟩
  refine TM.fin (K := K) h fun ds g r g1 rel => ?_
  cases rel with | mk n nb h1 h2 ok hl =>
  refine TM.retX (r := .d (.int (((nD (chosenL (List.replicate n []) nb 0)).length : Nat) : Int))) (EvX.cb1 (EvX.tell (ex_call (g1 := []) (g2 := []) (List.Perm.refl _) (ea_cons (ev_var rfl) (ea_cons (ev_var rfl) ea_nil)) (.mk n nb h1 h2 ok hl))) rc_lenL) ⟨?_, [], List.Perm.refl _⟩
  unfold nD
  rw [List.length_map]
end
/-! ### holds -/
abbrev s_holds : Stmt := top 27
theorem sc_holds : FnScope ["count", "bars", "one", "other", "rows"] ["count", "bars", "one", "other"] (defScope s_holds) := ⟨rfl, rfl, rfl, by decide +kernel, rfl, by decide +kernel, by decide +kernel⟩
open Classical in
noncomputable def hldB (n : Nat) (nb : List Fr.Bar) (a b : Nat) : Bool := decide (Fr.Hld n nb a b)
open Classical in
theorem hldB_yes {n : Nat} {nb : List Fr.Bar} {a b : Nat} (h : Fr.Hld n nb a b) : hldB n nb a b = true := decide_eq_true h
open Classical in
theorem hldB_no {n : Nat} {nb : List Fr.Bar} {a b : Nat} (h : ¬ Fr.Hld n nb a b) : hldB n nb a b = false := decide_eq_false h
inductive R_holds : List D → Gs → Rs → Gs → Prop
  | mk (n : Nat) (nb : List Fr.Bar) (a b : Nat) (h1 : 1 ≤ n) (h2 : n ≤ 16) (ok : Fr.Ok n nb) (hl : nb.length ≤ 60) (ha : a < n) (hb : b < n) (ne : a ≠ b) : R_holds [.int (n : Int), .lst (brs nb), .int (a : Int), .int (b : Int)] [] (.d (.bl (hldB n nb a b))) []
inductive Rx_holds : List D → Prop
  | mk (n : Nat) (nb : List Fr.Bar) (h1 : 1 ≤ n) (h2 : n ≤ 16) (ok : Fr.Ok n nb) (hl : nb.length ≤ 60) (x y : D) (h : R_is_bar [.int (n : Int), .tup [x, y]] (.bl false)) : Rx_holds [.int (n : Int), .lst (brs nb), x, y]

section
variable {P : Program} {w : World} {K : PySem.W.Frag} {mg : Str → Option Value} {base : Heap}
theorem ok_holds {f : Addr} {fd : FuncData} (F : FnP K "holds" s_holds f fd) (g : mg "holds" = some (.ref f)) (M : Mods K mg) (C_checked : Cal P w K mg base CX0 4 "checked" ["count", "bars"] (spF K R_checked)) (C_is_bar : Cal P w K mg base CX0 3 "is_bar" ["count", "bar"] (spD K R_is_bar)) (C_crowd_between : Cal P w K mg base CX0 4 "crowd_between" ["carried", "one", "other"] (spG K R_crowd_between)) (C_carrying : Cal P w K mg base CX0 6 "carrying" ["count", "rows"] (spG K R_carrying)) : Cal P w K mg base CX0 7 "holds" ["count", "bars", "one", "other"] (spG K R_holds) := by
  refine ⟨f, fd, F.ok sc_holds (spG_len fun _ _ _ _ r => by cases r <;> rfl) (fun cdv A outer s H vs Q E hr h => ?_), g, F.kp, F.bindsN fun _ _ _ _ _ _ us hl => match us, hl with | [_, _, _, _], _ => rfl⟩
  have hu := hr.units
  refine ⟨_, PSs.nox (pss_cons (ps_set (i := 4) sc_holds.nd rfl (Or.inl rfl) (pe_cal C_checked hr (by decide) pass0 (pa_cons (pv 0) (pa_cons (pv 1) pa_nil))))
      (pss_cons (ps_if (pt_not (pt_val (pe_cal C_is_bar hr (by decide) pass0 (pa_cons (pv 0) (pa_cons (pe_tup (pa_cons (pv 2) (pa_cons (pv 3) pa_nil))) pa_nil))))) (pss_one ps_never) pss_nil)
      (pss_one (ps_ret (pe_cmpR op_notN (pe_cal C_crowd_between hr (by decide) pass0 (pa_cons (pe_cal C_carrying hr (by decide) pass0 (pa_cons (pv 0) (pa_cons (pv 4) pa_nil))) (pa_cons (pv 2) (pa_cons (pv 3) pa_nil)))) pe_non (nomark _)))))), ?_⟩
  refine TM.fin (K := K) h fun ds g r g1 rel => ?_
  cases rel with | mk n nb a b h1 h2 ok hl ha hb ne =>
  refine TM.seq (ρ1 := [.k (.int (n : Int)), .k (.lst (brs nb)), .k (.int (a : Int)), .k (.int (b : Int)), .k (.lst (brs nb))]) (g1 := [])
    (TM.of (T.asg (EvF.data (ev_callF (ea_cons (ev_var rfl) (ea_cons (ev_var rfl) ea_nil)) (.good (n : Int) (nb.map bI) (by omega) (by omega) (by rw [List.length_map]; exact hl) fun x hx => ?_))) ⟨rfl, rfl⟩)) ?_
  · obtain ⟨c, hc, rfl⟩ := List.mem_map.mp hx
    obtain ⟨o1, o2, o3⟩ := ok c hc
    exact ⟨by unfold bI; omega, by unfold bI; omega, by unfold bI; omega, by unfold bI; omega, by unfold bI; omega⟩
  refine TM.guard (b := !true) (g' := []) (EvXT.of (et_not (et_B (ev_call (ea_cons (ev_var rfl) (ea_cons (ev_tup (ea_cons (ev_var rfl) (ea_cons (ev_var rfl) ea_nil)) (Nat.le_of_ble_eq_true rfl)) ea_nil)) (.good (n : Int) (bI (a, b)) ⟨by unfold bI; omega, by unfold bI; omega, by unfold bI; omega, by unfold bI; omega, by unfold bI; omega⟩))))) (fun hb => by cases hb) fun _ => ?_
  obtain ⟨ft, sl⟩ := Fr.kept_spec ok
  have ec := (Fr.chosen_spec ok).2
  have okk := Fr.basis_ok ok
  rw [ec] at ft sl
  have hcs := ft.len
  have hsp := Fr.btw_spn ft okk sl ha hb ne
  have call : ∀ (E1 E2 : XK) r, layR (Fr.btw (Fr.layL (List.replicate n []) nb) a b).2 = r → EvX K (tCall (spG K R_crowd_between) [] E1 (tCons (tCall (spG K R_carrying) [] E2 (tCons (tVar 0) (tCons (tVar 4) tNil))) (tCons (tVar 2) (tCons (tVar 3) tNil)))) [.k (.int (n : Int)), .k (.lst (brs nb)), .k (.int (a : Int)), .k (.int (b : Int)), .k (.lst (brs nb))] [] r [] := fun E1 E2 r hr => by
    subst hr
    refine ex_callA (xa_t (ex_call (g1 := []) (g2 := []) (List.Perm.refl _) (ea_cons (ev_var rfl) (ea_cons (ev_var rfl) ea_nil)) (.mk n nb h2 ok)) fun p => xa_of (ea_cons (ev_var rfl) (ea_cons (ev_var rfl) ea_nil))) ?_
    rintro ds x ⟨p, l, rfl, rfl, rfl⟩
    exact ⟨_, [], _, _, List.Perm.refl _, R_crowd_between.mk p _ (Fr.pickB n [] nb) a b (by omega) (by omega) (by omega) (by rw [hcs]; exact ft), List.Perm.refl _⟩
  cases hq : (Fr.btw (Fr.layL (List.replicate n []) nb) a b).2 with
  | none =>
    have e : hldB n nb a b = false := hldB_no (hsp.mp hq)
    rw [e]
    exact TM.retX (r := .d (.bl (!true))) (EvX.isN (d := .non) (call _ _ _ (by rw [hq]; rfl)) (rv_notN (by simp))) ⟨rfl, [], List.Perm.refl _⟩
  | some ks =>
    have e : hldB n nb a b = true := hldB_yes (by
      by_cases z : Fr.Hld n nb a b
      · exact z
      · have := hsp.mpr z
        rw [hq] at this
        cases this)
    rw [e]
    exact TM.retX (r := .d (.bl (!false))) (EvX.isN (EvX.tell (call _ _ _ (by rw [hq]; rfl))) (rv_notN (by simp))) ⟨rfl, [], List.Perm.refl _⟩
end
/-! ### held_by_each -/
abbrev s_held_by_each : Stmt := top 29
theorem sc_held_by_each : FnScope ["count", "carried", "held", "other", "one", "joint", "joints"] ["count", "carried"] (defScope s_held_by_each) := ⟨rfl, rfl, rfl, by decide +kernel, rfl, by decide +kernel, by decide +kernel⟩
/-- what is known of each joint so far: of the pairs with both below o, or o and one below k -/
def Part (n : Nat) (K : List Fr.Bar) (o k : Nat) (hs : List (List Nat)) : Prop := hs.length = n ∧ ∀ x, x < n → (Fr.at_ hs x).Nodup ∧ ∀ y, y ∈ Fr.at_ hs x ↔ y < n ∧ (y = x ∨ ((max x y < o ∨ (max x y = o ∧ min x y < k)) ∧ Fr.Spn n K x y))
theorem part_start (n : Nat) (K : List Fr.Bar) : Part n K 0 0 ((List.range n).map fun x => [x]) := by
  refine ⟨by simp, fun x hx => ?_⟩
  have e : Fr.at_ ((List.range n).map fun x => [x]) x = [x] := by
    unfold Fr.at_
    simp [List.getD, hx]
  rw [e]
  refine ⟨by simp, fun y => ?_⟩
  rw [List.mem_singleton]
  exact ⟨fun h => ⟨by omega, .inl h⟩, fun ⟨_, h⟩ => h.elim id fun ⟨h, _⟩ => by omega⟩
theorem part_next {n : Nat} {K : List Fr.Bar} {o : Nat} {hs : List (List Nat)} (h : Part n K o o hs) : Part n K (o + 1) 0 hs := by
  obtain ⟨h1, h2⟩ := h
  refine ⟨h1, fun x hx => ⟨(h2 x hx).1, fun y => ?_⟩⟩
  rw [(h2 x hx).2 y]
  constructor
  · rintro ⟨a, b | ⟨b, c⟩⟩
    · exact ⟨a, .inl b⟩
    · exact ⟨a, .inr ⟨by omega, c⟩⟩
  · rintro ⟨a, b | ⟨b, c⟩⟩
    · exact ⟨a, .inl b⟩
    · by_cases q : y = x
      · exact ⟨a, .inl q⟩
      · exact ⟨a, .inr ⟨by omega, c⟩⟩
theorem part_no {n : Nat} {K : List Fr.Bar} {o k : Nat} {hs : List (List Nat)} (h : Part n K o k hs) (hk : k < o) (ns : ¬ Fr.Spn n K k o) : Part n K o (k + 1) hs := by
  obtain ⟨h1, h2⟩ := h
  refine ⟨h1, fun x hx => ⟨(h2 x hx).1, fun y => ?_⟩⟩
  rw [(h2 x hx).2 y]
  constructor
  · rintro ⟨a, b | ⟨b, c⟩⟩
    · exact ⟨a, .inl b⟩
    · exact ⟨a, .inr ⟨by omega, c⟩⟩
  · rintro ⟨a, b | ⟨b, c⟩⟩
    · exact ⟨a, .inl b⟩
    · by_cases q : max x y = o ∧ min x y = k
      · by_cases l : x < y
        · have e1 : x = k := by omega
          have e2 : y = o := by omega
          rw [e1, e2] at c
          exact (ns c).elim
        · have e1 : x = o := by omega
          have e2 : y = k := by omega
          rw [e1, e2] at c
          exact (ns c.symm).elim
      · exact ⟨a, .inr ⟨by omega, c⟩⟩
theorem part_yes {n : Nat} {K : List Fr.Bar} {o k : Nat} {hs : List (List Nat)} (h : Part n K o k hs) (hk : k < o) (ho : o < n) (ns : Fr.Spn n K k o) :
    Part n K o (k + 1) ((hs.set k (Fr.at_ hs k ++ [o])).set o (Fr.at_ (hs.set k (Fr.at_ hs k ++ [o])) o ++ [k])) := by
  obtain ⟨h1, h2⟩ := h
  have hkl : k < hs.length := by omega
  have hol : o < (hs.set k (Fr.at_ hs k ++ [o])).length := by rw [List.length_set]; omega
  refine ⟨by rw [List.length_set, List.length_set]; exact h1, fun x hx => ?_⟩
  have e0 : Fr.at_ (hs.set k (Fr.at_ hs k ++ [o])) o = Fr.at_ hs o := by rw [Fr.at_set hkl, if_neg (by omega)]
  have q : Fr.at_ ((hs.set k (Fr.at_ hs k ++ [o])).set o (Fr.at_ (hs.set k (Fr.at_ hs k ++ [o])) o ++ [k])) x = if o = x then Fr.at_ hs o ++ [k] else if k = x then Fr.at_ hs k ++ [o] else Fr.at_ hs x := by
    rw [Fr.at_set hol, e0, Fr.at_set hkl]
  rw [q]
  obtain ⟨n1, m1⟩ := h2 x hx
  by_cases xo : o = x
  · subst xo
    rw [if_pos rfl]
    refine ⟨List.nodup_append.mpr ⟨n1, by simp, fun a ha b hb e => ?_⟩, fun y => ?_⟩
    · rw [List.mem_singleton.mp hb] at e
      subst e
      have := (m1 a).mp ha
      omega
    · rw [List.mem_append, List.mem_singleton, m1 y]
      constructor
      · rintro (⟨a, b | ⟨b, c⟩⟩ | rfl)
        · exact ⟨a, .inl b⟩
        · exact ⟨a, .inr ⟨by omega, c⟩⟩
        · exact ⟨by omega, .inr ⟨by omega, ns.symm⟩⟩
      · rintro ⟨a, b | ⟨b, c⟩⟩
        · exact .inl ⟨a, .inl b⟩
        · by_cases q : y = k
          · exact .inr q
          · exact .inl ⟨a, .inr ⟨by omega, c⟩⟩
  · rw [if_neg xo]
    by_cases xk : k = x
    · subst xk
      rw [if_pos rfl]
      refine ⟨List.nodup_append.mpr ⟨n1, by simp, fun a ha b hb e => ?_⟩, fun y => ?_⟩
      · rw [List.mem_singleton.mp hb] at e
        subst e
        have := (m1 a).mp ha
        omega
      · rw [List.mem_append, List.mem_singleton, m1 y]
        constructor
        · rintro (⟨a, b | ⟨b, c⟩⟩ | rfl)
          · exact ⟨a, .inl b⟩
          · exact ⟨a, .inr ⟨by omega, c⟩⟩
          · exact ⟨ho, .inr ⟨by omega, ns⟩⟩
        · rintro ⟨a, b | ⟨b, c⟩⟩
          · exact .inl ⟨a, .inl b⟩
          · by_cases q : y = o
            · exact .inr q
            · exact .inl ⟨a, .inr ⟨by omega, c⟩⟩
    · rw [if_neg xk]
      refine ⟨n1, fun y => ?_⟩
      rw [m1 y]
      constructor
      · rintro ⟨a, b | ⟨b, c⟩⟩
        · exact ⟨a, .inl b⟩
        · exact ⟨a, .inr ⟨by omega, c⟩⟩
      · rintro ⟨a, b | ⟨b, c⟩⟩
        · exact ⟨a, .inl b⟩
        · by_cases q : max x y = o ∧ min x y = k
          · omega
          · exact ⟨a, .inr ⟨by omega, c⟩⟩
theorem part_end {n : Nat} {K : List Fr.Bar} {hs : List (List Nat)} (h : Part n K n 0 hs) {x : Nat} (hx : x < n) : sortN (Fr.at_ hs x) = heldL n K x := by
  obtain ⟨n1, m1⟩ := h.2 x hx
  refine sortN_eq n1 (heldL_rise n K x) fun y => ?_
  rw [m1 y, heldL_mem]
  constructor
  · rintro ⟨a, b | ⟨b, c⟩⟩
    · exact ⟨a, .inl b⟩
    · exact ⟨a, .inr c⟩
  · rintro ⟨a, b | c⟩
    · exact ⟨a, .inl b⟩
    · exact ⟨a, .inr ⟨by omega, c⟩⟩
theorem part_short {n : Nat} {K : List Fr.Bar} {o k : Nat} {hs : List (List Nat)} (h : Part n K o k hs) {x : Nat} (hx : x < n) : (Fr.at_ hs x).length ≤ n := by
  obtain ⟨n1, m1⟩ := h.2 x hx
  exact Fr.small_len n1 fun k hk => ((m1 k).mp hk).1
inductive R_held_by_each : List D → Gs → Rs → Gs → Prop
  | mk (n : Nat) (a : Addr) (cs : Fr.Cs) (K : List Fr.Bar) (h2 : n ≤ 16) (ft : Fr.Fits n cs K) (ok : Fr.Ok n K) (sl : Fr.Slim n K) : R_held_by_each [.int (n : Int), .adr a] [(a, gridM cs)] (.d (.lst ((List.range n).map fun x => rowD (heldL n K x)))) []
def oneF : D → List D
  | .int i => [.int i]
  | _ => []
def sortF : D → List D
  | .lst ds => (kI (sortN (ds.map fun d => (numI d).toNat))).map D.int
  | _ => []
theorem sortF_row (l : List Nat) : sortF (rowD l) = (kI (sortN l)).map D.int := by
  show (kI (sortN ((nD l).map fun d => (numI d).toNat))).map D.int = _
  have e : (nD l).map (fun d => (numI d).toNat) = l := by
    unfold nD
    rw [List.map_map]
    refine (List.map_congr_left fun k _ => ?_).trans (List.map_id _)
    exact Int.toNat_natCast k
  rw [e]

section
variable {P : Program} {w : World} {K : PySem.W.Frag} {mg : Str → Option Value} {base : Heap}
theorem ok_held_by_each {f : Addr} {fd : FuncData} (F : FnP K "held_by_each" s_held_by_each f fd) (g : mg "held_by_each" = some (.ref f)) (M : Mods K mg) (C_crowd_between : Cal P w K mg base CX0 4 "crowd_between" ["carried", "one", "other"] (spG K R_crowd_between)) : Cal P w K mg base CX0 5 "held_by_each" ["count", "carried"] (spG K R_held_by_each) := by
  refine ⟨f, fd, F.ok sc_held_by_each (spG_len fun _ _ _ _ r => by cases r <;> rfl) (fun cdv A outer s H vs Q E hr h => ?_), g, F.kp, F.bindsN fun _ _ _ _ _ _ us hl => match us, hl with | [_, _], _ => rfl⟩
  have hu := hr.units
  refine ⟨_, PSs.nox (pss_cons (ps_setLc (i := 2) (own := [("joint", 5)]) (g := (gName 5)) (tt := tYes) rfl sc_held_by_each.nd rfl rfl (sw_true rfl rfl rfl (by decide +kernel)) (pi_range1 (by rfl) M.m_range (pa_cons (pv 0) pa_nil)) (blkOk_by (N := ["count", "carried", "held", "other", "one", "joint", "joints"]) (sc := defScope s_held_by_each) (by decide +kernel)) (fun _ _ _ _ _ => (pg_name (i := 5) sc_held_by_each.nd rfl (Or.inl rfl))) (fun _ _ _ _ _ => pts_nil) (fun _ _ _ _ _ => (pe_lst (pa_cons (pv 5) pa_nil))))
      (pss_cons (ps_for PassesOwn.never rfl (pi_range1 (by rfl) M.m_range (pa_cons (pv 0) pa_nil)) (pg_name (i := 3) sc_held_by_each.nd rfl (Or.inl rfl)) (pss_one (ps_for PassesOwn.never rfl (pi_range1 (by rfl) M.m_range (pa_cons (pv 3) pa_nil)) (pg_name (i := 4) sc_held_by_each.nd rfl (Or.inl rfl)) (pss_one (ps_if (pt_cmpR op_notN (pe_cal C_crowd_between hr (by decide) pass0 (pa_cons (pv 1) (pa_cons (pv 4) (pa_cons (pv 3) pa_nil)))) pe_non (nomark _)) (pss_cons (ps_expr (pe_bm PySem.F.plainAttrs_list PySem.F.slot_list_append PySem.F.type_list_append mt_append (pe_ix (ok_ix (K := K) rfl) (pv 2) (pv 4) (fun _ _ => rfl)) (pa_cons (pv 3) pa_nil)))
      (pss_one (ps_expr (pe_bm PySem.F.plainAttrs_list PySem.F.slot_list_append PySem.F.type_list_append mt_append (pe_ix (ok_ix (K := K) rfl) (pv 2) (pv 3) (fun _ _ => rfl)) (pa_cons (pv 4) pa_nil))))) pss_nil)))))
      (pss_one (ps_ret (pe_lc (own := [("joints", 6)]) (g := (gName 6)) (tt := tYes) rfl sc_held_by_each.nd (ok_ilist (K := K) rfl (pv 2)) (blkOk_by (N := ["count", "carried", "held", "other", "one", "joint", "joints"]) (sc := defScope s_held_by_each) (by decide +kernel)) (fun _ _ _ _ _ => (pg_name (i := 6) sc_held_by_each.nd rfl (Or.inl rfl))) (fun _ _ _ _ _ => pts_nil) (fun _ _ _ _ _ => (pe_callB (ok_sortedI (K := K) rfl) (by rfl) M.m_sorted (by decide +kernel) (pa_cons (pv 6) pa_nil)))))))), ?_⟩
  refine TM.fin (K := K) h fun ds g r g1 rel => ?_
  cases rel with | mk n a cs kb h2 ft ok sl =>
  have e0 : Pl.M.n .lst ((rngD 0 ((n : Nat) : Int).toNat 1).map (rowF oneF)) = gridM ((List.range n).map fun x => [x]) := by
    unfold gridM rngD
    rw [Int.toNat_natCast, List.map_map, List.map_map]
    refine congrArg (Pl.M.n .lst) (List.map_congr_left fun x _ => ?_)
    show Pl.M.n .lst [Pl.M.d (.int (0 + (x : Int) * 1))] = Pl.M.n .lst [Pl.M.d (.int (x : Int))]
    rw [Int.mul_one, Int.zero_add]
  refine TM.seqP (N := fun r x => ∃ p, r = [.k (.int (n : Int)), .k (.adr a), .k (.adr p), .u, .u, .u, .u] ∧ x = [(a, gridM cs), (p, gridM ((List.range n).map fun x => [x]))])
    (TM.asgN (g' := [(a, gridM cs)]) (m := gridM ((List.range n).map fun x => [x])) ?_ fun p => ⟨p, rfl, rfl⟩) ?_
  · rw [← e0]
    refine EvX.ofM (EvM.lc (ds := rngD 0 ((n : Nat) : Int).toNat 1) (ei_rng1 (ea_cons (ev_var rfl) ea_nil) ⟨by omega, by omega⟩) (fun d => [(5, d)]) oneF (fun d _ => eg_name) (fun d _ p hp => by rw [List.mem_singleton.mp hp]; simp) (fun d hd => ?_) (by rw [rngD_len]; omega))
    obtain ⟨i, hi, rfl⟩ := rngD_mem0 hd
    exact EvF.to (ev_lst (ea_cons (ev_var rfl) ea_nil) (Nat.le_of_ble_eq_true rfl)) rfl
  rintro r x ⟨p, rfl, rfl⟩
  refine TM.perm (List.Perm.swap _ _ _) ?_
  refine TM.seqP (N := fun r x => ∃ hs cs1 s3 s4, r = [.k (.int (n : Int)), .k (.adr a), .k (.adr p), s3, s4, .u, .u] ∧ x = [(p, gridM hs), (a, gridM cs1)] ∧ Part n kb n 0 hs)
    (TM.for (ds := rngD 0 ((n : Nat) : Int).toNat 1) (ei_rng1 (ea_cons (ev_var rfl) ea_nil) ⟨by omega, by omega⟩) (fun i r x => ∃ hs cs1 s3 s4, (r = [.k (.int (n : Int)), .k (.adr a), .k (.adr p), s3, s4, .u, .u] ∧ x = [(p, gridM hs), (a, gridM cs1)]) ∧ Fr.Fits n cs1 kb ∧ Part n kb i 0 hs)
      ⟨_, cs, .u, .u, ⟨rfl, rfl⟩, ft, part_start n kb⟩ ?_ ?_) ?_
  · rintro o d r x hd ⟨hs, cs1, s3, s4, ⟨rfl, rfl⟩, ft1, pt⟩
    obtain ⟨ho, rfl⟩ := rngD_get0 hd
    rw [Int.toNat_natCast] at ho
    refine ⟨_, eg_name, ?_⟩
    refine TM.for (ds := rngD 0 ((o : Nat) : Int).toNat 1) (ei_rng1 (ea_cons (ev_var rfl) ea_nil) ⟨by omega, by omega⟩) (fun k r x => ∃ hs cs1 s4, (r = [.k (.int (n : Int)), .k (.adr a), .k (.adr p), .k (.int (o : Int)), s4, .u, .u] ∧ x = [(p, gridM hs), (a, gridM cs1)]) ∧ Fr.Fits n cs1 kb ∧ Part n kb o k hs)
      ⟨hs, cs1, s4, ⟨rfl, rfl⟩, ft1, pt⟩ ?_ ?_
    · rintro k d r x hd ⟨hs, cs1, s4, ⟨rfl, rfl⟩, ft1, pt⟩
      obtain ⟨hk, rfl⟩ := rngD_get0 hd
      rw [Int.toNat_natCast] at hk
      have l1 := ft1.len
      have hkn : k < n := by omega
      have hsp := Fr.btw_spn ft1 ok sl hkn ho (by omega)
      have ft2 := Fr.btw_fits ft1 hkn ho
      have R0 := R_crowd_between.mk a cs1 kb k o (by omega) (by omega) (by omega) (by rw [l1]; exact ft1)
      have call : ∀ (E1 : XK), EvX K (tCall (spG K R_crowd_between) [] E1 (tCons (tVar 1) (tCons (tVar 4) (tCons (tVar 3) tNil)))) [.k (.int (n : Int)), .k (.adr a), .k (.adr p), .k (.int (o : Int)), .k (.int (k : Int)), .u, .u] [(p, gridM hs), (a, gridM cs1)] (layR (Fr.btw cs1 k o).2) [(p, gridM hs), (a, gridM (Fr.btw cs1 k o).1)] := fun E1 =>
        ex_call (g1 := [(a, gridM cs1)]) (g2 := [(p, gridM hs)]) (List.Perm.swap _ _ _) (ea_cons (ev_var rfl) (ea_cons (ev_var rfl) (ea_cons (ev_var rfl) ea_nil))) R0
      refine ⟨_, eg_name, ?_⟩
      cases hq : (Fr.btw cs1 k o).2 with
      | none =>
        rw [hq] at call
        exact TM.ifX (b := !true) (EvX.test (EvX.isN (d := .non) (call _) (rv_notN (by simp)))) (fun hb => by cases hb) fun _ => TM.next ⟨hs, _, _, ⟨rfl, rfl⟩, ft2, part_no pt hk (hsp.mp hq)⟩
      | some ks =>
        rw [hq] at call
        have hS : Fr.Spn n kb k o := by
          by_cases z : Fr.Spn n kb k o
          · exact z
          · have := hsp.mpr z
            rw [hq] at this
            cases this
        have hl := pt.1
        have hk2 : k < hs.length := by omega
        have ho2 : o < (hs.set k (Fr.at_ hs k ++ [o])).length := by rw [List.length_set]; omega
        have sh1 := part_short pt hkn
        have sh2 := part_short pt ho
        refine TM.ifX (b := !false) (EvX.test (EvX.isN (EvX.tell (call _)) (rv_notN (by simp)))) (fun _ => ?_) fun hb => by cases hb
        refine TM.seq (ρ1 := [.k (.int (n : Int)), .k (.adr a), .k (.adr p), .k (.int (o : Int)), .k (.int (k : Int)), .u, .u]) (g1 := [(p, gridM (hs.set k (Fr.at_ hs k ++ [o]))), (a, gridM (Fr.btw cs1 k o).1)])
          (TM.append (gl := []) (gr := [(a, gridM (Fr.btw cs1 k o).1)]) (a := p) (m := gridM hs) (π := [k]) (ms := (Fr.at_ hs k).map fun k : Nat => Pl.M.d (.int (k : Int))) (d := .int (o : Int)) (ep_ix (π := []) (k := k) (ms := hs.map rowM) (mk := rowM (Fr.at_ hs k)) (ep_var rfl) (ev_var rfl) (by simp) rfl (by rw [List.getElem?_map, get_cs hk2]; rfl)) rfl (by rw [at_grid hk2]; rfl) (ev_var rfl) (by rw [List.length_map]; omega) ⟨rfl, by rw [row_app, put_grid hk2]; rfl⟩) ?_
        have pt2 := part_yes pt hk ho hS
        have e1 : Fr.at_ (hs.set k (Fr.at_ hs k ++ [o])) o = Fr.at_ hs o := by rw [Fr.at_set hk2, if_neg (by omega)]
        rw [← e1] at sh2
        generalize hs.set k (Fr.at_ hs k ++ [o]) = hs2 at ho2 pt2 sh2
        exact TM.append (gl := []) (gr := [(a, gridM (Fr.btw cs1 k o).1)]) (a := p) (m := gridM hs2) (π := [o]) (ms := (Fr.at_ hs2 o).map fun k : Nat => Pl.M.d (.int (k : Int))) (d := .int (k : Int)) (ep_ix (π := []) (k := o) (ms := hs2.map rowM) (mk := rowM (Fr.at_ hs2 o)) (ep_var rfl) (ev_var rfl) (by simp) rfl (by rw [List.getElem?_map, get_cs ho2]; rfl)) rfl (by rw [at_grid ho2]; rfl) (ev_var rfl) (by rw [List.length_map]; omega) ⟨_, _, _, ⟨rfl, by rw [row_app, put_grid ho2]; rfl⟩, ft2, pt2⟩
    · rintro r x ⟨hs, cs1, s4, ⟨rfl, rfl⟩, ft1, pt⟩
      rw [rngD_len, Int.toNat_natCast] at pt
      exact ⟨hs, cs1, _, _, ⟨rfl, rfl⟩, ft1, part_next pt⟩
  · rintro r x ⟨hs, cs1, s3, s4, ⟨rfl, rfl⟩, ft1, pt⟩
    rw [rngD_len, Int.toNat_natCast] at pt
    exact ⟨hs, cs1, _, _, rfl, rfl, pt⟩
  · rintro r x ⟨hs, cs1, s3, s4, rfl, rfl, pt⟩
    have hl := pt.1
    have each : ∀ d ∈ hs.map rowD, ∃ l : List Nat, d = rowD l ∧ l.length ≤ n := fun d hd => by
      obtain ⟨l, hl2, rfl⟩ := List.mem_map.mp hd
      obtain ⟨i, hi, e⟩ := List.mem_iff_getElem.mp hl2
      have := part_short pt (x := i) (by omega)
      have e2 : Fr.at_ hs i = l := by unfold Fr.at_; simp [List.getD, hi, e]
      rw [e2] at this
      exact ⟨l, rfl, this⟩
    refine TM.retX (EvX.tellT (EvX.lookM (ρv := [.k (.int (n : Int)), .k (.adr a), .k (gridM hs).see, s3, s4, .u, .u]) (.same (.same (.root (by simp) (.same (.same (.same (.same .nil)))))))
      (EvM.lc (ds := hs.map rowD) (ei_list ((ev_var rfl).to (see_grid hs))) (fun d => [(6, d)]) sortF (fun d _ => eg_name) (fun d _ p hp => by rw [List.mem_singleton.mp hp]; simp) (fun d hd => ?_) (by rw [List.length_map]; omega)) ?_)) ⟨?_, [(p, gridM hs), (a, gridM cs1)], List.Perm.refl _⟩
    · obtain ⟨l, rfl, ll⟩ := each d hd
      rw [sortF_row]
      refine ev_cbF (ds := [.lst ((kI l).map D.int)]) (ea_cons (EvD.to (ev_var rfl) ?_) ea_nil) (rc_sortedI (by rw [kI_len]; omega) (kI_rise (sortN_rise l)) ((sortN_perm l).map _))
      show rowD l = _
      unfold rowD nD kI
      rw [List.map_map]
      rfl
    · show flatL _ = true
      refine flatL_map fun d hd => ?_
      obtain ⟨l, rfl, _⟩ := each d hd
      show flatL ((sortF (rowD l)).map Pl.M.d) = true
      refine flatL_map fun y hy => ?_
      rw [sortF_row] at hy
      obtain ⟨i, _, rfl⟩ := List.mem_map.mp hy
      rfl
    · show Rs.d (.lst (seeL ((hs.map rowD).map (rowF sortF)))) = _
      rw [seeL_map, List.map_map, List.map_map]
      have ehs : hs = (List.range n).map (Fr.at_ hs) := by
        refine List.ext_getElem (by simp [hl]) fun i h1 h2 => ?_
        have : Fr.at_ hs i = hs[i] := by unfold Fr.at_; simp [List.getD, h1]
        simp [this]
      conv => lhs; rw [ehs]
      rw [List.map_map]
      refine congrArg (fun l => Rs.d (.lst l)) (List.map_congr_left fun i hi => ?_)
      show (D.lst (seeL ((sortF (rowD (Fr.at_ hs i))).map Pl.M.d))) = rowD (heldL n kb i)
      rw [seeL_d, sortF_row, part_end pt (List.mem_range.mp hi)]
      unfold rowD nD kI
      rw [List.map_map]
      rfl
end
/-! ### parts -/
abbrev s_parts : Stmt := top 28
theorem sc_parts : FnScope ["count", "bars", "rows", "held", "found", "one", "other", "part", "joint"] ["count", "bars"] (defScope s_parts) := ⟨rfl, rfl, rfl, by decide +kernel, rfl, by decide +kernel, by decide +kernel⟩
inductive R_parts : List D → Gs → Rs → Gs → Prop
  | mk (n : Nat) (nb : List Fr.Bar) (h1 : 1 ≤ n) (h2 : n ≤ 16) (ok : Fr.Ok n nb) (hl : nb.length ≤ 60) : R_parts [.int (n : Int), .lst (brs nb)] [] (.o ((partsL n nb).map rowD)) []
open Classical in
noncomputable def leadsOf (n : Nat) (K : List Fr.Bar) (a : Nat) : List Fr.Bar := ((List.range n).filter fun b => decide (Fr.Ld n K a b)).map fun b => (a, b)
noncomputable def leadsTo (n : Nat) (K : List Fr.Bar) (i : Nat) : List Fr.Bar := (List.range i).flatMap (leadsOf n K)
theorem leadsTo_succ (n : Nat) (K : List Fr.Bar) (i : Nat) : leadsTo n K (i + 1) = leadsTo n K i ++ leadsOf n K i := by
  unfold leadsTo
  rw [List.range_succ, List.flatMap_append]
  simp
open Classical in
theorem leadsTo_all (n : Nat) (K : List Fr.Bar) : leadsTo n K n = Fr.ldrs n K := rfl
open Classical in
noncomputable def leadsIn (n : Nat) (K : List Fr.Bar) (a : Nat) (l : List Nat) : List Fr.Bar := (l.filter fun b => decide (Fr.Ld n K a b)).map fun b => (a, b)
open Classical in
theorem leadsIn_all (n : Nat) (K : List Fr.Bar) (a : Nat) : leadsIn n K a (heldL n K a) = leadsOf n K a := by
  unfold leadsIn leadsOf
  rw [parts_walk]
open Classical in
theorem leadsIn_yes {n : Nat} {K : List Fr.Bar} {a b : Nat} (l : List Nat) (h : Fr.Ld n K a b) : leadsIn n K a (l ++ [b]) = leadsIn n K a l ++ [(a, b)] := by
  unfold leadsIn
  rw [List.filter_append, List.map_append, List.filter_cons, if_pos (decide_eq_true h)]
  rfl
open Classical in
theorem leadsIn_no {n : Nat} {K : List Fr.Bar} {a b : Nat} (l : List Nat) (h : ¬ Fr.Ld n K a b) : leadsIn n K a (l ++ [b]) = leadsIn n K a l := by
  unfold leadsIn
  rw [List.filter_append, List.map_append, List.filter_cons, if_neg (by rw [decide_eq_true_eq]; exact h)]
  simp
def heldD (n : Nat) (l : List (List Nat)) : D := .lst (l.map rowD)

section
variable {P : Program} {w : World} {K : PySem.W.Frag} {mg : Str → Option Value} {base : Heap}
theorem ok_parts {f : Addr} {fd : FuncData} (F : FnP K "parts" s_parts f fd) (g : mg "parts" = some (.ref f)) (M : Mods K mg) (C_checked : Cal P w K mg base CX0 4 "checked" ["count", "bars"] (spF K R_checked)) (C_held_by_each : Cal P w K mg base CX0 5 "held_by_each" ["count", "carried"] (spG K R_held_by_each)) (C_carrying : Cal P w K mg base CX0 6 "carrying" ["count", "rows"] (spG K R_carrying)) : Cal P w K mg base CX0 7 "parts" ["count", "bars"] (spG K R_parts) := by
  refine ⟨f, fd, F.ok sc_parts (spG_len fun _ _ _ _ r => by cases r <;> rfl) (fun cdv A outer s H vs Q E hr h => ?_), g, F.kp, F.bindsN fun _ _ _ _ _ _ us hl => match us, hl with | [_, _], _ => rfl⟩
  have hu := hr.units
  refine ⟨_, PSs.nox (pss_cons (ps_set (i := 2) sc_parts.nd rfl (Or.inl rfl) (pe_cal C_checked hr (by decide) pass0 (pa_cons (pv 0) (pa_cons (pv 1) pa_nil))))
      (pss_cons (ps_set (i := 3) sc_parts.nd rfl (Or.inr rfl) (pe_cal C_held_by_each hr (by decide) pass0 (pa_cons (pv 0) (pa_cons (pe_cal C_carrying hr (by decide) pass0 (pa_cons (pv 0) (pa_cons (pv 2) pa_nil))) pa_nil))))
      (pss_cons (ps_set (i := 4) sc_parts.nd rfl (Or.inl rfl) (pe_lst pa_nil))
      (pss_cons (ps_for PassesOwn.never rfl (pi_range1 (by rfl) M.m_range (pa_cons (pv 0) pa_nil)) (pg_name (i := 5) sc_parts.nd rfl (Or.inl rfl)) (pss_one (ps_for PassesOwn.never rfl (ok_ilist (K := K) rfl (pe_ix (ok_ix (K := K) rfl) (pv 3) (pv 5) (fun _ _ => rfl))) (pg_name (i := 6) sc_parts.nd rfl (Or.inr rfl)) (pss_cons (ps_setLc (i := 7) (own := [("joint", 8)]) (g := (gName 8)) (tt := _) rfl sc_parts.nd rfl rfl (sw_true rfl rfl rfl (by decide +kernel)) (ok_ilist (K := K) rfl (pe_ix (ok_ix (K := K) rfl) (pv 3) (pv 5) (fun _ _ => rfl))) (blkOk_by (N := ["count", "bars", "rows", "held", "found", "one", "other", "part", "joint"]) (sc := defScope s_parts) (by decide +kernel)) (fun _ _ _ _ _ => (pg_name (i := 8) sc_parts.nd rfl (Or.inl rfl))) (fun _ _ _ _ _ => (pts_one (pt_cmpR (ok_in (K := K) rfl) (pv 8) (pe_ix (ok_ix (K := K) rfl) (pv 3) (pv 6) (fun _ _ => rfl)) (by with_unfolding_all rfl)))) (fun _ _ _ _ _ => (pv 8)))
      (pss_one (ps_if (pt_cmpR (ok_eq (K := K) rfl hu) (pe_slice (ok_sl (K := K) rfl) (pv 7) po_none (po_some pe_int)) (pe_lst (pa_cons (pv 5) (pa_cons (pv 6) pa_nil))) (nomark _)) (pss_one (ps_expr (pe_bm PySem.F.plainAttrs_list PySem.F.slot_list_append PySem.F.type_list_append mt_append (pv 4) (pa_cons (pv 7) pa_nil)))) pss_nil))))))
      (pss_one (ps_ret (pv 4))))))), ?_⟩
  refine TM.fin (K := K) h fun ds g r g1 rel => ?_
  cases rel with | mk n nb h1 h2 ok hl =>
  refine TM.seq (ρ1 := [.k (.int (n : Int)), .k (.lst (brs nb)), .k (.lst (brs nb)), .u, .u, .u, .u, .u, .u]) (g1 := [])
    (TM.of (T.asg (EvF.data (ev_callF (ea_cons (ev_var rfl) (ea_cons (ev_var rfl) ea_nil)) (.good (n : Int) (nb.map bI) (by omega) (by omega) (by rw [List.length_map]; exact hl) fun x hx => ?_))) ⟨rfl, rfl⟩)) ?_
  · obtain ⟨c, hc, rfl⟩ := List.mem_map.mp hx
    obtain ⟨o1, o2, o3⟩ := ok c hc
    exact ⟨by unfold bI; omega, by unfold bI; omega, by unfold bI; omega, by unfold bI; omega, by unfold bI; omega⟩
  obtain ⟨ft, sl⟩ := Fr.kept_spec ok
  have ec := (Fr.chosen_spec ok).2
  have okk := Fr.basis_ok ok
  rw [ec] at ft sl
  have hcs := ft.len
  unfold partsL
  refine TM.seq (ρ1 := [.k (.int (n : Int)), .k (.lst (brs nb)), .k (.lst (brs nb)), .k (.lst ((List.range n).map fun x => rowD (heldL n (Fr.pickB n [] nb) x))), .u, .u, .u, .u, .u]) (g1 := [])
    (TM.asgX (ex_callA (g' := []) (xa_d (ev_var rfl) (xa_t (ex_call (g1 := []) (g2 := []) (List.Perm.refl _) (ea_cons (ev_var rfl) (ea_cons (ev_var rfl) ea_nil)) (.mk n nb h2 ok)) fun p => xa_of ea_nil)) ?_) eg_name ⟨rfl, rfl⟩) ?_
  · rintro ds x ⟨l, rfl, p, l2, rfl, rfl, rfl⟩
    exact ⟨_, [], [], [], List.Perm.refl _, R_held_by_each.mk n p _ (Fr.pickB n [] nb) h2 ft okk sl, List.Perm.refl _⟩
  generalize Fr.pickB n [] nb = kb at *
  refine TM.seq (ρ1 := [.k (.int (n : Int)), .k (.lst (brs nb)), .k (.lst (brs nb)), .k (.lst ((List.range n).map fun x => rowD (heldL n kb x))), .o [], .u, .u, .u, .u]) (g1 := []) (TM.of (T.asgF (es := []) (EvF.to (ev_lst ea_nil (Nat.zero_le _)) rfl) ⟨rfl, rfl⟩)) ?_
  have heldAt : ∀ x : Nat, x < n → atI ((List.range n).map fun x => rowD (heldL n kb x)) (x : Int) = some (rowD (heldL n kb x)) := fun x hx => atI_nat (by rw [List.getElem?_map, List.getElem?_range hx]; rfl)
  refine TM.seqP (N := fun r x => (∃ s5 s6 s7, r = [.k (.int (n : Int)), .k (.lst (brs nb)), .k (.lst (brs nb)), .k (.lst ((List.range n).map fun x => rowD (heldL n kb x))), .o (((Fr.ldrs n kb).map (partL n kb)).map rowD), s5, s6, s7, .u]) ∧ x = [])
    (TM.of (T.for (ds := rngD 0 ((n : Nat) : Int).toNat 1) (ei_rng1 (ea_cons (ev_var rfl) ea_nil) ⟨by omega, by omega⟩) (fun i r => ∃ s5 s6 s7, r = [.k (.int (n : Int)), .k (.lst (brs nb)), .k (.lst (brs nb)), .k (.lst ((List.range n).map fun x => rowD (heldL n kb x))), .o (((leadsTo n kb i).map (partL n kb)).map rowD), s5, s6, s7, .u] ∧ (leadsTo n kb i).length ≤ 16 * i)
      ⟨.u, .u, .u, rfl, Nat.le_refl _⟩ ?_ ?_)) ?_
  · rintro a d r hd ⟨s5, s6, s7, rfl, hln⟩
    obtain ⟨ha, rfl⟩ := rngD_get0 hd
    rw [Int.toNat_natCast] at ha
    refine ⟨_, eg_name, ?_⟩
    have lim := heldL_len n kb a
    refine T.for (ds := nD (heldL n kb a)) (ei_list (ev_op (ev_var rfl) (ev_var rfl) (rv_ixL (heldAt a ha)))) (fun j r => ∃ s6 s7, r = [.k (.int (n : Int)), .k (.lst (brs nb)), .k (.lst (brs nb)), .k (.lst ((List.range n).map fun x => rowD (heldL n kb x))), .o (((leadsTo n kb a ++ leadsIn n kb a ((heldL n kb a).take j)).map (partL n kb)).map rowD), .k (.int (a : Int)), s6, s7, .u] ∧ (leadsTo n kb a ++ leadsIn n kb a ((heldL n kb a).take j)).length ≤ 16 * a + j)
      ⟨s6, s7, by rw [List.take_zero]; show _ = _; unfold leadsIn; rw [List.filter_nil, List.map_nil, List.append_nil]; rfl, by rw [List.take_zero]; unfold leadsIn; rw [List.filter_nil, List.map_nil, List.append_nil]; exact hln⟩ ?_ ?_
    · rintro j d r hd ⟨s6, s7, rfl, hl2⟩
      have hj : j < (heldL n kb a).length := by
        have z := (List.getElem?_eq_some_iff.mp hd).1
        unfold nD at z
        rwa [List.length_map] at z
      have hm : (heldL n kb a)[j] ∈ heldL n kb a := List.getElem_mem hj
      have tk : (heldL n kb a).take (j + 1) = (heldL n kb a).take j ++ [(heldL n kb a)[j]] := (List.take_append_getElem hj).symm
      have ed : d = .int ((heldL n kb a)[j] : Int) := by
        unfold nD at hd
        rw [List.getElem?_map, List.getElem?_eq_getElem hj] at hd
        exact (Option.some.inj hd).symm
      subst ed
      rw [tk]
      generalize (heldL n kb a)[j] = b at hm tk
      obtain ⟨hbn, _⟩ := heldL_mem.mp hm
      have hf := lead_first ha hm
      refine ⟨_, eg_name, ?_⟩
      refine T.seq (ρ1 := [.k (.int (n : Int)), .k (.lst (brs nb)), .k (.lst (brs nb)), .k (.lst ((List.range n).map fun x => rowD (heldL n kb x))), .o (((leadsTo n kb a ++ leadsIn n kb a ((heldL n kb a).take j)).map (partL n kb)).map rowD), .k (.int (a : Int)), .k (.int (b : Int)), .k (rowD (bothL n (heldL n kb a) (heldL n kb b))), .u])
        (T.asg (d := rowD (bothL n (heldL n kb a) (heldL n kb b))) (EvF.data (EvF.to (evF_lc (ds := nD (heldL n kb a)) (ei_list (ev_op (ev_var rfl) (ev_var rfl) (rv_ixL (heldAt a ha)))) (fun d => [(8, d)]) (fun d => decide (numI d ∈ kI (heldL n kb b))) id (fun d _ => eg_name) (fun d _ p hp => by rw [List.mem_singleton.mp hp]; simp) (fun d hd => ?_) (fun d hd _ => ?_) (by unfold nD; rw [List.length_map]; omega)) ?_)) rfl) ?_
      · obtain ⟨k, hk, rfl⟩ := List.mem_map.mp hd
        refine et_test (ev_op (ev_var rfl) (EvD.to (d := rowD (heldL n kb b)) (ev_op (ev_var rfl) (ev_var rfl) (rv_ixL (heldAt b hbn))) ?_) rv_inL)
        show D.lst (nD _) = D.lst _
        unfold nD kI
        rw [List.map_map]
        rfl
      · obtain ⟨k, hk, rfl⟩ := List.mem_map.mp hd
        exact ev_var rfl
      · unfold nD bothL
        rw [List.map_id, List.filter_map]
        congr 1
        refine List.filter_congr fun k _ => ?_
        show decide ((k : Int) ∈ kI (heldL n kb b)) = decide (k ∈ heldL n kb b)
        exact decide_eq_decide.mpr kI_mem
      · generalize hB : bothL n (heldL n kb a) (heldL n kb b) = B at hf
        refine T.ifS (b := decide (kI (B.take 2) = [(a : Int), (b : Int)])) (et_test (ev_op (x := .lst ((kI (B.take 2)).map D.int)) (y := .lst ([(a : Int), (b : Int)].map D.int)) (EvF.data (EvF.to (ev_slL (ds := nD B) (lo := none) (hi := some ((2 : Nat) : Int)) (ev_var rfl) eo_no (eo_some ev_int)) ?_)) (EvF.data (ev_lst (ea_cons (ev_var rfl) (ea_cons (ev_var rfl) ea_nil)) (Nat.le_of_ble_eq_true rfl))) rv_eqInts)) (fun hb => ?_) (fun hb => ?_)
        · rw [cut_to]
          unfold nD kI
          rw [List.map_map, ← List.map_take]
          rfl
        · have hb := of_decide_eq_true hb
          have hL : Fr.Ld n kb a b := hf.mp (by
            have hb : (B.take 2).map (fun k : Nat => (k : Int)) = [a, b].map (fun k : Nat => (k : Int)) := hb
            exact (List.map_inj_right fun x y h => by omega).mp hb)
          have eB : B = partL n kb (a, b) := by rw [← hB]; exact both_part hm (by have := hL.1; omega) ha
          rw [leadsIn_yes _ hL, ← List.append_assoc]
          refine T.append (i := 4) (d := rowD B) rfl (ev_var rfl) (by rw [List.length_map, List.length_map]; omega) ⟨.k (.int (b : Int)), .k (rowD B), ?_, by rw [List.length_append, List.length_singleton]; omega⟩
          rw [eB]
          simp only [List.map_append]
          rfl
        · have hb := of_decide_eq_false hb
          have hL : ¬ Fr.Ld n kb a b := fun z => hb (by
            rw [hf.mpr z]
            rfl)
          rw [leadsIn_no _ hL]
          exact T.next ⟨_, _, rfl, by omega⟩
    · rintro r ⟨s6, s7, rfl, hl2⟩
      have e : (nD (heldL n kb a)).length = (heldL n kb a).length := by unfold nD; rw [List.length_map]
      rw [e, List.take_length, leadsIn_all, ← leadsTo_succ] at hl2 ⊢
      exact ⟨_, _, _, rfl, by omega⟩
  · rintro r ⟨s5, s6, s7, rfl, _⟩
    rw [rngD_len, Int.toNat_natCast, leadsTo_all]
    exact ⟨⟨_, _, _, rfl⟩, rfl⟩
  · rintro r x ⟨⟨s5, s6, s7, rfl⟩, rfl⟩
    exact TM.retO rfl ⟨rfl, [], List.Perm.refl _⟩
end
/-! ### is_stiff -/
abbrev s_is_stiff : Stmt := top 30
theorem sc_is_stiff : FnScope ["count", "bars", "many"] ["count", "bars"] (defScope s_is_stiff) := ⟨rfl, rfl, rfl, by decide +kernel, rfl, by decide +kernel, by decide +kernel⟩
noncomputable def stiffB (n : Nat) (nb : List Fr.Bar) : Bool := decide (n = 1) || decide (Fr.rk n nb + 3 = 2 * n)
inductive R_is_stiff : List D → Gs → Rs → Gs → Prop
  | mk (n : Nat) (nb : List Fr.Bar) (h1 : 1 ≤ n) (h2 : n ≤ 16) (ok : Fr.Ok n nb) (hl : nb.length ≤ 60) : R_is_stiff [.int (n : Int), .lst (brs nb)] [] (.d (.bl (stiffB n nb))) []

section
variable {P : Program} {w : World} {K : PySem.W.Frag} {mg : Str → Option Value} {base : Heap}
theorem ok_is_stiff {f : Addr} {fd : FuncData} (F : FnP K "is_stiff" s_is_stiff f fd) (g : mg "is_stiff" = some (.ref f)) (M : Mods K mg) (C_worth : Cal P w K mg base CX0 7 "worth" ["count", "bars"] (spG K R_worth)) : Cal P w K mg base CX0 8 "is_stiff" ["count", "bars"] (spG K R_is_stiff) := by
  refine ⟨f, fd, F.ok sc_is_stiff (spG_len fun _ _ _ _ r => by cases r <;> rfl) (fun cdv A outer s H vs Q E hr h => ?_), g, F.kp, F.bindsN fun _ _ _ _ _ _ us hl => match us, hl with | [_, _], _ => rfl⟩
  have hu := hr.units
  refine ⟨_, PSs.nox (pss_cons (ps_set (i := 2) sc_is_stiff.nd rfl (Or.inl rfl) (pe_cal C_worth hr (by decide) pass0 (pa_cons (pv 0) (pa_cons (pv 1) pa_nil))))
      (pss_one (ps_ret (pe_or (pe_cmpR (ok_eq (K := K) rfl hu) (pv 0) pe_int (nomark _)) (pe_one (pe_cmpR (ok_eq (K := K) rfl hu) (pv 2) (pe_op op_sub (pe_op op_mul pe_int (pv 0)) pe_int) (nomark _))))))), ?_⟩
  refine TM.fin (K := K) h fun ds g r g1 rel => ?_
  cases rel with | mk n nb h1 h2 ok hl =>
  have W0 := R_worth.mk n nb h1 h2 ok hl
  rw [(Fr.chosen_spec ok).1, Fr.pickB_len] at W0
  refine TM.seq (ρ1 := [.k (.int (n : Int)), .k (.lst (brs nb)), .k (.int (Fr.rk n nb : Int))]) (g1 := []) (TM.of (T.asg (ev_callG (ea_cons (ev_var rfl) (ea_cons (ev_var rfl) ea_nil)) W0) ⟨rfl, rfl⟩)) ?_
  refine TM.ret (d := .bl (decide ((n : Int) = 1) || decide ((Fr.rk n nb : Int) = 2 * (n : Int) - 3))) (ev_or (ev_op (ev_var rfl) ev_int rv_eqI) fun _ => ev_op (ev_var rfl) (ev_op (ev_op ev_int (ev_var rfl) (rv_mul ?_)) ev_int rv_sub) rv_eqI) ⟨?_, [], List.Perm.refl _⟩
  · exact .inl ⟨by omega, by omega⟩
  · unfold stiffB
    rw [show (decide ((n : Int) = 1)) = decide (n = 1) from decide_eq_decide.mpr (by omega), show (decide ((Fr.rk n nb : Int) = 2 * (n : Int) - 3)) = decide (Fr.rk n nb + 3 = 2 * n) from decide_eq_decide.mpr (by omega)]
end
/-! ### tied -/
abbrev s_tied : Stmt := top 34
theorem sc_tied : FnScope ["count", "rows", "order", "carried", "laid", "knots", "number", "one", "other", "crowd", "at"] ["count", "rows", "order"] (defScope s_tied) := ⟨rfl, rfl, rfl, by decide +kernel, rfl, by decide +kernel, by decide +kernel⟩
inductive R_tied : List D → Gs → Rs → Gs → Prop
  | mk (n : Nat) (nb : List Fr.Bar) (os : List Nat) (h2 : n ≤ 16) (ok : Fr.Ok n nb) (hl : nb.length ≤ 60) (ho : ∀ i ∈ os, i < nb.length) (nd : os.Nodup) : R_tied [.int (n : Int), .lst (brs nb), .lst (nD os)] [] (.t (tiedM (Fr.tiedL nb (List.replicate n []) os []))) []
def tiF (i : Nat) (laid : List Nat) : D → Bool
  | .int k => decide (k = (i : Int)) || decide (k ∈ kI laid)
  | _ => false
theorem knot_eq (nb : List Fr.Bar) (ks : List Nat) (i : Nat) (laid : List Nat) : (((amongL (nb.map bI) (kI (sortN ks))).map D.int).filter (tiF i laid)).map id = nD (Fr.knotL nb ks i laid) := by
  unfold amongL Fr.knotL nD
  rw [List.map_id, List.map_map, List.length_map, List.filter_map, List.filter_filter]
  refine congrArg _ (List.filter_congr fun a _ => ?_)
  rw [getD_bI]
  have e : ∀ x : Nat, decide ((x : Int) ∈ kI (sortN ks)) = decide (x ∈ ks) := fun x => decide_eq_decide.mpr (by rw [kI_mem, (sortN_perm ks).mem_iff])
  show ((decide ((a : Int) = (i : Int)) || decide ((a : Int) ∈ kI laid)) && (decide (((nb.getD a (0, 0)).1 : Int) ∈ kI (sortN ks)) && decide (((nb.getD a (0, 0)).2 : Int) ∈ kI (sortN ks)))) = _
  have e1 : decide ((a : Int) = (i : Int)) = decide (a = i) := decide_eq_decide.mpr (by omega)
  have e2 : decide ((a : Int) ∈ kI laid) = decide (a ∈ laid) := decide_eq_decide.mpr kI_mem
  rw [e, e, e1, e2, Bool.and_comm]
  rfl

section
variable {P : Program} {w : World} {K : PySem.W.Frag} {mg : Str → Option Value} {base : Heap}
theorem ok_tied {f : Addr} {fd : FuncData} (F : FnP K "tied" s_tied f fd) (g : mg "tied" = some (.ref f)) (M : Mods K mg) (C_bare : Cal P w K mg base CX0 1 "bare" ["count"] (spG K R_bare)) (C_lay : Cal P w K mg base CX0 5 "lay" ["carried", "one", "other"] (spG K R_lay)) (C_among : Cal P w K mg base CX0 1 "among" ["bars", "joints"] (spF K R_among)) : Cal P w K mg base CX0 6 "tied" ["count", "rows", "order"] (spG K R_tied) := by
  refine ⟨f, fd, F.ok sc_tied (spG_len fun _ _ _ _ r => by cases r <;> rfl) (fun cdv A outer s H vs Q E hr h => ?_), g, F.kp, F.bindsN fun _ _ _ _ _ _ us hl => match us, hl with | [_, _, _], _ => rfl⟩
  have hu := hr.units
  refine ⟨_, PSs.nox (pss_cons (ps_set (i := 3) sc_tied.nd rfl (Or.inl rfl) (pe_cal C_bare hr (by decide) pass0 (pa_cons (pv 0) pa_nil)))
      (pss_cons (ps_set (i := 4) sc_tied.nd rfl (Or.inr rfl) (pe_lst pa_nil))
      (pss_cons (ps_set (i := 5) sc_tied.nd rfl (Or.inl rfl) pe_dnewK)
      (pss_cons (ps_for PassesOwn.never rfl (ok_ilist (K := K) rfl (pv 2)) (pg_name (i := 6) sc_tied.nd rfl (Or.inr rfl)) (pss_cons (ps_asg (pe_ix (ok_ix (K := K) rfl) (pv 1) (pv 6) (fun _ _ => rfl)) (ok_tup (K := K) rfl rfl (pgs_cons (pg_name (i := 7) sc_tied.nd rfl (Or.inl rfl)) (pgs_cons (pg_name (i := 8) sc_tied.nd rfl (Or.inl rfl)) pgs_nil))))
      (pss_cons (ps_set (i := 9) sc_tied.nd rfl (Or.inl rfl) (pe_cal C_lay hr (by decide) pass0 (pa_cons (pv 3) (pa_cons (pv 7) (pa_cons (pv 8) pa_nil)))))
      (pss_one (ps_if (pt_cmpR op_isN (pv 9) pe_non (nomark _)) (pss_one (ps_expr (pe_bm PySem.F.plainAttrs_list PySem.F.slot_list_append PySem.F.type_list_append mt_append (pv 4) (pa_cons (pv 6) pa_nil)))) (pss_one (ps_dput (lt1 hu) (pv 5) (pv 6) (pe_lc (own := [("at", 10)]) (g := (gName 10)) (tt := _) rfl sc_tied.nd (ok_ilist (K := K) rfl (pe_cal C_among hr (by decide) pass0 (pa_cons (pv 1) (pa_cons (pv 9) pa_nil)))) (blkOk_by (N := ["count", "rows", "order", "carried", "laid", "knots", "number", "one", "other", "crowd", "at"]) (sc := defScope s_tied) (by decide +kernel)) (fun _ _ _ _ _ => (pg_name (i := 10) sc_tied.nd rfl (Or.inl rfl))) (fun _ _ _ _ _ => (pts_one (PW.pt (pw_or (pt_cmpR (ok_eq (K := K) rfl hu) (pv 10) (pv 6) (nomark _)) (pw_or1 (pt_cmpR (ok_in (K := K) rfl) (pv 10) (pv 4) (by with_unfolding_all rfl))))))) (fun _ _ _ _ _ => (pv 10))) rfl)))))))
      (pss_one (ps_ret (pv 5))))))), ?_⟩
  refine TM.fin (K := K) h fun ds g r g1 rel => ?_
  cases rel with | mk n nb os h2 ok hl ho nd =>
  refine TM.seqP (N := fun r x => ∃ p, r = [.k (.int (n : Int)), .k (.lst (brs nb)), .k (.lst (nD os)), .k (.adr p), .u, .u, .u, .u, .u, .u, .u] ∧ x = [(p, gridM (List.replicate n []))])
    (TM.asgN (ex_call (g1 := []) (g2 := []) (List.Perm.refl _) (ea_cons (ev_var rfl) ea_nil) (.mk n h2)) fun p => ⟨p, rfl, rfl⟩) ?_
  rintro r x ⟨p, rfl, rfl⟩
  refine TM.seq (ρ1 := [.k (.int (n : Int)), .k (.lst (brs nb)), .k (.lst (nD os)), .k (.adr p), .o (nD []), .u, .u, .u, .u, .u, .u]) (g1 := [(p, gridM (List.replicate n []))]) (TM.of (T.asgF (es := []) (EvF.to (ev_lst ea_nil (Nat.zero_le _)) rfl) ⟨rfl, rfl⟩)) ?_
  refine TM.seqP (N := fun r x => ∃ q, r = [.k (.int (n : Int)), .k (.lst (brs nb)), .k (.lst (nD os)), .k (.adr p), .o (nD []), .k (.adr q), .u, .u, .u, .u, .u] ∧ x = [(p, gridM (List.replicate n [])), (q, tiedM [])])
    (TM.asgN (EvX.ofM em_dnew) fun q => ⟨q, rfl, rfl⟩) ?_
  rintro r x ⟨q, rfl, rfl⟩
  refine TM.perm (List.Perm.swap _ _ _) ?_
  refine TM.seqP (N := fun r x => ∃ cs s4 s6 s7 s8 s9, r = [.k (.int (n : Int)), .k (.lst (brs nb)), .k (.lst (nD os)), .k (.adr p), s4, .k (.adr q), s6, s7, s8, s9, .u] ∧ x = [(q, tiedM (Fr.tiedL nb (List.replicate n []) os [])), (p, gridM cs)])
    (TM.for (ds := nD os) (ei_list (ev_var rfl)) (fun i r x => ∃ cs laid done s6 s7 s8 s9, (r = [.k (.int (n : Int)), .k (.lst (brs nb)), .k (.lst (nD os)), .k (.adr p), .o (nD laid), .k (.adr q), s6, s7, s8, s9, .u] ∧ x = [(q, tiedM done), (p, gridM cs)]) ∧ Fr.Fits n cs (laid.map (Fr.barAt nb)) ∧ Fr.Slim n (laid.map (Fr.barAt nb)) ∧ (∀ a ∈ laid, a < nb.length) ∧ laid.length ≤ i ∧ done.length ≤ i ∧ (∀ e ∈ done, e.1 ∉ os.drop i) ∧ done ++ Fr.tiedL nb cs (os.drop i) laid = Fr.tiedL nb (List.replicate n []) os [])
      ⟨_, [], [], .u, .u, .u, .u, ⟨rfl, rfl⟩, fits_bare n, slim_nil n, (fun _ h => (nomatch h)), Nat.zero_le _, Nat.zero_le _, (fun _ h => (nomatch h)), rfl⟩ ?_ ?_) ?_
  · rintro i d r x hd ⟨cs, laid, done, s6, s7, s8, s9, ⟨rfl, rfl⟩, ft, sl, hlaid, ll, ld, hnew, he⟩
    have hi : i < os.length := by
      have z := (List.getElem?_eq_some_iff.mp hd).1
      rwa [nD_len] at z
    have ed : d = .int (os[i] : Int) := by
      unfold nD at hd
      rw [List.getElem?_map, List.getElem?_eq_getElem hi] at hd
      exact (Option.some.inj hd).symm
    subst ed
    have dr : os.drop i = os[i] :: os.drop (i + 1) := List.drop_eq_getElem_cons hi
    have hm : os[i] ∈ os := List.getElem_mem hi
    have nd2 : os[i] ∉ os.drop (i + 1) := by
      have := nd.sublist (List.drop_sublist i os)
      rw [dr] at this
      exact (List.nodup_cons.mp this).1
    have osl : os.length ≤ nb.length := Fr.small_len nd ho
    rw [dr] at he hnew
    generalize os[i] = j at hm nd2 he hnew
    have hj := ho j hm
    have o := ok _ (Fr.barAt_mem hj)
    have okl := Fr.barAt_ok ok hlaid
    have l1 := ft.len
    have hs := Fr.lay_slim (b := Fr.barAt nb j) ft okl sl o
    have hg : atI (brs nb) (j : Int) = some (barD (bI (Fr.barAt nb j))) := atI_nat (brs_get hj)
    have R0 := R_lay.mk p cs (laid.map (Fr.barAt nb)) (Fr.barAt nb j).1 (Fr.barAt nb j).2 (by omega) (by omega) (by omega) (by rw [l1]; exact ft)
    refine ⟨_, eg_name, ?_⟩
    refine TM.seq (ρ1 := [.k (.int (n : Int)), .k (.lst (brs nb)), .k (.lst (nD os)), .k (.adr p), .o (nD laid), .k (.adr q), .k (.int (j : Int)), .k (.int ((Fr.barAt nb j).1 : Int)), .k (.int ((Fr.barAt nb j).2 : Int)), s9, .u]) (g1 := [(q, tiedM done), (p, gridM cs)])
      (TM.of (T.asgG (d := barD (bI (Fr.barAt nb j))) (ev_op (ev_var rfl) (ev_var rfl) (rv_ixL hg)) (eg_tup (egs_cons eg_name (egs_cons eg_name egs_nil)) rfl) ⟨rfl, rfl⟩)) ?_
    cases hy : (Fr.lay cs (Fr.barAt nb j).1 (Fr.barAt nb j).2).2 with
    | none =>
      rw [hy] at R0
      rw [Fr.tiedL_none hy] at he
      obtain ⟨f1, f2⟩ := Fr.lay_yes ft okl sl o.1 o.2.1 o.2.2 (Prod.ext rfl hy : Fr.lay cs (Fr.barAt nb j).1 (Fr.barAt nb j).2 = ((Fr.lay cs (Fr.barAt nb j).1 (Fr.barAt nb j).2).1, none))
      refine TM.seq (ρ1 := [.k (.int (n : Int)), .k (.lst (brs nb)), .k (.lst (nD os)), .k (.adr p), .o (nD laid), .k (.adr q), .k (.int (j : Int)), .k (.int ((Fr.barAt nb j).1 : Int)), .k (.int ((Fr.barAt nb j).2 : Int)), .k .non, .u]) (g1 := [(q, tiedM done), (p, gridM (Fr.lay cs (Fr.barAt nb j).1 (Fr.barAt nb j).2).1)])
        (TM.asgX (d := .non) (ex_call (g1 := [(p, gridM cs)]) (g2 := [(q, tiedM done)]) (List.Perm.swap _ _ _) (ea_cons (ev_var rfl) (ea_cons (ev_var rfl) (ea_cons (ev_var rfl) ea_nil))) R0) eg_name ⟨rfl, rfl⟩) ?_
      refine TM.ifX (b := true) (EvXT.of (et_test (ev_op (ev_var rfl) ev_non (rv_isN (by simp))))) (fun _ => ?_) (fun hb => by cases hb)
      have e : (laid ++ [j]).map (Fr.barAt nb) = laid.map (Fr.barAt nb) ++ [Fr.barAt nb j] := by rw [List.map_append]; rfl
      refine TM.of (T.append (i := 4) (d := .int (j : Int)) rfl (ev_var rfl) (by rw [nD_len]; omega) ⟨_, laid ++ [j], done, _, _, _, _, ⟨by rw [← nD_snoc]; rfl, rfl⟩, by rw [e]; exact f1, by rw [e]; exact f2, fun a ha => ?_, by rw [List.length_append, List.length_singleton]; omega, by omega, fun c hc z => hnew c hc (List.mem_cons_of_mem _ z), he⟩)
      rcases List.mem_append.mp ha with ha | ha
      · exact hlaid a ha
      · rw [List.mem_singleton.mp ha]; exact hj
    | some ks =>
      rw [hy] at R0
      rw [Fr.tiedL_some hy] at he
      have f1 := Fr.lay_fits_no ft o.1 o.2.1 hy
      refine TM.seq (ρ1 := [.k (.int (n : Int)), .k (.lst (brs nb)), .k (.lst (nD os)), .k (.adr p), .o (nD laid), .k (.adr q), .k (.int (j : Int)), .k (.int ((Fr.barAt nb j).1 : Int)), .k (.int ((Fr.barAt nb j).2 : Int)), .o ((kI (sortN ks)).map D.int), .u]) (g1 := [(q, tiedM done), (p, gridM (Fr.lay cs (Fr.barAt nb j).1 (Fr.barAt nb j).2).1)])
        (TM.asgO (ex_call (g1 := [(p, gridM cs)]) (g2 := [(q, tiedM done)]) (List.Perm.swap _ _ _) (ea_cons (ev_var rfl) (ea_cons (ev_var rfl) (ea_cons (ev_var rfl) ea_nil))) R0) ⟨rfl, rfl⟩) ?_
      have vw : View [(q, tiedM done), (p, gridM (Fr.lay cs (Fr.barAt nb j).1 (Fr.barAt nb j).2).1)] [.k (.int (n : Int)), .k (.lst (brs nb)), .k (.lst (nD os)), .k (.adr p), .o (nD laid), .k (.adr q), .k (.int (j : Int)), .k (.int ((Fr.barAt nb j).1 : Int)), .k (.int ((Fr.barAt nb j).2 : Int)), .o ((kI (sortN ks)).map D.int), .u]
        [.k (.int (n : Int)), .k (.lst (brs nb)), .k (.lst (nD os)), .k (.adr p), .k (.lst (nD laid)), .k (.adr q), .k (.int (j : Int)), .k (.int ((Fr.barAt nb j).1 : Int)), .k (.int ((Fr.barAt nb j).2 : Int)), .k (.lst ((kI (sortN ks)).map D.int)), .u] := .same (.same (.same (.same (.own (.same (.same (.same (.same (.own (.same .nil))))))))))
      refine TM.ifX (b := false) (EvXT.look vw (et_test (ev_op (ev_var rfl) ev_non (rv_isN (by simp))))) (fun hb => by cases hb) fun _ => ?_
      have hkey : (j : Int) ∉ kI (done.map (·.1)) := fun z => by
        obtain ⟨c, hc, e⟩ := List.mem_map.mp (kI_mem.mp z)
        exact hnew c hc (by rw [e]; exact List.mem_cons_self)
      have al : ((amongL (nb.map bI) (kI (sortN ks))).map D.int).length ≤ 60 := by
        unfold amongL
        rw [List.length_map, List.length_map]
        exact Nat.le_trans (List.length_filter_le _ _) (by rw [List.length_range, List.length_map]; exact hl)
      have eK : D.lst (nD laid) = D.lst ((kI laid).map D.int) := by rw [nD_kI]
      refine TM.dputX (gl := []) (gr := [(p, gridM (Fr.lay cs (Fr.barAt nb j).1 (Fr.barAt nb j).2).1)]) (a := q) (m := tiedM done) (π := []) (ns := kI (done.map (·.1))) (ds := done.map fun p => D.lst (nD p.2)) (k := (j : Int)) (d := .lst (nD (Fr.knotL nb ks j laid)))
        (EvX.tell (EvX.lookF vw (EvF.to (evF_lc (ds := (amongL (nb.map bI) (kI (sortN ks))).map D.int) (ei_list (EvF.data (ev_callF (ea_cons (ev_var rfl) (ea_cons (ev_var rfl) ea_nil)) (.mk (nb.map bI) (kI (sortN ks)) (by rw [List.length_map]; omega))))) (fun d => [(10, d)]) (tiF j laid) id (fun d _ => eg_name) (fun d _ p hp => by rw [List.mem_singleton.mp hp]; simp) (fun d hd => ?_) (fun d hd _ => ?_) (by omega)) (knot_eq nb ks j laid)) (fun d hd => ?_)))
        (ep_var rfl) (ev_var rfl) rfl rfl hkey (by rw [kI_len, List.length_map]; omega) ⟨(Fr.lay cs (Fr.barAt nb j).1 (Fr.barAt nb j).2).1, laid, done ++ [(j, Fr.knotL nb ks j laid)], _, _, _, _, ⟨rfl, ?_⟩, f1, sl, hlaid, by omega, by rw [List.length_append, List.length_singleton]; omega, fun c hc z => ?_, by rw [← he, List.append_assoc]; rfl⟩
      · obtain ⟨k, hk, rfl⟩ := List.mem_map.mp hd
        exact et_or (et_test (ev_op (ev_var rfl) (ev_var rfl) rv_eqI)) fun _ => et_test (ev_op (ev_var rfl) (EvD.to (ev_var rfl) eK) rv_inL)
      · obtain ⟨k, hk, rfl⟩ := List.mem_map.mp hd
        exact ev_var rfl
      · obtain ⟨k, hk, rfl⟩ := List.mem_map.mp hd
        rfl
      · unfold tiedM kI
        simp only [List.map_append]
        rfl
      · rcases List.mem_append.mp hc with hc | hc
        · exact hnew c hc (List.mem_cons_of_mem _ z)
        · rw [List.mem_singleton.mp hc] at z
          exact nd2 z
  · rintro r x ⟨cs, laid, done, s6, s7, s8, s9, ⟨rfl, rfl⟩, _, _, _, _, _, _, he⟩
    rw [nD_len, List.drop_length] at he
    rw [Fr.tiedL_nil, List.append_nil] at he
    rw [he]
    exact ⟨_, _, _, _, _, _, rfl, rfl⟩
  · rintro r x ⟨cs, s4, s6, s7, s8, s9, rfl, rfl⟩
    exact TM.retT (g1 := [(p, gridM cs)]) (a := q) rfl (List.Perm.swap _ _ _) ⟨rfl, [(p, gridM cs)], List.Perm.refl _⟩
end
/-! ### knot -/
abbrev s_knot : Stmt := top 32
theorem sc_knot : FnScope ["count", "bars", "number", "rows", "ahead", "at"] ["count", "bars", "number"] (defScope s_knot) := ⟨rfl, rfl, rfl, by decide +kernel, rfl, by decide +kernel, by decide +kernel⟩
inductive R_knot : List D → Gs → Rs → Gs → Prop
  | mk (n : Nat) (nb : List Fr.Bar) (i : Nat) (h1 : 1 ≤ n) (h2 : n ≤ 16) (ok : Fr.Ok n nb) (hl : nb.length ≤ 60) (hi : i < nb.length) : R_knot [.int (n : Int), .lst (brs nb), .int (i : Int)] [] (.d (knotD n nb i)) []
theorem but_eq {m i : Nat} : nD (orderBut m i) = nD ((List.range m).filter fun a => !decide (a = i)) ++ nD [i] := by
  unfold orderBut nD
  rw [List.map_append]
theorem tied_get (l : List (Nat × List Nat)) (i : Nat) : (∃ j : Nat, (kI (l.map (·.1)))[j]? = some (i : Int) ∧ (∀ q : Nat, q < j → (kI (l.map (·.1)))[q]? ≠ some (i : Int)) ∧ (l.map fun p => D.lst (nD p.2))[j]? = some (match l.find? fun p => decide (p.1 = i) with | none => .non | some p => .lst (nD p.2))) ∨
    ((i : Int) ∉ kI (l.map (·.1)) ∧ (match l.find? fun p => decide (p.1 = i) with | none => D.non | some p => .lst (nD p.2)) = .non) := by
  induction l with
  | nil => exact .inr ⟨fun h => (nomatch h), rfl⟩
  | cons p l ih =>
    by_cases e : p.1 = i
    · refine .inl ⟨0, ?_, fun q hq => absurd hq (Nat.not_lt_zero _), ?_⟩
      · show some (p.1 : Int) = some (i : Int)
        rw [e]
      · rw [List.find?_cons, decide_eq_true e]
        rfl
    · have ef : (p :: l).find? (fun p => decide (p.1 = i)) = l.find? fun p => decide (p.1 = i) := by rw [List.find?_cons, decide_eq_false e]
      rw [ef]
      rcases ih with ⟨j, h1, h2, h3⟩ | ⟨h1, h2⟩
      · refine .inl ⟨j + 1, h1, fun q hq => ?_, h3⟩
        cases q with
        | zero =>
          intro z
          have z : some (p.1 : Int) = some (i : Int) := z
          have := Option.some.inj z
          omega
        | succ q => exact h2 q (by omega)
      · refine .inr ⟨fun z => ?_, h2⟩
        have z : (i : Int) ∈ (p.1 : Int) :: kI (l.map (·.1)) := z
        rcases List.mem_cons.mp z with z | z
        · omega
        · exact h1 z

section
variable {P : Program} {w : World} {K : PySem.W.Frag} {mg : Str → Option Value} {base : Heap}
theorem ok_knot {f : Addr} {fd : FuncData} (F : FnP K "knot" s_knot f fd) (g : mg "knot" = some (.ref f)) (M : Mods K mg) (C_checked : Cal P w K mg base CX0 4 "checked" ["count", "bars"] (spF K R_checked)) (C_is_number : Cal P w K mg base CX0 1 "is_number" ["value"] (spD K R_is_number)) (C_tied : Cal P w K mg base CX0 6 "tied" ["count", "rows", "order"] (spG K R_tied)) : Cal P w K mg base CX0 7 "knot" ["count", "bars", "number"] (spG K R_knot) := by
  refine ⟨f, fd, F.ok sc_knot (spG_len fun _ _ _ _ r => by cases r <;> rfl) (fun cdv A outer s H vs Q E hr h => ?_), g, F.kp, F.bindsN fun _ _ _ _ _ _ us hl => match us, hl with | [_, _, _], _ => rfl⟩
  have hu := hr.units
  refine ⟨_, PSs.nox (pss_cons (ps_set (i := 3) sc_knot.nd rfl (Or.inl rfl) (pe_cal C_checked hr (by decide) pass0 (pa_cons (pv 0) (pa_cons (pv 1) pa_nil))))
      (pss_cons (ps_if (PW.pt (pw_or (pt_not (pt_val (pe_cal C_is_number hr (by decide) pass0 (pa_cons (pv 2) pa_nil)))) (pw_or1 (pt_not (pt_chain op_le op_lt pe_int (pv 2) (pe_callB (ok_len (K := K) rfl) (by rfl) M.m_len (by decide +kernel) (pa_cons (pv 3) pa_nil))))))) (pss_one ps_never) pss_nil)
      (pss_cons (ps_setLc (i := 4) (own := [("at", 5)]) (g := (gName 5)) (tt := _) rfl sc_knot.nd rfl rfl (sw_true rfl rfl rfl (by decide +kernel)) (pi_range1 (by rfl) M.m_range (pa_cons (pe_callB (ok_len (K := K) rfl) (by rfl) M.m_len (by decide +kernel) (pa_cons (pv 3) pa_nil)) pa_nil)) (blkOk_by (N := ["count", "bars", "number", "rows", "ahead", "at"]) (sc := defScope s_knot) (by decide +kernel)) (fun _ _ _ _ _ => (pg_name (i := 5) sc_knot.nd rfl (Or.inl rfl))) (fun _ _ _ _ _ => (pts_one (pt_cmpR (ok_ne (K := K) rfl hu) (pv 5) (pv 2) (nomark _)))) (fun _ _ _ _ _ => (pv 5)))
      (pss_one (ps_ret (pe_dget1 (lt1 hu) (pe_cal C_tied hr (by decide) pass0 (pa_cons (pv 0) (pa_cons (pv 3) (pa_cons (pe_op (ok_plus (K := K) rfl) (pv 4) (pe_lst (pa_cons (pv 2) pa_nil))) pa_nil)))) (pv 2) ⟨rfl, rfl, rfl, rfl⟩)))))), ?_⟩
  refine TM.fin (K := K) h fun ds g r g1 rel => ?_
  cases rel with | mk n nb i h1 h2 ok hl hi =>
  refine TM.seq (ρ1 := [.k (.int (n : Int)), .k (.lst (brs nb)), .k (.int (i : Int)), .k (.lst (brs nb)), .u, .u]) (g1 := [])
    (TM.of (T.asg (EvF.data (ev_callF (ea_cons (ev_var rfl) (ea_cons (ev_var rfl) ea_nil)) (.good (n : Int) (nb.map bI) (by omega) (by omega) (by rw [List.length_map]; exact hl) fun x hx => ?_))) ⟨rfl, rfl⟩)) ?_
  · obtain ⟨c, hc, rfl⟩ := List.mem_map.mp hx
    obtain ⟨o1, o2, o3⟩ := ok c hc
    exact ⟨by unfold bI; omega, by unfold bI; omega, by unfold bI; omega, by unfold bI; omega, by unfold bI; omega⟩
  refine TM.guard (b := !true || !(decide ((0 : Int) ≤ (i : Int)) && decide ((i : Int) < ((brs nb).length : Int)))) (g' := []) (EvXT.of (et_or (et_not (et_B (ev_call (ea_cons (ev_var rfl) ea_nil) (.int (i : Int))))) fun _ => et_not (et_test (ev_chain ev_int (ev_var rfl) rv_le fun _ => ⟨.int ((brs nb).length : Int), ev_cb (ea_cons (ev_var rfl) ea_nil) rc_lenL, rv_lt⟩)))) (fun hb => ?_) fun _ => ?_
  · rw [brs_len, decide_eq_true (show (0 : Int) ≤ (i : Int) by omega), decide_eq_true (show (i : Int) < (nb.length : Int) by omega)] at hb
    cases hb
  refine TM.seq (ρ1 := [.k (.int (n : Int)), .k (.lst (brs nb)), .k (.int (i : Int)), .k (.lst (brs nb)), .k (.lst (nD ((List.range nb.length).filter fun a => !decide (a = i)))), .u]) (g1 := [])
    (TM.of (T.asg (EvF.data (EvF.to (evF_pick (n := nb.length) (f := fun a => !decide (a = i)) (ei_rng1 (j := (nb.length : Int)) (ea_cons (EvD.to (ev_cb (ea_cons (ev_var rfl) ea_nil) rc_lenL) (by rw [brs_len])) ea_nil) ⟨by omega, by omega⟩) (by simp) (by omega) (fun a ha => EvT.to (et_test (ev_op (ev_var rfl) (ev_var rfl) rv_neI)) ?_) (fun a ha => ev_var rfl)) ?_)) ⟨rfl, rfl⟩)) ?_
  · show (!decide ((a : Int) = (i : Int))) = _
    rw [decide_eq_decide.mpr (show (a : Int) = (i : Int) ↔ a = i by omega)]
  · unfold pick nD
    rw [List.map_map]
    rfl
  have pm := orderBut_perm hi
  refine TM.retX (EvX.dget1 (g' := []) (k := (i : Int)) (ns := kI ((Fr.tiedL nb (List.replicate n []) (orderBut nb.length i) []).map fun p : Nat × List Nat => p.1)) (ds := (Fr.tiedL nb (List.replicate n []) (orderBut nb.length i) []).map fun p : Nat × List Nat => D.lst (nD p.2)) (d := knotD n nb i)
    (ex_call (g1 := []) (g2 := []) (List.Perm.refl _) (ea_cons (ev_var rfl) (ea_cons (ev_var rfl) (ea_cons (EvF.data (EvF.to (ev_opF (x := .lst (nD ((List.range nb.length).filter fun a => !decide (a = i)))) (y := .lst (nD [i])) (ev_var rfl) (EvF.data (ev_lst (ea_cons (ev_var rfl) ea_nil) (Nat.le_of_ble_eq_true rfl))) (rvF_plus ?_)) but_eq.symm)) ea_nil))) (.mk n nb (orderBut nb.length i) h2 ok hl (fun a ha => List.mem_range.mp (pm.mem_iff.mp ha)) (pm.nodup_iff.mpr List.nodup_range)))
    (ev_var rfl) (tied_get _ i)) ⟨rfl, [], List.Perm.refl _⟩
  rw [nD_len, nD_len]
  have := List.length_filter_le (fun a => !decide (a = i)) (List.range nb.length)
  rw [List.length_range] at this
  show _ + 1 ≤ _
  omega
end
/-! ### too_many -/
abbrev s_too_many : Stmt := top 33
theorem sc_too_many : FnScope ["count", "bars", "rows", "knots", "found", "number"] ["count", "bars"] (defScope s_too_many) := ⟨rfl, rfl, rfl, by decide +kernel, rfl, by decide +kernel, by decide +kernel⟩
inductive R_too_many : List D → Gs → Rs → Gs → Prop
  | mk (n : Nat) (nb : List Fr.Bar) (h1 : 1 ≤ n) (h2 : n ≤ 16) (ok : Fr.Ok n nb) (hl : nb.length ≤ 60) : R_too_many [.int (n : Int), .lst (brs nb)] [] (.o (nD (manyL n nb))) []
def lstL : D → List D
  | .lst ds => ds
  | _ => []

section
variable {P : Program} {w : World} {K : PySem.W.Frag} {mg : Str → Option Value} {base : Heap}
theorem ok_too_many {f : Addr} {fd : FuncData} (F : FnP K "too_many" s_too_many f fd) (g : mg "too_many" = some (.ref f)) (M : Mods K mg) (C_checked : Cal P w K mg base CX0 4 "checked" ["count", "bars"] (spF K R_checked)) (C_tied : Cal P w K mg base CX0 6 "tied" ["count", "rows", "order"] (spG K R_tied)) : Cal P w K mg base CX0 7 "too_many" ["count", "bars"] (spG K R_too_many) := by
  refine ⟨f, fd, F.ok sc_too_many (spG_len fun _ _ _ _ r => by cases r <;> rfl) (fun cdv A outer s H vs Q E hr h => ?_), g, F.kp, F.bindsN fun _ _ _ _ _ _ us hl => match us, hl with | [_, _], _ => rfl⟩
  have hu := hr.units
  refine ⟨_, PSs.nox (pss_cons (ps_set (i := 2) sc_too_many.nd rfl (Or.inl rfl) (pe_cal C_checked hr (by decide) pass0 (pa_cons (pv 0) (pa_cons (pv 1) pa_nil))))
      (pss_cons (ps_set (i := 3) sc_too_many.nd rfl (Or.inl rfl) (pe_cal C_tied hr (by decide) pass0 (pa_cons (pv 0) (pa_cons (pv 2) (pa_cons (pe_listRg rfl (by rfl) M.m_list (prg_1 (by rfl) M.m_range (pe_callB (ok_len (K := K) rfl) (by rfl) M.m_len (by decide +kernel) (pa_cons (pv 2) pa_nil)))) pa_nil)))))
      (pss_one (ps_ret (pe_lock (pe_callB (ok_sset (w := w) rfl rfl) (by rfl) M.m_sorted (by decide +kernel) (pa_cons (Sc.pe_sc2 (w := w) (own := [("found", 4), ("number", 5)]) (vs1 := [5]) (g := (gName 4)) (g1 := (gName 5)) rfl rfl sc_too_many.nd (pi_values (pv 3)) (blkOk_by (N := ["count", "bars", "rows", "knots", "found", "number"]) (sc := defScope s_too_many) (by decide +kernel)) (by decide) (fun _ _ _ _ _ => (pg_name (i := 4) sc_too_many.nd rfl (Or.inl rfl))) (fun _ _ _ _ _ => (ok_ilist (K := K) rfl (pv 4))) (fun _ _ _ _ _ => (pg_name (i := 5) sc_too_many.nd rfl (Or.inl rfl))) (fun _ _ _ _ _ => (pv 5))) pa_nil))))))), ?_⟩
  refine TM.fin (K := K) h fun ds g r g1 rel => ?_
  cases rel with | mk n nb h1 h2 ok hl =>
  refine TM.seq (ρ1 := [.k (.int (n : Int)), .k (.lst (brs nb)), .k (.lst (brs nb)), .u, .u, .u]) (g1 := [])
    (TM.of (T.asg (EvF.data (ev_callF (ea_cons (ev_var rfl) (ea_cons (ev_var rfl) ea_nil)) (.good (n : Int) (nb.map bI) (by omega) (by omega) (by rw [List.length_map]; exact hl) fun x hx => ?_))) ⟨rfl, rfl⟩)) ?_
  · obtain ⟨c, hc, rfl⟩ := List.mem_map.mp hx
    obtain ⟨o1, o2, o3⟩ := ok c hc
    exact ⟨by unfold bI; omega, by unfold bI; omega, by unfold bI; omega, by unfold bI; omega, by unfold bI; omega⟩
  refine TM.seqP (N := fun r x => ∃ p, r = [.k (.int (n : Int)), .k (.lst (brs nb)), .k (.lst (brs nb)), .k (.adr p), .u, .u] ∧ x = [(p, tiedM (Fr.tiedL nb (List.replicate n []) (List.range nb.length) []))])
    (TM.asgN (ex_call (g1 := []) (g2 := []) (List.Perm.refl _) (ea_cons (ev_var rfl) (ea_cons (ev_var rfl) (ea_cons (EvF.data (EvF.to (evF_listRg (n := nb.length) (EvD.to (ev_cb (ea_cons (ev_var rfl) ea_nil) rc_lenL) (by rw [brs_len])) (by omega)) (nD_kI _).symm)) ea_nil))) (.mk n nb (List.range nb.length) h2 ok hl (fun a ha => List.mem_range.mp ha) List.nodup_range)) fun p => ⟨p, rfl, rfl⟩) ?_
  rintro r x ⟨p, rfl, rfl⟩
  have hti := fun (i : Nat) (hi : i < nb.length) => (Fr.tied_iff ok (List.Perm.refl (List.range nb.length)) hi).1
  have hke : ∀ e ∈ Fr.tiedL nb (List.replicate n []) (List.range nb.length) [], ∀ k ∈ e.2, k < nb.length := fun e he k hk => by
    by_cases h0 : 0 < nb.length
    · obtain ⟨_, _, _, lj, _, _, _, _, ⟨T, _, _, _, _, t5⟩, _⟩ := (Fr.tied_iff ok (List.Perm.refl (List.range nb.length)) h0).2 e he
      exact ((t5 k).mp hk).1
    · have : nb = [] := List.length_eq_zero_iff.mp (by omega)
      subst this
      cases he
  generalize Fr.tiedL nb (List.replicate n []) (List.range nb.length) [] = tl at *
  have ml := manyL_len n nb
  refine TM.retX (r := .o (nD (manyL n nb))) (EvX.vals (i := 3) (p := p) (ns := kI (tl.map (·.1))) (ds := tl.map fun p => D.lst (nD p.2)) (g1 := []) (ρv := [.k (.int (n : Int)), .k (.lst (brs nb)), .k (.lst (brs nb)), .k (.adr p), .u, .u]) (List.Perm.refl _) rfl (.same (.same (.same (.same (.same (.same .nil)))))) (EvF.to (evF_sortedSc2 (ei_vals (ev_var rfl)) (fun d => [(4, d)]) lstL (fun _ d => [(5, d)]) (fun _ d => numI d) (kI (manyL n nb))
    (fun d _ => eg_name) (fun d _ p hp => by rw [List.mem_singleton.mp hp]; simp) (fun d hd => ?_) (fun d _ e _ => eg_name) (fun d _ e _ p hp => by rw [List.mem_singleton.mp hp]; simp) (fun d hd e he => ?_) (kI_lt (manyL_rise n nb)) (by rw [kI_len]; omega) (fun k => ?_)) (nD_kI _).symm) (fun d hd => ?_)) ⟨rfl, [(p, tiedM tl)], List.Perm.refl _⟩
  · obtain ⟨c, _, rfl⟩ := List.mem_map.mp hd
    exact ei_list (ev_var rfl)
  · obtain ⟨c, _, rfl⟩ := List.mem_map.mp hd
    obtain ⟨k, _, rfl⟩ := List.mem_map.mp he
    exact ev_var rfl
  · constructor
    · intro hk
      obtain ⟨i, hi, rfl⟩ := List.mem_map.mp hk
      obtain ⟨h3, h4⟩ := manyL_mem.mp hi
      obtain ⟨e, he, hm⟩ := (hti i h3).mpr h4
      exact ⟨_, List.mem_map.mpr ⟨e, he, rfl⟩, .int (i : Int), List.mem_map.mpr ⟨i, hm, rfl⟩, rfl⟩
    · rintro ⟨d, hd, e, he, rfl⟩
      obtain ⟨c, hc, rfl⟩ := List.mem_map.mp hd
      obtain ⟨i, hm, rfl⟩ := List.mem_map.mp he
      have hi := hke c hc i hm
      exact kI_mem.mpr (manyL_mem.mpr ⟨hi, (hti i hi).mp ⟨c, hc, hm⟩⟩)
  · obtain ⟨k, _, rfl⟩ := List.mem_map.mp hd
    rfl
end
/-! ### l_cell_at -/
abbrev s_l_cell_at : Stmt := top 36
theorem sc_l_cell_at : FnScope ["_law_script", "_law_k"] ["_law_script", "_law_k"] (defScope s_l_cell_at) := ⟨rfl, rfl, rfl, by decide +kernel, rfl, by decide +kernel, by decide +kernel⟩
def cell (ns : List Int) (k : Int) : Int := ns.getD k.toNat 0
inductive R_l_cell_at : List D → D → Prop
  | mk (ns : List Int) (k : Int) (h : 0 ≤ k) : R_l_cell_at [.ro ns, .int k] (.int (cell ns k))

section
variable {P : Program} {w : World} {K : PySem.W.Frag} {mg : Str → Option Value} {base : Heap}
theorem ok_l_cell_at {f : Addr} {fd : FuncData} (F : FnP K "_law_cell_at" s_l_cell_at f fd) (g : mg "_law_cell_at" = some (.ref f)) (M : Mods K mg)  : Cal P w K mg base CX0 1 "_law_cell_at" ["_law_script", "_law_k"] (spD K R_l_cell_at) := by
  refine ⟨f, fd, F.ok sc_l_cell_at (spD_len fun ds d r => by cases r <;> rfl) (fun cdv A outer s H vs Q E hr h => ?_), g, F.kp, F.bindsN fun _ _ _ _ _ _ us hl => match us, hl with | [_, _], _ => rfl⟩
  have hu := hr.units
  refine ⟨_, PSs.nox (pss_cons (ps_if (pt_cmpR op_lt (pv 1) (pe_callB (ok_len (K := K) rfl) (by rfl) M.m_len (by decide +kernel) (pa_cons (pv 0) pa_nil)) (nomark _)) (pss_one (ps_ret (pe_ix (ok_ix (K := K) rfl) (pv 0) (pv 1) (fun _ _ => rfl)))) pss_nil)
      (pss_one (ps_ret pe_int))), ?_⟩
  refine T.fin (K := K) h fun ds d rel => ?_
  cases rel with | mk ns k h0 =>
  refine T.guard (b := decide (k < (ns.length : Int))) (by walk_at "ev") (fun b => T.ret (d := .int (cell ns k)) (ev_op (ev_var rfl) (ev_var rfl) (rv_ixR ?_)) rfl) fun b => T.ret (d := .int 0) (by walk_at "ev") ?_
  · have hk : k.toNat < ns.length := by have := of_decide_eq_true b; omega
    refine atI_int h0 ?_
    unfold cell
    simp [List.getD, hk]
  · have hk : ¬ k < (ns.length : Int) := of_decide_eq_false b
    have hk2 : ns.length ≤ k.toNat := by omega
    show D.int 0 = D.int (cell ns k)
    unfold cell
    simp [List.getD, hk2]
end
/-! ### l_whole -/
abbrev s_l_whole : Stmt := top 37
theorem sc_l_whole : FnScope ["_law_found"] ["_law_found"] (defScope s_l_whole) := ⟨rfl, rfl, rfl, by decide +kernel, rfl, by decide +kernel, by decide +kernel⟩
inductive R_l_whole : List D → D → Prop
  | int (i : Int) : R_l_whole [.int i] (.bl true)

section
variable {P : Program} {w : World} {K : PySem.W.Frag} {mg : Str → Option Value} {base : Heap}
theorem ok_l_whole {f : Addr} {fd : FuncData} (F : FnP K "_law_whole" s_l_whole f fd) (g : mg "_law_whole" = some (.ref f)) (M : Mods K mg)  : Cal P w K mg base CX0 1 "_law_whole" ["_law_found"] (spD K R_l_whole) := by
  refine ⟨f, fd, F.ok sc_l_whole (spD_len fun ds d r => by cases r <;> rfl) (fun cdv A outer s H vs Q E hr h => ?_), g, F.kp, F.bindsN fun _ _ _ _ _ _ us hl => match us, hl with | [_], _ => rfl⟩
  have hu := hr.units
  refine ⟨_, PSs.nox (pss_one (ps_ret (pe_and (pe_callB (ok_isi (K := K) rfl) (by rfl) M.m_isinstance (by decide +kernel) (pa_cons (pv 0) (pa_cons (pe_bltn (v := .ty "int") (by rfl) M.m_int (by decide +kernel) rfl) pa_nil))) (pe_one (pe_not (pe_callB (ok_isi (K := K) rfl) (by rfl) M.m_isinstance (by decide +kernel) (pa_cons (pv 0) (pa_cons (pe_bltn (v := .ty "bool") (by rfl) M.m_bool (by decide +kernel) rfl) pa_nil)))))))), ?_⟩
  refine T.fin (K := K) h fun ds d rel => ?_
  cases rel with | int i =>
  refine T.ret (d := .bl (true && !false)) (ev_and (by walk_at "ev") fun _ => ?_) rfl
  walk_at "ev"
end
/-! ### l_mixed -/
abbrev s_l_mixed : Stmt := top 38
theorem sc_l_mixed : FnScope ["_law_cell", "_law_k", "_law_found"] ["_law_cell", "_law_k"] (defScope s_l_mixed) := ⟨rfl, rfl, rfl, by decide +kernel, rfl, by decide +kernel, by decide +kernel⟩
def mixed (c k : Int) : Int :=
  (c % 1000000007 + 7919 * k + 11) * 48271 % 2147483647 * ((c % 1000000007 + 7919 * k + 11) * 48271 % 2147483647 % 65521 + 3) % 2147483629
theorem mixed_nn (c k : Int) : 0 ≤ mixed c k := Int.emod_nonneg _ (by decide)
theorem mixed_lt (c k : Int) : mixed c k < 2147483629 := Int.emod_lt_of_pos _ (by decide)
inductive R_l_mixed : List D → D → Prop
  | mk (c k : Int) : R_l_mixed [.int c, .int k] (.int (mixed c k))

section
variable {P : Program} {w : World} {K : PySem.W.Frag} {mg : Str → Option Value} {base : Heap}
theorem ok_l_mixed {f : Addr} {fd : FuncData} (F : FnP K "_law_mixed" s_l_mixed f fd) (g : mg "_law_mixed" = some (.ref f)) (M : Mods K mg)  : Cal P w K mg base CX0 1 "_law_mixed" ["_law_cell", "_law_k"] (spD K R_l_mixed) := by
  refine ⟨f, fd, F.ok sc_l_mixed (spD_len fun ds d r => by cases r <;> rfl) (fun cdv A outer s H vs Q E hr h => ?_), g, F.kp, F.bindsN fun _ _ _ _ _ _ us hl => match us, hl with | [_, _], _ => rfl⟩
  have hu := hr.units
  refine ⟨_, PSs.nox (pss_cons (ps_set (i := 2) sc_l_mixed.nd rfl (Or.inl rfl) (pe_op op_modN (pe_op op_mul (pe_op (ok_plus (K := K) rfl) (pe_op (ok_plus (K := K) rfl) (pe_op op_modN (pv 0) pe_int) (pe_op op_mul pe_int (pv 1))) pe_int) pe_int) pe_int))
      (pss_one (ps_ret (pe_op op_modN (pe_op op_mul (pv 2) (pe_op (ok_plus (K := K) rfl) (pe_op op_modN (pv 2) pe_int) pe_int)) pe_int)))), ?_⟩
  refine T.fin (K := K) h fun ds d rel => ?_
  cases rel with | mk c k =>
  refine T.seq (T.asg (d := .int ((c % 1000000007 + 7919 * k + 11) * 48271 % 2147483647)) ?_ rfl) (T.ret (d := .int (mixed c k)) ?_ rfl)
  · walk_at "ev"
    all_goals first | decide | (exact Or.inl ⟨by decide, by decide⟩) | (exact Or.inr ⟨by decide, by decide⟩)
  · unfold mixed
    have f1 : 0 ≤ (c % 1000000007 + 7919 * k + 11) * 48271 % 2147483647 := Int.emod_nonneg _ (by decide)
    have f2 : (c % 1000000007 + 7919 * k + 11) * 48271 % 2147483647 < 2147483647 := Int.emod_lt_of_pos _ (by decide)
    walk_at "ev"
    all_goals first | decide | (refine Or.inl ⟨?_, ?_⟩ <;> omega)
end
/-! ### l_tight -/
abbrev s_l_tight : Stmt := top 39
theorem sc_l_tight : FnScope ["_law_cell", "_law_count", "_law_bars", "_law_joint", "_law_more", "_law_one", "_law_other", "_law_thirds", "_law_end"] ["_law_cell", "_law_count"] (defScope s_l_tight) := ⟨rfl, rfl, rfl, by decide +kernel, rfl, by decide +kernel, by decide +kernel⟩
def mxN (c : Int) (j : Nat) : Nat := (mixed c (j : Int)).toNat
theorem mxN_eq (c : Int) (j : Nat) : ((mxN c j : Nat) : Int) = mixed c (j : Int) := Int.toNat_of_nonneg (mixed_nn _ _)
inductive R_l_tight : List D → List D → Prop
  | mk (c : Int) (n : Nat) (h1 : 1 ≤ n) (h2 : n ≤ 16) : R_l_tight [.int c, .int (n : Int)] (brs (Fr.tightB (mxN c) n))

section
variable {P : Program} {w : World} {K : PySem.W.Frag} {mg : Str → Option Value} {base : Heap}
theorem ok_l_tight {f : Addr} {fd : FuncData} (F : FnP K "_law_tight" s_l_tight f fd) (g : mg "_law_tight" = some (.ref f)) (M : Mods K mg) (C_l_mixed : Cal P w K mg base CX0 1 "_law_mixed" ["_law_cell", "_law_k"] (spD K R_l_mixed)) : Cal P w K mg base CX0 2 "_law_tight" ["_law_cell", "_law_count"] (spF K R_l_tight) := by
  refine ⟨f, fd, F.ok sc_l_tight (spF_len fun ds d r => by cases r <;> rfl) (fun cdv A outer s H vs Q E hr h => ?_), g, F.kp, F.bindsN fun _ _ _ _ _ _ us hl => match us, hl with | [_, _], _ => rfl⟩
  have hu := hr.units
  refine ⟨_, PSs.nox (pss_cons (ps_set (i := 2) sc_l_tight.nd rfl (Or.inl rfl) (pe_slice (ok_sl (K := K) rfl) (pe_lst (pa_cons (pe_tup (pa_cons pe_int (pa_cons pe_int pa_nil))) pa_nil)) po_none (po_some (pe_op op_sub (pv 1) pe_int))))
      (pss_cons (ps_for PassesOwn.never rfl (pi_range2 (by rfl) M.m_range (pa_cons pe_int (pa_cons (pv 1) pa_nil))) (pg_name (i := 3) sc_l_tight.nd rfl (Or.inl rfl)) (pss_cons (ps_set (i := 4) sc_l_tight.nd rfl (Or.inl rfl) (pe_cal C_l_mixed hr (by decide) pass0 (pa_cons (pv 0) (pa_cons (pv 3) pa_nil))))
      (pss_cons (ps_asg (pe_ix (ok_ix (K := K) rfl) (pv 2) (pe_op op_modN (pv 4) (pe_callB (ok_len (K := K) rfl) (by rfl) M.m_len (by decide +kernel) (pa_cons (pv 2) pa_nil))) (fun _ _ => rfl)) (ok_tup (K := K) rfl rfl (pgs_cons (pg_name (i := 5) sc_l_tight.nd rfl (Or.inr rfl)) (pgs_cons (pg_name (i := 6) sc_l_tight.nd rfl (Or.inr rfl)) pgs_nil))))
      (pss_one (ps_if (PW.pt (pw_and (pt_cmpR op_gt (pv 3) pe_int (nomark _)) (pw_and1 (pt_cmpR (ok_eq (K := K) rfl hu) (pe_op op_modN (pe_op op_fdivN (pv 4) pe_int) pe_int) pe_int (nomark _))))) (pss_cons (ps_setLc (i := 7) (own := [("_law_end", 8)]) (g := (gName 8)) (tt := _) rfl sc_l_tight.nd rfl rfl (sw_true rfl rfl rfl (by decide +kernel)) (pi_range1 (by rfl) M.m_range (pa_cons (pv 3) pa_nil)) (blkOk_by (N := ["_law_cell", "_law_count", "_law_bars", "_law_joint", "_law_more", "_law_one", "_law_other", "_law_thirds", "_law_end"]) (sc := defScope s_l_tight) (by decide +kernel)) (fun _ _ _ _ _ => (pg_name (i := 8) sc_l_tight.nd rfl (Or.inl rfl))) (fun _ _ _ _ _ => (pts_one (pt_cmpR (ok_ni (K := K) rfl) (pv 8) (pe_tup (pa_cons (pv 5) (pa_cons (pv 6) pa_nil))) (by with_unfolding_all rfl)))) (fun _ _ _ _ _ => (pv 8)))
      (pss_cons (ps_expr (pe_bm PySem.F.plainAttrs_list PySem.F.slot_list_remove PySem.F.type_list_remove (mt_remD (K := K) rfl hu) (pv 2) (pa_cons (pe_tup (pa_cons (pv 5) (pa_cons (pv 6) pa_nil))) pa_nil)))
      (pss_one (ps_set (i := 2) sc_l_tight.nd rfl (Or.inl rfl) (pe_op (ok_plus (K := K) rfl) (pv 2) (pe_lst (pa_cons (pe_tup (pa_cons (pv 5) (pa_cons (pv 3) pa_nil))) (pa_cons (pe_tup (pa_cons (pv 3) (pa_cons (pv 6) pa_nil))) (pa_cons (pe_tup (pa_cons (pe_ix (ok_ix (K := K) rfl) (pv 7) (pe_op op_modN (pe_op op_fdivN (pv 4) pe_int) (pe_callB (ok_len (K := K) rfl) (by rfl) M.m_len (by decide +kernel) (pa_cons (pv 7) pa_nil))) (fun _ _ => rfl)) (pa_cons (pv 3) pa_nil))) pa_nil))))))))) (pss_cons (ps_set (i := 5) sc_l_tight.nd rfl (Or.inr rfl) (pe_op op_modN (pe_op op_fdivN (pv 4) pe_int) (pv 3)))
      (pss_one (ps_set (i := 2) sc_l_tight.nd rfl (Or.inl rfl) (pe_op (ok_plus (K := K) rfl) (pv 2) (pe_lst (pa_cons (pe_tup (pa_cons (pv 5) (pa_cons (pv 3) pa_nil))) (pa_cons (pe_tup (pa_cons (pv 3) (pa_cons (pe_op op_modN (pe_op (ok_plus (K := K) rfl) (pe_op (ok_plus (K := K) rfl) (pv 5) pe_int) (pe_op op_modN (pe_op op_fdivN (pv 4) pe_int) (pe_op op_sub (pv 3) pe_int))) (pv 3)) pa_nil))) pa_nil))))))))))))
      (pss_one (ps_ret (pv 2))))), ?_⟩
  refine T.finF (K := K) h fun ds d rel => ?_
  cases rel with | mk c n h1 h2 =>
  refine T.seq (ρ1 := [.k (.int c), .k (.int (n : Int)), .o (brs (([(0, 1)] : List Fr.Bar).take (n - 1))), .u, .u, .u, .u, .u, .u])
    (T.asgF (EvF.to (ev_slL (ds := brs [(0, 1)]) (lo := none) (hi := some ((n - 1 : Nat) : Int)) (EvF.data (ev_lst (ea_cons (ev_tup (ea_cons ev_int (ea_cons ev_int ea_nil)) (Nat.le_of_ble_eq_true rfl)) ea_nil) (Nat.le_of_ble_eq_true rfl))) eo_no (eo_some (EvD.to (ev_op (ev_var rfl) ev_int rv_sub) ?_))) ?_) rfl) ?_
  · show D.int _ = D.int _
    rw [Int.ofNat_sub h1]
    rfl
  · rw [cut_to]
    unfold brs
    rw [List.map_take, List.map_take]
  refine T.seqP (N := fun r => ∃ s3 s4 s5 s6 s7 s8, r = [.k (.int c), .k (.int (n : Int)), .o (brs (Fr.tightB (mxN c) n)), s3, s4, s5, s6, s7, s8])
    (T.for (ds := rngD 2 ((n : Int) - 2).toNat 1) (ei_rng2 (ea_cons ev_int (ea_cons (ev_var rfl) ea_nil)) ⟨by decide, by decide, by omega, by omega⟩) (fun i r => ∃ s3 s4 s5 s6 s7 s8, r = [.k (.int c), .k (.int (n : Int)), .o (brs (if n ≤ 1 then [] else Fr.tgo (mxN c) i)), s3, s4, s5, s6, s7, s8]) ⟨.u, .u, .u, .u, .u, .u, ?_⟩ ?_ ?_) ?_
  · congr 3
    by_cases h : n ≤ 1
    · rw [if_pos h]
      have : n = 1 := by omega
      subst this
      rfl
    · rw [if_neg h]
      exact congrArg (fun l => Sl.o (brs l)) (List.take_of_length_le (by show 1 ≤ _; omega))
  · rintro i d r hd ⟨s3, s4, s5, s6, s7, s8, rfl⟩
    obtain ⟨hi, rfl⟩ := rngD_get hd
    have hn : ¬ n ≤ 1 := by omega
    have ej : (2 : Int) + (i : Int) * 1 = ((i + 2 : Nat) : Int) := by omega
    rw [if_neg hn, if_neg hn, ej]
    obtain ⟨ok, sl, ln⟩ := Fr.tgo_ok (mx := mxN c) (n := n) i (by omega)
    have hs : Fr.tgo (mxN c) (i + 1) = Fr.tstep (mxN c (i + 2)) (i + 2) (Fr.tgo (mxN c) i) := rfl
    dsimp only
    rw [hs]
    generalize Fr.tgo (mxN c) i = bs at ok ln
    have hj2 : 2 ≤ i + 2 := by omega
    have hjn : i + 2 ≤ 16 := by omega
    generalize i + 2 = j at ok hj2 hjn
    refine ⟨_, eg_name, ?_⟩
    refine T.seq (ρ1 := [.k (.int c), .k (.int (n : Int)), .o (brs bs), .k (.int (j : Int)), .k (.int (mxN c j : Int)), s5, s6, s7, s8]) (T.asg (EvD.to (ev_call (ea_cons (ev_var rfl) (ea_cons (ev_var rfl) ea_nil)) (.mk _ _)) (by rw [mxN_eq])) rfl) ?_
    generalize mxN c j = more
    have hb : bs.getD (more % bs.length) (0, 0) ∈ bs := Fr.getD_mem (Nat.mod_lt _ (by omega))
    have hg : atI (brs bs) ((more : Int) % ((brs bs).length : Int)) = some (barD (bI (bs.getD (more % bs.length) (0, 0)))) := by
      rw [brs_len, ← Int.natCast_emod]
      exact atI_nat (brs_get (Nat.mod_lt _ (by omega)))
    unfold Fr.tstep
    generalize bs.getD (more % bs.length) (0, 0) = b at hb hg
    obtain ⟨o1, o2, o3⟩ := ok b hb
    refine T.seq (ρ1 := [.k (.int c), .k (.int (n : Int)), .o (brs bs), .k (.int (j : Int)), .k (.int (more : Int)), .k (.int (b.1 : Int)), .k (.int (b.2 : Int)), s7, s8])
      (T.asgV (d := barD (bI b)) (ev_op (ev_var rfl) (ev_op (ev_var rfl) (ev_cb (ea_cons (ev_var rfl) ea_nil) rc_lenL) (rv_mod (by rw [brs_len]; omega) (by rw [brs_len]; omega))) (rv_ixL hg)) (eg_tup (egs_cons eg_name (egs_cons eg_name egs_nil)) rfl) (fun p hp => ?_) rfl) ?_
    · have hp : p ∈ [(5, D.int (b.1 : Int)), (6, D.int (b.2 : Int))] := hp
      simp only [List.mem_cons, List.not_mem_nil, or_false] at hp
      rcases hp with rfl | rfl <;> rfl
    refine T.ifS (b := decide ((2 : Int) < (j : Int)) && decide ((more : Int) / 64 % 2 = 1)) (et_and (et_test (ev_op (ev_var rfl) ev_int rv_gt)) fun _ => et_test (ev_op (ev_op (ev_op (ev_var rfl) ev_int (rv_div ⟨by decide, by decide⟩ (by decide))) ev_int (rv_mod (by decide) (by decide))) ev_int rv_eqI)) (fun h => ?_) (fun h => ?_)
    · rw [Bool.and_eq_true, decide_eq_true_eq, decide_eq_true_eq] at h
      have hc : 2 < j ∧ more / 64 % 2 = 1 := ⟨by omega, by omega⟩
      rw [if_pos hc]
      have tp := Fr.thirds_pos (b := b) hc.1
      have et : (Fr.thirds b j).length ≤ j := by
        have := List.length_filter_le (fun e => !decide (e = b.1) && !decide (e = b.2)) (List.range j)
        rwa [List.length_range] at this
      refine T.seq (ρ1 := [.k (.int c), .k (.int (n : Int)), .o (brs bs), .k (.int (j : Int)), .k (.int (more : Int)), .k (.int (b.1 : Int)), .k (.int (b.2 : Int)), .k (.lst ((kI (Fr.thirds b j)).map D.int)), s8])
        (T.asg (EvF.data (EvF.to (evF_pick (n := j) (f := fun e => !decide (e = b.1) && !decide (e = b.2)) (ei_rng1 (j := (j : Int)) (ea_cons (ev_var rfl) ea_nil) ⟨by omega, by omega⟩) (by simp) (by omega) (fun e he => EvT.to (et_test (ev_op (y := .tup (([(b.1 : Int), (b.2 : Int)] : List Int).map D.int)) (ev_var rfl) (ev_tup (ea_cons (ev_var rfl) (ea_cons (ev_var rfl) ea_nil)) (Nat.le_of_ble_eq_true rfl)) (rv_inT (neg := true)))) ?_) (fun e he => ev_var rfl)) rfl)) rfl) ?_
      · show (!decide ((e : Int) ∈ [(b.1 : Int), (b.2 : Int)])) = (!decide (e = b.1) && !decide (e = b.2))
        by_cases q1 : e = b.1 <;> by_cases q2 : e = b.2 <;> simp [q1, q2] <;> omega
      obtain ⟨k, k1, k2, k3⟩ := brs_erase hb
      refine T.seq (ρ1 := [.k (.int c), .k (.int (n : Int)), .o (brs (bs.erase b)), .k (.int (j : Int)), .k (.int (more : Int)), .k (.int (b.1 : Int)), .k (.int (b.2 : Int)), .k (.lst ((kI (Fr.thirds b j)).map D.int)), s8])
        (T.removeD (k := k) (d := barD (bI b)) rfl (ev_tup (ea_cons (ev_var rfl) (ea_cons (ev_var rfl) ea_nil)) (Nat.le_of_ble_eq_true rfl)) rfl brs_okd rfl brs_sm k1 k2 (by rw [k3]; rfl)) ?_
      have hg2 : atI ((kI (Fr.thirds b j)).map D.int) ((more : Int) / 128 % (((kI (Fr.thirds b j)).map D.int).length : Int)) = some (.int (((Fr.thirds b j).getD (more / 128 % (Fr.thirds b j).length) 0 : Nat) : Int)) := by
        have e : ((kI (Fr.thirds b j)).map D.int).length = (Fr.thirds b j).length := by rw [List.length_map]; unfold kI; rw [List.length_map]
        rw [e]
        have : (more : Int) / 128 % ((Fr.thirds b j).length : Int) = ((more / 128 % (Fr.thirds b j).length : Nat) : Int) := by rw [Int.natCast_emod, Int.natCast_ediv]; rfl
        rw [this]
        exact atI_nat (natL_get (Nat.mod_lt _ tp))
      refine T.asgFV (es := brs (bs.erase b ++ [(b.1, j), (j, b.2), ((Fr.thirds b j).getD (more / 128 % (Fr.thirds b j).length) 0, j)])) (EvF.to (ev_opF (x := .lst (brs (bs.erase b))) (y := .lst (brs [(b.1, j), (j, b.2), ((Fr.thirds b j).getD (more / 128 % (Fr.thirds b j).length) 0, j)])) (ev_var rfl) (EvF.data (ev_lst
        (ea_cons (ev_tup (ea_cons (ev_var rfl) (ea_cons (ev_var rfl) ea_nil)) (Nat.le_of_ble_eq_true rfl)) (ea_cons (ev_tup (ea_cons (ev_var rfl) (ea_cons (ev_var rfl) ea_nil)) (Nat.le_of_ble_eq_true rfl)) (ea_cons (ev_tup (ea_cons (ev_op (ev_var rfl) (ev_op (ev_op (ev_var rfl) ev_int (rv_div ⟨by decide, by decide⟩ (by decide))) (ev_cb (ea_cons (ev_var rfl) ea_nil) rc_lenL) (rv_mod ?_ ?_)) (rv_ixL hg2)) (ea_cons (ev_var rfl) ea_nil)) (Nat.le_of_ble_eq_true rfl)) ea_nil))) (Nat.le_of_ble_eq_true rfl))) (rvF_plus ?_)) (by rw [brs_app])) brs_still ⟨_, _, _, _, _, _, rfl⟩
      · rw [List.length_map]; unfold kI; rw [List.length_map]; omega
      · omega
      · rw [brs_len, brs_len, List.length_erase_of_mem hb]
        show _ + 3 ≤ _
        omega
    · rw [← Bool.not_eq_true, Bool.and_eq_true, decide_eq_true_eq, decide_eq_true_eq] at h
      have hc : ¬ (2 < j ∧ more / 64 % 2 = 1) := fun q => h ⟨by omega, by omega⟩
      rw [if_neg hc]
      refine T.seq (ρ1 := [.k (.int c), .k (.int (n : Int)), .o (brs bs), .k (.int (j : Int)), .k (.int (more : Int)), .k (.int ((more / 7 % j : Nat) : Int)), .k (.int (b.2 : Int)), s7, s8])
        (T.asg (EvD.to (ev_op (ev_op (ev_var rfl) ev_int (rv_div ⟨by decide, by decide⟩ (by decide))) (ev_var rfl) (rv_mod (by omega) (by omega))) (by rw [Int.natCast_emod, Int.natCast_ediv]; rfl)) rfl) ?_
      generalize more / 7 % j = a
      refine T.asgFV (es := brs (bs ++ [(a, j), (j, (a + 1 + more / 211 % (j - 1)) % j)])) (EvF.to (ev_opF (x := .lst (brs bs)) (y := .lst (brs [(a, j), (j, (a + 1 + more / 211 % (j - 1)) % j)])) (ev_var rfl) (EvF.data (ev_lst
        (ea_cons (ev_tup (ea_cons (ev_var rfl) (ea_cons (ev_var rfl) ea_nil)) (Nat.le_of_ble_eq_true rfl)) (ea_cons (ev_tup (ea_cons (ev_var rfl) (ea_cons (EvD.to (ev_op (ev_op (ev_op (ev_var rfl) ev_int rv_plusI) (ev_op (ev_op (ev_var rfl) ev_int (rv_div ⟨by decide, by decide⟩ (by decide))) (ev_op (ev_var rfl) ev_int rv_sub) (rv_mod (by omega) (by omega))) rv_plusI) (ev_var rfl) (rv_mod (by omega) (by omega))) ?_) ea_nil)) (Nat.le_of_ble_eq_true rfl)) ea_nil)) (Nat.le_of_ble_eq_true rfl))) (rvF_plus ?_)) (by rw [brs_app])) brs_still ⟨_, _, _, _, _, _, rfl⟩
      · show D.int _ = D.int (((a + 1 + more / 211 % (j - 1)) % j : Nat) : Int)
        have : ((j : Int) - 1) = ((j - 1 : Nat) : Int) := by omega
        rw [this]
        simp only [Int.natCast_emod, Int.natCast_ediv, Int.natCast_add]
        rfl
      · rw [brs_len, brs_len]
        show bs.length + 2 ≤ _
        omega
  · rintro r ⟨s3, s4, s5, s6, s7, s8, rfl⟩
    rw [rngD_len]
    refine ⟨s3, s4, s5, s6, s7, s8, ?_⟩
    have : ((n : Int) - 2).toNat = n - 2 := by omega
    rw [this]
    rfl
  · rintro r ⟨s3, s4, s5, s6, s7, s8, rfl⟩
    exact T.retO rfl rfl
end
/-! ### l_order -/
abbrev s_l_order : Stmt := top 40
theorem sc_l_order : FnScope ["_law_cell", "_law_count", "_law_left", "_law_found"] ["_law_cell", "_law_count"] (defScope s_l_order) := ⟨rfl, rfl, rfl, by decide +kernel, rfl, by decide +kernel, by decide +kernel⟩
inductive R_l_order : List D → List D → Prop
  | mk (c : Int) (n : Nat) (h : n ≤ 1000) : R_l_order [.int c, .int (n : Int)] ((orderL c n).map D.int)

section
variable {P : Program} {w : World} {K : PySem.W.Frag} {mg : Str → Option Value} {base : Heap}
theorem ok_l_order {f : Addr} {fd : FuncData} (F : FnP K "_law_order" s_l_order f fd) (g : mg "_law_order" = some (.ref f)) (M : Mods K mg)  : Cal P w K mg base CX0 1 "_law_order" ["_law_cell", "_law_count"] (spF K R_l_order) := by
  refine ⟨f, fd, F.ok sc_l_order (spF_len fun ds d r => by cases r <;> rfl) (fun cdv A outer s H vs Q E hr h => ?_), g, F.kp, F.bindsN fun _ _ _ _ _ _ us hl => match us, hl with | [_, _], _ => rfl⟩
  have hu := hr.units
  refine ⟨_, PSs.nox (pss_cons (ps_set (i := 2) sc_l_order.nd rfl (Or.inl rfl) (pe_listRg rfl (by rfl) M.m_list (prg_1 (by rfl) M.m_range (pv 1))))
      (pss_cons (ps_set (i := 3) sc_l_order.nd rfl (Or.inl rfl) (pe_lst pa_nil))
      (pss_cons (ps_while PassesOwn.never (pt_cmpR op_gt (pe_callB (ok_len (K := K) rfl) (by rfl) M.m_len (by decide +kernel) (pa_cons (pv 2) pa_nil)) pe_int (nomark _)) (pss_cons (ps_expr (pe_bm PySem.F.plainAttrs_list PySem.F.slot_list_append PySem.F.type_list_append mt_append (pv 3) (pa_cons (pe_bm PySem.F.plainAttrs_list PySem.F.slot_list_pop PySem.F.type_list_pop mt_popAt (pv 2) (pa_cons (pe_op op_modN (pv 0) (pe_callB (ok_len (K := K) rfl) (by rfl) M.m_len (by decide +kernel) (pa_cons (pv 2) pa_nil))) pa_nil)) pa_nil)))
      (pss_one (ps_set (i := 0) sc_l_order.nd rfl (Or.inl rfl) (pe_op op_fdivN (pv 0) (pe_op (ok_plus (K := K) rfl) (pe_callB (ok_len (K := K) rfl) (by rfl) M.m_len (by decide +kernel) (pa_cons (pv 2) pa_nil)) pe_int))))))
      (pss_one (ps_ret (pv 3)))))), ?_⟩
  refine T.finF (K := K) h fun ds d rel => ?_
  cases rel with | mk c n h =>
  refine T.seq (ρ1 := [.k (.int c), .k (.int (n : Int)), .o (((List.range n).map fun k : Nat => (k : Int)).map D.int), .u]) (T.asgF (es := (kI (List.range n)).map D.int) (evF_listRg (ev_var rfl) (by omega)) rfl) ?_
  refine T.seq (ρ1 := [.k (.int c), .k (.int (n : Int)), .o (((List.range n).map fun k : Nat => (k : Int)).map D.int), .o []]) (T.asgF (es := []) (by walk_at "ev") rfl) ?_
  refine T.seqP (N := fun r => ∃ s0 s2, r = [s0, .k (.int (n : Int)), s2, .o ((orderL c n).map D.int)])
    (T.whileV (fun m r => ∃ c1 left found, r = [.k (.int c1), .k (.int (n : Int)), .o (left.map D.int), .o (found.map D.int)] ∧ m = left.length ∧ left.length + found.length = n ∧ orderGo left.length c1 left found = orderL c n) (m0 := n)
      ⟨c, _, [], rfl, by simp, by simp, by simp [orderL]⟩ ?_) ?_
  · rintro m r ⟨c1, left, found, rfl, rfl, hn, he⟩
    refine ⟨decide ((0 : Int) < ((left.map D.int).length : Int)), et_test (ev_op (ev_cb (ea_cons (ev_var rfl) ea_nil) rc_lenL) ev_int rv_gt), fun hb => ?_, fun hb => ?_⟩
    · have hl : 0 < left.length := by
        have := of_decide_eq_true hb
        rw [List.length_map] at this
        omega
      obtain ⟨k, hk⟩ : ∃ k, left.length = k + 1 := ⟨left.length - 1, by omega⟩
      have m1 := Int.emod_nonneg c1 (show (left.length : Int) ≠ 0 by omega)
      have m2 := Int.emod_lt_of_pos c1 (show (0 : Int) < (left.length : Int) by omega)
      generalize hi : (c1 % (left.length : Int)).toNat = i at *
      have hil : i < left.length := by omega
      have hii : ((i : Nat) : Int) = c1 % (left.length : Int) := by omega
      refine T.seq (ρ1 := [.k (.int c1), .k (.int (n : Int)), .o ((left.eraseIdx i).map D.int), .o ((found ++ [left.getD i 0]).map D.int)]) (T.appendPop (k := i) (i := 3) (j := 2) (ds := found.map D.int) (es := left.map D.int) (d := .int (left.getD i 0)) rfl rfl (by decide) ?_ ?_ ?_ ?_ ?_) ?_
      · rw [hii]
        refine EvD.to (ev_op (ev_var rfl) (ev_cb (ea_cons (ev_var rfl) ea_nil) rc_lenL) (rv_mod (by rw [List.length_map]; omega) (by omega))) ?_
        rw [List.length_map]
      · rw [List.getElem?_map, List.getElem?_eq_getElem hil]
        simp [List.getD, hil]
      · rw [List.length_map]
        omega
      · rw [List.length_map]
        omega
      · have ee : ∀ (l : List Int) (q : Nat), (l.map D.int).eraseIdx q = (l.eraseIdx q).map D.int := fun l => by
          induction l with
          | nil => intro q; cases q <;> rfl
          | cons y l ih =>
            intro q
            cases q with
            | zero => rfl
            | succ q => exact congrArg (D.int y :: ·) (ih q)
        show _ = _
        rw [ee, List.map_append]
        rfl
      · refine T.asgV (d := .int (c1 / (left.length : Int))) (EvD.to (ev_op (ev_var rfl) (ev_op (ev_cb (ea_cons (ev_var rfl) ea_nil) rc_lenL) ev_int rv_plusI) (rv_div ?_ (by omega))) ?_) eg_name (fun _ h => by rw [List.mem_singleton.mp h]; rfl) ?_
        · rw [List.length_map, List.length_eraseIdx_of_lt hil]
          exact ⟨by omega, by omega⟩
        · rw [List.length_map, List.length_eraseIdx_of_lt hil]
          have : (((left.length - 1 : Nat) : Int) + 1) = (left.length : Int) := by omega
          rw [this]
        · refine ⟨k, by omega, c1 / (left.length : Int), left.eraseIdx i, found ++ [left.getD i 0], rfl, ?_, ?_, ?_⟩
          · rw [List.length_eraseIdx_of_lt hil]; omega
          · rw [List.length_eraseIdx_of_lt hil, List.length_append]; simp; omega
          · rw [← he, List.length_eraseIdx_of_lt hil, hk]
            show orderGo k _ _ _ = orderGo k _ _ _
            rw [hi, hk]
    · have hl : left = [] := by
        have := of_decide_eq_false hb
        rw [List.length_map] at this
        exact List.length_eq_zero_iff.mp (by omega)
      subst hl
      refine ⟨.k (.int c1), .o ([].map D.int), ?_⟩
      rw [← he]
      rfl
  · rintro r ⟨s0, s2, rfl⟩
    exact T.retO rfl rfl
end
/-! ### l_named -/
abbrev s_l_named : Stmt := top 41
theorem sc_l_named : FnScope ["_law_bars", "_law_order_here", "_law_cell", "_law_found", "_law_k", "_law_one", "_law_other", "_law_pair"] ["_law_bars", "_law_order_here", "_law_cell"] (defScope s_l_named) := ⟨rfl, rfl, rfl, by decide +kernel, rfl, by decide +kernel, by decide +kernel⟩
inductive R_l_named : List D → List D → Prop
  | mk (bs : List (Int × Int)) (os : List Int) (c : Int) (hb : ∀ b ∈ bs, (0 ≤ b.1 ∧ b.1 < (os.length : Int)) ∧ 0 ≤ b.2 ∧ b.2 < (os.length : Int)) (hl : bs.length ≤ 1000) : R_l_named [.lst (bs.map barD), .lst (os.map D.int), .int c] ((namedL bs os c bs.length).map barD)

section
variable {P : Program} {w : World} {K : PySem.W.Frag} {mg : Str → Option Value} {base : Heap}
theorem ok_l_named {f : Addr} {fd : FuncData} (F : FnP K "_law_named" s_l_named f fd) (g : mg "_law_named" = some (.ref f)) (M : Mods K mg)  : Cal P w K mg base CX0 1 "_law_named" ["_law_bars", "_law_order_here", "_law_cell"] (spF K R_l_named) := by
  refine ⟨f, fd, F.ok sc_l_named (spF_len fun ds d r => by cases r <;> rfl) (fun cdv A outer s H vs Q E hr h => ?_), g, F.kp, F.bindsN fun _ _ _ _ _ _ us hl => match us, hl with | [_, _, _], _ => rfl⟩
  have hu := hr.units
  refine ⟨_, PSs.nox (pss_cons (ps_set (i := 3) sc_l_named.nd rfl (Or.inl rfl) (pe_lst pa_nil))
      (pss_cons (ps_for PassesOwn.never rfl (pi_range1 (by rfl) M.m_range (pa_cons (pe_callB (ok_len (K := K) rfl) (by rfl) M.m_len (by decide +kernel) (pa_cons (pv 0) pa_nil)) pa_nil)) (pg_name (i := 4) sc_l_named.nd rfl (Or.inl rfl)) (pss_cons (ps_asg (pe_ix (ok_ix (K := K) rfl) (pv 0) (pe_op op_modN (pe_op (ok_plus (K := K) rfl) (pv 4) (pv 2)) (pe_callB (ok_len (K := K) rfl) (by rfl) M.m_len (by decide +kernel) (pa_cons (pv 0) pa_nil))) (fun _ _ => rfl)) (ok_tup (K := K) rfl rfl (pgs_cons (pg_name (i := 5) sc_l_named.nd rfl (Or.inl rfl)) (pgs_cons (pg_name (i := 6) sc_l_named.nd rfl (Or.inl rfl)) pgs_nil))))
      (pss_cons (ps_set (i := 7) sc_l_named.nd rfl (Or.inl rfl) (pe_lst (pa_cons (pe_ix (ok_ix (K := K) rfl) (pv 1) (pv 5) (fun _ _ => rfl)) (pa_cons (pe_ix (ok_ix (K := K) rfl) (pv 1) (pv 6) (fun _ _ => rfl)) pa_nil))))
      (pss_cons (ps_if (pt_cmpR (ok_eq (K := K) rfl hu) (pe_op op_modN (pe_op op_fdivN (pv 2) (pe_op (ok_plus (K := K) rfl) (pv 4) pe_int)) pe_int) pe_int (nomark _)) (pss_one (ps_set (i := 7) sc_l_named.nd rfl (Or.inl rfl) (ok_revL (K := K) rfl (pv 7)))) pss_nil)
      (pss_one (ps_expr (pe_bm PySem.F.plainAttrs_list PySem.F.slot_list_append PySem.F.type_list_append mt_append (pv 3) (pa_cons (pe_tup (pa_cons (pe_ix (ok_ix (K := K) rfl) (pv 7) pe_int (fun _ _ => rfl)) (pa_cons (pe_ix (ok_ix (K := K) rfl) (pv 7) pe_int (fun _ _ => rfl)) pa_nil))) pa_nil))))))))
      (pss_one (ps_ret (pv 3))))), ?_⟩
  refine T.finF (K := K) h fun ds d rel => ?_
  cases rel with | mk bs os c hb hl =>
  refine T.seq (ρ1 := [.k (.lst (bs.map barD)), .k (.lst (os.map D.int)), .k (.int c), .o [], .u, .u, .u, .u]) (T.asgF (es := []) (by walk_at "ev") rfl) ?_
  refine T.seqP (N := fun r => ∃ s4 s5 s6 s7, r = [.k (.lst (bs.map barD)), .k (.lst (os.map D.int)), .k (.int c), .o ((namedL bs os c bs.length).map barD), s4, s5, s6, s7])
    (T.for (ds := rngD 0 (((bs.map barD).length : Nat) : Int).toNat 1) (ei_rng1 (ea_cons (ev_cb (ea_cons (ev_var rfl) ea_nil) rc_lenL) ea_nil) ⟨by rw [List.length_map]; omega, by rw [List.length_map]; omega⟩) (fun i r => ∃ s4 s5 s6 s7, r = [.k (.lst (bs.map barD)), .k (.lst (os.map D.int)), .k (.int c), .o ((namedL bs os c i).map barD), s4, s5, s6, s7]) ⟨_, _, _, _, rfl⟩ ?_ fun r z => ?_) ?_
  · rintro i d r hd ⟨s4, s5, s6, s7, rfl⟩
    obtain ⟨hi, rfl⟩ := rngD_get0 hd
    rw [List.length_map] at hi
    have hi2 : i < bs.length := by omega
    refine ⟨_, eg_name, ?_⟩
    have m1 := Int.emod_nonneg ((i : Int) + c) (show (bs.length : Int) ≠ 0 by omega)
    have m2 := Int.emod_lt_of_pos ((i : Int) + c) (show (0 : Int) < (bs.length : Int) by omega)
    have hjl : (((i : Int) + c) % (bs.length : Int)).toNat < bs.length := by omega
    have hnm : nameP bs os c i = (os.getD (bs[(((i : Int) + c) % (bs.length : Int)).toNat]).1.toNat 0, os.getD (bs[(((i : Int) + c) % (bs.length : Int)).toNat]).2.toNat 0) := by
      unfold nameP
      rw [show bs.getD (((i : Int) + c) % (bs.length : Int)).toNat (0, 0) = bs[(((i : Int) + c) % (bs.length : Int)).toNat] by simp [List.getD, hjl]]
    obtain ⟨⟨b1, b2⟩, b3, b4⟩ := hb _ (List.getElem_mem hjl)
    have hget : atI (bs.map barD) (((i : Int) + c) % (((bs.map barD).length : Nat) : Int)) = some (barD bs[(((i : Int) + c) % (bs.length : Int)).toNat]) := by
      rw [List.length_map]
      refine atI_int m1 ?_
      rw [List.getElem?_map, List.getElem?_eq_getElem hjl]
      rfl
    generalize bs[(((i : Int) + c) % (bs.length : Int)).toNat] = b at hnm b1 b2 b3 b4 hget
    obtain ⟨x, y⟩ := b
    refine T.seq (ρ1 := [.k (.lst (bs.map barD)), .k (.lst (os.map D.int)), .k (.int c), .o ((namedL bs os c i).map barD), .k (.int (i : Int)), .k (.int x), .k (.int y), s7])
      (T.asgG (d := barD (x, y)) (ev_op (ev_var rfl) (ev_op (ev_op (ev_var rfl) (ev_var rfl) rv_plusI) (ev_cb (ea_cons (ev_var rfl) ea_nil) rc_lenL) (rv_mod (by rw [List.length_map]; omega) (by rw [List.length_map]; omega))) (rv_ixL hget)) (eg_tup (egs_cons eg_name (egs_cons eg_name egs_nil)) rfl) rfl) ?_
    have gx : ∀ z : Int, 0 ≤ z → z < (os.length : Int) → atI (os.map D.int) z = some (.int (os.getD z.toNat 0)) := fun z h0 h1 => by
      refine atI_int h0 ?_
      have : z.toNat < os.length := by omega
      rw [List.getElem?_map, List.getElem?_eq_getElem this]
      simp [List.getD, this]
    have hp1 : (nameP bs os c i).1 = os.getD x.toNat 0 := by rw [hnm]
    have hp2 : (nameP bs os c i).2 = os.getD y.toNat 0 := by rw [hnm]
    refine T.seq (ρ1 := [.k (.lst (bs.map barD)), .k (.lst (os.map D.int)), .k (.int c), .o ((namedL bs os c i).map barD), .k (.int (i : Int)), .k (.int x), .k (.int y), .k (.lst [.int (nameP bs os c i).1, .int (nameP bs os c i).2])])
      (T.asg (EvF.data (ev_lst (ea_cons (EvD.to (ev_op (ev_var rfl) (ev_var rfl) (rv_ixL (gx x b1 b2))) (by rw [hp1])) (ea_cons (EvD.to (ev_op (ev_var rfl) (ev_var rfl) (rv_ixL (gx y b3 b4))) (by rw [hp2])) ea_nil)) (Nat.le_of_ble_eq_true rfl))) rfl) ?_
    refine T.seq (ρ1 := [.k (.lst (bs.map barD)), .k (.lst (os.map D.int)), .k (.int c), .o ((namedL bs os c i).map barD), .k (.int (i : Int)), .k (.int x), .k (.int y), .k (.lst [.int (nameB bs os c i).1, .int (nameB bs os c i).2])])
      (T.ifS (b := decide (c / ((i : Int) + 2) % 2 = 1)) (et_test (ev_op (ev_op (ev_op (ev_var rfl) (ev_op (ev_var rfl) ev_int rv_plusI) (rv_div ⟨by omega, by omega⟩ (by omega))) ev_int (rv_mod (by decide) (by decide))) ev_int rv_eqI)) (fun h => ?_) (fun h => ?_)) ?_
    · have h := of_decide_eq_true h
      refine T.asg (d := .lst [.int (nameB bs os c i).1, .int (nameB bs os c i).2]) (EvD.to (EvF.data (evF_revL (ev_var rfl))) ?_) rfl
      unfold nameB
      rw [if_pos h]
      rfl
    · have h := of_decide_eq_false h
      refine T.next ?_
      unfold nameB
      rw [if_neg h]
    · refine T.append (d := barD (nameB bs os c i)) rfl (ev_tup (ea_cons (ev_op (ev_var rfl) ev_int (rv_ixL (atI_int (Int.le_refl 0) rfl))) (ea_cons (ev_op (ev_var rfl) ev_int (rv_ixL (atI_int (show (0 : Int) ≤ 1 by decide) rfl))) ea_nil)) (Nat.le_of_ble_eq_true rfl)) ?_ ?_
      · rw [List.length_map]
        unfold namedL
        rw [List.length_map, List.length_range]
        omega
      · refine ⟨.k (.int (i : Int)), .k (.int x), .k (.int y), .k (.lst [.int (nameB bs os c i).1, .int (nameB bs os c i).2]), ?_⟩
        rw [namedL_succ, List.map_append]
        rfl
  · rw [rngD_len, List.length_map, Int.toNat_natCast] at z
    exact z
  · rintro r ⟨s4, s5, s6, s7, rfl⟩
    exact T.retO rfl rfl
end
/-! ### l_sets -/
abbrev s_l_sets : Stmt := top 42
theorem sc_l_sets : FnScope ["_law_joints", "_law_sets_here", "_law_joint", "_law_one"] ["_law_joints"] (defScope s_l_sets) := ⟨rfl, rfl, rfl, by decide +kernel, rfl, by decide +kernel, by decide +kernel⟩
def intsD (l : List Int) : D := .lst (l.map D.int)
inductive R_l_sets : List D → List D → Prop
  | mk (js : List Int) (h : js.length ≤ 10) : R_l_sets [.lst (js.map D.int)] ((setsL js).map intsD)
def appD (j : Int) : D → D
  | .lst ds => .lst (ds ++ [.int j])
  | d => d
def longD : D → Bool
  | .lst ds => decide (1 < (ds.length : Int))
  | _ => false

section
variable {P : Program} {w : World} {K : PySem.W.Frag} {mg : Str → Option Value} {base : Heap}
theorem ok_l_sets {f : Addr} {fd : FuncData} (F : FnP K "_law_sets" s_l_sets f fd) (g : mg "_law_sets" = some (.ref f)) (M : Mods K mg)  : Cal P w K mg base CX0 1 "_law_sets" ["_law_joints"] (spF K R_l_sets) := by
  refine ⟨f, fd, F.ok sc_l_sets (spF_len fun ds d r => by cases r <;> rfl) (fun cdv A outer s H vs Q E hr h => ?_), g, F.kp, F.bindsN fun _ _ _ _ _ _ us hl => match us, hl with | [_], _ => rfl⟩
  have hu := hr.units
  refine ⟨_, PSs.nox (pss_cons (ps_set (i := 1) sc_l_sets.nd rfl (Or.inl rfl) (pe_lst (pa_cons (pe_lst pa_nil) pa_nil)))
      (pss_cons (ps_for PassesOwn.never rfl (ok_ilist (K := K) rfl (pv 0)) (pg_name (i := 2) sc_l_sets.nd rfl (Or.inr rfl)) (pss_one (ps_set (i := 1) sc_l_sets.nd rfl (Or.inl rfl) (pe_op (ok_plus (K := K) rfl) (pv 1) (pe_lc (own := [("_law_one", 3)]) (g := (gName 3)) (tt := tYes) rfl sc_l_sets.nd (ok_ilist (K := K) rfl (pv 1)) (blkOk_by (N := ["_law_joints", "_law_sets_here", "_law_joint", "_law_one"]) (sc := defScope s_l_sets) (by decide +kernel)) (fun _ _ _ _ _ => (pg_name (i := 3) sc_l_sets.nd rfl (Or.inl rfl))) (fun _ _ _ _ _ => pts_nil) (fun _ _ _ _ _ => (pe_op (ok_plus (K := K) rfl) (pv 3) (pe_lst (pa_cons (pv 2) pa_nil)))))))))
      (pss_one (ps_ret (pe_lc (own := [("_law_one", 3)]) (g := (gName 3)) (tt := _) rfl sc_l_sets.nd (ok_ilist (K := K) rfl (pv 1)) (blkOk_by (N := ["_law_joints", "_law_sets_here", "_law_joint", "_law_one"]) (sc := defScope s_l_sets) (by decide +kernel)) (fun _ _ _ _ _ => (pg_name (i := 3) sc_l_sets.nd rfl (Or.inl rfl))) (fun _ _ _ _ _ => (pts_one (pt_cmpR op_gt (pe_callB (ok_len (K := K) rfl) (by rfl) M.m_len (by decide +kernel) (pa_cons (pv 3) pa_nil)) pe_int (nomark _)))) (fun _ _ _ _ _ => (pv 3))))))), ?_⟩
  refine T.finF (K := K) h fun ds d rel => ?_
  cases rel with | mk js h =>
  refine T.seq (ρ1 := [.k (.lst (js.map D.int)), .k (.lst ([[]].map intsD)), .u, .u]) (T.asg (EvF.data (ev_lst (ea_cons (EvF.data (ev_lst ea_nil (Nat.zero_le _))) ea_nil) (Nat.le_of_ble_eq_true rfl))) rfl) ?_
  refine T.seqP (N := fun r => ∃ s2 s3, r = [.k (.lst (js.map D.int)), .k (.lst ((setsAll js).map intsD)), s2, s3]) (T.for (ds := js.map D.int) (ei_list (ev_var rfl)) (fun i r => ∃ s2 s3, r = [.k (.lst (js.map D.int)), .k (.lst ((setsAll (js.take i)).map intsD)), s2, s3]) ⟨_, _, rfl⟩ ?_ ?_) ?_
  · rintro i d r hd ⟨s2, s3, rfl⟩
    have hi : i < js.length := by
      have z := (List.getElem?_eq_some_iff.mp hd).1
      rwa [List.length_map] at z
    have ed : d = .int js[i] := by
      rw [List.getElem?_map, List.getElem?_eq_getElem hi] at hd
      exact (Option.some.inj hd).symm
    subst ed
    have tk : js.take (i + 1) = js.take i ++ [js[i]] := (List.take_append_getElem hi).symm
    have hlen : (setsAll (js.take i)).length ≤ 1024 := by
      rw [setsAll_len, List.length_take]
      exact Nat.pow_le_pow_right (by decide) (show min i js.length ≤ 10 by omega)
    refine ⟨_, eg_name, ?_⟩
    generalize js[i] = j at tk ⊢
    refine T.asg (d := .lst ((setsAll (js.take i)).map intsD ++ (((setsAll (js.take i)).map intsD).filter fun _ => true).map (appD j))) (EvF.data (ev_opF (ev_var rfl) (EvF.data (evF_lc (ds := (setsAll (js.take i)).map intsD) (ei_list (ev_var rfl)) (fun d => [(3, d)]) (fun _ => true) (appD j) (fun d _ => eg_name) (fun d _ p hp => by rw [List.mem_singleton.mp hp]; simp) (fun d _ => et_yes) (fun d hd _ => ?_) (by rw [List.length_map]; omega))) (rvF_plus ?_))) ⟨.k (.int j), s3, ?_⟩
    · obtain ⟨l, hl, rfl⟩ := List.mem_map.mp hd
      have := setsAll_short _ l hl
      have : l.length ≤ 10 := by rw [List.length_take] at this; omega
      exact EvF.data (ev_opF (ev_var rfl) (EvF.data (ev_lst (ea_cons (ev_var rfl) ea_nil) (Nat.le_of_ble_eq_true rfl))) (rvF_plus (by rw [List.length_map]; simp; omega)))
    · rw [List.length_map, List.length_map, List.filter_eq_self.mpr fun _ _ => rfl, List.length_map]
      omega
    · rw [tk, setsAll_snoc, List.filter_eq_self.mpr fun _ _ => rfl, List.map_append, List.map_map, List.map_map]
      have e : appD j ∘ intsD = intsD ∘ fun l => l ++ [j] := by
        funext l
        show D.lst (l.map D.int ++ [D.int j]) = D.lst ((l ++ [j]).map D.int)
        rw [List.map_append]
        rfl
      rw [e]
      rfl
  · rintro r ⟨s2, s3, rfl⟩
    rw [List.length_map, List.take_length]
    exact ⟨_, _, rfl⟩
  · rintro r ⟨s2, s3, rfl⟩
    have hlen : (setsAll js).length ≤ 1024 := by
      rw [setsAll_len]
      exact Nat.pow_le_pow_right (by decide) h
    refine T.retF (EvF.to (evF_lc (ds := (setsAll js).map intsD) (ei_list (ev_var rfl)) (fun d => [(3, d)]) longD id (fun d _ => eg_name) (fun d _ p hp => by rw [List.mem_singleton.mp hp]; simp) (fun d hd => ?_) (fun d hd _ => ?_) (by rw [List.length_map]; omega)) ?_) rfl
    · obtain ⟨l, hl, rfl⟩ := List.mem_map.mp hd
      exact et_test (ev_op (ev_cb (ea_cons (ev_var rfl) ea_nil) rc_lenL) ev_int rv_gt)
    · obtain ⟨l, hl, rfl⟩ := List.mem_map.mp hd
      exact ev_var rfl
    · rw [List.map_id, List.filter_map]
      unfold setsL
      refine congrArg _ (List.filter_congr fun l _ => ?_)
      show decide (1 < (((l.map D.int).length : Nat) : Int)) = _
      rw [List.length_map]
      exact decide_eq_decide.mpr (by omega)
end
/-! ### l_inside -/
abbrev s_l_inside : Stmt := top 43
theorem sc_l_inside : FnScope ["_law_bars", "_law_joints", "_law_bar"] ["_law_bars", "_law_joints"] (defScope s_l_inside) := ⟨rfl, rfl, rfl, by decide +kernel, rfl, by decide +kernel, by decide +kernel⟩
inductive R_l_inside : List D → D → Prop
  | mk (bs : List (Int × Int)) (js : List Int) (h : bs.length ≤ 1000) : R_l_inside [.lst (bs.map barD), .lst (js.map D.int)] (.int (insideL bs js : Int))
def inF (js : List Int) : D → Bool
  | .tup [.int a, .int b] => decide (a ∈ js) && decide (b ∈ js)
  | _ => false

section
variable {P : Program} {w : World} {K : PySem.W.Frag} {mg : Str → Option Value} {base : Heap}
theorem ok_l_inside {f : Addr} {fd : FuncData} (F : FnP K "_law_inside" s_l_inside f fd) (g : mg "_law_inside" = some (.ref f)) (M : Mods K mg)  : Cal P w K mg base CX0 1 "_law_inside" ["_law_bars", "_law_joints"] (spD K R_l_inside) := by
  refine ⟨f, fd, F.ok sc_l_inside (spD_len fun ds d r => by cases r <;> rfl) (fun cdv A outer s H vs Q E hr h => ?_), g, F.kp, F.bindsN fun _ _ _ _ _ _ us hl => match us, hl with | [_, _], _ => rfl⟩
  have hu := hr.units
  refine ⟨_, PSs.nox (pss_one (ps_ret (pe_callB (ok_len (K := K) rfl) (by rfl) M.m_len (by decide +kernel) (pa_cons (pe_lc (own := [("_law_bar", 2)]) (g := (gName 2)) (tt := _) rfl sc_l_inside.nd (ok_ilist (K := K) rfl (pv 0)) (blkOk_by (N := ["_law_bars", "_law_joints", "_law_bar"]) (sc := defScope s_l_inside) (by decide +kernel)) (fun _ _ _ _ _ => (pg_name (i := 2) sc_l_inside.nd rfl (Or.inl rfl))) (fun _ _ _ _ _ => (pts_one (PW.pt (pw_and (pt_cmpR (ok_in (K := K) rfl) (pe_ix (ok_ix (K := K) rfl) (pv 2) pe_int (fun _ _ => rfl)) (pv 1) (by with_unfolding_all rfl)) (pw_and1 (pt_cmpR (ok_in (K := K) rfl) (pe_ix (ok_ix (K := K) rfl) (pv 2) pe_int (fun _ _ => rfl)) (pv 1) (by with_unfolding_all rfl))))))) (fun _ _ _ _ _ => (pv 2))) pa_nil)))), ?_⟩
  refine T.fin (K := K) h fun ds d rel => ?_
  cases rel with | mk bs js h =>
  refine T.ret (d := .int (((((bs.map barD).filter (inF js)).map id).length : Nat) : Int)) (ev_cb (ea_cons (EvF.data (evF_lc (ds := bs.map barD) (ei_list (ev_var rfl)) (fun d => [(2, d)]) (inF js) id (fun d _ => eg_name) (fun d _ p hp => by rw [List.mem_singleton.mp hp]; simp) (fun d hd => ?_) (fun d hd _ => ?_) (by rw [List.length_map]; omega))) ea_nil) rc_lenL) ?_
  · obtain ⟨b, hb, rfl⟩ := List.mem_map.mp hd
    exact et_and (et_test (ev_op (ev_op (ev_var rfl) ev_int (rv_ixT (atI_int (Int.le_refl 0) rfl))) (ev_var rfl) rv_inL)) fun _ => et_test (ev_op (ev_op (ev_var rfl) ev_int (rv_ixT (atI_int (show (0 : Int) ≤ 1 by decide) rfl))) (ev_var rfl) rv_inL)
  · obtain ⟨b, hb, rfl⟩ := List.mem_map.mp hd
    exact ev_var rfl
  · show D.int _ = D.int _
    rw [List.length_map, List.filter_map, List.length_map]
    rfl
end
/-! ### l_rising -/
abbrev s_l_rising : Stmt := top 44
theorem sc_l_rising : FnScope ["_law_found", "_law_least", "_law_most", "_law_one"] ["_law_found", "_law_least", "_law_most"] (defScope s_l_rising) := ⟨rfl, rfl, rfl, by decide +kernel, rfl, by decide +kernel, by decide +kernel⟩
inductive R_l_rising : List D → D → Prop
  | good (ns : List Int) (lo hi : Int) (h : ∀ n ∈ ns, lo ≤ n ∧ n ≤ hi) (hp : ns.Pairwise (· < ·)) (hl : ns.length < 64) : R_l_rising [.lst (ns.map D.int), .int lo, .int hi] (.bl true)

section
variable {P : Program} {w : World} {K : PySem.W.Frag} {mg : Str → Option Value} {base : Heap}
theorem ok_l_rising {f : Addr} {fd : FuncData} (F : FnP K "_law_rising" s_l_rising f fd) (g : mg "_law_rising" = some (.ref f)) (M : Mods K mg) (C_l_whole : Cal P w K mg base CX0 1 "_law_whole" ["_law_found"] (spD K R_l_whole)) : Cal P w K mg base CX0 2 "_law_rising" ["_law_found", "_law_least", "_law_most"] (spD K R_l_rising) := by
  refine ⟨f, fd, F.ok sc_l_rising (spD_len fun ds d r => by cases r <;> rfl) (fun cdv A outer s H vs Q E hr h => ?_), g, F.kp, F.bindsN fun _ _ _ _ _ _ us hl => match us, hl with | [_, _, _], _ => rfl⟩
  have hu := hr.units
  refine ⟨_, PSs.nox (pss_cons (ps_if (PW.pt (pw_or (pt_not (pt_val (pe_callB (ok_isi (K := K) rfl) (by rfl) M.m_isinstance (by decide +kernel) (pa_cons (pv 0) (pa_cons (pe_bltn (v := .ty "list") (by rfl) M.m_list (by decide +kernel) rfl) pa_nil))))) (pw_or1 (pt_not (pt_val (pe_callB (ok_all (K := K) rfl rfl) (by rfl) M.m_all (by decide +kernel) (pa_cons (pe_lc (own := [("_law_one", 3)]) (g := (gName 3)) (tt := tYes) rfl sc_l_rising.nd (ok_ilist (K := K) rfl (pv 0)) (blkOk_by (N := ["_law_found", "_law_least", "_law_most", "_law_one"]) (sc := defScope s_l_rising) (by decide +kernel)) (fun _ _ _ _ _ => (pg_name (i := 3) sc_l_rising.nd rfl (Or.inl rfl))) (fun _ _ _ _ _ => pts_nil) (fun _ _ _ _ _ => (pe_and (pe_cal C_l_whole hr (by decide) pass0 (pa_cons (pv 3) pa_nil)) (pe_one (pe_chain op_le op_le (pv 1) (pv 3) (pv 2)))))) pa_nil))))))) (pss_one (ps_ret pe_bl)) pss_nil)
      (pss_one (ps_ret (pe_cmpR (ok_eq (K := K) rfl hu) (pv 0) (pe_callB (ok_sset (w := w) rfl rfl) (by rfl) M.m_sorted (by decide +kernel) (pa_cons (pe_callTy (ok_set (K := K) (w := w) rfl rfl rfl) (by rfl) M.m_set (by decide +kernel) (pa_cons (pv 0) pa_nil)) pa_nil)) (nomark _))))), ?_⟩
  refine T.fin (K := K) h fun ds d rel => ?_
  cases rel with | good ns lo hi h hp hl =>
  have ha : ((ns.map D.int).filter fun _ => true).map (fun _ => D.bl true) = (ns.map fun _ => true).map D.bl := by
    rw [List.filter_eq_self.mpr fun _ _ => rfl, List.map_map, List.map_map]
    rfl
  refine T.guard (b := !true || !((ns.map fun _ => true).all id)) (et_or (et_not (et_B (by walk_at "ev"))) fun _ => et_not (et_B (ev_cb (ea_cons (EvF.data (evF_lc (ei_list (by walk_at "ev")) (fun d => [(3, d)]) (fun _ => true) (fun _ => .bl true) (fun d _ => eg_name) (fun d _ p hp => ?_) (fun d _ => et_yes) (fun d hd _ => ?_) ?_)) ea_nil) ?_))) (fun b => ?_) fun _ => ?_
  · rw [List.mem_singleton.mp hp]
    exact List.mem_singleton.mpr rfl
  · obtain ⟨n, hn, rfl⟩ := List.mem_map.mp hd
    obtain ⟨h1, h2⟩ := h n hn
    refine EvD.to (ev_and (a := true) (ev_call (by walk_at "ev") (.int n)) fun _ => ev_chain (by walk_at "ev") (by walk_at "ev") rv_le fun _ => ⟨.int hi, by walk_at "ev", rv_le⟩) ?_
    rw [decide_eq_true h1, decide_eq_true h2]
    rfl
  · rw [List.length_map]
    omega
  · rw [ha]
    exact rc_all
  · have : (ns.map fun _ => true).all id = true := by simp
    rw [this] at b
    cases b
  · refine T.ret (d := .bl (decide (ns = ns))) (ev_op (by walk_at "ev") (EvF.data (evF_sortedSet (by walk_at "ev") (by omega) hp (fun _ => Iff.rfl) hl)) rv_eqInts) ?_
    show D.bl (decide (ns = ns)) = D.bl true
    rw [decide_eq_true rfl]
end
/-! ### l_is_knot -/
abbrev s_l_is_knot : Stmt := top 45
theorem sc_l_is_knot : FnScope ["_law_bars", "_law_numbers", "_law_number", "_law_some", "_law_joints", "_law_one", "_law_k", "_law_bar"] ["_law_bars", "_law_numbers", "_law_number"] (defScope s_l_is_knot) := ⟨rfl, rfl, rfl, by decide +kernel, rfl, by decide +kernel, by decide +kernel⟩
inductive R_l_is_knot : List D → D → Prop
  | mk (nb : List Fr.Bar) (l : List Nat) (i : Nat) (js : List Nat) (h1 : l.Pairwise (· < ·)) (h2 : ∀ a ∈ l, a < nb.length) (h3 : l.length < 64) (h4 : i ∈ l) (j1 : js.Pairwise (· < ·)) (j2 : ∀ x, x ∈ js ↔ ∃ a ∈ l, (Fr.barAt nb a).1 = x ∨ (Fr.barAt nb a).2 = x) (j3 : js.length ≤ 10)
      (hc : l.length + 2 = 2 * js.length) (hs : ∀ m : List Int, m.Sublist (kI js) → 2 ≤ m.length → m.length < js.length → insideL ((l.map (Fr.barAt nb)).map bI) m + 3 ≤ 2 * m.length) : R_l_is_knot [.lst (brs nb), .lst ((kI l).map D.int), .int (i : Int)] (.bl true)
def endA : D → D
  | .tup [a, _] => a
  | d => d
def endB : D → D
  | .tup [_, b] => b
  | d => d
theorem ends_eq (as : List Fr.Bar) : ((brs as).filter fun _ => true).map endA = (as.map fun b => (b.1 : Int)).map D.int ∧ ((brs as).filter fun _ => true).map endB = (as.map fun b => (b.2 : Int)).map D.int := by
  rw [List.filter_eq_self.mpr fun _ _ => rfl]
  unfold brs
  constructor
  · rw [List.map_map, List.map_map, List.map_map]
    rfl
  · rw [List.map_map, List.map_map, List.map_map]
    rfl

section
variable {P : Program} {w : World} {K : PySem.W.Frag} {mg : Str → Option Value} {base : Heap}
theorem ok_l_is_knot {f : Addr} {fd : FuncData} (F : FnP K "_law_is_knot" s_l_is_knot f fd) (g : mg "_law_is_knot" = some (.ref f)) (M : Mods K mg) (C_l_sets : Cal P w K mg base CX0 1 "_law_sets" ["_law_joints"] (spF K R_l_sets)) (C_l_rising : Cal P w K mg base CX0 2 "_law_rising" ["_law_found", "_law_least", "_law_most"] (spD K R_l_rising)) (C_l_inside : Cal P w K mg base CX0 1 "_law_inside" ["_law_bars", "_law_joints"] (spD K R_l_inside)) : Cal P w K mg base CX0 3 "_law_is_knot" ["_law_bars", "_law_numbers", "_law_number"] (spD K R_l_is_knot) := by
  refine ⟨f, fd, F.ok sc_l_is_knot (spD_len fun ds d r => by cases r <;> rfl) (fun cdv A outer s H vs Q E hr h => ?_), g, F.kp, F.bindsN fun _ _ _ _ _ _ us hl => match us, hl with | [_, _, _], _ => rfl⟩
  have hu := hr.units
  refine ⟨_, PSs.nox (pss_cons (ps_if (PW.pt (pw_or (pt_not (pt_val (pe_cal C_l_rising hr (by decide) pass0 (pa_cons (pv 1) (pa_cons pe_int (pa_cons (pe_op op_sub (pe_callB (ok_len (K := K) rfl) (by rfl) M.m_len (by decide +kernel) (pa_cons (pv 0) pa_nil)) pe_int) pa_nil)))))) (pw_or1 (pt_cmpR (ok_ni (K := K) rfl) (pv 2) (pv 1) (by with_unfolding_all rfl))))) (pss_one (ps_ret pe_bl)) pss_nil)
      (pss_cons (ps_setLc (i := 3) (own := [("_law_k", 6)]) (g := (gName 6)) (tt := tYes) rfl sc_l_is_knot.nd rfl rfl (sw_true rfl rfl rfl (by decide +kernel)) (ok_ilist (K := K) rfl (pv 1)) (blkOk_by (N := ["_law_bars", "_law_numbers", "_law_number", "_law_some", "_law_joints", "_law_one", "_law_k", "_law_bar"]) (sc := defScope s_l_is_knot) (by decide +kernel)) (fun _ _ _ _ _ => (pg_name (i := 6) sc_l_is_knot.nd rfl (Or.inl rfl))) (fun _ _ _ _ _ => pts_nil) (fun _ _ _ _ _ => (pe_ix (ok_ix (K := K) rfl) (pv 0) (pv 6) (fun _ _ => rfl))))
      (pss_cons (ps_set (i := 4) sc_l_is_knot.nd rfl (Or.inl rfl) (pe_callB (ok_sset (w := w) rfl rfl) (by rfl) M.m_sorted (by decide +kernel) (pa_cons (pe_callTy (ok_set (K := K) (w := w) rfl rfl rfl) (by rfl) M.m_set (by decide +kernel) (pa_cons (pe_op (ok_plus (K := K) rfl) (pe_lc (own := [("_law_bar", 7)]) (g := (gName 7)) (tt := tYes) rfl sc_l_is_knot.nd (ok_ilist (K := K) rfl (pv 3)) (blkOk_by (N := ["_law_bars", "_law_numbers", "_law_number", "_law_some", "_law_joints", "_law_one", "_law_k", "_law_bar"]) (sc := defScope s_l_is_knot) (by decide +kernel)) (fun _ _ _ _ _ => (pg_name (i := 7) sc_l_is_knot.nd rfl (Or.inl rfl))) (fun _ _ _ _ _ => pts_nil) (fun _ _ _ _ _ => (pe_ix (ok_ix (K := K) rfl) (pv 7) pe_int (fun _ _ => rfl)))) (pe_lc (own := [("_law_bar", 7)]) (g := (gName 7)) (tt := tYes) rfl sc_l_is_knot.nd (ok_ilist (K := K) rfl (pv 3)) (blkOk_by (N := ["_law_bars", "_law_numbers", "_law_number", "_law_some", "_law_joints", "_law_one", "_law_k", "_law_bar"]) (sc := defScope s_l_is_knot) (by decide +kernel)) (fun _ _ _ _ _ => (pg_name (i := 7) sc_l_is_knot.nd rfl (Or.inl rfl))) (fun _ _ _ _ _ => pts_nil) (fun _ _ _ _ _ => (pe_ix (ok_ix (K := K) rfl) (pv 7) pe_int (fun _ _ => rfl))))) pa_nil)) pa_nil)))
      (pss_cons (ps_if (pt_cmpR (ok_ne (K := K) rfl hu) (pe_callB (ok_len (K := K) rfl) (by rfl) M.m_len (by decide +kernel) (pa_cons (pv 3) pa_nil)) (pe_op op_sub (pe_op op_mul pe_int (pe_callB (ok_len (K := K) rfl) (by rfl) M.m_len (by decide +kernel) (pa_cons (pv 4) pa_nil))) pe_int) (nomark _)) (pss_one (ps_ret pe_bl)) pss_nil)
      (pss_cons (ps_for PassesOwn.never rfl (ok_ilist (K := K) rfl (pe_cal C_l_sets hr (by decide) pass0 (pa_cons (pv 4) pa_nil))) (pg_name (i := 5) sc_l_is_knot.nd rfl (Or.inl rfl)) (pss_one (ps_if (PW.pt (pw_and (pt_cmpR op_lt (pe_callB (ok_len (K := K) rfl) (by rfl) M.m_len (by decide +kernel) (pa_cons (pv 5) pa_nil)) (pe_callB (ok_len (K := K) rfl) (by rfl) M.m_len (by decide +kernel) (pa_cons (pv 4) pa_nil)) (nomark _)) (pw_and1 (pt_cmpR op_gt (pe_cal C_l_inside hr (by decide) pass0 (pa_cons (pv 3) (pa_cons (pv 5) pa_nil))) (pe_op op_sub (pe_op op_mul pe_int (pe_callB (ok_len (K := K) rfl) (by rfl) M.m_len (by decide +kernel) (pa_cons (pv 5) pa_nil))) pe_int) (nomark _))))) (pss_one (ps_ret pe_bl)) pss_nil)))
      (pss_one (ps_ret pe_bl))))))), ?_⟩
  refine T.fin (K := K) h fun ds d rel => ?_
  cases rel with | mk nb l i js h1 h2 h3 h4 j1 j2 j3 hc hs =>
  have il : decide ((i : Int) ∈ kI l) = true := decide_eq_true (kI_mem.mpr h4)
  refine T.guard (b := !true || !decide ((i : Int) ∈ kI l)) (et_or (et_not (et_B (ev_call (ea_cons (ev_var rfl) (ea_cons ev_int (ea_cons (ev_op (ev_cb (ea_cons (ev_var rfl) ea_nil) rc_lenL) ev_int rv_sub) ea_nil))) (.good (kI l) 0 (((brs nb).length : Int) - 1) (fun x hx => ?_) (kI_lt h1) (by rw [kI_len]; exact h3))))) fun _ => et_test (ev_op (ev_var rfl) (ev_var rfl) (rv_inL (neg := true)))) (fun b => by rw [il] at b; cases b) fun _ => ?_
  · obtain ⟨k, hk, rfl⟩ := List.mem_map.mp hx
    have := h2 k hk
    rw [brs_len]
    omega
  refine T.seq (ρ1 := [.k (.lst (brs nb)), .k (.lst ((kI l).map D.int)), .k (.int (i : Int)), .k (.lst (brs (l.map (Fr.barAt nb)))), .u, .u, .u, .u])
    (T.asg (EvF.data (EvF.to (evF_lc (ds := (kI l).map D.int) (ei_list (ev_var rfl)) (fun d => [(6, d)]) (fun _ => true) (fun d => barD (bI (Fr.barAt nb (numI d).toNat))) (fun d _ => eg_name) (fun d _ p hp => by rw [List.mem_singleton.mp hp]; simp) (fun d _ => et_yes) (fun d hd _ => ?_) (by rw [List.length_map, kI_len]; omega)) ?_)) rfl) ?_
  · obtain ⟨k, hk, rfl⟩ := List.mem_map.mp hd
    obtain ⟨a, ha, rfl⟩ := List.mem_map.mp hk
    exact EvD.to (ev_op (ev_var rfl) (ev_var rfl) (rv_ixL (atI_nat (brs_get (h2 a ha))))) (by show _ = barD (bI (Fr.barAt nb ((a : Int)).toNat)); rw [Int.toNat_natCast]; rfl)
  · rw [List.filter_eq_self.mpr fun _ _ => rfl]
    unfold brs kI
    rw [List.map_map, List.map_map, List.map_map, List.map_map]
    refine List.map_congr_left fun a _ => ?_
    show barD (bI (Fr.barAt nb ((a : Int)).toNat)) = barD (bI (Fr.barAt nb a))
    rw [Int.toNat_natCast]
  obtain ⟨eA, eB⟩ := ends_eq (l.map (Fr.barAt nb))
  have sl : (l.map (Fr.barAt nb)).length = l.length := List.length_map _
  refine T.seq (ρ1 := [.k (.lst (brs nb)), .k (.lst ((kI l).map D.int)), .k (.int (i : Int)), .k (.lst (brs (l.map (Fr.barAt nb)))), .k (.lst ((kI js).map D.int)), .u, .u, .u])
    (T.asg (EvF.data (evF_sortedSet (ns := (l.map (Fr.barAt nb)).map (fun b => (b.1 : Int)) ++ (l.map (Fr.barAt nb)).map (fun b => (b.2 : Int))) (EvF.data (EvF.to (ev_opF (x := .lst (((l.map (Fr.barAt nb)).map fun b => (b.1 : Int)).map D.int)) (y := .lst (((l.map (Fr.barAt nb)).map fun b => (b.2 : Int)).map D.int))
      (EvF.data (EvF.to (evF_lc (ds := brs (l.map (Fr.barAt nb))) (ei_list (ev_var rfl)) (fun d => [(7, d)]) (fun _ => true) endA (fun d _ => eg_name) (fun d _ p hp => by rw [List.mem_singleton.mp hp]; simp) (fun d _ => et_yes) (fun d hd _ => ?_) (by rw [brs_len, sl]; omega)) eA))
      (EvF.data (EvF.to (evF_lc (ds := brs (l.map (Fr.barAt nb))) (ei_list (ev_var rfl)) (fun d => [(7, d)]) (fun _ => true) endB (fun d _ => eg_name) (fun d _ p hp => by rw [List.mem_singleton.mp hp]; simp) (fun d _ => et_yes) (fun d hd _ => ?_) (by rw [brs_len, sl]; omega)) eB)) (rvF_plus (by simp; omega))) (by rw [List.map_append]))) (by simp; omega) (kI_lt j1) (fun k => ?_) (by rw [kI_len]; omega))) rfl) ?_
  · obtain ⟨b, hb, rfl⟩ := brs_mem hd
    exact ev_op (ev_var rfl) ev_int (rv_ixT (atI_int (Int.le_refl 0) rfl))
  · obtain ⟨b, hb, rfl⟩ := brs_mem hd
    exact ev_op (ev_var rfl) ev_int (rv_ixT (atI_int (show (0 : Int) ≤ 1 by decide) rfl))
  · rw [List.mem_append, List.map_map, List.map_map, List.mem_map, List.mem_map]
    constructor
    · intro hk
      obtain ⟨x, hx, rfl⟩ := List.mem_map.mp hk
      obtain ⟨a, ha, q⟩ := (j2 x).mp hx
      rcases q with q | q
      · exact .inl ⟨a, ha, by show ((Fr.barAt nb a).1 : Int) = _; rw [q]⟩
      · exact .inr ⟨a, ha, by show ((Fr.barAt nb a).2 : Int) = _; rw [q]⟩
    · rintro (⟨a, ha, rfl⟩ | ⟨a, ha, rfl⟩)
      · exact kI_mem.mpr ((j2 _).mpr ⟨a, ha, .inl rfl⟩)
      · exact kI_mem.mpr ((j2 _).mpr ⟨a, ha, .inr rfl⟩)
  refine T.guard (b := !decide (((brs (l.map (Fr.barAt nb))).length : Int) = 2 * (((kI js).map D.int).length : Int) - 2)) (et_test (ev_op (ev_cb (ea_cons (ev_var rfl) ea_nil) rc_lenL) (ev_op (ev_op ev_int (ev_cb (ea_cons (ev_var rfl) ea_nil) rc_lenL) (rv_mul ?_)) ev_int rv_sub) rv_neI)) (fun b => ?_) fun _ => ?_
  · rw [List.length_map, kI_len]
    exact .inl ⟨by omega, by omega⟩
  · rw [decide_eq_true (by rw [brs_len, sl, List.length_map, kI_len]; omega)] at b
    cases b
  refine T.seqP (N := fun r => ∃ s5, r = [.k (.lst (brs nb)), .k (.lst ((kI l).map D.int)), .k (.int (i : Int)), .k (.lst (brs (l.map (Fr.barAt nb)))), .k (.lst ((kI js).map D.int)), s5, .u, .u])
    (T.for (ds := (setsL (kI js)).map intsD) (ei_list (EvF.data (ev_callF (ea_cons (ev_var rfl) ea_nil) (.mk (kI js) (by rw [kI_len]; exact j3))))) (fun _ r => ∃ s5, r = [.k (.lst (brs nb)), .k (.lst ((kI l).map D.int)), .k (.int (i : Int)), .k (.lst (brs (l.map (Fr.barAt nb)))), .k (.lst ((kI js).map D.int)), s5, .u, .u]) ⟨_, rfl⟩ ?_ fun _ z => z) ?_
  · rintro q d r hd ⟨s5, rfl⟩
    obtain ⟨m, hm, rfl⟩ := List.mem_map.mp (List.mem_of_getElem? hd)
    obtain ⟨hm1, hm2⟩ := List.mem_filter.mp hm
    have hm1 := (setsAll_sub _ _).mp hm1
    have hm2 := of_decide_eq_true hm2
    have hml := hm1.length_le
    rw [kI_len] at hml
    refine ⟨_, eg_name, ?_⟩
    refine T.ifS (b := decide (((m.map D.int).length : Int) < (((kI js).map D.int).length : Int)) && decide (2 * ((m.map D.int).length : Int) - 3 < (insideL ((l.map (Fr.barAt nb)).map bI) m : Int)))
      (et_and (et_test (ev_op (ev_cb (ea_cons (ev_var rfl) ea_nil) rc_lenL) (ev_cb (ea_cons (ev_var rfl) ea_nil) rc_lenL) rv_lt)) fun _ => et_test (ev_op (ev_call (ea_cons (ev_var rfl) (ea_cons (ev_var rfl) ea_nil)) (.mk ((l.map (Fr.barAt nb)).map bI) m (by rw [List.length_map, sl]; omega))) (ev_op (ev_op ev_int (ev_cb (ea_cons (ev_var rfl) ea_nil) rc_lenL) (rv_mul ?_)) ev_int rv_sub) rv_gt)) (fun b => ?_) fun _ => T.next ⟨_, rfl⟩
    · rw [List.length_map]
      exact .inl ⟨by omega, by omega⟩
    · rw [Bool.and_eq_true, decide_eq_true_eq, decide_eq_true_eq, List.length_map, List.length_map, kI_len] at b
      have := hs m hm1 (by omega) (by omega)
      omega
  rintro r ⟨s5, rfl⟩
  exact T.ret ev_bl rfl
end
/-! ### l_truth -/
abbrev s_l_truth : Stmt := top 46
theorem sc_l_truth : FnScope ["_law_found", "_law_due"] ["_law_found", "_law_due"] (defScope s_l_truth) := ⟨rfl, rfl, rfl, by decide +kernel, rfl, by decide +kernel, by decide +kernel⟩
inductive R_l_truth : List D → D → Prop
  | mk (a b : Bool) : R_l_truth [.bl a, .bl b] (.bl (a == b))

section
variable {P : Program} {w : World} {K : PySem.W.Frag} {mg : Str → Option Value} {base : Heap}
theorem ok_l_truth {f : Addr} {fd : FuncData} (F : FnP K "_law_truth" s_l_truth f fd) (g : mg "_law_truth" = some (.ref f)) (M : Mods K mg)  : Cal P w K mg base CX0 1 "_law_truth" ["_law_found", "_law_due"] (spD K R_l_truth) := by
  refine ⟨f, fd, F.ok sc_l_truth (spD_len fun ds d r => by cases r <;> rfl) (fun cdv A outer s H vs Q E hr h => ?_), g, F.kp, F.bindsN fun _ _ _ _ _ _ us hl => match us, hl with | [_, _], _ => rfl⟩
  have hu := hr.units
  refine ⟨_, PSs.nox (pss_one (ps_ret (pe_and (pe_callB (ok_isi (K := K) rfl) (by rfl) M.m_isinstance (by decide +kernel) (pa_cons (pv 0) (pa_cons (pe_bltn (v := .ty "bool") (by rfl) M.m_bool (by decide +kernel) rfl) pa_nil))) (pe_one (pe_cmpR (ok_eq (K := K) rfl hu) (pv 0) (pv 1) (nomark _)))))), ?_⟩
  refine T.fin (K := K) h fun ds d rel => ?_
  cases rel with | mk a b =>
  exact T.ret (d := .bl (true && (a == b))) (ev_and (ev_cb (ea_cons (ev_var rfl) (ea_cons ev_ty ea_nil)) (rc_isiK "bool" rfl (by decide +kernel) (by decide))) fun _ => ev_op (ev_var rfl) (ev_var rfl) rv_eqB) rfl
end
/-! ### l_blocks -/
abbrev s_l_blocks : Stmt := top 47
theorem sc_l_blocks : FnScope ["_law_script", "_law_blocks_here", "_law_bars", "_law_many", "_law_k", "_law_cell", "_law_size", "_law_joints", "_law_rows", "_law_one", "_law_other"] ["_law_script"] (defScope s_l_blocks) := ⟨rfl, rfl, rfl, by decide +kernel, rfl, by decide +kernel, by decide +kernel⟩
inductive R_l_blocks : List D → Gs → (Rs → Gs → Prop) → Prop
  | mk (ns : List Int) : R_l_blocks [.ro ns] [] fun r g => ∃ (n : Nat) (Bs : List (List Nat)) (Ks : List (List Fr.Bar)) (q : Addr), r = .d (.tup [.int (n : Int), .lst (Bs.map rowD), .adr q]) ∧ g = [(q, blocksT Ks)] ∧ Drawing n Bs Ks ∧ 1 ≤ Bs.length ∧ Bs.length ≤ 5
theorem rowD_kI (l : List Nat) : rowD l = .lst ((kI l).map D.int) := by
  show D.lst (nD l) = _
  rw [nD_kI]
theorem barsT_isN {ls : List (List Fr.Bar)} : ∀ m ∈ ls.map barsT, m.isN = true := fun m hm => by
  obtain ⟨e, _, rfl⟩ := List.mem_map.mp hm
  rfl

section
variable {P : Program} {w : World} {K : PySem.W.Frag} {mg : Str → Option Value} {base : Heap}
theorem ok_l_blocks {f : Addr} {fd : FuncData} (F : FnP K "_law_blocks" s_l_blocks f fd) (g : mg "_law_blocks" = some (.ref f)) (M : Mods K mg) (C_l_mixed : Cal P w K mg base CX0 1 "_law_mixed" ["_law_cell", "_law_k"] (spD K R_l_mixed)) (C_l_cell_at : Cal P w K mg base CX0 1 "_law_cell_at" ["_law_script", "_law_k"] (spD K R_l_cell_at)) (C_l_tight : Cal P w K mg base CX0 2 "_law_tight" ["_law_cell", "_law_count"] (spF K R_l_tight)) : Cal P w K mg base CX0 3 "_law_blocks" ["_law_script"] (spQ K R_l_blocks) := by
  refine ⟨f, fd, F.ok sc_l_blocks (spQ_len fun _ _ _ r => by cases r <;> rfl) (fun cdv A outer s H vs Q E hr h => ?_), g, F.kp, F.bindsN fun _ _ _ _ _ _ us hl => match us, hl with | [_], _ => rfl⟩
  have hu := hr.units
  refine ⟨_, PSs.nox (pss_cons (ps_set (i := 1) sc_l_blocks.nd rfl (Or.inl rfl) (pe_lst pa_nil))
      (pss_cons (ps_set (i := 2) sc_l_blocks.nd rfl (Or.inl rfl) (pe_lst pa_nil))
      (pss_cons (ps_set (i := 3) sc_l_blocks.nd rfl (Or.inl rfl) pe_int)
      (pss_cons (ps_for PassesOwn.never rfl (pi_range1 (by rfl) M.m_range (pa_cons (pe_op (ok_plus (K := K) rfl) pe_int (pe_op op_modN (pe_cal C_l_cell_at hr (by decide) pass0 (pa_cons (pv 0) (pa_cons pe_int pa_nil))) pe_int)) pa_nil)) (pg_name (i := 4) sc_l_blocks.nd rfl (Or.inl rfl)) (pss_cons (ps_set (i := 5) sc_l_blocks.nd rfl (Or.inl rfl) (pe_cal C_l_mixed hr (by decide) pass0 (pa_cons (pe_cal C_l_cell_at hr (by decide) pass0 (pa_cons (pv 0) (pa_cons (pe_op (ok_plus (K := K) rfl) pe_int (pv 4)) pa_nil))) (pa_cons (pv 4) pa_nil))))
      (pss_cons (ps_set (i := 6) sc_l_blocks.nd rfl (Or.inl rfl) (pe_op (ok_plus (K := K) rfl) pe_int (pe_op op_modN (pv 5) pe_int)))
      (pss_cons (ps_set (i := 7) sc_l_blocks.nd rfl (Or.inr rfl) (pe_listRg rfl (by rfl) M.m_list (prg_2 (by rfl) M.m_range (pv 3) (pe_op (ok_plus (K := K) rfl) (pv 3) (pv 6)))))
      (pss_cons (ps_if (PW.pt (pw_and (pt_cmpR op_gt (pv 3) pe_int (nomark _)) (pw_and1 (pt_cmpR op_gt (pe_op op_modN (pe_op op_fdivN (pv 5) pe_int) pe_int) pe_int (nomark _))))) (pss_one (ps_set (i := 7) sc_l_blocks.nd rfl (Or.inr rfl) (pe_op (ok_plus (K := K) rfl) (pe_lst (pa_cons (pe_op op_modN (pe_op op_fdivN (pv 5) pe_int) (pv 3)) pa_nil)) (pe_listRg rfl (by rfl) M.m_list (prg_2 (by rfl) M.m_range (pv 3) (pe_op op_sub (pe_op (ok_plus (K := K) rfl) (pv 3) (pv 6)) pe_int)))))) pss_nil)
      (pss_one (ps_if (pt_cmpR op_lt (pe_callB (ok_max (K := K) rfl rfl) (by rfl) M.m_max (by decide +kernel) (pa_cons (pv 7) pa_nil)) pe_int (nomark _)) (pss_cons (ps_set (i := 3) sc_l_blocks.nd rfl (Or.inl rfl) (pe_op (ok_plus (K := K) rfl) (pe_callB (ok_max (K := K) rfl rfl) (by rfl) M.m_max (by decide +kernel) (pa_cons (pv 7) pa_nil)) pe_int))
      (pss_cons (ps_expr (pe_bm PySem.F.plainAttrs_list PySem.F.slot_list_append PySem.F.type_list_append mt_append (pv 1) (pa_cons (pv 7) pa_nil)))
      (pss_cons (ps_set (i := 8) sc_l_blocks.nd rfl (Or.inl rfl) (pe_cal C_l_tight hr (by decide) pass0 (pa_cons (pv 5) (pa_cons (pv 6) pa_nil))))
      (pss_one (ps_expr (pe_bm PySem.F.plainAttrs_list PySem.F.slot_list_append PySem.F.type_list_append mt_append (pv 2) (pa_cons (pe_lc (own := [("_law_one", 9), ("_law_other", 10)]) (g := (gTup K 2 (gCons (gName 9) (gCons (gName 10) gNil)))) (tt := tYes) rfl sc_l_blocks.nd (ok_ilist (K := K) rfl (pv 8)) (blkOk_by (N := ["_law_script", "_law_blocks_here", "_law_bars", "_law_many", "_law_k", "_law_cell", "_law_size", "_law_joints", "_law_rows", "_law_one", "_law_other"]) (sc := defScope s_l_blocks) (by decide +kernel)) (fun _ _ _ _ _ => (ok_tup (K := K) rfl rfl (pgs_cons (pg_name (i := 9) sc_l_blocks.nd rfl (Or.inl rfl)) (pgs_cons (pg_name (i := 10) sc_l_blocks.nd rfl (Or.inl rfl)) pgs_nil)))) (fun _ _ _ _ _ => pts_nil) (fun _ _ _ _ _ => (pe_tup (pa_cons (pe_ix (ok_ix (K := K) rfl) (pv 7) (pv 9) (fun _ _ => rfl)) (pa_cons (pe_ix (ok_ix (K := K) rfl) (pv 7) (pv 10) (fun _ _ => rfl)) pa_nil))))) pa_nil))))))) pss_nil)))))))
      (pss_one (ps_ret (pe_tup (pa_cons (pv 3) (pa_cons (pv 1) (pa_cons (pv 2) pa_nil)))))))))), ?_⟩
  refine TM.finQ (K := K) h fun ds g PQ rel => ?_
  cases rel with | mk ns =>
  refine TM.seq (ρ1 := [.k (.ro ns), .o (([] : List (List Nat)).map rowD), .u, .u, .u, .u, .u, .u, .u, .u, .u]) (g1 := []) (TM.of (T.asgF (es := []) (EvF.to (ev_lst ea_nil (Nat.zero_le _)) rfl) ⟨rfl, rfl⟩)) ?_
  refine TM.seqP (N := fun r x => ∃ q, r = [.k (.ro ns), .o (([] : List (List Nat)).map rowD), .k (.adr q), .u, .u, .u, .u, .u, .u, .u, .u] ∧ x = [(q, .n .lst (adrM []))]) (TM.asgN (EvX.ofM em_lnew) fun q => ⟨q, rfl, rfl⟩) ?_
  rintro r x ⟨q, rfl, rfl⟩
  refine TM.seq (ρ1 := [.k (.ro ns), .o (([] : List (List Nat)).map rowD), .k (.adr q), .k (.int ((0 : Nat) : Int)), .u, .u, .u, .u, .u, .u, .u]) (g1 := [(q, .n .lst (adrM []))]) (TM.of (T.asg ev_int ⟨rfl, rfl⟩)) ?_
  obtain ⟨e0, l0⟩ := md_eq (cell ns 0) (show 0 < 5 by decide)
  generalize md (cell ns 0) 5 = t at e0 l0
  refine TM.seqP (N := fun r x => ∃ (m : Nat) (Bs : List (List Nat)) (Ks : List (List Fr.Bar)) (as : List Addr) (s4 s5 s6 s7 s8 : Sl), (r = [.k (.ro ns), .o (Bs.map rowD), .k (.adr q), .k (.int (m : Int)), s4, s5, s6, s7, s8, .u, .u] ∧ x = (q, .n .lst (adrM as)) :: as.zip (Ks.map barsT) ∧ as.length = Ks.length) ∧ Drawing m Bs Ks ∧ 1 ≤ Bs.length ∧ Bs.length ≤ 5)
    (TM.forN (n := 1 + t) (ei_rng1 (j := ((1 + t : Nat) : Int)) (ea_cons (EvD.to (ev_op ev_int (ev_op (ev_call (ea_cons (ev_var rfl) (ea_cons ev_int ea_nil)) (.mk ns 0 (by decide))) ev_int (rv_mod (by decide) (by decide))) rv_plusI) (by show D.int _ = D.int _; congr 1; omega)) ea_nil) ⟨by omega, by omega⟩)
      (fun i r x => ∃ (m : Nat) (Bs : List (List Nat)) (Ks : List (List Fr.Bar)) (as : List Addr) (s4 s5 s6 s7 s8 : Sl), (r = [.k (.ro ns), .o (Bs.map rowD), .k (.adr q), .k (.int (m : Int)), s4, s5, s6, s7, s8, .u, .u] ∧ x = (q, .n .lst (adrM as)) :: as.zip (Ks.map barsT) ∧ as.length = Ks.length) ∧ Drawing m Bs Ks ∧ Bs.length ≤ i ∧ (i = 0 → m = 0) ∧ (0 < i → 1 ≤ Bs.length))
      ⟨0, [], [], [], _, _, _, _, _, ⟨rfl, rfl, rfl⟩, drawing_nil, Nat.le_refl _, (fun _ => rfl), fun h => absurd h (Nat.lt_irrefl _)⟩ ?_ ?_) ?_
  · rintro k r x hk ⟨m, Bs, Ks, as, s4, s5, s6, s7, s8, ⟨rfl, rfl, hal⟩, dr, hb, hz, hp⟩
    refine ⟨_, eg_name, ?_⟩
    generalize hc : mixed (cell ns (1 + (k : Int))) (k : Int) = c
    have c0 : 0 ≤ c := by rw [← hc]; exact mixed_nn _ _
    refine TM.seq (ρ1 := [.k (.ro ns), .o (Bs.map rowD), .k (.adr q), .k (.int (m : Int)), .k (.int (k : Int)), .k (.int c), s6, s7, s8, .u, .u]) (g1 := (q, .n .lst (adrM as)) :: as.zip (Ks.map barsT)) (TM.of (T.asg (EvD.to (ev_call (ea_cons (ev_call (d := .int (cell ns (1 + (k : Int)))) (ea_cons (ev_var rfl) (ea_cons (ev_op ev_int (ev_var rfl) rv_plusI) ea_nil)) (.mk ns _ (by omega))) (ea_cons (ev_var rfl) ea_nil)) (.mk _ _)) (by rw [hc])) ⟨rfl, rfl⟩)) ?_
    obtain ⟨e4, l4⟩ := md_eq c (show 0 < 4 by decide)
    generalize hsz : 2 + md c 4 = sz
    have esz : (sz : Int) = 2 + c % 4 := by omega
    refine TM.seq (ρ1 := [.k (.ro ns), .o (Bs.map rowD), .k (.adr q), .k (.int (m : Int)), .k (.int (k : Int)), .k (.int c), .k (.int (sz : Int)), s7, s8, .u, .u]) (g1 := (q, .n .lst (adrM as)) :: as.zip (Ks.map barsT)) (TM.of (T.asg (EvD.to (ev_op ev_int (ev_op (ev_var rfl) ev_int (rv_mod (by decide) (by decide))) rv_plusI) (by rw [esz])) ⟨rfl, rfl⟩)) ?_
    have hm16 := dr.le
    refine TM.seq (ρ1 := [.k (.ro ns), .o (Bs.map rowD), .k (.adr q), .k (.int (m : Int)), .k (.int (k : Int)), .k (.int c), .k (.int (sz : Int)), .k (rowD (List.range' m sz)), s8, .u, .u]) (g1 := (q, .n .lst (adrM as)) :: as.zip (Ks.map barsT)) (TM.of (T.asg (EvF.data (EvF.to (evF_listRg2 (x := m) (y := m + sz) (ev_var rfl) (EvD.to (ev_op (ev_var rfl) (ev_var rfl) rv_plusI) rfl) (by omega) (by omega)) (by rw [Nat.add_sub_cancel_left, ← nD_kI]))) ⟨rfl, rfl⟩)) ?_
    -- the joints of the block
    refine TM.seqP (N := fun r x => ∃ (J : List Nat) (mx : Nat), (r = [.k (.ro ns), .o (Bs.map rowD), .k (.adr q), .k (.int (m : Int)), .k (.int (k : Int)), .k (.int c), .k (.int (sz : Int)), .k (rowD J), s8, .u, .u] ∧ x = (q, .n .lst (adrM as)) :: as.zip (Ks.map barsT)) ∧ J.length = sz ∧ J.Nodup ∧ mx ∈ J ∧ (∀ y ∈ J, y ≤ mx) ∧ m ≤ mx + 1 ∧ (∀ x, x < mx + 1 → x < m ∨ x ∈ J) ∧ (∀ x ∈ J, ∀ y ∈ J, x < m → y < m → x = y) ∧ (m = 0 → mx < 16)) ?_ ?_
    · refine TM.ifX (b := decide ((0 : Int) < (m : Int)) && decide ((0 : Int) < c / 4 % 3)) (EvXT.of (et_and (et_test (ev_op (ev_var rfl) ev_int rv_gt)) fun _ => et_test (ev_op (ev_op (ev_op (ev_var rfl) ev_int (rv_div ⟨by decide, by decide⟩ (by decide))) ev_int (rv_mod (by decide) (by decide))) ev_int rv_gt))) (fun hb => ?_) (fun hb => ?_)
      · rw [Bool.and_eq_true, decide_eq_true_eq] at hb
        have hm0 : 0 < m := by have := hb.1; omega
        obtain ⟨e5, l5⟩ := md_eq (c / 12) hm0
        generalize md (c / 12) m = z at e5 l5
        refine TM.of (T.asg (d := rowD (z :: List.range' m (sz - 1))) (EvF.data (EvF.to (ev_opF (x := .lst [.int (z : Int)]) (y := .lst ((kI (List.range' m (sz - 1))).map D.int)) (EvF.data (ev_lst (ea_cons (EvD.to (ev_op (ev_op (ev_var rfl) ev_int (rv_div ⟨by decide, by decide⟩ (by decide))) (ev_var rfl) (rv_mod (by omega) (by omega))) (by rw [e5])) ea_nil) (Nat.le_of_ble_eq_true rfl))) (EvF.data (EvF.to (evF_listRg2 (x := m) (y := m + (sz - 1)) (ev_var rfl) (EvD.to (ev_op (ev_op (ev_var rfl) (ev_var rfl) rv_plusI) ev_int rv_sub) (by congr 1; omega)) (by omega) (by omega)) (by rw [Nat.add_sub_cancel_left]))) (rvF_plus (by rw [List.length_map, kI_len, List.length_range']; show 1 + _ ≤ _; omega))) (by rw [← nD_kI]; rfl)))
          ⟨_, m + sz - 2, ⟨rfl, rfl⟩, by rw [List.length_cons, List.length_range']; omega, List.nodup_cons.mpr ⟨fun h => by have := (List.mem_range'_1.mp h).1; omega, List.nodup_range'⟩, List.mem_cons_of_mem _ (List.mem_range'_1.mpr ⟨by omega, by omega⟩), fun y hy => ?_, by omega, fun x hx => ?_, fun x hx y hy h1 h2 => ?_, by omega⟩)
        · rcases List.mem_cons.mp hy with rfl | hy
          · omega
          · have := List.mem_range'_1.mp hy; omega
        · by_cases q : x < m
          · exact .inl q
          · exact .inr (List.mem_cons_of_mem _ (List.mem_range'_1.mpr ⟨by omega, by omega⟩))
        · rcases List.mem_cons.mp hx with rfl | hx
          · rcases List.mem_cons.mp hy with rfl | hy
            · rfl
            · have := (List.mem_range'_1.mp hy).1; omega
          · have := (List.mem_range'_1.mp hx).1; omega
      · refine TM.next ⟨_, m + sz - 1, ⟨rfl, rfl⟩, List.length_range', List.nodup_range', List.mem_range'_1.mpr ⟨by omega, by omega⟩, fun y hy => by have := List.mem_range'_1.mp hy; omega, by omega, fun x hx => ?_, fun x hx y hy h1 h2 => by have := (List.mem_range'_1.mp hx).1; omega, by omega⟩
        by_cases q : x < m
        · exact .inl q
        · exact .inr (List.mem_range'_1.mpr ⟨by omega, by omega⟩)
    rintro r x ⟨J, mx, ⟨rfl, rfl⟩, jl, jn, jm, jle, jup, jcov, jone, j0⟩
    have mxe : EvD K (tCB (rMax K) (tCons (tVar 7) tNil)) [.k (.ro ns), .o (Bs.map rowD), .k (.adr q), .k (.int (m : Int)), .k (.int (k : Int)), .k (.int c), .k (.int (sz : Int)), .k (rowD J), s8, .u, .u] (.int (mx : Int)) := ev_cb (ea_cons (EvD.to (ev_var rfl) (rowD_kI J)) ea_nil) (rc_max (kI_mem.mpr jm) fun y hy => by obtain ⟨z, hz, rfl⟩ := List.mem_map.mp hy; have := jle z hz; omega)
    refine TM.ifX (b := decide ((mx : Int) < 16)) (EvXT.of (et_test (ev_op mxe ev_int rv_lt))) (fun hb => ?_) (fun hb => ?_)
    · have hb : mx < 16 := by have := of_decide_eq_true hb; omega
      refine TM.seq (ρ1 := [.k (.ro ns), .o (Bs.map rowD), .k (.adr q), .k (.int ((mx + 1 : Nat) : Int)), .k (.int (k : Int)), .k (.int c), .k (.int (sz : Int)), .k (rowD J), s8, .u, .u]) (g1 := (q, .n .lst (adrM as)) :: as.zip (Ks.map barsT)) (TM.of (T.asg (ev_op mxe ev_int rv_plusI) ⟨rfl, rfl⟩)) ?_
      refine TM.seq (ρ1 := [.k (.ro ns), .o ((Bs ++ [J]).map rowD), .k (.adr q), .k (.int ((mx + 1 : Nat) : Int)), .k (.int (k : Int)), .k (.int c), .k (.int (sz : Int)), .k (rowD J), s8, .u, .u]) (g1 := (q, .n .lst (adrM as)) :: as.zip (Ks.map barsT)) (TM.of (T.append (i := 1) rfl (ev_var rfl) (by rw [List.length_map]; omega) ⟨by rw [List.map_append]; rfl, rfl⟩)) ?_
      obtain ⟨tok, _, tln⟩ := Fr.tight_ok (mx := mxN c) (show 2 ≤ sz by omega)
      refine TM.seq (ρ1 := [.k (.ro ns), .o ((Bs ++ [J]).map rowD), .k (.adr q), .k (.int ((mx + 1 : Nat) : Int)), .k (.int (k : Int)), .k (.int c), .k (.int (sz : Int)), .k (rowD J), .k (.lst (brs (Fr.tightB (mxN c) sz))), .u, .u]) (g1 := (q, .n .lst (adrM as)) :: as.zip (Ks.map barsT)) (TM.of (T.asg (EvF.data (ev_callF (ea_cons (ev_var rfl) (ea_cons (ev_var rfl) ea_nil)) (.mk c sz (by omega) (by omega)))) ⟨rfl, rfl⟩)) ?_
      have dr2 := drawing_step dr (mxN c) jn (by omega) (by omega) (fun x hx => by have := jle x hx; omega) jup (by omega) jcov jone
      rw [jl] at dr2
      generalize Fr.tightB (mxN c) sz = tb at tok tln dr2
      have jg : ∀ x : Nat, x < sz → atI (nD J) (x : Int) = some (.int ((J.getD x 0 : Nat) : Int)) := fun x hx => atI_nat (by rw [nD_kI]; exact natL_get (by omega))
      have cells : ∀ (E : Prop), E → E := fun _ h => h
      refine TM.appendT (i := 2) (a := q) (ms := adrM as) (mv := barsT (tb.map (Fr.fb fun x => J.getD x 0))) (g2 := (q, .n .lst (adrM as)) :: as.zip (Ks.map barsT)) (gl := []) (gr := as.zip (Ks.map barsT)) rfl List.mem_cons_self
        (EvX.root (EvX.fresh (EvF.to (evF_lcM (xs := tb) (gd := fun b => barD (bI b)) (ei_list (EvD.to (ev_var rfl) (by unfold brs; rw [List.map_map]; rfl))) (fun b => [(9, .int (b.1 : Int)), (10, .int (b.2 : Int))]) (fun _ => true) (fun b => barD (bI (Fr.fb (fun x => J.getD x 0) b))) (fun b _ => eg_tup (egs_cons eg_name (egs_cons eg_name egs_nil)) rfl) (fun b _ p hp => by simp only [List.mem_cons, List.not_mem_nil, or_false] at hp; rcases hp with rfl | rfl <;> simp) (fun b _ => et_yes) (fun b hb _ => ?_) (by omega)) ?_))) rfl (by unfold adrM; rw [List.length_map]; have := dr.cnt; have := dr.len; omega) fun p0 => ⟨_, _, _, as ++ [p0], _, _, _, _, _, ⟨rfl, ?_, by rw [List.length_append, List.length_append, hal]; rfl⟩, dr2, by rw [List.length_append]; show _ + 1 ≤ _; omega, (fun h => by omega), fun _ => by rw [List.length_append]; show 1 ≤ _ + 1; omega⟩
      · obtain ⟨o1, o2, _⟩ := tok b hb
        exact ev_tup (ea_cons (ev_op (ev_var rfl) (ev_var rfl) (rv_ixL (jg b.1 o1))) (ea_cons (ev_op (ev_var rfl) (ev_var rfl) (rv_ixL (jg b.2 o2))) ea_nil)) (Nat.le_of_ble_eq_true rfl)
      · rw [List.filter_eq_self.mpr fun _ _ => rfl]
        unfold brs
        rw [List.map_map, List.map_map]
        rfl
      · rw [zip_bars hal]
        unfold adrM
        rw [List.map_append]
        rfl
    · have hb : ¬ mx < 16 := fun z => of_decide_eq_false hb (by omega)
      refine TM.next ⟨m, Bs, Ks, as, _, _, _, _, _, ⟨rfl, rfl, hal⟩, dr, by omega, (fun h => by omega), fun _ => ?_⟩
      by_cases q : 0 < k
      · exact hp q
      · exact absurd (j0 (hz (by omega))) hb
  · rintro r x ⟨m, Bs, Ks, as, s4, s5, s6, s7, s8, ⟨rfl, rfl, hal⟩, dr, hb, _, hp⟩
    exact ⟨m, Bs, Ks, as, _, _, _, _, _, ⟨rfl, rfl, hal⟩, dr, hp (by omega), by omega⟩
  · rintro r x ⟨m, Bs, Ks, as, s4, s5, s6, s7, s8, ⟨rfl, rfl, hal⟩, dr, h1, h5⟩
    refine TM.join (g1 := []) (List.Perm.refl _) (by rw [List.length_map]; exact hal) ?_
    exact TM.freeze (i := 1) rfl (TM.ret (ev_tup (ea_cons (ev_var rfl) (ea_cons (ev_var rfl) (ea_cons (ev_var rfl) ea_nil))) (Nat.le_of_ble_eq_true rfl)) ⟨[(q, blocksT Ks)], [], ⟨m, Bs, Ks, q, rfl, rfl, dr, h1, h5⟩, List.Perm.refl _⟩)
end
/-! ### l_grown -/
abbrev s_l_grown : Stmt := top 48
theorem sc_l_grown : FnScope ["_law_blocks_here", "_law_bars", "_law_cell", "_law_found", "_law_k", "_law_more", "_law_at", "_law_size", "_law_one", "_law_other"] ["_law_blocks_here", "_law_bars", "_law_cell"] (defScope s_l_grown) := ⟨rfl, rfl, rfl, by decide +kernel, rfl, by decide +kernel, by decide +kernel⟩
inductive R_l_grown : List D → Gs → (Rs → Gs → Prop) → Prop
  | mk (n : Nat) (Bs : List (List Nat)) (Ks : List (List Fr.Bar)) (q : Addr) (c : Int) (gl : Fr.Glued n n Bs Ks) (h1 : 1 ≤ Bs.length) (h5 : Bs.length ≤ 5) (five : ∀ B ∈ Bs, B.length ≤ 5) (cnt : Ks.flatten.length ≤ 35) : R_l_grown [.lst (Bs.map rowD), .adr q, .int c] [(q, blocksT Ks)]
      fun r g => ∃ (Ns : List (List Fr.Bar)) (more : List Nat), r = .o (nD more) ∧ g = [(q, blocksT Ns)] ∧ Fr.Grown n Bs Ks Ns ∧ (∀ a ∈ more, a < Bs.length) ∧ (∀ i : Nat, Ns[i]? ≠ Ks[i]? → i ∈ more) ∧ Ns.flatten.length = Ks.flatten.length + more.length ∧ more.length ≤ 3

section
variable {P : Program} {w : World} {K : PySem.W.Frag} {mg : Str → Option Value} {base : Heap}
theorem ok_l_grown {f : Addr} {fd : FuncData} (F : FnP K "_law_grown" s_l_grown f fd) (g : mg "_law_grown" = some (.ref f)) (M : Mods K mg) (C_l_mixed : Cal P w K mg base CX0 1 "_law_mixed" ["_law_cell", "_law_k"] (spD K R_l_mixed)) : Cal P w K mg base CX0 2 "_law_grown" ["_law_blocks_here", "_law_bars", "_law_cell"] (spQ K R_l_grown) := by
  refine ⟨f, fd, F.ok sc_l_grown (spQ_len fun _ _ _ r => by cases r <;> rfl) (fun cdv A outer s H vs Q E hr h => ?_), g, F.kp, F.bindsN fun _ _ _ _ _ _ us hl => match us, hl with | [_, _, _], _ => rfl⟩
  have hu := hr.units
  refine ⟨_, PSs.nox (pss_cons (ps_set (i := 3) sc_l_grown.nd rfl (Or.inl rfl) (pe_lst pa_nil))
      (pss_cons (ps_for PassesOwn.never rfl (pi_range1 (by rfl) M.m_range (pa_cons (pe_op op_modN (pv 2) pe_int) pa_nil)) (pg_name (i := 4) sc_l_grown.nd rfl (Or.inl rfl)) (pss_cons (ps_set (i := 5) sc_l_grown.nd rfl (Or.inl rfl) (pe_cal C_l_mixed hr (by decide) pass0 (pa_cons (pe_op op_fdivN (pv 2) pe_int) (pa_cons (pv 4) pa_nil))))
      (pss_cons (ps_set (i := 6) sc_l_grown.nd rfl (Or.inl rfl) (pe_op op_modN (pv 5) (pe_callB (ok_len (K := K) rfl) (by rfl) M.m_len (by decide +kernel) (pa_cons (pv 0) pa_nil))))
      (pss_cons (ps_set (i := 7) sc_l_grown.nd rfl (Or.inl rfl) (pe_callB (ok_len (K := K) rfl) (by rfl) M.m_len (by decide +kernel) (pa_cons (pe_ix (ok_ix (K := K) rfl) (pv 0) (pv 6) (fun _ _ => rfl)) pa_nil)))
      (pss_cons (ps_set (i := 8) sc_l_grown.nd rfl (Or.inl rfl) (pe_op op_modN (pe_op op_fdivN (pv 5) pe_int) (pv 7)))
      (pss_cons (ps_set (i := 9) sc_l_grown.nd rfl (Or.inl rfl) (pe_op op_modN (pe_op (ok_plus (K := K) rfl) (pe_op (ok_plus (K := K) rfl) (pv 8) pe_int) (pe_op op_modN (pe_op op_fdivN (pv 5) pe_int) (pe_op op_sub (pv 7) pe_int))) (pv 7)))
      (pss_cons (ps_expr (pe_bm PySem.F.plainAttrs_list PySem.F.slot_list_append PySem.F.type_list_append mt_append (pe_ix (ok_ix (K := K) rfl) (pv 1) (pv 6) (fun _ _ => rfl)) (pa_cons (pe_tup (pa_cons (pe_ix (ok_ix (K := K) rfl) (pe_ix (ok_ix (K := K) rfl) (pv 0) (pv 6) (fun _ _ => rfl)) (pv 8) (fun _ _ => rfl)) (pa_cons (pe_ix (ok_ix (K := K) rfl) (pe_ix (ok_ix (K := K) rfl) (pv 0) (pv 6) (fun _ _ => rfl)) (pv 9) (fun _ _ => rfl)) pa_nil))) pa_nil)))
      (pss_one (ps_expr (pe_bm PySem.F.plainAttrs_list PySem.F.slot_list_append PySem.F.type_list_append mt_append (pv 3) (pa_cons (pv 6) pa_nil)))))))))))
      (pss_one (ps_ret (pv 3))))), ?_⟩
  refine TM.finQ (K := K) h fun ds g PQ rel => ?_
  cases rel with | mk n Bs Ks q c gl h1 h5 five cnt =>
  refine TM.seq (ρ1 := [.k (.lst (Bs.map rowD)), .k (.adr q), .k (.int c), .o (nD []), .u, .u, .u, .u, .u, .u]) (g1 := [(q, blocksT Ks)]) (TM.of (T.asgF (es := []) (EvF.to (ev_lst ea_nil (Nat.zero_le _)) rfl) ⟨rfl, rfl⟩)) ?_
  obtain ⟨e0, l0⟩ := md_eq c (show 0 < 4 by decide)
  generalize md c 4 = t at e0 l0
  refine TM.seqP (N := fun r x => ∃ (Ns : List (List Fr.Bar)) (more : List Nat) (s4 s5 s6 s7 s8 s9 : Sl), (r = [.k (.lst (Bs.map rowD)), .k (.adr q), .k (.int c), .o (nD more), s4, s5, s6, s7, s8, s9] ∧ x = [(q, blocksT Ns)]) ∧ Fr.Grown n Bs Ks Ns ∧ (∀ a ∈ more, a < Bs.length) ∧ (∀ i : Nat, Ns[i]? ≠ Ks[i]? → i ∈ more) ∧ Ns.flatten.length = Ks.flatten.length + more.length ∧ more.length ≤ 3)
    (TM.forN (n := t) (ei_rng1 (j := (t : Int)) (ea_cons (EvD.to (ev_op (ev_var rfl) ev_int (rv_mod (by decide) (by decide))) (by rw [e0]; rfl)) ea_nil) ⟨by omega, by omega⟩)
      (fun i r x => ∃ (Ns : List (List Fr.Bar)) (more : List Nat) (s4 s5 s6 s7 s8 s9 : Sl), (r = [.k (.lst (Bs.map rowD)), .k (.adr q), .k (.int c), .o (nD more), s4, s5, s6, s7, s8, s9] ∧ x = [(q, blocksT Ns)]) ∧ Fr.Grown n Bs Ks Ns ∧ (∀ a ∈ more, a < Bs.length) ∧ (∀ i : Nat, Ns[i]? ≠ Ks[i]? → i ∈ more) ∧ Ns.flatten.length = Ks.flatten.length + more.length ∧ more.length = i)
      ⟨Ks, [], _, _, _, _, _, _, ⟨rfl, rfl⟩, Fr.grown_start gl, (fun _ h => nomatch h), (fun i h => absurd rfl h), rfl, rfl⟩ ?_ ?_) ?_
  · rintro k r x hk ⟨Ns, more, s4, s5, s6, s7, s8, s9, ⟨rfl, rfl⟩, gr, hm, hch, hln, hml⟩
    refine ⟨_, eg_name, ?_⟩
    obtain ⟨_, g2, g3, _⟩ := Fr.glued_low gl
    have nlen := gr.len
    generalize hc : mixed (c / 4) (k : Int) = z
    refine TM.seq (ρ1 := [.k (.lst (Bs.map rowD)), .k (.adr q), .k (.int c), .o (nD more), .k (.int (k : Int)), .k (.int z), s6, s7, s8, s9]) (g1 := [(q, blocksT Ns)]) (TM.of (T.asg (EvD.to (ev_call (ea_cons (ev_op (ev_var rfl) ev_int (rv_div ⟨by decide, by decide⟩ (by decide))) (ea_cons (ev_var rfl) ea_nil)) (.mk _ _)) (by rw [hc])) ⟨rfl, rfl⟩)) ?_
    obtain ⟨e1, l1⟩ := md_eq z (show 0 < Bs.length by omega)
    generalize md z Bs.length = a at e1 l1
    have hB : Bs[a]? = some Bs[a] := List.getElem?_eq_getElem l1
    have hBm : Bs[a] ∈ Bs := List.getElem_mem l1
    have hKa : a < Ks.length := by omega
    obtain ⟨Bnd, B2, Blow, _⟩ := Fr.glued_at gl a _ _ hB (List.getElem?_eq_getElem hKa)
    have B5 := five _ hBm
    have hNa : a < Ns.length := by omega
    have hN : Ns[a]? = some Ns[a] := List.getElem?_eq_getElem hNa
    have hNl : (Ns[a]).length ≤ Ns.flatten.length := (Fr.sub_flat hN).length_le
    generalize Ns[a] = N at hN hNl
    have rowAt : atI (Bs.map rowD) (a : Int) = some (rowD Bs[a]) := atI_nat (by rw [List.getElem?_map, hB]; rfl)
    generalize Bs[a] = B at hB hBm Bnd B2 Blow B5 rowAt
    refine TM.seq (ρ1 := [.k (.lst (Bs.map rowD)), .k (.adr q), .k (.int c), .o (nD more), .k (.int (k : Int)), .k (.int z), .k (.int (a : Int)), s7, s8, s9]) (g1 := [(q, blocksT Ns)]) (TM.of (T.asg (EvD.to (ev_op (ev_var rfl) (ev_cb (ea_cons (ev_var rfl) ea_nil) rc_lenL) (rv_mod (by rw [List.length_map]; omega) (by omega))) (by rw [List.length_map, e1])) ⟨rfl, rfl⟩)) ?_
    refine TM.seq (ρ1 := [.k (.lst (Bs.map rowD)), .k (.adr q), .k (.int c), .o (nD more), .k (.int (k : Int)), .k (.int z), .k (.int (a : Int)), .k (.int (B.length : Int)), s8, s9]) (g1 := [(q, blocksT Ns)]) (TM.of (T.asg (EvD.to (ev_cb (ea_cons (EvD.to (ev_op (ev_var rfl) (ev_var rfl) (rv_ixL rowAt)) rfl) ea_nil) rc_lenL) (by rw [nD_len])) ⟨rfl, rfl⟩)) ?_
    obtain ⟨p1, p2, p3, p4, p5⟩ := pPair (z / 5) (z / 25) B2
    generalize pOther (z / 5) (z / 25) B.length = y at p2 p4 p5
    generalize pOne (z / 5) B.length = x at p1 p2 p3 p5
    refine TM.seq (ρ1 := [.k (.lst (Bs.map rowD)), .k (.adr q), .k (.int c), .o (nD more), .k (.int (k : Int)), .k (.int z), .k (.int (a : Int)), .k (.int (B.length : Int)), .k (.int (x : Int)), s9]) (g1 := [(q, blocksT Ns)]) (TM.of (T.asg (EvD.to (ev_op (ev_op (ev_var rfl) ev_int (rv_div ⟨by decide, by decide⟩ (by decide))) (ev_var rfl) (rv_mod (by omega) (by omega))) (by rw [p1])) ⟨rfl, rfl⟩)) ?_
    refine TM.seq (ρ1 := [.k (.lst (Bs.map rowD)), .k (.adr q), .k (.int c), .o (nD more), .k (.int (k : Int)), .k (.int z), .k (.int (a : Int)), .k (.int (B.length : Int)), .k (.int (x : Int)), .k (.int (y : Int))]) (g1 := [(q, blocksT Ns)]) (TM.of (T.asg (EvD.to (ev_op (ev_op (ev_op (ev_var rfl) ev_int rv_plusI) (ev_op (ev_op (ev_var rfl) ev_int (rv_div ⟨by decide, by decide⟩ (by decide))) (ev_op (ev_var rfl) ev_int rv_sub) (rv_mod (by omega) (by omega))) rv_plusI) (ev_var rfl) (rv_mod (by omega) (by omega))) (by rw [p2])) ⟨rfl, rfl⟩)) ?_
    have jg : ∀ x : Nat, x < B.length → atI (nD B) (x : Int) = some (.int ((B.getD x 0 : Nat) : Int)) := fun x hx => atI_nat (by rw [nD_kI]; exact natL_get hx)
    have ne : B.getD x 0 ≠ B.getD y 0 := fun e => by
      have e : B[x] = B[y] := by simpa [List.getD, p3, p4] using e
      rcases Nat.lt_trichotomy x y with l | l | l
      · exact absurd e (List.pairwise_iff_getElem.mp Bnd x y p3 p4 l)
      · exact p5 l
      · exact absurd e.symm (List.pairwise_iff_getElem.mp Bnd y x p4 p3 l)
    have gr2 := Fr.grown_step (b := (B.getD x 0, B.getD y 0)) gr hB hN ⟨Fr.getD_mem p3, Fr.getD_mem p4, ne⟩
    have fl2 := Fr.flat_set_len (B.getD x 0, B.getD y 0) hN
    have bget : (Ns.map barsT)[a]? = some (barsT N) := by rw [List.getElem?_map, hN]; rfl
    have putE : Pl.M.put (.n .lst ((brs N).map Pl.M.d ++ [.d (barD (bI (B.getD x 0, B.getD y 0)))])) ([] ++ [a]) (blocksT Ns) = blocksT (Ns.set a (N ++ [(B.getD x 0, B.getD y 0)])) := by
      unfold blocksT
      simp only [List.nil_append, Pl.M.put, bget]
      rw [List.map_set]
      have e : barsT (N ++ [(B.getD x 0, B.getD y 0)]) = .n .lst ((brs N).map Pl.M.d ++ [.d (barD (bI (B.getD x 0, B.getD y 0)))]) := by
        unfold barsT
        rw [brs_app, List.map_append]
        rfl
      rw [e]
    have atE : Pl.M.at ([] ++ [a]) (blocksT Ns) = some (.n .lst ((brs N).map Pl.M.d)) := by
      unfold blocksT
      simp only [List.nil_append, Pl.M.at, bget]
      rfl
    refine TM.seq (ρ1 := [.k (.lst (Bs.map rowD)), .k (.adr q), .k (.int c), .o (nD more), .k (.int (k : Int)), .k (.int z), .k (.int (a : Int)), .k (.int (B.length : Int)), .k (.int (x : Int)), .k (.int (y : Int))]) (g1 := [(q, blocksT (Ns.set a (N ++ [(B.getD x 0, B.getD y 0)])))])
      (TM.append (gl := []) (gr := []) (a := q) (m := blocksT Ns) (π := [] ++ [a]) (ms := (brs N).map Pl.M.d) (d := barD (bI (B.getD x 0, B.getD y 0))) (ep_ix (ms := Ns.map barsT) (ep_var rfl) (ev_var rfl) List.mem_cons_self rfl bget) rfl atE
        (ev_tup (ea_cons (ev_op (EvD.to (ev_op (ev_var rfl) (ev_var rfl) (rv_ixL rowAt)) rfl) (ev_var rfl) (rv_ixL (jg x p3))) (ea_cons (ev_op (EvD.to (ev_op (ev_var rfl) (ev_var rfl) (rv_ixL rowAt)) rfl) (ev_var rfl) (rv_ixL (jg y p4))) ea_nil)) (Nat.le_of_ble_eq_true rfl)) (by rw [List.length_map, brs_len]; omega) ⟨rfl, by rw [putE]; rfl⟩) ?_
    refine TM.of (T.append (i := 3) (d := .int (a : Int)) rfl (ev_var rfl) (by rw [nD_len]; omega) ⟨_, more ++ [a], _, _, _, _, _, _, ⟨by rw [← nD_snoc]; rfl, rfl⟩, gr2, fun w hw => ?_, fun i hi => ?_, by rw [fl2, hln, List.length_append]; rfl, by rw [List.length_append, hml]; rfl⟩)
    · rcases List.mem_append.mp hw with h | h
      · exact hm w h
      · rw [List.mem_singleton.mp h]; exact l1
    · by_cases e : a = i
      · exact List.mem_append_right _ (List.mem_singleton.mpr e.symm)
      · rw [List.getElem?_set_ne e] at hi
        exact List.mem_append_left _ (hch i hi)
  · rintro r x ⟨Ns, more, s4, s5, s6, s7, s8, s9, ⟨rfl, rfl⟩, gr, hm, hch, hln, hml⟩
    exact ⟨Ns, more, _, _, _, _, _, _, ⟨rfl, rfl⟩, gr, hm, hch, hln, by omega⟩
  · rintro r x ⟨Ns, more, s4, s5, s6, s7, s8, s9, ⟨rfl, rfl⟩, gr, hm, hch, hln, hml⟩
    exact TM.retO rfl ⟨[(q, blocksT Ns)], [], ⟨Ns, more, rfl, rfl, gr, hm, hch, hln, hml⟩, List.Perm.refl _⟩
end
/-! ### law -/
abbrev s_law : Stmt := top 49
theorem sc_law : FnScope ["_law_script", "_law_count", "_law_blocks_here", "_law_rows", "_law_more", "_law_order_here", "_law_plain", "_law_bars", "_law_names", "_law_due", "_law_whole_here", "_law_one", "_law_other", "_law_shared", "_law_found", "_law_spare", "_law_number", "_law_told", "_law_left", "_law_block", "_law_joint", "_law_at", "_law_k"] ["_law_script"] (defScope s_law) := ⟨rfl, rfl, rfl, by decide +kernel, rfl, by decide +kernel, by decide +kernel⟩
inductive R_law : List D → D → Prop
  | mk (ns : List Int) (h : ns.length ≤ 63) : R_law [.ro ns] (.bl true)
theorem ev_worth {K : PySem.W.Frag} {ρ : Rho} {tA : TA} {E : XK} {n : Nat} {nb : List Fr.Bar} (h1 : 1 ≤ n) (h2 : n ≤ 16) (ok : Fr.Ok n nb) (hl : nb.length ≤ 60) (ha : EvA K tA ρ [.int (n : Int), .lst (brs nb)]) : EvD K (tCall (spG K R_worth) [] E tA) ρ (.int (Fr.rk n nb : Int)) := by
  have W0 := R_worth.mk n nb h1 h2 ok hl
  rw [(Fr.chosen_spec ok).1, Fr.pickB_len] at W0
  exact ev_callG ha W0
theorem R_l_is_knot.of {nb : List Fr.Bar} {l : List Nat} {i : Nat} {js : List Nat} (k : Knot nb l i js) (hl : nb.length ≤ 60) (hj : js.length ≤ 10) : R_l_is_knot [.lst (brs nb), .lst ((kI l).map D.int), .int (i : Int)] (.bl true) := by
  have := Fr.small_len (k.h1.imp fun h => Nat.ne_of_lt h) k.h2
  exact .mk nb l i js k.h1 k.h2 (by omega) k.h4 k.j1 k.j2 hj k.hc k.hs
/-- rows that have both -/
def shareL (rows : List (List Nat)) (a b : Nat) : List (List Nat) := rows.filter fun C => decide (a ∈ C) && decide (b ∈ C)
theorem share_ne {rows : List (List Nat)} {a b : Nat} : shareL rows a b ≠ [] ↔ ∃ C ∈ rows, a ∈ C ∧ b ∈ C := by
  unfold shareL
  rw [Ne, List.filter_eq_nil_iff]
  constructor
  · intro h
    by_cases q : ∃ C ∈ rows, a ∈ C ∧ b ∈ C
    · exact q
    · exact absurd (fun C hC z => q ⟨C, hC, by simpa using z⟩) h
  · rintro ⟨C, hC, h1, h2⟩ h
    exact h C hC (by rw [decide_eq_true h1, decide_eq_true h2]; rfl)
/-- [block for block in rows if one in block and other in block] -/
theorem ev_share {K : PySem.W.Frag} {ρ : Rho} {wi : TI} {t1 t2 : TE} {rows : List (List Nat)} {a b : Nat} {v : Nat} {vs : List Nat} (hi : EvI K wi ρ (rows.map rowD)) (hv : v ∈ vs) (hl : rows.length ≤ 1000) (h1 : ∀ C : List Nat, EvD K t1 (setR (wipeR ρ vs) [(v, rowD C)]) (.bl (decide ((a : Int) ∈ kI C)))) (h2 : ∀ C : List Nat, EvD K t2 (setR (wipeR ρ vs) [(v, rowD C)]) (.bl (decide ((b : Int) ∈ kI C)))) (h3 : ∀ C : List Nat, EvD K (tVar v) (setR (wipeR ρ vs) [(v, rowD C)]) (rowD C)) :
    EvF K (tLc wi (gName v) (tAnd (tTest t1) (tTest t2)) (tVar v) vs) ρ ((shareL rows a b).map rowD) := by
  unfold shareL
  refine evF_lcM (xs := rows) (gd := rowD) hi (fun C => [(v, rowD C)]) (fun C => decide (a ∈ C) && decide (b ∈ C)) rowD (fun C _ => eg_name) (fun C _ p hp => by rw [List.mem_singleton.mp hp]; exact hv) (fun C _ => et_and (EvT.to (et_test (h1 C)) (decide_eq_decide.mpr kI_mem)) fun _ => EvT.to (et_test (h2 C)) (decide_eq_decide.mpr kI_mem)) (fun C _ _ => h3 C) (by omega)
theorem emptyRows {rows : List (List Nat)} : decide (rows = ([] : List (List Nat))) = rows.isEmpty := by cases rows <;> rfl
theorem nD_nil {l : List Nat} : decide (kI l = []) = decide (l = []) := decide_eq_decide.mpr (by unfold kI; exact List.map_eq_nil_iff)

section
variable {P : Program} {w : World} {K : PySem.W.Frag} {mg : Str → Option Value} {base : Heap}
theorem ok_law {f : Addr} {fd : FuncData} (F : FnP K "law" s_law f fd) (g : mg "law" = some (.ref f)) (M : Mods K mg) (C_l_blocks : Cal P w K mg base CX0 3 "_law_blocks" ["_law_script"] (spQ K R_l_blocks)) (C_l_grown : Cal P w K mg base CX0 2 "_law_grown" ["_law_blocks_here", "_law_bars", "_law_cell"] (spQ K R_l_grown)) (C_l_order : Cal P w K mg base CX0 1 "_law_order" ["_law_cell", "_law_count"] (spF K R_l_order)) (C_l_named : Cal P w K mg base CX0 1 "_law_named" ["_law_bars", "_law_order_here", "_law_cell"] (spF K R_l_named)) (C_too_many : Cal P w K mg base CX0 7 "too_many" ["count", "bars"] (spG K R_too_many)) (C_knot : Cal P w K mg base CX0 7 "knot" ["count", "bars", "number"] (spG K R_knot)) (C_l_cell_at : Cal P w K mg base CX0 1 "_law_cell_at" ["_law_script", "_law_k"] (spD K R_l_cell_at)) (C_l_truth : Cal P w K mg base CX0 1 "_law_truth" ["_law_found", "_law_due"] (spD K R_l_truth)) (C_l_is_knot : Cal P w K mg base CX0 3 "_law_is_knot" ["_law_bars", "_law_numbers", "_law_number"] (spD K R_l_is_knot)) (C_parts : Cal P w K mg base CX0 7 "parts" ["count", "bars"] (spG K R_parts)) (C_worth : Cal P w K mg base CX0 7 "worth" ["count", "bars"] (spG K R_worth)) (C_is_stiff : Cal P w K mg base CX0 8 "is_stiff" ["count", "bars"] (spG K R_is_stiff)) (C_holds : Cal P w K mg base CX0 7 "holds" ["count", "bars", "one", "other"] (spG K R_holds)) (C_l_rising : Cal P w K mg base CX0 2 "_law_rising" ["_law_found", "_law_least", "_law_most"] (spD K R_l_rising)) : FnOk P w K mg base CX0 9 f fd ["_law_script"] (spD K R_law) := by
  refine F.ok sc_law (spD_len fun ds d r => by cases r <;> rfl) (fun cdv A outer s H vs Q E hr h => ?_)
  have hu := hr.units
  refine ⟨_, PSs.nox (pss_cons (ps_asg (pe_cal C_l_blocks hr (by decide) pass0 (pa_cons (pv 0) pa_nil)) (ok_tup (K := K) rfl rfl (pgs_cons (pg_name (i := 1) sc_law.nd rfl (Or.inl rfl)) (pgs_cons (pg_name (i := 2) sc_law.nd rfl (Or.inl rfl)) (pgs_cons (pg_name (i := 3) sc_law.nd rfl (Or.inl rfl)) pgs_nil)))))
      (pss_cons (ps_set (i := 4) sc_law.nd rfl (Or.inl rfl) (pe_cal C_l_grown hr (by decide) pass0 (pa_cons (pv 2) (pa_cons (pv 3) (pa_cons (pe_cal C_l_cell_at hr (by decide) pass0 (pa_cons (pv 0) (pa_cons pe_int pa_nil))) pa_nil)))))
      (pss_cons (ps_set (i := 5) sc_law.nd rfl (Or.inr rfl) (pe_cal C_l_order hr (by decide) pass0 (pa_cons (pe_cal C_l_cell_at hr (by decide) pass0 (pa_cons (pv 0) (pa_cons pe_int pa_nil))) (pa_cons (pv 1) pa_nil))))
      (pss_cons (ps_set (i := 6) sc_law.nd rfl (Or.inl rfl) (pe_callB (ok_sumL (K := K) rfl rfl) (by rfl) M.m_sum (by decide +kernel) (pa_cons (pv 3) (pa_cons (pe_lst pa_nil) pa_nil))))
      (pss_cons (ps_set (i := 7) sc_law.nd rfl (Or.inl rfl) (pe_cal C_l_named hr (by decide) pass0 (pa_cons (pv 6) (pa_cons (pv 5) (pa_cons (pe_cal C_l_cell_at hr (by decide) pass0 (pa_cons (pv 0) (pa_cons pe_int pa_nil))) pa_nil)))))
      (pss_cons (ps_set (i := 8) sc_law.nd rfl (Or.inr rfl) (pe_lc (own := [("_law_block", 19)]) (g := (gName 19)) (tt := tYes) rfl sc_law.nd (ok_ilist (K := K) rfl (pv 2)) (blkOk_by (N := ["_law_script", "_law_count", "_law_blocks_here", "_law_rows", "_law_more", "_law_order_here", "_law_plain", "_law_bars", "_law_names", "_law_due", "_law_whole_here", "_law_one", "_law_other", "_law_shared", "_law_found", "_law_spare", "_law_number", "_law_told", "_law_left", "_law_block", "_law_joint", "_law_at", "_law_k"]) (sc := defScope s_law) (by decide +kernel)) (fun _ _ _ _ _ => (pg_name (i := 19) sc_law.nd rfl (Or.inl rfl))) (fun _ _ _ _ _ => pts_nil) (fun _ _ _ _ _ => (pe_lc (own := [("_law_joint", 20)]) (g := (gName 20)) (tt := tYes) rfl sc_law.nd (ok_ilist (K := K) rfl (pv 19)) (blkOk_by (N := ["_law_script", "_law_count", "_law_blocks_here", "_law_rows", "_law_more", "_law_order_here", "_law_plain", "_law_bars", "_law_names", "_law_due", "_law_whole_here", "_law_one", "_law_other", "_law_shared", "_law_found", "_law_spare", "_law_number", "_law_told", "_law_left", "_law_block", "_law_joint", "_law_at", "_law_k"]) (sc := _) (by kernel_rfl)) (fun _ _ _ _ _ => (pg_name (i := 20) sc_law.nd rfl (Or.inl rfl))) (fun _ _ _ _ _ => pts_nil) (fun _ _ _ _ _ => (pe_ix (ok_ix (K := K) rfl) (pv 5) (pv 20) (fun _ _ => rfl)))))))
      (pss_cons (ps_set (i := 9) sc_law.nd rfl (Or.inl rfl) (pe_callB (ok_sortD (K := K) rfl hu) (by rfl) M.m_sorted (by decide +kernel) (pa_cons (pe_lc (own := [("_law_block", 19)]) (g := (gName 19)) (tt := tYes) rfl sc_law.nd (ok_ilist (K := K) rfl (pv 8)) (blkOk_by (N := ["_law_script", "_law_count", "_law_blocks_here", "_law_rows", "_law_more", "_law_order_here", "_law_plain", "_law_bars", "_law_names", "_law_due", "_law_whole_here", "_law_one", "_law_other", "_law_shared", "_law_found", "_law_spare", "_law_number", "_law_told", "_law_left", "_law_block", "_law_joint", "_law_at", "_law_k"]) (sc := defScope s_law) (by decide +kernel)) (fun _ _ _ _ _ => (pg_name (i := 19) sc_law.nd rfl (Or.inl rfl))) (fun _ _ _ _ _ => pts_nil) (fun _ _ _ _ _ => (pe_callB (ok_sortedI (K := K) rfl) (by rfl) M.m_sorted (by decide +kernel) (pa_cons (pv 19) pa_nil)))) pa_nil)))
      (pss_cons (ps_set (i := 10) sc_law.nd rfl (Or.inl rfl) (pe_callB (ok_sum (K := K) rfl rfl) (by rfl) M.m_sum (by decide +kernel) (pa_cons (pe_lc (own := [("_law_block", 19)]) (g := (gName 19)) (tt := tYes) rfl sc_law.nd (ok_ilist (K := K) rfl (pv 2)) (blkOk_by (N := ["_law_script", "_law_count", "_law_blocks_here", "_law_rows", "_law_more", "_law_order_here", "_law_plain", "_law_bars", "_law_names", "_law_due", "_law_whole_here", "_law_one", "_law_other", "_law_shared", "_law_found", "_law_spare", "_law_number", "_law_told", "_law_left", "_law_block", "_law_joint", "_law_at", "_law_k"]) (sc := defScope s_law) (by decide +kernel)) (fun _ _ _ _ _ => (pg_name (i := 19) sc_law.nd rfl (Or.inl rfl))) (fun _ _ _ _ _ => pts_nil) (fun _ _ _ _ _ => (pe_op op_sub (pe_op op_mul pe_int (pe_callB (ok_len (K := K) rfl) (by rfl) M.m_len (by decide +kernel) (pa_cons (pv 19) pa_nil))) pe_int))) pa_nil)))
      (pss_cons (ps_if (PW.pt (pw_or (pt_cmpR (ok_ne (K := K) rfl hu) (pe_cal C_parts hr (by decide) pass0 (pa_cons (pv 1) (pa_cons (pe_callTy (ok_list (K := K) rfl) (by rfl) M.m_list (by decide +kernel) (pa_cons (pv 7) pa_nil)) pa_nil))) (pv 9) (nomark _)) (pw_or1 (pt_cmpR (ok_ne (K := K) rfl hu) (pe_cal C_worth hr (by decide) pass0 (pa_cons (pv 1) (pa_cons (pe_callTy (ok_list (K := K) rfl) (by rfl) M.m_list (by decide +kernel) (pa_cons (pv 7) pa_nil)) pa_nil))) (pv 10) (nomark _))))) (pss_one (ps_ret pe_bl)) pss_nil)
      (pss_cons (ps_if (pt_not (pt_val (pe_cal C_l_truth hr (by decide) pass0 (pa_cons (pe_cal C_is_stiff hr (by decide) pass0 (pa_cons (pv 1) (pa_cons (pe_callTy (ok_list (K := K) rfl) (by rfl) M.m_list (by decide +kernel) (pa_cons (pv 7) pa_nil)) pa_nil))) (pa_cons (pe_cmpR (ok_eq (K := K) rfl hu) (pe_callB (ok_len (K := K) rfl) (by rfl) M.m_len (by decide +kernel) (pa_cons (pv 2) pa_nil)) pe_int (nomark _)) pa_nil))))) (pss_one (ps_ret pe_bl)) pss_nil)
      (pss_cons (ps_set (i := 11) sc_law.nd rfl (Or.inr rfl) (pe_op op_modN (pe_cal C_l_cell_at hr (by decide) pass0 (pa_cons (pv 0) (pa_cons pe_int pa_nil))) (pv 1)))
      (pss_cons (ps_set (i := 12) sc_law.nd rfl (Or.inr rfl) (pe_op op_modN (pe_op (ok_plus (K := K) rfl) (pe_op (ok_plus (K := K) rfl) (pv 11) pe_int) (pe_op op_modN (pe_op op_fdivN (pe_cal C_l_cell_at hr (by decide) pass0 (pa_cons (pv 0) (pa_cons pe_int pa_nil))) pe_int) (pe_op op_sub (pv 1) pe_int))) (pv 1)))
      (pss_cons (ps_setLc (i := 13) (own := [("_law_block", 19)]) (g := (gName 19)) (tt := _) rfl sc_law.nd rfl rfl (sw_true rfl rfl rfl (by decide +kernel)) (ok_ilist (K := K) rfl (pv 8)) (blkOk_by (N := ["_law_script", "_law_count", "_law_blocks_here", "_law_rows", "_law_more", "_law_order_here", "_law_plain", "_law_bars", "_law_names", "_law_due", "_law_whole_here", "_law_one", "_law_other", "_law_shared", "_law_found", "_law_spare", "_law_number", "_law_told", "_law_left", "_law_block", "_law_joint", "_law_at", "_law_k"]) (sc := defScope s_law) (by decide +kernel)) (fun _ _ _ _ _ => (pg_name (i := 19) sc_law.nd rfl (Or.inl rfl))) (fun _ _ _ _ _ => (pts_one (PW.pt (pw_and (pt_cmpR (ok_in (K := K) rfl) (pv 11) (pv 19) (by with_unfolding_all rfl)) (pw_and1 (pt_cmpR (ok_in (K := K) rfl) (pv 12) (pv 19) (by with_unfolding_all rfl))))))) (fun _ _ _ _ _ => (pv 19)))
      (pss_cons (ps_if (pt_not (pt_val (pe_cal C_l_truth hr (by decide) pass0 (pa_cons (pe_cal C_holds hr (by decide) pass0 (pa_cons (pv 1) (pa_cons (pe_callTy (ok_list (K := K) rfl) (by rfl) M.m_list (by decide +kernel) (pa_cons (pv 7) pa_nil)) (pa_cons (pv 11) (pa_cons (pv 12) pa_nil))))) (pa_cons (pe_cmpR (ok_ne (K := K) rfl hu) (pv 13) (pe_lst pa_nil) (nomark _)) pa_nil))))) (pss_one (ps_ret pe_bl)) pss_nil)
      (pss_cons (ps_set (i := 14) sc_law.nd rfl (Or.inr rfl) (pe_cal C_too_many hr (by decide) pass0 (pa_cons (pv 1) (pa_cons (pe_callTy (ok_list (K := K) rfl) (by rfl) M.m_list (by decide +kernel) (pa_cons (pv 7) pa_nil)) pa_nil))))
      (pss_cons (ps_if (PW.pt (pw_or (pt_not (pt_val (pe_cal C_l_rising hr (by decide) pass0 (pa_cons (pv 14) (pa_cons pe_int (pa_cons (pe_op op_sub (pe_callB (ok_len (K := K) rfl) (by rfl) M.m_len (by decide +kernel) (pa_cons (pv 7) pa_nil)) pe_int) pa_nil)))))) (pw_or1 (pt_cmpR (ok_ne (K := K) rfl hu) (pe_cmpR (ok_eq (K := K) rfl hu) (pv 14) (pe_lst pa_nil) (nomark _)) (pe_cmpR (ok_eq (K := K) rfl hu) (pv 4) (pe_lst pa_nil) (nomark _)) (nomark _))))) (pss_one (ps_ret pe_bl)) pss_nil)
      (pss_cons (ps_setLc (i := 15) (own := [("_law_at", 21)]) (g := (gName 21)) (tt := tYes) rfl sc_law.nd rfl rfl (sw_true rfl rfl rfl (by decide +kernel)) (ok_ilist (K := K) rfl (pv 4)) (blkOk_by (N := ["_law_script", "_law_count", "_law_blocks_here", "_law_rows", "_law_more", "_law_order_here", "_law_plain", "_law_bars", "_law_names", "_law_due", "_law_whole_here", "_law_one", "_law_other", "_law_shared", "_law_found", "_law_spare", "_law_number", "_law_told", "_law_left", "_law_block", "_law_joint", "_law_at", "_law_k"]) (sc := defScope s_law) (by decide +kernel)) (fun _ _ _ _ _ => (pg_name (i := 21) sc_law.nd rfl (Or.inl rfl))) (fun _ _ _ _ _ => pts_nil) (fun _ _ _ _ _ => (pe_ix (ok_ix (K := K) rfl) (pv 8) (pv 21) (fun _ _ => rfl))))
      (pss_cons (ps_for PassesOwn.never rfl (ok_ilist (K := K) rfl (pv 14)) (pg_name (i := 16) sc_law.nd rfl (Or.inl rfl)) (pss_cons (ps_asg (pe_ix (ok_ix (K := K) rfl) (pv 7) (pv 16) (fun _ _ => rfl)) (ok_tup (K := K) rfl rfl (pgs_cons (pg_name (i := 11) sc_law.nd rfl (Or.inr rfl)) (pgs_cons (pg_name (i := 12) sc_law.nd rfl (Or.inr rfl)) pgs_nil))))
      (pss_one (ps_if (pt_cmpR (ok_eq (K := K) rfl hu) (pe_lc (own := [("_law_block", 19)]) (g := (gName 19)) (tt := _) rfl sc_law.nd (ok_ilist (K := K) rfl (pv 15)) (blkOk_by (N := ["_law_script", "_law_count", "_law_blocks_here", "_law_rows", "_law_more", "_law_order_here", "_law_plain", "_law_bars", "_law_names", "_law_due", "_law_whole_here", "_law_one", "_law_other", "_law_shared", "_law_found", "_law_spare", "_law_number", "_law_told", "_law_left", "_law_block", "_law_joint", "_law_at", "_law_k"]) (sc := defScope s_law) (by decide +kernel)) (fun _ _ _ _ _ => (pg_name (i := 19) sc_law.nd rfl (Or.inl rfl))) (fun _ _ _ _ _ => (pts_one (PW.pt (pw_and (pt_cmpR (ok_in (K := K) rfl) (pv 11) (pv 19) (by with_unfolding_all rfl)) (pw_and1 (pt_cmpR (ok_in (K := K) rfl) (pv 12) (pv 19) (by with_unfolding_all rfl))))))) (fun _ _ _ _ _ => (pv 19))) (pe_lst pa_nil) (nomark _)) (pss_one (ps_ret pe_bl)) pss_nil))))
      (pss_cons (ps_if (pt_cmpR (ok_eq (K := K) rfl hu) (pv 14) (pe_lst pa_nil) (nomark _)) (pss_one (ps_ret pe_bl)) pss_nil)
      (pss_cons (ps_set (i := 16) sc_law.nd rfl (Or.inl rfl) (pe_ix (ok_ix (K := K) rfl) (pv 14) (pe_op op_modN (pe_cal C_l_cell_at hr (by decide) pass0 (pa_cons (pv 0) (pa_cons pe_int pa_nil))) (pe_callB (ok_len (K := K) rfl) (by rfl) M.m_len (by decide +kernel) (pa_cons (pv 14) pa_nil))) (fun _ _ => rfl)))
      (pss_cons (ps_set (i := 17) sc_law.nd rfl (Or.inl rfl) (pe_cal C_knot hr (by decide) pass0 (pa_cons (pv 1) (pa_cons (pe_callTy (ok_list (K := K) rfl) (by rfl) M.m_list (by decide +kernel) (pa_cons (pv 7) pa_nil)) (pa_cons (pv 16) pa_nil)))))
      (pss_cons (ps_if (pt_not (pt_val (pe_cal C_l_is_knot hr (by decide) pass0 (pa_cons (pv 7) (pa_cons (pv 17) (pa_cons (pv 16) pa_nil)))))) (pss_one (ps_ret pe_bl)) pss_nil)
      (pss_cons (ps_if (pt_cmpR (ok_ne (K := K) rfl hu) (pe_lc (own := [("_law_k", 22)]) (g := (gName 22)) (tt := _) rfl sc_law.nd (ok_ilist (K := K) rfl (pv 17)) (blkOk_by (N := ["_law_script", "_law_count", "_law_blocks_here", "_law_rows", "_law_more", "_law_order_here", "_law_plain", "_law_bars", "_law_names", "_law_due", "_law_whole_here", "_law_one", "_law_other", "_law_shared", "_law_found", "_law_spare", "_law_number", "_law_told", "_law_left", "_law_block", "_law_joint", "_law_at", "_law_k"]) (sc := defScope s_law) (by decide +kernel)) (fun _ _ _ _ _ => (pg_name (i := 22) sc_law.nd rfl (Or.inl rfl))) (fun _ _ _ _ _ => (pts_one (pt_cmpR (ok_ni (K := K) rfl) (pv 22) (pv 14) (by with_unfolding_all rfl)))) (fun _ _ _ _ _ => (pv 22))) (pe_lst pa_nil) (nomark _)) (pss_one (ps_ret pe_bl)) pss_nil)
      (pss_cons (ps_set (i := 18) sc_law.nd rfl (Or.inl rfl) (pe_op (ok_plus (K := K) rfl) (pe_slice (ok_sl (K := K) rfl) (pv 7) po_none (po_some (pv 16))) (pe_slice (ok_sl (K := K) rfl) (pv 7) (po_some (pe_op (ok_plus (K := K) rfl) (pv 16) pe_int)) po_none)))
      (pss_one (ps_ret (pe_and (pe_cmpR (ok_eq (K := K) rfl hu) (pe_cal C_parts hr (by decide) pass0 (pa_cons (pv 1) (pa_cons (pv 18) pa_nil))) (pv 9) (nomark _)) (pe_one (pe_cmpR (ok_eq (K := K) rfl hu) (pe_cal C_worth hr (by decide) pass0 (pa_cons (pv 1) (pa_cons (pv 18) pa_nil))) (pv 10) (nomark _)))))))))))))))))))))))))))))), ?_⟩
  refine TM.finD (K := K) h fun ds d rel => ?_
  cases rel with | mk ns hns =>
  refine TM.seqP (N := fun r x => ∃ (n : Nat) (Bs : List (List Nat)) (Ks : List (List Fr.Bar)) (q : Addr), r = [.k (.ro ns), .k (.int (n : Int)), .k (.lst (Bs.map rowD)), .k (.adr q), .u, .u, .u, .u, .u, .u, .u, .u, .u, .u, .u, .u, .u, .u, .u, .u, .u, .u, .u] ∧ x = [(q, blocksT Ks)] ∧ Drawing n Bs Ks ∧ 1 ≤ Bs.length ∧ Bs.length ≤ 5)
    (TM.asgQ (P := fun r g => ∃ (n : Nat) (Bs : List (List Nat)) (Ks : List (List Fr.Bar)) (q : Addr), r = .d (.tup [.int (n : Int), .lst (Bs.map rowD), .adr q]) ∧ g = [(q, blocksT Ks)] ∧ Drawing n Bs Ks ∧ 1 ≤ Bs.length ∧ Bs.length ≤ 5)
      (ev_callQ (xa_of (ea_cons (ev_var rfl) ea_nil)) fun ds x hx => by
        obtain ⟨rfl, rfl⟩ := hx
        exact ⟨[], [], _, List.Perm.refl _, .mk ns, fun r gq hP => ⟨gq, [], hP, by rw [List.append_nil]; exact List.Perm.refl _⟩⟩)
      fun r g' hP => by
        obtain ⟨n, Bs, Ks, q, rfl, rfl, h1, h2, h3⟩ := hP
        exact ⟨_, _, rfl, eg_tup (egs_cons eg_name (egs_cons eg_name (egs_cons eg_name egs_nil))) rfl, n, Bs, Ks, q, rfl, rfl, h1, h2, h3⟩) ?_
  rintro r x ⟨n, Bs, Ks, q, rfl, rfl, dr, b1, b5⟩
  have gl := dr.gl n (Nat.le_refl n)
  have n16 := dr.le
  have kcnt := dr.cnt
  have klen := dr.len
  obtain ⟨_, _, g3, g4, _⟩ := Fr.glued_low gl
  refine TM.seqP (N := fun r x => ∃ (Ns : List (List Fr.Bar)) (more : List Nat), (r = [.k (.ro ns), .k (.int (n : Int)), .k (.lst (Bs.map rowD)), .k (.adr q), .k (.lst (nD more)), .u, .u, .u, .u, .u, .u, .u, .u, .u, .u, .u, .u, .u, .u, .u, .u, .u, .u] ∧ x = [(q, blocksT Ns)]) ∧ Fr.Grown n Bs Ks Ns ∧ (∀ a ∈ more, a < Bs.length) ∧ (∀ i : Nat, Ns[i]? ≠ Ks[i]? → i ∈ more) ∧ Ns.flatten.length = Ks.flatten.length + more.length ∧ more.length ≤ 3)
    (TM.asgQ (P := fun r g => ∃ (Ns : List (List Fr.Bar)) (more : List Nat), r = .d (.lst (nD more)) ∧ g = [(q, blocksT Ns)] ∧ Fr.Grown n Bs Ks Ns ∧ (∀ a ∈ more, a < Bs.length) ∧ (∀ i : Nat, Ns[i]? ≠ Ks[i]? → i ∈ more) ∧ Ns.flatten.length = Ks.flatten.length + more.length ∧ more.length ≤ 3)
      (EvQ.tell (ev_callQ (xa_of (ea_cons (ev_var rfl) (ea_cons (ev_var rfl) (ea_cons (ev_call (ea_cons (ev_var rfl) (ea_cons ev_int ea_nil)) (.mk ns 6 (by decide))) ea_nil)))) fun ds x hx => by
        obtain ⟨rfl, rfl⟩ := hx
        exact ⟨[(q, blocksT Ks)], [], _, List.Perm.refl _, .mk n Bs Ks q (cell ns 6) gl b1 b5 dr.five (by omega), fun r gq hP => ⟨gq, [], hP, by rw [List.append_nil]; exact List.Perm.refl _⟩⟩) fun r g hP => by
          obtain ⟨Ns, more, rfl, rfl, hr⟩ := hP
          exact ⟨nD more, rfl, Ns, more, rfl, rfl, hr⟩)
      fun r g' hP => by
        obtain ⟨Ns, more, rfl, rfl, hr⟩ := hP
        exact ⟨_, _, rfl, eg_name, Ns, more, ⟨rfl, rfl⟩, hr⟩) ?_
  rintro r x ⟨Ns, more, ⟨rfl, rfl⟩, gr, hmore, hch, hlen, hm3⟩
  have n2 : 2 ≤ n := by
    obtain ⟨a, b, _, _, lab, hbn, _⟩ := Fr.block_pair gr (List.getElem_mem (show 0 < Bs.length by omega))
    omega
  have okN := Fr.grown_ok gr
  have nlen := gr.len
  have nbl : Ns.flatten.length ≤ 38 := by omega
  have ns0 : 0 < Ns.length := by omega
  obtain ⟨g, t, tr, pm, eo⟩ := named_other (n := n) Ns.flatten (cell ns 7) (cell ns 8)
  have al := other_alike (t := t) tr okN pm
  have hmany := fun (k : Nat) => names_many (t := t) (P := (List.range Ns.flatten.length).map (rotI (cell ns 8) Ns.flatten.length)) gr tr pm (k := k)
  have hnone := names_none (t := t) gr tr pm
  rw [← eo] at al hmany hnone
  have hob : namedN Ns.flatten (orderN (cell ns 7) n) (cell ns 8) = namedN Ns.flatten (orderN (cell ns 7) n) (cell ns 8) := rfl
  have obl : (namedN Ns.flatten (orderN (cell ns 7) n) (cell ns 8)).length = Ns.flatten.length := namedN_len _ _ _
  have oko := al.oko
  refine TM.tellS (i := 3) (g1 := []) (m := blocksT Ns) rfl (List.Perm.refl _) ?_
  rw [see_blocksT]
  refine TM.drop ?_
  have order5 : List.length (orderN (cell ns 7) n) = n := orderN_len _ _
  refine T.seq (ρ1 := [.k (.ro ns), .k (.int (n : Int)), .k (.lst (Bs.map rowD)), .k (.lst ((Ns.map brs).map D.lst)), .k (.lst (nD more)), .k (.lst ((kI (orderN (cell ns 7) n)).map D.int)), .u, .u, .u, .u, .u, .u, .u, .u, .u, .u, .u, .u, .u, .u, .u, .u, .u]) (T.asg (EvF.data (EvF.to (ev_callF (ea_cons (ev_call (ea_cons (ev_var rfl) (ea_cons ev_int ea_nil)) (.mk ns 7 (by decide))) (ea_cons (ev_var rfl) ea_nil)) (.mk (cell ns 7) n (by omega))) (by rw [orderL_eq]))) rfl) ?_
  refine T.seq (ρ1 := [.k (.ro ns), .k (.int (n : Int)), .k (.lst (Bs.map rowD)), .k (.lst ((Ns.map brs).map D.lst)), .k (.lst (nD more)), .k (.lst ((kI (orderN (cell ns 7) n)).map D.int)), .k (.lst (brs Ns.flatten)), .u, .u, .u, .u, .u, .u, .u, .u, .u, .u, .u, .u, .u, .u, .u, .u]) (T.asg (EvF.data (EvF.to (ev_cbF (ea_cons (ev_var rfl) (ea_cons (EvF.data (ev_lst ea_nil (Nat.zero_le _))) ea_nil)) (rc_sumL (by rw [List.length_map]; omega) (by rw [brs_flat, brs_len]; omega))) (brs_flat Ns))) rfl) ?_
  refine T.seq (ρ1 := [.k (.ro ns), .k (.int (n : Int)), .k (.lst (Bs.map rowD)), .k (.lst ((Ns.map brs).map D.lst)), .k (.lst (nD more)), .k (.lst ((kI (orderN (cell ns 7) n)).map D.int)), .k (.lst (brs Ns.flatten)), .k (.lst (brs (namedN Ns.flatten (orderN (cell ns 7) n) (cell ns 8)))), .u, .u, .u, .u, .u, .u, .u, .u, .u, .u, .u, .u, .u, .u, .u]) (T.asg (EvF.data (EvF.to (ev_callF (ea_cons (ev_var rfl) (ea_cons (ev_var rfl) (ea_cons (ev_call (ea_cons (ev_var rfl) (ea_cons ev_int ea_nil)) (.mk ns 8 (by decide))) ea_nil))) (.mk (Ns.flatten.map bI) (kI (orderN (cell ns 7) n)) (cell ns 8) (fun b hb => ?_) (by rw [List.length_map]; omega))) ?_)) rfl) ?_
  · obtain ⟨b0, hb0, rfl⟩ := List.mem_map.mp hb
    obtain ⟨o1, o2, _⟩ := okN b0 hb0
    rw [kI_len, order5]
    unfold bI
    exact ⟨⟨by omega, by omega⟩, by omega, by omega⟩
  · rw [namedL_eq]
    rfl
  generalize hf : (fun x => (orderN (cell ns 7) n).getD x 0) = f at tr al hmany
  have fx : ∀ x : Nat, x < n → atI ((kI (orderN (cell ns 7) n)).map D.int) (x : Int) = some (.int (f x : Int)) := fun x hx => atI_nat (by rw [natL_get (by omega), ← hf])
  refine T.seq (ρ1 := [.k (.ro ns), .k (.int (n : Int)), .k (.lst (Bs.map rowD)), .k (.lst ((Ns.map brs).map D.lst)), .k (.lst (nD more)), .k (.lst ((kI (orderN (cell ns 7) n)).map D.int)), .k (.lst (brs Ns.flatten)), .k (.lst (brs (namedN Ns.flatten (orderN (cell ns 7) n) (cell ns 8)))), .k (.lst ((Bs.map fun B => B.map f).map rowD)), .u, .u, .u, .u, .u, .u, .u, .u, .u, .u, .u, .u, .u, .u]) (T.asg (EvF.data (EvF.to (evF_lcM (xs := Bs) (gd := rowD) (ei_list (ev_var rfl)) (fun B => [(19, rowD B)]) (fun _ => true) (fun B => rowD (B.map f)) (fun B _ => eg_name) (fun B _ p hp => by rw [List.mem_singleton.mp hp]; simp) (fun B _ => et_yes) (fun B hB _ => ?_) (by omega)) ?_)) rfl) ?_
  · have B5 := dr.five B hB
    refine EvF.data (EvF.to (evF_lcM (xs := B) (gd := fun x : Nat => .int (x : Int)) (ei_list (EvD.to (ev_var rfl) rfl)) (fun x => [(20, .int (x : Int))]) (fun _ => true) (fun x => .int (f x : Int)) (fun x _ => eg_name) (fun x _ p hp => by rw [List.mem_singleton.mp hp]; simp) (fun x _ => et_yes) (fun x hx _ => ev_op (ev_var rfl) (ev_var rfl) (rv_ixL (fx x (g3 B hB x hx)))) (by omega)) ?_)
    rw [List.filter_eq_self.mpr fun _ _ => rfl]
    unfold nD
    rw [List.map_map]
    rfl
  · rw [List.filter_eq_self.mpr fun _ _ => rfl, List.map_map]
    rfl
  have hparts := names_parts gr al
  have hhld := fun {a b : Nat} (ha : a < n) (hb : b < n) (ne : a ≠ b) => names_hld gr al ha hb ne
  have hrk := names_rk gr al
  have hstiff := names_stiff gr al n2
  have short : ∀ C ∈ (Bs.map fun B => B.map f), C.length ≤ 5 := fun C hC => by
    obtain ⟨B, hB, rfl⟩ := List.mem_map.mp hC
    rw [List.length_map]
    exact dr.five B hB
  have nmlen : (Bs.map fun B => B.map f).length = Bs.length := List.length_map _
  have spareAt : ∀ i : Nat, i < Bs.length → ∃ B, Bs[i]? = some B ∧ atI ((Bs.map fun B => B.map f).map rowD) (i : Int) = some (rowD (B.map f)) := fun i hi => ⟨Bs[i], List.getElem?_eq_getElem hi, atI_nat (by rw [List.getElem?_map, List.getElem?_map, List.getElem?_eq_getElem hi]; rfl)⟩
  have lenAt : ∀ B ∈ Bs, ((2 : Int) * (B.length : Int) - 3) = 2 * (B.length : Int) - 3 := fun _ _ => rfl
  have snodup : ∀ C ∈ (Bs.map fun B => B.map f), C.Nodup := fun C hC => by
    obtain ⟨B, hB, rfl⟩ := List.mem_map.mp hC
    obtain ⟨_, _, _, _, _, _, nd, low⟩ := Fr.block_pair gr hB
    exact List.pairwise_map.mpr (nd.imp_of_mem fun {a b} ha hb hne e => hne (tr.inj a b (low a ha) (low b hb) e))
  generalize hO : namedN Ns.flatten (orderN (cell ns 7) n) (cell ns 8) = ob at al hmany hnone obl oko hparts hhld hrk hstiff
  have nmget : ∀ (i : Nat) (B : List Nat), Bs[i]? = some B → (Bs.map fun B => B.map f)[i]? = some (B.map f) := fun i B h => by rw [List.getElem?_map, h]; rfl
  generalize hNM : (Bs.map fun B => B.map f) = NM at hparts hhld short nmlen spareAt snodup nmget
  have hle := parts_le n ob
  have psh : ∀ l ∈ partsL n ob, l.length ≤ 5 := fun l hl => by
    obtain ⟨C, hC, rfl⟩ := List.mem_map.mp (hparts.mem_iff.mp hl)
    rw [sortN_len]
    exact short C hC
  refine T.seq (ρ1 := [.k (.ro ns), .k (.int (n : Int)), .k (.lst (Bs.map rowD)), .k (.lst ((Ns.map brs).map D.lst)), .k (.lst (nD more)), .k (.lst ((kI (orderN (cell ns 7) n)).map D.int)), .k (.lst (brs Ns.flatten)), .k (.lst (brs ob)), .k (.lst (NM.map rowD)), .k (.lst ((partsL n ob).map rowD)), .u, .u, .u, .u, .u, .u, .u, .u, .u, .u, .u, .u, .u]) (T.asg (EvF.data (ev_cbF (ea_cons (EvF.data (EvF.to (evF_lcM (xs := NM) (gd := rowD) (ei_list (ev_var rfl)) (fun C => [(19, rowD C)]) (fun _ => true) (fun C => rowD (sortN C)) (fun C _ => eg_name) (fun C _ p hp => by rw [List.mem_singleton.mp hp]; simp) (fun C _ => et_yes) (fun C hC _ => EvD.to (EvF.data (ev_cbF (ea_cons (EvD.to (ev_var rfl) (rowD_kI C)) ea_nil) (rc_sortedI (ns := kI C) (ms := kI (sortN C)) (by rw [kI_len]; have := short C hC; omega) (kI_rise (sortN_rise C)) ((sortN_perm C).map _)))) (rowD_kI _).symm) (by omega)) (by rw [List.filter_eq_self.mpr fun _ _ => rfl, List.map_map]; rfl))) ea_nil) (rc_sortRows hparts hle))) rfl) ?_
  refine T.seq (ρ1 := [.k (.ro ns), .k (.int (n : Int)), .k (.lst (Bs.map rowD)), .k (.lst ((Ns.map brs).map D.lst)), .k (.lst (nD more)), .k (.lst ((kI (orderN (cell ns 7) n)).map D.int)), .k (.lst (brs Ns.flatten)), .k (.lst (brs ob)), .k (.lst (NM.map rowD)), .k (.lst ((partsL n ob).map rowD)), .k (.int (Bs.map fun B => 2 * (B.length : Int) - 3).sum), .u, .u, .u, .u, .u, .u, .u, .u, .u, .u, .u, .u]) (T.asg (ev_cb (ea_cons (EvF.data (EvF.to (evF_lcM (xs := Bs) (gd := rowD) (ei_list (ev_var rfl)) (fun B => [(19, rowD B)]) (fun _ => true) (fun B => .int (2 * (B.length : Int) - 3)) (fun B _ => eg_name) (fun B _ p hp => by rw [List.mem_singleton.mp hp]; simp) (fun B _ => et_yes) (fun B hB _ => EvD.to (ev_op (ev_op ev_int (ev_cb (ea_cons (EvD.to (ev_var rfl) rfl) ea_nil) rc_lenL) (rv_mul (by rw [nD_len]; exact .inl ⟨by decide, by decide⟩))) ev_int rv_sub) (by rw [nD_len])) (by omega)) (by rw [List.filter_eq_self.mpr fun _ _ => rfl, List.map_map]; rfl))) ea_nil) rc_sum) rfl) ?_
  have hobl : ob.length ≤ 60 := by omega
  refine T.guard (b := !decide (partsL n ob = partsL n ob) || !decide ((Fr.rk n ob : Int) = (Bs.map fun B => 2 * (B.length : Int) - 3).sum)) (et_or (et_test (ev_op (EvF.data (evF_callG (ea_cons (ev_var rfl) (ea_cons (EvF.data (ev_cbF (ea_cons (ev_var rfl) ea_nil) rc_listL)) ea_nil)) (.mk n ob (by omega) n16 oko hobl))) (ev_var rfl) rv_neRows)) fun _ => et_test (ev_op (ev_worth (by omega) n16 oko hobl (ea_cons (ev_var rfl) (ea_cons (EvF.data (ev_cbF (ea_cons (ev_var rfl) ea_nil) rc_listL)) ea_nil))) (ev_var rfl) rv_neI)) (fun b => by rw [decide_eq_true rfl, decide_eq_true hrk] at b; cases b) fun _ => ?_
  have est : stiffB n ob = decide ((Bs.length : Int) = 1) := by
    unfold stiffB
    rw [decide_eq_false (show ¬ n = 1 by omega), Bool.false_or]
    exact decide_eq_decide.mpr (hstiff.trans (by omega))
  refine T.guard (b := !(stiffB n ob == decide ((Bs.length : Int) = 1))) (et_not (et_B (ev_call (ea_cons (ev_callG (ea_cons (ev_var rfl) (ea_cons (EvF.data (ev_cbF (ea_cons (ev_var rfl) ea_nil) rc_listL)) ea_nil)) (.mk n ob (by omega) n16 oko hobl)) (ea_cons (EvD.to (ev_op (ev_cb (ea_cons (ev_var rfl) ea_nil) rc_lenL) ev_int rv_eqI) (by rw [List.length_map])) ea_nil)) (.mk _ _)))) (fun b => by rw [est, beq_self_eq_true] at b; cases b) fun _ => ?_
  obtain ⟨p1, p2, p3, p4, p5⟩ := pPair (cell ns 9) (cell ns 9 / 16) n2
  generalize pOther (cell ns 9) (cell ns 9 / 16) n = y at p2 p4 p5
  generalize pOne (cell ns 9) n = x at p1 p2 p3 p5
  refine T.seq (ρ1 := [.k (.ro ns), .k (.int (n : Int)), .k (.lst (Bs.map rowD)), .k (.lst ((Ns.map brs).map D.lst)), .k (.lst (nD more)), .k (.lst ((kI (orderN (cell ns 7) n)).map D.int)), .k (.lst (brs Ns.flatten)), .k (.lst (brs ob)), .k (.lst (NM.map rowD)), .k (.lst ((partsL n ob).map rowD)), .k (.int (Bs.map fun B => 2 * (B.length : Int) - 3).sum), .k (.int (x : Int)), .u, .u, .u, .u, .u, .u, .u, .u, .u, .u, .u]) (T.asg (EvD.to (ev_op (ev_call (ea_cons (ev_var rfl) (ea_cons ev_int ea_nil)) (.mk ns 9 (by decide))) (ev_var rfl) (rv_mod (by omega) (by omega))) (by rw [p1])) rfl) ?_
  refine T.seq (ρ1 := [.k (.ro ns), .k (.int (n : Int)), .k (.lst (Bs.map rowD)), .k (.lst ((Ns.map brs).map D.lst)), .k (.lst (nD more)), .k (.lst ((kI (orderN (cell ns 7) n)).map D.int)), .k (.lst (brs Ns.flatten)), .k (.lst (brs ob)), .k (.lst (NM.map rowD)), .k (.lst ((partsL n ob).map rowD)), .k (.int (Bs.map fun B => 2 * (B.length : Int) - 3).sum), .k (.int (x : Int)), .k (.int (y : Int)), .u, .u, .u, .u, .u, .u, .u, .u, .u, .u]) (T.asg (EvD.to (ev_op (ev_op (ev_op (ev_var rfl) ev_int rv_plusI) (ev_op (ev_op (ev_call (ea_cons (ev_var rfl) (ea_cons ev_int ea_nil)) (.mk ns 9 (by decide))) ev_int (rv_div ⟨by decide, by decide⟩ (by decide))) (ev_op (ev_var rfl) ev_int rv_sub) (rv_mod (by omega) (by omega))) rv_plusI) (ev_var rfl) (rv_mod (by omega) (by omega))) (by rw [p2])) rfl) ?_
  refine T.seq (ρ1 := [.k (.ro ns), .k (.int (n : Int)), .k (.lst (Bs.map rowD)), .k (.lst ((Ns.map brs).map D.lst)), .k (.lst (nD more)), .k (.lst ((kI (orderN (cell ns 7) n)).map D.int)), .k (.lst (brs Ns.flatten)), .k (.lst (brs ob)), .k (.lst (NM.map rowD)), .k (.lst ((partsL n ob).map rowD)), .k (.int (Bs.map fun B => 2 * (B.length : Int) - 3).sum), .k (.int (x : Int)), .k (.int (y : Int)), .k (.lst ((shareL NM x y).map rowD)), .u, .u, .u, .u, .u, .u, .u, .u, .u]) (T.asg (EvF.data (ev_share (v := 19) (ei_list (ev_var rfl)) (by simp) (by omega) (fun C => ev_op (ev_var rfl) (EvD.to (ev_var rfl) (rowD_kI C)) rv_inL) (fun C => ev_op (ev_var rfl) (EvD.to (ev_var rfl) (rowD_kI C)) rv_inL) (fun C => ev_var rfl))) rfl) ?_
  have ehl : hldB n ob x y = !decide (shareL NM x y = []) := by
    have h := (hhld p3 p4 p5).trans share_ne.symm
    by_cases q : shareL NM x y = []
    · rw [decide_eq_true q, hldB_no fun z => (h.mp z) q]; rfl
    · rw [decide_eq_false q, hldB_yes (h.mpr q)]; rfl
  refine T.guard (b := !(hldB n ob x y == !decide (shareL NM x y = []))) (et_not (et_B (ev_call (ea_cons (ev_callG (ea_cons (ev_var rfl) (ea_cons (EvF.data (ev_cbF (ea_cons (ev_var rfl) ea_nil) rc_listL)) (ea_cons (ev_var rfl) (ea_cons (ev_var rfl) ea_nil)))) (.mk n ob x y (by omega) n16 oko hobl p3 p4 p5)) (ea_cons (ev_op (y := .lst (([] : List (List Nat)).map rowD)) (ev_var rfl) (EvF.data (ev_lst ea_nil (Nat.zero_le _))) rv_neRows) ea_nil)) (.mk _ _)))) (fun b => by rw [ehl, beq_self_eq_true] at b; cases b) fun _ => ?_
  have mlen := manyL_len n ob
  refine T.seq (ρ1 := [.k (.ro ns), .k (.int (n : Int)), .k (.lst (Bs.map rowD)), .k (.lst ((Ns.map brs).map D.lst)), .k (.lst (nD more)), .k (.lst ((kI (orderN (cell ns 7) n)).map D.int)), .k (.lst (brs Ns.flatten)), .k (.lst (brs ob)), .k (.lst (NM.map rowD)), .k (.lst ((partsL n ob).map rowD)), .k (.int (Bs.map fun B => 2 * (B.length : Int) - 3).sum), .k (.int (x : Int)), .k (.int (y : Int)), .k (.lst ((shareL NM x y).map rowD)), .k (.lst ((kI (manyL n ob)).map D.int)), .u, .u, .u, .u, .u, .u, .u, .u]) (T.asg (EvD.to (EvF.data (evF_callG (ea_cons (ev_var rfl) (ea_cons (EvF.data (ev_cbF (ea_cons (ev_var rfl) ea_nil) rc_listL)) ea_nil)) (.mk n ob (by omega) n16 oko hobl))) (by rw [nD_kI])) rfl) ?_
  have emn : decide (kI (manyL n ob) = []) = decide (kI more = []) := by
    rw [nD_nil, nD_nil]
    refine decide_eq_decide.mpr (hnone.trans ?_)
    rw [hlen, ← List.length_eq_zero_iff]
    omega
  refine T.guard (b := !true || !(decide (kI (manyL n ob) = []) == decide (kI more = []))) (et_or (et_not (et_B (ev_call (ea_cons (ev_var rfl) (ea_cons ev_int (ea_cons (ev_op (ev_cb (ea_cons (ev_var rfl) ea_nil) rc_lenL) ev_int rv_sub) ea_nil))) (.good (kI (manyL n ob)) 0 (((brs ob).length : Int) - 1) (fun x hx => ?_) (kI_lt (manyL_rise n ob)) (by rw [kI_len]; omega))))) fun _ => et_test (ev_op (ev_op (x := .lst ((kI (manyL n ob)).map D.int)) (y := .lst (([] : List Int).map D.int)) (ev_var rfl) (EvF.data (ev_lst ea_nil (Nat.zero_le _))) rv_eqInts) (ev_op (x := .lst ((kI more).map D.int)) (y := .lst (([] : List Int).map D.int)) (EvD.to (ev_var rfl) (by rw [nD_kI])) (EvF.data (ev_lst ea_nil (Nat.zero_le _))) rv_eqInts) rv_neB)) (fun b => by rw [emn, beq_self_eq_true] at b; cases b) fun _ => ?_
  · obtain ⟨k, hk, rfl⟩ := List.mem_map.mp hx
    have := (manyL_mem.mp hk).1
    rw [brs_len]
    omega
  refine T.seq (ρ1 := [.k (.ro ns), .k (.int (n : Int)), .k (.lst (Bs.map rowD)), .k (.lst ((Ns.map brs).map D.lst)), .k (.lst (nD more)), .k (.lst ((kI (orderN (cell ns 7) n)).map D.int)), .k (.lst (brs Ns.flatten)), .k (.lst (brs ob)), .k (.lst (NM.map rowD)), .k (.lst ((partsL n ob).map rowD)), .k (.int (Bs.map fun B => 2 * (B.length : Int) - 3).sum), .k (.int (x : Int)), .k (.int (y : Int)), .k (.lst ((shareL NM x y).map rowD)), .k (.lst ((kI (manyL n ob)).map D.int)), .k (.lst ((more.map fun i => NM.getD i []).map rowD)), .u, .u, .u, .u, .u, .u, .u]) (T.asg (EvF.data (EvF.to (evF_lcM (xs := more) (gd := fun i : Nat => .int (i : Int)) (ei_list (EvD.to (ev_var rfl) rfl)) (fun i => [(21, .int (i : Int))]) (fun _ => true) (fun i => rowD (NM.getD i [])) (fun i _ => eg_name) (fun i _ p hp => by rw [List.mem_singleton.mp hp]; simp) (fun i _ => et_yes) (fun i hi _ => ?_) (by omega)) (by rw [List.filter_eq_self.mpr fun _ _ => rfl, List.map_map]; rfl))) rfl) ?_
  · obtain ⟨B, e1, e2⟩ := spareAt i (hmore i hi)
    have e3 := nmget i B e1
    exact EvD.to (ev_op (ev_var rfl) (ev_var rfl) (rv_ixL e2)) (by rw [List.getD_eq_getElem?_getD, e3]; rfl)
  have barAtE : ∀ k : Nat, k < ob.length → atI (brs ob) (k : Int) = some (barD (bI (Fr.barAt ob k))) := fun k hk => atI_nat (brs_get hk)
  have spare : ∀ k ∈ manyL n ob, shareL (more.map fun i => NM.getD i []) (Fr.barAt ob k).1 (Fr.barAt ob k).2 ≠ [] := fun k hk => by
    obtain ⟨i, B, hB, hne, m1, m2⟩ := hmany k hk
    refine share_ne.mpr ⟨B.map f, List.mem_map.mpr ⟨i, hch i hne, ?_⟩, m1, m2⟩
    rw [List.getD_eq_getElem?_getD, nmget i B hB]
    rfl
  have sp3 : (more.map fun i => NM.getD i []).length ≤ 3 := by rw [List.length_map]; exact hm3
  generalize (more.map fun i => NM.getD i []) = SP at spare sp3
  refine T.seqP (N := fun r => ∃ s11 s12 s16 : Sl, r = [.k (.ro ns), .k (.int (n : Int)), .k (.lst (Bs.map rowD)), .k (.lst ((Ns.map brs).map D.lst)), .k (.lst (nD more)), .k (.lst ((kI (orderN (cell ns 7) n)).map D.int)), .k (.lst (brs Ns.flatten)), .k (.lst (brs ob)), .k (.lst (NM.map rowD)), .k (.lst ((partsL n ob).map rowD)), .k (.int (Bs.map fun B => 2 * (B.length : Int) - 3).sum), s11, s12, .k (.lst ((shareL NM x y).map rowD)), .k (.lst ((kI (manyL n ob)).map D.int)), .k (.lst (SP.map rowD)), s16, .u, .u, .u, .u, .u, .u])
    (T.forM (xs := manyL n ob) (gd := fun k : Nat => .int (k : Int)) (ei_list (EvD.to (ev_var rfl) (by unfold kI; rw [List.map_map]; rfl))) (fun _ r => ∃ s11 s12 s16 : Sl, r = [.k (.ro ns), .k (.int (n : Int)), .k (.lst (Bs.map rowD)), .k (.lst ((Ns.map brs).map D.lst)), .k (.lst (nD more)), .k (.lst ((kI (orderN (cell ns 7) n)).map D.int)), .k (.lst (brs Ns.flatten)), .k (.lst (brs ob)), .k (.lst (NM.map rowD)), .k (.lst ((partsL n ob).map rowD)), .k (.int (Bs.map fun B => 2 * (B.length : Int) - 3).sum), s11, s12, .k (.lst ((shareL NM x y).map rowD)), .k (.lst ((kI (manyL n ob)).map D.int)), .k (.lst (SP.map rowD)), s16, .u, .u, .u, .u, .u, .u]) ⟨_, _, _, rfl⟩ ?_ fun _ z => z) ?_
  · rintro j k r hk ⟨s11, s12, s16, rfl⟩
    have hkm := List.mem_of_getElem? hk
    have hkl := (manyL_mem.mp hkm).1
    refine ⟨_, eg_name, ?_⟩
    refine T.seq (ρ1 := [.k (.ro ns), .k (.int (n : Int)), .k (.lst (Bs.map rowD)), .k (.lst ((Ns.map brs).map D.lst)), .k (.lst (nD more)), .k (.lst ((kI (orderN (cell ns 7) n)).map D.int)), .k (.lst (brs Ns.flatten)), .k (.lst (brs ob)), .k (.lst (NM.map rowD)), .k (.lst ((partsL n ob).map rowD)), .k (.int (Bs.map fun B => 2 * (B.length : Int) - 3).sum), .k (.int ((Fr.barAt ob k).1 : Int)), .k (.int ((Fr.barAt ob k).2 : Int)), .k (.lst ((shareL NM x y).map rowD)), .k (.lst ((kI (manyL n ob)).map D.int)), .k (.lst (SP.map rowD)), .k (.int (k : Int)), .u, .u, .u, .u, .u, .u]) (T.asgG (d := barD (bI (Fr.barAt ob k))) (ev_op (ev_var rfl) (ev_var rfl) (rv_ixL (barAtE k hkl))) (eg_tup (egs_cons eg_name (egs_cons eg_name egs_nil)) rfl) rfl) ?_
    exact T.ifS (b := decide (shareL SP (Fr.barAt ob k).1 (Fr.barAt ob k).2 = [])) (et_test (ev_op (x := .lst ((shareL SP (Fr.barAt ob k).1 (Fr.barAt ob k).2).map rowD)) (y := .lst (([] : List (List Nat)).map rowD)) (EvF.data (ev_share (v := 19) (ei_list (ev_var rfl)) (by simp) (by omega) (fun C => ev_op (ev_var rfl) (EvD.to (ev_var rfl) (rowD_kI C)) rv_inL) (fun C => ev_op (ev_var rfl) (EvD.to (ev_var rfl) (rowD_kI C)) rv_inL) (fun C => ev_var rfl))) (EvF.data (ev_lst ea_nil (Nat.zero_le _))) rv_eqRows)) (fun hb => absurd (of_decide_eq_true hb) (spare k hkm)) fun _ => T.next ⟨_, _, _, rfl⟩
  rintro r ⟨s11, s12, s16, rfl⟩
  refine T.guard (b := decide (kI (manyL n ob) = [])) (et_test (ev_op (x := .lst ((kI (manyL n ob)).map D.int)) (y := .lst (([] : List Int).map D.int)) (ev_var rfl) (EvF.data (ev_lst ea_nil (Nat.zero_le _))) rv_eqInts)) (fun _ => T.ret ev_bl rfl) fun hne => ?_
  have mpos : 0 < (manyL n ob).length := by
    rw [nD_nil] at hne
    exact List.length_pos_iff.mpr (of_decide_eq_false hne)
  obtain ⟨q1, q2⟩ := md_eq (cell ns 10) mpos
  have hkm : (manyL n ob)[md (cell ns 10) (manyL n ob).length] ∈ manyL n ob := List.getElem_mem q2
  have getk : atI ((kI (manyL n ob)).map D.int) (cell ns 10 % ((manyL n ob).length : Int)) = some (.int ((manyL n ob)[md (cell ns 10) (manyL n ob).length] : Int)) := by
    rw [← q1]
    refine atI_nat ?_
    rw [natL_get q2]
    simp [List.getD, q2]
  generalize (manyL n ob)[md (cell ns 10) (manyL n ob).length] = k at hkm getk
  have hkl := (manyL_mem.mp hkm).1
  refine T.seq (ρ1 := [.k (.ro ns), .k (.int (n : Int)), .k (.lst (Bs.map rowD)), .k (.lst ((Ns.map brs).map D.lst)), .k (.lst (nD more)), .k (.lst ((kI (orderN (cell ns 7) n)).map D.int)), .k (.lst (brs Ns.flatten)), .k (.lst (brs ob)), .k (.lst (NM.map rowD)), .k (.lst ((partsL n ob).map rowD)), .k (.int (Bs.map fun B => 2 * (B.length : Int) - 3).sum), s11, s12, .k (.lst ((shareL NM x y).map rowD)), .k (.lst ((kI (manyL n ob)).map D.int)), .k (.lst (SP.map rowD)), .k (.int (k : Int)), .u, .u, .u, .u, .u, .u]) (T.asg (ev_op (ev_var rfl) (EvD.to (ev_op (ev_call (ea_cons (ev_var rfl) (ea_cons ev_int ea_nil)) (.mk ns 10 (by decide))) (ev_cb (ea_cons (ev_var rfl) ea_nil) rc_lenL) (rv_mod (by rw [List.length_map, kI_len]; omega) (by omega))) (by rw [List.length_map, kI_len])) (rv_ixL getk)) rfl) ?_
  obtain ⟨p, hp⟩ := (knot_some oko hkl).mpr hkm
  obtain ⟨js, kn, l, hl, hjl⟩ := knot_part oko hkl hp
  have hpm := knot_many oko hkl hp
  have js5 := psh l hl
  have knd : knotD n ob k = .lst ((kI p.2).map D.int) := by
    unfold knotD
    rw [hp]
    show D.lst (nD p.2) = _
    rw [nD_kI]
  refine T.seq (ρ1 := [.k (.ro ns), .k (.int (n : Int)), .k (.lst (Bs.map rowD)), .k (.lst ((Ns.map brs).map D.lst)), .k (.lst (nD more)), .k (.lst ((kI (orderN (cell ns 7) n)).map D.int)), .k (.lst (brs Ns.flatten)), .k (.lst (brs ob)), .k (.lst (NM.map rowD)), .k (.lst ((partsL n ob).map rowD)), .k (.int (Bs.map fun B => 2 * (B.length : Int) - 3).sum), s11, s12, .k (.lst ((shareL NM x y).map rowD)), .k (.lst ((kI (manyL n ob)).map D.int)), .k (.lst (SP.map rowD)), .k (.int (k : Int)), .k (.lst ((kI p.2).map D.int)), .u, .u, .u, .u, .u]) (T.asg (EvD.to (ev_callG (ea_cons (ev_var rfl) (ea_cons (EvF.data (ev_cbF (ea_cons (ev_var rfl) ea_nil) rc_listL)) (ea_cons (ev_var rfl) ea_nil))) (.mk n ob k (by omega) n16 oko hobl hkl)) knd) rfl) ?_
  refine T.guard (b := !true) (et_not (et_B (ev_call (ea_cons (ev_var rfl) (ea_cons (ev_var rfl) (ea_cons (ev_var rfl) ea_nil))) (.of kn hobl (by omega))))) (fun b => by cases b) fun _ => ?_
  have p2l := Fr.small_len (kn.h1.imp fun h => Nat.ne_of_lt h) kn.h2
  refine T.guard (b := !decide (([] : List Int) = [])) (et_test (ev_op (x := .lst (([] : List Int).map D.int)) (y := .lst (([] : List Int).map D.int)) (EvF.data (EvF.to (evF_lcM (α := Nat) (xs := p.2) (gd := fun i : Nat => D.int (i : Int)) (ei_list (EvD.to (ev_var rfl) (by unfold kI; rw [List.map_map]; rfl))) (fun i => [(22, .int (i : Int))]) (fun i : Nat => !decide ((i : Int) ∈ kI (manyL n ob))) (fun i : Nat => D.int (i : Int)) (fun i _ => eg_name) (fun i _ p hp => by rw [List.mem_singleton.mp hp]; simp) (fun i _ => et_test (ev_op (ev_var rfl) (ev_var rfl) (rv_inL (neg := true)))) (fun i _ _ => ev_var rfl) (by omega)) ?_)) (EvF.data (ev_lst ea_nil (Nat.zero_le _))) rv_neInts)) (fun b => by rw [decide_eq_true rfl] at b; cases b) fun _ => ?_
  · have e : (p.2.filter fun i : Nat => !decide ((i : Int) ∈ kI (manyL n ob))) = [] := List.filter_eq_nil_iff.mpr fun i hi => by
      rw [decide_eq_true (kI_mem.mpr (hpm i hi))]
      simp
    rw [e]
    rfl
  have okl : Fr.Ok n (ob.eraseIdx k) := oko.sub (List.eraseIdx_sublist _ _)
  have lnl : (ob.eraseIdx k).length ≤ 60 := by rw [List.length_eraseIdx_of_lt hkl]; omega
  refine T.seq (ρ1 := [.k (.ro ns), .k (.int (n : Int)), .k (.lst (Bs.map rowD)), .k (.lst ((Ns.map brs).map D.lst)), .k (.lst (nD more)), .k (.lst ((kI (orderN (cell ns 7) n)).map D.int)), .k (.lst (brs Ns.flatten)), .k (.lst (brs ob)), .k (.lst (NM.map rowD)), .k (.lst ((partsL n ob).map rowD)), .k (.int (Bs.map fun B => 2 * (B.length : Int) - 3).sum), s11, s12, .k (.lst ((shareL NM x y).map rowD)), .k (.lst ((kI (manyL n ob)).map D.int)), .k (.lst (SP.map rowD)), .k (.int (k : Int)), .k (.lst ((kI p.2).map D.int)), .k (.lst (brs (ob.eraseIdx k))), .u, .u, .u, .u]) (T.asg (EvF.data (EvF.to (ev_opF (x := .lst (brs (ob.take k))) (y := .lst (brs (ob.drop (k + 1)))) (EvF.data (EvF.to (ev_slL (lo := none) (hi := some (k : Int)) (ev_var rfl) eo_no (eo_some (ev_var rfl))) (by rw [cut_to, brs_take]))) (EvF.data (EvF.to (ev_slL (lo := some ((k + 1 : Nat) : Int)) (hi := none) (ev_var rfl) (eo_some (ev_op (ev_var rfl) ev_int rv_plusI)) eo_no) (by rw [cut_from, brs_drop]))) (rvF_plus (by rw [brs_len, brs_len, List.length_take, List.length_drop]; omega))) (by rw [← brs_app, erase_cut]))) rfl) ?_
  have rw0 := rk_without oko hkl
  rw [decide_eq_true hkm] at rw0
  have rw1 : (Fr.rk n (ob.eraseIdx k) : Int) = (Bs.map fun B => 2 * (B.length : Int) - 3).sum := by
    rw [← hrk]
    simpa using rw0
  refine T.ret (d := .bl (decide (partsL n (ob.eraseIdx k) = partsL n ob) && decide ((Fr.rk n (ob.eraseIdx k) : Int) = (Bs.map fun B => 2 * (B.length : Int) - 3).sum))) (ev_and (ev_op (EvF.data (evF_callG (ea_cons (ev_var rfl) (ea_cons (ev_var rfl) ea_nil)) (.mk n (ob.eraseIdx k) (by omega) n16 okl lnl))) (ev_var rfl) rv_eqRows) fun _ => ev_op (ev_worth (by omega) n16 okl lnl (ea_cons (ev_var rfl) (ea_cons (ev_var rfl) ea_nil))) (ev_var rfl) rv_eqI) ?_
  rw [decide_eq_true (parts_without oko hkl hkm), decide_eq_true rw1]
  rfl
end
def dd (i : Nat) (x : Str) : He.DefD := ⟨(x, none), x, x, defArgs (top i), defBody (top i), defScope (top i), [], []⟩
def fn : List He.DefD := [dd 12 "is_number", dd 9 "check_count", dd 11 "is_joint", dd 10 "is_bar", dd 8 "checked", dd 13 "among", dd 16 "bare", dd 22 "reached", dd 21 "pass_on", dd 20 "unload", dd 19 "crowd_between", dd 18 "lay", dd 17 "carrying", dd 24 "chosen", dd 25 "worth", dd 27 "holds", dd 29 "held_by_each", dd 28 "parts", dd 30 "is_stiff", dd 34 "tied", dd 32 "knot", dd 33 "too_many", dd 36 "_law_cell_at", dd 37 "_law_whole", dd 38 "_law_mixed", dd 39 "_law_tight", dd 40 "_law_order", dd 41 "_law_named", dd 42 "_law_sets", dd 43 "_law_inside", dd 44 "_law_rising", dd 45 "_law_is_knot", dd 46 "_law_truth", dd 47 "_law_blocks", dd 48 "_law_grown", dd 49 "law"]
def fa : List He.Fa := [.glo "is_number", .glo "check_count", .glo "is_joint", .glo "is_bar", .glo "checked", .glo "among", .glo "bare", .glo "reached", .glo "pass_on", .glo "unload", .glo "crowd_between", .glo "lay", .glo "carrying", .glo "chosen", .glo "worth", .glo "holds", .glo "held_by_each", .glo "parts", .glo "is_stiff", .glo "tied", .glo "knot", .glo "too_many", .glo "_law_cell_at", .glo "_law_whole", .glo "_law_mixed", .glo "_law_tight", .glo "_law_order", .glo "_law_named", .glo "_law_sets", .glo "_law_inside", .glo "_law_rising", .glo "_law_is_knot", .glo "_law_truth", .glo "_law_blocks", .glo "_law_grown", .glo "law", .free "all", .free "bool", .free "enumerate", .free "int", .free "isinstance", .free "len", .free "list", .free "max", .free "range", .free "set", .free "sorted", .free "sum", .free "tuple", .int "MOST_JOINTS" 16, .int "MOST_BARS" 60, .int "HANDS" 2]
abbrev R : PySem.W.OpenRow := PySem.W.OpenLaw.row PySem.Challenge.rw_stiffbars_k10_whole_of_blocks
abbrev hk : PySem.W.Hook := He.hookD 4 fa fn
def ob (s : PySem.W.SharedT) : He.AlD := He.obsDG 4 fa fn (HandSHeadRun.getT s)
theorem ob_eq (s : PySem.W.SharedT) : ob s = hk.obs s.abs := He.obsDG_eq (HandSHeadRun.getT_eq s)
def loose : List Str := ("__name__" : Str) :: ("FrameError" : Str) :: ("BadCount" : Str) :: ("BadBar" : Str) :: ("NoBar" : Str) :: ("MOST_JOINTS" : Str) :: ("MOST_BARS" : Str) :: ("checked" : Str) :: ("check_count" : Str) :: ("is_bar" : Str) :: ("is_joint" : Str) :: ("is_number" : Str) :: ("among" : Str) :: ("HANDS" : Str) :: ("bare" : Str) :: ("carrying" : Str) :: ("lay" : Str) :: ("crowd_between" : Str) :: ("unload" : Str) :: ("pass_on" : Str) :: ("reached" : Str) :: ("chosen" : Str) :: ("worth" : Str) :: ("holds" : Str) :: ("parts" : Str) :: ("held_by_each" : Str) :: ("is_stiff" : Str) :: ("knot" : Str) :: ("too_many" : Str) :: ("tied" : Str) :: ("_law_cell_at" : Str) :: ("_law_whole" : Str) :: ("_law_mixed" : Str) :: ("_law_tight" : Str) :: ("_law_order" : Str) :: ("_law_named" : Str) :: ("_law_sets" : Str) :: ("_law_inside" : Str) :: ("_law_rising" : Str) :: ("_law_is_knot" : Str) :: ("_law_truth" : Str) :: ("_law_blocks" : Str) :: ("_law_grown" : Str) :: []
theorem run (w : World) : HandSHeadRun.RunEq R (PySem.W.view R.prog [49]) hk ob 8000 loose w := by
  intro os
  kernel_rfl
theorem facts {P : Program} {w : World} {K : PySem.W.Frag} {h : Heap} {mg : Str → Option Value} {f : Addr} (X : K.In h) (G : h.Ns mainGlobals mg) (hfa : mg "law" = some (.ref f)) (c : He.SaysD fa fn K) :
    ∃ fd : FuncData, (∀ (s : Shared) (v : Value), BindsTo s fd ⟨[v], []⟩ [("_law_script", v)]) ∧ ∀ base : Heap, K.In base → base.Ns mainGlobals mg → FnOk P w K mg base CX0 9 f fd ["_law_script"] (spD K R_law) := by
  have M : Mods K mg := {
    m_all := He.free_ok X G (c.fact 36 (f := .free "all") rfl),
    m_bool := He.free_ok X G (c.fact 37 (f := .free "bool") rfl),
    m_enumerate := He.free_ok X G (c.fact 38 (f := .free "enumerate") rfl),
    m_int := He.free_ok X G (c.fact 39 (f := .free "int") rfl),
    m_isinstance := He.free_ok X G (c.fact 40 (f := .free "isinstance") rfl),
    m_len := He.free_ok X G (c.fact 41 (f := .free "len") rfl),
    m_list := He.free_ok X G (c.fact 42 (f := .free "list") rfl),
    m_max := He.free_ok X G (c.fact 43 (f := .free "max") rfl),
    m_range := He.free_ok X G (c.fact 44 (f := .free "range") rfl),
    m_set := He.free_ok X G (c.fact 45 (f := .free "set") rfl),
    m_sorted := He.free_ok X G (c.fact 46 (f := .free "sorted") rfl),
    m_sum := He.free_ok X G (c.fact 47 (f := .free "sum") rfl),
    m_tuple := He.free_ok X G (c.fact 48 (f := .free "tuple") rfl),
    k_MOST_JOINTS := He.int_ok X G (c.fact 49 (f := .int "MOST_JOINTS" 16) rfl),
    k_MOST_BARS := He.int_ok X G (c.fact 50 (f := .int "MOST_BARS" 60) rfl),
    k_HANDS := He.int_ok X G (c.fact 51 (f := .int "HANDS" 2) rfl) }
  obtain ⟨fd_is_number, F_is_number⟩ := c.def_ 0 (d := dd 12 "is_number") rfl
  have g_is_number : mg "is_number" = some (.ref (He.ga K "is_number")) := He.glo_ok X G (c.fact 0 (f := .glo "is_number") rfl)
  obtain ⟨fd_check_count, F_check_count⟩ := c.def_ 1 (d := dd 9 "check_count") rfl
  have g_check_count : mg "check_count" = some (.ref (He.ga K "check_count")) := He.glo_ok X G (c.fact 1 (f := .glo "check_count") rfl)
  obtain ⟨fd_is_joint, F_is_joint⟩ := c.def_ 2 (d := dd 11 "is_joint") rfl
  have g_is_joint : mg "is_joint" = some (.ref (He.ga K "is_joint")) := He.glo_ok X G (c.fact 2 (f := .glo "is_joint") rfl)
  obtain ⟨fd_is_bar, F_is_bar⟩ := c.def_ 3 (d := dd 10 "is_bar") rfl
  have g_is_bar : mg "is_bar" = some (.ref (He.ga K "is_bar")) := He.glo_ok X G (c.fact 3 (f := .glo "is_bar") rfl)
  obtain ⟨fd_checked, F_checked⟩ := c.def_ 4 (d := dd 8 "checked") rfl
  have g_checked : mg "checked" = some (.ref (He.ga K "checked")) := He.glo_ok X G (c.fact 4 (f := .glo "checked") rfl)
  obtain ⟨fd_among, F_among⟩ := c.def_ 5 (d := dd 13 "among") rfl
  have g_among : mg "among" = some (.ref (He.ga K "among")) := He.glo_ok X G (c.fact 5 (f := .glo "among") rfl)
  obtain ⟨fd_bare, F_bare⟩ := c.def_ 6 (d := dd 16 "bare") rfl
  have g_bare : mg "bare" = some (.ref (He.ga K "bare")) := He.glo_ok X G (c.fact 6 (f := .glo "bare") rfl)
  obtain ⟨fd_reached, F_reached⟩ := c.def_ 7 (d := dd 22 "reached") rfl
  have g_reached : mg "reached" = some (.ref (He.ga K "reached")) := He.glo_ok X G (c.fact 7 (f := .glo "reached") rfl)
  obtain ⟨fd_pass_on, F_pass_on⟩ := c.def_ 8 (d := dd 21 "pass_on") rfl
  have g_pass_on : mg "pass_on" = some (.ref (He.ga K "pass_on")) := He.glo_ok X G (c.fact 8 (f := .glo "pass_on") rfl)
  obtain ⟨fd_unload, F_unload⟩ := c.def_ 9 (d := dd 20 "unload") rfl
  have g_unload : mg "unload" = some (.ref (He.ga K "unload")) := He.glo_ok X G (c.fact 9 (f := .glo "unload") rfl)
  obtain ⟨fd_crowd_between, F_crowd_between⟩ := c.def_ 10 (d := dd 19 "crowd_between") rfl
  have g_crowd_between : mg "crowd_between" = some (.ref (He.ga K "crowd_between")) := He.glo_ok X G (c.fact 10 (f := .glo "crowd_between") rfl)
  obtain ⟨fd_lay, F_lay⟩ := c.def_ 11 (d := dd 18 "lay") rfl
  have g_lay : mg "lay" = some (.ref (He.ga K "lay")) := He.glo_ok X G (c.fact 11 (f := .glo "lay") rfl)
  obtain ⟨fd_carrying, F_carrying⟩ := c.def_ 12 (d := dd 17 "carrying") rfl
  have g_carrying : mg "carrying" = some (.ref (He.ga K "carrying")) := He.glo_ok X G (c.fact 12 (f := .glo "carrying") rfl)
  obtain ⟨fd_chosen, F_chosen⟩ := c.def_ 13 (d := dd 24 "chosen") rfl
  have g_chosen : mg "chosen" = some (.ref (He.ga K "chosen")) := He.glo_ok X G (c.fact 13 (f := .glo "chosen") rfl)
  obtain ⟨fd_worth, F_worth⟩ := c.def_ 14 (d := dd 25 "worth") rfl
  have g_worth : mg "worth" = some (.ref (He.ga K "worth")) := He.glo_ok X G (c.fact 14 (f := .glo "worth") rfl)
  obtain ⟨fd_holds, F_holds⟩ := c.def_ 15 (d := dd 27 "holds") rfl
  have g_holds : mg "holds" = some (.ref (He.ga K "holds")) := He.glo_ok X G (c.fact 15 (f := .glo "holds") rfl)
  obtain ⟨fd_held_by_each, F_held_by_each⟩ := c.def_ 16 (d := dd 29 "held_by_each") rfl
  have g_held_by_each : mg "held_by_each" = some (.ref (He.ga K "held_by_each")) := He.glo_ok X G (c.fact 16 (f := .glo "held_by_each") rfl)
  obtain ⟨fd_parts, F_parts⟩ := c.def_ 17 (d := dd 28 "parts") rfl
  have g_parts : mg "parts" = some (.ref (He.ga K "parts")) := He.glo_ok X G (c.fact 17 (f := .glo "parts") rfl)
  obtain ⟨fd_is_stiff, F_is_stiff⟩ := c.def_ 18 (d := dd 30 "is_stiff") rfl
  have g_is_stiff : mg "is_stiff" = some (.ref (He.ga K "is_stiff")) := He.glo_ok X G (c.fact 18 (f := .glo "is_stiff") rfl)
  obtain ⟨fd_tied, F_tied⟩ := c.def_ 19 (d := dd 34 "tied") rfl
  have g_tied : mg "tied" = some (.ref (He.ga K "tied")) := He.glo_ok X G (c.fact 19 (f := .glo "tied") rfl)
  obtain ⟨fd_knot, F_knot⟩ := c.def_ 20 (d := dd 32 "knot") rfl
  have g_knot : mg "knot" = some (.ref (He.ga K "knot")) := He.glo_ok X G (c.fact 20 (f := .glo "knot") rfl)
  obtain ⟨fd_too_many, F_too_many⟩ := c.def_ 21 (d := dd 33 "too_many") rfl
  have g_too_many : mg "too_many" = some (.ref (He.ga K "too_many")) := He.glo_ok X G (c.fact 21 (f := .glo "too_many") rfl)
  obtain ⟨fd_l_cell_at, F_l_cell_at⟩ := c.def_ 22 (d := dd 36 "_law_cell_at") rfl
  have g_l_cell_at : mg "_law_cell_at" = some (.ref (He.ga K "_law_cell_at")) := He.glo_ok X G (c.fact 22 (f := .glo "_law_cell_at") rfl)
  obtain ⟨fd_l_whole, F_l_whole⟩ := c.def_ 23 (d := dd 37 "_law_whole") rfl
  have g_l_whole : mg "_law_whole" = some (.ref (He.ga K "_law_whole")) := He.glo_ok X G (c.fact 23 (f := .glo "_law_whole") rfl)
  obtain ⟨fd_l_mixed, F_l_mixed⟩ := c.def_ 24 (d := dd 38 "_law_mixed") rfl
  have g_l_mixed : mg "_law_mixed" = some (.ref (He.ga K "_law_mixed")) := He.glo_ok X G (c.fact 24 (f := .glo "_law_mixed") rfl)
  obtain ⟨fd_l_tight, F_l_tight⟩ := c.def_ 25 (d := dd 39 "_law_tight") rfl
  have g_l_tight : mg "_law_tight" = some (.ref (He.ga K "_law_tight")) := He.glo_ok X G (c.fact 25 (f := .glo "_law_tight") rfl)
  obtain ⟨fd_l_order, F_l_order⟩ := c.def_ 26 (d := dd 40 "_law_order") rfl
  have g_l_order : mg "_law_order" = some (.ref (He.ga K "_law_order")) := He.glo_ok X G (c.fact 26 (f := .glo "_law_order") rfl)
  obtain ⟨fd_l_named, F_l_named⟩ := c.def_ 27 (d := dd 41 "_law_named") rfl
  have g_l_named : mg "_law_named" = some (.ref (He.ga K "_law_named")) := He.glo_ok X G (c.fact 27 (f := .glo "_law_named") rfl)
  obtain ⟨fd_l_sets, F_l_sets⟩ := c.def_ 28 (d := dd 42 "_law_sets") rfl
  have g_l_sets : mg "_law_sets" = some (.ref (He.ga K "_law_sets")) := He.glo_ok X G (c.fact 28 (f := .glo "_law_sets") rfl)
  obtain ⟨fd_l_inside, F_l_inside⟩ := c.def_ 29 (d := dd 43 "_law_inside") rfl
  have g_l_inside : mg "_law_inside" = some (.ref (He.ga K "_law_inside")) := He.glo_ok X G (c.fact 29 (f := .glo "_law_inside") rfl)
  obtain ⟨fd_l_rising, F_l_rising⟩ := c.def_ 30 (d := dd 44 "_law_rising") rfl
  have g_l_rising : mg "_law_rising" = some (.ref (He.ga K "_law_rising")) := He.glo_ok X G (c.fact 30 (f := .glo "_law_rising") rfl)
  obtain ⟨fd_l_is_knot, F_l_is_knot⟩ := c.def_ 31 (d := dd 45 "_law_is_knot") rfl
  have g_l_is_knot : mg "_law_is_knot" = some (.ref (He.ga K "_law_is_knot")) := He.glo_ok X G (c.fact 31 (f := .glo "_law_is_knot") rfl)
  obtain ⟨fd_l_truth, F_l_truth⟩ := c.def_ 32 (d := dd 46 "_law_truth") rfl
  have g_l_truth : mg "_law_truth" = some (.ref (He.ga K "_law_truth")) := He.glo_ok X G (c.fact 32 (f := .glo "_law_truth") rfl)
  obtain ⟨fd_l_blocks, F_l_blocks⟩ := c.def_ 33 (d := dd 47 "_law_blocks") rfl
  have g_l_blocks : mg "_law_blocks" = some (.ref (He.ga K "_law_blocks")) := He.glo_ok X G (c.fact 33 (f := .glo "_law_blocks") rfl)
  obtain ⟨fd_l_grown, F_l_grown⟩ := c.def_ 34 (d := dd 48 "_law_grown") rfl
  have g_l_grown : mg "_law_grown" = some (.ref (He.ga K "_law_grown")) := He.glo_ok X G (c.fact 34 (f := .glo "_law_grown") rfl)
  obtain ⟨fd_law, F_law⟩ := c.def_ 35 (d := dd 49 "law") rfl
  have g_law : mg "law" = some (.ref (He.ga K "law")) := He.glo_ok X G (c.fact 35 (f := .glo "law") rfl)
  have e := hfa.symm.trans g_law
  cases e
  refine ⟨fd_law, fun s v => FunD.bindsA (ps := ["_law_script"]) F_law (fun _ _ _ _ _ _ us hl => match us, hl with | [_], _ => rfl) s [v] rfl, fun base _ _ => ?_⟩
  have C_is_number := ok_is_number (P := P) (w := w) (base := base) F_is_number g_is_number M 
  have C_check_count := ok_check_count (P := P) (w := w) (base := base) F_check_count g_check_count M C_is_number
  have C_is_joint := ok_is_joint (P := P) (w := w) (base := base) F_is_joint g_is_joint M C_is_number
  have C_is_bar := ok_is_bar (P := P) (w := w) (base := base) F_is_bar g_is_bar M C_is_joint
  have C_checked := ok_checked (P := P) (w := w) (base := base) F_checked g_checked M C_check_count C_is_bar
  have C_among := ok_among (P := P) (w := w) (base := base) F_among g_among M 
  have C_bare := ok_bare (P := P) (w := w) (base := base) F_bare g_bare M 
  have C_reached := ok_reached (P := P) (w := w) (base := base) F_reached g_reached M 
  have C_pass_on := ok_pass_on (P := P) (w := w) (base := base) F_pass_on g_pass_on M C_reached
  have C_unload := ok_unload (P := P) (w := w) (base := base) F_unload g_unload M C_pass_on
  have C_crowd_between := ok_crowd_between (P := P) (w := w) (base := base) F_crowd_between g_crowd_between M C_unload C_reached
  have C_lay := ok_lay (P := P) (w := w) (base := base) F_lay g_lay M C_crowd_between
  have C_carrying := ok_carrying (P := P) (w := w) (base := base) F_carrying g_carrying M C_bare C_lay
  have C_chosen := ok_chosen (P := P) (w := w) (base := base) F_chosen g_chosen M C_checked C_bare C_lay
  have C_worth := ok_worth (P := P) (w := w) (base := base) F_worth g_worth M C_chosen
  have C_holds := ok_holds (P := P) (w := w) (base := base) F_holds g_holds M C_checked C_is_bar C_crowd_between C_carrying
  have C_held_by_each := ok_held_by_each (P := P) (w := w) (base := base) F_held_by_each g_held_by_each M C_crowd_between
  have C_parts := ok_parts (P := P) (w := w) (base := base) F_parts g_parts M C_checked C_held_by_each C_carrying
  have C_is_stiff := ok_is_stiff (P := P) (w := w) (base := base) F_is_stiff g_is_stiff M C_worth
  have C_tied := ok_tied (P := P) (w := w) (base := base) F_tied g_tied M C_bare C_lay C_among
  have C_knot := ok_knot (P := P) (w := w) (base := base) F_knot g_knot M C_checked C_is_number C_tied
  have C_too_many := ok_too_many (P := P) (w := w) (base := base) F_too_many g_too_many M C_checked C_tied
  have C_l_cell_at := ok_l_cell_at (P := P) (w := w) (base := base) F_l_cell_at g_l_cell_at M 
  have C_l_whole := ok_l_whole (P := P) (w := w) (base := base) F_l_whole g_l_whole M 
  have C_l_mixed := ok_l_mixed (P := P) (w := w) (base := base) F_l_mixed g_l_mixed M 
  have C_l_tight := ok_l_tight (P := P) (w := w) (base := base) F_l_tight g_l_tight M C_l_mixed
  have C_l_order := ok_l_order (P := P) (w := w) (base := base) F_l_order g_l_order M 
  have C_l_named := ok_l_named (P := P) (w := w) (base := base) F_l_named g_l_named M 
  have C_l_sets := ok_l_sets (P := P) (w := w) (base := base) F_l_sets g_l_sets M 
  have C_l_inside := ok_l_inside (P := P) (w := w) (base := base) F_l_inside g_l_inside M 
  have C_l_rising := ok_l_rising (P := P) (w := w) (base := base) F_l_rising g_l_rising M C_l_whole
  have C_l_is_knot := ok_l_is_knot (P := P) (w := w) (base := base) F_l_is_knot g_l_is_knot M C_l_sets C_l_rising C_l_inside
  have C_l_truth := ok_l_truth (P := P) (w := w) (base := base) F_l_truth g_l_truth M 
  have C_l_blocks := ok_l_blocks (P := P) (w := w) (base := base) F_l_blocks g_l_blocks M C_l_mixed C_l_cell_at C_l_tight
  have C_l_grown := ok_l_grown (P := P) (w := w) (base := base) F_l_grown g_l_grown M C_l_mixed
  exact ok_law F_law g_law M C_l_blocks C_l_grown C_l_order C_l_named C_too_many C_knot C_l_cell_at C_l_truth C_l_is_knot C_parts C_worth C_is_stiff C_holds C_l_rising
end A
open PySem PySem.W PySem.Calls PyProof.Rows
set_option maxHeartbeats 0 in
theorem PySem.Challenge.cw_stiffbars_k10_whole_of_blocks_holds : PySem.Challenge.rw_stiffbars_k10_whole_of_blocks.Holds := by
  w_on; o_law
  refine HandSHeadRun.head_any (r := A.R) (q := view A.R.prog [49]) (H := A.hk) (ob := A.ob) (M := 8000) (loose := A.loose) (d := HandSHeadRun.topDef A.R.prog 49) (kwd := []) A.ob_eq
    (by kernel_rfl) (fun s => by kernel_rfl) A.run (by kernel_rfl) (by kernel_rfl) (by kernel_rfl) (by rfl) (by first | assumption | decide +kernel) (by decide +kernel) ⟨rfl, rfl, rfl, rfl, rfl, by decide +kernel⟩ ?hw ?hc
  case hw => w_witness2
  case hc =>
    refine L2.walk_ofE (l := PySem.Challenge.rw_stiffbars_k10_whole_of_blocks) (n := 63) (k := 9) (x := "_law_script") (CX := L2.CX0) rfl (by decide) (by kernel_rfl) ⟨rfl, by decide, by decide⟩ ?F (fun _ _ _ _ z => z)
    intro w mg fa h Y G hmg0
    obtain ⟨K, KX, c⟩ := Y
    have hmg : mg ("law" : PySem.Str) = some (.ref fa) := by
      have e : (HandSHeadRun.topDef A.R.prog 49).name = ("law" : PySem.Str) := by kernel_rfl
      rw [← e]
      exact hmg0
    obtain ⟨fd, hb, hF⟩ := A.facts (P := (PySem.Challenge.rw_stiffbars_k10_whole_of_blocks).prog) (w := w) KX G hmg c
    exact ⟨K, fd, Pl.spD K A.R_law, KX, hb, fun H a ns hl _ hS => ⟨H, [.ro ns], .bl true, Evl.Ex.refl H, .cons (.ro hS) .nil, .mk ns hl, fun v _ _ _ r => by cases r; rfl⟩, hF⟩

