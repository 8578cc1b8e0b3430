import PyProof.Rows.All
import Wide.All
import OpenK.AllK
import Wide.FinOn
import HandS.ForMost
import HandS.Evl
import HandS.IsInst
import HandS.Strs
import HandS.Defaults
import HandS.SortInts
import HandS.HeadEnd
import HandS.HeadHook1
import HandS.HeadHook2
import HandS.SetBool
import HandS.Lambda
import HandS.SetFor
import HandS.Dict
import KE.KDictSum
import HandS.Iter
import HandS.Deep
import HandS.Style
import KE.DataFind
import HandS.Conv
import HandS.More
import KE.SortCalls
import HandS.ExcIs
import HandS.ForExc
import HandS.Hot
import HandS.HotCalls
import HandS.ExcCtx
import HandS.WordsExc
import HandS.HeadHook4
import PyProof.SumAny
import PyProof.ListOps
import KE.KUnpackStar
import PyProof.SetRoads
import HandS.FStr
import KE.DataMinMax
import HandS.SortRule
import HandS.Flow
import KE.KMinKey
import KE.KLam
import HandS.Nested
import HandS.SortKw
import HandS.Slots
import HandS.TryOnly
import HandS.ListItems
import HandS.WordsDict
import HandS.OwnEq
import HandS.DictComp
import KE.KStateDown
import HandS.Exc
import HandS.ExcOwn
import HandS.Head0
import HandS.Head1
import HandS.Head2
import HandS.HeadWalk
import PySem.Challenge.RW_stiffbars_k02_frames_refused
set_option Elab.async false
set_option linter.all false
set_option maxRecDepth 100000
set_option maxHeartbeats 8000000
namespace Pl
open PySem PySem.Spec PyProof.Rows L2
def excB (K : PySem.W.Frag) (C : Addr) : Bool :=
  decide (PySem.W.findIn K (.ref C) "__getattribute__" = some (some (.builtin "BaseException.__getattribute__"))) && (decide (PySem.W.findIn K (.ref C) "__getattr__" = some none) && (decide (PySem.W.subIn K (.ref C) (.type "BaseException") = some true) && (PySem.W.hasDictIn K C &&
  (decide (PySem.W.findIn K (.ref C) "__class__" = some (some (.builtin "object.__class__"))) && (decide (PySem.W.specialIn K (.builtin "object.__class__") "__get__" = some (some (.builtin "getset_descriptor.__get__"))) && (decide (PySem.W.takesIn K (.builtin "object.__class__") = some true) && decide (PySem.W.mroIn K C (.type "object") = some true)))))))
def kindB (x : Str) (ys : List (Str × Bool)) (K : PySem.W.Frag) : Bool :=
  excB K (He.ga K x) && ((ys.all fun y => decide (PySem.W.kitOne K (.ref (He.ga K x)) (.ref (He.ga K y.1)) = some y.2)) && (decide (PySem.W.kitOne K (.ref (He.ga K x)) (.type "ValueError") = some true) && K.all fun p => decide (p.2.cls ≠ .ref (He.ga K x))))
def classes7 : List (Str × Str) := [("BadCount", "count"), ("BadBar", "bar"), ("NoBar", "none"), ("Full", "full"), ("NotLean", "crowd"), ("Loose", "loose"), ("BadStep", "step")]
def kinds7 (x : Str) : List (Str × Bool) := classes7.map fun p => (p.1, p.1 == x)
def gotV : Option Int → V
  | some i => .int i
  | none => .non
def gotB (K : PySem.W.Frag) (a : Addr) (l : List (Str × Option Int)) : Bool := l.all fun p => match PySem.W.nsIn K a p.1, p.2 with
  | some (some (.int i _)), some j => decide (i = j)
  | some none, none => true
  | _, _ => false
end Pl
namespace A
open PySem PySem.Spec PyProof.Rows L2 Pl
open Evl (Ex)
def top (i : Nat) : Stmt := PySem.Challenge.pw_stiffbars_k02_frames_refused.main.body.getD i (.Pass ⟨0, 0, 0, 0⟩)
def mth (i j : Nat) : Stmt := match top i with
  | .ClassDef _ _ _ body .. => body.getD j (.Pass ⟨0, 0, 0, 0⟩)
  | s => s
def keys_LENGTHS : List (Str × Option Int) := [("bar", some 3), ("two", some 4), ("three", some 5)]
def dd (i : Nat) (x : Str) : He.DefD := ⟨(x, none), x, x, defArgs (top i), defBody (top i), defScope (top i), [], []⟩
def dm (i j : Nat) (c x q : Str) : He.DefD := ⟨(c, some x), x, q, defArgs (mth i j), defBody (mth i j), defScope (mth i j), [], []⟩
def fn : List He.DefD := [dd 17 "is_number", dd 14 "check_count", dd 16 "is_joint", dd 15 "is_bar", dd 13 "checked", dd 22 "crowded", dd 31 "chosen", dd 32 "worth", dd 34 "holds", dd 35 "parts", dd 38 "is_stiff", dd 41 "steps", dd 46 "built", dd 52 "knot", dd 54 "too_many", dd 59 "_law_cell_at", dd 60 "_law_mixed", dd 61 "_law_free", dd 62 "_law_kind", dd 63 "_law_asked", dm 57 0 "Frame" "__init__" "Frame.__init__", dd 64 "_law_made", dd 65 "_law_bad_bar", dd 66 "law"]
def fa : List He.Fa := [.glo "is_number", .glo "check_count", .glo "is_joint", .glo "is_bar", .glo "checked", .glo "crowded", .glo "chosen", .glo "worth", .glo "holds", .glo "parts", .glo "is_stiff", .glo "steps", .glo "built", .glo "knot", .glo "too_many", .glo "_law_cell_at", .glo "_law_mixed", .glo "_law_free", .glo "_law_kind", .glo "_law_asked", .mkr "Frame", .glo "_law_made", .glo "_law_bad_bar", .glo "law", .free "ValueError", .free "bool", .free "enumerate", .free "int", .free "isinstance", .free "len", .free "list", .free "range", .free "tuple", .int "MOST_JOINTS" 16, .int "MOST_BARS" 60, .int "HANDS" 2, .glo "FrameError", .glo "BadCount", .glo "BadBar", .glo "NoBar", .glo "Full", .glo "NotLean", .glo "Loose", .glo "BadStep", .exc "BadCount", .exm "BadCount" "FrameError" true, .exc "BadBar", .exm "BadBar" "FrameError" true, .glo "LENGTHS", .glo "knot_knots", .glo "parts_parts", .glo "steps_building", .cls "Frame", .glo "Frame", .noat "Frame" "_count", .noat "Frame" "_coming", .noat "Frame" "_standing"]
abbrev R : PySem.W.OpenRow := PySem.W.OpenLaw.row PySem.Challenge.rw_stiffbars_k02_frames_refused
def exK (K : PySem.W.Frag) : Bool := kindB "BadCount" (kinds7 "BadCount") K && kindB "BadBar" (kinds7 "BadBar") K && gotB K (He.ga K "LENGTHS") keys_LENGTHS && decide (He.ga K "knot_knots" = He.ga K "knot") && decide (He.ga K "parts_parts" = He.ga K "parts") && decide (He.ga K "steps_building" = He.ga K "steps")
def tabs : List He.Tab := [(fun K => He.ga K "LENGTHS", ["bar", "two", "three"])]
abbrev hk : PySem.W.Hook := He.hookX 5 fa fn tabs [] exK
def ob (s : PySem.W.SharedT) : He.AlX := He.obsX 5 fa fn tabs [] exK (HandSHeadRun.getT s)
theorem ob_eq (s : PySem.W.SharedT) : ob s = hk.obs s.abs := He.obsX_eq (HandSHeadRun.getT_eq s)
def loose : List Str := ("__name__" : Str) :: ("_wall" : Str) :: ("FrameError" : Str) :: ("BadCount" : Str) :: ("BadBar" : Str) :: ("NoBar" : Str) :: ("Full" : Str) :: ("NotLean" : Str) :: ("Loose" : Str) :: ("BadStep" : Str) :: ("MOST_JOINTS" : Str) :: ("MOST_BARS" : Str) :: ("checked" : Str) :: ("check_count" : Str) :: ("is_bar" : Str) :: ("is_joint" : Str) :: ("is_number" : Str) :: ("joints_of" : Str) :: ("among" : Str) :: ("HANDS" : Str) :: ("crowded" : Str) :: ("bare" : Str) :: ("carrying" : Str) :: ("lay" : Str) :: ("crowd_between" : Str) :: ("unload" : Str) :: ("pass_on" : Str) :: ("reached" : Str) :: ("chosen" : Str) :: ("worth" : Str) :: ("holds" : Str) :: ("parts" : Str) :: ("parts_parts" : Str) :: ("held_by_each" : Str) :: ("is_stiff" : Str) :: ("LENGTHS" : Str) :: ("steps" : Str) :: ("steps_building" : Str) :: ("last_step" : Str) :: ("least_tied" : Str) :: ("gap_first" : Str) :: ("built" : Str) :: ("is_step" : Str) :: ("may_follow" : Str) :: ("after" : Str) :: ("lesser_first" : Str) :: ("knot" : Str) :: ("knot_knots" : Str) :: ("too_many" : Str) :: ("tied" : Str) :: ("Frame" : Str) :: ("_law_cell_at" : Str) :: ("_law_mixed" : Str) :: ("_law_free" : Str) :: ("_law_kind" : Str) :: ("_law_asked" : Str) :: ("_law_made" : Str) :: ("_law_bad_bar" : Str) :: []
theorem run_no (w : World) : HandSHeadRun.RunEq R (PySem.W.view R.prog [66]) hk ob 8000 loose (w.withFollow "special-get-raises" false) := by
  intro os
  kernel_rfl
theorem run_yes (w : World) : HandSHeadRun.RunEq R (PySem.W.view R.prog [66]) hk ob 8000 loose (w.withFollow "special-get-raises" true) := by
  intro os
  kernel_rfl
theorem run (w : World) : HandSHeadRun.RunEq R (PySem.W.view R.prog [66]) hk ob 8000 loose w := PySem.W.byRow2 "special-get-raises" (P := fun w => HandSHeadRun.RunEq R (PySem.W.view R.prog [66]) hk ob 8000 loose w) run_no run_yes w
end A
/-! Frames by counts: sets of joints as tests, bars that lie among them, slim bars (those that crowd no joints), tight sets. Core Lean alone. -/
namespace Fr
abbrev Bar := Nat × Nat
abbrev JS := Nat → Bool

theorem countP_four {α : Type} {p q r s : α → Bool} : ∀ {l : List α}, (∀ x ∈ l, (p x).toNat + (q x).toNat ≤ (r x).toNat + (s x).toNat) → l.countP p + l.countP q ≤ l.countP r + l.countP s
  | [], _ => by simp
  | a :: l, h => by
    have ih := countP_four (l := l) fun x hx => h x (List.mem_cons_of_mem _ hx)
    have ha := h a List.mem_cons_self
    simp only [List.countP_cons]
    cases hp : p a <;> cases hq : q a <;> cases hr : r a <;> cases hs : s a <;> simp [hp, hq, hr, hs] at ha ⊢ <;> omega

theorem countP_four_eq {α : Type} {p q r s : α → Bool} {l : List α} (h : ∀ x ∈ l, (p x).toNat + (q x).toNat = (r x).toNat + (s x).toNat) : l.countP p + l.countP q = l.countP r + l.countP s :=
  Nat.le_antisymm (countP_four fun x hx => Nat.le_of_eq (h x hx)) (countP_four fun x hx => Nat.le_of_eq (h x hx).symm)

theorem countP_sub {α : Type} {p q : α → Bool} {l : List α} (h : ∀ x ∈ l, p x = true → q x = true) : l.countP p ≤ l.countP q :=
  List.countP_mono_left h

theorem countP_same {α : Type} {p q : α → Bool} {l : List α} (h : ∀ x ∈ l, p x = q x) : l.countP p = l.countP q :=
  List.countP_congr fun x hx => by rw [h x hx]

def card (n : Nat) (S : JS) : Nat := (List.range n).countP S
def ins (bs : List Bar) (S : JS) : Nat := bs.countP fun b => S b.1 && S b.2
def cup (S T : JS) : JS := fun x => S x || T x
def cap (S T : JS) : JS := fun x => S x && T x
def Ok (n : Nat) (bs : List Bar) : Prop := ∀ b ∈ bs, b.1 < n ∧ b.2 < n ∧ b.1 ≠ b.2
/-- bars that crowd no joints -/
def Slim (n : Nat) (bs : List Bar) : Prop := ∀ S : JS, 2 ≤ card n S → ins bs S + 3 ≤ 2 * card n S
/-- joints that have no room for a bar more -/
def Tight (n : Nat) (bs : List Bar) (S : JS) : Prop := 2 ≤ card n S ∧ ins bs S + 3 = 2 * card n S

theorem card_cup_cap (n : Nat) (S T : JS) : card n S + card n T = card n (cup S T) + card n (cap S T) := by
  unfold card cup cap
  exact countP_four_eq fun x _ => by cases S x <;> cases T x <;> rfl
theorem ins_cup_cap (bs : List Bar) (S T : JS) : ins bs S + ins bs T ≤ ins bs (cup S T) + ins bs (cap S T) := by
  unfold ins cup cap
  exact countP_four fun x _ => by cases S x.1 <;> cases T x.1 <;> cases S x.2 <;> cases T x.2 <;> decide
theorem card_mono {n : Nat} {S T : JS} (h : ∀ x, x < n → S x = true → T x = true) : card n S ≤ card n T :=
  countP_sub fun x hx => h x (List.mem_range.mp hx)
theorem card_same {n : Nat} {S T : JS} (h : ∀ x, x < n → S x = T x) : card n S = card n T :=
  countP_same fun x hx => h x (List.mem_range.mp hx)
theorem ins_mono {bs : List Bar} {S T : JS} (h : ∀ x, S x = true → T x = true) : ins bs S ≤ ins bs T :=
  countP_sub fun b _ e => by
    rw [Bool.and_eq_true] at e ⊢
    exact ⟨h _ e.1, h _ e.2⟩
theorem ins_same {n : Nat} {bs : List Bar} {S T : JS} (ok : Ok n bs) (h : ∀ x, x < n → S x = T x) : ins bs S = ins bs T :=
  countP_same fun b hb => by rw [h _ (ok b hb).1, h _ (ok b hb).2.1]
theorem card_le (n : Nat) (S : JS) : card n S ≤ n := by
  have := List.countP_le_length (p := S) (l := List.range n)
  simpa [card] using this
theorem card_pos {n x : Nat} {S : JS} (hx : x < n) (h : S x = true) : 0 < card n S :=
  List.countP_pos_iff.mpr ⟨x, List.mem_range.mpr hx, h⟩
theorem card_zero {n : Nat} {S : JS} (h : card n S = 0) {x : Nat} (hx : x < n) : S x = false := by
  cases e : S x with
  | false => rfl
  | true =>
    have := card_pos hx e
    omega
def one (a : Nat) : JS := fun x => x == a
def two (a b : Nat) : JS := fun x => x == a || x == b
theorem card_one {n a : Nat} (h : a < n) : card n (one a) = 1 := by
  unfold card one
  have : (List.range n).countP (fun x => x == a) = (List.range n).count a := rfl
  rw [this, List.count_range]
  simp [h]
theorem card_two {n a b : Nat} (ha : a < n) (hb : b < n) (ne : a ≠ b) : card n (two a b) = 2 := by
  have h := card_cup_cap n (one a) (one b)
  rw [card_one ha, card_one hb] at h
  have e1 : card n (cap (one a) (one b)) = 0 := by
    unfold card
    rw [List.countP_eq_zero]
    intro x _ e
    simp [cap, one] at e
    exact ne (e.1.symm.trans e.2)
  have e2 : card n (cup (one a) (one b)) = card n (two a b) := card_same fun x _ => rfl
  omega
theorem two_le_card {n a b : Nat} {S : JS} (ha : a < n) (hb : b < n) (ne : a ≠ b) (h1 : S a = true) (h2 : S b = true) : 2 ≤ card n S := by
  rw [← card_two ha hb ne]
  refine card_mono fun x _ e => ?_
  simp [two] at e
  rcases e with rfl | rfl <;> assumption
/-- one joint alone, or none -/
theorem le_one_of {n : Nat} {S : JS} (h : card n S ≤ 1) {a b : Nat} (ha : a < n) (hb : b < n) (h1 : S a = true) (h2 : S b = true) : a = b := by
  by_cases e : a = b
  · exact e
  · have := two_le_card ha hb e h1 h2
    omega
theorem exists_two {n : Nat} {S : JS} (h : 2 ≤ card n S) : ∃ a b, a < b ∧ b < n ∧ S a = true ∧ S b = true := by
  obtain ⟨a, ha, h1⟩ : ∃ a, a < n ∧ S a = true := by
    have : 0 < card n S := by omega
    obtain ⟨a, ha, h1⟩ := List.countP_pos_iff.mp this
    exact ⟨a, List.mem_range.mp ha, h1⟩
  have hc := card_cup_cap n (fun x => S x && !(x == a)) (one a)
  rw [card_one ha] at hc
  have e1 : card n (cup (fun x => S x && !(x == a)) (one a)) = card n S := card_same fun x _ => by
    show (S x && !(x == a) || (x == a)) = S x
    cases e : (x == a) with
    | false => simp
    | true =>
      rw [beq_iff_eq.mp e, h1]
      rfl
  have e2 : card n (cap (fun x => S x && !(x == a)) (one a)) = 0 := by
    unfold card
    rw [List.countP_eq_zero]
    intro x _ e
    simp [cap, one] at e
    exact e.1.2 e.2
  have : 0 < card n (fun x => S x && !(x == a)) := by omega
  obtain ⟨b, hb, h2⟩ := List.countP_pos_iff.mp this
  simp at h2 hb
  by_cases l : a < b
  · exact ⟨a, b, l, hb, h1, h2.1⟩
  · exact ⟨b, a, by omega, ha, h2.1, h1⟩

/-- fewer than two joints: no bar lies among them -/
theorem ins_small {n : Nat} {bs : List Bar} {S : JS} (ok : Ok n bs) (h : card n S ≤ 1) : ins bs S = 0 := by
  unfold ins
  rw [List.countP_eq_zero]
  intro b hb e
  rw [Bool.and_eq_true] at e
  obtain ⟨l1, l2, ne⟩ := ok b hb
  exact ne (le_one_of h l1 l2 e.1 e.2)

theorem Slim.le {n : Nat} {bs : List Bar} (h : Slim n bs) (S : JS) (hS : 2 ≤ card n S) : ins bs S + 3 ≤ 2 * card n S := h S hS

/-- two tight sets with two joints together: both the union and the intersection are tight -/
theorem Tight.cup {n : Nat} {bs : List Bar} (hl : Slim n bs) {S T : JS} (hS : Tight n bs S) (hT : Tight n bs T) (h : 2 ≤ card n (cap S T)) : Tight n bs (cup S T) ∧ Tight n bs (cap S T) := by
  have c := card_cup_cap n S T
  have i := ins_cup_cap bs S T
  have h2 := hl _ h
  have hc : card n (cap S T) ≤ card n (Fr.cup S T) := card_mono fun x _ e => by
    simp [cap] at e
    simp [Fr.cup, e.1]
  have h1 := hl (Fr.cup S T) (by omega)
  obtain ⟨s1, s2⟩ := hS
  obtain ⟨t1, t2⟩ := hT
  exact ⟨⟨by omega, by omega⟩, ⟨h, by omega⟩⟩
theorem Tight.cup_of {n : Nat} {bs : List Bar} (hl : Slim n bs) {S T : JS} (hS : Tight n bs S) (hT : Tight n bs T) {a b : Nat} (ha : a < n) (hb : b < n) (ne : a ≠ b)
    (s1 : S a = true) (s2 : S b = true) (t1 : T a = true) (t2 : T b = true) : Tight n bs (Fr.cup S T) :=
  (hS.cup hl hT (two_le_card ha hb ne (by simp [cap, s1, t1]) (by simp [cap, s2, t2]))).1
theorem Tight.same {n : Nat} {bs : List Bar} (ok : Ok n bs) {S T : JS} (h : Tight n bs S) (e : ∀ x, x < n → S x = T x) : Tight n bs T := by
  obtain ⟨h1, h2⟩ := h
  rw [card_same e] at h1 h2
  rw [ins_same ok e] at h2
  exact ⟨h1, h2⟩

theorem bool_three {a b c d e f : Bool} (h1 : ¬ ((a && b) = true ∧ (e && f) = true)) (h2 : ¬ ((c && d) = true ∧ (e && f) = true)) :
    ((a && b) || (c && d)).toNat + (e && f).toNat ≤ (((a || c) || e) && ((b || d) || f)).toNat + false.toNat := by
  revert a b c d e f
  decide
/-- three tight sets, two by two with one joint together: the union is tight -/
theorem Tight.three {n : Nat} {bs : List Bar} (ok : Ok n bs) (hl : Slim n bs) {S T U : JS} (hS : Tight n bs S) (hT : Tight n bs T) (hU : Tight n bs U)
    (h1 : card n (cap S T) = 1) (h2 : card n (cap (Fr.cup S T) U) = 2) (h3 : card n (cap S U) = 1) (h4 : card n (cap T U) = 1) : Tight n bs (Fr.cup (Fr.cup S T) U) := by
  have c1 := card_cup_cap n S T
  have c2 := card_cup_cap n (Fr.cup S T) U
  obtain ⟨s1, s2⟩ := hS
  obtain ⟨t1, t2⟩ := hT
  obtain ⟨u1, u2⟩ := hU
  have n1 := ins_small ok (S := cap S T) (by omega)
  have n2 := ins_small ok (S := cap S U) (by omega)
  have n3 := ins_small ok (S := cap T U) (by omega)
  have b := hl (Fr.cup (Fr.cup S T) U) (by omega)
  -- no bar lies in two of the three
  have z : ∀ x ∈ bs, ∀ A B : JS, ins bs (cap A B) = 0 → ¬ ((A x.1 && A x.2) = true ∧ (B x.1 && B x.2) = true) := fun x hx A B h e => by
    unfold ins at h
    rw [List.countP_eq_zero] at h
    refine h x hx ?_
    simp only [Bool.and_eq_true] at e
    simp [cap, e]
  have k1 : ins bs S + ins bs T ≤ bs.countP (fun x => (S x.1 && S x.2) || (T x.1 && T x.2)) + bs.countP (fun _ => false) := countP_four fun x hx => by
    have := z x hx S T n1
    cases e1 : (S x.1 && S x.2) <;> cases e2 : (T x.1 && T x.2) <;> simp_all
  have k2 : bs.countP (fun x => (S x.1 && S x.2) || (T x.1 && T x.2)) + ins bs U ≤ ins bs (Fr.cup (Fr.cup S T) U) + bs.countP (fun _ => false) := countP_four fun x hx => by
    have y1 := z x hx S U n2
    have y2 := z x hx T U n3
    simp only [Fr.cup]
    exact bool_three y1 y2
  have k3 : bs.countP (fun _ => false) = 0 := by simp
  exact ⟨by omega, by omega⟩
end Fr

/-! Bars handed out to their ends: what each joint carries; paths turned about. -/
namespace Fr
abbrev Cs := List (List Nat)
def at_ (cs : Cs) (v : Nat) : List Nat := cs.getD v []
/-- how many of the bars that lie among S, by what the joints below k carry -/
def outs (cs : Cs) (S : JS) : Nat → Nat
  | 0 => 0
  | k + 1 => outs cs S k + if S k = true then (at_ cs k).countP S else 0
theorem at_set {cs : Cs} {v w : Nat} {l : List Nat} (hv : v < cs.length) : at_ (cs.set v l) w = if v = w then l else at_ cs w := by
  unfold at_
  by_cases h : v = w
  · subst h
    simp [List.getD, hv]
  · simp [List.getD, h, List.getElem?_set_ne h]
theorem at_len {cs : Cs} {v : Nat} (h : at_ cs v ≠ []) : v < cs.length := by
  by_cases l : v < cs.length
  · exact l
  · refine absurd ?_ h
    unfold at_
    simp [List.getD, Nat.le_of_not_lt l]
theorem outs_congr {cs ds : Cs} {S : JS} : ∀ {k : Nat}, (∀ v, v < k → S v = true → (at_ cs v).countP S = (at_ ds v).countP S) → outs cs S k = outs ds S k
  | 0, _ => rfl
  | k + 1, h => by
    have ih := outs_congr (k := k) fun v hv => h v (by omega)
    unfold outs
    rw [ih]
    by_cases hs : S k = true
    · rw [if_pos hs, if_pos hs, h k (by omega) hs]
    · rw [if_neg hs, if_neg hs]
/-- one list changed -/
theorem outs_set {cs : Cs} {S : JS} {v : Nat} {l : List Nat} (hv : v < cs.length) : ∀ {k : Nat}, v < k → outs (cs.set v l) S k + (if S v = true then (at_ cs v).countP S else 0) = outs cs S k + (if S v = true then l.countP S else 0)
  | 0, h => by omega
  | k + 1, h => by
    unfold outs
    rw [at_set hv]
    by_cases hk : v = k
    · subst hk
      have e : outs (cs.set v l) S v = outs cs S v := outs_congr fun w hw _ => by rw [at_set hv, if_neg (by omega)]
      rw [e, if_pos rfl]
      omega
    · have ih := outs_set (cs := cs) (S := S) (l := l) hv (k := k) (by omega)
      rw [if_neg hk]
      omega
/-- what is carried are the bars -/
structure Fits (n : Nat) (cs : Cs) (bs : List Bar) : Prop where
  len : cs.length = n
  two : ∀ v, (at_ cs v).length ≤ 2
  low : ∀ v w, w ∈ at_ cs v → w < n ∧ w ≠ v
  out : ∀ S : JS, ins bs S = outs cs S n
/-- the bar from b to j is turned about -/
def turn (cs : Cs) (b j : Nat) : Cs := (cs.set b ((at_ cs b).erase j)).set j (at_ (cs.set b ((at_ cs b).erase j)) j ++ [b])
theorem turn_len (cs : Cs) (b j : Nat) : (turn cs b j).length = cs.length := by simp [turn]
theorem turn_at {cs : Cs} {b j w : Nat} (hb : b < cs.length) (hj : j < cs.length) (ne : b ≠ j) : at_ (turn cs b j) w = if j = w then at_ cs j ++ [b] else if b = w then (at_ cs b).erase j else at_ cs w := by
  unfold turn
  rw [at_set (by simpa using hj)]
  by_cases h : j = w
  · rw [if_pos h, if_pos h, at_set hb, if_neg ne]
  · rw [if_neg h, if_neg h, at_set hb]
theorem countP_erase {S : JS} : ∀ {l : List Nat} {j : Nat}, j ∈ l → (l.erase j).countP S + (if S j = true then 1 else 0) = l.countP S
  | a :: l, j, h => by
    rw [List.erase_cons]
    by_cases e : a = j
    · subst e
      simp only [beq_self_eq_true, if_true]
      rw [List.countP_cons]
    · have e2 : (a == j) = false := by simpa using e
      rw [e2]
      simp only [Bool.false_eq_true, if_false]
      rcases List.mem_cons.mp h with h | h
      · exact absurd h.symm e
      · have ih := countP_erase (S := S) h
        rw [List.countP_cons, List.countP_cons]
        omega
theorem outs_turn {n : Nat} {cs : Cs} {b j : Nat} (hl : cs.length = n) (hb : b < n) (hj : j < n) (ne : b ≠ j) (hm : j ∈ at_ cs b) (S : JS) : outs (turn cs b j) S n = outs cs S n := by
  have h1 := outs_set (cs := cs) (S := S) (l := (at_ cs b).erase j) (v := b) (by omega) (k := n) hb
  have h2 := outs_set (cs := cs.set b ((at_ cs b).erase j)) (S := S) (l := at_ (cs.set b ((at_ cs b).erase j)) j ++ [b]) (v := j) (by simp; omega) (k := n) hj
  have h3 := countP_erase (S := S) hm
  rw [List.countP_append] at h2
  have h4 : List.countP S [b] = if S b = true then 1 else 0 := by
    simp [List.countP_cons]
  rw [h4] at h2
  unfold turn
  by_cases hsb : S b = true <;> by_cases hsj : S j = true <;> simp only [hsb, hsj, if_true, if_false, Bool.false_eq_true] at h1 h2 h3 <;> omega
/-! ### the joints that carried bars lead to -/
abbrev Ah := List (Nat × Nat)
def keys (ah : Ah) : List Nat := ah.map (·.1)
def look (ah : Ah) (k : Nat) : Nat := ((ah.find? fun p => p.1 == k).map (·.2)).getD 0
/-- the ends of what a joint carries -/
def visit (j : Nat) : List Nat → Ah → List Nat → Ah × List Nat
  | [], ah, wt => (ah, wt)
  | f :: fs, ah, wt => if f ∈ keys ah then visit j fs ah wt else visit j fs (ah ++ [(f, j)]) (wt ++ [f])
def reach (cs : Cs) : Nat → Ah → List Nat → Ah
  | 0, ah, _ => ah
  | k + 1, ah, wt => match wt.getLast? with
    | none => ah
    | some j => reach cs k (visit j (at_ cs j) ah wt.dropLast).1 (visit j (at_ cs j) ah wt.dropLast).2
def reached (cs : Cs) (start : Nat) : Ah := reach cs (2 * cs.length + 2) [(start, start)] [start]
theorem keys_append (ah : Ah) (f j : Nat) : keys (ah ++ [(f, j)]) = keys ah ++ [f] := by simp [keys]
/-- what holds of the joints found so far -/
structure Seen (n : Nat) (cs : Cs) (start : Nat) (ah : Ah) (wt : List Nat) : Prop where
  nd : (keys ah).Nodup
  low : ∀ k ∈ keys ah, k < n
  head : ∃ r, ah = (start, start) :: r
  par : ∀ (i f p : Nat), ah[i]? = some (f, p) → i ≠ 0 → f ∈ at_ cs p ∧ ∃ i' q, i' < i ∧ ah[i']? = some (p, q)
  wsub : ∀ k ∈ wt, k ∈ keys ah
/-- all but those that wait lead to joints that are found -/
def Shut (cs : Cs) (ah : Ah) (wt : List Nat) : Prop := ∀ k ∈ keys ah, k ∉ wt → ∀ f ∈ at_ cs k, f ∈ keys ah
theorem visit_seen {n : Nat} {cs : Cs} {start j : Nat} (hlow : ∀ v w, w ∈ at_ cs v → w < n ∧ w ≠ v) : ∀ (fs : List Nat) (ah : Ah) (wt : List Nat), (∀ f ∈ fs, f ∈ at_ cs j) → j ∈ keys ah → Seen n cs start ah wt →
    Seen n cs start (visit j fs ah wt).1 (visit j fs ah wt).2 ∧ (∀ k ∈ keys ah, k ∈ keys (visit j fs ah wt).1) ∧ (∀ f ∈ fs, f ∈ keys (visit j fs ah wt).1) ∧ (∀ k ∈ wt, k ∈ (visit j fs ah wt).2) ∧ (∀ k ∈ keys (visit j fs ah wt).1, k ∈ keys ah ∨ k ∈ (visit j fs ah wt).2)
    ∧ (visit j fs ah wt).1.length + wt.length = ah.length + (visit j fs ah wt).2.length
  | [], ah, wt, _, _, s => ⟨s, fun _ h => h, (fun _ h => by cases h), fun _ h => h, fun _ h => .inl h, rfl⟩
  | f :: fs, ah, wt, hf, hj, s => by
    unfold visit
    by_cases hk : f ∈ keys ah
    · rw [if_pos hk]
      obtain ⟨a, b, c, d, e, g⟩ := visit_seen hlow fs ah wt (fun x hx => hf x (List.mem_cons_of_mem _ hx)) hj s
      refine ⟨a, b, fun x hx => ?_, d, e, g⟩
      rcases List.mem_cons.mp hx with rfl | hx
      · exact b _ hk
      · exact c x hx
    · rw [if_neg hk]
      have hfj := hf f List.mem_cons_self
      obtain ⟨r, hr⟩ := s.head
      have s' : Seen n cs start (ah ++ [(f, j)]) (wt ++ [f]) := by
        refine ⟨?_, fun k hk' => ?_, ⟨r ++ [(f, j)], by rw [hr]; rfl⟩, fun i g p hg hi => ?_, fun k hk' => ?_⟩
        · rw [keys_append, List.nodup_append]
          refine ⟨s.nd, by simp, fun x hx y hy => ?_⟩
          rw [List.mem_singleton.mp hy]
          exact fun e => hk (e ▸ hx)
        · rw [keys_append] at hk'
          rcases List.mem_append.mp hk' with h | h
          · exact s.low k h
          · rw [List.mem_singleton.mp h]
            exact (hlow j f hfj).1
        · by_cases hl : i < ah.length
          · rw [List.getElem?_append_left hl] at hg
            obtain ⟨h1, i', q, h2, h3⟩ := s.par i g p hg hi
            exact ⟨h1, i', q, h2, by rw [List.getElem?_append_left (by omega)]; exact h3⟩
          · rw [List.getElem?_append_right (by omega)] at hg
            have e : i = ah.length := by
              by_cases z : i - ah.length = 0
              · omega
              · obtain ⟨m, hm⟩ : ∃ m, i - ah.length = m + 1 := ⟨i - ah.length - 1, by omega⟩
                rw [hm] at hg
                simp at hg
            subst e
            simp at hg
            obtain ⟨rfl, rfl⟩ := hg
            refine ⟨hfj, ?_⟩
            obtain ⟨⟨a, q⟩, hm, e⟩ := List.mem_map.mp hj
            obtain ⟨i', hi'⟩ := List.getElem?_of_mem hm
            have li := (List.getElem?_eq_some_iff.mp hi').1
            refine ⟨i', q, li, ?_⟩
            rw [List.getElem?_append_left li, hi']
            simp at e
            rw [e]
        · rw [keys_append]
          rcases List.mem_append.mp hk' with h | h
          · exact List.mem_append_left _ (s.wsub k h)
          · exact List.mem_append_right _ h
      obtain ⟨a, b, c, d, e, g⟩ := visit_seen hlow fs (ah ++ [(f, j)]) (wt ++ [f]) (fun x hx => hf x (List.mem_cons_of_mem _ hx)) (by rw [keys_append]; exact List.mem_append_left _ hj) s'
      refine ⟨a, fun k hk' => b k (by rw [keys_append]; exact List.mem_append_left _ hk'), fun x hx => ?_, fun k hk' => d k (List.mem_append_left _ hk'), fun k hk' => ?_, ?_⟩
      · rcases List.mem_cons.mp hx with rfl | hx
        · exact b _ (by rw [keys_append]; exact List.mem_append_right _ (List.mem_singleton.mpr rfl))
        · exact c x hx
      · rcases e k hk' with h | h
        · rw [keys_append] at h
          rcases List.mem_append.mp h with h | h
          · exact .inl h
          · exact .inr (d k (List.mem_append_right _ h))
        · exact .inr h
      · simp at g
        omega
theorem seen_small {n : Nat} {cs : Cs} {start : Nat} {ah : Ah} {wt : List Nat} (s : Seen n cs start ah wt) : ah.length ≤ n := by
  have h := List.Nodup.length_le_of_subset s.nd (l₂ := List.range n) fun k hk => List.mem_range.mpr (s.low k hk)
  simpa [keys] using h
theorem dropLast_mem {α : Type} {l : List α} {x : α} (h : x ∈ l.dropLast) : x ∈ l := List.dropLast_subset l h
theorem reach_seen {n : Nat} {cs : Cs} {start : Nat} (hlow : ∀ v w, w ∈ at_ cs v → w < n ∧ w ≠ v) : ∀ (k : Nat) (ah : Ah) (wt : List Nat), Seen n cs start ah wt → Shut cs ah wt → 2 * (n - ah.length) + wt.length < k →
    Seen n cs start (reach cs k ah wt) [] ∧ Shut cs (reach cs k ah wt) []
  | 0, _, _, _, _, h => by omega
  | k + 1, ah, wt, s, sh, h => by
    unfold reach
    cases hl : wt.getLast? with
    | none =>
      have e : wt = [] := by simpa using hl
      subst e
      exact ⟨⟨s.nd, s.low, s.head, s.par, (fun _ h => by cases h)⟩, sh⟩
    | some j =>
      dsimp only
      have hne : wt ≠ [] := fun z => by rw [z] at hl; cases hl
      have ew : wt = wt.dropLast ++ [j] := by
        have e1 := List.dropLast_concat_getLast hne
        rw [List.getLast?_eq_some_getLast hne] at hl
        rw [Option.some.inj hl] at e1
        exact e1.symm
      have hj : j ∈ keys ah := s.wsub j (by rw [ew]; exact List.mem_append_right _ (List.mem_singleton.mpr rfl))
      have s0 : Seen n cs start ah wt.dropLast := ⟨s.nd, s.low, s.head, s.par, fun x hx => s.wsub x (dropLast_mem hx)⟩
      obtain ⟨a, b, c, d, e, g⟩ := visit_seen hlow (at_ cs j) ah wt.dropLast (fun _ h => h) hj s0
      have ll : wt.length = wt.dropLast.length + 1 := by
        have := congrArg List.length ew
        simpa using this
      have sm := seen_small a
      refine reach_seen hlow k _ _ a (fun x hx hw f hf => ?_) ?_
      · rcases e x hx with h1 | h1
        · by_cases hxj : x = j
          · subst hxj
            exact c f hf
          · refine b f (sh x h1 (fun z => ?_) f hf)
            rw [ew] at z
            rcases List.mem_append.mp z with z | z
            · exact hw (d x z)
            · exact hxj (List.mem_singleton.mp z)
        · exact absurd h1 hw
      · have hlen : ah.length ≤ (visit j (at_ cs j) ah wt.dropLast).1.length := by
          have := List.Nodup.length_le_of_subset s.nd (l₂ := keys (visit j (at_ cs j) ah wt.dropLast).1) b
          simpa [keys] using this
        omega
theorem reached_seen {n : Nat} {cs : Cs} {start : Nat} (hl : cs.length = n) (hlow : ∀ v w, w ∈ at_ cs v → w < n ∧ w ≠ v) (hs : start < n) : Seen n cs start (reached cs start) [] ∧ Shut cs (reached cs start) [] := by
  unfold reached
  refine reach_seen hlow _ _ _ ⟨by simp [keys], fun k hk => ?_, ⟨[], rfl⟩, fun i f p h hi => ?_, fun k hk => ?_⟩ (fun k hk hw => ?_) ?_
  · simp [keys] at hk
    omega
  · obtain ⟨m, rfl⟩ : ∃ m, i = m + 1 := ⟨i - 1, by omega⟩
    simp at h
  · simpa [keys] using hk
  · simp [keys] at hk
    exact absurd (List.mem_singleton.mpr hk) hw
  · simp
    omega
end Fr

/-! Laying a bar: a joint rid of what it carries; when a bar is taken, and which joints it would crowd. -/
namespace Fr
def back (ah : Ah) (start : Nat) : Nat → Cs → Nat → Cs
  | 0, cs, _ => cs
  | k + 1, cs, j => if j = start then cs else back ah start k (turn cs (look ah j) j) (look ah j)
def freeOf (cs : Cs) (start spared : Nat) : List Nat := (keys (reached cs start)).filter fun j => decide ((at_ cs j).length < 2) && (!decide (j = start) && !decide (j = spared))
def passOn (cs : Cs) (start spared : Nat) : Option Cs := match freeOf cs start spared with
  | [] => none
  | j :: _ => some (back (reached cs start) start (cs.length + 1) cs j)
def unload (start spared : Nat) : Nat → Cs → Cs × Bool
  | 0, cs => (cs, true)
  | k + 1, cs => if at_ cs start = [] then (cs, true) else match passOn cs start spared with
    | none => (cs, false)
    | some cs' => unload start spared k cs'
theorem look_at {ah : Ah} (nd : (keys ah).Nodup) {i j q : Nat} (h : ah[i]? = some (j, q)) : look ah j = q := by
  have hm := List.mem_of_getElem? h
  unfold look
  have key : ∀ (l : Ah), (keys l).Nodup → (j, q) ∈ l → l.find? (fun p => p.1 == j) = some (j, q) := fun l => by
    induction l with
    | nil => intro _ h; cases h
    | cons p l ih =>
      intro nd h
      have nd' : p.1 ∉ keys l ∧ (keys l).Nodup := by simpa [keys] using nd
      rw [List.find?_cons]
      rcases List.mem_cons.mp h with e | h
      · subst e
        simp
      · have e2 : (p.1 == j) = false := by
          have : p.1 ≠ j := fun e => nd'.1 (e ▸ List.mem_map.mpr ⟨(j, q), h, rfl⟩)
          simpa using this
        rw [e2]
        exact ih nd'.2 h
  rw [key ah nd hm]
  rfl
theorem nd_pos {ah : Ah} (nd : (keys ah).Nodup) {i i' j p q : Nat} (h : ah[i]? = some (j, p)) (h' : ah[i']? = some (j, q)) : i = i' := by
  have a : (keys ah)[i]? = some j := by simp [keys, h]
  have b : (keys ah)[i']? = some j := by simp [keys, h']
  obtain ⟨h1, e1⟩ := List.getElem?_eq_some_iff.mp a
  obtain ⟨h2, e2⟩ := List.getElem?_eq_some_iff.mp b
  exact (List.getElem_inj nd).mp (e1.trans e2.symm)
def one01 (p : Prop) [Decidable p] : Nat := if p then 1 else 0
theorem back_spec {n : Nat} {cs0 : Cs} {start : Nat} {ah : Ah} (sn : Seen n cs0 start ah []) : ∀ (k : Nat) (cs : Cs) (i j q : Nat), ah[i]? = some (j, q) → i < k → cs.length = n → (∀ v w, w ∈ at_ cs v → w < n ∧ w ≠ v) →
    (∀ i' v p, i' < i → ah[i']? = some (v, p) → at_ cs v = at_ cs0 v) →
    (back ah start k cs j).length = n ∧ (∀ v w, w ∈ at_ (back ah start k cs j) v → w < n ∧ w ≠ v) ∧ (∀ S : JS, outs (back ah start k cs j) S n = outs cs S n) ∧
      ∀ v, (at_ (back ah start k cs j) v).length + one01 (v = start) = (at_ cs v).length + one01 (v = j)
  | 0, _, _, _, _, _, h, _, _, _ => by omega
  | k + 1, cs, i, j, q, hij, hik, hl, hlow, hsame => by
    unfold back
    by_cases hj : j = start
    · rw [if_pos hj]
      exact ⟨hl, hlow, fun _ => rfl, fun v => by rw [hj]⟩
    · rw [if_neg hj, look_at sn.nd hij]
      obtain ⟨r, hr⟩ := sn.head
      have hi0 : i ≠ 0 := fun z => by
        subst z
        rw [hr] at hij
        simp at hij
        exact hj hij.1.symm
      obtain ⟨hm, i', q', hi', hq⟩ := sn.par i j q hij hi0
      have hjn : j < n := sn.low j (List.mem_map.mpr ⟨(j, q), List.mem_of_getElem? hij, rfl⟩)
      have hqn : q < n := sn.low q (List.mem_map.mpr ⟨(q, q'), List.mem_of_getElem? hq, rfl⟩)
      have eq0 := hsame i' q q' hi' hq
      have hm' : j ∈ at_ cs q := by rw [eq0]; exact hm
      have nqj : q ≠ j := fun e => (hlow q j hm').2 e.symm
      have hlt : (turn cs q j).length = n := by rw [turn_len]; exact hl
      have tat : ∀ w, at_ (turn cs q j) w = if j = w then at_ cs j ++ [q] else if q = w then (at_ cs q).erase j else at_ cs w := fun w => turn_at (by omega) (by omega) nqj
      have hA : ∀ v w, w ∈ at_ (turn cs q j) v → w < n ∧ w ≠ v := fun v w hw => by
        rw [tat v] at hw
        by_cases e1 : j = v
        · subst e1
          rw [if_pos rfl] at hw
          rcases List.mem_append.mp hw with h | h
          · exact hlow _ w h
          · rw [List.mem_singleton.mp h]
            exact ⟨hqn, nqj⟩
        · rw [if_neg e1] at hw
          by_cases e2 : q = v
          · subst e2
            rw [if_pos rfl] at hw
            exact hlow _ w (List.mem_of_mem_erase hw)
          · rw [if_neg e2] at hw
            exact hlow _ w hw
      have hB : ∀ i'' v p, i'' < i' → ah[i'']? = some (v, p) → at_ (turn cs q j) v = at_ cs0 v := fun i'' v p hi'' hv => by
        have n1 : j ≠ v := fun e => by
          subst e
          have := nd_pos sn.nd hij hv
          omega
        have n2 : q ≠ v := fun e => by
          subst e
          have := nd_pos sn.nd hq hv
          omega
        rw [tat v, if_neg n1, if_neg n2]
        exact hsame i'' v p (by omega) hv
      obtain ⟨a, b, c, d⟩ := back_spec sn k (turn cs q j) i' q q' hq (by omega) hlt hA hB
      refine ⟨a, b, fun S => by rw [c S, outs_turn hl hqn hjn nqj hm' S], fun v => ?_⟩
      have hv := d v
      have tv := tat v
      by_cases e1 : j = v
      · subst e1
        rw [if_pos rfl] at tv
        rw [tv, List.length_append] at hv
        have z1 : one01 (j = q) = 0 := if_neg fun e => nqj e.symm
        have z2 : one01 (j = j) = 1 := if_pos rfl
        have z3 : [q].length = 1 := rfl
        omega
      · rw [if_neg e1] at tv
        have z2 : one01 (v = j) = 0 := if_neg fun e => e1 e.symm
        by_cases e2 : q = v
        · subst e2
          rw [if_pos rfl] at tv
          rw [tv, List.length_erase_of_mem hm'] at hv
          have z1 : one01 (q = q) = 1 := if_pos rfl
          have z3 : 0 < (at_ cs q).length := List.length_pos_of_mem hm'
          omega
        · rw [if_neg e2] at tv
          rw [tv] at hv
          have z1 : one01 (v = q) = 0 := if_neg fun e => e2 e.symm
          omega
theorem passOn_some {n : Nat} {cs cs' : Cs} {bs : List Bar} {start spared : Nat} (ft : Fits n cs bs) (hs : start < n) (h : passOn cs start spared = some cs') :
    Fits n cs' bs ∧ (at_ cs' start).length + 1 = (at_ cs start).length ∧ ∀ v, v ≠ start → v = spared → (at_ cs' v).length = (at_ cs v).length := by
  unfold passOn at h
  obtain ⟨sn, _⟩ := reached_seen ft.len ft.low hs
  cases hf : freeOf cs start spared with
  | nil => rw [hf] at h; cases h
  | cons j r =>
    rw [hf] at h
    have e := Option.some.inj h
    have hj : j ∈ freeOf cs start spared := by rw [hf]; exact List.mem_cons_self
    unfold freeOf at hj
    rw [List.mem_filter] at hj
    obtain ⟨hk, hc⟩ := hj
    simp only [Bool.and_eq_true, decide_eq_true_eq, Bool.not_eq_true', decide_eq_false_iff_not] at hc
    obtain ⟨c1, c2, c3⟩ := hc
    obtain ⟨⟨j', q⟩, hm, ej⟩ := List.mem_map.mp hk
    simp at ej
    subst ej
    obtain ⟨i, hi⟩ := List.getElem?_of_mem hm
    have li : i < (reached cs start).length := (List.getElem?_eq_some_iff.mp hi).1
    have sm := seen_small sn
    obtain ⟨a, b, c, d⟩ := back_spec sn (cs.length + 1) cs i j' q hi (by have := ft.len; omega) ft.len ft.low (fun _ _ _ _ _ => rfl)
    rw [e] at a b c d
    have dj := d j'
    have ds := d start
    have z1 : one01 (j' = j') = 1 := if_pos rfl
    have z2 : one01 (j' = start) = 0 := if_neg c2
    have z3 : one01 (start = start) = 1 := if_pos rfl
    have z4 : one01 (start = j') = 0 := if_neg fun z => c2 z.symm
    refine ⟨⟨a, fun v => ?_, b, fun S => by rw [c S]; exact ft.out S⟩, by omega, fun v h1 h2 => ?_⟩
    · have dv := d v
      have tv := ft.two v
      by_cases e1 : v = j'
      · subst e1
        omega
      · have z5 : one01 (v = j') = 0 := if_neg e1
        omega
    · have dv := d v
      have z5 : one01 (v = start) = 0 := if_neg h1
      have z6 : one01 (v = j') = 0 := if_neg fun z => c3 (z.symm.trans h2)
      omega
/-- the joints found, as a test -/
def inL (l : List Nat) : JS := fun x => decide (x ∈ l)
theorem outs_shut {cs : Cs} {ah : Ah} (sh : Shut cs ah []) : ∀ {k v : Nat}, v < k → inL (keys ah) v = true → (at_ cs v).countP (inL (keys ah)) = (at_ cs v).length := fun {k v} _ hv => by
  rw [List.countP_eq_length]
  intro f hf
  exact decide_eq_true (sh v (of_decide_eq_true hv) (by simp) f hf)
/-- all found joints but two carry two bars each -/
theorem outs_low {cs : Cs} {ah : Ah} (sh : Shut cs ah []) {s p : Nat} (hfull : ∀ v ∈ keys ah, v ≠ s → v ≠ p → 2 ≤ (at_ cs v).length) : ∀ k : Nat,
    2 * card k (inL (keys ah)) ≤ outs cs (inL (keys ah)) k + (if s < k ∧ s ∈ keys ah then 2 - (at_ cs s).length else 0) + (if p < k ∧ p ∈ keys ah ∧ p ≠ s then 2 - (at_ cs p).length else 0)
  | 0 => by simp [card]
  | k + 1 => by
    have ih := outs_low sh hfull k
    have ec : card (k + 1) (inL (keys ah)) = card k (inL (keys ah)) + if inL (keys ah) k = true then 1 else 0 := by
      unfold card
      rw [List.range_succ, List.countP_append, List.countP_cons, List.countP_nil]
      simp
    rw [ec]
    unfold outs
    by_cases hk : inL (keys ah) k = true
    · rw [if_pos hk, if_pos hk, outs_shut sh (Nat.lt_succ_self k) hk]
      have hkm : k ∈ keys ah := of_decide_eq_true hk
      by_cases e1 : k = s
      · subst e1
        rw [if_neg (by omega)] at ih
        rw [if_pos ⟨Nat.lt_succ_self _, hkm⟩]
        by_cases e2 : p < k ∧ p ∈ keys ah ∧ p ≠ k
        · rw [if_pos e2] at ih
          rw [if_pos ⟨by omega, e2.2⟩]
          omega
        · rw [if_neg e2] at ih
          have : ¬ (p < k + 1 ∧ p ∈ keys ah ∧ p ≠ k) := fun z => e2 ⟨by omega, z.2⟩
          rw [if_neg this]
          omega
      · have a1 : (if s < k + 1 ∧ s ∈ keys ah then 2 - (at_ cs s).length else 0) = (if s < k ∧ s ∈ keys ah then 2 - (at_ cs s).length else 0) := by
          by_cases z : s < k ∧ s ∈ keys ah
          · rw [if_pos z, if_pos ⟨by omega, z.2⟩]
          · rw [if_neg z, if_neg fun w => z ⟨by omega, w.2⟩]
        rw [a1]
        by_cases e2 : k = p
        · subst e2
          rw [if_neg (show ¬ (k < k ∧ k ∈ keys ah ∧ k ≠ s) by omega)] at ih
          rw [if_pos (show k < k + 1 ∧ k ∈ keys ah ∧ k ≠ s from ⟨Nat.lt_succ_self _, hkm, e1⟩)]
          omega
        · have a2 : (if p < k + 1 ∧ p ∈ keys ah ∧ p ≠ s then 2 - (at_ cs p).length else 0) = (if p < k ∧ p ∈ keys ah ∧ p ≠ s then 2 - (at_ cs p).length else 0) := by
            by_cases z : p < k ∧ p ∈ keys ah ∧ p ≠ s
            · rw [if_pos z, if_pos ⟨by omega, z.2⟩]
            · rw [if_neg z, if_neg fun w => z ⟨by omega, w.2⟩]
          rw [a2]
          have := hfull k hkm e1 e2
          omega
    · rw [if_neg hk, if_neg hk]
      have hkm : k ∉ keys ah := fun z => hk (decide_eq_true z)
      have a1 : (if s < k + 1 ∧ s ∈ keys ah then 2 - (at_ cs s).length else 0) = (if s < k ∧ s ∈ keys ah then 2 - (at_ cs s).length else 0) := by
        by_cases z : s < k ∧ s ∈ keys ah
        · rw [if_pos z, if_pos ⟨by omega, z.2⟩]
        · rw [if_neg z, if_neg fun w => z ⟨by have : s ≠ k := fun e => hkm (e ▸ w.2); omega, w.2⟩]
      have a2 : (if p < k + 1 ∧ p ∈ keys ah ∧ p ≠ s then 2 - (at_ cs p).length else 0) = (if p < k ∧ p ∈ keys ah ∧ p ≠ s then 2 - (at_ cs p).length else 0) := by
        by_cases z : p < k ∧ p ∈ keys ah ∧ p ≠ s
        · rw [if_pos z, if_pos ⟨by omega, z.2⟩]
        · rw [if_neg z, if_neg fun w => z ⟨by have : p ≠ k := fun e => hkm (e ▸ w.2.1); omega, w.2⟩]
      rw [a1, a2]
      omega
theorem passOn_none {cs : Cs} {start spared : Nat} (h : passOn cs start spared = none) : ∀ v ∈ keys (reached cs start), v ≠ start → v ≠ spared → 2 ≤ (at_ cs v).length := fun v hv h1 h2 => by
  unfold passOn at h
  cases hf : freeOf cs start spared with
  | cons j r => rw [hf] at h; cases h
  | nil =>
    by_cases z : 2 ≤ (at_ cs v).length
    · exact z
    · have hm : v ∈ freeOf cs start spared := by
        unfold freeOf
        rw [List.mem_filter]
        refine ⟨hv, ?_⟩
        simp only [Bool.and_eq_true, decide_eq_true_eq, Bool.not_eq_true', decide_eq_false_iff_not]
        exact ⟨by omega, h1, h2⟩
      rw [hf] at hm
      cases hm
/-- what is found from a joint that carries a bar: two joints at least -/
theorem reach_two {n : Nat} {cs : Cs} {bs : List Bar} {start : Nat} (ft : Fits n cs bs) (hs : start < n) (hc : at_ cs start ≠ []) : 2 ≤ card n (inL (keys (reached cs start))) := by
  obtain ⟨sn, sh⟩ := reached_seen ft.len ft.low hs
  obtain ⟨r, hr⟩ := sn.head
  have hst : start ∈ keys (reached cs start) := by rw [hr]; simp [keys]
  obtain ⟨f, hf⟩ := List.exists_mem_of_ne_nil _ hc
  have hfk := sh start hst (by simp) f hf
  have hl := ft.low start f hf
  exact two_le_card hs hl.1 (fun e => hl.2 e.symm) (decide_eq_true hst) (decide_eq_true hfk)
theorem start_mem {n : Nat} {cs : Cs} {bs : List Bar} {start : Nat} (ft : Fits n cs bs) (hs : start < n) : start ∈ keys (reached cs start) := by
  obtain ⟨sn, _⟩ := reached_seen ft.len ft.low hs
  obtain ⟨r, hr⟩ := sn.head
  rw [hr]
  simp [keys]
theorem ins_reached {n : Nat} {cs : Cs} {bs : List Bar} {start spared : Nat} (ft : Fits n cs bs) (hs : start < n) (h : passOn cs start spared = none) :
    2 * card n (inL (keys (reached cs start))) ≤ ins bs (inL (keys (reached cs start))) + (2 - (at_ cs start).length) + (if spared < n ∧ spared ∈ keys (reached cs start) ∧ spared ≠ start then 2 - (at_ cs spared).length else 0) := by
  obtain ⟨sn, sh⟩ := reached_seen ft.len ft.low hs
  have := outs_low sh (passOn_none h) n
  rw [if_pos ⟨hs, start_mem ft hs⟩] at this
  rw [ft.out]
  exact this
theorem unload_spec {n : Nat} {bs : List Bar} {start spared : Nat} (hs : start < n) : ∀ (k : Nat) (cs : Cs), Fits n cs bs → (at_ cs start).length < k →
    Fits n (unload start spared k cs).1 bs ∧ (∀ v, v ≠ start → v = spared → (at_ (unload start spared k cs).1 v).length = (at_ cs v).length) ∧
      ((unload start spared k cs).2 = true → at_ (unload start spared k cs).1 start = []) ∧ ((unload start spared k cs).2 = false → at_ (unload start spared k cs).1 start ≠ [] ∧ passOn (unload start spared k cs).1 start spared = none)
  | 0, _, _, h => by omega
  | k + 1, cs, ft, h => by
    unfold unload
    by_cases he : at_ cs start = []
    · rw [if_pos he]
      exact ⟨ft, fun _ _ _ => rfl, fun _ => he, (fun z => by cases z)⟩
    · rw [if_neg he]
      cases hp : passOn cs start spared with
      | none =>
        dsimp only
        exact ⟨ft, fun _ _ _ => rfl, (fun z => by cases z), fun _ => ⟨he, hp⟩⟩
      | some cs' =>
        dsimp only
        obtain ⟨f1, f2, f3⟩ := passOn_some ft hs hp
        obtain ⟨a, b, c, d⟩ := unload_spec hs k cs' f1 (by omega)
        exact ⟨a, fun v h1 h2 => (b v h1 h2).trans (f3 v h1 h2), c, d⟩
/-- the joint whose hands are freed first is always rid of its bars -/
theorem unload_all {n : Nat} {cs : Cs} {bs : List Bar} {start : Nat} (ft : Fits n cs bs) (sl : Slim n bs) (hs : start < n) : (unload start start 3 cs).2 = true := by
  obtain ⟨a, _, _, d⟩ := unload_spec (spared := start) hs 3 cs ft (by have := ft.two start; omega)
  cases h : (unload start start 3 cs).2 with
  | true => rfl
  | false =>
    obtain ⟨h1, h2⟩ := d h
    have q := ins_reached a hs h2
    rw [if_neg (by omega)] at q
    have t := reach_two a hs h1
    have s := sl _ t
    have l : 0 < (at_ (unload start start 3 cs).1 start).length := List.length_pos_iff.mpr h1
    omega
def lay (cs : Cs) (one other : Nat) : Cs × Option (List Nat) :=
  let c1 := (unload one one 3 cs).1
  let c2 := unload other one 3 c1
  if c2.2 = true then (c2.1.set one (at_ c2.1 one ++ [other]), none) else (c2.1, some (keys (reached c2.1 other)))
theorem ins_append (bs : List Bar) (b : Bar) (S : JS) : ins (bs ++ [b]) S = ins bs S + if (S b.1 && S b.2) = true then 1 else 0 := by
  unfold ins
  rw [List.countP_append, List.countP_cons, List.countP_nil, Nat.zero_add]
/-- a bar is taken: it and those before are slim -/
theorem lay_yes {n : Nat} {cs cs' : Cs} {bs : List Bar} {one other : Nat} (ft : Fits n cs bs) (ok : Ok n bs) (sl : Slim n bs) (h1 : one < n) (h2 : other < n) (ne : one ≠ other) (h : lay cs one other = (cs', none)) :
    Fits n cs' (bs ++ [(one, other)]) ∧ Slim n (bs ++ [(one, other)]) := by
  obtain ⟨a, _, c, _⟩ := unload_spec (spared := one) h1 3 cs ft (by have := ft.two one; omega)
  have c := c (unload_all ft sl h1)
  obtain ⟨a2, b2, c2, d2⟩ := unload_spec (spared := one) h2 3 (unload one one 3 cs).1 a (by have := a.two other; omega)
  unfold lay at h
  dsimp only at h
  by_cases hy : (unload other one 3 (unload one one 3 cs).1).2 = true
  · rw [if_pos hy] at h
    have e := (Prod.mk.inj h).1
    have e1 : at_ (unload other one 3 (unload one one 3 cs).1).1 one = [] := by
      have := b2 one ne rfl
      rw [c] at this
      exact List.eq_nil_of_length_eq_zero this
    have e2 := c2 hy
    generalize hG : (unload other one 3 (unload one one 3 cs).1).1 = G at a2 e e1 e2
    rw [e1] at e
    have hl : one < G.length := by rw [a2.len]; exact h1
    have out' : ∀ S : JS, outs cs' S n = outs G S n + if (S one && S other) = true then 1 else 0 := fun S => by
      have := outs_set (cs := G) (S := S) (v := one) (l := [] ++ [other]) hl (k := n) h1
      rw [e, e1] at this
      simp only [List.nil_append, List.countP_nil, List.countP_cons, Nat.zero_add, ite_self, Nat.add_zero] at this
      rw [this]
      cases S one <;> cases S other <;> simp
    have ft' : Fits n cs' (bs ++ [(one, other)]) := by
      refine ⟨by rw [← e, List.length_set]; exact a2.len, fun v => ?_, fun v w hw => ?_, fun S => ?_⟩
      · rw [← e, at_set hl]
        split
        · simp
        · exact a2.two v
      · rw [← e, at_set hl] at hw
        split at hw
        · rename_i ev
          have hw : w ∈ [other] := hw
          rw [List.mem_singleton.mp hw, ← ev]
          exact ⟨h2, fun z => ne z.symm⟩
        · exact a2.low v w hw
      · rw [out' S, ins_append, a2.out S]
    refine ⟨ft', fun S hS => ?_⟩
    rw [ins_append]
    by_cases hb : (S one && S other) = true
    · rw [if_pos hb]
      rw [Bool.and_eq_true] at hb
      -- what is carried within S: two each, and none at the two ends
      have lim : ∀ k : Nat, outs G S k + (if one < k then 2 else 0) + (if other < k then 2 else 0) ≤ 2 * card k S := fun k => by
        induction k with
        | zero => simp [outs, card]
        | succ k ih =>
          have ec : card (k + 1) S = card k S + if S k = true then 1 else 0 := by
            unfold card
            rw [List.range_succ, List.countP_append, List.countP_cons, List.countP_nil]
            simp
          rw [ec]
          unfold outs
          have tk := a2.two k
          have ck : (at_ G k).countP S ≤ (at_ G k).length := List.countP_le_length
          by_cases k1 : one = k
          · subst k1
            rw [if_pos hb.1, if_pos hb.1, e1, if_pos (Nat.lt_succ_self _)]
            rw [if_neg (Nat.lt_irrefl _)] at ih
            by_cases k2 : other < one
            · rw [if_pos k2] at ih
              rw [if_pos (by omega)]
              simp
              omega
            · rw [if_neg k2] at ih
              rw [if_neg (by omega)]
              simp
              omega
          · by_cases k2 : other = k
            · subst k2
              rw [if_pos hb.2, if_pos hb.2, e2, if_pos (Nat.lt_succ_self _)]
              rw [if_neg (Nat.lt_irrefl _)] at ih
              by_cases k3 : one < other
              · rw [if_pos k3] at ih
                rw [if_pos (by omega)]
                simp
                omega
              · rw [if_neg k3] at ih
                rw [if_neg (by omega)]
                simp
                omega
            · have w1 : (if one < k + 1 then 2 else 0) = if one < k then 2 else 0 := by
                by_cases z : one < k
                · rw [if_pos z, if_pos (by omega)]
                · rw [if_neg z, if_neg (by omega)]
              have w2 : (if other < k + 1 then 2 else 0) = if other < k then 2 else 0 := by
                by_cases z : other < k
                · rw [if_pos z, if_pos (by omega)]
                · rw [if_neg z, if_neg (by omega)]
              rw [w1, w2]
              split <;> omega
      have := lim n
      rw [if_pos h1, if_pos h2] at this
      rw [a2.out S]
      omega
    · rw [if_neg hb]
      exact sl S hS
  · rw [if_neg hy] at h
    cases (Prod.mk.inj h).2
/-- a bar is refused: the joints told have no room for it -/
theorem lay_no {n : Nat} {cs cs' : Cs} {bs : List Bar} {one other : Nat} {ks : List Nat} (ft : Fits n cs bs) (sl : Slim n bs) (h1 : one < n) (h2 : other < n) (ne : one ≠ other) (h : lay cs one other = (cs', some ks)) :
    Fits n cs' bs ∧ ks.Nodup ∧ (∀ k ∈ ks, k < n) ∧ one ∈ ks ∧ other ∈ ks ∧ Tight n bs (inL ks) := by
  obtain ⟨a, _, c, _⟩ := unload_spec (spared := one) h1 3 cs ft (by have := ft.two one; omega)
  have c := c (unload_all ft sl h1)
  obtain ⟨a2, b2, c2, d2⟩ := unload_spec (spared := one) h2 3 (unload one one 3 cs).1 a (by have := a.two other; omega)
  unfold lay at h
  dsimp only at h
  by_cases hy : (unload other one 3 (unload one one 3 cs).1).2 = true
  · rw [if_pos hy] at h
    cases (Prod.mk.inj h).2
  · rw [if_neg hy] at h
    obtain ⟨e, ek⟩ := Prod.mk.inj h
    have ek := Option.some.inj ek
    have hf : (unload other one 3 (unload one one 3 cs).1).2 = false := by simpa using hy
    obtain ⟨g1, g2⟩ := d2 hf
    have e1 : at_ (unload other one 3 (unload one one 3 cs).1).1 one = [] := by
      have := b2 one ne rfl
      rw [c] at this
      exact List.eq_nil_of_length_eq_zero this
    rw [e] at a2 g1 g2 e1 ek
    subst ek
    obtain ⟨sn, sh⟩ := reached_seen a2.len a2.low h2
    have q := ins_reached a2 h2 g2
    have t := reach_two a2 h2 g1
    have s := sl _ t
    have l : 0 < (at_ cs' other).length := List.length_pos_iff.mpr g1
    have hone : one ∈ keys (reached cs' other) := by
      by_cases z : one ∈ keys (reached cs' other)
      · exact z
      · rw [if_neg fun w => z w.2.1] at q
        omega
    rw [if_pos ⟨h1, hone, ne⟩, e1] at q
    refine ⟨a2, sn.nd, sn.low, hone, start_mem a2 h2, t, ?_⟩
    have : ([] : List Nat).length = 0 := rfl
    omega
end Fr

/-! Values as plain data, apart from where they stand: what an expression evaluates to, given the data in the slots. -/
namespace Pl
open PySem PySem.Spec PyProof.Rows L2
open Evl (Ex)

inductive D where
  | non | bl (b : Bool) | int (i : Int) | str (s : Str) | adr (a : Addr) | ty (n : String) | ro (ns : List Int) | lst (ds : List D) | tup (ds : List D)
  /-- a dict by its keys and values, an instance by its attributes -/
  | dc (ks : List L2.Key) (ds : List D) | ob (C : Addr) (fs : List Str) (ds : List D)
  /-- a dict that is walked, by its keys -/
  | fz (ns : List Int)
  /-- such a dict, by its keys and values -/
  | fv (ks : List L2.Key) (ds : List D)
  /-- an exception of the class at C -/
  | er (C : Addr)

mutual
/-- v stands for the data d, by what the part S of the heap holds -/
inductive Rd (K : PySem.W.Frag) (S : Hp) : V → D → Prop
  | non : Rd K S .non .non
  | bl (b : Bool) : Rd K S (.bl b) (.bl b)
  | int (i : Int) : Rd K S (.int i) (.int i)
  | str (x : Str) : Rd K S (.str x) (.str x)
  | adr (a : Addr) : Rd K S (.ref a) (.adr a)
  | ty (n : String) : Rd K S (.ty n) (.ty n)
  | ro {a : Addr} {ns : List Int} : SqL K S a (ns.map V.int) → Rd K S (.ref a) (.ro ns)
  | lst {a : Addr} {xs : List V} {ds : List D} : S a = some (.lst xs) → RdL K S xs ds → Rd K S (.ref a) (.lst ds)
  | tup {a : Addr} {xs : List V} {ds : List D} : S a = some (.tup xs) → RdL K S xs ds → Rd K S (.ref a) (.tup ds)
  | dc {a : Addr} {ks : List L2.Key} {xs : List V} {ds : List D} : S a = some (.dK (ks.zip xs)) → ks.length = xs.length → RdL K S xs ds → Rd K S (.ref a) (.dc ks ds)
  | ob {a C dx : Addr} {fs : List Str} {xs : List V} {ds : List D} : S a = some (.ins C dx (fs.zip xs)) → fs.length = xs.length → RdL K S xs ds → Rd K S (.ref a) (.ob C fs ds)
  | fz {a : Addr} {o : Obj} {kvs : List (L2.Key × V)} {ns : List Int} : S a = some (.frz o (.dK kvs)) → kvs.map (·.1) = ns.map Sum.inl → Rd K S (.ref a) (.fz ns)
  | fv {a : Addr} {o : Obj} {ks : List L2.Key} {xs : List V} {ds : List D} : S a = some (.frz o (.dK (ks.zip xs))) → ks.length = xs.length → RdL K S xs ds → Rd K S (.ref a) (.fv ks ds)
  | er {a C : Addr} {o : Obj} {u : HO} : S a = some (.frz o u) → o.cls = .ref C → o.dict = none → (∃ vs, o.data = .fields vs) → Rd K S (.ref a) (.er C)
inductive RdL (K : PySem.W.Frag) (S : Hp) : List V → List D → Prop
  | nil : RdL K S [] []
  | cons {v : V} {vs : List V} {d : D} {ds : List D} : Rd K S v d → RdL K S vs ds → RdL K S (v :: vs) (d :: ds)
end

section
variable {K : PySem.W.Frag} {S S' S2 H H' H2 : Hp}
mutual
theorem Rd.mono (e : Ex S S') : ∀ {v : V} {d : D}, Rd K S v d → Rd K S' v d
  | _, _, .non => .non
  | _, _, .bl b => .bl b
  | _, _, .int i => .int i
  | _, _, .str x => .str x
  | _, _, .adr a => .adr a
  | _, _, .ty n => .ty n
  | _, _, .ro h => .ro (Evl.ex_l e h)
  | _, _, .lst h r => .lst (e _ _ h) (RdL.mono e r)
  | _, _, .tup h r => .tup (e _ _ h) (RdL.mono e r)
  | _, _, .dc h l r => .dc (e _ _ h) l (RdL.mono e r)
  | _, _, .ob h l r => .ob (e _ _ h) l (RdL.mono e r)
  | _, _, .fz h l => .fz (e _ _ h) l
  | _, _, .fv h l r => .fv (e _ _ h) l (RdL.mono e r)
  | _, _, .er h c d v => .er (e _ _ h) c d v
theorem RdL.mono (e : Ex S S') : ∀ {vs : List V} {ds : List D}, RdL K S vs ds → RdL K S' vs ds
  | _, _, .nil => .nil
  | _, _, .cons h r => .cons (Rd.mono e h) (RdL.mono e r)
end
theorem RdL.length : ∀ {vs : List V} {ds : List D}, RdL K S vs ds → vs.length = ds.length
  | _, _, .nil => rfl
  | _, _, .cons _ r => congrArg (· + 1) r.length
theorem RdL.append : ∀ {vs ws : List V} {ds es : List D}, RdL K S vs ds → RdL K S ws es → RdL K S (vs ++ ws) (ds ++ es)
  | _, _, _, _, .nil, s => s
  | _, _, _, _, .cons h r, s => .cons h (RdL.append r s)
theorem RdL.get : ∀ {vs : List V} {ds : List D} {i : Nat} {d : D}, RdL K S vs ds → ds[i]? = some d → ∃ v, vs[i]? = some v ∧ Rd K S v d
  | _, _, _, _, .nil, e => by simp at e
  | _, _, 0, _, .cons h _, e => by simp at e; subst e; exact ⟨_, rfl, h⟩
  | _, _, i + 1, _, .cons _ r, e => by
    obtain ⟨v, h1, h2⟩ := RdL.get (i := i) r (by simpa using e)
    exact ⟨v, by simpa using h1, h2⟩
theorem RdL.getV : ∀ {vs : List V} {ds : List D} {i : Nat} {v : V}, RdL K S vs ds → vs[i]? = some v → ∃ d, ds[i]? = some d ∧ Rd K S v d
  | _, _, _, _, .nil, e => by simp at e
  | _, _, 0, _, .cons h _, e => by simp at e; subst e; exact ⟨_, rfl, h⟩
  | _, _, i + 1, _, .cons _ r, e => by
    obtain ⟨v, h1, h2⟩ := RdL.getV (i := i) r (by simpa using e)
    exact ⟨v, by simpa using h1, h2⟩
theorem RdL.take : ∀ {vs : List V} {ds : List D} (n : Nat), RdL K S vs ds → RdL K S (vs.take n) (ds.take n)
  | _, _, 0, _ => .nil
  | _, _, _ + 1, .nil => .nil
  | _, _, n + 1, .cons h r => .cons h (RdL.take n r)
theorem RdL.drop : ∀ {vs : List V} {ds : List D} (n : Nat), RdL K S vs ds → RdL K S (vs.drop n) (ds.drop n)
  | _, _, 0, r => r
  | _, _, _ + 1, .nil => .nil
  | _, _, n + 1, .cons _ r => RdL.drop n r
theorem RdL.eraseIdx : ∀ {vs : List V} {ds : List D} (n : Nat), RdL K S vs ds → RdL K S (vs.eraseIdx n) (ds.eraseIdx n)
  | _, _, _, .nil => .nil
  | _, _, 0, .cons _ r => r
  | _, _, n + 1, .cons h r => .cons h (RdL.eraseIdx n r)
theorem RdL.set {v : V} {d : D} (h : Rd K S v d) : ∀ {vs : List V} {ds : List D} (n : Nat), RdL K S vs ds → RdL K S (vs.set n v) (ds.set n d)
  | _, _, _, .nil => .nil
  | _, _, 0, .cons _ r => .cons h r
  | _, _, n + 1, .cons h' r => .cons h' (RdL.set h n r)
theorem RdL.ints : ∀ {vs : List V} {ns : List Int}, RdL K S vs (ns.map D.int) → vs = ns.map V.int
  | _, [], .nil => rfl
  | _, _ :: _, .cons h r => by cases h; rw [RdL.ints r]; rfl
theorem RdL.ofInts : ∀ (ns : List Int), RdL K S (ns.map V.int) (ns.map D.int)
  | [] => .nil
  | n :: ns => .cons (.int n) (RdL.ofInts ns)
theorem RdL.bools : ∀ {vs : List V} {ns : List Bool}, RdL K S vs (ns.map D.bl) → vs = ns.map V.bl
  | _, [], .nil => rfl
  | _, _ :: _, .cons h r => by cases h; rw [RdL.bools r]; rfl

/-- from the stable part S of the heap H to S' of H': all stands, and what of H was not of S does not come into S' -/
structure Ext (S H S' H' : Hp) : Prop where
  s : Ex S S'
  h : Ex H H'
  sub : Ex S' H'
  dis : ∀ a, S a = none → H a ≠ none → S' a = none
theorem Ext.refl (e : Ex S H) : Ext S H S H := ⟨Ex.refl S, Ex.refl H, e, fun _ h _ => h⟩
theorem Ext.trans (a : Ext S H S' H') (b : Ext S' H' S2 H2) : Ext S H S2 H2 where
  s := a.s.trans b.s
  h := a.h.trans b.h
  sub := b.sub
  dis := fun p h1 h2 => b.dis p (a.dis p h1 h2) fun z => by
    cases q : H p with
    | none => exact h2 q
    | some o => rw [a.h p o q] at z; cases z
theorem sub_none (e : Ex S H) {p : Addr} (h : H p = none) : S p = none := Evl.fresh_back e h
/-- a new object that is told -/
theorem Ext.new (e : Ex S H) {p : Addr} {o : HO} (h : H p = none) : Ext S H (upd S p o) (upd H p o) where
  s := Ex.new (sub_none e h)
  h := Ex.new h
  sub := fun a u q => by
    by_cases ha : a = p
    · subst ha; rw [upd_same] at q ⊢; exact q
    · rw [upd_ne ha] at q ⊢; exact e a u q
  dis := fun a h1 h2 => by
    have ha : a ≠ p := fun z => h2 (z ▸ h)
    rw [upd_ne ha]; exact h1
/-- a new object that is not told -/
theorem Ext.hid (e : Ex S H) {p : Addr} {o : HO} (h : H p = none) : Ext S H S (upd H p o) where
  s := Ex.refl S
  h := Ex.new h
  sub := fun a u q => by
    have ha : a ≠ p := fun z => by subst z; rw [sub_none e h] at q; cases q
    rw [upd_ne ha]; exact e a u q
  dis := fun _ h1 _ => h1
/-- an object that was not of S, and stands, is told -/
theorem Ext.tell (a : Ext S H S' H') {p : Addr} {o : HO} (n : S' p = none) (h : H p = none) (q : H' p = some o) : Ext S H (upd S' p o) H' where
  s := a.s.trans (Ex.new n)
  h := a.h
  sub := fun b u z => by
    by_cases hb : b = p
    · subst hb; rw [upd_same] at z; rw [q]; exact z
    · rw [upd_ne hb] at z; exact a.sub b u z
  dis := fun b h1 h2 => by
    have hb : b ≠ p := fun z => h2 (z ▸ h)
    rw [upd_ne hb]; exact a.dis b h1 h2
end

/-! ### slots -/
inductive Sl where
  | u | k (d : D) | o (ds : List D)
abbrev Rho := List Sl
section
variable (K : PySem.W.Frag)
structure Env (S : Hp) (σ : L2.St) (ρ : Rho) : Prop where
  len : σ.length = ρ.length
  val : ∀ (i : Nat) (d : D), ρ[i]? = some (.k d) → ∃ v, σ[i]? = some (some v) ∧ Rd K S v d
def EvD (te : TE) (ρ : Rho) (d : D) : Prop := ∀ S H σ, Ex S H → Env K S σ ρ → ∀ Q : VK, (∀ v S' H', Ext S H S' H' → Rd K S' v d → Q v H') → te σ H Q
/-- a list that is made on the way, and no one else's -/
def EvF (te : TE) (ρ : Rho) (es : List D) : Prop := ∀ S H σ, Ex S H → Env K S σ ρ → ∀ Q : VK, (∀ p vs S' H', Ext S H S' H' → H p = none → S' p = none → H' p = some (.lst vs) → RdL K S' vs es → Q (.ref p) H') → te σ H Q
def EvT (tt : TT) (ρ : Rho) (b : Bool) : Prop := ∀ S H σ, Ex S H → Env K S σ ρ → ∀ Q : Bool → Hp → Prop, (∀ S' H', Ext S H S' H' → Q b H') → tt σ H Q
def EvA (ta : TA) (ρ : Rho) (ds : List D) : Prop := ∀ S H σ, Ex S H → Env K S σ ρ → ∀ Q : List V → Hp → Prop, (∀ vs S' H', Ext S H S' H' → RdL K S' vs ds → Q vs H') → ta σ H Q
def EvO (to : TO) (ρ : Rho) (o : Option Int) : Prop := ∀ S H σ, Ex S H → Env K S σ ρ → ∀ Q : Option Int → Hp → Prop, (∀ S' H', Ext S H S' H' → Q o H') → to σ H Q
/-- a two-place operation, a call by values -/
def RV (r : R2) (x y z : D) : Prop := ∀ S H v u, Ex S H → Rd K S v x → Rd K S u y → ∀ Q : VK, (∀ w S' H', Ext S H S' H' → Rd K S' w z → Q w H') → r v u H Q
def RVF (r : R2) (x y : D) (es : List D) : Prop := ∀ S H v u, Ex S H → Rd K S v x → Rd K S u y → ∀ Q : VK, (∀ p vs S' H', Ext S H S' H' → H p = none → S' p = none → H' p = some (.lst vs) → RdL K S' vs es → Q (.ref p) H') → r v u H Q
def RC (r : List V → Hp → VK → Prop) (xs : List D) (z : D) : Prop := ∀ S H vs, Ex S H → RdL K S vs xs → ∀ Q : VK, (∀ w S' H', Ext S H S' H' → Rd K S' w z → Q w H') → r vs H Q
def RCF (r : List V → Hp → VK → Prop) (xs : List D) (es : List D) : Prop := ∀ S H vs, Ex S H → RdL K S vs xs → ∀ Q : VK, (∀ p ws S' H', Ext S H S' H' → H p = none → S' p = none → H' p = some (.lst ws) → RdL K S' ws es → Q (.ref p) H') → r vs H Q
end

section
variable {K : PySem.W.Frag} {ρ : Rho} {ta tb te tx : TE} {t u : TT} {tA tR : TA} {x y z d e : D} {r : R2}
theorem Env.mono {S S' : Hp} {σ : L2.St} (e : Ex S S') (h : Env K S σ ρ) : Env K S' σ ρ := ⟨h.len, fun i d q => by
  obtain ⟨v, h1, h2⟩ := h.val i d q
  exact ⟨v, h1, h2.mono e⟩⟩
theorem EvF.data {es : List D} (h : EvF K te ρ es) : EvD K te ρ (.lst es) := fun S H σ e v Q q => h S H σ e v Q fun p vs S' H' x hp sp h' rl =>
  q (.ref p) (upd S' p (.lst vs)) H' (x.tell sp hp h') (.lst upd_same (rl.mono (Ex.new sp)))
theorem EvD.to (h : EvD K te ρ d) (e : d = x) : EvD K te ρ x := e ▸ h
theorem EvF.to {es fs : List D} (h : EvF K te ρ es) (e : es = fs) : EvF K te ρ fs := e ▸ h
theorem EvT.to {b c : Bool} (h : EvT K t ρ b) (e : b = c) : EvT K t ρ c := e ▸ h
theorem ev_var {i : Nat} (h : ρ[i]? = some (.k d)) : EvD K (tVar i) ρ d := fun S H σ e v Q q => by
  obtain ⟨w, h1, h2⟩ := v.val i d h
  exact ⟨w, h1, q w S H (Ext.refl e) h2⟩
theorem ev_int {i : Int} : EvD K (tC (.int i)) ρ (.int i) := fun S H σ e _ Q q => q _ S H (Ext.refl e) (.int i)
theorem ev_bl {b : Bool} : EvD K (tC (.bl b)) ρ (.bl b) := fun S H σ e _ Q q => q _ S H (Ext.refl e) (.bl b)
theorem ev_non : EvD K (tC .non) ρ .non := fun S H σ e _ Q q => q _ S H (Ext.refl e) .non
theorem ev_str {s : Str} : EvD K (tC (.str s)) ρ (.str s) := fun S H σ e _ Q q => q _ S H (Ext.refl e) (.str s)
theorem ev_adr {a : Addr} : EvD K (tC (.ref a)) ρ (.adr a) := fun S H σ e _ Q q => q _ S H (Ext.refl e) (.adr a)
theorem ev_ty {n : String} : EvD K (tC (.ty n)) ρ (.ty n) := fun S H σ e _ Q q => q _ S H (Ext.refl e) (.ty n)
theorem ev_op (ha : EvD K ta ρ x) (hb : EvD K tb ρ y) (hr : RV K r x y z) : EvD K (tOp r ta tb) ρ z := fun S H σ e v Q q =>
  ha S H σ e v _ fun w1 S1 H1 x1 r1 => hb S1 H1 σ x1.sub (v.mono x1.s) _ fun w2 S2 H2 x2 r2 => hr S2 H2 w1 w2 x2.sub (r1.mono x2.s) r2 Q fun w S3 H3 x3 r3 => q w S3 H3 ((x1.trans x2).trans x3) r3
theorem ev_opF {es : List D} (ha : EvD K ta ρ x) (hb : EvD K tb ρ y) (hr : RVF K r x y es) : EvF K (tOp r ta tb) ρ es := fun S H σ e v Q q =>
  ha S H σ e v _ fun w1 S1 H1 x1 r1 => hb S1 H1 σ x1.sub (v.mono x1.s) _ fun w2 S2 H2 x2 r2 => hr S2 H2 w1 w2 x2.sub (r1.mono x2.s) r2 Q fun p vs S3 H3 x3 hp sp h3 r3 =>
    q p vs S3 H3 ((x1.trans x2).trans x3) (Evl.fresh_back (x1.h.trans x2.h) hp) sp h3 r3
theorem ea_nil : EvA K tNil ρ [] := fun S H σ e _ Q q => q [] S H (Ext.refl e) .nil
theorem ea_cons {ds : List D} (h : EvD K ta ρ d) (hr : EvA K tR ρ ds) : EvA K (tCons ta tR) ρ (d :: ds) := fun S H σ e v Q q =>
  h S H σ e v _ fun w1 S1 H1 x1 r1 => hr S1 H1 σ x1.sub (v.mono x1.s) _ fun ws S2 H2 x2 r2 => q (w1 :: ws) S2 H2 (x1.trans x2) (.cons (r1.mono x2.s) r2)
theorem ev_cb {rc : List V → Hp → VK → Prop} {ds : List D} (ha : EvA K tA ρ ds) (hr : RC K rc ds z) : EvD K (tCB rc tA) ρ z := fun S H σ e v Q q =>
  ha S H σ e v _ fun ws S1 H1 x1 r1 => hr S1 H1 ws x1.sub r1 Q fun w S2 H2 x2 r2 => q w S2 H2 (x1.trans x2) r2
theorem ev_cbF {rc : List V → Hp → VK → Prop} {ds es : List D} (ha : EvA K tA ρ ds) (hr : RCF K rc ds es) : EvF K (tCB rc tA) ρ es := fun S H σ e v Q q =>
  ha S H σ e v _ fun ws S1 H1 x1 r1 => hr S1 H1 ws x1.sub r1 Q fun p us S2 H2 x2 hp sp h2 r2 => q p us S2 H2 (x1.trans x2) (Evl.fresh_back x1.h hp) sp h2 r2
theorem ev_lst {ds : List D} (ha : EvA K tA ρ ds) (hl : ds.length ≤ 100000) : EvF K (tLst tA) ρ ds := fun S H σ e v Q q =>
  ha S H σ e v _ fun ws S1 H1 x1 r1 => ⟨Evl.sz_of (by rw [r1.length]; exact hl), fun p hp => q p ws S1 (upd H1 p (.lst ws)) (x1.trans (Ext.hid x1.sub hp)) (Evl.fresh_back x1.h hp) (sub_none x1.sub hp) upd_same r1⟩
theorem ev_tup {ds : List D} (ha : EvA K tA ρ ds) (hl : ds.length ≤ 100000) : EvD K (tTup tA) ρ (.tup ds) := fun S H σ e v Q q =>
  ha S H σ e v _ fun ws S1 H1 x1 r1 => ⟨Evl.sz_of (by rw [r1.length]; exact hl), fun p hp => q (.ref p) (upd S1 p (.tup ws)) (upd H1 p (.tup ws)) (x1.trans (Ext.new x1.sub hp)) (.tup upd_same (r1.mono (Ex.new (sub_none x1.sub hp))))⟩
theorem et_test {b : Bool} (h : EvD K te ρ (.bl b)) : EvT K (tTest te) ρ b := fun S H σ e v Q q =>
  h S H σ e v _ fun w S1 H1 x1 r1 => by cases r1; exact ⟨b, rfl, q S1 H1 x1⟩
theorem et_B {b : Bool} (h : EvD K te ρ (.bl b)) : EvT K (tB te) ρ b := fun S H σ e v Q q =>
  h S H σ e v _ fun w S1 H1 x1 r1 => by cases r1; exact ⟨b, rfl, q S1 H1 x1⟩
theorem et_not {b : Bool} (h : EvT K t ρ b) : EvT K (tNot t) ρ (!b) := fun S H σ e v Q q => h S H σ e v _ fun S1 H1 x1 => q S1 H1 x1
theorem et_and {a b : Bool} (h1 : EvT K t ρ a) (h2 : a = true → EvT K u ρ b) : EvT K (tAnd t u) ρ (a && b) := fun S H σ e v Q q => h1 S H σ e v _ fun S1 H1 x1 => by
  cases a with
  | true =>
    show u σ H1 Q
    exact h2 rfl S1 H1 σ x1.sub (v.mono x1.s) Q fun S2 H2 x2 => q S2 H2 (x1.trans x2)
  | false =>
    show Q false H1
    exact q S1 H1 x1
theorem et_or {a b : Bool} (h1 : EvT K t ρ a) (h2 : a = false → EvT K u ρ b) : EvT K (tOr t u) ρ (a || b) := fun S H σ e v Q q => h1 S H σ e v _ fun S1 H1 x1 => by
  cases a with
  | true =>
    show Q true H1
    exact q S1 H1 x1
  | false =>
    show u σ H1 Q
    exact h2 rfl S1 H1 σ x1.sub (v.mono x1.s) Q fun S2 H2 x2 => q S2 H2 (x1.trans x2)
theorem et_yes : EvT K tYes ρ true := fun S H σ e v Q q => q S H (Ext.refl e)
theorem ev_andV {a : Bool} {z : D} (h1 : EvD K ta ρ (.bl a)) (h2 : a = true → EvD K tb ρ z) (h3 : a = false → z = .bl false) : EvD K (tAndV ta tb) ρ z := fun S H σ e v Q q => h1 S H σ e v _ fun w S1 H1 x1 r1 => by
  cases r1
  refine ⟨a, rfl, ?_⟩
  cases a with
  | true =>
    show tb σ H1 Q
    exact h2 rfl S1 H1 σ x1.sub (v.mono x1.s) Q fun w S2 H2 x2 r2 => q w S2 H2 (x1.trans x2) r2
  | false =>
    show Q (.bl false) H1
    rw [h3 rfl] at q
    exact q _ S1 H1 x1 (.bl false)
theorem ev_and {a b : Bool} (h1 : EvD K ta ρ (.bl a)) (h2 : a = true → EvD K tb ρ (.bl b)) : EvD K (tAndV ta tb) ρ (.bl (a && b)) :=
  ev_andV h1 (fun e => by subst e; exact h2 rfl) fun e => by subst e; rfl
theorem ev_or {a b : Bool} (h1 : EvD K ta ρ (.bl a)) (h2 : a = false → EvD K tb ρ (.bl b)) : EvD K (tOrV ta tb) ρ (.bl (a || b)) := fun S H σ e v Q q => h1 S H σ e v _ fun w S1 H1 x1 r1 => by
  cases r1
  refine ⟨a, rfl, ?_⟩
  cases a with
  | true =>
    show Q (.bl true) H1
    exact q _ S1 H1 x1 (.bl true)
  | false =>
    show tb σ H1 Q
    exact h2 rfl S1 H1 σ x1.sub (v.mono x1.s) Q fun w S2 H2 x2 r2 => q w S2 H2 (x1.trans x2) r2
theorem ev_not {a : Bool} (h1 : EvD K ta ρ (.bl a)) : EvD K (tNotV ta) ρ (.bl (!a)) := fun S H σ e v Q q => h1 S H σ e v _ fun w S1 H1 x1 r1 => by
  cases r1
  exact ⟨a, rfl, q _ S1 H1 x1 (.bl _)⟩
theorem ev_if {b : Bool} (h : EvT K t ρ b) (h1 : b = true → EvD K ta ρ d) (h2 : b = false → EvD K tb ρ d) : EvD K (tIf t ta tb) ρ d := fun S H σ e v Q q => h S H σ e v _ fun S1 H1 x1 => by
  cases b with
  | true =>
    show ta σ H1 Q
    exact h1 rfl S1 H1 σ x1.sub (v.mono x1.s) Q fun w S2 H2 x2 r2 => q w S2 H2 (x1.trans x2) r2
  | false =>
    show tb σ H1 Q
    exact h2 rfl S1 H1 σ x1.sub (v.mono x1.s) Q fun w S2 H2 x2 r2 => q w S2 H2 (x1.trans x2) r2

/-! ### operations by values -/
theorem rv_I0 {g : Int → Int → V} {i j : Int} {z : D} (h : ∀ S, Rd K S (g i j) z) : RV K (rI0 g) (.int i) (.int j) z := fun S H v u e r1 r2 Q q => by
  cases r1; cases r2
  exact ⟨i, j, rfl, rfl, q _ S H (Ext.refl e) (h S)⟩
theorem rv_I {C : Int → Int → Prop} {g : Int → Int → V} {i j : Int} {z : D} (hc : C i j) (h : ∀ S, Rd K S (g i j) z) : RV K (rI C g) (.int i) (.int j) z := fun S H v u e r1 r2 Q q => by
  cases r1; cases r2
  exact ⟨i, j, rfl, rfl, hc, q _ S H (Ext.refl e) (h S)⟩
theorem atI_get {α : Type} {xs : List α} {i : Int} {x : α} (h : atI xs i = some x) : ∃ j, ixN xs.length i = some j ∧ xs[j]? = some x := by
  unfold atI at h
  cases e : ixN xs.length i with
  | none => rw [e] at h; cases h
  | some j => rw [e] at h; exact ⟨j, rfl, h⟩
theorem atI_of {α : Type} {xs : List α} {i : Int} {j : Nat} {x : α} (h : ixN xs.length i = some j) (e : xs[j]? = some x) : atI xs i = some x := by
  unfold atI
  rw [h]
  exact e
theorem RdL.at {S : Hp} {vs : List V} {ds : List D} {i : Int} {d : D} (h : RdL K S vs ds) (e : atI ds i = some d) : ∃ v, atI vs i = some v ∧ Rd K S v d := by
  obtain ⟨j, h1, h2⟩ := atI_get e
  obtain ⟨v, h3, h4⟩ := h.get h2
  exact ⟨v, atI_of (by rw [h.length]; exact h1) h3, h4⟩
theorem rv_ixL {ds : List D} {i : Int} {d : D} (h : atI ds i = some d) : RV K (rIx K) (.lst ds) (.int i) d := fun S H v u e r1 r2 Q q => by
  cases r1 with
  | lst ha rl =>
    cases r2
    obtain ⟨w, h1, h2⟩ := rl.at h
    exact .inl ⟨_, _, i, w, rfl, rfl, Evl.sq_of (e _ _ ha), h1, q w S H (Ext.refl e) h2⟩
theorem rv_ixT {ds : List D} {i : Int} {d : D} (h : atI ds i = some d) : RV K (rIx K) (.tup ds) (.int i) d := fun S H v u e r1 r2 Q q => by
  cases r1 with
  | tup ha rl =>
    cases r2
    obtain ⟨w, h1, h2⟩ := rl.at h
    exact .inr (.inl ⟨_, _, i, w, rfl, rfl, Evl.st_of (e _ _ ha), h1, q w S H (Ext.refl e) h2⟩)
theorem rv_ixR {ns : List Int} {i n : Int} (h : atI ns i = some n) : RV K (rIx K) (.ro ns) (.int i) (.int n) := fun S H v u e r1 r2 Q q => by
  cases r1 with
  | ro ha =>
    cases r2
    obtain ⟨j, h1, h2⟩ := atI_get h
    exact .inl ⟨_, _, i, .int n, rfl, rfl, Evl.ex_l e ha, atI_of (by rw [List.length_map]; exact h1) (by rw [List.getElem?_map, h2]; rfl), q _ S H (Ext.refl e) (.int n)⟩
/-- `+` of ints, lists, tuples -/
def rPlus (K : PySem.W.Frag) : R2 := fun x y H Q => rI0 (fun i j => .int (i + j)) x y H Q ∨ rCat x y H Q ∨ rCatT K x y H Q
theorem op_plus {X : Cx} : OpR X (binaryOp .Add) (rPlus X.K) := fun pins s σ H x y v u Q I rx ry h => by
  rcases h with h | h | h
  · exact op_add pins s σ H x y v u Q I rx ry h
  · exact op_cat pins s σ H x y v u Q I rx ry h
  · exact op_catT pins s σ H x y v u Q I rx ry h
theorem rv_plusI {i j : Int} : RV K (rPlus K) (.int i) (.int j) (.int (i + j)) := fun S H v u e r1 r2 Q q => .inl (rv_I0 (fun S => .int _) S H v u e r1 r2 Q q)
theorem rvF_plus {xs ys : List D} (hl : xs.length + ys.length ≤ 100000) : RVF K (rPlus K) (.lst xs) (.lst ys) (xs ++ ys) := fun S H v u e r1 r2 Q q => by
  cases r1 with
  | lst ha rl =>
    cases r2 with
    | lst hb rl2 =>
      exact .inr (.inl ⟨_, _, _, _, rfl, rfl, e _ _ ha, e _ _ hb, Evl.sz_of (by rw [rl.length, rl2.length]; exact hl), fun p hp => q p _ S _ (Ext.hid e hp) hp (sub_none e hp) upd_same (rl.append rl2)⟩)
theorem rv_plusT {xs ys : List D} (hn : xs ≠ []) (hl : xs.length + ys.length ≤ 100000) : RV K (rPlus K) (.tup xs) (.tup ys) (.tup (xs ++ ys)) := fun S H v u e r1 r2 Q q => by
  cases r1 with
  | tup ha rl =>
    cases r2 with
    | tup hb rl2 =>
      refine .inr (.inr ⟨_, _, _, _, rfl, rfl, Evl.st_of (e _ _ ha), Evl.st_of (e _ _ hb), fun z => ?_, Evl.sz_of (by rw [rl.length, rl2.length]; exact hl), fun z => ?_, fun z p hp => ?_⟩)
      · subst z; cases rl; exact hn rfl
      · subst z
        cases rl2
        rw [List.append_nil] at q
        exact q _ S H (Ext.refl e) (.tup ha rl)
      · exact q _ _ _ (Ext.new e hp) (.tup upd_same ((rl.append rl2).mono (Ex.new (sub_none e hp))))
/-! ### calls by values -/
def rLen (K : PySem.W.Frag) : List V → Hp → VK → Prop := fun xs H Q => ∃ p ys, xs = [.ref p] ∧ (SqL K H p ys ∨ SqT K H p ys) ∧ Q (.int ys.length) H
theorem cr_len {X : Cx} : CallR X (.builtin "len") (rLen X.K) := call_len_seq
theorem rc_lenL {ds : List D} : RC K (rLen K) [.lst ds] (.int (ds.length : Int)) := fun S H vs e r Q q => by
  cases r with
  | cons h t =>
    cases t
    cases h with
    | lst ha rl => exact ⟨_, _, rfl, .inl (Evl.sq_of (e _ _ ha)), by rw [rl.length]; exact q _ S H (Ext.refl e) (.int _)⟩
theorem rc_lenT {ds : List D} : RC K (rLen K) [.tup ds] (.int (ds.length : Int)) := fun S H vs e r Q q => by
  cases r with
  | cons h t =>
    cases t
    cases h with
    | tup ha rl => exact ⟨_, _, rfl, .inr (Evl.st_of (e _ _ ha)), by rw [rl.length]; exact q _ S H (Ext.refl e) (.int _)⟩
theorem rc_lenR {ns : List Int} : RC K (rLen K) [.ro ns] (.int (ns.length : Int)) := fun S H vs e r Q q => by
  cases r with
  | cons h t =>
    cases t
    cases h with
    | ro ha => exact ⟨_, _, rfl, .inl (Evl.ex_l e ha), by rw [List.length_map]; exact q _ S H (Ext.refl e) (.int _)⟩
def rListOf (K : PySem.W.Frag) : List V → Hp → VK → Prop := fun xs H Q => ∃ p ys, xs = [.ref p] ∧ (SqL K H p ys ∨ SqT K H p ys) ∧ ∀ l, H l = none → Q (.ref l) (upd H l (.lst ys))
theorem cr_listOf {X : Cx} : CallR X (.type "list") (rListOf X.K) := call_list_of
theorem rc_listL {ds : List D} : RCF K (rListOf K) [.lst ds] ds := fun S H vs e r Q q => by
  cases r with
  | cons h t =>
    cases t
    cases h with
    | lst ha rl => exact ⟨_, _, rfl, .inl (Evl.sq_of (e _ _ ha)), fun p hp => q p _ S _ (Ext.hid e hp) hp (sub_none e hp) upd_same rl⟩
theorem rc_listT {ds : List D} : RCF K (rListOf K) [.tup ds] ds := fun S H vs e r Q q => by
  cases r with
  | cons h t =>
    cases t
    cases h with
    | tup ha rl => exact ⟨_, _, rfl, .inr (Evl.st_of (e _ _ ha)), fun p hp => q p _ S _ (Ext.hid e hp) hp (sub_none e hp) upd_same rl⟩
theorem rc_listR {ns : List Int} : RCF K (rListOf K) [.ro ns] (ns.map D.int) := fun S H vs e r Q q => by
  cases r with
  | cons h t =>
    cases t
    cases h with
    | ro ha => exact ⟨_, _, rfl, .inl (Evl.ex_l e ha), fun p hp => q p _ S _ (Ext.hid e hp) hp (sub_none e hp) upd_same (RdL.ofInts ns)⟩
/-- all(..) of a list of truth values -/
theorem rc_all {bs : List Bool} : RC K (rAll K) [.lst (bs.map D.bl)] (.bl (bs.all id)) := fun S H vs e r Q q => by
  cases r with
  | cons h t =>
    cases t
    cases h with
    | lst ha rl =>
      have z := rl.bools
      subst z
      exact ⟨_, bs, rfl, Evl.sq_of (e _ _ ha), q _ S H (Ext.refl e) (.bl _)⟩
end

/-! ### a def's promise by data -/
section
variable (K : PySem.W.Frag)
def spD (Rel : List D → D → Prop) : Sp := fun vs H Q _ => ∃ S ds d, Ex S H ∧ RdL K S vs ds ∧ Rel ds d ∧ ∀ v S' H', Ext S H S' H' → Rd K S' v d → Q v H'
/-- it hands back a list that is no one else's -/
def spF (Rel : List D → List D → Prop) : Sp := fun vs H Q _ => ∃ S ds es, Ex S H ∧ RdL K S vs ds ∧ Rel ds es ∧ ∀ p ws S' H', Ext S H S' H' → H p = none → S' p = none → H' p = some (.lst ws) → RdL K S' ws es → Q (.ref p) H'
end
section
variable {K : PySem.W.Frag} {ρ : Rho} {tA : TA} {E : XK}
theorem ev_call {Rel : List D → D → Prop} {ds : List D} {d : D} (ha : EvA K tA ρ ds) (hr : Rel ds d) : EvD K (tCall (spD K Rel) [] E tA) ρ d := fun S H σ e v Q q =>
  ha S H σ e v _ fun ws S1 H1 x1 r1 => ⟨S1, ds, d, x1.sub, by rw [List.append_nil]; exact r1, hr, fun w S2 H2 x2 r2 => q w S2 H2 (x1.trans x2) r2⟩
theorem ev_callF {Rel : List D → List D → Prop} {ds es : List D} (ha : EvA K tA ρ ds) (hr : Rel ds es) : EvF K (tCall (spF K Rel) [] E tA) ρ es := fun S H σ e v Q q =>
  ha S H σ e v _ fun ws S1 H1 x1 r1 => ⟨S1, ds, es, x1.sub, by rw [List.append_nil]; exact r1, hr, fun p us S2 H2 x2 hp sp h2 r2 => q p us S2 H2 (x1.trans x2) (Evl.fresh_back x1.h hp) sp h2 r2⟩
end
end Pl

/-! Values as plain data: kinds, ==, in, slices, walks, comprehensions. -/
namespace Pl
open PySem PySem.Spec PyProof.Rows L2
open Evl (Ex)

/-! ### kinds -/
def D.kind : D → String
  | .non => "NoneType" | .bl _ => "bool" | .int _ => "int" | .str _ => "str" | .adr _ => "?" | .ty _ => "?" | .ro _ => "list" | .lst _ => "list" | .tup _ => "tuple" | .dc _ _ => "dict" | .ob _ _ _ => "?" | .fz _ => "?" | .fv _ _ => "?" | .er _ => "?"
section
variable {K : PySem.W.Frag} {ρ : Rho}
theorem Rd.ty_of {S H : Hp} {v : V} {d : D} (e : Ex S H) (h : Rd K S v d) (hk : d.kind ≠ "?") : TyX K H v (.type d.kind) := by
  cases h with
  | non => exact .base .non
  | bl b => exact .base (.bl b)
  | int i => exact .base (.int i)
  | str x => exact .base (.str x)
  | adr a => exact absurd rfl hk
  | ty a => exact absurd rfl hk
  | ro h =>
    rcases Evl.ex_l e h with (h | ⟨o, h⟩) | ⟨o, its, n, h1, h2, _⟩
    · exact .base (.lst h)
    · exact .base (.frz h)
    · exact .kList h1 h2
  | lst h _ => exact .base (.lst (e _ _ h))
  | tup h _ => exact .base (.tup (e _ _ h))
  | dc h _ _ => exact .base (.dK (e _ _ h))
  | ob _ _ _ => exact absurd rfl hk
  | fz _ _ => exact absurd rfl hk
  | fv _ _ _ => exact absurd rfl hk
  | er _ _ _ _ => exact absurd rfl hk
theorem rc_isi {x : D} {T : String} {b : Bool} (h : kitB x.kind T = some b) (hk : x.kind ≠ "?") : RC K (rIsi K) [x, .ty T] (.bl b) := fun S H vs e r Q q => by
  cases r with
  | cons h1 t1 =>
    cases t1 with
    | cons h2 t2 =>
      cases t2
      cases h2
      exact ⟨_, _, _, _, b, rfl, .ty T, h1.ty_of e hk, kit_ty h, q _ S H (Ext.refl e) (.bl b)⟩

/-! ### equality -/
mutual
def D.py : D → PyData
  | .non => .none | .bl b => .bool b | .int i => .int i | .str s => .str s | .adr _ => .none | .ty _ => .none | .ro ns => .list (ns.map PyData.int)
  | .lst ds => .list (pyL ds) | .tup ds => .tuple (pyL ds) | .dc _ _ => .none | .ob _ _ _ => .none | .fz _ => .none | .fv _ _ => .none | .er _ => .none
def pyL : List D → List PyData
  | [] => []
  | d :: ds => d.py :: pyL ds
end
theorem pyL_map (ds : List D) : pyL ds = ds.map D.py := by
  induction ds with
  | nil => rfl
  | cons d ds ih => rw [pyL, ih]; rfl
/-- data that == may be asked of: at most n deep -/
def D.okd : Nat → D → Bool
  | _, .non => true | _, .bl _ => true | _, .int _ => true | _, .str s => PyData.strOk s | _, .adr _ => false | _, .ty _ => false
  | 0, _ => false
  | _ + 1, .ro _ => true
  | n + 1, .lst ds => ds.all (D.okd n)
  | n + 1, .tup ds => ds.all (D.okd n)
  | _ + 1, .dc _ _ => false | _ + 1, .ob _ _ _ => false | _ + 1, .fz _ => false | _ + 1, .fv _ _ => false | _ + 1, .er _ => false
theorem depthAll_le : ∀ (xs : List PyData) (n : Nat), (∀ x ∈ xs, x.depth ≤ n) → PyData.depthAll xs ≤ n
  | [], n, _ => by simp [PyData.depthAll]
  | x :: xs, n, h => by
    have h1 := h x List.mem_cons_self
    have h2 := depthAll_le xs n fun y hy => h y (List.mem_cons_of_mem _ hy)
    simp only [PyData.depthAll]
    omega
theorem canLayAll_of : ∀ (xs : List PyData), (∀ x ∈ xs, x.canLay0 = true) → PyData.canLayAll0 xs = true
  | [], _ => by simp [PyData.canLayAll0]
  | x :: xs, h => by
    simp only [PyData.canLayAll0, Bool.and_eq_true]
    exact ⟨h x List.mem_cons_self, canLayAll_of xs fun y hy => h y (List.mem_cons_of_mem _ hy)⟩
theorem okd_shape : ∀ (n : Nat) (d : D), d.okd n = true → d.py.canLay0 = true ∧ d.py.depth ≤ n
  | n, .non, _ => ⟨by simp [D.py, PyData.canLay0], by simp [D.py, PyData.depth]⟩
  | n, .bl _, _ => ⟨by simp [D.py, PyData.canLay0], by simp [D.py, PyData.depth]⟩
  | n, .int _, _ => ⟨by simp [D.py, PyData.canLay0], by simp [D.py, PyData.depth]⟩
  | n, .str s, h => ⟨by cases n <;> simpa [D.py, PyData.canLay0, D.okd] using h, by simp [D.py, PyData.depth]⟩
  | n, .adr _, h => by cases n <;> simp [D.okd] at h
  | n, .ty _, h => by cases n <;> simp [D.okd] at h
  | n, .dc _ _, h => by cases n <;> simp [D.okd] at h
  | n, .ob _ _ _, h => by cases n <;> simp [D.okd] at h
  | n, .fz _, h => by cases n <;> simp [D.okd] at h
  | n, .fv _ _, h => by cases n <;> simp [D.okd] at h
  | n, .er _, h => by cases n <;> simp [D.okd] at h
  | 0, .ro _, h => by simp [D.okd] at h
  | 0, .lst _, h => by simp [D.okd] at h
  | 0, .tup _, h => by simp [D.okd] at h
  | n + 1, .ro ns, _ => by
    refine ⟨?_, ?_⟩
    · simp only [D.py, PyData.canLay0]
      exact canLayAll_of _ fun x hx => by
        obtain ⟨i, _, rfl⟩ := List.mem_map.mp hx
        simp [PyData.canLay0]
    · simp only [D.py, PyData.depth]
      have := depthAll_le (ns.map PyData.int) 0 fun x hx => by
        obtain ⟨i, _, rfl⟩ := List.mem_map.mp hx
        simp [PyData.depth]
      omega
  | n + 1, .lst ds, h => by
    have hh : ∀ d ∈ ds, d.okd n = true := by simpa [D.okd] using h
    have ih := fun d hd => okd_shape n d (hh d hd)
    refine ⟨?_, ?_⟩
    · simp only [D.py, PyData.canLay0, pyL_map]
      exact canLayAll_of _ fun x hx => by
        obtain ⟨d, hd, rfl⟩ := List.mem_map.mp hx
        exact (ih d hd).1
    · simp only [D.py, PyData.depth, pyL_map]
      have := depthAll_le (ds.map D.py) n fun x hx => by
        obtain ⟨d, hd, rfl⟩ := List.mem_map.mp hx
        exact (ih d hd).2
      omega
  | n + 1, .tup ds, h => by
    have hh : ∀ d ∈ ds, d.okd n = true := by simpa [D.okd] using h
    have ih := fun d hd => okd_shape n d (hh d hd)
    refine ⟨?_, ?_⟩
    · simp only [D.py, PyData.canLay0, pyL_map]
      exact canLayAll_of _ fun x hx => by
        obtain ⟨d, hd, rfl⟩ := List.mem_map.mp hx
        exact (ih d hd).1
    · simp only [D.py, PyData.depth, pyL_map]
      have := depthAll_le (ds.map D.py) n fun x hx => by
        obtain ⟨d, hd, rfl⟩ := List.mem_map.mp hx
        exact (ih d hd).2
      omega
theorem okd_shaped {d : D} (h : d.okd 60 = true) : SeqAt.shaped d.py = true := by
  obtain ⟨h1, h2⟩ := okd_shape 60 d h
  unfold SeqAt.shaped
  rw [h1, decide_eq_true (by omega : d.py.depth ≤ 64)]
  rfl
theorem dpAll_ints {H : Hp} : ∀ (ns : List Int), DpAll K H (ns.map V.int) (ns.map PyData.int)
  | [] => .nil
  | n :: ns => .cons (.int n) (dpAll_ints ns)
theorem dpL {S : Hp} {n : Nat} (ih : ∀ (v : V) (d : D), d.okd n = true → Rd K S v d → Dp K S v d.py) : ∀ (vs : List V) (ds : List D), (∀ d ∈ ds, d.okd n = true) → RdL K S vs ds → DpAll K S vs (pyL ds)
  | _, [], _, .nil => .nil
  | _, _ :: ds, h, .cons (vs := vs) hd r => .cons (ih _ _ (h _ List.mem_cons_self) hd) (dpL ih vs ds (fun d hd => h d (List.mem_cons_of_mem _ hd)) r)
theorem Rd.dp {S : Hp} (n : Nat) : ∀ (v : V) (d : D), d.okd n = true → Rd K S v d → Dp K S v d.py := by
  induction n with
  | zero =>
    intro v d h r
    cases r with
    | non => exact .non
    | bl b => exact .bl b
    | int i => exact .int i
    | str x => exact .str x
    | adr a => simp [D.okd] at h
    | ty a => simp [D.okd] at h
    | ro h' => simp [D.okd] at h
    | lst _ _ => simp [D.okd] at h
    | tup _ _ => simp [D.okd] at h
    | dc _ _ _ => simp [D.okd] at h
    | ob _ _ _ => simp [D.okd] at h
    | fz _ _ => simp [D.okd] at h
    | fv _ _ _ => simp [D.okd] at h
    | er _ _ _ _ => simp [D.okd] at h
  | succ n ih =>
    intro v d h r
    cases r with
    | non => exact .non
    | bl b => exact .bl b
    | int i => exact .int i
    | str x => exact .str x
    | adr a => simp [D.okd] at h
    | ty a => simp [D.okd] at h
    | ro h' => exact .lst h' (dpAll_ints _)
    | lst ha r => exact .lst (Evl.sq_of ha) (dpL ih _ _ (by simpa [D.okd] using h) r)
    | tup ha r => exact .tup (Evl.st_of ha) (dpL ih _ _ (by simpa [D.okd] using h) r)
    | dc _ _ _ => simp [D.okd] at h
    | ob _ _ _ => simp [D.okd] at h
    | fz _ _ => simp [D.okd] at h
    | fv _ _ _ => simp [D.okd] at h
    | er _ _ _ _ => simp [D.okd] at h
/-- no truth values in it: then == is equality -/
def D.sm : Nat → D → Bool
  | _, .non => true | _, .bl _ => false | _, .int _ => true | _, .str _ => true | _, .adr _ => false | _, .ty _ => false
  | 0, _ => false
  | _ + 1, .ro _ => false
  | n + 1, .lst ds => ds.all (D.sm n)
  | n + 1, .tup ds => ds.all (D.sm n)
  | _ + 1, .dc _ _ => false | _ + 1, .ob _ _ _ => false | _ + 1, .fz _ => false | _ + 1, .fv _ _ => false | _ + 1, .er _ => false
theorem eqvAll_iff {n : Nat} (ih : ∀ x y : D, x.sm n = true → y.sm n = true → (PyData.eqv x.py y.py = true ↔ x = y)) : ∀ (xs ys : List D), (∀ x ∈ xs, x.sm n = true) → (∀ y ∈ ys, y.sm n = true) → (PyData.eqvAll (pyL xs) (pyL ys) = true ↔ xs = ys)
  | [], [], _, _ => by simp [pyL, PyData.eqvAll]
  | [], _ :: _, _, _ => by simp [pyL, PyData.eqvAll]
  | _ :: _, [], _, _ => by simp [pyL, PyData.eqvAll]
  | x :: xs, y :: ys, hx, hy => by
    have h1 := ih x y (hx x List.mem_cons_self) (hy y List.mem_cons_self)
    have h2 := eqvAll_iff ih xs ys (fun z hz => hx z (List.mem_cons_of_mem _ hz)) (fun z hz => hy z (List.mem_cons_of_mem _ hz))
    simp only [pyL, PyData.eqvAll, Bool.and_eq_true, h1, h2, List.cons.injEq]
theorem eqv_iff : ∀ (n : Nat) (x y : D), x.sm n = true → y.sm n = true → (PyData.eqv x.py y.py = true ↔ x = y)
  | 0, x, y, hx, hy => by
    cases x <;> simp [D.sm] at hx <;> cases y <;> simp [D.sm] at hy <;> simp [D.py, PyData.eqv]
  | n + 1, x, y, hx, hy => by
    have ih := eqv_iff n
    cases x <;> simp [D.sm] at hx <;> cases y <;> simp [D.sm] at hy <;> simp [D.py, PyData.eqv]
    · exact eqvAll_iff ih _ _ hx hy
    · exact eqvAll_iff ih _ _ hx hy
theorem eqv_dec {x y : D} {b : Bool} (hx : x.sm 60 = true) (hy : y.sm 60 = true) (h : b = true ↔ x = y) : PyData.eqv x.py y.py = b := by
  have e := eqv_iff 60 x y hx hy
  cases b with
  | true => exact e.mpr (h.mp rfl)
  | false =>
    cases q : PyData.eqv x.py y.py with
    | false => rfl
    | true => exact absurd (h.mpr (e.mp q)) (by decide)
theorem rv_eq {x y : D} (hx : x.okd 60 = true) (hy : y.okd 60 = true) : RV K (rEqD K) x y (.bl (PyData.eqv x.py y.py)) := fun S H v u e r1 r2 Q q =>
  ⟨x.py, y.py, Rd.dp 60 _ _ hx (r1.mono e), Rd.dp 60 _ _ hy (r2.mono e), okd_shaped hx, okd_shaped hy, q _ S H (Ext.refl e) (.bl _)⟩
theorem rv_ne {x y : D} (hx : x.okd 60 = true) (hy : y.okd 60 = true) : RV K (rNeD K) x y (.bl (!PyData.eqv x.py y.py)) := fun S H v u e r1 r2 Q q =>
  ⟨x.py, y.py, Rd.dp 60 _ _ hx (r1.mono e), Rd.dp 60 _ _ hy (r2.mono e), okd_shaped hx, okd_shaped hy, q _ S H (Ext.refl e) (.bl _)⟩
/-- == and != where no truth values are in it -/
theorem rv_eqS {x y : D} {b : Bool} (hx : x.okd 60 = true) (hy : y.okd 60 = true) (sx : x.sm 60 = true) (sy : y.sm 60 = true) (h : b = true ↔ x = y) : RV K (rEqD K) x y (.bl b) := by
  rw [← eqv_dec sx sy h]
  exact rv_eq hx hy
theorem rv_neS {x y : D} {b : Bool} (hx : x.okd 60 = true) (hy : y.okd 60 = true) (sx : x.sm 60 = true) (sy : y.sm 60 = true) (h : b = true ↔ x = y) : RV K (rNeD K) x y (.bl (!b)) := by
  rw [← eqv_dec sx sy h]
  exact rv_ne hx hy
theorem rv_eqI {i j : Int} : RV K (rEqD K) (.int i) (.int j) (.bl (decide (i = j))) := rv_eqS rfl rfl rfl rfl (by rw [decide_eq_true_eq]; exact ⟨congrArg D.int, fun e => D.int.inj e⟩)
theorem rv_neI {i j : Int} : RV K (rNeD K) (.int i) (.int j) (.bl (!decide (i = j))) := rv_neS rfl rfl rfl rfl (by rw [decide_eq_true_eq]; exact ⟨congrArg D.int, fun e => D.int.inj e⟩)
theorem rv_eqB {a b : Bool} : RV K (rEqD K) (.bl a) (.bl b) (.bl (a == b)) := rv_eq rfl rfl
theorem rv_neB {a b : Bool} : RV K (rNeD K) (.bl a) (.bl b) (.bl (!(a == b))) := rv_ne rfl rfl
theorem map_int_inj {ns ms : List Int} : ns.map D.int = ms.map D.int ↔ ns = ms :=
  ⟨fun h => (List.map_inj_right (fun a b e => D.int.inj e)).mp h, fun h => h ▸ rfl⟩
theorem okd_ints {ns : List Int} : (D.lst (ns.map D.int)).okd 60 = true := by
  simp [D.okd]
theorem sm_ints {ns : List Int} : (D.lst (ns.map D.int)).sm 60 = true := by
  simp [D.sm]
theorem rv_eqInts {ns ms : List Int} : RV K (rEqD K) (.lst (ns.map D.int)) (.lst (ms.map D.int)) (.bl (decide (ns = ms))) :=
  rv_eqS okd_ints okd_ints sm_ints sm_ints (by rw [decide_eq_true_eq, D.lst.injEq, map_int_inj])
theorem rv_neInts {ns ms : List Int} : RV K (rNeD K) (.lst (ns.map D.int)) (.lst (ms.map D.int)) (.bl (!decide (ns = ms))) :=
  rv_neS okd_ints okd_ints sm_ints sm_ints (by rw [decide_eq_true_eq, D.lst.injEq, map_int_inj])

/-! ### in, of ints -/
theorem inV_ints (i : Int) (ns : List Int) : inV (.int i) (ns.map V.int) = decide (i ∈ ns) := by
  unfold inV
  induction ns with
  | nil => rfl
  | cons n ns ih =>
    rw [List.map_cons, List.any_cons, ih]
    show ((n == i) || decide (i ∈ ns)) = decide (i ∈ n :: ns)
    by_cases e : n = i
    · subst e; simp
    · have e2 : ¬ i = n := fun z => e z.symm
      simp [e, e2]
theorem flat_ints (ns : List Int) : (ns.map V.int).all flatV = true := by
  rw [List.all_map]
  exact List.all_eq_true.mpr fun _ _ => rfl
theorem rv_inL {neg : Bool} {i : Int} {ns : List Int} : RV K (rIn K neg) (.int i) (.lst (ns.map D.int)) (.bl (if neg then !decide (i ∈ ns) else decide (i ∈ ns))) := fun S H v u e r1 r2 Q q => by
  cases r1
  cases r2 with
  | lst ha rl =>
    have z := rl.ints
    subst z
    exact ⟨_, _, rfl, .inl (Evl.sq_of (e _ _ ha)), rfl, flat_ints ns, by rw [inV_ints]; exact q _ S H (Ext.refl e) (.bl _)⟩
theorem rv_inT {neg : Bool} {i : Int} {ns : List Int} : RV K (rIn K neg) (.int i) (.tup (ns.map D.int)) (.bl (if neg then !decide (i ∈ ns) else decide (i ∈ ns))) := fun S H v u e r1 r2 Q q => by
  cases r1
  cases r2 with
  | tup ha rl =>
    have z := rl.ints
    subst z
    exact ⟨_, _, rfl, .inr (Evl.st_of (e _ _ ha)), rfl, flat_ints ns, by rw [inV_ints]; exact q _ S H (Ext.refl e) (.bl _)⟩
/-- is None -/
theorem rv_isN {x : D} {b : Bool} (h : b = true ↔ x = .non) : RV K (fun x y H Q => y = .non ∧ Q (.bl (decide (x = .non))) H) x .non (.bl b) := fun S H v u e r1 r2 Q q => by
  cases r2
  refine ⟨rfl, ?_⟩
  have : decide (v = .non) = b := by
    cases r1 <;> cases b <;> simp at h ⊢
  rw [this]
  exact q _ S H (Ext.refl e) (.bl b)
theorem rv_notN {x : D} {b : Bool} (h : b = true ↔ x = .non) : RV K (fun x y H Q => y = .non ∧ Q (.bl (!decide (x = .non))) H) x .non (.bl (!b)) := fun S H v u e r1 r2 Q q => by
  cases r2
  refine ⟨rfl, ?_⟩
  have : decide (v = .non) = b := by
    cases r1 <;> cases b <;> simp at h ⊢
  rw [this]
  exact q _ S H (Ext.refl e) (.bl _)

/-! ### slices -/
def cutD (xs : List D) (lo hi : Option Int) : List D := (xs.drop (HT.sIx xs.length 0 lo)).take (HT.sIx xs.length xs.length hi - HT.sIx xs.length 0 lo)
theorem RdL.cut {S : Hp} {vs : List V} {ds : List D} (h : RdL K S vs ds) (lo hi : Option Int) : RdL K S (cutV vs lo hi) (cutD ds lo hi) := by
  unfold cutV cutD
  rw [h.length]
  exact (h.drop _).take _
def rSl (K : PySem.W.Frag) : V → Option Int → Option Int → Hp → VK → Prop := fun x lo hi H Q => rSlL K x lo hi H Q ∨ rSlT K x lo hi H Q
theorem sl_any {X : Cx} : SlR X (rSl X.K) := SlR.or sl_list sl_tup
theorem eo_no : EvO K tNoPart ρ none := fun S H σ e v Q q => q S H (Ext.refl e)
theorem eo_some {te : TE} {i : Int} (h : EvD K te ρ (.int i)) : EvO K (tPart te) ρ (some i) := fun S H σ e v Q q =>
  h S H σ e v _ fun w S1 H1 x1 r1 => by cases r1; exact ⟨i, rfl, q S1 H1 x1⟩
theorem ev_slL {te : TE} {tl th : TO} {ds : List D} {lo hi : Option Int} (h : EvD K te ρ (.lst ds)) (h1 : EvO K tl ρ lo) (h2 : EvO K th ρ hi) : EvF K (tSl (rSl K) te tl th) ρ (cutD ds lo hi) := fun S H σ e v Q q =>
  h S H σ e v _ fun w S1 H1 x1 r1 => h1 S1 H1 σ x1.sub (v.mono x1.s) _ fun S2 H2 x2 => h2 S2 H2 σ x2.sub (v.mono (x1.s.trans x2.s)) _ fun S3 H3 x3 => by
    cases r1 with
    | lst ha rl =>
      refine .inl ⟨_, _, rfl, Evl.sq_of (x3.sub _ _ (x3.s _ _ (x2.s _ _ ha))), fun p hp => ?_⟩
      exact q p _ S3 _ (((x1.trans x2).trans x3).trans (Ext.hid x3.sub hp)) (Evl.fresh_back ((x1.trans x2).trans x3).h hp) (sub_none x3.sub hp) upd_same ((rl.cut lo hi).mono (x2.s.trans x3.s))
theorem ev_slR {te : TE} {tl th : TO} {ns : List Int} {lo hi : Option Int} (h : EvD K te ρ (.ro ns)) (h1 : EvO K tl ρ lo) (h2 : EvO K th ρ hi) : EvF K (tSl (rSl K) te tl th) ρ (cutD (ns.map D.int) lo hi) := fun S H σ e v Q q =>
  h S H σ e v _ fun w S1 H1 x1 r1 => h1 S1 H1 σ x1.sub (v.mono x1.s) _ fun S2 H2 x2 => h2 S2 H2 σ x2.sub (v.mono (x1.s.trans x2.s)) _ fun S3 H3 x3 => by
    cases r1 with
    | ro ha =>
      refine .inl ⟨_, _, rfl, Evl.ex_l ((x2.s.trans x3.s).trans x3.sub) ha, fun p hp => ?_⟩
      exact q p _ S3 _ (((x1.trans x2).trans x3).trans (Ext.hid x3.sub hp)) (Evl.fresh_back ((x1.trans x2).trans x3).h hp) (sub_none x3.sub hp) upd_same ((RdL.ofInts ns).cut lo hi)
theorem ev_slT {te : TE} {tl th : TO} {ds : List D} {lo hi : Option Int} (h : EvD K te ρ (.tup ds)) (h1 : EvO K tl ρ lo) (h2 : EvO K th ρ hi) (hn : ¬ (HT.sIx ds.length 0 lo = 0 ∧ HT.sIx ds.length ds.length hi = ds.length)) : EvD K (tSl (rSl K) te tl th) ρ (.tup (cutD ds lo hi)) := fun S H σ e v Q q =>
  h S H σ e v _ fun w S1 H1 x1 r1 => h1 S1 H1 σ x1.sub (v.mono x1.s) _ fun S2 H2 x2 => h2 S2 H2 σ x2.sub (v.mono (x1.s.trans x2.s)) _ fun S3 H3 x3 => by
    cases r1 with
    | tup ha rl =>
      refine .inr ⟨_, _, rfl, Evl.st_of (x3.sub _ _ (x3.s _ _ (x2.s _ _ ha))), by rw [rl.length]; exact hn, fun p hp => ?_⟩
      exact q _ _ _ (((x1.trans x2).trans x3).trans (Ext.new x3.sub hp)) (.tup upd_same ((rl.cut lo hi).mono ((x2.s.trans x3.s).trans (Ex.new (sub_none x3.sub hp)))))
end
end Pl

/-! Values as plain data: walks, targets, list comprehensions. -/
namespace Pl
open PySem PySem.Spec PyProof.Rows L2
open Evl (Ex)

/-! ### slots, more -/
def setV : L2.St → List Nat → List V → L2.St
  | σ, i :: is, v :: vs => setV (σ.set i (some v)) is vs
  | σ, _, _ => σ
def setR : Rho → List (Nat × D) → Rho
  | ρ, p :: ps => setR (ρ.set p.1 (.k p.2)) ps
  | ρ, [] => ρ
def wipeR : Rho → List Nat → Rho
  | ρ, [] => ρ
  | ρ, v :: vs => (wipeR ρ vs).set v .u
section
variable {K : PySem.W.Frag} {S S' H H' : Hp} {σ : L2.St} {ρ : Rho}
theorem Env.set {i : Nat} {v : V} {d : D} (e : Env K S σ ρ) (r : Rd K S v d) : Env K S (σ.set i (some v)) (ρ.set i (.k d)) where
  len := by rw [List.length_set, List.length_set, e.len]
  val := fun j x h => by
    by_cases hj : i = j
    · subst hj
      by_cases hl : i < ρ.length
      · rw [List.getElem?_set_self hl] at h
        cases h
        exact ⟨v, List.getElem?_set_self (by rw [e.len]; exact hl), r⟩
      · rw [List.getElem?_eq_none (by rw [List.length_set]; omega)] at h
        cases h
    · rw [List.getElem?_set_ne hj] at h ⊢
      exact e.val j x h
theorem Env.setU {i : Nat} {v : Option V} (e : Env K S σ ρ) : Env K S (σ.set i v) (ρ.set i .u) where
  len := by rw [List.length_set, List.length_set, e.len]
  val := fun j x h => by
    by_cases hj : i = j
    · subst hj
      by_cases hl : i < ρ.length
      · rw [List.getElem?_set_self hl] at h
        cases h
      · rw [List.getElem?_eq_none (by rw [List.length_set]; omega)] at h
        cases h
    · rw [List.getElem?_set_ne hj] at h ⊢
      exact e.val j x h
theorem Env.setV : ∀ {ps : List (Nat × D)} {vs : List V} {σ : L2.St} {ρ : Rho}, Env K S σ ρ → RdL K S vs (ps.map (·.2)) → Env K S (Pl.setV σ (ps.map (·.1)) vs) (setR ρ ps)
  | [], _, _, _, e, .nil => e
  | p :: ps, _, _, _, e, .cons h r => Env.setV (ps := ps) (e.set h) r
theorem Env.wipe (e : Env K S σ ρ) : ∀ (vs : List Nat), Env K S (L2.wipe σ vs) (wipeR ρ vs)
  | [] => e
  | _ :: vs => (Env.wipe e vs).setU
theorem set_comm_none {σ : L2.St} {i j : Nat} {x : Option V} : (σ.set i x).set j none = if i = j then σ.set j none else (σ.set j none).set i x := by
  by_cases h : i = j
  · subst h
    rw [if_pos rfl, List.set_set]
  · rw [if_neg h, List.set_comm _ _ h]
theorem wipe_set {i : Nat} {x : Option V} : ∀ {vs : List Nat} {σ : L2.St}, i ∈ vs → L2.wipe (σ.set i x) vs = L2.wipe σ vs
  | v :: vs, σ, h => by
    show (L2.wipe (σ.set i x) vs).set v none = (L2.wipe σ vs).set v none
    by_cases hv : i ∈ vs
    · rw [wipe_set hv]
    · have e : i = v := by
        rcases List.mem_cons.mp h with h | h
        · exact h
        · exact absurd h hv
      subst e
      have z : ∀ (ws : List Nat) (σ : L2.St), i ∉ ws → L2.wipe (σ.set i x) ws = (L2.wipe σ ws).set i x := fun ws => by
        induction ws with
        | nil => intro σ _; rfl
        | cons w ws ih =>
          intro σ hw
          show (L2.wipe (σ.set i x) ws).set w none = ((L2.wipe σ ws).set w none).set i x
          have nw : i ≠ w := fun q => hw (by rw [q]; exact List.mem_cons_self)
          rw [ih σ fun h => hw (List.mem_cons_of_mem _ h), List.set_comm _ _ nw]
      rw [z vs σ hv, List.set_set]
theorem wipe_wipe (vs : List Nat) (σ : L2.St) : L2.wipe (L2.wipe σ vs) vs = L2.wipe σ vs := by
  have z : ∀ (ws : List Nat) (σ : L2.St), (∀ w ∈ ws, w ∈ vs) → L2.wipe (L2.wipe σ ws) vs = L2.wipe σ vs := fun ws => by
    induction ws with
    | nil => intro σ _; rfl
    | cons w ws ih =>
      intro σ h
      show L2.wipe ((L2.wipe σ ws).set w none) vs = L2.wipe σ vs
      rw [wipe_set (h w List.mem_cons_self), ih σ fun x hx => h x (List.mem_cons_of_mem _ hx)]
  exact z vs σ fun _ h => h
theorem wipe_setV {vs : List Nat} : ∀ {is : List Nat} {xs : List V} {σ : L2.St}, (∀ i ∈ is, i ∈ vs) → L2.wipe (Pl.setV σ is xs) vs = L2.wipe σ vs
  | [], _, _, _ => by rw [Pl.setV.eq_def]
  | _ :: _, [], _, _ => by rw [Pl.setV.eq_def]
  | i :: is, x :: xs, σ, h => by
    rw [Pl.setV.eq_def]
    dsimp only
    rw [wipe_setV fun j hj => h j (List.mem_cons_of_mem _ hj), wipe_set (h i List.mem_cons_self)]
end

/-! ### walks -/
section
variable (K : PySem.W.Frag)
structure Walks (J : It) (S : Hp) (ds : List D) : Prop where
  go : ∀ S' H' i, Ex S S' → Ex S' H' → i < ds.length → J.go i H'
  yld : ∀ S' H' i x H'' d, Ex S S' → Ex S' H' → ds[i]? = some d → J.yld i H' x H'' → ∃ S'', Ext S' H' S'' H'' ∧ Rd K S'' x d
  stop : ∀ S' H', Ex S S' → Ex S' H' → J.stop ds.length H'
def EvI (wi : TI) (ρ : Rho) (ds : List D) : Prop := ∀ S H σ, Ex S H → Env K S σ ρ → ∀ R : It → Hp → Prop, (∀ J S' H', Ext S H S' H' → Walks K J S' ds → R J H') → wi σ H R
/-- a target takes a datum apart: which slots it sets -/
def EvG (g : TG) (d : D) (ps : List (Nat × D)) : Prop := ∀ S H σ v, Ex S H → Rd K S v d → ∀ Q : L2.St → Hp → Prop, (∀ vs, RdL K S vs (ps.map (·.2)) → Q (setV σ (ps.map (·.1)) vs) H) → g v σ H Q
def EvGs (g : TGs) (ds : List D) (ps : List (Nat × D)) : Prop := ∀ S H σ vs, Ex S H → RdL K S vs ds → ∀ Q : L2.St → Hp → Prop, (∀ ws, RdL K S ws (ps.map (·.2)) → Q (setV σ (ps.map (·.1)) ws) H) → g vs σ H Q
end
section
variable {K : PySem.W.Frag} {ρ : Rho} {te : TE} {tA : TA}
theorem walks_list {S : Hp} {a : Addr} {xs : List V} {ds : List D} (h : S a = some (.lst xs)) (r : RdL K S xs ds) : Walks K (Itl K a) S ds where
  go := fun S' H' i e1 e2 hi => by
    have hx : i < xs.length := by rw [r.length]; exact hi
    exact ⟨xs, xs[i], Evl.sq_of (e2 _ _ (e1 _ _ h)), List.getElem?_eq_getElem hx⟩
  yld := fun S' H' i x H'' d e1 e2 hd y => by
    obtain ⟨rfl, y⟩ := y
    obtain ⟨v, h1, h2⟩ := r.get hd
    have := y xs (Evl.sq_of (e2 _ _ (e1 _ _ h)))
    rw [h1] at this
    cases this
    exact ⟨S', Ext.refl e2, h2.mono e1⟩
  stop := fun S' H' e1 e2 => ⟨xs, Evl.sq_of (e2 _ _ (e1 _ _ h)), by rw [r.length]; exact Nat.le_refl _⟩
theorem ei_list {tl : TE} {ds : List D} (h : EvD K tl ρ (.lst ds)) : EvI K (iList K tl) ρ ds := fun S H σ e v R q =>
  h S H σ e v _ fun w S1 H1 x1 r1 => by
    cases r1 with
    | lst ha rl => exact ⟨_, rfl, ⟨_, Evl.sq_of (x1.sub _ _ ha)⟩, q _ S1 H1 x1 (walks_list ha rl)⟩
theorem walks_ro {S : Hp} {a : Addr} {ns : List Int} (h : SqL K S a (ns.map V.int)) : Walks K (Itl K a) S (ns.map D.int) where
  go := fun S' H' i e1 e2 hi => by
    have hx : i < (ns.map V.int).length := by rw [List.length_map] at hi ⊢; exact hi
    exact ⟨_, (ns.map V.int)[i], Evl.ex_l (e1.trans e2) h, List.getElem?_eq_getElem hx⟩
  yld := fun S' H' i x H'' d e1 e2 hd y => by
    obtain ⟨rfl, y⟩ := y
    obtain ⟨v, h1, h2⟩ := (RdL.ofInts (K := K) (S := S') ns).get hd
    have := y _ (Evl.ex_l (e1.trans e2) h)
    rw [h1] at this
    cases this
    exact ⟨S', Ext.refl e2, h2⟩
  stop := fun S' H' e1 e2 => ⟨_, Evl.ex_l (e1.trans e2) h, by rw [List.length_map, List.length_map]; exact Nat.le_refl _⟩
theorem ei_ro {tl : TE} {ns : List Int} (h : EvD K tl ρ (.ro ns)) : EvI K (iList K tl) ρ (ns.map D.int) := fun S H σ e v R q =>
  h S H σ e v _ fun w S1 H1 x1 r1 => by
    cases r1 with
    | ro ha => exact ⟨_, rfl, ⟨_, Evl.ex_l x1.sub ha⟩, q _ S1 H1 x1 (walks_ro ha)⟩
theorem walks_tup {S : Hp} {a : Addr} {xs : List V} {ds : List D} (h : S a = some (.tup xs)) (r : RdL K S xs ds) : Walks K (Itt K a) S ds where
  go := fun S' H' i e1 e2 hi => by
    have hx : i < xs.length := by rw [r.length]; exact hi
    exact ⟨xs, xs[i], Evl.st_of (e2 _ _ (e1 _ _ h)), List.getElem?_eq_getElem hx⟩
  yld := fun S' H' i x H'' d e1 e2 hd y => by
    obtain ⟨rfl, y⟩ := y
    obtain ⟨v, h1, h2⟩ := r.get hd
    have := y xs (Evl.st_of (e2 _ _ (e1 _ _ h)))
    rw [h1] at this
    cases this
    exact ⟨S', Ext.refl e2, h2.mono e1⟩
  stop := fun S' H' e1 e2 => ⟨xs, Evl.st_of (e2 _ _ (e1 _ _ h)), by rw [r.length]; exact Nat.le_refl _⟩
theorem ei_tup {tl : TE} {ds : List D} (h : EvD K tl ρ (.tup ds)) : EvI K (iTup K tl) ρ ds := fun S H σ e v R q =>
  h S H σ e v _ fun w S1 H1 x1 r1 => by
    cases r1 with
    | tup ha rl => exact ⟨_, rfl, ⟨_, Evl.st_of (x1.sub _ _ ha)⟩, q _ S1 H1 x1 (walks_tup ha rl)⟩
/-- lo, lo + c, .. -/
def rngD (lo : Int) (n : Nat) (c : Int) : List D := (List.range n).map fun i : Nat => .int (lo + (i : Int) * c)
theorem rngD_len (lo : Int) (n : Nat) (c : Int) : (rngD lo n c).length = n := by simp [rngD]
theorem rngD_get {lo : Int} {n : Nat} {c : Int} {i : Nat} {d : D} (h : (rngD lo n c)[i]? = some d) : i < n ∧ d = .int (lo + (i : Int) * c) := by
  have hi : i < n := by
    have := (List.getElem?_eq_some_iff.mp h).1
    rw [rngD_len] at this
    exact this
  refine ⟨hi, ?_⟩
  unfold rngD at h
  rw [List.getElem?_map, List.getElem?_range hi] at h
  exact (Option.some.inj h).symm
theorem walks_rng {S : Hp} {lo : Int} {n : Nat} : Walks K (Itr lo n) S (rngD lo n 1) where
  go := fun S' H' i _ _ hi => by rw [rngD_len] at hi; exact hi
  yld := fun S' H' i x H'' d e1 e2 hd y => by
    obtain ⟨rfl, rfl⟩ := y
    obtain ⟨_, rfl⟩ := rngD_get hd
    rw [Int.mul_one]
    exact ⟨S', Ext.refl e2, .int _⟩
  stop := fun S' H' _ _ => by rw [rngD_len]; exact Nat.le_refl _
theorem ei_rng1 {j : Int} (h : EvA K tA ρ [.int j]) (hj : -100000 ≤ j ∧ j ≤ 100000) : EvI K (iRng1 tA) ρ (rngD 0 j.toNat 1) := fun S H σ e v R q =>
  h S H σ e v _ fun ws S1 H1 x1 r1 => by
    cases r1 with
    | cons h1 t1 =>
      cases t1
      cases h1
      exact ⟨j, rfl, by omega, by omega, q _ S1 H1 x1 walks_rng⟩
theorem ei_rng2 {i j : Int} (h : EvA K tA ρ [.int i, .int j]) (hj : -100000 ≤ i ∧ i ≤ 100000 ∧ -100000 ≤ j ∧ j ≤ 100000) : EvI K (iRng2 tA) ρ (rngD i (j - i).toNat 1) := fun S H σ e v R q =>
  h S H σ e v _ fun ws S1 H1 x1 r1 => by
    cases r1 with
    | cons h1 t1 =>
      cases t1 with
      | cons h2 t2 =>
        cases t2
        cases h1
        cases h2
        exact ⟨i, j, rfl, by omega, q _ S1 H1 x1 walks_rng⟩
theorem walks_rngC {S : Hp} {lo c : Int} {n : Nat} : Walks K (Itc lo c n) S (rngD lo n c) where
  go := fun S' H' i _ _ hi => by rw [rngD_len] at hi; exact hi
  yld := fun S' H' i x H'' d e1 e2 hd y => by
    obtain ⟨rfl, rfl⟩ := y
    obtain ⟨_, rfl⟩ := rngD_get hd
    exact ⟨S', Ext.refl e2, .int _⟩
  stop := fun S' H' _ _ => by rw [rngD_len]; exact Nat.le_refl _
theorem ei_rng3 {i j c : Int} {n : Nat} (h : EvA K tA ρ [.int i, .int j, .int c]) (hj : RgC i j c n) : EvI K (iRng3 tA) ρ (rngD i n c) := fun S H σ e v R q =>
  h S H σ e v _ fun ws S1 H1 x1 r1 => by
    cases r1 with
    | cons h1 t1 =>
      cases t1 with
      | cons h2 t2 =>
        cases t2 with
        | cons h3 t3 =>
          cases t3
          cases h1
          cases h2
          cases h3
          exact ⟨i, j, c, n, rfl, hj, q _ S1 H1 x1 walks_rngC⟩
/-- enumerate -/
def enumD (ds : List D) : List D := (List.range ds.length).map fun i : Nat => .tup [.int (i : Int), ds.getD i .non]
theorem enumD_len (ds : List D) : (enumD ds).length = ds.length := by simp [enumD]
theorem enumD_get {ds : List D} {i : Nat} {d : D} (h : (enumD ds)[i]? = some d) : ∃ x, ds[i]? = some x ∧ d = .tup [.int (i : Int), x] := by
  have hi : i < ds.length := by
    have := (List.getElem?_eq_some_iff.mp h).1
    rw [enumD_len] at this
    exact this
  refine ⟨ds[i], List.getElem?_eq_getElem hi, ?_⟩
  unfold enumD at h
  rw [List.getElem?_map, List.getElem?_range hi] at h
  have := (Option.some.inj h).symm
  rw [this]
  simp [hi]
theorem walks_enum {S : Hp} {a : Addr} {xs : List V} {ds : List D} (h : S a = some (.lst xs)) (r : RdL K S xs ds) : Walks K (Ite K a) S (enumD ds) where
  go := fun S' H' i e1 e2 hi => by
    have hx : i < xs.length := by rw [r.length]; rw [enumD_len] at hi; exact hi
    exact ⟨xs, xs[i], Evl.sq_of (e2 _ _ (e1 _ _ h)), List.getElem?_eq_getElem hx⟩
  yld := fun S' H' i x H'' d e1 e2 hd y => by
    obtain ⟨T, w, rfl, hT, rfl, y⟩ := y
    obtain ⟨z, hz, rfl⟩ := enumD_get hd
    obtain ⟨v, h1, h2⟩ := r.get hz
    have := y xs (Evl.sq_of (e2 _ _ (e1 _ _ h)))
    rw [h1] at this
    cases this
    exact ⟨_, Ext.new e2 hT, .tup upd_same (.cons (.int _) (.cons (h2.mono (e1.trans (Ex.new (sub_none e2 hT)))) .nil))⟩
  stop := fun S' H' e1 e2 => ⟨xs, Evl.sq_of (e2 _ _ (e1 _ _ h)), by rw [enumD_len, r.length]; exact Nat.le_refl _⟩
theorem ei_enum {ds : List D} (h : EvA K tA ρ [.lst ds]) : EvI K (iEnum K tA) ρ (enumD ds) := fun S H σ e v R q =>
  h S H σ e v _ fun ws S1 H1 x1 r1 => by
    cases r1 with
    | cons h1 t1 =>
      cases t1
      cases h1 with
      | lst ha rl => exact ⟨_, _, rfl, Evl.sq_of (x1.sub _ _ ha), q _ S1 H1 x1 (walks_enum ha rl)⟩
/-! ### targets -/
theorem eg_name {i : Nat} {d : D} : EvG K (gName i) d [(i, d)] := fun S H σ v e r Q q => q [v] (.cons r .nil)
theorem setV_append : ∀ {is js : List Nat} {vs ws : List V} {σ : L2.St}, vs.length = is.length → setV (setV σ is vs) js ws = setV σ (is ++ js) (vs ++ ws)
  | [], _, [], _, _, _ => by simp [setV]
  | i :: is, js, v :: vs, ws, σ, h => by
    show setV (setV (σ.set i (some v)) is vs) js ws = setV (σ.set i (some v)) (is ++ js) (vs ++ ws)
    exact setV_append (by simpa using h)
theorem egs_nil : EvGs K gNil [] [] := fun S H σ vs e r Q q => by
  cases r
  exact ⟨rfl, q [] .nil⟩
theorem egs_cons {g : TG} {gs : TGs} {d : D} {ds : List D} {ps qs : List (Nat × D)} (h : EvG K g d ps) (hs : EvGs K gs ds qs) : EvGs K (gCons g gs) (d :: ds) (ps ++ qs) := fun S H σ vs e r Q q => by
  cases r with
  | cons r1 r2 =>
    refine ⟨_, _, rfl, h S H σ _ e r1 _ fun ws rw1 => hs S H _ _ e r2 _ fun us ru => ?_⟩
    have := q (ws ++ us) (by rw [List.map_append]; exact rw1.append ru)
    rw [setV_append (by rw [rw1.length, List.length_map, List.length_map]), ← List.map_append]
    exact this
theorem eg_tup {n : Nat} {gs : TGs} {ds : List D} {ps : List (Nat × D)} (h : EvGs K gs ds ps) (hn : ds.length = n) : EvG K (gTup K n gs) (.tup ds) ps := fun S H σ v e r Q q => by
  cases r with
  | tup ha rl => exact ⟨_, _, rfl, Evl.st_of (e _ _ ha), by rw [rl.length]; exact hn, h S H σ _ e rl Q q⟩
theorem EvG.to {g : TG} {d : D} {ps qs : List (Nat × D)} (h : EvG K g d ps) (e : ps = qs) : EvG K g d qs := e ▸ h

/-! ### list comprehensions -/
theorem evF_lc {wi : TI} {g : TG} {tt : TT} {te : TE} {vs : List Nat} {ds : List D} (hi : EvI K wi ρ ds) (ps : D → List (Nat × D)) (f : D → Bool) (e : D → D) (hg : ∀ d ∈ ds, EvG K g d (ps d)) (hs : ∀ d ∈ ds, ∀ p ∈ ps d, p.1 ∈ vs)
    (ht : ∀ d ∈ ds, EvT K tt (setR (wipeR ρ vs) (ps d)) (f d)) (he : ∀ d ∈ ds, f d = true → EvD K te (setR (wipeR ρ vs) (ps d)) (e d)) (hl : ds.length ≤ 50000) : EvF K (tLc wi g tt te vs) ρ ((ds.filter f).map e) := fun S H σ ee v Q q =>
  hi S H σ ee v _ fun J S1 H1 x1 wk => fun Dl hD => by
    refine ⟨fun i m H' => m = ds.length - i ∧ i ≤ ds.length ∧ ∃ S' us, Ext S1 H1 S' H' ∧ S' Dl = none ∧ H' Dl = some (.lst us) ∧ RdL K S' us (((ds.take i).filter f).map e),
      ⟨ds.length, by simp, Nat.zero_le _, S1, [], Ext.hid x1.sub hD, sub_none x1.sub hD, upd_same, .nil⟩, ?_⟩
    rintro i m H' ⟨rfl, hi, S', us, x, nS, hus, rl⟩
    by_cases hlt : i < ds.length
    · refine .inr ⟨wk.go S' H' i x.s x.sub hlt, fun H2 => ∃ S2 us2, Ext S1 H1 S2 H2 ∧ S2 Dl = none ∧ H2 Dl = some (.lst us2) ∧ RdL K S2 us2 (((ds.take (i + 1)).filter f).map e), fun H2 z => ⟨ds.length - (i + 1), by omega, rfl, hlt, z⟩, fun xv H'' y => ?_⟩
      have hd : ds[i]? = some ds[i] := List.getElem?_eq_getElem hlt
      have hm : ds[i] ∈ ds := List.getElem_mem hlt
      obtain ⟨S2, x2, r2⟩ := wk.yld S' H' i xv H'' ds[i] x.s x.sub hd y
      have tk : ds.take (i + 1) = ds.take i ++ [ds[i]] := (List.take_append_getElem hlt).symm
      refine hg _ hm S2 H'' _ xv x2.sub r2 _ fun ws rws => ⟨?_, ?_⟩
      · rw [wipe_setV fun j hj => by
          obtain ⟨p, hp, rfl⟩ := List.mem_map.mp hj
          exact hs _ hm p hp, wipe_wipe]
      · have ev : Env K S2 (setV (L2.wipe σ vs) ((ps ds[i]).map (·.1)) ws) (setR (wipeR ρ vs) (ps ds[i])) := (((v.mono ((x1.s.trans x.s).trans x2.s)).wipe vs)).setV rws
        have nl : ∀ {S3 H3 : Hp}, Ext S2 H'' S3 H3 → S3 Dl = none := fun x3 => x3.dis Dl (x2.dis Dl nS (by rw [hus]; exact fun z => nomatch z)) (by rw [x2.h Dl _ hus]; exact fun z => nomatch z)
        refine ht _ hm S2 H'' _ x2.sub ev _ fun S3 H3 x3 => ?_
        cases hf : f ds[i] with
        | false =>
          refine ⟨S3, us, (x.trans x2).trans x3, nl x3, (x2.trans x3).h _ _ hus, ?_⟩
          rw [tk, List.filter_append, List.filter_cons, hf]
          simp only [Bool.false_eq_true, if_false, List.filter_nil, List.append_nil]
          exact rl.mono (x2.trans x3).s
        | true =>
          refine he _ hm hf S3 H3 _ x3.sub (ev.mono x3.s) _ fun yv S4 H4 x4 r4 => ?_
          have hu4 := (x2.trans (x3.trans x4)).h _ _ hus
          have n4 := nl (x3.trans x4)
          have ul : us.length ≤ ds.length := by
            rw [rl.length, List.length_map]
            exact Nat.le_trans (List.length_filter_le _ _) (by rw [List.length_take]; omega)
          refine ⟨us, hu4, Evl.sz_lt (by omega), S4, us ++ [yv], ?_, n4, upd_same, ?_⟩
          · have xx := (x.trans x2).trans (x3.trans x4)
            refine ⟨xx.s, fun a o ha => ?_, fun a o ha => ?_, xx.dis⟩
            · rw [upd_ne (ne_of_none ha hD)]
              exact xx.h a o ha
            · rw [upd_ne (fun z => by rw [z, n4] at ha; cases ha)]
              exact xx.sub a o ha
          · rw [tk, List.filter_append, List.filter_cons, hf]
            simp only [if_true, List.filter_nil]
            rw [List.map_append]
            exact (rl.mono (x2.trans (x3.trans x4)).s).append (.cons r4 .nil)
    · have e0 : i = ds.length := by omega
      subst e0
      rw [List.take_length] at rl
      exact .inl ⟨wk.stop S' H' x.s x.sub, q Dl us S' H' (x1.trans x) (Evl.fresh_back x1.h hD) nS hus rl⟩
end
end Pl

/-! Values as plain data: statements. A slot holds a datum (k), a list that is this def's own and may grow (o), or nothing that is known (u). -/
namespace Pl
open PySem PySem.Spec PyProof.Rows L2
open Evl (Ex)

section
variable (K : PySem.W.Frag)
structure Stt (S0 H0 : Hp) (ρ : Rho) (S H : Hp) (σ : L2.St) : Prop where
  ext : Ext S0 H0 S H
  env : Env K S σ ρ
  own : ∀ (i : Nat) (ds : List D), ρ[i]? = some (.o ds) → ∃ p vs, σ[i]? = some (some (.ref p)) ∧ H0 p = none ∧ S p = none ∧ H p = some (.lst vs) ∧ RdL K S vs ds
  apart : ∀ (i j : Nat) (ds es : List D) (p : Addr), ρ[i]? = some (.o ds) → ρ[j]? = some (.o es) → σ[i]? = some (some (.ref p)) → σ[j]? = some (some (.ref p)) → i = j
structure FE where
  nx : Rho → Prop := fun _ => False
  rt : D → Prop := fun _ => False
  rf : List D → Prop := fun _ => False
  bk : Rho → Prop := fun _ => False
  ct : Rho → Prop := fun _ => False
structure Acc (S0 H0 S : Hp) (F : FE) (Dd : Ends) : Prop where
  nx : ∀ ρ S' H' σ, F.nx ρ → Ex S S' → Stt K S0 H0 ρ S' H' σ → Dd.nx σ H'
  bk : ∀ ρ S' H' σ, F.bk ρ → Ex S S' → Stt K S0 H0 ρ S' H' σ → Dd.bk σ H'
  ct : ∀ ρ S' H' σ, F.ct ρ → Ex S S' → Stt K S0 H0 ρ S' H' σ → Dd.ct σ H'
  rt : ∀ d v S' H', F.rt d → Ext S0 H0 S' H' → Rd K S' v d → Dd.rt v H'
  rf : ∀ es p vs S' H', F.rf es → Ext S0 H0 S' H' → H0 p = none → S' p = none → H' p = some (.lst vs) → RdL K S' vs es → Dd.rt (.ref p) H'
/-- from slots ρ the statement comes to one of the ends F -/
def T (t : TS) (ρ : Rho) (F : FE) : Prop := ∀ S0 H0 S H σ Dd, Stt K S0 H0 ρ S H σ → Acc K S0 H0 S F Dd → t Dd σ H
end

section
variable {K : PySem.W.Frag} {S0 H0 S H S' H' : Hp} {σ : L2.St} {ρ ρ' : Rho} {F G : FE} {t u : TS} {te : TE} {d : D} {es ds : List D} {Dd : Ends} {i : Nat}
theorem Acc.mono (e : Ex S S') (a : Acc K S0 H0 S F Dd) : Acc K S0 H0 S' F Dd :=
  ⟨fun ρ S2 H2 σ h x s => a.nx ρ S2 H2 σ h (e.trans x) s, fun ρ S2 H2 σ h x s => a.bk ρ S2 H2 σ h (e.trans x) s, fun ρ S2 H2 σ h x s => a.ct ρ S2 H2 σ h (e.trans x) s, a.rt, a.rf⟩
/-- further on, all slots as they are -/
theorem Stt.go (s : Stt K S0 H0 ρ S H σ) (x : Ext S H S' H') : Stt K S0 H0 ρ S' H' σ where
  ext := s.ext.trans x
  env := s.env.mono x.s
  own := fun i ds h => by
    obtain ⟨p, vs, h1, h2, h3, h4, h5⟩ := s.own i ds h
    exact ⟨p, vs, h1, h2, x.dis p h3 (by rw [h4]; exact fun z => nomatch z), x.h _ _ h4, h5.mono x.s⟩
  apart := s.apart
theorem get_set {α : Type} {l : List α} {i j : Nat} {a b : α} (h : (l.set i a)[j]? = some b) : (i = j ∧ i < l.length ∧ a = b) ∨ (i ≠ j ∧ l[j]? = some b) := by
  by_cases hj : i = j
  · subst hj
    by_cases hl : i < l.length
    · rw [List.getElem?_set_self hl] at h
      exact .inl ⟨rfl, hl, Option.some.inj h⟩
    · rw [List.getElem?_eq_none (by rw [List.length_set]; omega)] at h
      cases h
  · rw [List.getElem?_set_ne hj] at h
    exact .inr ⟨hj, h⟩
theorem Stt.set {v : V} (s : Stt K S0 H0 ρ S H σ) (r : Rd K S v d) : Stt K S0 H0 (ρ.set i (.k d)) S H (σ.set i (some v)) where
  ext := s.ext
  env := s.env.set r
  own := fun j ds h => by
    rcases get_set h with ⟨_, _, e⟩ | ⟨hj, h⟩
    · cases e
    · rw [List.getElem?_set_ne hj]
      exact s.own j ds h
  apart := fun j k ds es p h1 h2 e1 e2 => by
    rcases get_set h1 with ⟨_, _, e⟩ | ⟨hj, h1⟩
    · cases e
    · rcases get_set h2 with ⟨_, _, e⟩ | ⟨hk, h2⟩
      · cases e
      · rw [List.getElem?_set_ne hj] at e1
        rw [List.getElem?_set_ne hk] at e2
        exact s.apart j k ds es p h1 h2 e1 e2
theorem Stt.setV : ∀ {ps : List (Nat × D)} {vs : List V} {σ : L2.St} {ρ : Rho}, Stt K S0 H0 ρ S H σ → RdL K S vs (ps.map (·.2)) → Stt K S0 H0 (setR ρ ps) S H (Pl.setV σ (ps.map (·.1)) vs)
  | [], _, _, _, s, .nil => s
  | p :: ps, _, _, _, s, .cons h r => Stt.setV (ps := ps) (s.set h) r
theorem Stt.setO {p : Addr} {vs : List V} (s : Stt K S0 H0 ρ S H σ) (h0 : H0 p = none) (n : S p = none) (h : H p = some (.lst vs)) (r : RdL K S vs es)
    (new : ∀ j ds, j ≠ i → ρ[j]? = some (.o ds) → σ[j]? ≠ some (some (.ref p))) : Stt K S0 H0 (ρ.set i (.o es)) S H (σ.set i (some (.ref p))) where
  ext := s.ext
  env := ⟨by rw [List.length_set, List.length_set, s.env.len], fun j x h => by
    rcases get_set h with ⟨_, _, e⟩ | ⟨hj, h⟩
    · cases e
    · rw [List.getElem?_set_ne hj]
      exact s.env.val j x h⟩
  own := fun j ds hh => by
    rcases get_set hh with ⟨rfl, hl, e⟩ | ⟨hj, hh⟩
    · cases e
      exact ⟨p, vs, List.getElem?_set_self (by rw [s.env.len]; exact hl), h0, n, h, r⟩
    · rw [List.getElem?_set_ne hj]
      exact s.own j ds hh
  apart := fun j k ds es' q h1 h2 e1 e2 => by
    rcases get_set h1 with ⟨rfl, hl, e⟩ | ⟨hj, h1⟩
    · rcases get_set h2 with ⟨rfl, _, _⟩ | ⟨hk, h2⟩
      · rfl
      · rw [List.getElem?_set_self (by rw [s.env.len]; exact hl)] at e1
        cases e1
        rw [List.getElem?_set_ne hk] at e2
        exact absurd e2 (new k _ (Ne.symm hk) h2)
    · rw [List.getElem?_set_ne hj] at e1
      rcases get_set h2 with ⟨rfl, hl, e⟩ | ⟨hk, h2⟩
      · rw [List.getElem?_set_self (by rw [s.env.len]; exact hl)] at e2
        cases e2
        exact absurd e1 (new j _ (Ne.symm hj) h1)
      · rw [List.getElem?_set_ne hk] at e2
        exact s.apart j k ds es' q h1 h2 e1 e2
/-- a list that is no more changed -/
theorem Stt.freeze (s : Stt K S0 H0 ρ S H σ) (h : ρ[i]? = some (.o ds)) : ∃ S', Ex S S' ∧ Stt K S0 H0 (ρ.set i (.k (.lst ds))) S' H σ := by
  obtain ⟨p, vs, h1, h2, h3, h4, h5⟩ := s.own i ds h
  have x : Ext S0 H0 (upd S p (.lst vs)) H := s.ext.tell h3 h2 h4
  have e : Ex S (upd S p (.lst vs)) := Ex.new h3
  refine ⟨_, e, x, ⟨by rw [List.length_set, s.env.len], fun j y hh => ?_⟩, fun j es hh => ?_, fun j k a b q e1 e2 e3 e4 => ?_⟩
  · rcases get_set hh with ⟨rfl, _, e'⟩ | ⟨_, hh⟩
    · cases e'
      exact ⟨_, h1, .lst upd_same (h5.mono e)⟩
    · obtain ⟨w, w1, w2⟩ := s.env.val j y hh
      exact ⟨w, w1, w2.mono e⟩
  · rcases get_set hh with ⟨_, _, e'⟩ | ⟨hj, hh⟩
    · cases e'
    · obtain ⟨q, us, g1, g2, g3, g4, g5⟩ := s.own j es hh
      refine ⟨q, us, g1, g2, ?_, g4, g5.mono e⟩
      have nq : q ≠ p := fun z => hj (s.apart i j ds es p h hh h1 (by rw [← z]; exact g1))
      rw [upd_ne nq]
      exact g3
  · rcases get_set e1 with ⟨_, _, e'⟩ | ⟨_, e1⟩
    · cases e'
    · rcases get_set e2 with ⟨_, _, e'⟩ | ⟨_, e2⟩
      · cases e'
      · exact s.apart j k a b q e1 e2 e3 e4
/-! ### rules -/
theorem T.freeze (h : ρ[i]? = some (.o ds)) (k : T K t (ρ.set i (.k (.lst ds))) F) : T K t ρ F := fun S0 H0 S H σ Dd s a => by
  obtain ⟨S', e, s'⟩ := s.freeze h
  exact k S0 H0 S' H σ Dd s' (a.mono e)
theorem T.weak (k : T K t ρ F) (n : ∀ ρ, F.nx ρ → G.nx ρ) (r : ∀ d, F.rt d → G.rt d) (f : ∀ d, F.rf d → G.rf d) (b : ∀ ρ, F.bk ρ → G.bk ρ) (c : ∀ ρ, F.ct ρ → G.ct ρ) : T K t ρ G := fun S0 H0 S H σ Dd s a =>
  k S0 H0 S H σ Dd s ⟨fun ρ S' H' σ h => a.nx ρ S' H' σ (n ρ h), fun ρ S' H' σ h => a.bk ρ S' H' σ (b ρ h), fun ρ S' H' σ h => a.ct ρ S' H' σ (c ρ h), fun d v S' H' h => a.rt d v S' H' (r d h), fun es p vs S' H' h => a.rf es p vs S' H' (f es h)⟩
theorem T.seqP {N : Rho → Prop} (h : T K t ρ { F with nx := N }) (k : ∀ ρ', N ρ' → T K u ρ' F) : T K (tSeq t u) ρ F := fun S0 H0 S H σ Dd s a =>
  h S0 H0 S H σ { Dd with nx := u Dd } s ⟨fun ρ' S' H' σ' n e s' => k ρ' n S0 H0 S' H' σ' Dd s' (a.mono e), a.bk, a.ct, a.rt, a.rf⟩
theorem T.seq {ρ1 : Rho} (h : T K t ρ { F with nx := fun r => r = ρ1 }) (k : T K u ρ1 F) : T K (tSeq t u) ρ F := T.seqP h fun _ e => e ▸ k
theorem T.next (h : F.nx ρ) : T K tNext ρ F := fun S0 H0 S H σ Dd s a => a.nx ρ S H σ h (Ex.refl S) s
theorem T.brk (h : F.bk ρ) : T K tBreak ρ F := fun S0 H0 S H σ Dd s a => a.bk ρ S H σ h (Ex.refl S) s
theorem T.cont (h : F.ct ρ) : T K tCont ρ F := fun S0 H0 S H σ Dd s a => a.ct ρ S H σ h (Ex.refl S) s
theorem T.asgG {g : TG} {ps : List (Nat × D)} (h : EvD K te ρ d) (hg : EvG K g d ps) (k : F.nx (setR ρ ps)) : T K (tAsg te g) ρ F := fun S0 H0 S H σ Dd s a =>
  h S H σ s.ext.sub s.env _ fun v S' H' x r => hg S' H' σ v x.sub r _ fun vs rv => a.nx _ S' H' _ k x.s ((s.go x).setV rv)
theorem T.asg (h : EvD K te ρ d) (k : F.nx (ρ.set i (.k d))) : T K (tAsg te (gName i)) ρ F := T.asgG h eg_name k
theorem T.asgF (h : EvF K te ρ es) (k : F.nx (ρ.set i (.o es))) : T K (tAsg te (gName i)) ρ F := fun S0 H0 S H σ Dd s a =>
  h S H σ s.ext.sub s.env _ fun p vs S' H' x hp sp h' r => a.nx _ S' H' _ k x.s ((s.go x).setO (Evl.fresh_back s.ext.h hp) sp h' r fun j ds _ hh e => by
    obtain ⟨q, us, g1, g2, g3, g4, g5⟩ := s.own j ds hh
    rw [g1] at e
    cases e
    rw [hp] at g4
    cases g4)
theorem T.drop (h : EvD K te ρ d) (k : F.nx ρ) : T K (tDrop te) ρ F := fun S0 H0 S H σ Dd s a =>
  h S H σ s.ext.sub s.env _ fun v S' H' x r => a.nx _ S' H' _ k x.s (s.go x)
theorem T.ret (h : EvD K te ρ d) (k : F.rt d) : T K (tRet te) ρ F := fun S0 H0 S H σ Dd s a =>
  h S H σ s.ext.sub s.env _ fun v S' H' x r => a.rt d v S' H' k (s.ext.trans x) r
theorem T.retN (k : F.rt .non) : T K tRetN ρ F := fun S0 H0 S H σ Dd s a => a.rt .non .non S H k s.ext .non
theorem T.retF (h : EvF K te ρ es) (k : F.rf es) : T K (tRet te) ρ F := fun S0 H0 S H σ Dd s a =>
  h S H σ s.ext.sub s.env _ fun p vs S' H' x hp sp h' r => a.rf es p vs S' H' k (s.ext.trans x) (Evl.fresh_back s.ext.h hp) sp h' r
theorem T.retO (h : ρ[i]? = some (.o es)) (k : F.rf es) : T K (tRet (tVar i)) ρ F := fun S0 H0 S H σ Dd s a => by
  obtain ⟨p, vs, h1, h2, h3, h4, h5⟩ := s.own i es h
  exact ⟨_, h1, a.rf es p vs S H k s.ext h2 h3 h4 h5⟩
theorem T.ifS {c : TT} {b : Bool} (h : EvT K c ρ b) (h1 : b = true → T K t ρ F) (h2 : b = false → T K u ρ F) : T K (tIfS c t u) ρ F := fun S0 H0 S H σ Dd s a =>
  h S H σ s.ext.sub s.env _ fun S' H' x => by
    cases b with
    | true =>
      show t Dd σ H'
      exact h1 rfl S0 H0 S' H' σ Dd (s.go x) (a.mono x.s)
    | false =>
      show u Dd σ H'
      exact h2 rfl S0 H0 S' H' σ Dd (s.go x) (a.mono x.s)
/-- for: the word by the turn and the slots -/
theorem T.for {wi : TI} {g : TG} (hi : EvI K wi ρ ds) (Pv : Nat → Rho → Prop) (h0 : Pv 0 ρ) (hs : ∀ (i : Nat) (d : D) (ρ' : Rho), ds[i]? = some d → Pv i ρ' → ∃ ps, EvG K g d ps ∧ T K t (setR ρ' ps) { F with nx := Pv (i + 1), ct := Pv (i + 1), bk := F.nx })
    (hd : ∀ ρ', Pv ds.length ρ' → F.nx ρ') : T K (tFor wi g t) ρ F := fun S0 H0 S H σ Dd s a =>
  hi S H σ s.ext.sub s.env _ fun J S1 H1 x1 wk => by
    refine ⟨fun i m σ' H' => m = ds.length - i ∧ i ≤ ds.length ∧ ∃ ρ' S', Pv i ρ' ∧ Ex S1 S' ∧ Stt K S0 H0 ρ' S' H' σ', ⟨ds.length, by simp, Nat.zero_le _, ρ, S1, h0, Ex.refl S1, s.go x1⟩, ?_⟩
    rintro i m σ' H' ⟨rfl, hi, ρ', S', p, e, s'⟩
    by_cases hlt : i < ds.length
    · have hdd : ds[i]? = some ds[i] := List.getElem?_eq_getElem hlt
      obtain ⟨ps, hg, ht⟩ := hs i ds[i] ρ' hdd p
      refine .inr ⟨wk.go S' H' i e s'.ext.sub hlt, fun σ2 H2 => ∃ ρ2 S2, Pv (i + 1) ρ2 ∧ Ex S1 S2 ∧ Stt K S0 H0 ρ2 S2 H2 σ2, fun σ2 H2 z => ⟨ds.length - (i + 1), by omega, rfl, hlt, z⟩, fun xv H'' y => ?_⟩
      obtain ⟨S2, x2, r2⟩ := wk.yld S' H' i xv H'' ds[i] e s'.ext.sub hdd y
      refine hg S2 H'' σ' xv x2.sub r2 _ fun ws rw => ?_
      have e2 : Ex S1 S2 := e.trans x2.s
      refine ht S0 H0 S2 H'' _ _ ((s'.go x2).setV rw) ⟨fun ρ3 S3 H3 σ3 n e3 s3 => ⟨ρ3, S3, n, e2.trans e3, s3⟩, fun ρ3 S3 H3 σ3 n e3 s3 => a.nx ρ3 S3 H3 σ3 n ((x1.s.trans e2).trans e3) s3, fun ρ3 S3 H3 σ3 n e3 s3 => ⟨ρ3, S3, n, e2.trans e3, s3⟩, a.rt, a.rf⟩
    · have e0 : i = ds.length := by omega
      subst e0
      exact .inl ⟨wk.stop S' H' e s'.ext.sub, a.nx ρ' S' H' σ' (hd ρ' p) (x1.s.trans e) s'⟩
theorem T.while {c : TT} (Pv : Nat → Rho → Prop) {m0 : Nat} (h0 : Pv m0 ρ) (hs : ∀ (m : Nat) (ρ' : Rho), Pv m ρ' → ∃ b, EvT K c ρ' b ∧ (b = true → T K t ρ' { F with nx := fun r => ∃ m', m' < m ∧ Pv m' r, ct := fun r => ∃ m', m' < m ∧ Pv m' r, bk := F.nx }) ∧ (b = false → F.nx ρ')) :
    T K (tWhile c t) ρ F := fun S0 H0 S H σ Dd s a => by
  refine ⟨fun m σ' H' => ∃ ρ' S', Pv m ρ' ∧ Ex S S' ∧ Stt K S0 H0 ρ' S' H' σ', ⟨m0, ρ, S, h0, Ex.refl S, s⟩, ?_⟩
  rintro m σ' H' ⟨ρ', S', p, e, s'⟩
  obtain ⟨b, hb, h1, h2⟩ := hs m ρ' p
  refine hb S' H' σ' s'.ext.sub s'.env _ fun S2 H2 x2 => ?_
  cases b with
  | true =>
    refine ⟨fun σ3 H3 => ∃ m', m' < m ∧ ∃ ρ3 S3, Pv m' ρ3 ∧ Ex S S3 ∧ Stt K S0 H0 ρ3 S3 H3 σ3, fun σ3 H3 z => z, ?_⟩
    have e2 := e.trans x2.s
    exact h1 rfl S0 H0 S2 H2 σ' _ (s'.go x2) ⟨fun ρ3 S3 H3 σ3 ⟨m', l, n⟩ e3 s3 => ⟨m', l, ρ3, S3, n, e2.trans e3, s3⟩, fun ρ3 S3 H3 σ3 n e3 s3 => a.nx ρ3 S3 H3 σ3 n (e2.trans e3) s3, fun ρ3 S3 H3 σ3 ⟨m', l, n⟩ e3 s3 => ⟨m', l, ρ3, S3, n, e2.trans e3, s3⟩, a.rt, a.rf⟩
  | false => exact a.nx ρ' S2 H2 σ' (h2 rfl) (e.trans x2.s) (s'.go x2)
/-! ### own lists -/
/-- own list at slot i gets the content es -/
theorem Stt.put {p : Addr} {vs ws : List V} (s : Stt K S0 H0 ρ S H σ) (h : ρ[i]? = some (.o ds)) (hp : σ[i]? = some (some (.ref p))) (r : RdL K S ws es) : Stt K S0 H0 (ρ.set i (.o es)) S (upd H p (.lst ws)) σ := by
  obtain ⟨q, us, h1, h2, h3, h4, h5⟩ := s.own i ds h
  rw [hp] at h1
  cases h1
  have hi : i < ρ.length := (List.getElem?_eq_some_iff.mp h).1
  have nx : ∀ {a : Addr} {o : HO}, S a = some o → a ≠ p := fun e z => by rw [z, h3] at e; cases e
  refine ⟨⟨s.ext.s, fun a o e => ?_, fun a o e => ?_, s.ext.dis⟩, ⟨by rw [List.length_set, s.env.len], fun j y hh => ?_⟩, fun j fs hh => ?_, fun j k a b q e1 e2 e3 e4 => ?_⟩
  · rw [upd_ne fun z => by rw [z, h2] at e; cases e]
    exact s.ext.h a o e
  · rw [upd_ne (nx e)]
    exact s.ext.sub a o e
  · rcases get_set hh with ⟨_, _, e'⟩ | ⟨_, hh⟩
    · cases e'
    · exact s.env.val j y hh
  · rcases get_set hh with ⟨rfl, _, e'⟩ | ⟨hj, hh⟩
    · cases e'
      exact ⟨p, ws, hp, h2, h3, upd_same, r⟩
    · obtain ⟨q, us', g1, g2, g3, g4, g5⟩ := s.own j fs hh
      refine ⟨q, us', g1, g2, g3, ?_, g5⟩
      have nq : q ≠ p := fun z => hj (s.apart i j ds fs p h hh hp (by rw [← z]; exact g1))
      rw [upd_ne nq]
      exact g4
  · have z : ∀ {j : Nat} {a : List D}, (ρ.set i (.o es))[j]? = some (.o a) → ∃ a', ρ[j]? = some (.o a') := fun {j a} e => by
      rcases get_set e with ⟨rfl, _, _⟩ | ⟨_, e⟩
      · exact ⟨ds, h⟩
      · exact ⟨a, e⟩
    obtain ⟨a', e1'⟩ := z e1
    obtain ⟨b', e2'⟩ := z e2
    exact s.apart j k a' b' q e1' e2' e3 e4
theorem T.append (h : ρ[i]? = some (.o ds)) (he : EvD K te ρ d) (hl : ds.length < 100000) (k : F.nx (ρ.set i (.o (ds ++ [d])))) : T K (tDrop (tBM K "list" rAppend (tVar i) (tCons te tNil))) ρ F := fun S0 H0 S H σ Dd s a => by
  obtain ⟨p, vs, h1, h2, h3, h4, h5⟩ := s.own i ds h
  refine ⟨_, h1, .inl ⟨rfl, _, Evl.sq_of h4⟩, ?_⟩
  refine he S H σ s.ext.sub s.env _ fun v S' H' x r => ?_
  have s' := s.go x
  refine ⟨p, vs, v, rfl, rfl, x.h _ _ h4, Evl.sz_lt (by rw [h5.length]; exact hl), ?_⟩
  exact a.nx _ S' _ σ k x.s (s'.put (vs := vs) h h1 ((h5.mono x.s).append (.cons r .nil)))
/-! ### a look at own lists: all that is told is flat -/
def Sl.see : Sl → Sl
  | .o ds => .k (.lst ds)
  | s => s
def see (ρ : Rho) : Rho := ρ.map Sl.see
def D.flat : D → Bool
  | .non => true | .bl _ => true | .int _ => true | .str _ => true | .adr _ => true | .ty _ => true
  | _ => false
theorem Rd.flat {v : V} {S2 : Hp} (h : Rd K S v d) (f : d.flat = true) : Rd K S2 v d := by
  cases h <;> first | (simp [D.flat] at f; done) | constructor
theorem RdL.flat {S2 : Hp} : ∀ {vs : List V} {ds : List D}, RdL K S vs ds → (∀ d ∈ ds, d.flat = true) → RdL K S2 vs ds
  | _, _, .nil, _ => .nil
  | _, _, .cons h r, f => .cons (h.flat (f _ List.mem_cons_self)) (RdL.flat r fun d hd => f d (List.mem_cons_of_mem _ hd))
def Owns (ρ : Rho) (σ : L2.St) (p : Addr) : Prop := ∃ (i : Nat) (ds : List D), ρ[i]? = some (.o ds) ∧ σ[i]? = some (some (.ref p))
open Classical in
noncomputable def withOwn (ρ : Rho) (σ : L2.St) (S H : Hp) : Hp := fun a => match S a with
  | some o => some o
  | none => if Owns ρ σ a then H a else none
open Classical in
noncomputable def woOwn (ρ : Rho) (σ : L2.St) (S : Hp) : Hp := fun a => if Owns ρ σ a then none else S a
theorem Stt.see (s : Stt K S0 H0 ρ S H σ) : Ex (withOwn ρ σ S H) H ∧ Env K (withOwn ρ σ S H) σ (see ρ) ∧ ∀ S' H', Ext (withOwn ρ σ S H) H S' H' → Ex S (woOwn ρ σ S') ∧ Stt K S0 H0 ρ (woOwn ρ σ S') H' σ := by
  have e1 : Ex S (withOwn ρ σ S H) := fun a o e => by unfold withOwn; rw [e]
  have e2 : Ex (withOwn ρ σ S H) H := fun a o e => by
    unfold withOwn at e
    cases q : S a with
    | some w => rw [q] at e; cases e; exact s.ext.sub a _ q
    | none =>
      rw [q] at e
      dsimp only at e
      split at e
      · exact e
      · cases e
  have no : ∀ a, Owns ρ σ a → S a = none := fun a ⟨i, ds, h1, h2⟩ => by
    obtain ⟨p, vs, g1, g2, g3, g4, g5⟩ := s.own i ds h1
    rw [g1] at h2
    cases h2
    exact g3
  refine ⟨e2, ⟨?_, fun i d h => ?_⟩, fun S' H' x => ?_⟩
  · unfold Pl.see; rw [List.length_map]; exact s.env.len
  · unfold Pl.see at h
    rw [List.getElem?_map] at h
    cases q : ρ[i]? with
    | none => rw [q] at h; cases h
    | some z =>
      rw [q] at h
      cases z with
      | u => cases h
      | k d' =>
        cases h
        obtain ⟨v, h1, h2⟩ := s.env.val i _ q
        exact ⟨v, h1, h2.mono e1⟩
      | o ds =>
        cases h
        obtain ⟨p, vs, g1, g2, g3, g4, g5⟩ := s.own i ds q
        refine ⟨_, g1, .lst ?_ (g5.mono e1)⟩
        unfold withOwn
        rw [g3]
        dsimp only
        rw [if_pos ⟨i, ds, q, g1⟩]
        exact g4
  · have eS : Ex S (woOwn ρ σ S') := fun a o e => by
      unfold woOwn
      rw [if_neg fun z => by rw [no a z] at e; cases e]
      exact x.s a o (e1 a o e)
    refine ⟨eS, ⟨s.ext.s.trans eS, s.ext.h.trans x.h, fun a o e => ?_, fun a h1 h2 => ?_⟩, s.env.mono eS, fun i ds h => ?_, s.apart⟩
    · unfold woOwn at e
      split at e
      · cases e
      · exact x.sub a o e
    · unfold woOwn
      split
      · rfl
      · rename_i hn
        refine x.dis a ?_ fun z => ?_
        · unfold withOwn
          rw [s.ext.dis a h1 h2]
          dsimp only
          rw [if_neg hn]
        · cases q : H0 a with
          | none => exact h2 q
          | some o => rw [s.ext.h a o q] at z; cases z
    · obtain ⟨p, vs, g1, g2, g3, g4, g5⟩ := s.own i ds h
      refine ⟨p, vs, g1, g2, ?_, x.h _ _ g4, g5.mono eS⟩
      unfold woOwn
      rw [if_pos ⟨i, ds, h, g1⟩]
theorem T.ifV {c : TT} {b : Bool} (h : EvT K c (see ρ) b) (h1 : b = true → T K t ρ F) (h2 : b = false → T K u ρ F) : T K (tIfS c t u) ρ F := fun S0 H0 S H σ Dd s a => by
  obtain ⟨e, v, w⟩ := s.see
  refine h _ H σ e v _ fun S' H' x => ?_
  obtain ⟨eS, s'⟩ := w S' H' x
  cases b with
  | true =>
    show t Dd σ H'
    exact h1 rfl S0 H0 _ H' σ Dd s' (a.mono eS)
  | false =>
    show u Dd σ H'
    exact h2 rfl S0 H0 _ H' σ Dd s' (a.mono eS)
theorem T.asgV {g : TG} {ps : List (Nat × D)} (h : EvD K te (see ρ) d) (hg : EvG K g d ps) (hf : ∀ p ∈ ps, p.2.flat = true) (k : F.nx (setR ρ ps)) : T K (tAsg te g) ρ F := fun S0 H0 S H σ Dd s a => by
  obtain ⟨e, v, w⟩ := s.see
  refine h _ H σ e v _ fun x S' H' xx r => hg S' H' σ x xx.sub r _ fun vs rv => ?_
  obtain ⟨eS, s'⟩ := w S' H' xx
  exact a.nx _ _ H' _ k eS (s'.setV (rv.flat fun d hd => by
    obtain ⟨p, hp, rfl⟩ := List.mem_map.mp hd
    exact hf p hp))
theorem T.retV (h : EvD K te (see ρ) d) (hf : d.flat = true) (k : F.rt d) : T K (tRet te) ρ F := fun S0 H0 S H σ Dd s a => by
  obtain ⟨e, v, w⟩ := s.see
  refine h _ H σ e v _ fun x S' H' xx r => ?_
  obtain ⟨eS, s'⟩ := w S' H' xx
  exact a.rt d x _ H' k s'.ext (r.flat hf)
theorem T.appendV (h : ρ[i]? = some (.o ds)) (he : EvD K te (see ρ) d) (hf : d.flat = true) (hl : ds.length < 100000) (k : F.nx (ρ.set i (.o (ds ++ [d])))) : T K (tDrop (tBM K "list" rAppend (tVar i) (tCons te tNil))) ρ F := fun S0 H0 S H σ Dd s a => by
  obtain ⟨e, v, w⟩ := s.see
  obtain ⟨p, vs, h1, h2, h3, h4, h5⟩ := s.own i ds h
  refine ⟨_, h1, .inl ⟨rfl, _, Evl.sq_of h4⟩, ?_⟩
  refine he _ H σ e v _ fun x S' H' xx r => ?_
  obtain ⟨eS, s'⟩ := w S' H' xx
  refine ⟨p, vs, x, rfl, rfl, xx.h _ _ h4, Evl.sz_lt (by rw [h5.length]; exact hl), ?_⟩
  exact a.nx _ _ _ σ k eS (s'.put (vs := vs) h h1 ((h5.mono eS).append (.cons (r.flat hf) .nil)))
/-- xs[k] = e -/
theorem T.setV {ti : TE} {k j : Nat} (h : ρ[i]? = some (.o ds)) (he : EvD K te (see ρ) d) (hf : d.flat = true) (hi : EvD K ti (see ρ) (.int (j : Int))) (hj : j < ds.length) (k : F.nx (ρ.set i (.o (ds.set j d)))) : T K (tAsg te (gSub (tVar i) ti rSetL)) ρ F := fun S0 H0 S H σ Dd s a => by
  obtain ⟨e, v, w⟩ := s.see
  obtain ⟨p, vs, h1, h2, h3, h4, h5⟩ := s.own i ds h
  refine he _ H σ e v _ fun x S1 H1 x1 r1 => ⟨_, h1, ?_⟩
  refine hi S1 H1 σ x1.sub (v.mono x1.s) _ fun y S2 H2 x2 r2 => ?_
  cases r2
  obtain ⟨eS, s'⟩ := w S2 H2 (x1.trans x2)
  refine ⟨p, vs, _, j, rfl, rfl, (x1.trans x2).h _ _ h4, ?_, ?_⟩
  · unfold ixN
    rw [h5.length]
    have hz : ¬ ((j : Int) < 0) := by omega
    first
      | (rw [if_neg hz]; simp [hj]; done)
      | (simp [hj]; done)
      | (simp [hz, hj]; omega)
  · exact a.nx _ _ _ σ k eS (s'.put (vs := vs) h h1 (RdL.set (r1.flat hf) _ (h5.mono eS)))
end

/-! ### a def -/
def startR (n : Nat) (ds : List D) : Rho := ds.map Sl.k ++ List.replicate (n - ds.length) .u
section
variable {K : PySem.W.Frag} {t : TS} {N : List Str}
theorem stt_start {S H : Hp} {vs : List V} {ds : List D} (e : Ex S H) (r : RdL K S vs ds) : Stt K S H (startR N.length ds) S H (L2.start N vs) where
  ext := Ext.refl e
  env := ⟨by unfold L2.start startR; rw [List.length_append, List.length_append, List.length_map, List.length_map, List.length_replicate, List.length_replicate, r.length], fun i d h => by
    unfold startR at h
    unfold L2.start
    by_cases hi : i < ds.length
    · rw [List.getElem?_append_left (by rw [List.length_map]; exact hi), List.getElem?_map, List.getElem?_eq_getElem hi] at h
      cases h
      obtain ⟨v, h1, h2⟩ := r.get (List.getElem?_eq_getElem hi)
      exact ⟨v, by rw [List.getElem?_append_left (by rw [List.length_map, r.length]; exact hi), List.getElem?_map, h1]; rfl, h2⟩
    · rw [List.getElem?_append_right (by rw [List.length_map]; omega), List.getElem?_replicate] at h
      split at h <;> cases h⟩
  own := fun i ds' h => by
    unfold startR at h
    by_cases hi : i < ds.length
    · rw [List.getElem?_append_left (by rw [List.length_map]; exact hi), List.getElem?_map, List.getElem?_eq_getElem hi] at h
      cases h
    · rw [List.getElem?_append_right (by rw [List.length_map]; omega), List.getElem?_replicate] at h
      split at h <;> cases h
  apart := fun i j a b p h => by
    unfold startR at h
    by_cases hi : i < ds.length
    · rw [List.getElem?_append_left (by rw [List.length_map]; exact hi), List.getElem?_map, List.getElem?_eq_getElem hi] at h
      cases h
    · rw [List.getElem?_append_right (by rw [List.length_map]; omega), List.getElem?_replicate] at h
      split at h <;> cases h
/-- a def that hands back the datum d -/
def FE.tell (d : D) : FE := { nx := fun _ => d = .non, rt := fun x => x = d, rf := fun es => .lst es = d }
def FE.own (es : List D) : FE := { rf := fun x => x = es }
theorem T.fin {Rel : List D → D → Prop} {vs : List V} {H : Hp} {Q : VK} {E : XK} (h : spD K Rel vs H Q E) (k : ∀ ds d, Rel ds d → T K t (startR N.length ds) (.tell d)) : t { nx := fun _ H' => Q .non H', rt := Q } (L2.start N vs) H := by
  obtain ⟨S, ds, d, e, r, rel, q⟩ := h
  refine k ds d rel S H S H _ _ (stt_start e r) ⟨fun ρ S' H' σ n _ s => ?_, fun _ _ _ _ z => z.elim, fun _ _ _ _ z => z.elim, fun x v S' H' n x' r' => ?_, fun es p ws S' H' n x' h0 sp hp r' => ?_⟩
  · have n : d = .non := n
    subst n
    exact q .non S' H' s.ext .non
  · have n : x = d := n
    subst n
    exact q v S' H' x' r'
  · have n : D.lst es = d := n
    subst n
    exact q (.ref p) (upd S' p (.lst ws)) H' (x'.tell sp h0 hp) (.lst upd_same (r'.mono (Ex.new sp)))
theorem T.finF {Rel : List D → List D → Prop} {vs : List V} {H : Hp} {Q : VK} {E : XK} (h : spF K Rel vs H Q E) (k : ∀ ds es, Rel ds es → T K t (startR N.length ds) (.own es)) : t { nx := fun _ H' => Q .non H', rt := Q } (L2.start N vs) H := by
  obtain ⟨S, ds, es, e, r, rel, q⟩ := h
  refine k ds es rel S H S H _ _ (stt_start e r) ⟨fun _ _ _ _ z => z.elim, fun _ _ _ _ z => z.elim, fun _ _ _ _ z => z.elim, fun _ _ _ _ z => z.elim, fun fs p ws S' H' n x' h0 sp hp r' => ?_⟩
  have n : fs = es := n
  subst n
  exact q p ws S' H' x' h0 sp hp r'
theorem spD_len {Rel : List D → D → Prop} {n : Nat} (h : ∀ ds d, Rel ds d → ds.length = n) : ∀ vs H Q E, spD K Rel vs H Q E → vs.length = n := fun vs H Q E ⟨S, ds, d, _, r, rel, _⟩ => r.length.trans (h ds d rel)
theorem spF_len {Rel : List D → List D → Prop} {n : Nat} (h : ∀ ds d, Rel ds d → ds.length = n) : ∀ vs H Q E, spF K Rel vs H Q E → vs.length = n := fun vs H Q E ⟨S, ds, d, _, r, rel, _⟩ => r.length.trans (h ds d rel)
end
end Pl

/-! set(xs) of whole numbers, sorted(set(xs)). -/
namespace Sx
open PySem PySem.Spec PyProof.Rows L2

theorem int_of : ∀ {us : List Value} {ns : List Int}, IntsAre us ns → ∀ (j : Nat) (u : Value), us[j]? = some u → ∃ tk, u = .int (ns.getD j 0) tk := fun h j u e => IntsAre.int_at h j u e
theorem ints_len : ∀ {us : List Value} {ns : List Int}, IntsAre us ns → us.length = ns.length
  | _, _, .nil => rfl
  | _, _, .cons _ _ h => congrArg (· + 1) (ints_len h)
section
variable {prog : Program} {w : World} {A : Around} {R : Result → Shared → Prop} {I : Addr} {fp wr : List Addr} {G : Array GenState → Array GenState → Prop} {n : Nat} {P : Nat → Value → Prop} {St : Nat → Shared → Prop}
/-- what is in the set behind j turns -/
def Got (w : World) (h : Heap) (S : Addr) (ns : List Int) (j : Nat) : Prop := ∃ (T : Int → Bool) (m : Nat), SetR w h S T m ∧ m ≤ j ∧ ∀ k, T k = true ↔ k ∈ ns.take j
theorem Got.at {h h' : Heap} {S : Addr} {ns : List Int} {j : Nat} (g : Got w h S ns j) (k : ∀ o, h.get? S = some o → h'.get? S = some o) : Got w h' S ns j := by
  obtain ⟨T, m, r, x⟩ := g
  exact ⟨T, m, r.at k, x⟩
theorem fill (W : WalksS prog w A.in1 I fp wr G n P St) (S : Addr) (hS : S ∉ fp) (ns : List Int) (hz : ns.length = n) (hr : n + 2 < scanBound) (hv : ∀ j u, P j u → ∃ tk, u = .int (ns.getD j 0) tk) :
    ∀ (left j : Nat) (s : Shared), n - j = left → j ≤ n → St j s → Got w s.heap S ns j → (∀ s2, Moved (S :: wr) G s s2 → Got w s2.heap S ns n → R (.ok (.ret .none)) s2) →
      codeAny (model prog w) A (.builtin "set.update.loop" ⟨[.ref S, .ref I], []⟩) R s := by
  have nw : S ∉ wr := fun q => hS (W.sub _ q)
  have up : ∀ b ∈ wr, b ∈ S :: wr := fun b q => List.mem_cons_of_mem _ q
  intro left
  induction left with
  | zero =>
    intro j s hk hj st g k
    obtain rfl : j = n := by omega
    refine codeAny_builtin PyProof.Rows.F.entry_set_update_loop ?_
    rw [Around.under_plainId PyProof.Rows.F.plain_set_update_loop _]
    show wpAny _ A.in1 (pyNext (.ref I) >>= _) _ _ s
    refine wpAny_bind (W.done s _ _ st fun s2 mv => ?_)
    show wpAny _ A.in1 (ret Value.none) _ _ s2
    exact wpAny_pure (k s2 (mv.mono up) (g.at fun o q => mv.heap S _ nw q))
  | succ left ih =>
    intro j s hk hj st g k
    have lt : j < n := by omega
    refine codeAny_builtin PyProof.Rows.F.entry_set_update_loop ?_
    rw [Around.under_plainId PyProof.Rows.F.plain_set_update_loop _]
    show wpAny _ A.in1 (pyNext (.ref I) >>= _) _ _ s
    refine wpAny_bind (W.item j s _ _ lt st fun u s2 pu st2 mv => ?_)
    obtain ⟨tk, rfl⟩ := hv j u pu
    have g2 : Got w s2.heap S ns j := g.at fun o q => mv.heap S _ nw q
    obtain ⟨T, m, r, hm, hT⟩ := g2
    show wpAny _ A.in1 (holding [Value.int (ns.getD j 0) tk] (setAdd S (.int (ns.getD j 0) tk)) >>= _) _ _ s2
    refine wpAny_bind (wpAny_holding ?_)
    unfold setAdd
    refine wpAny_holding (wpAny_bind ((intKind prog w).pyHash (k := ns.getD j 0) (intKind_is prog w _ tk) ?_))
    refine setR_add_hashed (P := prog) (s := { s2 with toks := s2.toks + 1 }) r (by omega) fun h3 sb r3 => ?_
    have g3 : Got w h3 S ns (j + 1) := by
      refine ⟨_, _, r3, ?_, fun q => ?_⟩
      · split <;> omega
      · have e1 : ns.take (j + 1) = ns.take j ++ [ns.getD j 0] := by
          have hl : j < ns.length := by omega
          rw [← List.take_append_getElem hl]
          simp [List.getD, hl]
        rw [Bool.or_eq_true, hT q, decide_eq_true_eq, e1, List.mem_append, List.mem_singleton]
    refine wpAny_pure ⟨plainId_quiet PyProof.Rows.F.plain_set_update_loop _, ih (j + 1) _ (by omega) lt (W.frame _ s2 _ _ st2 (Nat.le_succ _) fun b hb o q => ?_) g3 fun s4 mv4 g4 => ?_⟩
    · rw [sb.2 b fun z : b = S => hS (z ▸ hb)]
      exact q
    · refine k s4 (Moved.trans W.gtrans ((mv.mono up).then_heap (Nat.le_succ _) fun b o hb q => ?_) mv4) g4
      rw [sb.2 b fun z : b = S => hb (by rw [z]; exact List.mem_cons_self)]
      exact q
end
section
variable {P : Program} {w : World} {A : Around} {E : Value → Shared → Prop} {s : Shared}
abbrev freshSet (w : World) : Obj := { cls := .type "set", dict := none, data := .set #[] 0 (.fresh 0 0 (!w.params.followText "set-order")) }
theorem new_one (a : Value) {Q : Value → Shared → Prop} (h : Q (.ref s.heap.objs.size) { s with heap := s.heap.push (freshSet w) }) : codeAny (model P w) A (.call (.builtin "set.__new__") ⟨[.type "set", a], []⟩) (wants Q E) s := by
  refine codeAny_of_tree ?_
  show wpAny _ A.in1 (do checkBuiltinCall "set.__new__" ⟨[.type "set", a], []⟩; again (.builtin "set.__new__" ⟨[.type "set", a], []⟩)) _ _ s
  refine wpAny_bind (wpAny_of_eq (F.newCall_set_1 a) (wpAny_pure ⟨plainId_quiet F.plain_set_new _, codeAny_builtin F.entry_set_new ?_⟩))
  rw [Around.under_plainId F.plain_set_new _]
  unfold Builtin.«set.__new__» Builtin.Frozenset.newClass
  have sub := sub_set_self
  obtain ⟨hp, g, d, tk, os⟩ := s
  dsimp only
  wp_walk
  refine wpAny_askSetting (wpAny_pure ?_)
  dsimp only
  simp only [newObj]
  exact wpAny_bind (wpAny_alloc (wpAny_pure (wpAny_pure h)))
set_option maxHeartbeats 8000000 in
theorem set_of {l : Addr} {items : Array Value} {ns : List Int} {Q : Value → Shared → Prop} (hh : A.handled = none) (hl : s.heap.IsList l items) (hi : IntsAre items.toList ns) (hn : ns.length ≤ 1000)
    (h : ∀ (h2 : Heap) (tk : Nat), Got w h2 s.heap.objs.size ns ns.length → (∀ b o, b < s.heap.objs.size → s.heap.get? b = some o → h2.get? b = some o) → Q (.ref s.heap.objs.size) { s with heap := h2, toks := tk }) :
    wpAny (model P w) A (call (.type "set") [.ref l]) Q E s := by
  obtain ⟨c, tl, hmro⟩ := PySem.F.called_set.mro
  have made := PySem.F.called_set.made
  have sub := PySem.F.called_set.sub
  refine wpAny_call (codeAny_of_tree ?_)
  show wpAny _ _ (callAny (.type "set") _) _ _ _
  refine wpAny_pure ⟨Code.quiet_builtin _ (by decide +kernel), codeAny_builtin PySem.F.entry_type_call ?_⟩
  rw [Around.under_plain (weight_type_call_type "set" [.ref l] []) rfl]
  have y1 := PySem.F.called_set.notType
  have y2 := PySem.F.called_set.canCreate
  have y3 := PySem.F.typeCall_set_1 (.ref l)
  repeat (any_goals (first | assumption | wp_step))
  refine codeAny_mono (new_one (.ref l) (E := E) (Q := fun obj s₁ => obj = .ref s.heap.objs.size ∧ s₁ = { s with heap := s.heap.push (freshSet w) }) ⟨rfl, rfl⟩) fun r s₁ hr => ?_
  cases r with
  | error e => exact hr
  | ok fl =>
    cases fl with
    | ret obj =>
      obtain ⟨rfl, rfl⟩ := hr
      have gS : (s.heap.push (freshSet w)).get? s.heap.objs.size = some (freshSet w) := Heap.get?_push_size _ rfl
      have hT : Shared.TypeIs { s with heap := s.heap.push (freshSet w) } (.ref s.heap.objs.size) "set" := ⟨_, gS, rfl⟩
      have z1 := PySem.F.called_set.init.lookup
      have z2 := PySem.F.called_set.init.bind (.ref s.heap.objs.size)
      repeat (any_goals (first | assumption | wp_step))
      refine codeAny_mono (codeAny_call_builtin (R := wants (fun r s₂ => r = .none ∧ ∃ h2 tk, s₂ = { s with heap := h2, toks := tk } ∧ Got w h2 s.heap.objs.size ns ns.length ∧
          (∀ b o, b < s.heap.objs.size → s.heap.get? b = some o → h2.get? b = some o)) E) PySem.F.called_set.init.plain PySem.F.entry_set_init (check_set_init_1 hT ?_)) fun r₂ s₂ hr₂ => ?_
      · obtain ⟨ol, hol, hcl, nl, hdl⟩ := hl
        obtain ⟨ocls, odict, odata, oslots⟩ := ol
        simp only at hcl hdl
        subst hcl
        subst hdl
        have hol2 : (s.heap.push (freshSet w)).get? l = some { cls := .type "list", dict := odict, data := .seq items nl, slots := oslots } := Heap.get?_push_of_some _ hol
        have n1 := PySem.F.sub_list_set
        have n2 := PySem.F.sub_list_frozenset
        have n3 : (Value.type "list" == Value.type "dict") = false := by decide
        have hl2 : (s.heap.push (freshSet w)).IsList l items := ⟨_, hol2, rfl, nl, rfl⟩
        unfold Builtin.«set.__init__» noKeywords Builtin.Frozenset.updateFrom
        generalize gPI : pyIter = PI
        wp_walk
        subst gPI
        refine wpAny_pyIter_list hl2 (wpAny_bind (wpAny_runValue ?_))
        have lS : l < s.heap.objs.size := Heap.lt_size hol
        have hd3 : A.in1.in1.in1.handled = none := by simp [hh]
        have nI : l ≠ (s.heap.push (freshSet w)).objs.size := by rw [Heap.size_push]; exact Nat.ne_of_lt (Nat.lt_succ_of_lt lS)
        have nF : s.heap.objs.size ∉ [(s.heap.push (freshSet w)).objs.size, l] := by
          rw [Heap.size_push]
          simp only [List.mem_cons, List.mem_singleton, List.not_mem_nil, or_false, not_or]
          exact ⟨Nat.ne_of_lt (Nat.lt_succ_self _), Nat.ne_of_gt lS⟩
        have hsz : ns.length = items.size := by rw [← ints_len hi, Array.length_toList]
        have hval : ∀ (j : Nat) (u : Value), items[j]? = some u → ∃ tk, u = .int (ns.getD j 0) tk := fun j u q => int_of hi j u (by rw [Array.getElem?_toList]; exact q)
        refine fill ((Walks.list hd3 _ l nI items).toS) s.heap.objs.size nF ns hsz (by unfold scanBound; omega) hval (items.size - 0) 0 _ (by omega) (Nat.zero_le _) ⟨⟨_, Heap.get?_push_size _ rfl, rfl, rfl⟩, (hl2.push _)⟩ ?g0 ?gR
        case g0 =>
          refine ⟨fun _ => false, 0, (setR_fresh w).at fun o q => Heap.get?_push_of_some _ q, Nat.le_refl _, fun k => ?_⟩
          simp
        case gR =>
          intro s2 mv g2
          obtain ⟨h2, gg, dd, tk2, os2⟩ := s2
          have eg : gg = s.gens := mv.gens
          have ed : dd = s.drawn := mv.drawn
          have eo : os2 = s.os := mv.os
          subst eg
          subst ed
          subst eo
          show wpAny _ _ _ _ _ _
          refine wpAny_pure ?_
          show wpAny _ _ (ret Value.none) _ _ _
          refine wpAny_pure ⟨rfl, h2, tk2, rfl, by rw [hsz]; exact g2, fun b o hb q => ?_⟩
          have b1 : b ≠ s.heap.objs.size := Nat.ne_of_lt hb
          have b2 : b ≠ (s.heap.push (freshSet w)).objs.size := by rw [Heap.size_push]; exact Nat.ne_of_lt (Nat.lt_succ_of_lt hb)
          refine mv.heap b o ?_ (Heap.get?_push_of_some _ (Heap.get?_push_of_some _ q))
          simp only [List.mem_cons, List.mem_singleton, List.not_mem_nil, or_false, not_or]
          exact ⟨b1, b2⟩
      · cases r₂ with
        | error e => exact hr₂
        | ok fl₂ =>
          cases fl₂ with
          | ret r =>
            obtain ⟨rfl, h2, tk, rfl, g2, k2⟩ := hr₂
            repeat (any_goals (first | assumption | wp_step))
            exact h _ _ g2 k2
          | _ => exact hr₂.elim
    | _ => exact hr.elim
end
/-- strictly rising lists with the same members are one -/
theorem rise_one : ∀ {xs ys : List Int}, xs.Pairwise (· < ·) → ys.Pairwise (· < ·) → (∀ k, k ∈ xs ↔ k ∈ ys) → xs = ys
  | [], [], _, _, _ => rfl
  | [], y :: ys, _, _, h => absurd ((h y).mpr List.mem_cons_self) (by simp)
  | x :: xs, [], _, _, h => absurd ((h x).mp List.mem_cons_self) (by simp)
  | x :: xs, y :: ys, hx, hy, h => by
    rw [List.pairwise_cons] at hx hy
    have e : x = y := by
      have h1 := (h x).mp List.mem_cons_self
      have h2 := (h y).mpr List.mem_cons_self
      rcases List.mem_cons.mp h1 with q | q
      · exact q
      · rcases List.mem_cons.mp h2 with q2 | q2
        · exact q2.symm
        · have := hy.1 x q
          have := hx.1 y q2
          omega
    subst e
    rw [rise_one hx.2 hy.2 fun k => ⟨fun q => ?_, fun q => ?_⟩]
    · rcases List.mem_cons.mp ((h k).mp (List.mem_cons_of_mem _ q)) with z | z
      · subst z
        exact absurd (hx.1 k q) (by omega)
      · exact z
    · rcases List.mem_cons.mp ((h k).mpr (List.mem_cons_of_mem _ q)) with z | z
      · subst z
        exact absurd (hy.1 k q) (by omega)
      · exact z
end Sx

/-! The rules for set(xs), sorted(set(xs)) over the data. -/
namespace Sx
open PySem PySem.Spec PyProof.Rows L2
/-- set(xs), xs a list of whole numbers: its members, their number -/
def rSetOf (K : PySem.W.Frag) (w : World) : List V → Hp → VK → Prop := fun vs H Q => ∃ (a : Addr) (ns : List Int), vs = [V.ref a] ∧ SqL K H a (ns.map V.int) ∧ ns.length ≤ 1000 ∧
  ∀ (T : Int → Bool) (ks : List Int) (p : Addr), H p = none → ks.Nodup → (∀ k, T k = true ↔ k ∈ ks) → (∀ k, k ∈ ks ↔ k ∈ ns) → Q (.ref p) (upd H p (SetO w p T ks.length))
theorem cr_setOf {X : Cx} (hc : X.calm = true) : CallR X (.type "set") (rSetOf X.K X.w) := by
  intro pins s σ H vs us Q I r h
  obtain ⟨a, ns, rfl, hq, hl, q⟩ := h
  rw [Vals.ref1 r]
  obtain ⟨its, rv, pl, hz⟩ := I.list hq
  refine set_of (I.ok.hd hc) pl.isList (by simpa using intsAre_of rv) hl fun h2 tk g k => ?_
  obtain ⟨T, m, R, _, hT⟩ := g
  have hn : H s.heap.objs.size = none := I.hok.fresh (Nat.le_refl _)
  have R2 := R
  obtain ⟨o, es, ep, t, ho, hx, hd, ge, nd, hm, hb, hf, hsz, rest⟩ := R2
  have em : (es.toList.map keyOf).length = m := by rw [List.length_map, Array.length_toList]; exact hsz
  have J : Inv X pins σ (upd H s.heap.objs.size (SetO X.w s.heap.objs.size T m)) { s with heap := h2, toks := tk } := I.laid (fun b o e => k b o (Heap.lt_size e) e) (Nat.le_refl _) (setO_new R)
  rw [← em] at J
  refine ⟨.ref s.heap.objs.size, _, J, rfl, q T (es.toList.map keyOf) _ hn nd hm fun k => ?_⟩
  rw [← hm k, hT k, List.take_length]
end Sx
namespace Pl
open PySem PySem.Spec PyProof.Rows L2
open Evl (Ex)
variable {K : PySem.W.Frag} {ρ : Rho} {te : TE}
/-- sorted(set(xs)): ms, which rises and has the same members -/
theorem evF_sortedSet {w : World} {ns ms : List Int} (h : EvD K te ρ (.lst (ns.map D.int))) (hl : ns.length ≤ 1000) (hp : ms.Pairwise (· < ·)) (hm : ∀ k, k ∈ ms ↔ k ∈ ns) (h64 : ms.length < 64) :
    EvF K (tCB (rSortedSet w) (tCons (tCB (Sx.rSetOf K w) (tCons te tNil)) tNil)) ρ (ms.map D.int) := fun S H σ e v Q q =>
  h S H σ e v _ fun u S1 H1 x1 r1 => by
    cases r1 with
    | lst ha rl =>
      have z := rl.ints
      subst z
      refine ⟨_, ns, rfl, Evl.sq_of (x1.sub _ _ ha), hl, fun T ks p hp' nd hT hk => ?_⟩
      have nm : ms.Nodup := hp.imp fun a => by omega
      have el : ks.length = ms.length := Nat.le_antisymm (List.Nodup.length_le_of_subset nd fun k hk' => (hm k).mpr ((hk k).mp hk')) (List.Nodup.length_le_of_subset nm fun k hk' => (hk k).mpr ((hm k).mp hk'))
      refine ⟨p, T, ks.length, rfl, upd_same, by omega, fun ys p2 py my ly hp2 => ?_⟩
      have ey : ys = ms := Sx.rise_one py hp fun k => by rw [my k, hT k, hk k, hm k]
      subst ey
      have x2 : Ext S H S1 (upd H1 p (SetO w p T ks.length)) := x1.trans (Ext.hid x1.sub hp')
      exact q p2 _ S1 _ (x2.trans (Ext.hid x2.sub hp2)) (Evl.fresh_back x2.h hp2) (sub_none x2.sub hp2) upd_same (RdL.ofInts ys)
end Pl

/-! Rules with the written part named; a def by its promise; more of what expressions tell. -/
namespace Pl
open PySem PySem.Spec PyProof.Rows L2
open Evl (Ex)

/-! ### the written part by name -/
section
variable {X : Cx} {K : PySem.W.Frag} {a b e : Expr} {ta tb te : TE} {pos : Pos}
theorem ok_plus (h : X.K = K) : OpR X (binaryOp .Add) (rPlus K) := by subst h; exact op_plus
theorem ok_ix (h : X.K = K) : IxR X (rIx K) := by subst h; exact ix_seq
theorem ok_sl (h : X.K = K) : SlR X (rSl K) := by subst h; exact sl_any
theorem ok_eq (h : X.K = K) (hu : X.A.units + 64 < cLine) : OpR X (compareOp .Eq) (rEqD K) := by subst h; exact op_eqD hu
theorem ok_ne (h : X.K = K) (hu : X.A.units + 64 < cLine) : OpR X (compareOp .NotEq) (rNeD K) := by subst h; exact op_neD hu
theorem ok_in (h : X.K = K) : OpR X (compareOp .In) (rIn K false) := by subst h; exact op_in_seq
theorem ok_ni (h : X.K = K) : OpR X (compareOp .NotIn) (rIn K true) := by subst h; exact op_notIn_seq
theorem ok_len (h : X.K = K) : CallR X (.builtin "len") (rLen K) := by subst h; exact cr_len
theorem ok_list (h : X.K = K) : CallR X (.type "list") (rListOf K) := by subst h; exact cr_listOf
theorem ok_all (h : X.K = K) (hc : X.calm = true) : CallR X (.builtin "all") (rAll K) := by subst h; exact cr_all hc
theorem ok_isi (h : X.K = K) : CallR X (.builtin "isinstance") (rIsi K) := by subst h; exact call_isi
theorem ok_set {w : World} (h : X.K = K) (hw : X.w = w) (hc : X.calm = true) : CallR X (.type "set") (Sx.rSetOf K w) := by subst h; subst hw; exact Sx.cr_setOf hc
theorem ok_sset {w : World} (hw : X.w = w) (hc : X.calm = true) : CallR X (.builtin "sorted") (rSortedSet w) := by subst hw; exact cr_sortedSet hc
theorem ok_tup {es : List Expr} {k n : Nat} {t : TGs} (hK : X.K = K) (hc : X.calm = true) (h : PGs X es t) (hn : (assignEach es X.env).length = n := by rfl) (hst : (assignEach es X.env).findIdx? (·.1) = none := by rfl) : PG X (.Tuple es k pos) (gTup K n t) := by
  subst hK
  exact pg_tup hc h hn hst
theorem ok_ilist {tg : Expr} (hK : X.K = K) (h : PE X e te) : PI X tg e (iList K te) := by subst hK; exact pi_list h
theorem ok_itup {tg : Expr} (hK : X.K = K) (h : PE X e te) : PI X tg e (iTup K te) := by subst hK; exact pi_tup h
theorem ok_ienum {p pos tpos : Pos} {elts : List Expr} {kk : Nat} {tA : TA} (hK : X.K = K) (hg : Gl X "enumerate") (hm : X.mg "enumerate" = none) (ha : PA X [e] tA) (hs : starEach [e] X.env = [(false, eval e X.env)] := by rfl) :
    PI X (.Tuple elts kk tpos) (.Call (.Name "enumerate" p) [e] [] pos) (iEnum K tA) := by subst hK; exact pi_enum hg hm ha hs
end
/-! ### a def by its promise -/
section
variable (P : Program) (w : World) (K : PySem.W.Frag) (mg : Str → Option Value) (base : Heap) (CX : CXT)
def Cal (k : Nat) (x : Str) (ps : List Str) (sp : Sp) : Prop := ∃ f fd, FnOk P w K mg base CX k f fd ps sp ∧ mg x = some (.ref f) ∧ PySem.W.keepIn K (.ref f) = true ∧ Binds K fd ps []
end
theorem pe_cal {X : Cx} {CX : CXT} {k j : Nat} {x : Str} {ps : List Str} {sp : Sp} {E : XK} {e : Expr} {es : List Expr} {pos p : Pos} {t : TA} (C : Cal X.prog X.w X.K X.mg X.base CX k x ps sp) (hr : Room j X.A) (hk : k ≤ j) (hx : Passes CX X E) (ha : PA X (e :: es) t)
    (hg : Gl X x := by rfl) (hdb : (x == ("__debug__" : Str)) = false := by decide) (he : starEach (e :: es) X.env = (false, eval e X.env) :: starEach es X.env := by rfl) (hpl : (backTo pos (starEach es X.env)).any (·.1) = false := by rfl) :
    PE X (.Call (.Name x p) (e :: es) [] pos) (tCall sp [] E t) := by
  obtain ⟨f, fd, F, hm, kp, hb⟩ := C
  exact pe_call F (hr.mono hk) hg hm kp hb .nil hx ha hdb he hpl
section
variable {K : PySem.W.Frag} {ρ : Rho} {ta tb tc te : TE} {x y z : D} {r r' : R2}
theorem ev_chain {a b : Bool} (ha : EvD K ta ρ x) (hb : EvD K tb ρ y) (hr : RV K r x y (.bl a)) (hc : a = true → ∃ z, EvD K tc ρ z ∧ RV K r' y z (.bl b)) : EvD K (tChain r r' ta tb tc) ρ (.bl (a && b)) := fun S H σ e v Q q =>
  ha S H σ e v _ fun w1 S1 H1 x1 r1 => hb S1 H1 σ x1.sub (v.mono x1.s) _ fun w2 S2 H2 x2 r2 => hr S2 H2 w1 w2 x2.sub (r1.mono x2.s) r2 _ fun w3 S3 H3 x3 r3 => by
    cases r3
    refine ⟨a, rfl, ?_⟩
    cases a with
    | true =>
      obtain ⟨z, h1, h2⟩ := hc rfl
      show tc σ H3 _
      exact h1 S3 H3 σ x3.sub (v.mono ((x1.s.trans x2.s).trans x3.s)) _ fun w4 S4 H4 x4 r4 => h2 S4 H4 w2 w4 x4.sub (r2.mono (x3.s.trans x4.s)) r4 Q fun w5 S5 H5 x5 r5 => q w5 S5 H5 ((((x1.trans x2).trans x3).trans x4).trans x5) r5
    | false =>
      show Q (.bl false) H3
      exact q _ S3 H3 ((x1.trans x2).trans x3) (.bl false)
theorem et_truL {ds : List D} (h : EvD K te ρ (.lst ds)) : EvT K (fun σ H Q => te σ H fun x H' => ∃ k, TruV K x H' k ∧ Q k H') ρ (!ds.isEmpty) := fun S H σ e v Q q =>
  h S H σ e v _ fun w S1 H1 x1 r1 => by
    cases r1 with
    | lst ha rl =>
      refine ⟨!ds.isEmpty, .inl ⟨_, Evl.sq_of (x1.sub _ _ ha), ?_⟩, q S1 H1 x1⟩
      cases rl <;> rfl
theorem rc_isiK {T : String} {b : Bool} (k : String) (hk : x.kind = k) (h : kitB k T = some b) (hn : k ≠ "?") : RC K (rIsi K) [x, .ty T] (.bl b) := rc_isi (by rw [hk]; exact h) (by rw [hk]; exact hn)
theorem T.never {F : FE} (h : False) : T K tNever ρ F := h.elim
/-! ### comparisons, arithmetic -/
theorem rv_lt {i j : Int} : RV K (rI0 fun i j => .bl (decide (i < j))) (.int i) (.int j) (.bl (decide (i < j))) := rv_I0 fun _ => .bl _
theorem rv_le {i j : Int} : RV K (rI0 fun i j => .bl (decide (i ≤ j))) (.int i) (.int j) (.bl (decide (i ≤ j))) := rv_I0 fun _ => .bl _
theorem rv_gt {i j : Int} : RV K (rI0 fun i j => .bl (decide (j < i))) (.int i) (.int j) (.bl (decide (j < i))) := rv_I0 fun _ => .bl _
theorem rv_ge {i j : Int} : RV K (rI0 fun i j => .bl (decide (j ≤ i))) (.int i) (.int j) (.bl (decide (j ≤ i))) := rv_I0 fun _ => .bl _
theorem rv_sub {i j : Int} : RV K (rI0 fun i j => .int (i - j)) (.int i) (.int j) (.int (i - j)) := rv_I0 fun _ => .int _
theorem rv_mul {i j : Int} (h : CMul i j) : RV K (rI CMul fun i j => .int (i * j)) (.int i) (.int j) (.int (i * j)) := rv_I h fun _ => .int _
theorem rv_div {i j : Int} (h : CDivN i j) (hj : 0 ≤ j) : RV K (rI CDivN fun i j => .int (i.fdiv j)) (.int i) (.int j) (.int (i / j)) := by
  rw [← Int.fdiv_eq_ediv_of_nonneg i hj]
  exact rv_I h fun _ => .int _
theorem rv_mod {i j : Int} (h : j ≠ 0) (hj : 0 ≤ j) : RV K (rI (fun _ j => j ≠ 0) fun i j => .int (i.fmod j)) (.int i) (.int j) (.int (i % j)) := by
  rw [← Int.fmod_eq_emod_of_nonneg i hj]
  exact rv_I h fun _ => .int _
theorem ev_neg {i : Int} (h : EvD K te ρ (.int i)) : EvD K (tUn (rU fun i => .int (-i)) te) ρ (.int (-i)) := fun S H σ e v Q q =>
  h S H σ e v _ fun w S1 H1 x1 r1 => by
    cases r1
    exact ⟨i, rfl, q _ S1 H1 x1 (.int _)⟩
end
end Pl
namespace Pl
open PySem PySem.Spec PyProof.Rows L2
theorem rngD_get0 {n : Nat} {i : Nat} {d : D} (h : (rngD 0 n 1)[i]? = some d) : i < n ∧ d = .int (i : Int) := by
  obtain ⟨h1, h2⟩ := rngD_get h
  refine ⟨h1, h2.trans ?_⟩
  rw [Int.mul_one, Int.zero_add]
theorem rngD_mem0 {n : Nat} {d : D} (h : d ∈ rngD 0 n 1) : ∃ i : Nat, i < n ∧ d = .int (i : Int) := by
  obtain ⟨i, hi⟩ := List.getElem?_of_mem h
  exact ⟨i, rngD_get0 hi⟩
theorem atI_int {α : Type} {xs : List α} {k : Int} {x : α} (h0 : 0 ≤ k) (h : xs[k.toNat]? = some x) : atI xs k = some x := by
  have e : k = ((k.toNat : Nat) : Int) := by omega
  rw [e]
  exact atI_nat h
def barD (b : Int × Int) : D := .tup [.int b.1, .int b.2]
theorem barD_inj {a b : Int × Int} (h : barD a = barD b) : a = b := by
  cases a
  cases b
  unfold barD at h
  simp only [D.tup.injEq, List.cons.injEq, D.int.injEq, and_true] at h
  rw [h.1, h.2]
theorem bars_inj {as bs : List (Int × Int)} : as.map barD = bs.map barD ↔ as = bs := ⟨fun h => (List.map_inj_right fun _ _ e => barD_inj e).mp h, fun h => h ▸ rfl⟩
theorem okd_bars {bs : List (Int × Int)} : (D.lst (bs.map barD)).okd 60 = true := by
  simp [D.okd, barD]
theorem sm_bars {bs : List (Int × Int)} : (D.lst (bs.map barD)).sm 60 = true := by
  simp [D.sm, barD]
section
variable {K : PySem.W.Frag}
theorem rv_eqBars {as bs : List (Int × Int)} : RV K (rEqD K) (.lst (as.map barD)) (.lst (bs.map barD)) (.bl (decide (as = bs))) := rv_eqS okd_bars okd_bars sm_bars sm_bars (by rw [decide_eq_true_eq, D.lst.injEq, bars_inj])
theorem rv_neBars {as bs : List (Int × Int)} : RV K (rNeD K) (.lst (as.map barD)) (.lst (bs.map barD)) (.bl (!decide (as = bs))) := rv_neS okd_bars okd_bars sm_bars sm_bars (by rw [decide_eq_true_eq, D.lst.injEq, bars_inj])
end
end Pl
namespace Pl
open PySem PySem.Spec PyProof.Rows L2
section
variable {K : PySem.W.Frag} {ρ : Rho} {F : FE} {t u : TS} {c : TT} {b : Bool}
/-- if c: (what does not go on); then the rest -/
theorem T.guard (h : EvT K c ρ b) (h1 : b = true → T K t ρ { F with nx := fun _ => False }) (h2 : b = false → T K u ρ F) : T K (tSeq (tIfS c t tNext) u) ρ F :=
  T.seqP (N := fun r => r = ρ ∧ b = false) (T.ifS h (fun e => (h1 e).weak (fun _ z => z.elim) (fun _ z => z) (fun _ z => z) (fun _ z => z) fun _ z => z) fun e => T.next ⟨rfl, e⟩) fun r z => by
    obtain ⟨e1, e2⟩ := z
    subst e1
    exact h2 e2
theorem T.guardV (h : EvT K c (see ρ) b) (h1 : b = true → T K t ρ { F with nx := fun _ => False }) (h2 : b = false → T K u ρ F) : T K (tSeq (tIfS c t tNext) u) ρ F :=
  T.seqP (N := fun r => r = ρ ∧ b = false) (T.ifV h (fun e => (h1 e).weak (fun _ z => z.elim) (fun _ z => z) (fun _ z => z) (fun _ z => z) fun _ z => z) fun e => T.next ⟨rfl, e⟩) fun r z => by
    obtain ⟨e1, e2⟩ := z
    subst e1
    exact h2 e2
end
end Pl
namespace Pl
open PySem PySem.Spec PyProof.Rows L2
open Evl (Ex)
section
variable {K : PySem.W.Frag}
theorem RCF.data {r : List V → Hp → VK → Prop} {xs es : List D} (h : RCF K r xs es) : RC K r xs (.lst es) := fun S H vs e rl Q q => h S H vs e rl Q fun p ws S' H' x hp sp h' r' => q (.ref p) (upd S' p (.lst ws)) H' (x.tell sp hp h') (.lst upd_same (r'.mono (Ex.new sp)))
theorem RVF.data {r : R2} {x y : D} {es : List D} (h : RVF K r x y es) : RV K r x y (.lst es) := fun S H v u e r1 r2 Q q => h S H v u e r1 r2 Q fun p ws S' H' x hp sp h' r' => q (.ref p) (upd S' p (.lst ws)) H' (x.tell sp hp h') (.lst upd_same (r'.mono (Ex.new sp)))
end
end Pl

/-! {x for a in xs for x in a}: a set of whole numbers by two clauses without tests. -/
namespace Sc
open PySem PySem.Spec PyProof.Rows L2
abbrev two (elt t0 i0 t1 i1 : Expr) (scope : Scope) (pos : Pos) : Expr := .SetComp elt [⟨t0, i0, [], 0⟩, ⟨t1, i1, [], 0⟩] scope pos
section
variable {prog : Program} {w : World} {A : Around} {R : Result → Shared → Prop} {s : Shared} {elt t0 i0 t1 i1 : Expr} {scope : Scope} {pos : Pos} {it acc : Value} {env : Env}
theorem turn0 : compTurn (two elt t0 i0 t1 i1 scope pos) 0 it acc env = (do
    standAt i0.pos
    let r ← pyNext it
    match r with
    | none => pure (.done .next)
    | some u =>
      letOwnedTupleGo t0 it u
      assign t0 env u
      let x ← eval i1 env
      standAt i1.pos
      let y ← foldedSetIterable i1 env x
      let z ← holding [y] (pyIter y)
      let _ ← runOwn (.compStart (two elt t0 i0 t1 i1 scope pos) 1 z acc env) env
      again (.compLoop (two elt t0 i0 t1 i1 scope pos) 0 it acc env)) := by rfl
theorem turn1 : compTurn (two elt t0 i0 t1 i1 scope pos) 1 it acc env = (do
    standAt i1.pos
    let r ← pyNext it
    match r with
    | none => pure (.done .next)
    | some u =>
      letOwnedTupleGo t1 it u
      assign t1 env u
      (do
        let v ← eval elt env
        standAt elt.pos
        let _ ← call (.builtin "set.add") [acc, v])
      again (.compLoop (two elt t0 i0 t1 i1 scope pos) 1 it acc env)) := by rfl
abbrev Nb (w : World) (prog : Program) (A : Around) (env : Env) (R : Result → Shared → Prop) : Value → Shared → Prop := notedBy (model prog w) A env fun e u => R (.error e) u
theorem loop0 (hf : ∀ x, foldedSetIterable i1 env x = pure x) (J : Nat → Shared → Prop)
    (turn : ∀ n u, J n u → wpAny (model prog w) A (pyNext it) (fun r u1 => match r with
      | none => R (.ok .next) u1
      | some v => wpAny (model prog w) A (letOwnedTupleGo t0 it v) (fun _ u2 => wpAny (model prog w) A (assign t0 env v) (fun _ u3 => wpAny (model prog w) A (eval i1 env) (fun x u4 => wpAny (model prog w) A (pyIter x) (fun z u5 =>
          codeAny (model prog w) A (.compStart (two elt t0 i0 t1 i1 scope pos) 1 z acc env) (fun r u6 => match r with
            | .ok _ => ∃ m, m < n ∧ J m u6
            | .error _ => False) u5) (Nb w prog A env R) u4) (Nb w prog A env R) u3) (Nb w prog A env R) u2) (Nb w prog A env R) u1) (Nb w prog A env R) u)
    (n : Nat) (h : J n s) : codeAny (model prog w) A (.compLoop (two elt t0 i0 t1 i1 scope pos) 0 it acc env) R s := by
  refine codeAny_loop rfl J (fun n u hJ => ?_) n h
  show wpAny _ A ((compTurn (two elt t0 i0 t1 i1 scope pos) 0 it acc env).onRaise (fun x => do noteFrame x env; theTreesLotGoes x)) _ _ u
  refine wpAny_noted ?_
  rw [turn0]
  refine wpAny_bind (wpAny_standAt (wpAny_bind (wpAny_mono (turn n u hJ) (fun r u1 k1 => ?_) fun _ _ q => q)))
  cases r with
  | none => exact wpAny_pure k1
  | some v =>
    refine wpAny_bind (wpAny_mono k1 (fun _ u2 k2 => wpAny_bind (wpAny_mono k2 (fun _ u3 k3 => wpAny_bind (wpAny_mono k3 (fun x u4 k4 => ?_) fun _ _ q => q)) fun _ _ q => q)) fun _ _ q => q)
    refine wpAny_bind (wpAny_standAt (wpAny_bind (wpAny_of_eq (hf x) (wpAny_bind (wpAny_holding (wpAny_mono k4 (fun z u5 k5 => ?_) fun _ _ q => q))))))
    refine wpAny_bind (wpAny_runOwn ?_)
    rw [Around.mark_none]
    refine codeAny_mono k5 fun r u6 k6 => ?_
    cases r with
    | ok f => first | exact wpAny_pure ⟨rfl, k6⟩ | exact wpAny_bind (wpAny_pure (wpAny_pure ⟨rfl, k6⟩))
    | error e => exact k6.elim
theorem loop1 (J : Nat → Shared → Prop)
    (turn : ∀ n u, J n u → wpAny (model prog w) A (pyNext it) (fun r u1 => match r with
      | none => R (.ok .next) u1
      | some v => wpAny (model prog w) A (letOwnedTupleGo t1 it v) (fun _ u2 => wpAny (model prog w) A (assign t1 env v) (fun _ u3 => wpAny (model prog w) A (eval elt env) (fun x u4 =>
          wpAny (model prog w) A (call (.builtin "set.add") [acc, x]) (fun _ u5 => ∃ m, m < n ∧ J m u5) (Nb w prog A env R) u4) (Nb w prog A env R) u3) (Nb w prog A env R) u2) (Nb w prog A env R) u1) (Nb w prog A env R) u)
    (n : Nat) (h : J n s) : codeAny (model prog w) A (.compLoop (two elt t0 i0 t1 i1 scope pos) 1 it acc env) R s := by
  refine codeAny_loop rfl J (fun n u hJ => ?_) n h
  show wpAny _ A ((compTurn (two elt t0 i0 t1 i1 scope pos) 1 it acc env).onRaise (fun x => do noteFrame x env; theTreesLotGoes x)) _ _ u
  refine wpAny_noted ?_
  rw [turn1]
  refine wpAny_bind (wpAny_standAt (wpAny_bind (wpAny_mono (turn n u hJ) (fun r u1 k1 => ?_) fun _ _ q => q)))
  cases r with
  | none => exact wpAny_pure k1
  | some v =>
    refine wpAny_bind (wpAny_mono k1 (fun _ u2 k2 => wpAny_bind (wpAny_mono k2 (fun _ u3 k3 => wpAny_bind (wpAny_bind (wpAny_mono k3 (fun x u4 k4 => ?_) fun _ _ q => q))) fun _ _ q => q)) fun _ _ q => q)
    refine wpAny_bind (wpAny_standAt (wpAny_bind (wpAny_mono k4 (fun _ u5 k5 => ?_) fun _ _ q => q)))
    first | exact wpAny_pure (wpAny_pure ⟨rfl, k5⟩) | exact wpAny_pure ⟨rfl, k5⟩
theorem start1 (h0 : codeAny (model prog w) A (.compLoop (two elt t0 i0 t1 i1 scope pos) 1 it acc env) R s)
    (h : wpAny (model prog w) A (pyIter it) (fun z u => codeAny (model prog w) A (.compLoop (two elt t0 i0 t1 i1 scope pos) 1 z acc env) R u) (Nb w prog A env R) s) :
    codeAny (model prog w) A (.compStart (two elt t0 i0 t1 i1 scope pos) 1 it acc env) R s := by
  refine codeAny_of_tree ?_
  show wpAny _ _ ((compStart (two elt t0 i0 t1 i1 scope pos) 1 it acc env).onRaise (fun x => do noteFrame x env; standAt theWindowsPlace)) _ _ s
  refine wpAny_notedAt ?_
  unfold compStart
  show wpAny _ _ (ask >>= _) _ _ s
  refine wpAny_bind (wpAny_askSetting (wpAny_ite ?_))
  split
  · first | exact wpAny_bind (wpAny_pure (wpAny_pure (And.intro rfl h0))) | exact wpAny_pure (And.intro rfl h0)
  · first
      | exact wpAny_bind (wpAny_rule (wpAny_bind (wpAny_standAt (wpAny_bind (wpAny_mono h (fun z u q => wpAny_pure (And.intro rfl q)) fun _ _ x => x)))))
      | (refine wpAny_bind (wpAny_rule ?_)
         show wpAny _ _ (standAt i1.pos >>= _) _ _ s
         exact wpAny_bind (wpAny_standAt (wpAny_bind (wpAny_mono h (fun z u q => wpAny_pure (And.intro rfl q)) fun _ _ x => x))))
end
section
variable {X : Cx}
theorem add_ok {pins : List (Addr × Obj)} {σ : L2.St} {H : Hp} {s : Shared} {E : Value → Shared → Prop} {p : Addr} {T : Int → Bool} {n : Nat} {k : Int} {tk : Tok} {Q : Value → Shared → Prop} (I : Inv X pins σ H s) (hp : H p = some (SetO X.w p T n)) (room : n + 1 < scanBound)
    (h : ∀ u, Inv X pins σ (upd H p (SetO X.w p (fun j => T j || decide (j = k)) (if T k = true then n else n + 1))) u → Q .none u) : wpAny (model X.prog X.w) X.A (call (.builtin "set.add") [.ref p, .int k tk]) Q E s := by
  have R := setO_get I hp
  refine setR_add R room fun h2 sb new => ?_
  have ex : ∃ o, h2.get? p = some o := by
    have ⟨o, _, _, _, ho, _⟩ := new
    exact ⟨o, ho⟩
  exact h _ (I.write (e := p) (t' := s.toks + 1) (by rw [hp]; trivial) (.inl rfl) (fun b o hb ho => (sb.2 b hb).trans ho) ex (setO_new new))
/-- p the new set; the outer clause's word W, the inner one's W1 -/
def tSc2 (w : World) (wi : TI) (g : TG) (wi1 : TI) (g1 : TG) (te : TE) (vs vs1 : List Nat) : TE := fun σ H Q => wi σ H fun J H1 => ∀ p, H1 p = none → ∃ W : Nat → Nat → Hp → Prop, (∃ m, W 0 m (upd H1 p (SetO w p (fun _ => false) 0))) ∧ ∀ i m H, W i m H →
  (J.stop i H ∧ Q (.ref p) H) ∨ (J.go i H ∧ ∃ Nx : Hp → Prop, (∀ H', Nx H' → ∃ m', m' < m ∧ W (i + 1) m' H') ∧ ∀ x H', J.yld i H x H' → g x (wipe σ vs) H' fun σ2 H2 => wipe σ2 vs = wipe σ vs ∧
    wi1 σ2 H2 fun J1 H4 => ∃ W1 : Nat → Nat → Hp → Prop, (∃ m, W1 0 m H4) ∧ ∀ j k H, W1 j k H →
      (J1.stop j H ∧ Nx H) ∨ (J1.go j H ∧ ∃ N1 : Hp → Prop, (∀ H', N1 H' → ∃ k', k' < k ∧ W1 (j + 1) k' H') ∧ ∀ x H', J1.yld j H x H' → g1 x (wipe σ2 vs1) H' fun σ3 H5 => wipe σ3 vs1 = wipe σ2 vs1 ∧
        te σ3 H5 fun y H7 => ∃ (c : Int) (T : Int → Bool) (n : Nat), y = .int c ∧ H7 p = some (SetO w p T n) ∧ n + 1 < scanBound ∧ N1 (upd H7 p (SetO w p (fun j => T j || decide (j = c)) (if T c = true then n else n + 1)))))
theorem sc2_core {pins : List (Addr × Obj)} {s : Shared} {σ : L2.St} {H : Hp} {Q : VK} {elt tg iter tg1 iter1 : Expr} {scope : Scope} {own : List (Str × Nat)} {vs1 : List Nat} {pos pos' : Pos} {wi wi1 : TI} {g g1 : TG} {te : TE} {Qf : Value → Shared → Prop}
    (hc : X.calm = true) (hN : X.N.Nodup) (I : Inv X pins σ H s) (hi : PI X tg iter wi) (ok : BlkOk X.N X.env.scope scope own) (hv : ∀ i ∈ vs1, i ∈ own.map (·.2))
    (hg : ∀ (s : Shared) (H : Hp) (C : Addr) (cl : List (Str × Addr)) (fp : List Addr), PG (X.blk s H scope (compEnvC scope cl C X.env) fp) tg g)
    (he : ∀ (s : Shared) (H : Hp) (C : Addr) (cl : List (Str × Addr)) (fp : List Addr), PE (X.blk s H scope (compEnvC scope cl C X.env) fp) elt te) (hs : ∀ x, foldedSetIterable iter X.env x = pure x)
    (hi1 : ∀ (s : Shared) (H : Hp) (C : Addr) (cl : List (Str × Addr)) (fp : List Addr), PI (X.blk s H scope (compEnvC scope cl C X.env) fp) tg1 iter1 wi1)
    (hg1 : ∀ (s : Shared) (H : Hp) (C : Addr) (cl : List (Str × Addr)) (fp : List Addr), PG (X.blk s H scope (compEnvC scope cl C X.env) fp) tg1 g1)
    (hs1 : ∀ env x, foldedSetIterable iter1 env x = pure x) (h : tSc2 X.w wi g wi1 g1 te (own.map (·.2)) vs1 σ H Q)
    (fin : ∀ p C u m H', Inv X pins σ H' u → Q (.ref p) H' → u.heap.Ns C m → FpOk X pins H' C → compPost (model X.prog X.w) X.A X.xe none Qf (.ref p) C (.ok .next) u) :
    wpAny (model X.prog X.w) X.A (comprehension (two elt tg iter tg1 iter1 scope pos) scope X.env pos' (newSet (.type "set")) false (eval iter X.env) none) Qf X.xe s := by
  have fr : ∀ y ∈ scope.names, y.2 = .free → ∃ c, X.env.cells.lookup y.1 = some c := fun y hy e => (ok.free y hy e).elim (fun k => I.ok.has _ (.inl k)) fun k => I.ok.has _ (.inr k)
  refine wpAny_comprehension_free (use := none) rfl hs (closure_ok fr) ok.kind (fun y hy e => by rw [ok.uniq y hy, e]) (thn (hi.run pins s σ H _ I h) fun xv s1 hx => thn hx fun zv s2 h2 => ?_)
  obtain ⟨it, fp, tn, J, H2, e, I2, T, st2, f2, q⟩ := h2
  subst e
  refine PpSet.newSet_ok (newEnv_comp ?_)
  generalize hp : s2.heap.objs.size = p
  have hpn : H2 p = none := I2.hok.fresh (Nat.le_of_eq hp)
  obtain ⟨W, ⟨m0, w0⟩, turn⟩ := q p hpn
  generalize e3 : ({ s2 with heap := s2.heap.push { cls := .type "set", dict := none, data := .set #[] 0 (.fresh 0 0 (!X.w.params.followText "set-order")) } } : Shared) = s3
  have I3 : Inv X pins σ (upd H2 p (SetO X.w p (fun _ => false) 0)) s3 := by
    rw [← e3]
    refine I2.laid (t' := s2.toks) (fun b o z => Heap.get?_push_of_some _ z) (Nat.le_of_eq hp) ?_
    rw [← hp]
    exact setO_new (setR_fresh X.w)
  have h3 : s3.heap = s2.heap.push { cls := .type "set", dict := none, data := .set #[] 0 (.fresh 0 0 (!X.w.params.followText "set-order")) } := by rw [← e3]
  have f3 : ∀ b ∈ fp, FpOk X pins (upd H2 p (SetO X.w p (fun _ => false) 0)) b ∧ b < s3.heap.objs.size := fun b hb => by
    have lt : b < s2.heap.objs.size := by
      obtain ⟨o, z, _⟩ := T.obj _ _ st2 b hb
      exact Heap.lt_size z
    refine ⟨⟨?_, (f2 b hb).2⟩, by rw [h3, Heap.size_push]; exact Nat.lt_succ_of_lt lt⟩
    rw [upd_ne (by rw [← hp]; exact Nat.ne_of_lt lt)]
    exact (f2 b hb).1
  have st3 : tn 0 s3.heap := T.keep _ _ _ st2 fun b _ o z => by rw [h3]; exact Heap.get?_push_of_some _ z
  have I4 := block_start I3 ok hN f3
  generalize hH3 : upd H2 p (SetO X.w p (fun _ => false) 0) = H3 at I3 I4 w0 f3
  generalize hcl : cellsFrom (s3.heap.objs.size + 1) scope.names (cloFrom X.env.cells scope.names []) = cl at I4 ⊢
  have pg := hg s3 H3 s3.heap.objs.size cl fp
  have pe := he s3 H3 s3.heap.objs.size cl fp
  have pi1 := hi1 s3 H3 s3.heap.objs.size cl fp
  have pg1 := hg1 s3 H3 s3.heap.objs.size cl fp
  have nfp : ∀ b ∈ fp, H3 b = none := fun b hb => (f3 b hb).1.1
  show codeAny _ _ (.compStart (two elt tg iter tg1 iter1 scope pos) 0 (.ref it) (.ref p) (compEnvC scope cl s3.heap.objs.size X.env)) (compPost (model X.prog X.w) X.A X.xe none Qf (.ref p) s3.heap.objs.size) { s3 with heap := pushCells (s3.heap.push { cls := .type "dict", data := .dict #[] }) scope.names }
  generalize hce : compEnvC scope cl s3.heap.objs.size X.env = ce at I4 pg pe pi1 pg1 ⊢
  have cL : ce.locals = s3.heap.objs.size := by subst hce; rfl
  generalize e4 : ({ s3 with heap := pushCells (s3.heap.push { cls := .type "dict", data := .dict #[] }) scope.names } : Shared) = s4 at I4 ⊢
  have st4 : tn 0 s4.heap := T.keep _ _ _ st3 fun b _ o z => by rw [← e4]; exact pushCells_keeps _ _ _ _ (Heap.get?_push_of_some _ z)
  have stat : ∀ {σ' : L2.St} {H' : Hp} {u : Shared}, Inv (X.blk s3 H3 scope ce fp) [] σ' H' u → (∀ b ∈ fp, H' b = none) → ∀ b ∈ fp, FpOk (X.blk s3 H3 scope ce fp) [] H' b := fun {σ' H' u} I' hn b hb =>
    ⟨hn b hb, (I'.ok.exf b hb).1, I'.ok.exfs b hb, .inl hb, fun x c z => (I'.ok.exf b hb).2 x c z, fun r hr => absurd (show r ∈ ([] : List (Addr × Obj)) ++ [] from hr) (by simp)⟩
  have loop : codeAny (model X.prog X.w) X.A (.compLoop (two elt tg iter tg1 iter1 scope pos) 0 (.ref it) (.ref p) ce) (compPost (model X.prog X.w) X.A X.xe none Qf (.ref p) s3.heap.objs.size) s4 := by
    refine loop0 (hs1 ce) (fun n u => ∃ i H', Inv (X.blk s3 H3 scope ce fp) [] (wipe σ (own.map (·.2))) H' u ∧ tn i u.heap ∧ (∀ b ∈ fp, H' b = none) ∧ W i n H') ?_ m0 ⟨0, H3, I4, st4, nfp, w0⟩
    rintro n s5 ⟨i, H5, I5, st5, n5, w5⟩
    rcases turn i n H5 w5 with ⟨stop, qq⟩ | ⟨go, Nx, hNx, step⟩
    · refine thnF (T.done (X.blk s3 H3 scope ce fp) rfl rfl rfl hc i [] s5 _ H5 (fun _ _ => False) I5 (stat I5 n5) st5 stop) fun r s6 ⟨hr, I6⟩ => ?_
      subst hr
      have I7 : Inv X pins σ H5 s6 := I3.call' (ch := fp) I6.os I6.base I6.hok I6.bare fun b hb => ⟨(f3 b hb).1.2.2.2.1, (f3 b hb).1.2.1, (f3 b hb).1.2.2.2.2.1, (f3 b hb).1.2.2.2.2.2⟩
      have nC : H5 s3.heap.objs.size = none := by
        rw [← cL]
        exact I6.free
      obtain ⟨m, hn, _⟩ := I6.loc
      have hn2 : s6.heap.Ns ce.locals m := hn
      rw [cL] at hn2
      exact fin p s3.heap.objs.size s6 m H5 I7 qq hn2 (I3.fpOk (Nat.le_refl _) nC)
    · refine thnF (T.item (X.blk s3 H3 scope ce fp) rfl rfl rfl hc i [] s5 _ H5 (fun _ _ => False) I5 (stat I5 n5) st5 go) fun r s6 ⟨u, hr, h6⟩ => ?_
      subst hr
      refine thnF h6 fun _ s7 ⟨x, H7, I7, r7, y7, st7, n7⟩ => ?_
      have I7' := I7.pinned (stat I7 n7) (T.obj _ _ st7)
      refine thnF (pg.run _ s7 _ H7 x u _ I7' r7 (step x H7 y7)) fun _ s8 ⟨σ8, H8, I8, hw8, q8⟩ => ?_
      have done : ∀ {σ9 : L2.St} {u : Shared} {H' : Hp}, Inv (X.blk s3 H3 scope ce fp) ([] ++ pinsAt fp s7.heap) σ9 H' u → (wipe σ (own.map (·.2))).length = σ9.length → (∀ (j : Nat) v, (wipe σ (own.map (·.2)))[j]? = some (some v) → σ9[j]? = some (some v)) → Nx H' →
          ∃ m, m < n ∧ ∃ i H', Inv (X.blk s3 H3 scope ce fp) [] (wipe σ (own.map (·.2))) H' u ∧ tn i u.heap ∧ (∀ b ∈ fp, H' b = none) ∧ W i m H' := fun {σ9 u H'} I' hl hk nx => by
        obtain ⟨m', hm, w'⟩ := hNx H' nx
        have pin : ∀ b ∈ fp, ∀ o, s7.heap.get? b = some o → u.heap.get? b = some o ∧ H' b = none := fun b hb o z =>
          ⟨(I'.pin (b, o) (List.mem_append_right _ (List.mem_append_right _ (mem_pinsAt hb z)))).1, (I'.pin (b, o) (List.mem_append_right _ (List.mem_append_right _ (mem_pinsAt hb z)))).2.1⟩
        refine ⟨m', hm, i + 1, H', (I'.unpinned (pins := [])).weak hl hk, T.keep _ _ _ st7 fun b hb o z => (pin b hb o z).1, fun b hb => ?_, w'⟩
        obtain ⟨o, z, _⟩ := T.obj _ _ st7 b hb
        exact (pin b hb o z).2
      have hl8 : (wipe σ (own.map (·.2))).length = σ8.length := by rw [← hw8, wipe_length]
      have hk9 : ∀ (j : Nat) v, (wipe σ (own.map (·.2)))[j]? = some (some v) → (wipe σ8 vs1)[j]? = some (some v) := fun j v z => by
        rw [← hw8] at z
        obtain ⟨z1, z2⟩ := wipe_some z
        rw [wipe_out fun k => z2 (hv j k)]
        exact z1
      refine thnF (pi1.run _ s8 σ8 H8 _ I8 q8) fun xv s10 hx => thnF hx fun zv s11 h11 => ?_
      obtain ⟨it1, fp1, tn1, J1, H11, e1, I11, T1, st11, f11, W1, ⟨m1, w1⟩, turn1⟩ := h11
      subst e1
      have stat1 : ∀ {H' : Hp}, (∀ b ∈ fp1, H' b = none) → ∀ b ∈ fp1, FpOk (X.blk s3 H3 scope ce fp) ([] ++ pinsAt fp s7.heap) H' b := fun hn b hb => ⟨hn b hb, (f11 b hb).2⟩
      have inner : codeAny (model X.prog X.w) X.A (.compLoop (two elt tg iter tg1 iter1 scope pos) 1 (.ref it1) (.ref p) ce) (fun r u => match r with
          | .ok _ => ∃ m, m < n ∧ ∃ i H', Inv (X.blk s3 H3 scope ce fp) [] (wipe σ (own.map (·.2))) H' u ∧ tn i u.heap ∧ (∀ b ∈ fp, H' b = none) ∧ W i m H'
          | .error _ => False) s11 := by
        refine loop1 (fun k u => ∃ j H', Inv (X.blk s3 H3 scope ce fp) ([] ++ pinsAt fp s7.heap) (wipe σ8 vs1) H' u ∧ tn1 j u.heap ∧ (∀ b ∈ fp1, H' b = none) ∧ W1 j k H') ?_ m1 ⟨0, H11, I11.weak (wipe_length _ _) (fun j v z => (wipe_some z).1), st11, fun b hb => (f11 b hb).1, w1⟩
        rintro k s12 ⟨j, H12, I12, st12, n12, w12⟩
        rcases turn1 j k H12 w12 with ⟨stop1, nx1⟩ | ⟨go1, N1, hN1, step1⟩
        · refine thnF (T1.done (X.blk s3 H3 scope ce fp) rfl rfl rfl hc j _ s12 (wipe σ8 vs1) H12 (fun _ _ => False) I12 (stat1 n12) st12 stop1) fun r s13 ⟨hr, I13⟩ => ?_
          subst hr
          exact done I13 (hl8.trans (wipe_length σ8 vs1).symm) hk9 nx1
        · refine thnF (T1.item (X.blk s3 H3 scope ce fp) rfl rfl rfl hc j _ s12 (wipe σ8 vs1) H12 (fun _ _ => False) I12 (stat1 n12) st12 go1) fun r s13 ⟨u1, hr, h13⟩ => ?_
          subst hr
          refine thnF h13 fun _ s14 ⟨x1, H14, I14, r14, y14, st14, n14⟩ => ?_
          have I14' := I14.pinned (stat1 n14) (T1.obj _ _ st14)
          refine thnF (pg1.run _ s14 (wipe σ8 vs1) H14 x1 u1 _ I14' r14 (step1 x1 H14 y14)) fun _ s15 ⟨σ15, H15, I15, hw15, q15⟩ => ?_
          refine thnF (pe.run _ s15 σ15 H15 _ I15 q15) fun z s17 ⟨yv, H17, I17, r17, c0, T0, n0, ey, hD17, hz17, nx⟩ => ?_
          subst ey
          obtain ⟨tk, rfl⟩ := r17
          refine add_ok (X := X.blk s3 H3 scope ce fp) I17 hD17 hz17 fun s18 I18 => ?_
          obtain ⟨k', lk, w'⟩ := hN1 _ nx
          have pin : ∀ b ∈ fp1, ∀ o, s14.heap.get? b = some o → s18.heap.get? b = some o ∧ upd H17 p (SetO X.w p (fun j => T0 j || decide (j = c0)) (if T0 c0 = true then n0 else n0 + 1)) b = none := fun b hb o z =>
            ⟨(I18.pin (b, o) (List.mem_append_right _ (List.mem_append_right _ (mem_pinsAt hb z)))).1, (I18.pin (b, o) (List.mem_append_right _ (List.mem_append_right _ (mem_pinsAt hb z)))).2.1⟩
          refine ⟨k', lk, j + 1, _, I18.unpinned.weak (by rw [← hw15, wipe_length]) (fun j v z => by rw [← hw15] at z; exact (wipe_some z).1), T1.keep _ _ _ st14 fun b hb o z => (pin b hb o z).1, fun b hb => ?_, w'⟩
          obtain ⟨o, z, _⟩ := T1.obj _ _ st14 b hb
          exact (pin b hb o z).2
      exact start1 inner (T1.self X.A 0 _ _ _ st11 inner)
  exact PpSet.codeAny_compStart_set loop (T.self X.A 0 _ _ _ st4 loop)
theorem pe_sc2 {elt tg iter tg1 iter1 : Expr} {scope : Scope} {own : List (Str × Nat)} {vs1 : List Nat} {pos : Pos} {wi wi1 : TI} {g g1 : TG} {te : TE} {w : World} (hw : X.w = w) (hc : X.calm = true) (hN : X.N.Nodup) (hi : PI X tg iter wi) (ok : BlkOk X.N X.env.scope scope own) (hv : ∀ i ∈ vs1, i ∈ own.map (·.2))
    (hg : ∀ (s : Shared) (H : Hp) (C : Addr) (cl : List (Str × Addr)) (fp : List Addr), PG (X.blk s H scope (compEnvC scope cl C X.env) fp) tg g)
    (hi1 : ∀ (s : Shared) (H : Hp) (C : Addr) (cl : List (Str × Addr)) (fp : List Addr), PI (X.blk s H scope (compEnvC scope cl C X.env) fp) tg1 iter1 wi1)
    (hg1 : ∀ (s : Shared) (H : Hp) (C : Addr) (cl : List (Str × Addr)) (fp : List Addr), PG (X.blk s H scope (compEnvC scope cl C X.env) fp) tg1 g1)
    (he : ∀ (s : Shared) (H : Hp) (C : Addr) (cl : List (Str × Addr)) (fp : List Addr), PE (X.blk s H scope (compEnvC scope cl C X.env) fp) elt te) (hs : ∀ x, foldedSetIterable iter X.env x = pure x := by intro _; rfl) (hs1 : ∀ env x, foldedSetIterable iter1 env x = pure x := by intro _ _; rfl) :
    PE X (two elt tg iter tg1 iter1 scope pos) (tSc2 w wi g wi1 g1 te (own.map (·.2)) vs1) := by
  subst hw
  refine ⟨fun pins s σ H Q I h => ?_⟩
  rw [PpSet.eval_SetComp]
  refine sc2_core hc hN I hi ok hv hg he hs hi1 hg1 hs1 h fun p C u m H' I' q hn f => ⟨m, hn, fun h2 sb => ?_⟩
  obtain ⟨f0, f1, f2, f3, f4, f5⟩ := f
  exact ⟨.ref p, H', I'.turned (t' := u.toks) (fun b o hb e => (sb.2 b hb).trans e) f0 f1 f3 f4 f5, rfl, q⟩
end
end Sc

/-! sorted({.. for .. for ..}) over the data. -/
namespace Pl
open PySem PySem.Spec PyProof.Rows L2
open Evl (Ex)
variable {K : PySem.W.Frag} {ρ : Rho}
/-- at p the set of ks, which are of ms -/
def Held (w : World) (H : Hp) (p : Addr) (ms ks : List Int) : Prop := ∃ T : Int → Bool, H p = some (SetO w p T ks.length) ∧ ks.Nodup ∧ (∀ k, T k = true ↔ k ∈ ks) ∧ ∀ k ∈ ks, k ∈ ms
theorem Held.small {w : World} {H : Hp} {p : Addr} {ms ks : List Int} (h : Held w H p ms ks) : ks.length ≤ ms.length := by
  obtain ⟨T, _, nd, _, hs⟩ := h
  exact List.Nodup.length_le_of_subset nd fun k hk => hs k hk
theorem Held.add {w : World} {H : Hp} {p : Addr} {ms ks : List Int} {c : Int} {T : Int → Bool} (nd : ks.Nodup) (hT : ∀ k, T k = true ↔ k ∈ ks) (hs : ∀ k ∈ ks, k ∈ ms) (hc : c ∈ ms) :
    ∃ ks', Held w (upd H p (SetO w p (fun j => T j || decide (j = c)) (if T c = true then ks.length else ks.length + 1))) p ms ks' ∧ ∀ k, k ∈ ks' ↔ k ∈ ks ∨ k = c := by
  by_cases h : T c = true
  · refine ⟨ks, ⟨fun j => T j || decide (j = c), ?_, nd, fun k => ?_, hs⟩, fun k => ⟨.inl, fun z => ?_⟩⟩
    · rw [if_pos h]
      exact upd_same
    · rw [Bool.or_eq_true, decide_eq_true_eq, hT k]
      exact ⟨fun z => z.elim id fun e => by rw [e]; exact (hT c).mp h, .inl⟩
    · rcases z with z | z
      · exact z
      · rw [z]
        exact (hT c).mp h
  · have hn : c ∉ ks := fun z => h ((hT c).mpr z)
    refine ⟨c :: ks, ⟨fun j => T j || decide (j = c), ?_, List.nodup_cons.mpr ⟨hn, nd⟩, fun k => ?_, fun k hk => ?_⟩, fun k => ?_⟩
    · rw [if_neg h]
      exact upd_same
    · rw [Bool.or_eq_true, decide_eq_true_eq, hT k, List.mem_cons]
      exact Or.comm
    · rcases List.mem_cons.mp hk with z | z
      · rw [z]
        exact hc
      · exact hs k z
    · rw [List.mem_cons]
      exact Or.comm
theorem evF_sortedSc2 {w : World} {wi wi1 : TI} {g g1 : TG} {te : TE} {vs vs1 : List Nat} {ds : List D} (hi : EvI K wi ρ ds) (ps : D → List (Nat × D)) (es : D → List D) (ps1 : D → D → List (Nat × D)) (num : D → D → Int) (ms : List Int)
    (hg : ∀ d ∈ ds, EvG K g d (ps d)) (hs : ∀ d ∈ ds, ∀ p ∈ ps d, p.1 ∈ vs) (hi1 : ∀ d ∈ ds, EvI K wi1 (setR (wipeR ρ vs) (ps d)) (es d))
    (hg1 : ∀ d ∈ ds, ∀ e ∈ es d, EvG K g1 e (ps1 d e)) (hs1 : ∀ d ∈ ds, ∀ e ∈ es d, ∀ p ∈ ps1 d e, p.1 ∈ vs1) (he : ∀ d ∈ ds, ∀ e ∈ es d, EvD K te (setR (wipeR (setR (wipeR ρ vs) (ps d)) vs1) (ps1 d e)) (.int (num d e)))
    (hp : ms.Pairwise (· < ·)) (h64 : ms.length < 64) (hm : ∀ k, k ∈ ms ↔ ∃ d ∈ ds, ∃ e ∈ es d, num d e = k) :
    EvF K (tCB (rSortedSet w) (tCons (Sc.tSc2 w wi g wi1 g1 te vs vs1) tNil)) ρ (ms.map D.int) := fun S H σ ee v Q q =>
  hi S H σ ee v _ fun J S1 H1 x1 wk => fun p hpn => by
    refine ⟨fun i m H' => m = ds.length - i ∧ i ≤ ds.length ∧ ∃ S' ks, Ext S1 H1 S' H' ∧ S' p = none ∧ Held w H' p ms ks ∧ ∀ k, k ∈ ks ↔ ∃ d ∈ ds.take i, ∃ e ∈ es d, num d e = k,
      ⟨ds.length, by simp, Nat.zero_le _, S1, [], Ext.hid x1.sub hpn, sub_none x1.sub hpn, ⟨fun _ => false, upd_same, List.nodup_nil, fun k => by simp, fun k hk => by cases hk⟩, fun k => by simp⟩, ?_⟩
    rintro i m H' ⟨rfl, hi', S', ks, x, nS, hh, hk⟩
    by_cases hlt : i < ds.length
    · have hd : ds[i]? = some ds[i] := List.getElem?_eq_getElem hlt
      have hmem : ds[i] ∈ ds := List.getElem_mem hlt
      refine .inr ⟨wk.go S' H' i x.s x.sub hlt, fun H2 => ∃ S2 ks2, Ext S1 H1 S2 H2 ∧ S2 p = none ∧ Held w H2 p ms ks2 ∧ ∀ k, k ∈ ks2 ↔ ∃ d ∈ ds.take (i + 1), ∃ e ∈ es d, num d e = k, fun H2 z => ⟨ds.length - (i + 1), by omega, rfl, hlt, z⟩, fun xv H'' y => ?_⟩
      obtain ⟨S2, x2, r2⟩ := wk.yld S' H' i xv H'' ds[i] x.s x.sub hd y
      obtain ⟨T, hT1, nd, hT2, hT3⟩ := hh
      have nl : ∀ {S3 H3 : Hp}, Ext S2 H'' S3 H3 → S3 p = none := fun x3 => x3.dis p (x2.dis p nS (by rw [hT1]; exact fun z => nomatch z)) (by rw [x2.h p _ hT1]; exact fun z => nomatch z)
      refine hg _ hmem S2 H'' _ xv x2.sub r2 _ fun ws rws => ⟨?_, ?_⟩
      · rw [wipe_setV fun j hj => by
          obtain ⟨r, hr, rfl⟩ := List.mem_map.mp hj
          exact hs _ hmem r hr, wipe_wipe]
      have ev : Env K S2 (setV (L2.wipe σ vs) ((ps ds[i]).map (·.1)) ws) (setR (wipeR ρ vs) (ps ds[i])) := (((v.mono ((x1.s.trans x.s).trans x2.s)).wipe vs)).setV rws
      refine hi1 _ hmem S2 H'' _ x2.sub ev _ fun J1 S4 H4 x4 wk1 => ?_
      refine ⟨fun j n H5 => n = (es ds[i]).length - j ∧ j ≤ (es ds[i]).length ∧ ∃ S5 ks5, Ext S1 H1 S5 H5 ∧ Ex S4 S5 ∧ S5 p = none ∧ Held w H5 p ms ks5 ∧ ∀ k, k ∈ ks5 ↔ (∃ d ∈ ds.take i, ∃ e ∈ es d, num d e = k) ∨ ∃ e ∈ (es ds[i]).take j, num ds[i] e = k,
        ⟨_, rfl, Nat.zero_le _, S4, ks, (x.trans x2).trans x4, Ex.refl S4, nl x4, ⟨T, x4.h _ _ (x2.h _ _ hT1), nd, hT2, hT3⟩, fun k => by rw [hk k]; simp⟩, ?_⟩
      rintro j n H5 ⟨rfl, hj, S5, ks5, x5, e5, n5, hh5, hk5⟩
      by_cases hjl : j < (es ds[i]).length
      · have hje : (es ds[i])[j]? = some (es ds[i])[j] := List.getElem?_eq_getElem hjl
        have hjm : (es ds[i])[j] ∈ es ds[i] := List.getElem_mem hjl
        refine .inr ⟨wk1.go S5 H5 j e5 x5.sub hjl, fun H6 => ∃ S6 ks6, Ext S1 H1 S6 H6 ∧ Ex S4 S6 ∧ S6 p = none ∧ Held w H6 p ms ks6 ∧ ∀ k, k ∈ ks6 ↔ (∃ d ∈ ds.take i, ∃ e ∈ es d, num d e = k) ∨ ∃ e ∈ (es ds[i]).take (j + 1), num ds[i] e = k, fun H6 z => ⟨(es ds[i]).length - (j + 1), by omega, rfl, hjl, z⟩, fun yv H6 y1 => ?_⟩
        obtain ⟨S6, x6, r6⟩ := wk1.yld S5 H5 j yv H6 _ e5 x5.sub hje y1
        refine hg1 _ hmem _ hjm S6 H6 _ yv x6.sub r6 _ fun us rus => ⟨?_, ?_⟩
        · rw [wipe_setV fun a ha => by
            obtain ⟨r, hr, rfl⟩ := List.mem_map.mp ha
            exact hs1 _ hmem _ hjm r hr, wipe_wipe]
        have ev2 : Env K S6 _ (setR (wipeR (setR (wipeR ρ vs) (ps ds[i])) vs1) (ps1 ds[i] (es ds[i])[j])) := ((ev.mono ((x4.s.trans e5).trans x6.s)).wipe vs1).setV rus
        refine he _ hmem _ hjm S6 H6 _ x6.sub ev2 _ fun zv S7 H7 x7 r7 => ?_
        cases r7
        obtain ⟨T5, g1', g2, g3, g4⟩ := hh5
        have small : ks5.length ≤ ms.length := List.Nodup.length_le_of_subset g2 fun k hk => g4 k hk
        have x67 := x6.trans x7
        have hp7 : H7 p = some (SetO w p T5 ks5.length) := x67.h _ _ g1'
        have n7 : S7 p = none := x67.dis p n5 (by rw [g1']; exact fun z => nomatch z)
        have hcm : num ds[i] (es ds[i])[j] ∈ ms := (hm _).mpr ⟨_, hmem, _, hjm, rfl⟩
        obtain ⟨ks7, hh7, hk7⟩ := Held.add (w := w) (H := H7) (p := p) g2 g3 g4 hcm
        refine ⟨_, T5, ks5.length, rfl, hp7, by unfold scanBound; omega, S7, ks7, ?_, e5.trans x67.s, n7, hh7, fun k => ?_⟩
        · have xx := x5.trans x67
          refine ⟨xx.s, fun a o ha => ?_, fun a o ha => ?_, xx.dis⟩
          · rw [upd_ne (ne_of_none ha hpn)]
            exact xx.h a o ha
          · rw [upd_ne fun z => by rw [z, n7] at ha; cases ha]
            exact xx.sub a o ha
        · rw [hk7 k, hk5 k, ← List.take_append_getElem hjl]
          constructor
          · rintro ((h | ⟨e, he', h⟩) | h)
            · exact .inl h
            · exact .inr ⟨e, List.mem_append_left _ he', h⟩
            · exact .inr ⟨_, List.mem_append_right _ (List.mem_singleton.mpr rfl), h.symm⟩
          · rintro (h | ⟨e, he', h⟩)
            · exact .inl (.inl h)
            · rcases List.mem_append.mp he' with z | z
              · exact .inl (.inr ⟨e, z, h⟩)
              · rw [List.mem_singleton.mp z] at h
                exact .inr h.symm
      · have e0 : j = (es ds[i]).length := by omega
        subst e0
        refine .inl ⟨wk1.stop S5 H5 e5 x5.sub, S5, ks5, x5, n5, hh5, fun k => ?_⟩
        rw [hk5 k, List.take_length, ← List.take_append_getElem hlt]
        constructor
        · rintro (⟨d, hd', h⟩ | h)
          · exact ⟨d, List.mem_append_left _ hd', h⟩
          · exact ⟨_, List.mem_append_right _ (List.mem_singleton.mpr rfl), h⟩
        · rintro ⟨d, hd', h⟩
          rcases List.mem_append.mp hd' with z | z
          · exact .inl ⟨d, z, h⟩
          · rw [List.mem_singleton.mp z] at h
            exact .inr h
    · have e0 : i = ds.length := by omega
      subst e0
      obtain ⟨T, hT1, nd, hT2, hT3⟩ := hh
      have kk : ∀ k, k ∈ ks ↔ k ∈ ms := fun k => by rw [hk k, hm k, List.take_length]
      have small : ks.length ≤ ms.length := List.Nodup.length_le_of_subset nd fun k hk' => hT3 k hk'
      refine .inl ⟨wk.stop S' H' x.s x.sub, p, T, ks.length, rfl, hT1, by omega, fun ys p2 py my ly hp2 => ?_⟩
      have ey : ys = ms := Sx.rise_one py hp fun k => by rw [my k, hT2 k, kk k]
      subst ey
      have x2 := x1.trans x
      exact q p2 _ S' _ (x2.trans (Ext.hid x2.sub hp2)) (Evl.fresh_back x2.h hp2) (sub_none x2.sub hp2) upd_same (RdL.ofInts ys)
end Pl

/-! Things that are changed in place: a region of trees, each object of it at one place alone. -/
namespace Pl
open PySem PySem.Spec PyProof.Rows L2
open Evl (Ex)

inductive Shp where
  | lst | dic (ks : List L2.Key) | ins (C : Addr) (fs : List Str)
inductive M where
  | d (d : D) | n (s : Shp) (ms : List M)
  /-- the table at a of a def's code objects, each of the name q -/
  | tb (q : Str) (a : Addr)
/-- what the table at P tells in H, with the codes of it told by S -/
def TbAt (S H : Hp) (P : Addr) (q : Str) : Prop := ∃ qs : Array Value, H P = some (.tbl qs) ∧ TriplesOk qs.toList ∧ ∀ (at_ : Pos) (v : Value), codeAmong at_ qs.toList = some v → ∃ c, v = .ref c ∧ S c = some (LamX.CodeO c q)
theorem TbAt.mono {S S' H H' : Hp} {P : Addr} {q : Str} (h : TbAt S H P q) (e : Ex S S') (k : H' P = H P) : TbAt S' H' P q := by
  obtain ⟨qs, h1, h2, h3⟩ := h
  refine ⟨qs, by rw [k]; exact h1, h2, fun p v z => ?_⟩
  obtain ⟨c, e1, e2⟩ := h3 p v z
  exact ⟨c, e1, e _ _ e2⟩
def Shp.ho (s : Shp) (o : HO) (vs : List V) : Prop := match s with
  | .lst => o = .lst vs
  | .dic ks => ks.length = vs.length ∧ o = .dK (ks.zip vs)
  | .ins C fs => fs.length = vs.length ∧ ∃ dx, o = .ins C dx (fs.zip vs)
mutual
inductive Own (K : PySem.W.Frag) (S H : Hp) : V → M → List Addr → Prop
  | d {v : V} {d : D} : Rd K S v d → Own K S H v (.d d) []
  | n {a : Addr} {o : HO} {s : Shp} {vs : List V} {ms : List M} {fp : List Addr} : H a = some o → s.ho o vs → OwnL K S H vs ms fp → Own K S H (.ref a) (.n s ms) (a :: fp)
  | tb {a : Addr} {q : Str} : TbAt S H a q → Own K S H (.ref a) (.tb q a) [a]
inductive OwnL (K : PySem.W.Frag) (S H : Hp) : List V → List M → List Addr → Prop
  | nil : OwnL K S H [] [] []
  | cons {v : V} {vs : List V} {m : M} {ms : List M} {f g : List Addr} : Own K S H v m f → OwnL K S H vs ms g → OwnL K S H (v :: vs) (m :: ms) (f ++ g)
end
section
variable {K : PySem.W.Frag} {S S' H H' : Hp}
mutual
theorem Own.mono (e : Ex S S') : ∀ {v : V} {m : M} {fp : List Addr}, Own K S H v m fp → (∀ a ∈ fp, H' a = H a) → Own K S' H' v m fp
  | _, _, _, .d h, _ => .d (h.mono e)
  | _, _, _, .n h s r, k => .n (by rw [k _ List.mem_cons_self]; exact h) s (OwnL.mono e r fun a ha => k a (List.mem_cons_of_mem _ ha))
  | _, _, _, .tb h, k => .tb (h.mono e (k _ List.mem_cons_self))
theorem OwnL.mono (e : Ex S S') : ∀ {vs : List V} {ms : List M} {fp : List Addr}, OwnL K S H vs ms fp → (∀ a ∈ fp, H' a = H a) → OwnL K S' H' vs ms fp
  | _, _, _, .nil, _ => .nil
  | _, _, _, .cons h r, k => .cons (Own.mono e h fun a ha => k a (List.mem_append_left _ ha)) (OwnL.mono e r fun a ha => k a (List.mem_append_right _ ha))
end
mutual
theorem Own.lays : ∀ {v : V} {m : M} {fp : List Addr}, Own K S H v m fp → ∀ a ∈ fp, H a ≠ none
  | _, _, _, .d _, a, ha => nomatch ha
  | _, _, _, .n h _ r, a, ha => by
    rcases List.mem_cons.mp ha with e | ha
    · rw [e, h]; exact fun z => nomatch z
    · exact OwnL.lays r a ha
  | _, _, _, .tb h, a, ha => by
    obtain ⟨qs, h1, _⟩ := h
    rw [List.mem_singleton.mp ha, h1]
    exact fun z => nomatch z
theorem OwnL.lays : ∀ {vs : List V} {ms : List M} {fp : List Addr}, OwnL K S H vs ms fp → ∀ a ∈ fp, H a ≠ none
  | _, _, _, .nil, a, ha => nomatch ha
  | _, _, _, .cons h r, a, ha => by
    rcases List.mem_append.mp ha with ha | ha
    · exact Own.lays h a ha
    · exact OwnL.lays r a ha
end
theorem OwnL.length : ∀ {vs : List V} {ms : List M} {fp : List Addr}, OwnL K S H vs ms fp → vs.length = ms.length
  | _, _, _, .nil => rfl
  | _, _, _, .cons _ r => congrArg (· + 1) r.length
theorem OwnL.append : ∀ {vs ws : List V} {ms ns : List M} {f g : List Addr}, OwnL K S H vs ms f → OwnL K S H ws ns g → OwnL K S H (vs ++ ws) (ms ++ ns) (f ++ g)
  | _, _, _, _, _, _, .nil, s => s
  | _, _, _, _, _, _, .cons h r, s => by rw [List.append_assoc]; exact .cons h (OwnL.append r s)
theorem OwnL.split : ∀ {vs ws : List V} {ms ns : List M} {f : List Addr}, vs.length = ms.length → OwnL K S H (vs ++ ws) (ms ++ ns) f → ∃ f1 f2, f = f1 ++ f2 ∧ OwnL K S H vs ms f1 ∧ OwnL K S H ws ns f2
  | [], _, [], _, f, _, h => ⟨[], f, rfl, .nil, h⟩
  | _ :: vs, _, _ :: ms, _, _, l, .cons h r => by
    obtain ⟨f1, f2, rfl, h1, h2⟩ := OwnL.split (vs := vs) (ms := ms) (Nat.succ.inj l) r
    exact ⟨_, _, (List.append_assoc _ _ _).symm, .cons h h1, h2⟩
/-- plain data -/
theorem OwnL.ofD : ∀ {vs : List V} {ds : List D}, RdL K S vs ds → OwnL K S H vs (ds.map M.d) []
  | _, _, .nil => .nil
  | _, _, .cons h r => by
    have z := OwnL.cons (Own.d (H := H) h) (OwnL.ofD r)
    exact z
theorem OwnL.toD : ∀ {vs : List V} {ds : List D} {f : List Addr}, OwnL K S H vs (ds.map M.d) f → f = [] ∧ RdL K S vs ds
  | _, [], _, .nil => ⟨rfl, .nil⟩
  | _, _ :: _, _, .cons h r => by
    cases h with
    | d h =>
      obtain ⟨e, r'⟩ := OwnL.toD r
      subst e
      exact ⟨rfl, .cons h r'⟩
end
/-! ### places within a tree -/
def M.at : List Nat → M → Option M
  | [], m => some m
  | i :: π, .n _ ms => match ms[i]? with
    | some m => M.at π m
    | none => none
  | _ :: _, .d _ => none
  | _ :: _, .tb _ _ => none
def M.put (x : M) : List Nat → M → M
  | [], _ => x
  | i :: π, .n s ms => match ms[i]? with
    | some m => .n s (ms.set i (M.put x π m))
    | none => .n s ms
  | _ :: _, M.d z => M.d z
  | _ :: _, M.tb q a => M.tb q a
inductive Loc (H : Hp) : V → M → List Nat → V → Prop
  | nil {v : V} {m : M} : Loc H v m [] v
  | cons {a : Addr} {o : HO} {s : Shp} {vs : List V} {ms : List M} {i : Nat} {m : M} {v u : V} {π : List Nat} : H a = some o → s.ho o vs → vs[i]? = some v → ms[i]? = some m → Loc H v m π u → Loc H (.ref a) (.n s ms) (i :: π) u
theorem zip_inj {α β : Type} : ∀ {ks : List α} {xs ys : List β}, ks.length = xs.length → ks.length = ys.length → ks.zip xs = ks.zip ys → xs = ys
  | [], [], [], _, _, _ => rfl
  | _ :: ks, x :: xs, y :: ys, h1, h2, e => by
    simp only [List.zip_cons_cons, List.cons.injEq, Prod.mk.injEq, true_and] at e
    rw [e.1, zip_inj (Nat.succ.inj h1) (Nat.succ.inj h2) e.2]
theorem Shp.uniq {s : Shp} {o : HO} {xs ys : List V} (h1 : s.ho o xs) (h2 : s.ho o ys) : xs = ys := by
  cases s with
  | lst =>
    have e1 : o = .lst xs := h1
    have e2 : o = .lst ys := h2
    rw [e1] at e2
    cases e2
    rfl
  | dic ks =>
    obtain ⟨l1, e1⟩ := h1
    obtain ⟨l2, e2⟩ := h2
    rw [e1] at e2
    exact zip_inj l1 l2 (HO.dK.inj e2)
  | ins C fs =>
    obtain ⟨l1, d1, e1⟩ := h1
    obtain ⟨l2, d2, e2⟩ := h2
    rw [e1] at e2
    exact zip_inj l1 l2 (HO.ins.inj e2).2.2
section
variable {K : PySem.W.Frag} {S S' H H' : Hp}
theorem Loc.mono (e : Ex H H') {v u : V} {m : M} {π : List Nat} (h : Loc H v m π u) : Loc H' v m π u := by
  induction h with
  | nil => exact .nil
  | cons h1 h2 h3 h4 _ ih => exact .cons (e _ _ h1) h2 h3 h4 ih
theorem OwnL.focus : ∀ {vs : List V} {ms : List M} {fp : List Addr} {i : Nat} {m : M}, OwnL K S H vs ms fp → ms[i]? = some m → ∃ v f0 f1 f2, vs[i]? = some v ∧ fp = f0 ++ f1 ++ f2 ∧ Own K S H v m f1 ∧
    ∀ (S' H' : Hp) (m' : M) (f1' : List Addr), Ex S S' → (∀ a, a ∈ f0 ∨ a ∈ f2 → H' a = H a) → Own K S' H' v m' f1' → OwnL K S' H' vs (ms.set i m') (f0 ++ f1' ++ f2)
  | _, _, _, _, _, .nil, e => by simp at e
  | _, _, _, 0, _, .cons (v := v) (f := f) (g := g) h r, e => by
    simp at e; subst e
    refine ⟨v, [], f, g, rfl, by simp, h, fun S' H' m' f1' x k o => ?_⟩
    rw [List.nil_append]
    exact .cons o (r.mono x fun a ha => k a (.inr ha))
  | _, _, _, i + 1, _, .cons (v := v) (f := f) (g := g) h r, e => by
    obtain ⟨u, f0, f1, f2, h1, h2, h3, h4⟩ := OwnL.focus (i := i) r (by simpa using e)
    refine ⟨u, f ++ f0, f1, f2, by simpa using h1, by rw [h2]; simp [List.append_assoc], h3, fun S' H' m' f1' x k o => ?_⟩
    have z := OwnL.cons (h.mono x fun a ha => k a (.inl (List.mem_append_left _ ha))) (h4 S' H' m' f1' x (fun a ha => k a (ha.imp (List.mem_append_right _) id)) o)
    simpa [List.append_assoc] using z
theorem Own.focus {v u : V} {m : M} {π : List Nat} (l : Loc H v m π u) : ∀ {fp : List Addr}, Own K S H v m fp → ∃ m1 f0 f1 f2, M.at π m = some m1 ∧ fp = f0 ++ f1 ++ f2 ∧ Own K S H u m1 f1 ∧
    ∀ (S' H' : Hp) (m' : M) (f1' : List Addr), Ex S S' → (∀ a, a ∈ f0 ∨ a ∈ f2 → H' a = H a) → Own K S' H' u m' f1' → Own K S' H' v (M.put m' π m) (f0 ++ f1' ++ f2) := by
  induction l with
  | nil => exact fun {fp} h => ⟨_, [], fp, [], rfl, by simp, h, fun S' H' m' f1' x k o => by simpa [M.put] using o⟩
  | cons h1 h2 h3 h4 l ih =>
    intro fp h
    cases h with
    | n g1 g2 r =>
      rw [h1] at g1
      cases g1
      have e := Shp.uniq h2 g2
      subst e
      obtain ⟨w, f0, f1, f2, k1, k2, k3, k4⟩ := OwnL.focus r h4
      rw [h3] at k1
      cases k1
      obtain ⟨m1, e0, e1, e2, j1, j2, j3, j4⟩ := ih k3
      rename_i a _ _ _ _ _ _ _ _ _ _
      refine ⟨m1, a :: f0 ++ e0, e1, e2 ++ f2, ?_, ?_, j3, fun S' H' m' f1' x k o => ?_⟩
      · simp only [M.at, h4]; exact j1
      · rw [k2, j2]; simp [List.append_assoc]
      · have z := k4 S' H' _ _ x (fun b hb => k b (by
          rcases hb with hb | hb
          · exact .inl (List.mem_append_left _ (List.mem_cons_of_mem _ hb))
          · exact .inr (List.mem_append_right _ hb))) (j4 S' H' m' f1' x (fun b hb => k b (by
          rcases hb with hb | hb
          · exact .inl (List.mem_append_right _ hb)
          · exact .inr (List.mem_append_left _ hb))) o)
        have y := Own.n (K := K) (S := S') (H := H') (by rw [k a (.inl (by simp))]; exact h1) h2 z
        simp only [M.put, h4]
        simpa [List.append_assoc] using y
end
end Pl

/-! The logic of statements that change things in place: slots as before, and a region of trees. -/
namespace Pl
open PySem PySem.Spec PyProof.Rows L2
open Evl (Ex)

abbrev Gs := List (Addr × M)
open Classical in
/-- the base and, of the region, what stands now -/
noncomputable def cov (H0 H : Hp) (fp : List Addr) : Hp := fun a => if a ∈ fp then H a else H0 a
theorem cov_in {H0 H : Hp} {fp : List Addr} {a : Addr} (h : a ∈ fp) : cov H0 H fp a = H a := if_pos h
theorem cov_out {H0 H : Hp} {fp : List Addr} {a : Addr} (h : a ∉ fp) : cov H0 H fp a = H0 a := if_neg h
theorem cov_nil {H0 H : Hp} : cov H0 H [] = H0 := funext fun a => cov_out (fun h => nomatch h)
def gv (g : Gs) : List V := g.map fun x => V.ref x.1
def gm (g : Gs) : List M := g.map (·.2)
section
variable (K : PySem.W.Frag)
structure RG (S0 H0 : Hp) (g : Gs) (S H : Hp) (fp : List Addr) : Prop where
  own : OwnL K S H (gv g) (gm g) fp
  nd : fp.Nodup
  no : ∀ a ∈ fp, H0 a = none ∧ S0 a = none
def SG (S0 H0 : Hp) (ρ : Rho) (g : Gs) (S H : Hp) (σ : L2.St) : Prop := ∃ fp, RG K S0 H0 g S H fp ∧ Stt K S0 (cov H0 H fp) ρ S H σ
end
section
variable {K : PySem.W.Frag} {S0 H0 S H S' H' : Hp} {σ : L2.St} {ρ ρ' : Rho} {g g' : Gs} {fp fp' : List Addr}
/-- from one state to a later one -/
theorem Stt.mv (s : Stt K S0 (cov H0 H fp) ρ S H σ) (no : ∀ a ∈ fp, H0 a = none ∧ S0 a = none) (lays : ∀ a ∈ fp, H a ≠ none) (eS : Ex S S') (eH : Ex S' H')
    (k : ∀ a, a ∉ fp → H a ≠ none → H' a = H a) (dis : ∀ a, a ∉ fp → S a = none → H a ≠ none → S' a = none) (new : ∀ a ∈ fp', (a ∈ fp ∨ H a = none) ∧ S' a = none) : Stt K S0 (cov H0 H' fp') ρ S' H' σ := by
  have base : ∀ a o, H0 a = some o → a ∉ fp ∧ H a = some o := fun a o e => by
    have n : a ∉ fp := fun z => by rw [(no a z).1] at e; cases e
    exact ⟨n, s.ext.h a o (by rw [cov_out n]; exact e)⟩
  refine ⟨⟨s.ext.s.trans eS, fun a o e => ?_, eH, fun a h1 h2 => ?_⟩, s.env.mono eS, fun i ds h => ?_, s.apart⟩
  · by_cases hf : a ∈ fp'
    · rw [cov_in hf] at e; exact e
    · rw [cov_out hf] at e
      obtain ⟨n, h⟩ := base a o e
      rw [k a n (by rw [h]; exact fun z => nomatch z)]
      exact h
  · by_cases hf : a ∈ fp'
    · exact (new a hf).2
    · rw [cov_out hf] at h2
      cases q : H0 a with
      | none => exact absurd q h2
      | some o =>
        obtain ⟨n, h⟩ := base a o q
        have hn : H a ≠ none := by rw [h]; exact fun z => nomatch z
        exact dis a n (s.ext.dis a h1 (by rw [cov_out n]; exact h2)) hn
  · obtain ⟨p, vs, h1, h2, h3, h4, h5⟩ := s.own i ds h
    have hn : H p ≠ none := by rw [h4]; exact fun z => nomatch z
    have n : p ∉ fp := fun z => by rw [cov_in z] at h2; exact hn h2
    refine ⟨p, vs, h1, ?_, dis p n h3 hn, by rw [k p n hn]; exact h4, h5.mono eS⟩
    have n' : p ∉ fp' := fun z => (new p z).1.elim n hn
    rw [cov_out n'] 
    rw [cov_out n] at h2
    exact h2
theorem SG.noS (s : Stt K S0 (cov H0 H fp) ρ S H σ) (r : RG K S0 H0 g S H fp) : ∀ a ∈ fp, S a = none := fun a ha => s.ext.dis a (r.no a ha).2 (by rw [cov_in ha]; exact r.own.lays a ha)
/-- all of the region as it is -/
theorem SG.go (s : SG K S0 H0 ρ g S H σ) (x : Ext S H S' H') : SG K S0 H0 ρ g S' H' σ := by
  obtain ⟨fp, r, s⟩ := s
  have n := SG.noS s r
  have same : ∀ a, H a ≠ none → H' a = H a := fun a ha => by
    cases q : H a with
    | none => exact absurd q ha
    | some o => exact x.h a o q
  exact ⟨fp, ⟨r.own.mono x.s fun a ha => same a (r.own.lays a ha), r.nd, r.no⟩, s.mv r.no r.own.lays x.s x.sub (fun a _ h => same a h) (fun a _ h1 h2 => x.dis a h1 h2) fun a ha => ⟨.inl ha, x.dis a (n a ha) (r.own.lays a ha)⟩⟩
theorem SG.env (s : SG K S0 H0 ρ g S H σ) : Env K S σ ρ := s.elim fun _ z => z.2.env
theorem SG.sub (s : SG K S0 H0 ρ g S H σ) : Ex S H := s.elim fun _ z => z.2.ext.sub
end
/-! ### statements -/
inductive Rs where
  | d (d : D) | o (es : List D) | t (m : M)
section
variable (K : PySem.W.Frag)
def Res (S0 H0 : Hp) (ρ : Rho) (g : Gs) (S H : Hp) (σ : L2.St) (v : V) : Rs → Prop
  | .d d => SG K S0 H0 ρ g S H σ ∧ Rd K S v d
  | .o es => SG K S0 H0 (ρ ++ [.o es]) g S H (σ ++ [some v])
  | .t m => ∃ p, v = .ref p ∧ SG K S0 H0 ρ (g ++ [(p, m)]) S H σ
structure FM where
  nx : Rho → Gs → Prop := fun _ _ => False
  rt : Rs → Gs → Prop := fun _ _ => False
  bk : Rho → Gs → Prop := fun _ _ => False
  ct : Rho → Gs → Prop := fun _ _ => False
structure AccM (S0 H0 S : Hp) (F : FM) (Dd : Ends) : Prop where
  nx : ∀ ρ g S' H' σ, F.nx ρ g → Ex S S' → SG K S0 H0 ρ g S' H' σ → Dd.nx σ H'
  bk : ∀ ρ g S' H' σ, F.bk ρ g → Ex S S' → SG K S0 H0 ρ g S' H' σ → Dd.bk σ H'
  ct : ∀ ρ g S' H' σ, F.ct ρ g → Ex S S' → SG K S0 H0 ρ g S' H' σ → Dd.ct σ H'
  rt : ∀ r g v ρ S' H' σ, F.rt r g → Res K S0 H0 ρ g S' H' σ v r → Dd.rt v H'
def TM (t : TS) (ρ : Rho) (g : Gs) (F : FM) : Prop := ∀ S0 H0 S H σ Dd, SG K S0 H0 ρ g S H σ → AccM K S0 H0 S F Dd → t Dd σ H
/-- an expression that may change the region -/
def EvX (te : TE) (ρ : Rho) (g : Gs) (r : Rs) (g' : Gs) : Prop := ∀ S0 H0 S H σ, SG K S0 H0 ρ g S H σ → ∀ Q : VK, (∀ v S' H', Ex S S' → Res K S0 H0 ρ g' S' H' σ v r → Q v H') → te σ H Q
def EvXT (tt : TT) (ρ : Rho) (g : Gs) (b : Bool) (g' : Gs) : Prop := ∀ S0 H0 S H σ, SG K S0 H0 ρ g S H σ → ∀ Q : Bool → Hp → Prop, (∀ S' H', Ex S S' → SG K S0 H0 ρ g' S' H' σ → Q b H') → tt σ H Q
end
section
variable {K : PySem.W.Frag} {S0 H0 S H S' H' : Hp} {σ : L2.St} {ρ ρ' ρ1 : Rho} {g g' g1 : Gs} {F G : FM} {t u : TS} {te : TE} {c : TT} {d : D} {es ds : List D} {Dd : Ends} {i : Nat} {b : Bool} {r : Rs}
theorem AccM.mono (e : Ex S S') (a : AccM K S0 H0 S F Dd) : AccM K S0 H0 S' F Dd :=
  ⟨fun ρ g S2 H2 σ h x s => a.nx ρ g S2 H2 σ h (e.trans x) s, fun ρ g S2 H2 σ h x s => a.bk ρ g S2 H2 σ h (e.trans x) s, fun ρ g S2 H2 σ h x s => a.ct ρ g S2 H2 σ h (e.trans x) s, a.rt⟩
theorem EvX.of (h : EvD K te ρ d) : EvX K te ρ g (.d d) g := fun S0 H0 S H σ s Q q => h S H σ s.sub s.env Q fun v S' H' x r => q v S' H' x.s ⟨s.go x, r⟩
theorem EvXT.of (h : EvT K c ρ b) : EvXT K c ρ g b g := fun S0 H0 S H σ s Q q => h S H σ s.sub s.env Q fun S' H' x => q S' H' x.s (s.go x)
theorem TM.weak (k : TM K t ρ g F) (n : ∀ ρ g, F.nx ρ g → G.nx ρ g) (r : ∀ d g, F.rt d g → G.rt d g) (b : ∀ ρ g, F.bk ρ g → G.bk ρ g) (c : ∀ ρ g, F.ct ρ g → G.ct ρ g) : TM K t ρ g G := fun S0 H0 S H σ Dd s a =>
  k S0 H0 S H σ Dd s ⟨fun ρ g S' H' σ h => a.nx ρ g S' H' σ (n ρ g h), fun ρ g S' H' σ h => a.bk ρ g S' H' σ (b ρ g h), fun ρ g S' H' σ h => a.ct ρ g S' H' σ (c ρ g h), fun d g v ρ S' H' σ h => a.rt d g v ρ S' H' σ (r d g h)⟩
theorem TM.seqP {N : Rho → Gs → Prop} (h : TM K t ρ g { F with nx := N }) (k : ∀ ρ' g', N ρ' g' → TM K u ρ' g' F) : TM K (tSeq t u) ρ g F := fun S0 H0 S H σ Dd s a =>
  h S0 H0 S H σ { Dd with nx := u Dd } s ⟨fun ρ' g' S' H' σ' n e s' => k ρ' g' n S0 H0 S' H' σ' Dd s' (a.mono e), a.bk, a.ct, a.rt⟩
theorem TM.seq (h : TM K t ρ g { F with nx := fun r x => r = ρ1 ∧ x = g1 }) (k : TM K u ρ1 g1 F) : TM K (tSeq t u) ρ g F := TM.seqP h fun _ _ e => by
  obtain ⟨e1, e2⟩ := e
  subst e1
  subst e2
  exact k
theorem TM.next (h : F.nx ρ g) : TM K tNext ρ g F := fun S0 H0 S H σ Dd s a => a.nx ρ g S H σ h (Ex.refl S) s
theorem TM.brk (h : F.bk ρ g) : TM K tBreak ρ g F := fun S0 H0 S H σ Dd s a => a.bk ρ g S H σ h (Ex.refl S) s
theorem TM.cont (h : F.ct ρ g) : TM K tCont ρ g F := fun S0 H0 S H σ Dd s a => a.ct ρ g S H σ h (Ex.refl S) s
theorem TM.retN (k : F.rt (.d .non) g) : TM K tRetN ρ g F := fun S0 H0 S H σ Dd s a => a.rt _ g .non ρ S H σ k ⟨s, .non⟩
theorem TM.retX (h : EvX K te ρ g r g') (k : F.rt r g') : TM K (tRet te) ρ g F := fun S0 H0 S H σ Dd s a =>
  h S0 H0 S H σ s _ fun v S' H' _ y => a.rt r g' v ρ S' H' σ k y
theorem TM.ifX (h : EvXT K c ρ g b g') (h1 : b = true → TM K t ρ g' F) (h2 : b = false → TM K u ρ g' F) : TM K (tIfS c t u) ρ g F := fun S0 H0 S H σ Dd s a =>
  h S0 H0 S H σ s _ fun S' H' x s' => by
    cases b with
    | true =>
      show t Dd σ H'
      exact h1 rfl S0 H0 S' H' σ Dd s' (a.mono x)
    | false =>
      show u Dd σ H'
      exact h2 rfl S0 H0 S' H' σ Dd s' (a.mono x)
theorem TM.guard (h : EvXT K c ρ g b g') (h1 : b = true → TM K t ρ g' { F with nx := fun _ _ => False }) (h2 : b = false → TM K u ρ g' F) : TM K (tSeq (tIfS c t tNext) u) ρ g F :=
  TM.seqP (N := fun r x => (r = ρ ∧ x = g') ∧ b = false) (TM.ifX h (fun e => (h1 e).weak (fun _ _ z => z.elim) (fun _ _ z => z) (fun _ _ z => z) fun _ _ z => z) fun e => TM.next ⟨⟨rfl, rfl⟩, e⟩) fun r x z => by
    obtain ⟨⟨e1, e3⟩, e2⟩ := z
    subst e1
    subst e3
    exact h2 e2
theorem TM.while (Pv : Nat → Rho → Gs → Prop) {m0 : Nat} (h0 : Pv m0 ρ g) (hs : ∀ (m : Nat) (ρ' : Rho) (g' : Gs), Pv m ρ' g' → ∃ b g2, EvXT K c ρ' g' b g2 ∧ (b = true → TM K t ρ' g2 { F with nx := fun r x => ∃ m', m' < m ∧ Pv m' r x, ct := fun r x => ∃ m', m' < m ∧ Pv m' r x, bk := F.nx }) ∧ (b = false → F.nx ρ' g2)) :
    TM K (tWhile c t) ρ g F := fun S0 H0 S H σ Dd s a => by
  refine ⟨fun m σ' H' => ∃ ρ' g' S', Pv m ρ' g' ∧ Ex S S' ∧ SG K S0 H0 ρ' g' S' H' σ', ⟨m0, ρ, g, S, h0, Ex.refl S, s⟩, ?_⟩
  rintro m σ' H' ⟨ρ', g', S', p, e, s'⟩
  obtain ⟨b, g2, hb, h1, h2⟩ := hs m ρ' g' p
  refine hb S0 H0 S' H' σ' s' _ fun S2 H2 x2 s2 => ?_
  have e2 := e.trans x2
  cases b with
  | true =>
    refine ⟨fun σ3 H3 => ∃ m', m' < m ∧ ∃ ρ3 g3 S3, Pv m' ρ3 g3 ∧ Ex S S3 ∧ SG K S0 H0 ρ3 g3 S3 H3 σ3, fun σ3 H3 z => z, ?_⟩
    exact h1 rfl S0 H0 S2 H2 σ' _ s2 ⟨fun ρ3 g3 S3 H3 σ3 ⟨m', l, n⟩ e3 s3 => ⟨m', l, ρ3, g3, S3, n, e2.trans e3, s3⟩, fun ρ3 g3 S3 H3 σ3 n e3 s3 => a.nx ρ3 g3 S3 H3 σ3 n (e2.trans e3) s3, fun ρ3 g3 S3 H3 σ3 ⟨m', l, n⟩ e3 s3 => ⟨m', l, ρ3, g3, S3, n, e2.trans e3, s3⟩, a.rt⟩
  | false => exact a.nx ρ' g2 S2 H2 σ' (h2 rfl) e2 s2
theorem SG.setV {ps : List (Nat × D)} {vs : List V} (s : SG K S0 H0 ρ g S H σ) (r : RdL K S vs (ps.map (·.2))) : SG K S0 H0 (setR ρ ps) g S H (Pl.setV σ (ps.map (·.1)) vs) := by
  obtain ⟨fp, rg, s⟩ := s
  exact ⟨fp, rg, s.setV r⟩
/-- for over things that stand outside the region -/
theorem TM.for {wi : TI} {tg : TG} (hi : EvI K wi ρ ds) (Pv : Nat → Rho → Gs → Prop) (h0 : Pv 0 ρ g) (hs : ∀ (i : Nat) (d : D) (ρ' : Rho) (g' : Gs), ds[i]? = some d → Pv i ρ' g' → ∃ ps, EvG K tg d ps ∧ TM K t (setR ρ' ps) g' { F with nx := Pv (i + 1), ct := Pv (i + 1), bk := F.nx })
    (hd : ∀ ρ' g', Pv ds.length ρ' g' → F.nx ρ' g') : TM K (tFor wi tg t) ρ g F := fun S0 H0 S H σ Dd s a =>
  hi S H σ s.sub s.env _ fun J S1 H1 x1 wk => by
    refine ⟨fun i m σ' H' => m = ds.length - i ∧ i ≤ ds.length ∧ ∃ ρ' g' S', Pv i ρ' g' ∧ Ex S1 S' ∧ SG K S0 H0 ρ' g' S' H' σ', ⟨ds.length, by simp, Nat.zero_le _, ρ, g, S1, h0, Ex.refl S1, s.go x1⟩, ?_⟩
    rintro i m σ' H' ⟨rfl, hi, ρ', g', S', p, e, s'⟩
    by_cases hlt : i < ds.length
    · have hdd : ds[i]? = some ds[i] := List.getElem?_eq_getElem hlt
      obtain ⟨ps, hg, ht⟩ := hs i ds[i] ρ' g' hdd p
      refine .inr ⟨wk.go S' H' i e s'.sub hlt, fun σ2 H2 => ∃ ρ2 g2 S2, Pv (i + 1) ρ2 g2 ∧ Ex S1 S2 ∧ SG K S0 H0 ρ2 g2 S2 H2 σ2, fun σ2 H2 z => ⟨ds.length - (i + 1), by omega, rfl, hlt, z⟩, fun xv H'' y => ?_⟩
      obtain ⟨S2, x2, r2⟩ := wk.yld S' H' i xv H'' ds[i] e s'.sub hdd y
      refine hg S2 H'' σ' xv x2.sub r2 _ fun ws rw => ?_
      have e2 : Ex S1 S2 := e.trans x2.s
      refine ht S0 H0 S2 H'' _ _ ((s'.go x2).setV rw) ⟨fun ρ3 g3 S3 H3 σ3 n e3 s3 => ⟨ρ3, g3, S3, n, e2.trans e3, s3⟩, fun ρ3 g3 S3 H3 σ3 n e3 s3 => a.nx ρ3 g3 S3 H3 σ3 n ((x1.s.trans e2).trans e3) s3, fun ρ3 g3 S3 H3 σ3 n e3 s3 => ⟨ρ3, g3, S3, n, e2.trans e3, s3⟩, a.rt⟩
    · have e0 : i = ds.length := by omega
      subst e0
      exact .inl ⟨wk.stop S' H' e s'.sub, a.nx ρ' g' S' H' σ' (hd ρ' g' p) (x1.s.trans e) s'⟩
/-! ### assignment -/
theorem TM.asgX {tg : TG} {ps : List (Nat × D)} (h : EvX K te ρ g (.d d) g') (hg : EvG K tg d ps) (k : F.nx (setR ρ ps) g') : TM K (tAsg te tg) ρ g F := fun S0 H0 S H σ Dd s a =>
  h S0 H0 S H σ s _ fun v S1 H1 x1 ⟨s1, r1⟩ => hg S1 H1 σ v s1.sub r1 _ fun vs rv => a.nx _ g' S1 H1 _ k x1 (s1.setV rv)
theorem TM.dropX (h : EvX K te ρ g (.d d) g') (k : F.nx ρ g') : TM K (tDrop te) ρ g F := fun S0 H0 S H σ Dd s a =>
  h S0 H0 S H σ s _ fun v S1 H1 x1 z => a.nx _ g' S1 H1 _ k x1 z.1
/-- a temporary list is put into a slot -/
theorem Stt.pull {v : V} (s : Stt K S0 H0 (ρ ++ [.o es]) S H (σ ++ [some v])) : Stt K S0 H0 (ρ.set i (.o es)) S H (σ.set i (some v)) ∧ Stt K S0 H0 ρ S H σ := by
  have hl : σ.length = ρ.length := by
    have z := s.env.len
    simp only [List.length_append, List.length_cons, List.length_nil] at z
    omega
  have up : ∀ {j : Nat} {x : Sl}, ρ[j]? = some x → (ρ ++ [Sl.o es])[j]? = some x ∧ (σ ++ [some v])[j]? = σ[j]? := fun {j x} h => by
    have hj : j < ρ.length := (List.getElem?_eq_some_iff.mp h).1
    exact ⟨by rw [List.getElem?_append_left hj]; exact h, by rw [List.getElem?_append_left (by omega)]⟩
  have s0 : Stt K S0 H0 ρ S H σ := ⟨s.ext, ⟨hl, fun j x h => by
      obtain ⟨e1, e2⟩ := up h
      rw [← e2]
      exact s.env.val j x e1⟩, fun j ds h => by
      obtain ⟨e1, e2⟩ := up h
      rw [← e2]
      exact s.own j ds e1, fun j k a b p h1 h2 e1 e2 => s.apart j k a b p (up h1).1 (up h2).1 (by rw [(up h1).2]; exact e1) (by rw [(up h2).2]; exact e2)⟩
  refine ⟨?_, s0⟩
  have hlast : (ρ ++ [Sl.o es])[ρ.length]? = some (.o es) := by simp
  have hlastσ : (σ ++ [some v])[ρ.length]? = some (some v) := by rw [← hl]; simp
  obtain ⟨p, vs, h1, h2, h3, h4, h5⟩ := s.own ρ.length es hlast
  rw [hlastσ] at h1
  cases h1
  refine s0.setO h2 h3 h4 h5 fun j ds _ hj e => ?_
  have hjl : j < ρ.length := (List.getElem?_eq_some_iff.mp hj).1
  have z := s.apart j ρ.length ds es p (up hj).1 hlast (by rw [(up hj).2]; exact e) hlastσ
  omega
theorem TM.asgO (h : EvX K te ρ g (.o es) g') (k : F.nx (ρ.set i (.o es)) g') : TM K (tAsg te (gName i)) ρ g F := fun S0 H0 S H σ Dd s a =>
  h S0 H0 S H σ s _ fun v S1 H1 x1 ⟨fp, rg, s1⟩ => a.nx _ g' S1 H1 _ k x1 ⟨fp, rg, s1.pull.1⟩
theorem TM.asgN (h : EvX K te ρ g (.t m) g') (k : ∀ p, F.nx (ρ.set i (.k (.adr p))) (g' ++ [(p, m)])) : TM K (tAsg te (gName i)) ρ g F := fun S0 H0 S H σ Dd s a =>
  h S0 H0 S H σ s _ fun v S1 H1 x1 ⟨p, e, fp, rg, s1⟩ => by
    subst e
    exact a.nx _ _ S1 H1 _ (k p) x1 ⟨fp, rg, s1.set (.adr p)⟩
end
end Pl

/-! Things that are changed in place: calls, ends, forgetting, writing at a place. -/
namespace Pl
open PySem PySem.Spec PyProof.Rows L2
open Evl (Ex)
section
variable {K : PySem.W.Frag} {S0 H0 S H S' H' : Hp} {σ : L2.St} {ρ ρ' ρ1 : Rho} {g g' g1 g2 : Gs} {F G : FM} {t u : TS} {te : TE} {c : TT} {d : D} {es ds : List D} {Dd : Ends} {i : Nat} {b : Bool} {r : Rs}
theorem OwnL.perm (h : List.Perm g g') : ∀ {fp : List Addr}, OwnL K S H (gv g) (gm g) fp → ∃ fp', List.Perm fp fp' ∧ OwnL K S H (gv g') (gm g') fp' := by
  induction h with
  | nil => exact fun {fp} o => ⟨fp, .refl _, o⟩
  | cons x _ ih =>
    intro fp o
    cases o with
    | cons h r =>
      obtain ⟨fp', p, o'⟩ := ih r
      exact ⟨_, p.append_left _, .cons h o'⟩
  | swap x y l =>
    intro fp o
    cases o with
    | cons h r =>
      cases r with
      | cons h2 r2 =>
        refine ⟨_, ?_, OwnL.cons h2 (OwnL.cons h r2)⟩
        rw [← List.append_assoc, ← List.append_assoc]
        exact List.perm_append_comm.append_right _
  | trans _ _ ih1 ih2 =>
    intro fp o
    obtain ⟨f1, p1, o1⟩ := ih1 o
    obtain ⟨f2, p2, o2⟩ := ih2 o1
    exact ⟨f2, p1.trans p2, o2⟩
theorem cov_perm {fp fp' : List Addr} (h : ∀ a, a ∈ fp ↔ a ∈ fp') : cov H0 H fp = cov H0 H fp' := funext fun a => by
  by_cases ha : a ∈ fp
  · rw [cov_in ha, cov_in ((h a).mp ha)]
  · rw [cov_out ha, cov_out fun z => ha ((h a).mpr z)]
theorem SG.perm (h : List.Perm g g') (s : SG K S0 H0 ρ g S H σ) : SG K S0 H0 ρ g' S H σ := by
  obtain ⟨fp, rg, s⟩ := s
  obtain ⟨fp', p, o⟩ := rg.own.perm h
  refine ⟨fp', ⟨o, p.nodup_iff.mp rg.nd, fun a ha => rg.no a (p.mem_iff.mpr ha)⟩, ?_⟩
  rw [← cov_perm fun a => p.mem_iff]
  exact s
theorem gv_app : gv (g ++ g') = gv g ++ gv g' := List.map_append
theorem gm_app : gm (g ++ g') = gm g ++ gm g' := List.map_append
theorem gv_len : (gv g).length = (gm g).length := by unfold gv gm; rw [List.length_map, List.length_map]
theorem SG.forget (s : SG K S0 H0 ρ (g ++ g') S H σ) : SG K S0 H0 ρ g S H σ := by
  obtain ⟨fp, rg, s⟩ := s
  have o := rg.own
  rw [gv_app, gm_app] at o
  obtain ⟨f1, f2, e, o1, o2⟩ := o.split gv_len
  have n := SG.noS s rg
  have sub : ∀ a ∈ f1, a ∈ fp := fun a ha => e ▸ List.mem_append_left _ ha
  exact ⟨f1, ⟨o1, (List.nodup_append.mp (e ▸ rg.nd)).1, fun a ha => rg.no a (sub a ha)⟩, s.mv rg.no rg.own.lays (Ex.refl S) s.ext.sub (fun a _ _ => rfl) (fun a _ h _ => h) fun a ha => ⟨.inl (sub a ha), n a (sub a ha)⟩⟩
theorem TM.perm (h : List.Perm g g') (k : TM K t ρ g' F) : TM K t ρ g F := fun S0 H0 S H σ Dd s a => k S0 H0 S H σ Dd (s.perm h) a
theorem TM.forget (h : List.Perm g (g1 ++ g2)) (k : TM K t ρ g1 F) : TM K t ρ g F := fun S0 H0 S H σ Dd s a => k S0 H0 S H σ Dd (s.perm h).forget a
/-! ### slots left behind -/
theorem Stt.clear (s : Stt K S0 H0 ρ S H σ) : Stt K S0 H0 [] S H [] := ⟨s.ext, ⟨rfl, fun i d h => by simp at h⟩, fun i ds h => by simp at h, fun i j a b p h => by simp at h⟩
theorem Stt.last {v : V} (s : Stt K S0 H0 (ρ ++ [.o es]) S H (σ ++ [some v])) : Stt K S0 H0 [.o es] S H [some v] := by
  have hl : σ.length = ρ.length := by
    have z := s.env.len
    simp only [List.length_append, List.length_cons, List.length_nil] at z
    omega
  have hlast : (ρ ++ [Sl.o es])[ρ.length]? = some (.o es) := by simp
  have hlastσ : (σ ++ [some v])[ρ.length]? = some (some v) := by rw [← hl]; simp
  refine ⟨s.ext, ⟨rfl, fun i d h => ?_⟩, fun i ds h => ?_, fun i j a b p h1 h2 _ _ => ?_⟩
  · match i, h with
    | 0, h => simp at h
    | i + 1, h => simp at h
  · match i, h with
    | 0, h =>
      simp at h
      subst h
      obtain ⟨p, vs, h1, h⟩ := s.own ρ.length es hlast
      rw [hlastσ] at h1
      exact ⟨p, vs, h1, h⟩
    | i + 1, h => simp at h
  · match i, j, h1, h2 with
    | 0, 0, _, _ => rfl
    | i + 1, _, h1, _ => simp at h1
    | 0, j + 1, _, h2 => simp at h2
theorem Res.bare {v : V} (s : Res K S0 H0 ρ g S H σ v r) : Res K S0 H0 [] g S H [] v r := by
  cases r with
  | d d =>
    obtain ⟨⟨fp, rg, s⟩, r⟩ := s
    exact ⟨⟨fp, rg, s.clear⟩, r⟩
  | o es =>
    obtain ⟨fp, rg, s⟩ := s
    exact ⟨fp, rg, s.last⟩
  | t m =>
    obtain ⟨p, e, fp, rg, s⟩ := s
    exact ⟨p, e, fp, rg, s.clear⟩
/-! ### calls -/
/-- own lists beside a caller's slots -/
theorem Stt.beside {B : Hp} {v : V} (s : Stt K S0 B ρ S H σ) (h : ∃ p vs, v = .ref p ∧ B p = none ∧ S p = none ∧ H p = some (.lst vs) ∧ RdL K S vs es) (new : ∀ p : Addr, v = .ref p → ∀ (j : Nat) (ds : List D), ρ[j]? = some (.o ds) → σ[j]? ≠ some (some (.ref p))) :
    Stt K S0 B (ρ ++ [.o es]) S H (σ ++ [some v]) := by
  have hl := s.env.len
  have dn : ∀ {j : Nat} {x : Sl}, (ρ ++ [Sl.o es])[j]? = some x → (j < ρ.length ∧ ρ[j]? = some x ∧ (σ ++ [some v])[j]? = σ[j]?) ∨ (j = ρ.length ∧ x = .o es ∧ (σ ++ [some v])[j]? = some (some v)) := fun {j x} e => by
    by_cases hj : j < ρ.length
    · rw [List.getElem?_append_left hj] at e
      exact .inl ⟨hj, e, by rw [List.getElem?_append_left (by omega)]⟩
    · have hj' : j < ρ.length + 1 := by
        have z := (List.getElem?_eq_some_iff.mp e).1
        simpa using z
      have ej : j = ρ.length := by omega
      subst ej
      simp at e
      exact .inr ⟨rfl, e.symm, by rw [← hl]; simp⟩
  refine ⟨s.ext, ⟨by rw [List.length_append, List.length_append, hl]; rfl, fun j x e => ?_⟩, fun j ds e => ?_, fun j k a b p e1 e2 e3 e4 => ?_⟩
  · rcases dn e with ⟨_, e, q⟩ | ⟨_, e, _⟩
    · rw [q]; exact s.env.val j x e
    · cases e
  · rcases dn e with ⟨_, e, q⟩ | ⟨_, e, q⟩
    · rw [q]; exact s.own j ds e
    · cases e
      obtain ⟨p, vs, e1, h⟩ := h
      exact ⟨p, vs, by rw [q, e1], h⟩
  · rcases dn e1 with ⟨_, e1, q1⟩ | ⟨j1, e1, q1⟩
    · rcases dn e2 with ⟨_, e2, q2⟩ | ⟨_, _, q2⟩
      · exact s.apart j k a b p e1 e2 (by rw [← q1]; exact e3) (by rw [← q2]; exact e4)
      · rw [q2] at e4
        cases e4
        rw [q1] at e3
        exact absurd e3 (new p rfl j a e1)
    · rcases dn e2 with ⟨_, e2, q2⟩ | ⟨j2, _, _⟩
      · rw [q1] at e3
        cases e3
        rw [q2] at e4
        exact absurd e4 (new p rfl k b e2)
      · rw [j1, j2]
/-- what a callee leaves, seen by its caller -/
theorem SG.ret {fs f2 : List Addr} {v : V} (s : Stt K S0 (cov H0 H (fs ++ f2)) ρ S H σ) (o1 : OwnL K S H (gv g) (gm g) fs) (o2 : OwnL K S H (gv g2) (gm g2) f2) (nd : (fs ++ f2).Nodup) (no : ∀ a ∈ fs ++ f2, H0 a = none ∧ S0 a = none)
    (q : Res K S (cov H (fun _ => none) fs) [] g' S' H' [] v r) : Ex S S' ∧ Res K S0 H0 ρ (g2 ++ g') S' H' σ v r := by
  have lays : ∀ a ∈ fs ++ f2, H a ≠ none := fun a ha => by
    rcases List.mem_append.mp ha with h | h
    · exact o1.lays a h
    · exact o2.lays a h
  have dj : ∀ a ∈ f2, a ∉ fs := fun a h2 h1 => (List.nodup_append.mp nd).2.2 a h1 a h2 rfl
  -- one and the same for all kinds of results
  have main : ∀ {ρc : Rho} {σc : L2.St} {gc : Gs}, SG K S (cov H (fun _ => none) fs) ρc gc S' H' σc → ∃ fc, Ex S S' ∧ RG K S0 H0 (g2 ++ gc) S' H' (f2 ++ fc) ∧ Stt K S0 (cov H0 H' (f2 ++ fc)) ρ S' H' σ ∧ Stt K S (cov (cov H (fun _ => none) fs) H' fc) ρc S' H' σc ∧
      (∀ a, a ∉ fs → H a ≠ none → (cov (cov H (fun _ => none) fs) H' fc) a ≠ none) ∧ (∀ a, a ∈ f2 ++ fc → a ∉ fc → a ∉ fs ∧ H a ≠ none) ∧ ∀ a, H0 a ≠ none → a ∉ fs ∧ H a ≠ none := fun {ρc σc gc} sc => by
    obtain ⟨fc, rc, sc⟩ := sc
    have cin : ∀ a, a ∉ fs → cov H (fun _ => none) fs a = H a := fun a h => cov_out h
    have cn : ∀ a ∈ fc, a ∈ fs ∨ H a = none := fun a ha => by
      by_cases h : a ∈ fs
      · exact .inl h
      · have z := (rc.no a ha).1
        rw [cin a h] at z
        exact .inr z
    have keep : ∀ a, a ∉ fs → H a ≠ none → cov (cov H (fun _ => none) fs) H' fc a = H a := fun a h1 h2 => by
      rw [cov_out fun z => (cn a z).elim h1 h2, cin a h1]
    have same : ∀ a, a ∉ fs → H a ≠ none → H' a = H a := fun a h1 h2 => by
      cases e : H a with
      | none => exact absurd e h2
      | some o => exact sc.ext.h a o ((keep a h1 h2).trans e)
    have eS : Ex S S' := sc.ext.s
    have nS := SG.noS sc rc
    have h0n : ∀ a, H0 a ≠ none → a ∉ fs ∧ H a ≠ none := fun a h => by
      have nf : a ∉ fs ++ f2 := fun z => h (no a z).1
      refine ⟨fun z => nf (List.mem_append_left _ z), ?_⟩
      cases e : H0 a with
      | none => exact absurd e h
      | some o =>
        rw [s.ext.h a o (by rw [cov_out nf]; exact e)]
        exact fun z => nomatch z
    refine ⟨fc, eS, ⟨?_, ?_, fun a ha => ?_⟩, ?_, sc, fun a h1 h2 => by rw [keep a h1 h2]; exact h2, fun a h1 h2 => ?_, h0n⟩
    · rw [gv_app, gm_app]
      exact (o2.mono eS fun a ha => same a (dj a ha) (o2.lays a ha)).append rc.own
    · refine List.nodup_append.mpr ⟨(List.nodup_append.mp nd).2.1, rc.nd, fun a ha b hb e => ?_⟩
      subst e
      exact (cn a hb).elim (dj a ha) (o2.lays a ha)
    · rcases List.mem_append.mp ha with ha | ha
      · exact no a (List.mem_append_right _ ha)
      · rcases cn a ha with h | h
        · exact no a (List.mem_append_left _ h)
        · refine ⟨?_, ?_⟩
          · cases e : H0 a with
            | none => rfl
            | some o => exact absurd h (h0n a (by rw [e]; exact fun z => nomatch z)).2
          · cases e : S0 a with
            | none => rfl
            | some o => rw [s.ext.sub a o (s.ext.s a o e)] at h; cases h
    · refine s.mv no lays eS sc.ext.sub (fun a h1 h2 => same a (fun z => h1 (List.mem_append_left _ z)) h2) (fun a h1 h2 h3 => ?_) fun a ha => ?_
      · have h1' : a ∉ fs := fun z => h1 (List.mem_append_left _ z)
        exact sc.ext.dis a h2 (by rw [keep a h1' h3]; exact h3)
      · rcases List.mem_append.mp ha with ha | ha
        · have z := o2.lays a ha
          exact ⟨.inl (List.mem_append_right _ ha), sc.ext.dis a (s.ext.dis a (no a (List.mem_append_right _ ha)).2 (by rw [cov_in (List.mem_append_right _ ha)]; exact z)) (by rw [keep a (dj a ha) z]; exact z)⟩
        · exact ⟨(cn a ha).imp (List.mem_append_left _) id, nS a ha⟩
    · rcases List.mem_append.mp h1 with ha | ha
      · exact ⟨dj a ha, o2.lays a ha⟩
      · exact absurd ha h2
  cases r with
  | d d =>
    obtain ⟨sc, rd⟩ := q
    obtain ⟨fc, e, rg, st, _⟩ := main sc
    exact ⟨e, ⟨_, rg, st⟩, rd⟩
  | t m =>
    obtain ⟨p, ev, sc⟩ := q
    obtain ⟨fc, e, rg, st, _⟩ := main sc
    refine ⟨e, p, ev, _, ?_, st⟩
    show RG K S0 H0 ((g2 ++ g') ++ [(p, m)]) S' H' (f2 ++ fc)
    rw [List.append_assoc]
    exact rg
  | o es =>
    obtain ⟨fc, e, rg, st, sc, k1, k2, k3⟩ := main q
    refine ⟨e, _, rg, ?_⟩
    obtain ⟨p, vs, h1, h2, h3, h4, h5⟩ := sc.own 0 es rfl
    have h1 : v = .ref p := by simpa using h1
    subst h1
    have hn : p ∈ fs ∨ H p = none := by
      by_cases h : p ∈ fs
      · exact .inl h
      · refine .inr ?_
        cases z : H p with
        | none => rfl
        | some o => exact absurd h2 (k1 p h (by rw [z]; exact fun y => nomatch y))
    have nfc : p ∉ fc := fun z => by
      rw [cov_in z, h4] at h2
      cases h2
    refine st.beside ⟨p, vs, rfl, ?_, h3, h4, h5⟩ fun p' ep j ds hj ej => ?_
    · have nf : p ∉ f2 ++ fc := fun z => by
        obtain ⟨a1, a2⟩ := k2 p z nfc
        exact hn.elim a1 a2
      rw [cov_out nf]
      cases z : H0 p with
      | none => rfl
      | some o =>
        obtain ⟨a1, a2⟩ := k3 p (by rw [z]; exact fun y => nomatch y)
        exact (hn.elim a1 a2).elim
    · cases ep
      obtain ⟨q', us, g1, g2', g3, g4, g5⟩ := s.own j ds hj
      rw [ej] at g1
      cases g1
      have nq : H p ≠ none := by rw [g4]; exact fun y => nomatch y
      rcases hn with h | h
      · rw [cov_in (List.mem_append_left _ h)] at g2'
        exact nq g2'
      · exact nq h
end
end Pl

/-! Things that are changed in place: a def's promise, a look at the region as data. -/
namespace Pl
open PySem PySem.Spec PyProof.Rows L2
open Evl (Ex)
section
variable (K : PySem.W.Frag)
/-- a def's promise: what stands in the region before and behind -/
def spG (Rel : List D → Gs → Rs → Gs → Prop) : Sp := fun vs H Q _ => ∃ S H0 ds g r g', SG K S H0 [] g S H [] ∧ RdL K S vs ds ∧ Rel ds g r g' ∧ ∀ v S' H', Ex S S' → Res K S H0 [] g' S' H' [] v r → Q v H'
end
section
variable {K : PySem.W.Frag} {S0 H0 S H S' H' : Hp} {σ : L2.St} {ρ ρ' ρ1 ρv : Rho} {g g' g1 g2 : Gs} {F G : FM} {t u : TS} {te : TE} {tA : TA} {c : TT} {d : D} {es ds : List D} {Dd : Ends} {i : Nat} {b : Bool} {r : Rs} {E : XK}
/-- a call that takes the part g1 of the region -/
theorem ex_call {Rel : List D → Gs → Rs → Gs → Prop} (hp : List.Perm g (g1 ++ g2)) (ha : EvA K tA ρ ds) (hr : Rel ds g1 r g') : EvX K (tCall (spG K Rel) [] E tA) ρ g r (g2 ++ g') := fun S0 H0 S H σ s Q q =>
  ha S H σ s.sub s.env _ fun vs S1 H1 x1 r1 => by
    have s1 := (s.go x1).perm hp
    obtain ⟨fp, rg, st⟩ := s1
    have o := rg.own
    rw [gv_app, gm_app] at o
    obtain ⟨fs, f2, e, o1, o2⟩ := o.split gv_len
    subst e
    have n := SG.noS st rg
    have hc : cov (cov H1 (fun _ => none) fs) H1 fs = H1 := funext fun a => by
      by_cases h : a ∈ fs
      · rw [cov_in h]
      · rw [cov_out h, cov_out h]
    refine ⟨S1, cov H1 (fun _ => none) fs, ds, g1, r, g', ⟨fs, ⟨o1, (List.nodup_append.mp rg.nd).1, fun a ha => ⟨cov_in ha, n a (List.mem_append_left _ ha)⟩⟩, ?_⟩, by rw [List.append_nil]; exact r1, hr, fun v S2 H2 _ z => ?_⟩
    · rw [hc]
      exact (⟨Ext.refl st.ext.sub, ⟨rfl, fun i d h => by simp at h⟩, fun i ds h => by simp at h, fun i j a b p h => by simp at h⟩ : Stt K S1 H1 [] S1 H1 [])
    · obtain ⟨e, y⟩ := SG.ret st o1 o2 rg.nd rg.no z
      exact q v S2 H2 (x1.s.trans e) y
theorem EvX.perm (hp : List.Perm g' g2) (h : EvX K te ρ g r g') (hn : ∀ m, r ≠ .t m) : EvX K te ρ g r g2 := fun S0 H0 S H σ s Q q => h S0 H0 S H σ s Q fun v S' H' e z => q v S' H' e <| by
  cases r with
  | d d => exact ⟨z.1.perm hp, z.2⟩
  | o es => exact SG.perm hp z
  | t m => exact absurd rfl (hn m)
theorem EvX.test (h : EvX K te ρ g (.d (.bl b)) g') : EvXT K (tTest te) ρ g b g' := fun S0 H0 S H σ s Q q => h S0 H0 S H σ s _ fun v S' H' e z => by
  obtain ⟨z1, z2⟩ := z
  cases z2
  exact ⟨b, rfl, q S' H' e z1⟩
theorem EvX.tb (h : EvX K te ρ g (.d (.bl b)) g') : EvXT K (tB te) ρ g b g' := fun S0 H0 S H σ s Q q => h S0 H0 S H σ s _ fun v S' H' e z => by
  obtain ⟨z1, z2⟩ := z
  cases z2
  exact ⟨b, rfl, q S' H' e z1⟩
theorem EvXT.not (h : EvXT K c ρ g b g') : EvXT K (tNot c) ρ g (!b) g' := fun S0 H0 S H σ s Q q => h S0 H0 S H σ s _ fun S' H' e z => q S' H' e z
/-- own lists that are told become data -/
theorem EvX.tell (h : EvX K te ρ g (.o es) g') : EvX K te ρ g (.d (.lst es)) g' := fun S0 H0 S H σ s Q q => h S0 H0 S H σ s Q fun v S' H' e z => by
  obtain ⟨fp, rg, st⟩ := z
  have hl : σ.length = ρ.length := by
    have z := st.env.len
    simp only [List.length_append, List.length_cons, List.length_nil] at z
    omega
  have hlast : (ρ ++ [Sl.o es])[ρ.length]? = some (.o es) := by simp
  have hlastσ : (σ ++ [some v])[ρ.length]? = some (some v) := by rw [← hl]; simp
  obtain ⟨S2, e2, st2⟩ := st.freeze hlast
  have n := SG.noS st rg
  have hs : (ρ ++ [Sl.o es]).set ρ.length (.k (.lst es)) = ρ ++ [.k (.lst es)] := by simp
  rw [hs] at st2
  obtain ⟨w, w1, w2⟩ := st2.env.val ρ.length (.lst es) (by simp)
  rw [hlastσ] at w1
  cases w1
  have up : ∀ {j : Nat} {x : Sl}, ρ[j]? = some x → (ρ ++ [Sl.k (.lst es)])[j]? = some x ∧ (σ ++ [some v])[j]? = σ[j]? := fun {j x} h => by
    have hj : j < ρ.length := (List.getElem?_eq_some_iff.mp h).1
    exact ⟨by rw [List.getElem?_append_left hj]; exact h, by rw [List.getElem?_append_left (by omega)]⟩
  refine q v S2 H' (e.trans e2) ⟨⟨fp, ⟨rg.own.mono e2 fun a _ => rfl, rg.nd, rg.no⟩, st2.ext, ⟨hl, fun j x h => ?_⟩, fun j ds h => ?_, fun j k a b p h1 h2 e1 e2 => ?_⟩, w2⟩
  · obtain ⟨a1, a2⟩ := up h
    rw [← a2]
    exact st2.env.val j x a1
  · obtain ⟨a1, a2⟩ := up h
    rw [← a2]
    exact st2.own j ds a1
  · exact st2.apart j k a b p (up h1).1 (up h2).1 (by rw [(up h1).2]; exact e1) (by rw [(up h2).2]; exact e2)
/-- .. is None -/
theorem EvX.isN {z : D} (h : EvX K te ρ g (.d d) g') (hr : RV K rr d .non z) : EvX K (tOp rr te (tC .non)) ρ g (.d z) g' := fun S0 H0 S H σ s Q q => h S0 H0 S H σ s _ fun v S' H' e y => by
  obtain ⟨y1, y2⟩ := y
  refine hr S' H' v .non y1.sub y2 .non Q fun w S2 H2 x2 r2 => q w S2 H2 (e.trans x2.s) ⟨y1.go x2, r2⟩
theorem RG.go {fp : List Addr} (rg : RG K S0 H0 g S H fp) (st : Stt K S0 (cov H0 H fp) ρ S H σ) (x : Ext S H S' H') : RG K S0 H0 g S' H' fp ∧ Stt K S0 (cov H0 H' fp) ρ S' H' σ := by
  have n := SG.noS st rg
  have same : ∀ a, H a ≠ none → H' a = H a := fun a ha => by
    cases q : H a with
    | none => exact absurd q ha
    | some o => exact x.h a o q
  exact ⟨⟨rg.own.mono x.s fun a ha => same a (rg.own.lays a ha), rg.nd, rg.no⟩, st.mv rg.no rg.own.lays x.s x.sub (fun a _ h => same a h) (fun a _ h1 h2 => x.dis a h1 h2) fun a ha => ⟨.inl ha, x.dis a (n a ha) (rg.own.lays a ha)⟩⟩
theorem SG.besideF {fp : List Addr} {p : Addr} {vs : List V} (rg0 : RG K S0 H0 g S H fp) (st0 : Stt K S0 (cov H0 H fp) ρ S H σ) (hp : H p = none) (rg : RG K S0 H0 g S' H' fp) (st : Stt K S0 (cov H0 H' fp) ρ S' H' σ) (sp : S' p = none) (h' : H' p = some (.lst vs)) (r : RdL K S' vs es) :
    SG K S0 H0 (ρ ++ [.o es]) g S' H' (σ ++ [some (.ref p)]) := by
  have nf : p ∉ fp := fun z => rg0.own.lays p z hp
  refine ⟨fp, rg, st.beside ⟨p, vs, rfl, ?_, sp, h', r⟩ fun p' ep j ds hj ej => ?_⟩
  · rw [cov_out nf]
    cases e : H0 p with
    | none => rfl
    | some o =>
      have z := st0.ext.h p o (by rw [cov_out nf]; exact e)
      rw [hp] at z
      cases z
  · cases ep
    obtain ⟨q', us, g1, g2', g3, g4, g5⟩ := st0.own j ds hj
    rw [ej] at g1
    cases g1
    rw [hp] at g4
    cases g4
theorem EvX.fresh (h : EvF K te ρ es) : EvX K te ρ g (.o es) g := fun S0 H0 S H σ s Q q => h S H σ s.sub s.env Q fun p vs S' H' x hp sp h' r => by
  obtain ⟨fp, rg, st⟩ := s
  obtain ⟨rg1, st1⟩ := rg.go st x
  exact q _ S' H' x.s (SG.besideF rg st hp rg1 st1 sp h' r)
/-! ### a look at the region and at own lists -/
mutual
def M.see : M → D
  | .d d => d
  | .n .lst ms => .lst (seeL ms)
  | .n (.dic ks) ms => .dc ks (seeL ms)
  | .n (.ins C fs) ms => .ob C fs (seeL ms)
  | .tb _ a => .adr a
def seeL : List M → List D
  | [] => []
  | m :: ms => m.see :: seeL ms
end
theorem seeL_map (ms : List M) : seeL ms = ms.map M.see := by
  induction ms with
  | nil => rfl
  | cons m ms ih => rw [seeL, ih]; rfl
theorem seeL_d (ds : List D) : seeL (ds.map M.d) = ds := by
  induction ds with
  | nil => rfl
  | cons m ms ih => rw [List.map_cons, seeL, ih]; rfl
mutual
theorem Own.see (e : Ex S S') : ∀ {v : V} {m : M} {fp : List Addr}, Own K S H v m fp → (∀ a ∈ fp, S' a = H a) → Rd K S' v m.see
  | _, _, _, .d h, _ => h.mono e
  | _, _, _, .n (s := .lst) h ho r, k => by
    have ho : _ = HO.lst _ := ho
    subst ho
    exact .lst ((k _ List.mem_cons_self).trans h) (OwnL.see e r fun a ha => k a (List.mem_cons_of_mem _ ha))
  | _, _, _, .n (s := .dic ks) h ho r, k => by
    obtain ⟨l, ho⟩ := ho
    subst ho
    exact .dc ((k _ List.mem_cons_self).trans h) l (OwnL.see e r fun a ha => k a (List.mem_cons_of_mem _ ha))
  | _, _, _, .n (s := .ins C fs) h ho r, k => by
    obtain ⟨l, dx, ho⟩ := ho
    subst ho
    exact .ob ((k _ List.mem_cons_self).trans h) l (OwnL.see e r fun a ha => k a (List.mem_cons_of_mem _ ha))
  | _, _, _, .tb _, _ => .adr _
theorem OwnL.see (e : Ex S S') : ∀ {vs : List V} {ms : List M} {fp : List Addr}, OwnL K S H vs ms fp → (∀ a ∈ fp, S' a = H a) → RdL K S' vs (seeL ms)
  | _, _, _, .nil, _ => .nil
  | _, _, _, .cons h r, k => .cons (Own.see e h fun a ha => k a (List.mem_append_left _ ha)) (OwnL.see e r fun a ha => k a (List.mem_append_right _ ha))
end
inductive View (g : Gs) : Rho → Rho → Prop
  | nil : View g [] []
  | root {a : Addr} {m : M} {ρ ρ' : Rho} : (a, m) ∈ g → View g ρ ρ' → View g (.k (.adr a) :: ρ) (.k m.see :: ρ')
  | own {ds : List D} {ρ ρ' : Rho} : View g ρ ρ' → View g (.o ds :: ρ) (.k (.lst ds) :: ρ')
  | same {s : Sl} {ρ ρ' : Rho} : View g ρ ρ' → View g (s :: ρ) (s :: ρ')
theorem View.length {ρ ρ' : Rho} (h : View g ρ ρ') : ρ'.length = ρ.length := by
  induction h with
  | nil => rfl
  | root _ _ ih => exact congrArg (· + 1) ih
  | own _ ih => exact congrArg (· + 1) ih
  | same _ ih => exact congrArg (· + 1) ih
theorem View.get {ρ ρ' : Rho} (h : View g ρ ρ') : ∀ (i : Nat) (d : D), ρ'[i]? = some (.k d) → ρ[i]? = some (.k d) ∨ (∃ ds, ρ[i]? = some (.o ds) ∧ d = .lst ds) ∨ ∃ a m, ρ[i]? = some (.k (.adr a)) ∧ (a, m) ∈ g ∧ d = m.see := by
  induction h with
  | nil => exact fun i d e => by simp at e
  | root hm _ ih =>
    intro i d e
    match i with
    | 0 => simp at e; exact .inr (.inr ⟨_, _, rfl, hm, e.symm⟩)
    | i + 1 => exact ih i d e
  | own _ ih =>
    intro i d e
    match i with
    | 0 => simp at e; exact .inr (.inl ⟨_, rfl, e.symm⟩)
    | i + 1 => exact ih i d e
  | same _ ih =>
    intro i d e
    match i with
    | 0 => exact .inl e
    | i + 1 => exact ih i d e
theorem OwnL.mem {fp : List Addr} {g : Gs} (h : OwnL K S H (gv g) (gm g) fp) {a : Addr} {m : M} (hm : (a, m) ∈ g) : ∃ f, (∀ b ∈ f, b ∈ fp) ∧ Own K S H (.ref a) m f := by
  induction g generalizing fp with
  | nil => cases hm
  | cons x g ih =>
    cases h with
    | cons h r =>
      rcases List.mem_cons.mp hm with e | hm
      · subst e
        exact ⟨_, fun b hb => List.mem_append_left _ hb, h⟩
      · obtain ⟨f, h1, h2⟩ := ih r hm
        exact ⟨f, fun b hb => List.mem_append_right _ (h1 b hb), h2⟩
open Classical in
noncomputable def withP (P : Addr → Prop) (S H : Hp) : Hp := fun a => if P a then H a else S a
open Classical in
noncomputable def woP (P : Addr → Prop) (S : Hp) : Hp := fun a => if P a then none else S a
theorem SG.look {fp : List Addr} (rg : RG K S0 H0 g S H fp) (s : Stt K S0 (cov H0 H fp) ρ S H σ) (hv : View g ρ ρv) : ∃ P : Addr → Prop, Ex S (withP P S H) ∧ Ex (withP P S H) H ∧ Env K (withP P S H) σ ρv ∧
    ∀ S' H', Ext (withP P S H) H S' H' → (∀ p, H p = none → S' p = none → woP P S' p = none) ∧ Ex S (woP P S') ∧ RG K S0 H0 g (woP P S') H' fp ∧ Stt K S0 (cov H0 H' fp) ρ (woP P S') H' σ := by
  have n := SG.noS s rg
  have no : ∀ a, (Owns ρ σ a ∨ a ∈ fp) → S a = none ∧ H a ≠ none := fun a h => by
    rcases h with ⟨i, ds, h1, h2⟩ | h
    · obtain ⟨p, vs, g1, g2, g3, g4, g5⟩ := s.own i ds h1
      rw [g1] at h2
      cases h2
      exact ⟨g3, by rw [g4]; exact fun z => nomatch z⟩
    · exact ⟨n a h, rg.own.lays a h⟩
  refine ⟨fun a => Owns ρ σ a ∨ a ∈ fp, ?_⟩
  generalize hP : (fun a => Owns ρ σ a ∨ a ∈ fp) = P
  have noP : ∀ a, P a → S a = none ∧ H a ≠ none := fun a h => no a (by rw [← hP] at h; exact h)
  have e1 : Ex S (withP P S H) := fun a o e => by
    unfold withP
    rw [if_neg fun z => by rw [(noP a z).1] at e; cases e]
    exact e
  have e2 : Ex (withP P S H) H := fun a o e => by
    unfold withP at e
    split at e
    · exact e
    · exact s.ext.sub a o e
  have inP : ∀ a, P a → withP P S H a = H a := fun a h => if_pos h
  refine ⟨e1, e2, ⟨by rw [hv.length]; exact s.env.len, fun i d h => ?_⟩, fun S' H' x => ?_⟩
  · rcases hv.get i d h with h | ⟨ds, h', e⟩ | ⟨a, m, h', hm, e⟩
    · obtain ⟨v, h1, h2⟩ := s.env.val i d h
      exact ⟨v, h1, h2.mono e1⟩
    · subst e
      obtain ⟨p, vs, g1, g2, g3, g4, g5⟩ := s.own i ds h'
      have hp : P p := by rw [← hP]; exact .inl ⟨i, ds, h', g1⟩
      exact ⟨_, g1, .lst ((inP p hp).trans g4) (g5.mono e1)⟩
    · subst e
      obtain ⟨v, h1, h2⟩ := s.env.val i _ h'
      cases h2
      obtain ⟨f, k1, k2⟩ := rg.own.mem hm
      exact ⟨_, h1, k2.see e1 fun b hb => inP b (by rw [← hP]; exact .inr (k1 b hb))⟩
  · have eS : Ex S (woP P S') := fun a o e => by
      unfold woP
      rw [if_neg fun z => by rw [(noP a z).1] at e; cases e]
      exact x.s a o (e1 a o e)
    have eH : Ex (woP P S') H' := fun a o e => by
      unfold woP at e
      split at e
      · cases e
      · exact x.sub a o e
    have same : ∀ a, H a ≠ none → H' a = H a := fun a ha => by
      cases q : H a with
      | none => exact absurd q ha
      | some o => exact x.h a o q
    refine ⟨fun p _ sp => ?_, eS, ⟨rg.own.mono eS fun a ha => same a (rg.own.lays a ha), rg.nd, rg.no⟩, ?_⟩
    · unfold woP
      split
      · rfl
      · exact sp
    · refine s.mv rg.no rg.own.lays eS eH (fun a _ h => same a h) (fun a h1 h2 h3 => ?_) fun a ha => ⟨.inl ha, ?_⟩
      · unfold woP
        split
        · rfl
        · rename_i hn
          exact x.dis a (by unfold withP; rw [if_neg hn]; exact h2) h3
      · unfold woP
        rw [if_pos]
        rw [← hP]
        exact .inr ha
/-- expressions that read the region and own lists, and tell what is flat -/
theorem EvX.look (hv : View g ρ ρv) (h : EvD K te ρv d) (hf : d.flat = true) : EvX K te ρ g (.d d) g := fun S0 H0 S H σ s Q q => by
  obtain ⟨fp, rg, s⟩ := s
  obtain ⟨P, e1, e2, v, w⟩ := SG.look rg s hv
  refine h _ H σ e2 v Q fun x S' H' xx r => ?_
  obtain ⟨_, eS, rg', s'⟩ := w S' H' xx
  exact q x _ H' eS ⟨⟨fp, rg', s'⟩, r.flat hf⟩
theorem EvX.lookF (hv : View g ρ ρv) (h : EvF K te ρv es) (hf : ∀ d ∈ es, d.flat = true) : EvX K te ρ g (.o es) g := fun S0 H0 S H σ s Q q => by
  obtain ⟨fp, rg, s⟩ := s
  obtain ⟨P, e1, e2, v, w⟩ := SG.look rg s hv
  refine h _ H σ e2 v Q fun p vs S' H' xx hp sp h' r => ?_
  obtain ⟨k, eS, rg', s'⟩ := w S' H' xx
  exact q _ _ H' eS (SG.besideF rg s hp rg' s' (k p hp sp) h' (r.flat hf))
theorem EvXT.look (hv : View g ρ ρv) (h : EvT K c ρv b) : EvXT K c ρ g b g := fun S0 H0 S H σ s Q q => by
  obtain ⟨fp, rg, s⟩ := s
  obtain ⟨P, e1, e2, v, w⟩ := SG.look rg s hv
  refine h _ H σ e2 v Q fun S' H' xx => ?_
  obtain ⟨_, eS, rg', s'⟩ := w S' H' xx
  exact q _ H' eS ⟨fp, rg', s'⟩
end
end Pl

/-! Things that are changed in place: writing at a place; dicts; a def's ends. -/
namespace Pl
open PySem PySem.Spec PyProof.Rows L2
open Evl (Ex)
section
variable {K : PySem.W.Frag} {S0 H0 S H S' H' : Hp} {σ : L2.St} {ρ ρ' ρ1 ρv : Rho} {g g' g1 g2 gl gr : Gs} {F G : FM} {t u : TS} {te ti td tx tk tv : TE} {tA : TA} {c : TT} {d : D} {es ds : List D} {ms : List M} {m m1 m2 : M} {a : Addr} {π : List Nat} {Dd : Ends} {i j : Nat} {b : Bool} {r : Rs} {E : XK} {s : Shp}
/-! ### places -/
theorem Loc.snoc {v w : V} {p : Addr} {o : HO} {vs : List V} {k : Nat} {mk : M} (l : Loc H v m π (.ref p)) (hat : M.at π m = some (.n s ms)) (h1 : H p = some o) (h2 : s.ho o vs) (h3 : vs[k]? = some w) (h4 : ms[k]? = some mk) : Loc H v m (π ++ [k]) w := by
  generalize hu : V.ref p = u at l
  induction l with
  | nil =>
    subst hu
    simp only [M.at, Option.some.injEq] at hat
    subst hat
    exact .cons h1 h2 h3 h4 .nil
  | cons g1 g2 g3 g4 _ ih =>
    simp only [M.at, g4] at hat
    exact .cons g1 g2 g3 g4 (ih hat hu)
def EvP (K : PySem.W.Frag) (te : TE) (ρ : Rho) (g : Gs) (a : Addr) (m : M) (π : List Nat) : Prop := ∀ S0 H0 S H σ, SG K S0 H0 ρ g S H σ → ∀ Q : VK, (∀ u S' H', Ext S H S' H' → Loc H' (.ref a) m π u → Q u H') → te σ H Q
theorem ep_var (h : ρ[i]? = some (.k (.adr a))) : EvP K (tVar i) ρ g a m [] := fun S0 H0 S H σ s Q q => by
  obtain ⟨v, h1, h2⟩ := s.env.val i _ h
  cases h2
  exact ⟨_, h1, q _ S H (Ext.refl s.sub) .nil⟩
/-- what stands at a place -/
theorem SG.at {u : V} (st : SG K S0 H0 ρ g S H σ) (hg : (a, m) ∈ g) (l : Loc H (.ref a) m π u) (hat : M.at π m = some (.n s ms)) : ∃ p o vs fq, u = .ref p ∧ H p = some o ∧ s.ho o vs ∧ OwnL K S H vs ms fq := by
  obtain ⟨fp, rg, st⟩ := st
  obtain ⟨f, _, o⟩ := rg.own.mem hg
  obtain ⟨m1, f0, f1, f2, e, _, o1, _⟩ := o.focus l
  rw [hat] at e
  cases e
  cases o1 with
  | n h1 h2 h3 => exact ⟨_, _, _, _, rfl, h1, h2, h3⟩
theorem ep_ix {k : Nat} {mk : M} (h : EvP K te ρ g a m π) (hi : EvD K ti ρ (.int (k : Int))) (hg : (a, m) ∈ g) (hat : M.at π m = some (.n .lst ms)) (hk : ms[k]? = some mk) : EvP K (tOp (rIx K) te ti) ρ g a m (π ++ [k]) := fun S0 H0 S H σ st Q q =>
  h S0 H0 S H σ st _ fun u S1 H1 x1 l => by
    have st1 := st.go x1
    obtain ⟨p, o, vs, fq, e1, e2, e3, e4⟩ := st1.at hg l hat
    subst e1
    refine hi S1 H1 σ st1.sub st1.env _ fun w S2 H2 x2 r2 => ?_
    cases r2
    have hl : o = .lst vs := e3
    subst hl
    have hkl : k < vs.length := by
      rw [e4.length]
      exact (List.getElem?_eq_some_iff.mp hk).1
    obtain ⟨w, hw⟩ : ∃ w, vs[k]? = some w := ⟨_, List.getElem?_eq_getElem hkl⟩
    exact .inl ⟨_, _, _, w, rfl, rfl, Evl.sq_of (x2.h _ _ e2), atI_nat hw, q w S2 H2 (x1.trans x2) ((l.mono x2.h).snoc hat (x2.h _ _ e2) e3 hw hk)⟩
/-- a place is written -/
theorem SG.write {u : V} (st : SG K S0 H0 ρ g S H σ) (hg : g = gl ++ (a, m) :: gr) (l : Loc H (.ref a) m π u) (hat : M.at π m = some (.n s ms)) : ∃ p o vs fq, u = .ref p ∧ H p = some o ∧ S p = none ∧ s.ho o vs ∧ OwnL K S H vs ms fq ∧ p ∉ fq ∧
    ∀ o' s' vs' ms' fq', s'.ho o' vs' → OwnL K S (upd H p o') vs' ms' fq' → fq'.Sublist fq → SG K S0 H0 ρ (gl ++ (a, M.put (.n s' ms') π m) :: gr) S (upd H p o') σ := by
  obtain ⟨fp, rg, st⟩ := st
  subst hg
  have o := rg.own
  have hgm : (gm (gl ++ (a, m) :: gr))[gl.length]? = some m := by
    unfold gm
    simp
  have hgv : (gv (gl ++ (a, m) :: gr))[gl.length]? = some (.ref a) := by
    unfold gv
    simp
  obtain ⟨v, f0, f1, f2, k1, k2, k3, k4⟩ := o.focus hgm
  rw [hgv] at k1
  cases k1
  obtain ⟨m1, e0, e1, e2, j1, j2, j3, j4⟩ := k3.focus l
  rw [hat] at j1
  cases j1
  cases j3 with
  | n h1 h2 h3 =>
    rename_i p o vs fq
    have n := SG.noS st rg
    have nd := rg.nd
    have pin : p ∈ fp := by rw [k2, j2]; simp
    have hnd : p ∉ f0 ∧ p ∉ f2 ∧ p ∉ e0 ∧ p ∉ e2 ∧ p ∉ fq := by
      rw [k2, j2] at nd
      simp only [List.nodup_append, List.nodup_cons, List.mem_append, List.mem_cons] at nd
      grind
    refine ⟨p, o, vs, fq, rfl, h1, n p pin, h2, h3, hnd.2.2.2.2, fun o' s' vs' ms' fq' ho own sub => ?_⟩
    have z := k4 S (upd H p o') _ _ (Ex.refl S) (fun b hb => upd_ne fun e => by subst e; exact hb.elim hnd.1 hnd.2.1) (j4 S (upd H p o') (.n s' ms') (p :: fq') (Ex.refl S) (fun b hb => upd_ne fun e => by subst e; exact hb.elim hnd.2.2.1 hnd.2.2.2.1) (.n upd_same ho own))
    have sb : (f0 ++ (e0 ++ (p :: fq') ++ e2) ++ f2).Sublist fp := by
      rw [k2, j2]
      exact ((List.Sublist.refl f0).append (((List.Sublist.refl e0).append (sub.cons₂ p)).append (List.Sublist.refl e2))).append (List.Sublist.refl f2)
    refine ⟨_, ⟨?_, sb.nodup nd, fun b hb => rg.no b (sb.subset hb)⟩, st.mv (fp' := f0 ++ (e0 ++ (p :: fq') ++ e2) ++ f2) rg.no rg.own.lays (Ex.refl S) (fun b u q => ?_) (fun b hb _ => upd_ne fun e => hb (e ▸ pin)) (fun b _ hb _ => hb) fun b hb => ⟨.inl (sb.subset hb), n b (sb.subset hb)⟩⟩
    · have eg1 : gv (gl ++ (a, M.put (.n s' ms') π m) :: gr) = gv (gl ++ (a, m) :: gr) := by
        unfold gv
        simp
      have eg2 : gm (gl ++ (a, M.put (.n s' ms') π m) :: gr) = (gm (gl ++ (a, m) :: gr)).set gl.length (M.put (.n s' ms') π m) := by
        unfold gm
        simp
      rw [eg1, eg2]
      exact z
    · rw [upd_ne fun e => by rw [e, n p pin] at q; cases q]
      exact st.ext.sub b u q
/-! ### lists -/
theorem TM.append (hp : EvP K te ρ g a m π) (hg : g = gl ++ (a, m) :: gr) (hat : M.at π m = some (.n .lst ms)) (hx : EvD K tx ρ d) (hl : ms.length < 100000) (k : F.nx ρ (gl ++ (a, M.put (.n .lst (ms ++ [.d d])) π m) :: gr)) :
    TM K (tDrop (tBM K "list" rAppend te (tCons tx tNil))) ρ g F := fun S0 H0 S H σ Dd st ac =>
  hp S0 H0 S H σ st _ fun u S1 H1 x1 l => by
    have st1 := st.go x1
    obtain ⟨p, o, vs, fq, e1, e2, e3, e4⟩ := st1.at (by rw [hg]; simp) l hat
    subst e1
    have e3 : o = .lst vs := e3
    subst e3
    refine ⟨.inl ⟨rfl, _, Evl.sq_of e2⟩, ?_⟩
    refine hx S1 H1 σ st1.sub st1.env _ fun v S2 H2 x2 r2 => ?_
    have st2 := st1.go x2
    obtain ⟨p', o, vs, fq, e1, e2, _, e3, e4, e5, w⟩ := st2.write hg (l.mono x2.h) hat
    cases e1
    have e3 : o = .lst vs := e3
    subst e3
    refine ⟨p, vs, v, rfl, rfl, e2, Evl.sz_lt (by rw [e4.length]; exact hl), ?_⟩
    refine ac.nx _ _ S2 _ σ k (x1.s.trans x2.s) (w _ .lst _ _ _ rfl ((e4.mono (Ex.refl _) fun b hb => upd_ne fun e => e5 (by rw [← e]; exact hb)).append (.cons (.d r2) .nil)) ?_)
    rw [List.append_nil, List.append_nil]
    exact List.Sublist.refl _
theorem TM.remove {ns : List Int} (hp : EvP K te ρ g a m π) (hg : g = gl ++ (a, m) :: gr) (hat : M.at π m = some (.n .lst (ns.map fun n => M.d (.int n)))) {z : Int} (hx : EvD K tx ρ (.int z)) (hj : ns[j]? = some z) (hno : ∀ q : Nat, q < j → ns[q]? ≠ some z)
    (k : F.nx ρ (gl ++ (a, M.put (.n .lst ((ns.eraseIdx j).map fun n => M.d (.int n))) π m) :: gr)) : TM K (tDrop (tBM K "list" rRemI te (tCons tx tNil))) ρ g F := fun S0 H0 S H σ Dd st ac =>
  hp S0 H0 S H σ st _ fun u S1 H1 x1 l => by
    have st1 := st.go x1
    obtain ⟨p, o, vs, fq, e1, e2, e3, e4⟩ := st1.at (by rw [hg]; simp) l hat
    subst e1
    have e3 : o = .lst vs := e3
    subst e3
    refine ⟨.inl ⟨rfl, _, Evl.sq_of e2⟩, ?_⟩
    refine hx S1 H1 σ st1.sub st1.env _ fun v S2 H2 x2 r2 => ?_
    cases r2
    have st2 := st1.go x2
    obtain ⟨p', o, vs, fq, e1, e2, _, e3, e4, e5, w⟩ := st2.write hg (l.mono x2.h) hat
    cases e1
    have e3 : o = .lst vs := e3
    subst e3
    have em : ∀ xs : List Int, xs.map (fun n => M.d (.int n)) = (xs.map D.int).map M.d := fun xs => by rw [List.map_map]; rfl
    rw [em] at e4
    obtain ⟨ef, rl⟩ := e4.toD
    have ev := rl.ints
    subst ev
    subst ef
    refine ⟨p, ns, z, j, rfl, rfl, e2, hj, hno, ?_⟩
    refine ac.nx _ _ S2 _ σ k (x1.s.trans x2.s) (w _ .lst ((ns.eraseIdx j).map V.int) _ [] rfl ?_ (List.Sublist.refl _))
    rw [em]
    exact OwnL.ofD (RdL.ofInts _)
/-- x = xs.pop() of an own list -/
theorem T.popO {F : FE} (h : ρ[i]? = some (.o (ds ++ [d]))) (k : F.nx ((ρ.set i (.o ds)).set j (.k d))) : T K (tAsg (tBM0 K "list" rPop (tVar i)) (gName j)) ρ F := fun S0 H0 S H σ Dd s a => by
  obtain ⟨p, vs, h1, h2, h3, h4, h5⟩ := s.own i _ h
  refine ⟨_, h1, .inl ⟨rfl, _, Evl.sq_of h4⟩, ?_⟩
  obtain ⟨v, hv, rv⟩ := h5.get (i := ds.length) (d := d) (by simp)
  have hl : vs.length = ds.length + 1 := by rw [h5.length]; simp
  refine ⟨p, vs, v, rfl, rfl, h4, by rw [hl]; exact hv, ?_⟩
  have r2 : RdL K S vs.dropLast ds := by
    have z := h5.take ds.length
    rw [List.take_append_of_le_length (Nat.le_refl _), List.take_length] at z
    rw [List.dropLast_eq_take, hl]
    exact z
  exact a.nx _ S _ _ k (Ex.refl S) ((s.put (vs := vs) h h1 r2).set rv)
/-! ### lifting -/
/-- a statement that does not touch the region, and does not return -/
def FM.at (F : FM) (g : Gs) : FE := { nx := fun r => F.nx r g, bk := fun r => F.bk r g, ct := fun r => F.ct r g }
theorem TM.of (h : T K t ρ (F.at g)) : TM K t ρ g F := fun S0 H0 S H σ Dd st ac => by
  obtain ⟨fp, rg, st⟩ := st
  have n := SG.noS st rg
  have back : ∀ {ρ' : Rho} {S' H' : Hp} {σ' : L2.St}, Ex S S' → Stt K S0 (cov H0 H fp) ρ' S' H' σ' → SG K S0 H0 ρ' g S' H' σ' := fun {ρ' S' H' σ'} e s' => by
    have same : ∀ a ∈ fp, H' a = H a := fun a ha => by
      cases q : H a with
      | none => exact absurd q (rg.own.lays a ha)
      | some o => exact s'.ext.h a o (by rw [cov_in ha]; exact q)
    have ec : cov H0 H' fp = cov H0 H fp := funext fun a => by
      by_cases ha : a ∈ fp
      · rw [cov_in ha, cov_in ha, same a ha]
      · rw [cov_out ha, cov_out ha]
    exact ⟨fp, ⟨rg.own.mono e same, rg.nd, rg.no⟩, by rw [ec]; exact s'⟩
  exact h S0 (cov H0 H fp) S H σ Dd st ⟨fun ρ' S' H' σ' n e s' => ac.nx ρ' g S' H' σ' n e (back e s'), fun ρ' S' H' σ' n e s' => ac.bk ρ' g S' H' σ' n e (back e s'), fun ρ' S' H' σ' n e s' => ac.ct ρ' g S' H' σ' n e (back e s'), fun _ _ _ _ z => z.elim, fun _ _ _ _ _ z => z.elim⟩
/-! ### returns -/
theorem TM.ret (h : EvD K te ρ d) (k : F.rt (.d d) g) : TM K (tRet te) ρ g F := TM.retX (EvX.of h) k
theorem TM.retO (h : ρ[i]? = some (.o es)) (k : F.rt (.o es) g) : TM K (tRet (tVar i)) ρ g F := fun S0 H0 S H σ Dd st ac => by
  obtain ⟨fp, rg, st⟩ := st
  obtain ⟨p, vs, h1, h2, h3, h4, h5⟩ := st.own i es h
  refine ⟨_, h1, ac.rt (.o es) g _ [] S H [] k ⟨fp, rg, ?_⟩⟩
  exact (st.clear).beside ⟨p, vs, rfl, h2, h3, h4, h5⟩ fun p' _ j ds hj => by simp at hj
theorem TM.retT (h : ρ[i]? = some (.k (.adr a))) (hp : List.Perm g (g1 ++ [(a, m)])) (k : F.rt (.t m) g1) : TM K (tRet (tVar i)) ρ g F := fun S0 H0 S H σ Dd st ac => by
  obtain ⟨v, h1, h2⟩ := st.env.val i _ h
  cases h2
  exact ⟨_, h1, ac.rt (.t m) g1 _ ρ S H σ k ⟨a, rfl, st.perm hp⟩⟩
/-! ### a def -/
def FM.tell (r : Rs) (g : Gs) : FM := { nx := fun _ x => r = .d .non ∧ ∃ e, List.Perm x (g ++ e), rt := fun q x => q = r ∧ ∃ e, List.Perm x (g ++ e) }
theorem SG.start {vs : List V} {N : List Str} (st : SG K S0 H0 [] g S H []) (rl : RdL K S vs ds) : SG K S0 H0 (startR N.length ds) g S H (L2.start N vs) := by
  obtain ⟨fp, rg, st⟩ := st
  have z := stt_start (N := N) st.ext.sub rl
  refine ⟨fp, rg, st.ext, z.env, fun i es h => ?_, fun i j a b p h => ?_⟩
  · obtain ⟨p, vs, _, h2, _, h4, _⟩ := z.own i es h
    rw [h2] at h4
    cases h4
  · obtain ⟨p, vs, _, h2, _, h4, _⟩ := z.own i a h
    rw [h2] at h4
    cases h4
theorem TM.fin {Rel : List D → Gs → Rs → Gs → Prop} {vs : List V} {N : List Str} {H : Hp} {Q : VK} {E : XK} (h : spG K Rel vs H Q E) (k : ∀ ds g r g', Rel ds g r g' → TM K t (startR N.length ds) g (.tell r g')) : t { nx := fun _ H' => Q .non H', rt := Q } (L2.start N vs) H := by
  obtain ⟨S, H0, ds, g, r, g', st, rl, rel, q⟩ := h
  refine k ds g r g' rel S H0 S H _ _ (st.start rl) ⟨fun ρ x S' H' σ n e s => ?_, fun _ _ _ _ _ z => z.elim, fun _ _ _ _ _ z => z.elim, fun r' x v ρ S' H' σ n s => ?_⟩
  · obtain ⟨n, ex, hp⟩ := n
    subst n
    obtain ⟨fp, rg, s⟩ := (s.perm hp).forget
    exact q .non S' H' s.ext.s ⟨⟨fp, rg, s.clear⟩, .non⟩
  · obtain ⟨n, ex, hp⟩ := n
    subst n
    have s := s.bare
    have fin : ∀ {ρc σc}, SG K S H0 ρc x S' H' σc → Ex S S' ∧ SG K S H0 ρc g' S' H' σc := fun {ρc σc} z => by
      obtain ⟨fp, rg, y⟩ := (z.perm hp).forget
      exact ⟨y.ext.s, fp, rg, y⟩
    cases r' with
    | d d =>
      obtain ⟨e, y⟩ := fin s.1
      exact q v S' H' e ⟨y, s.2⟩
    | o es =>
      obtain ⟨e, y⟩ := fin s
      exact q v S' H' e y
    | t m =>
      obtain ⟨p, ev, s⟩ := s
      have hp2 : List.Perm (x ++ [(p, m)]) ((g' ++ [(p, m)]) ++ ex) := by
        refine (hp.append_right _).trans ?_
        rw [List.append_assoc, List.append_assoc]
        exact (List.perm_append_comm).append_left _
      obtain ⟨fp, rg, y⟩ := (s.perm hp2).forget
      exact q v S' H' y.ext.s ⟨p, ev, fp, rg, y⟩
theorem spG_len {Rel : List D → Gs → Rs → Gs → Prop} {n : Nat} (h : ∀ ds g r g', Rel ds g r g' → ds.length = n) : ∀ vs H Q E, spG K Rel vs H Q E → vs.length = n := fun vs H Q E ⟨S, H0, ds, g, r, g', _, rl, rel, _⟩ => rl.length.trans (h ds g r g' rel)
end
end Pl

/-! sorted(d), d a dict whose keys are whole numbers, fewer than 64. -/
namespace Sk
open PySem PySem.Spec PySem.Calls PyProof.Rows L2 PySem.W
def rSortedD : List V → Hp → VK → Prop := fun vs H Q => ∃ (a : Addr) (kvs : List (L2.Key × V)) (ns : List Int), vs = [V.ref a] ∧ H a = some (.dK kvs) ∧ kvs.map (·.1) = ns.map Sum.inl ∧ kvs.length < 64 ∧
  ∀ (ms : List Int) (p : Addr), ms.Pairwise (· ≤ ·) → ms.Perm ns → H p = none → Q (.ref p) (upd H p (.lst (ms.map V.int)))
theorem ints_at : ∀ {vs : List Value} {ns : List Int}, vs.length = ns.length → (∀ (j : Nat) (v : Value), vs[j]? = some v → ∃ k tk, ns[j]? = some k ∧ v = Value.int k tk) → IntsAre vs ns
  | [], [], _, _ => .nil
  | v :: vs, n :: ns, l, h => by
    obtain ⟨k, tk, e1, e2⟩ := h 0 v rfl
    simp at e1
    subst e1
    subst e2
    exact .cons _ tk (ints_at (Nat.succ.inj l) fun j u hu => h (j + 1) u hu)
theorem cr_sortedD {X : Cx} (hc : X.calm = true) : CallR X (.builtin "sorted") rSortedD := by
  intro pins s σ H vs us Q I r h
  obtain ⟨a, kvs, ns, rfl, ha, hk, h64, q⟩ := h
  rw [Vals.ref1 r]
  obtain ⟨_, hsys, ws, kv, dd⟩ := dk_of I.hok ha
  obtain ⟨ep, hat⟩ := dd.dictAt
  have hh := I.ok.hd hc
  have hl : ws.length = kvs.length := kv.length.symm
  have hnl : ns.length = kvs.length := by
    have z := congrArg List.length hk
    rw [List.length_map, List.length_map] at z
    exact z.symm
  refine Calls.call_function_entry kind_sorted plain_sorted entry_sorted (args_sorted1 _) ?_
  unfold Builtin.«sorted»
  refine wpAny_bind (m := checkCount "sorted" 1 1 _) (wpAny_pure ?_)
  refine wpAny_bind (kdu_collect (A := X.A.in1) (kdl_dict (knd := mixKind X.prog X.w) (kvs := ws) (ep := ep) hsys) hh hat (by rw [hl, sizeLine_eq]; omega) fun h1 tk acc k1 hacc => ?_)
  have hvl : acc.toList.length = ws.length := by rw [Array.length_toList]; exact hacc.1
  have hI : IntsAre acc.toList ns := ints_at (by rw [hvl, hl, hnl]) fun j v hv => by
    obtain ⟨k, x, hx, hk2⟩ := hacc.2 j v (by rw [← Array.getElem?_toList]; exact hv)
    have e1 : (ws.map (·.1))[j]? = some k := by rw [List.getElem?_map, hx]; rfl
    rw [← kv.keys, hk, List.getElem?_map] at e1
    cases e2 : ns[j]? with
    | none => rw [e2] at e1; cases e1
    | some n =>
      rw [e2] at e1
      cases e1
      have hk3 : keyIs (Sum.inl n) v = true := hk2
      rcases keyIs_shape hk3 with ⟨i, t, ev, e⟩ | ⟨z, t, ev, e⟩
      · cases ev
        exact ⟨_, t, rfl, e⟩
      · cases ev
  refine wpAny_bind (wpAny_newList ?_ (by rw [hvl, hl, sizeLine_eq]; omega))
  have hoL : (h1.push (seqObj "list" acc.toList.toArray 0)).get? h1.objs.size = some (seqObj "list" acc.toList.toArray 0) := Heap.get?_push_size _ rfl
  refine wpAny_bind (wpAny_holding (wpAny_call_entry slot_list_sort ⟨_, hoL, rfl⟩ entry_list_sort (list_sort_tree hoL hI (by rw [hvl, hl]; exact h64) fun out ns' a1 a2 a3 => ⟨_, rfl, ?_⟩) (args_list_sort _)))
  obtain ⟨c, hcc⟩ := sortedHeap_at (vs := acc.toList) (out := out) hoL
  have I1 : L2.Inv X pins σ H { s with heap := h1, toks := tk } := I.kept (t' := tk) k1
  have hn : H h1.objs.size = none := I1.hok.fresh (Nat.le_refl _)
  have hlen : (ns'.map V.int).length ≤ sizeLine := by rw [List.length_map, a2.length_eq, hnl, sizeLine_eq]; omega
  have kS : ∀ b u, h1.get? b = some u → (sortedHeap (h1.push (seqObj "list" acc.toList.toArray 0)) h1.objs.size acc.toList out).get? b = some u := fun b u q => by
    have hlt := Heap.lt_size q
    rw [sortedHeap_old (Nat.ne_of_lt hlt) (by rw [size_push']; exact Nat.lt_succ_of_lt hlt)]
    exact Heap.get?_push_of_some _ q
  have J := I1.laid (a := h1.objs.size) (o := .lst (ns'.map V.int)) (h' := sortedHeap (h1.push (seqObj "list" acc.toList.toArray 0)) h1.objs.size acc.toList out) (t' := tk) kS (Nat.le_refl _) ⟨hlen, out.toList, c, vals_of_ints a1, hcc⟩
  exact wpAny_pure ⟨_, rfl, .ref h1.objs.size, _, J, rfl, q ns' _ a3 a2 hn⟩
end Sk

/-! Dicts whose keys are whole numbers; rows. -/
namespace Pl
open PySem PySem.Spec PyProof.Rows L2
open Evl (Ex)
def ik (ns : List Int) : List L2.Key := ns.map Sum.inl
section
variable {K : PySem.W.Frag} {S0 H0 S H S' H' : Hp} {σ : L2.St} {ρ ρ' ρ1 ρv : Rho} {g g' g1 g2 gl gr : Gs} {F G : FM} {t u : TS} {te ti td tx tk tv ty : TE} {tA : TA} {c : TT} {d : D} {es ds : List D} {ms : List M} {m m1 m2 : M} {a : Addr} {π : List Nat} {Dd : Ends} {i j : Nat} {b : Bool} {r : Rs} {E : XK} {s : Shp}
theorem valV_zip {ns : List Int} {vs : List V} {k : Int} (hl : ns.length = vs.length) (h : ns[j]? = some k) (hn : ∀ q : Nat, q < j → ns[q]? ≠ some k) : valV ((ik ns).zip vs) (.inl k) = vs[j]? := by
  induction ns generalizing vs j with
  | nil => simp at h
  | cons n ns ih =>
    cases vs with
    | nil => simp at hl
    | cons v vs =>
      cases j with
      | zero =>
        simp at h
        subst h
        exact valV_pos rfl
      | succ j =>
        have hne : n ≠ k := fun e => hn 0 (Nat.succ_pos _) (by rw [e]; rfl)
        show valV ((Sum.inl n, v) :: ((ik ns).zip vs)) (.inl k) = (v :: vs)[j + 1]?
        rw [valV_neg (fun e => hne (Sum.inl.inj e)), ih (Nat.succ.inj hl) (by simpa using h) fun q hq => by
          have := hn (q + 1) (by omega)
          simpa using this]
        simp
theorem valV_out {ns : List Int} {vs : List V} {k : Int} (hl : ns.length = vs.length) (h : k ∉ ns) : valV ((ik ns).zip vs) (.inl k) = none := by
  induction ns generalizing vs with
  | nil => rfl
  | cons n ns ih =>
    cases vs with
    | nil => rfl
    | cons v vs =>
      show valV ((Sum.inl n, v) :: ((ik ns).zip vs)) (.inl k) = none
      rw [valV_neg (fun e => h (by rw [Sum.inl.inj e]; exact List.mem_cons_self)), ih (Nat.succ.inj hl) fun z => h (List.mem_cons_of_mem _ z)]
theorem first_at {k : Int} : ∀ {ns : List Int}, k ∈ ns → ∃ j, ns[j]? = some k ∧ ∀ q : Nat, q < j → ns[q]? ≠ some k
  | n :: ns, h => by
    by_cases e : n = k
    · exact ⟨0, by rw [e]; rfl, fun q hq => absurd hq (Nat.not_lt_zero _)⟩
    · obtain ⟨j, h1, h2⟩ := first_at (List.mem_of_ne_of_mem (Ne.symm e) h)
      refine ⟨j + 1, by simpa using h1, fun q hq => ?_⟩
      cases q with
      | zero => simpa using e
      | succ q => simpa using h2 q (by omega)
theorem ev_dget {ns : List Int} {k : Int} (hd : EvD K td ρ (.dc (ik ns) ds)) (hk : EvD K ty ρ (.int k)) (h : ns[j]? = some k) (hn : ∀ q : Nat, q < j → ns[q]? ≠ some k) (hv : ds[j]? = some d) : EvD K (tDGet td ty) ρ d := fun S H σ e v Q q =>
  hd S H σ e v _ fun u S1 H1 x1 r1 => hk S1 H1 σ x1.sub (v.mono x1.s) _ fun w S2 H2 x2 r2 => by
    cases r2
    cases r1 with
    | dc ha hl rl =>
      rename_i pa vs0
      have hl2 := (List.length_map (as := ns) Sum.inl).symm.trans hl
      obtain ⟨x, hx, rx⟩ := rl.get hv
      exact ⟨_, x, rfl, .inl ⟨_, .inl k, .inl (x2.sub _ _ (x2.s _ _ ha)), rfl, (by rw [valV_zip hl2 h hn, hx])⟩, q x S2 H2 (x1.trans x2) (rx.mono x2.s)⟩
theorem ev_din {ns : List Int} {k : Int} (hk : EvD K ty ρ (.int k)) (hd : EvD K td ρ (.dc (ik ns) ds)) : EvD K (tDIn ty td) ρ (.bl (decide (k ∈ ns))) := fun S H σ e v Q q =>
  hk S H σ e v _ fun w S1 H1 x1 r1 => hd S1 H1 σ x1.sub (v.mono x1.s) _ fun u S2 H2 x2 r2 => by
    cases r1
    cases r2 with
    | dc ha hl rl =>
      rename_i pa vs0
      have hl2 := (List.length_map (as := ns) Sum.inl).symm.trans hl
      refine ⟨_, _, rfl, .inl ⟨_, .inl k, .inl (x2.sub _ _ ha), rfl, rfl⟩, ?_⟩
      have e : (valV ((ik ns).zip vs0) (.inl k)).isSome = decide (k ∈ ns) := by
        by_cases hm : k ∈ ns
        · obtain ⟨j, h1, h2⟩ := first_at hm
          rw [valV_zip hl2 h1 h2, decide_eq_true hm, List.getElem?_eq_getElem (by rw [← hl2]; exact (List.getElem?_eq_some_iff.mp h1).1)]
          rfl
        · rw [valV_out hl2 hm, decide_eq_false hm]
          rfl
      rw [e]
      exact q _ S2 H2 (x1.trans x2) (.bl _)
theorem ev_dni {ns : List Int} {k : Int} (hk : EvD K ty ρ (.int k)) (hd : EvD K td ρ (.dc (ik ns) ds)) : EvD K (tDNotIn ty td) ρ (.bl (!decide (k ∈ ns))) := fun S H σ e v Q q =>
  hk S H σ e v _ fun w S1 H1 x1 r1 => hd S1 H1 σ x1.sub (v.mono x1.s) _ fun u S2 H2 x2 r2 => by
    cases r1
    cases r2 with
    | dc ha hl rl =>
      rename_i pa vs0
      have hl2 := (List.length_map (as := ns) Sum.inl).symm.trans hl
      refine ⟨_, _, rfl, .inl ⟨_, .inl k, .inl (x2.sub _ _ ha), rfl, rfl⟩, ?_⟩
      have e : (valV ((ik ns).zip vs0) (.inl k)).isSome = decide (k ∈ ns) := by
        by_cases hm : k ∈ ns
        · obtain ⟨j, h1, h2⟩ := first_at hm
          rw [valV_zip hl2 h1 h2, decide_eq_true hm, List.getElem?_eq_getElem (by rw [← hl2]; exact (List.getElem?_eq_some_iff.mp h1).1)]
          rfl
        · rw [valV_out hl2 hm, decide_eq_false hm]
          rfl
      rw [e]
      exact q _ S2 H2 (x1.trans x2) (.bl _)
/-! ### a walk over the keys -/
theorem ei_keys {ns : List Int} (h : EvD K td ρ (.fz ns)) : EvI K (iKeys td) ρ (ns.map D.int) := fun S H σ e v R q =>
  h S H σ e v _ fun w S1 H1 x1 r1 => by
    cases r1 with
    | fz ha hk =>
      rename_i p o kvs
      have hl : kvs.length = ns.length := by
        have z := congrArg List.length hk
        rwa [List.length_map, List.length_map] at z
      refine ⟨p, o, rfl, .inl ⟨kvs, x1.sub _ _ ha, q _ S1 H1 x1 ⟨fun S' H' i e1 e2 hi => ⟨e2 _ _ (e1 _ _ ha), by rw [hl]; rwa [List.length_map] at hi⟩, fun S' H' i x H'' d e1 e2 hd y => ?_, fun S' H' e1 e2 => ⟨e2 _ _ (e1 _ _ ha), by rw [hl, List.length_map]; exact Nat.le_refl _⟩⟩⟩⟩
      obtain ⟨rfl, k, v, h1, rfl⟩ := y
      have z : (kvs.map (·.1))[i]? = some k := by rw [List.getElem?_map, h1]; rfl
      rw [hk, List.getElem?_map] at z
      rw [List.getElem?_map] at hd
      cases e3 : ns[i]? with
      | none => rw [e3] at z; cases z
      | some n =>
        rw [e3] at z hd
        cases z
        cases hd
        exact ⟨S', Ext.refl e2, .int n⟩
open Classical in
noncomputable def woH (S H S3 : Hp) : Hp := fun a => if S a = none ∧ H a ≠ none then none else S3 a
theorem ext_woH {S3 H3 : Hp} (eS : Ex S S3) (eH : Ex H H3) (e3 : Ex S3 H3) : Ext S H (woH S H S3) H3 where
  s := fun a o e => by
    unfold woH
    rw [if_neg fun z => by rw [z.1] at e; cases e]
    exact eS a o e
  h := eH
  sub := fun a o e => by
    unfold woH at e
    split at e
    · cases e
    · exact e3 a o e
  dis := fun a h1 h2 => if_pos ⟨h1, h2⟩
theorem woH_none {S3 : Hp} {p : Addr} (h : S3 p = none) : woH S H S3 p = none := by
  unfold woH
  split
  · rfl
  · exact h
/-- all that is read, beside the root at p -/
theorem SG.look1 {p : Addr} {m : M} (st : SG K S0 H0 ρ g S H σ) (hp : List.Perm g (g1 ++ [(p, .n s ms)])) (hv : View g1 ρ ρv) : ∃ S2, Ex S S2 ∧ Ex S2 H ∧ Env K S2 σ ρv ∧ S2 p = none := by
  obtain ⟨fp, rg, s0⟩ := st.perm hp
  have o := rg.own
  rw [gv_app, gm_app] at o
  obtain ⟨f1, f2, ef, o1, o2⟩ := o.split gv_len
  have n := SG.noS s0 rg
  have hpf : p ∈ f2 := by
    cases o2 with
    | cons h1 h2 =>
      cases h1 with
      | n _ _ _ => simp
  have hp1 : p ∉ f1 := fun z => (List.nodup_append.mp (ef ▸ rg.nd)).2.2 p z p hpf rfl
  have sub : ∀ a ∈ f1, a ∈ fp := fun a ha => ef ▸ List.mem_append_left _ ha
  have hpfp : p ∈ fp := ef ▸ List.mem_append_right _ hpf
  have hHp : H p ≠ none := rg.own.lays p hpfp
  have nown : ¬ Owns ρ σ p := fun ⟨i, ds, h1, h2⟩ => by
    obtain ⟨q, vs, k1, k2, k3, k4, k5⟩ := s0.own i ds h1
    rw [k1] at h2
    cases h2
    rw [cov_in hpfp] at k2
    exact hHp k2
  have st1 : Stt K S0 (cov H0 H f1) ρ S H σ := s0.mv rg.no rg.own.lays (Ex.refl S) s0.ext.sub (fun a _ _ => rfl) (fun a _ h _ => h) fun a ha => ⟨.inl (sub a ha), n a (sub a ha)⟩
  have rg1 : RG K S0 H0 g1 S H f1 := ⟨o1, (List.nodup_append.mp (ef ▸ rg.nd)).1, fun a ha => rg.no a (sub a ha)⟩
  have e1 : Ex S (withP (fun a => Owns ρ σ a ∨ a ∈ f1) S H) := fun a o e => by
    unfold withP
    split
    · exact s0.ext.sub a o e
    · exact e
  have e2 : Ex (withP (fun a => Owns ρ σ a ∨ a ∈ f1) S H) H := fun a o e => by
    unfold withP at e
    split at e
    · exact e
    · exact s0.ext.sub a o e
  refine ⟨withP (fun a => Owns ρ σ a ∨ a ∈ f1) S H, e1, e2, ⟨by rw [hv.length]; exact s0.env.len, fun i d h => ?_⟩, ?_⟩
  · rcases hv.get i d h with h | ⟨ds, h', e⟩ | ⟨a, m, h', hm, e⟩
    · obtain ⟨v, h1, h2⟩ := s0.env.val i d h
      exact ⟨v, h1, h2.mono e1⟩
    · subst e
      obtain ⟨q, vs, k1, k2, k3, k4, k5⟩ := s0.own i ds h'
      exact ⟨_, k1, .lst ((if_pos (.inl ⟨i, ds, h', k1⟩)).trans k4) (k5.mono e1)⟩
    · subst e
      obtain ⟨v, h1, h2⟩ := s0.env.val i _ h'
      cases h2
      obtain ⟨f, k1, k2⟩ := o1.mem hm
      exact ⟨_, h1, k2.see e1 fun b hb => if_pos (.inr (k1 b hb))⟩
  · unfold withP
    rw [if_neg fun z => z.elim nown hp1]
    exact n p hpfp
/-- a list comprehension over the keys of a dict of the region -/
theorem EvX.keys {p : Addr} {ns : List Int} (hp : List.Perm g (g1 ++ [(p, .n (.dic (ik ns)) ms)])) (hi : ρ[i]? = some (.k (.adr p))) (hv : View g1 ρ ρv) (h : EvF K te (ρv.set i (.k (.fz ns))) es) (hf : ∀ d ∈ es, d.flat = true) : EvX K (tLockE te) ρ g (.o es) g := fun S0 H0 S H σ st Q q => by
  obtain ⟨S2, e1, e2, ev, sp⟩ := st.look1 (m := .d .non) hp hv
  obtain ⟨fp, rg, s0⟩ := id st
  obtain ⟨f, hfp, o⟩ := rg.own.mem (a := p) (m := .n (.dic (ik ns)) ms) (hp.mem_iff.mpr (by simp))
  cases o with
  | n h1 h2 h3 =>
    rename_i ho vs fq
    obtain ⟨hl, eo⟩ := h2
    subst eo
    obtain ⟨v0, g1', g2'⟩ := st.env.val i _ hi
    cases g2'
    refine ⟨p, _, h1, trivial, fun od => ?_⟩
    have hkeys : ((ik ns).zip vs).map (·.1) = ns.map Sum.inl := by
      show List.map Prod.fst ((ik ns).zip vs) = ik ns
      rw [List.map_fst_zip (by rw [hl]; exact Nat.le_refl _)]
    have ex3 : Ex S2 (upd S2 p (.frz od (.dK ((ik ns).zip vs)))) := Ex.new sp
    have sub3 : Ex (upd S2 p (.frz od (.dK ((ik ns).zip vs)))) (upd H p (.frz od (.dK ((ik ns).zip vs)))) := fun a o e => by
      by_cases ha : a = p
      · subst ha; rw [upd_same] at e ⊢; exact e
      · rw [upd_ne ha] at e ⊢; exact e2 a o e
    have ev3 : Env K (upd S2 p (.frz od (.dK ((ik ns).zip vs)))) σ (ρv.set i (.k (.fz ns))) := by
      have z := (ev.mono ex3).set (i := i) (d := .fz ns) (v := .ref p) (.fz upd_same hkeys)
      rw [show σ.set i (some (.ref p)) = σ from List.ext_getElem? fun q => by
        by_cases hq : i = q
        · subst hq
          by_cases hl : i < σ.length
          · rw [List.getElem?_set_self hl, g1']
          · rw [List.getElem?_eq_none (by rw [List.length_set]; omega), List.getElem?_eq_none (by omega)]
        · rw [List.getElem?_set_ne hq]] at z
      exact z
    refine h _ _ σ sub3 ev3 _ fun q2 ws S4 H4 x hq2 sq h4 rl => ?_
    have e4 : H4 p = some (.frz od (.dK ((ik ns).zip vs))) := x.h p _ upd_same
    refine ⟨e4, ?_⟩
    have nq : q2 ≠ p := fun z => by rw [z, upd_same] at hq2; cases hq2
    have hq0 : H q2 = none := by rw [upd_ne nq] at hq2; exact hq2
    have h4' : (upd H4 p (.dK ((ik ns).zip vs))) q2 = some (.lst ws) := by rw [upd_ne nq]; exact h4
    have S5 : ∃ S5 : Hp, Ex S S5 ∧ Ex S5 (upd H4 p (.dK ((ik ns).zip vs))) ∧ S5 q2 = none := by
      refine ⟨fun a => if a = p then none else S4 a, fun a o e => ?_, fun a o e => ?_, ?_⟩
      · have ha : a ≠ p := fun z => by subst z; rw [e1 _ _ e] at sp; cases sp
        show (if a = p then none else S4 a) = some o
        rw [if_neg ha]
        exact x.s a o (ex3 a o (e1 a o e))
      · by_cases ha : a = p
        · have e : (if a = p then none else S4 a) = some o := e
          rw [if_pos ha] at e; cases e
        · have e : (if a = p then none else S4 a) = some o := e
          rw [if_neg ha] at e
          rw [upd_ne ha]
          exact x.sub a o e
      · show (if q2 = p then none else S4 q2) = none
        rw [if_neg nq]
        exact sq
    obtain ⟨S5, a1, a2, a3⟩ := S5
    have eH : Ex H (upd H4 p (.dK ((ik ns).zip vs))) := fun a o e => by
      by_cases ha : a = p
      · subst ha; rw [upd_same, ← h1]; exact e
      · rw [upd_ne ha]
        exact x.h a o (by rw [upd_ne ha]; exact e)
    have xx := ext_woH a1 eH a2
    obtain ⟨rg', s'⟩ := rg.go s0 xx
    exact q _ _ _ xx.s (SG.besideF rg s0 hq0 rg' s' (woH_none a3) h4' (rl.flat hf))
/-! ### new dicts -/
theorem ex_disp1 {k : Int} (hk : EvD K tk ρ (.int k)) (hv : EvD K tv ρ d) : EvX K (tDisp [(tk, tv)]) ρ g (.t (.n (.dic (ik [k])) [.d d])) g := fun S0 H0 S H σ st Q q => by
  intro p hp
  obtain ⟨fp, rg, s0⟩ := id st
  have x0 : Ext S H S (upd H p (.dK [])) := Ext.hid s0.ext.sub hp
  refine hk S _ σ x0.sub s0.env _ fun w1 S1 H1 x1 r1 => hv S1 H1 σ x1.sub (s0.env.mono x1.s) _ fun w2 S2 H2 x2 r2 => ?_
  cases r1
  have xx := (x0.trans x1).trans x2
  have hp2 : H2 p = some (.dK []) := (x1.trans x2).h p _ upd_same
  refine ⟨hp2, [(.inl k, w2)], rfl, Nat.le_of_ble_eq_true rfl, ?_⟩
  have eH : Ex H (upd H2 p (.dK (mergeK [] [(.inl k, w2)]))) := fun a o e => by
    rw [upd_ne fun z => by rw [z, hp] at e; cases e]
    exact xx.h a o e
  have np : S2 p = none := (x1.trans x2).dis p (sub_none s0.ext.sub hp) (by rw [upd_same]; exact fun z => nomatch z)
  have e3 : Ex S2 (upd H2 p (.dK (mergeK [] [(.inl k, w2)]))) := fun a o e => by
    rw [upd_ne fun z => by rw [z, np] at e; cases e]
    exact xx.sub a o e
  have x3 : Ext S H S2 (upd H2 p (.dK (mergeK [] [(.inl k, w2)]))) := ⟨xx.s, eH, e3, xx.dis⟩
  obtain ⟨rg', s'⟩ := rg.go s0 x3
  have npf : p ∉ fp := fun z => rg.own.lays p z hp
  have h0p : H0 p = none := by
    cases z : H0 p with
    | none => rfl
    | some o =>
      have y := s0.ext.h p o (by rw [cov_out npf]; exact z)
      rw [hp] at y
      cases y
  have s0p : S0 p = none := by
    cases z : S0 p with
    | none => rfl
    | some o =>
      have y := s0.ext.sub p o (s0.ext.s p o z)
      rw [hp] at y
      cases y
  refine q _ S2 _ xx.s ⟨p, rfl, fp ++ [p], ⟨?_, ?_, fun a ha => ?_⟩, ?_⟩
  · rw [gv_app, gm_app]
    refine rg'.own.append ?_
    have z : OwnL K S2 (upd H2 p (.dK (mergeK [] [(.inl k, w2)]))) [.ref p] [.n (.dic (ik [k])) [.d d]] ((p :: []) ++ []) := .cons (.n (o := .dK (mergeK [] [(.inl k, w2)])) upd_same ⟨rfl, rfl⟩ (OwnL.ofD (ds := [d]) (.cons r2 .nil))) .nil
    exact z
  · refine List.nodup_append.mpr ⟨rg.nd, by simp, fun a ha b hb e => ?_⟩
    rw [List.mem_singleton.mp hb] at e
    subst e
    exact npf ha
  · rcases List.mem_append.mp ha with ha | ha
    · exact rg.no a ha
    · rw [List.mem_singleton.mp ha]
      exact ⟨h0p, s0p⟩
  · refine s0.mv rg.no rg.own.lays xx.s e3 (fun a _ h => ?_) (fun a _ h1 h2 => x3.dis a h1 h2) fun a ha => ?_
    · cases z : H a with
      | none => exact absurd z h
      | some o => exact x3.h a o z
    · rcases List.mem_append.mp ha with ha | ha
      · exact ⟨.inl ha, x3.dis a (SG.noS s0 rg a ha) (rg.own.lays a ha)⟩
      · rw [List.mem_singleton.mp ha]
        exact ⟨.inr hp, np⟩
/-- d[k] = v of a new key -/
theorem TM.dputNew {ns : List Int} {k : Int} (hv : EvD K tv ρ d) (hp : EvP K td ρ g a m π) (hk : EvD K ty ρ (.int k)) (hg : g = gl ++ (a, m) :: gr) (hat : M.at π m = some (.n (.dic (ik ns)) (ds.map M.d))) (hn : k ∉ ns) (hl : ns.length < 100000)
    (kk : F.nx ρ (gl ++ (a, M.put (.n (.dic (ik (ns ++ [k]))) ((ds ++ [d]).map M.d)) π m) :: gr)) : TM K (sDPut td ty tv) ρ g F := fun S0 H0 S H σ Dd st ac =>
  hv S H σ st.sub st.env _ fun v S1 H1 x1 r1 => by
    have st1 := st.go x1
    refine hp S0 H0 S1 H1 σ st1 _ fun u S2 H2 x2 l => ?_
    have st2 := st1.go x2
    refine hk S2 H2 σ st2.sub st2.env _ fun w S3 H3 x3 r3 => ?_
    cases r3
    have st3 := st2.go x3
    obtain ⟨p, o, vs, fq, e1, e2, _, e3, e4, e5, wr⟩ := st3.write hg (l.mono x3.h) hat
    obtain ⟨e6, e7⟩ := e4.toD
    obtain ⟨e8, e9⟩ := e3
    subst e1
    subst e9
    subst e6
    have hl2 : ns.length = vs.length := by rw [← e8]; exact (List.length_map _).symm
    refine ⟨p, _, rfl, .inl ⟨_, .inl k, e2, rfl, Evl.sz_lt (by rw [List.length_zip]; unfold ik; rw [List.length_map]; omega), rfl⟩, ?_⟩
    refine ac.nx _ _ S3 _ σ kk ((x1.s.trans x2.s).trans x3.s) (wr _ (.dic (ik (ns ++ [k]))) (vs ++ [v]) _ [] ⟨?_, ?_⟩ (OwnL.ofD (e7.append (.cons (r1.mono (x2.s.trans x3.s)) .nil))) (List.Sublist.refl _))
    · unfold ik
      rw [List.length_map, List.length_append, List.length_append, hl2]
      rfl
    · rw [putK_new v (valV_out hl2 hn)]
      unfold ik
      rw [List.map_append, List.zip_append (by rw [List.length_map]; exact hl2)]
      rfl
/-- sorted(..) of a new dict -/
theorem EvX.sortedT {ns ks : List Int} (h : EvX K te ρ g (.t (.n (.dic (ik ns)) (ds.map M.d))) g') (h64 : ns.length < 64) (hs : ks.Pairwise (· ≤ ·)) (hp : ks.Perm ns) : EvX K (tCB Sk.rSortedD (tCons te tNil)) ρ g (.o (ks.map D.int)) g' := fun S0 H0 S H σ st Q q =>
  h S0 H0 S H σ st _ fun v S1 H1 e z => by
    obtain ⟨p, ev, st1⟩ := z
    subst ev
    obtain ⟨fp, rg, s1⟩ := id st1
    obtain ⟨f, hf, o⟩ := rg.own.mem (a := p) (m := .n (.dic (ik ns)) (ds.map M.d)) (by simp)
    cases o with
    | n h1 h2 h3 =>
      rename_i ho vs fq
      obtain ⟨hl, eo⟩ := h2
      subst eo
      refine ⟨p, _, ns, rfl, h1, ?_, ?_, fun ms p2 hm1 hm2 hp2 => ?_⟩
      · show List.map Prod.fst ((ik ns).zip vs) = ik ns
        rw [List.map_fst_zip (by rw [hl]; exact Nat.le_refl _)]
      · rw [List.length_zip]
        unfold ik
        rw [List.length_map]
        omega
      · have em : ms = ks := (hm2.trans hp.symm).eq_of_pairwise (fun a b _ _ h1 h2 => by omega) hm1 hs
        subst em
        obtain ⟨fp, rg, s0⟩ := id (SG.forget st1)
        obtain ⟨rg', s'⟩ := rg.go s0 (Ext.hid s0.ext.sub hp2 (o := .lst (ms.map V.int)))
        exact q _ S1 _ e (SG.besideF rg s0 hp2 rg' s' (sub_none s0.ext.sub hp2) upd_same (RdL.ofInts ms))
end
end Pl

/-! New trees; rows that are empty. -/
namespace Pl
open PySem PySem.Spec PyProof.Rows L2
open Evl (Ex)
section
variable {K : PySem.W.Frag} {S0 H0 S H S' H' : Hp} {σ : L2.St} {ρ ρ' ρ1 ρv : Rho} {g g' g1 g2 gl gr : Gs} {F G : FM} {t u : TS} {te ti td tx tk tv ty : TE} {tA : TA} {c : TT} {d : D} {es ds : List D} {ms : List M} {m m1 m2 : M} {a : Addr} {π : List Nat} {Dd : Ends} {i j : Nat} {b : Bool} {r : Rs} {E : XK} {s : Shp}
theorem SG.add {p : Addr} {f : List Addr} (st : SG K S0 H0 ρ g S H σ) (x : Ext S H S' H') (o : Own K S' H' (.ref p) m f) (nd : f.Nodup) (no : ∀ a ∈ f, H a = none ∧ S' a = none) : SG K S0 H0 ρ (g ++ [(p, m)]) S' H' σ := by
  obtain ⟨fp, rg, s0⟩ := st
  obtain ⟨rg', s'⟩ := rg.go s0 x
  have nf : ∀ a ∈ f, a ∉ fp := fun a ha z => rg.own.lays a z (no a ha).1
  refine ⟨fp ++ f, ⟨?_, ?_, fun a ha => ?_⟩, ?_⟩
  · rw [gv_app, gm_app]
    refine rg'.own.append ?_
    have z : OwnL K S' H' [.ref p] [m] (f ++ []) := .cons o .nil
    rw [List.append_nil] at z
    exact z
  · refine List.nodup_append.mpr ⟨rg.nd, nd, fun a ha b hb e => ?_⟩
    subst e
    exact nf a hb ha
  · rcases List.mem_append.mp ha with ha | ha
    · exact rg.no a ha
    · have hp := (no a ha).1
      refine ⟨?_, ?_⟩
      · cases z : H0 a with
        | none => rfl
        | some o =>
          have y := s0.ext.h a o (by rw [cov_out (nf a ha)]; exact z)
          rw [hp] at y
          cases y
      · cases z : S0 a with
        | none => rfl
        | some o =>
          have y := s0.ext.sub a o (s0.ext.s a o z)
          rw [hp] at y
          cases y
  · refine s0.mv rg.no rg.own.lays x.s x.sub (fun a _ h => ?_) (fun a _ h1 h2 => x.dis a h1 h2) fun a ha => ?_
    · cases z : H a with
      | none => exact absurd z h
      | some o => exact x.h a o z
    · rcases List.mem_append.mp ha with ha | ha
      · exact ⟨.inl ha, x.dis a (SG.noS s0 rg a ha) (rg.own.lays a ha)⟩
      · exact ⟨.inr (no a ha).1, (no a ha).2⟩
theorem ownL_rows : ∀ {as : List Addr}, (∀ a ∈ as, H a = some (.lst [])) → OwnL K S H (as.map V.ref) (List.replicate as.length (.n .lst [])) as
  | [], _ => .nil
  | a :: as, h => by
    have z : OwnL K S H (.ref a :: as.map V.ref) (.n .lst [] :: List.replicate as.length (.n .lst [])) ((a :: []) ++ as) := .cons (.n (h a List.mem_cons_self) (show Shp.ho .lst (.lst []) [] from rfl) .nil) (ownL_rows fun b hb => h b (List.mem_cons_of_mem _ hb))
    exact z
/-- [[] for .. in ..] -/
theorem EvX.rows {wi : TI} {vs : List Nat} (hi : EvI K wi ρ ds) (hj : j ∈ vs) (hl : ds.length ≤ 50000) : EvX K (tLc wi (gName j) tYes (tLst tNil) vs) ρ g (.t (.n .lst (List.replicate ds.length (.n .lst [])))) g := fun S0 H0 S H σ st Q q =>
  hi S H σ st.sub st.env _ fun J S1 H1 x1 wk => fun Dl hD => by
    refine ⟨fun i m H' => m = ds.length - i ∧ i ≤ ds.length ∧ ∃ S' as, Ext S1 H1 S' H' ∧ S' Dl = none ∧ H' Dl = some (.lst (as.map V.ref)) ∧ as.length = i ∧ (Dl :: as).Nodup ∧ ∀ a ∈ as, H' a = some (.lst []) ∧ H1 a = none ∧ S' a = none,
      ⟨ds.length, by simp, Nat.zero_le _, S1, [], Ext.hid x1.sub hD, sub_none x1.sub hD, upd_same, rfl, by simp, fun _ z => nomatch z⟩, ?_⟩
    rintro i m H' ⟨rfl, hi, S', as, x, nS, hus, hal, nd, rows⟩
    by_cases hlt : i < ds.length
    · refine .inr ⟨wk.go S' H' i x.s x.sub hlt, fun H2 => ∃ S2 as2, Ext S1 H1 S2 H2 ∧ S2 Dl = none ∧ H2 Dl = some (.lst (as2.map V.ref)) ∧ as2.length = i + 1 ∧ (Dl :: as2).Nodup ∧ ∀ a ∈ as2, H2 a = some (.lst []) ∧ H1 a = none ∧ S2 a = none, fun H2 z => ⟨ds.length - (i + 1), by omega, rfl, hlt, z⟩, fun xv H'' y => ?_⟩
      have hd : ds[i]? = some ds[i] := List.getElem?_eq_getElem hlt
      obtain ⟨S2, x2, r2⟩ := wk.yld S' H' i xv H'' ds[i] x.s x.sub hd y
      refine ⟨by rw [wipe_set hj, wipe_wipe], ?_⟩
      refine ⟨Evl.sz_of (Nat.zero_le _), fun p hp => ?_⟩
      have hD2 : H'' Dl = some (.lst (as.map V.ref)) := x2.h _ _ hus
      have np : p ≠ Dl := fun z => by rw [z, hD2] at hp; cases hp
      have npa : ∀ a ∈ as, a ≠ p := fun a ha z => by rw [← z, x2.h _ _ (rows a ha).1] at hp; cases hp
      have h1p : H1 p = none := Evl.fresh_back (x.h.trans x2.h) hp
      have s2p : S2 p = none := sub_none x2.sub hp
      have s2D : S2 Dl = none := x2.dis _ nS (by rw [hus]; exact fun z => nomatch z)
      refine ⟨as.map V.ref, by rw [upd_ne (Ne.symm np)]; exact hD2, Evl.sz_lt (by rw [List.length_map]; omega), S2, as ++ [p], ⟨x.s.trans x2.s, fun a o ha => ?_, fun a o ha => ?_, fun a h1 h2 => x2.dis a (x.dis a h1 h2) ?_⟩, s2D, ?_, by rw [List.length_append, hal]; rfl, ?_, fun a ha => ?_⟩
      · rw [upd_ne (fun z => by rw [z, hD] at ha; cases ha), upd_ne (fun z => by rw [z, h1p] at ha; cases ha)]
        exact x2.h _ _ (x.h a o ha)
      · rw [upd_ne (fun z => by rw [z, s2D] at ha; cases ha), upd_ne (fun z => by rw [z, s2p] at ha; cases ha)]
        exact x2.sub a o ha
      · cases e : H1 a with
        | none => exact absurd e h2
        | some o => rw [x.h a o e]; exact fun z => nomatch z
      · rw [upd_same, List.map_append]
        rfl
      · have nd' := List.nodup_cons.mp nd
        refine List.nodup_cons.mpr ⟨fun z => ?_, List.nodup_append.mpr ⟨nd'.2, by simp, fun a ha b hb e => npa a ha (e.trans (List.mem_singleton.mp hb))⟩⟩
        rcases List.mem_append.mp z with z | z
        · exact nd'.1 z
        · exact np (List.mem_singleton.mp z).symm
      · rcases List.mem_append.mp ha with ha | ha
        · obtain ⟨r1, r2', r3⟩ := rows a ha
          have nD : a ≠ Dl := fun z => (List.nodup_cons.mp nd).1 (z ▸ ha)
          rw [upd_ne nD, upd_ne (npa a ha)]
          exact ⟨x2.h _ _ r1, r2', x2.dis a r3 (by rw [r1]; exact fun z => nomatch z)⟩
        · rw [List.mem_singleton.mp ha, upd_ne np, upd_same]
          exact ⟨rfl, h1p, s2p⟩
    · have e0 : i = ds.length := by omega
      subst e0
      refine .inl ⟨wk.stop S' H' x.s x.sub, ?_⟩
      have xx := x1.trans x
      refine q _ S' H' xx.s ⟨Dl, rfl, st.add xx (f := Dl :: as) ?_ nd fun a ha => ?_⟩
      · rw [← hal]
        exact .n hus (show Shp.ho .lst _ _ from rfl) (ownL_rows fun a ha => (rows a ha).1)
      · rcases List.mem_cons.mp ha with e | ha
        · rw [e]
          exact ⟨Evl.fresh_back x1.h hD, nS⟩
        · exact ⟨Evl.fresh_back x1.h (rows a ha).2.1, (rows a ha).2.2⟩
/-! ### calls that read the region -/
mutual
def M.flat : M → Bool
  | .d d => d.flat
  | .n _ ms => flatL ms
  | .tb _ _ => false
def flatL : List M → Bool
  | [] => true
  | m :: ms => m.flat && flatL ms
end
mutual
theorem Own.flat {S2 : Hp} : ∀ {v : V} {m : M} {f : List Addr}, Own K S H v m f → m.flat = true → Own K S2 H v m f
  | _, _, _, .d h, e => .d (h.flat e)
  | _, _, _, .n h ho r, e => .n h ho (OwnL.flat r e)
  | _, _, _, .tb _, e => by cases e
theorem OwnL.flat {S2 : Hp} : ∀ {vs : List V} {ms : List M} {f : List Addr}, OwnL K S H vs ms f → flatL ms = true → OwnL K S2 H vs ms f
  | _, _, _, .nil, _ => .nil
  | _, _, _, .cons h r, e => by
    have e : (_ && _) = true := e
    rw [Bool.and_eq_true] at e
    exact .cons (h.flat e.1) (r.flat e.2)
end
theorem flatL_map {α : Type} {f : α → M} : ∀ {l : List α}, (∀ x ∈ l, (f x).flat = true) → flatL (l.map f) = true
  | [], _ => rfl
  | x :: l, h => by
    show ((f x).flat && flatL (l.map f)) = true
    rw [h x List.mem_cons_self, flatL_map fun y hy => h y (List.mem_cons_of_mem _ hy)]
    rfl
theorem EvX.callV {Rel : List D → Gs → Rs → Gs → Prop} (hv : View g ρ ρv) (ha : EvA K tA ρv ds) (hr : Rel ds [] (.t m) []) (hf : m.flat = true) : EvX K (tCall (spG K Rel) [] E tA) ρ g (.t m) g := fun S0 H0 S H σ st Q q => by
  obtain ⟨fp, rg, s0⟩ := id st
  obtain ⟨P, e1, e2, v, _⟩ := SG.look rg s0 hv
  refine ha _ H σ e2 v _ fun vs S1 H1 x1 r1 => ?_
  refine ⟨S1, H1, ds, [], .t m, [], ⟨[], ⟨.nil, List.nodup_nil, fun _ z => nomatch z⟩, ?_⟩, by rw [List.append_nil]; exact r1, hr, fun w S2 H2 e3 z => ?_⟩
  · rw [cov_nil]
    exact ⟨Ext.refl x1.sub, ⟨rfl, fun i d h => by simp at h⟩, fun i ds h => by simp at h, fun i j a b p h => by simp at h⟩
  · obtain ⟨p, ew, fc, rc, sc⟩ := z
    subst ew
    have o := rc.own
    have o : OwnL K S2 H2 [.ref p] [m] fc := o
    cases o with
    | cons o1 o2 =>
      cases o2
      rename_i f
      rw [List.append_nil] at rc sc
      have eH : Ex H1 H2 := fun a o e => by
        have n : a ∉ f := fun z => by rw [(rc.no a z).1] at e; cases e
        exact sc.ext.h a o (by rw [cov_out n]; exact e)
      have xx : Ext S H (woH S H S2) H2 := ext_woH ((e1.trans x1.s).trans e3) (x1.h.trans eH) sc.ext.sub
      refine q _ _ H2 xx.s ⟨p, rfl, st.add xx (o1.flat hf) rc.nd fun a ha => ?_⟩
      have n1 := (rc.no a ha).1
      exact ⟨Evl.fresh_back x1.h n1, woH_none (SG.noS sc rc a ha)⟩
/-- a comprehension over a walked dict, put into a name -/
theorem TM.lockAsg (h : EvX K (tLockE te) ρ g (.o es) g') (k : F.nx (ρ.set i (.o es)) g') : TM K (tLock (tAsg te (gName i))) ρ g F := fun S0 H0 S H σ Dd s a => by
  have z := TM.asgO h k S0 H0 S H σ Dd s a
  obtain ⟨d, u, h1, h2, h3⟩ := z
  exact ⟨d, u, h1, h2, fun od => h3 od⟩
theorem lt1 {n c : Nat} (h : n + 64 < c) : n + 1 < c := by omega
end
end Pl

/-! What joints carry, as trees and as data. -/
namespace Pl
open PySem PySem.Spec PyProof.Rows L2
open Evl (Ex)
def nD (l : List Nat) : List D := l.map fun k : Nat => .int (k : Int)
def rowD (l : List Nat) : D := .lst (nD l)
def gridD (cs : Fr.Cs) : D := .lst (cs.map rowD)
def rowM (l : List Nat) : M := .n .lst (l.map fun k : Nat => .d (.int (k : Int)))
def gridM (cs : Fr.Cs) : M := .n .lst (cs.map rowM)
def kI (l : List Nat) : List Int := l.map fun k : Nat => (k : Int)
def aD (ah : Fr.Ah) : List D := ah.map fun p => .int (p.2 : Int)
def dctM (ah : Fr.Ah) : M := .n (.dic (ik (kI (Fr.keys ah)))) ((aD ah).map M.d)
def dctD (ah : Fr.Ah) : D := .dc (ik (kI (Fr.keys ah))) (aD ah)
theorem see_row (l : List Nat) : (rowM l).see = rowD l := by
  show D.lst (seeL (l.map fun k : Nat => M.d (.int (k : Int)))) = _
  have e : (l.map fun k : Nat => M.d (.int (k : Int))) = (nD l).map M.d := by unfold nD; rw [List.map_map]; rfl
  rw [e, seeL_d]
  rfl
theorem see_grid (cs : Fr.Cs) : (gridM cs).see = gridD cs := by
  show D.lst (seeL (cs.map rowM)) = _
  rw [seeL_map, List.map_map]
  unfold gridD
  refine congrArg D.lst (List.map_congr_left fun l _ => see_row l)
theorem see_dct (ah : Fr.Ah) : (dctM ah).see = dctD ah := by
  show D.dc _ (seeL ((aD ah).map M.d)) = _
  rw [seeL_d]
  rfl
theorem get_cs {cs : Fr.Cs} {j : Nat} (h : j < cs.length) : cs[j]? = some (Fr.at_ cs j) := by
  unfold Fr.at_
  simp [List.getD, h]
theorem at_grid {cs : Fr.Cs} {j : Nat} (h : j < cs.length) : M.at [j] (gridM cs) = some (rowM (Fr.at_ cs j)) := by
  have e : (cs.map rowM)[j]? = some (rowM (Fr.at_ cs j)) := by rw [List.getElem?_map, get_cs h]; rfl
  show (match (cs.map rowM)[j]? with | some m => M.at [] m | none => none) = _
  rw [e]
  rfl
theorem put_grid {cs : Fr.Cs} {j : Nat} {l : List Nat} (h : j < cs.length) : M.put (rowM l) [j] (gridM cs) = gridM (cs.set j l) := by
  have e : (cs.map rowM)[j]? = some (rowM (Fr.at_ cs j)) := by rw [List.getElem?_map, get_cs h]; rfl
  show (match (cs.map rowM)[j]? with | some m => M.n .lst ((cs.map rowM).set j (M.put (rowM l) [] m)) | none => .n .lst (cs.map rowM)) = _
  rw [e]
  show M.n .lst ((cs.map rowM).set j (rowM l)) = _
  unfold gridM
  rw [List.map_set]
theorem gridD_at {cs : Fr.Cs} {j : Nat} (h : j < cs.length) : atI (cs.map rowD) (j : Int) = some (rowD (Fr.at_ cs j)) := atI_nat (by rw [List.getElem?_map, get_cs h]; rfl)
theorem kI_mem {l : List Nat} {k : Nat} : (k : Int) ∈ kI l ↔ k ∈ l := by
  unfold kI
  rw [List.mem_map]
  constructor
  · rintro ⟨a, h, e⟩
    have : a = k := by omega
    rw [← this]
    exact h
  · exact fun h => ⟨k, h, rfl⟩
theorem visit_snoc (j f : Nat) : ∀ (l : List Nat) (ah : Fr.Ah) (wt : List Nat), Fr.visit j (l ++ [f]) ah wt = if f ∈ Fr.keys (Fr.visit j l ah wt).1 then Fr.visit j l ah wt else ((Fr.visit j l ah wt).1 ++ [(f, j)], (Fr.visit j l ah wt).2 ++ [f])
  | [], ah, wt => by by_cases h : f ∈ Fr.keys ah <;> simp [Fr.visit, h]
  | x :: l, ah, wt => by
    rw [List.cons_append]
    unfold Fr.visit
    split
    · exact visit_snoc j f l ah wt
    · exact visit_snoc j f l _ _
theorem visit_len (j : Nat) : ∀ (l : List Nat) (ah : Fr.Ah) (wt : List Nat), (Fr.visit j l ah wt).1.length ≤ ah.length + l.length ∧ (Fr.visit j l ah wt).2.length ≤ wt.length + l.length
  | [], ah, wt => by simp [Fr.visit]
  | x :: l, ah, wt => by
    unfold Fr.visit
    split
    · have := visit_len j l ah wt
      simp only [List.length_cons]
      omega
    · have := visit_len j l (ah ++ [(x, j)]) (wt ++ [x])
      simp only [List.length_cons, List.length_append, List.length_nil] at this ⊢
      omega
theorem visit_grow (j : Nat) : ∀ (l : List Nat) (ah : Fr.Ah) (wt : List Nat), ah.length ≤ (Fr.visit j l ah wt).1.length
  | [], ah, wt => Nat.le_refl _
  | x :: l, ah, wt => by
    unfold Fr.visit
    split
    · exact visit_grow j l ah wt
    · have := visit_grow j l (ah ++ [(x, j)]) (wt ++ [x])
      rw [List.length_append, List.length_cons, List.length_nil] at this
      omega
theorem reach_step (cs : Fr.Cs) (m j : Nat) (ah : Fr.Ah) (wt : List Nat) : Fr.reach cs (m + 1) ah (wt ++ [j]) = Fr.reach cs m (Fr.visit j (Fr.at_ cs j) ah wt).1 (Fr.visit j (Fr.at_ cs j) ah wt).2 := by
  conv => lhs; unfold Fr.reach
  simp
theorem seen_start {cs : Fr.Cs} {start : Nat} (hs : start < cs.length) : Fr.Seen cs.length cs start [(start, start)] [start] := by
  refine ⟨by simp [Fr.keys], fun k hk => ?_, ⟨[], rfl⟩, fun i f p h hi => ?_, fun k hk => ?_⟩
  · simp [Fr.keys] at hk
    omega
  · obtain ⟨m, rfl⟩ : ∃ m, i = m + 1 := ⟨i - 1, by omega⟩
    simp at h
  · simpa [Fr.keys] using hk
theorem dctM_snoc (ah : Fr.Ah) (f j : Nat) : M.n (.dic (ik (kI (Fr.keys ah) ++ [(f : Int)]))) ((aD ah ++ [D.int (j : Int)]).map M.d) = dctM (ah ++ [(f, j)]) := by
  unfold dctM
  rw [Fr.keys_append]
  unfold kI aD
  rw [List.map_append, List.map_append, List.map_append, List.map_append]
  rfl
theorem nD_snoc (l : List Nat) (f : Nat) : nD l ++ [D.int (f : Int)] = nD (l ++ [f]) := by unfold nD; rw [List.map_append]; rfl
theorem dct_flat (ah : Fr.Ah) : (dctM ah).flat = true := by
  show flatL ((aD ah).map M.d) = true
  refine flatL_map fun x hx => ?_
  obtain ⟨p, _, rfl⟩ := List.mem_map.mp hx
  rfl
theorem grid_flat (cs : Fr.Cs) : (gridM cs).flat = true := by
  show flatL (cs.map rowM) = true
  refine flatL_map fun l _ => ?_
  show flatL (l.map fun k : Nat => M.d (.int (k : Int))) = true
  exact flatL_map fun x _ => rfl
theorem rowM_kI (l : List Nat) : rowM l = .n .lst ((kI l).map fun n => M.d (.int n)) := by
  unfold rowM kI
  rw [List.map_map]
  rfl
theorem kI_erase {j : Nat} : ∀ {l : List Nat}, j ∈ l → ∃ i, (kI l)[i]? = some (j : Int) ∧ (∀ q : Nat, q < i → (kI l)[q]? ≠ some (j : Int)) ∧ (kI l).eraseIdx i = kI (l.erase j)
  | x :: l, h => by
    by_cases e : x = j
    · subst e
      refine ⟨0, rfl, fun q hq => absurd hq (Nat.not_lt_zero _), ?_⟩
      rw [List.erase_cons_head]
      rfl
    · obtain ⟨i, h1, h2, h3⟩ := kI_erase (List.mem_of_ne_of_mem (Ne.symm e) h)
      refine ⟨i + 1, h1, fun q hq => ?_, ?_⟩
      · cases q with
        | zero =>
          intro z
          have z : (x : Int) = (j : Int) := Option.some.inj z
          omega
        | succ q => exact h2 q (by omega)
      · rw [List.erase_cons_tail (by simpa using e)]
        show (x : Int) :: (kI l).eraseIdx i = _
        rw [h3]
        rfl
/-- what turning a bar about leaves -/
theorem turn_two {cs : Fr.Cs} {b j v : Nat} (hb : b < cs.length) (hj : j < cs.length) (ne : b ≠ j) : (Fr.at_ (Fr.turn cs b j) v).length ≤ (Fr.at_ cs v).length + 1 := by
  rw [Fr.turn_at hb hj ne]
  split
  · rename_i h
    subst h
    rw [List.length_append]
    exact Nat.le_refl _
  · split
    · rename_i h
      subst h
      exact Nat.le_trans (List.length_erase_le) (Nat.le_succ _)
    · exact Nat.le_succ _
theorem turn_set {cs : Fr.Cs} {b j : Nat} (hb : b < cs.length) (ne : b ≠ j) : (cs.set b ((Fr.at_ cs b).erase j)).set j (Fr.at_ cs j ++ [b]) = Fr.turn cs b j := by
  unfold Fr.turn
  rw [Fr.at_set hb, if_neg ne]
theorem row_app (l : List Nat) (b : Nat) : M.n .lst ((l.map fun k : Nat => M.d (.int (k : Int))) ++ [M.d (.int (b : Int))]) = rowM (l ++ [b]) := by
  unfold rowM
  rw [List.map_append]
  rfl
def passR (cs : Fr.Cs) (start spared : Nat) : Fr.Cs × Bool := match Fr.passOn cs start spared with
  | none => (cs, false)
  | some c => (c, true)
theorem keys_at {ah : Fr.Ah} {j : Nat} (h : j ∈ Fr.keys ah) : ∃ (i q : Nat), ah[i]? = some (j, q) := by
  obtain ⟨⟨x, q⟩, hm, e⟩ := List.mem_map.mp h
  obtain ⟨i, hi⟩ := List.getElem?_of_mem hm
  exact ⟨i, q, by rw [hi]; exact congrArg some (Prod.ext e rfl)⟩
theorem keys_get {ah : Fr.Ah} {i j q : Nat} (h : ah[i]? = some (j, q)) : (kI (Fr.keys ah))[i]? = some (j : Int) := by
  unfold kI Fr.keys
  rw [List.getElem?_map, List.getElem?_map, h]
  rfl
theorem keys_first {ah : Fr.Ah} (nd : (Fr.keys ah).Nodup) {i j q : Nat} (h : ah[i]? = some (j, q)) : ∀ k : Nat, k < i → (kI (Fr.keys ah))[k]? ≠ some (j : Int) := fun k hk e => by
  have hl : i < ah.length := (List.getElem?_eq_some_iff.mp h).1
  have hk2 : k < ah.length := by omega
  have e0 : ah[k]? = some (ah[k].1, ah[k].2) := List.getElem?_eq_getElem hk2
  rw [keys_get e0] at e
  have e1 : ah[k].1 = j := by
    have := Option.some.inj e
    omega
  rw [e1] at e0
  have := Fr.nd_pos nd h e0
  omega
/-- what holds while bars are turned about -/
def BackAt (cs : Fr.Cs) (ah : Fr.Ah) (start j0 m : Nat) (cs1 : Fr.Cs) (i j q : Nat) : Prop :=
  ah[i]? = some (j, q) ∧ i < m ∧ m ≤ cs.length + 1 ∧ cs1.length = cs.length ∧ (∀ v w, w ∈ Fr.at_ cs1 v → w < cs.length ∧ w ≠ v) ∧ (∀ i' v p' : Nat, i' < i → ah[i']? = some (v, p') → Fr.at_ cs1 v = Fr.at_ cs v) ∧
    (∀ v, (Fr.at_ cs1 v).length + m ≤ cs.length + 3) ∧ Fr.back ah start m cs1 j = Fr.back ah start (cs.length + 1) cs j0
theorem back_step {cs : Fr.Cs} {ah : Fr.Ah} {start j0 m : Nat} {cs1 : Fr.Cs} {i j q : Nat} (sn : Fr.Seen cs.length cs start ah []) (low : ∀ v w, w ∈ Fr.at_ cs v → w < cs.length ∧ w ≠ v) (h : BackAt cs ah start j0 (m + 1) cs1 i j q) (hne : j ≠ start) :
    j ∈ Fr.at_ cs1 q ∧ (q < cs.length ∧ j < cs.length) ∧ q ≠ j ∧ ∃ (i' q' : Nat), i' < i ∧ ah[i']? = some (q, q') ∧ BackAt cs ah start j0 m (Fr.turn cs1 q j) i' q q' := by
  obtain ⟨hi, him, hm, hl1, low1, same1, len1, hb1⟩ := h
  have i0 : i ≠ 0 := fun e => by
    subst e
    obtain ⟨r, hr⟩ := sn.head
    rw [hr] at hi
    simp at hi
    exact hne hi.1.symm
  obtain ⟨hjq, i', q', hi', hq'⟩ := sn.par i j q hi i0
  have eq := same1 i' q q' hi' hq'
  have hj1 : j ∈ Fr.at_ cs1 q := by rw [eq]; exact hjq
  obtain ⟨hjn, hjne⟩ := low q j hjq
  have hqn : q < cs.length := sn.low q (List.mem_map.mpr ⟨(q, q'), List.mem_of_getElem? hq', rfl⟩)
  have hql : q < cs1.length := by omega
  have hjl : j < cs1.length := by omega
  have ne : q ≠ j := fun e => hjne e.symm
  refine ⟨hj1, ⟨hqn, hjn⟩, ne, i', q', hi', hq', hq', by omega, by omega, by rw [Fr.turn_len, hl1], fun v w hw => ?_, fun i2 v p' h2 hv => ?_, fun v => ?_, ?_⟩
  · rw [Fr.turn_at hql hjl ne] at hw
    split at hw
    · rename_i e
      subst e
      rcases List.mem_append.mp hw with hw | hw
      · exact low1 _ _ hw
      · rw [List.mem_singleton.mp hw]
        exact ⟨hqn, ne⟩
    · split at hw
      · rename_i e
        subst e
        exact low1 _ _ (List.mem_of_mem_erase hw)
      · exact low1 _ _ hw
  · rw [Fr.turn_at hql hjl ne, if_neg, if_neg]
    · exact same1 i2 v p' (by omega) hv
    · intro e
      subst e
      have := Fr.nd_pos sn.nd hv hq'
      omega
    · intro e
      subst e
      have := Fr.nd_pos sn.nd hv hi
      omega
  · have := turn_two (v := v) hql hjl ne
    have := len1 v
    omega
  · rw [← hb1]
    show _ = Fr.back ah start (m + 1) cs1 j
    conv => rhs; unfold Fr.back
    rw [if_neg hne, Fr.look_at sn.nd hi]
end Pl
namespace Pl
open PySem PySem.Spec PyProof.Rows L2
open Evl (Ex)
def sortN (ks : List Nat) : List Nat := ks.mergeSort fun a b => decide (a ≤ b)
theorem sortN_perm (ks : List Nat) : (sortN ks).Perm ks := List.mergeSort_perm _ _
theorem sortN_rise (ks : List Nat) : (sortN ks).Pairwise (· ≤ ·) :=
  (List.pairwise_mergeSort (le := fun a b => decide (a ≤ b)) (fun a b c h1 h2 => by simp at h1 h2 ⊢; omega) (fun a b => by simp; omega) ks).imp fun h => by simpa using h
theorem kI_rise {ks : List Nat} (h : ks.Pairwise (· ≤ ·)) : (kI ks).Pairwise (· ≤ ·) := by
  unfold kI
  rw [List.pairwise_map]
  exact h.imp fun h => by omega
def layR : Option (List Nat) → Rs
  | none => .d .non
  | some ks => .o ((kI (sortN ks)).map D.int)
def bI (b : Fr.Bar) : Int × Int := ((b.1 : Int), (b.2 : Int))
def crowdL (cs : Fr.Cs) : List Fr.Bar → Option (List Nat)
  | [] => none
  | b :: r => match (Fr.lay cs b.1 b.2).2 with
    | none => crowdL (Fr.lay cs b.1 b.2).1 r
    | some ks => some ks
end Pl
namespace Pl
open PySem PySem.Spec PyProof.Rows L2
open Evl (Ex)
theorem at_bare (n v : Nat) : Fr.at_ (List.replicate n []) v = [] := by
  unfold Fr.at_
  by_cases h : v < n
  · simp [List.getD, h]
  · simp [List.getD, Nat.le_of_not_lt h]
theorem outs_bare (n : Nat) (S : Fr.JS) : ∀ k : Nat, Fr.outs (List.replicate n []) S k = 0
  | 0 => rfl
  | k + 1 => by
    unfold Fr.outs
    rw [outs_bare n S k, at_bare]
    simp
theorem fits_bare (n : Nat) : Fr.Fits n (List.replicate n []) [] where
  len := List.length_replicate
  two := fun v => by rw [at_bare]; exact Nat.zero_le _
  low := fun v w h => by rw [at_bare] at h; cases h
  out := fun S => by rw [outs_bare]; rfl
theorem slim_nil (n : Nat) : Fr.Slim n [] := fun S h => by
  have : Fr.ins [] S = 0 := rfl
  omega
end Pl
namespace Pl
/-- the numbers of the bars that are taken, from number i on -/
def chosenL (cs : Fr.Cs) : List Fr.Bar → Nat → List Nat
  | [], _ => []
  | b :: r, i => match (Fr.lay cs b.1 b.2).2 with
    | none => i :: chosenL (Fr.lay cs b.1 b.2).1 r (i + 1)
    | some _ => chosenL (Fr.lay cs b.1 b.2).1 r (i + 1)
end Pl

/-! What going through all bars tells: they are lean, or some joints are crowded. -/
namespace Fr
theorem card_inL {n : Nat} {ks : List Nat} (nd : ks.Nodup) (low : ∀ k ∈ ks, k < n) : card n (inL ks) = ks.length := by
  unfold card
  rw [List.countP_eq_length_filter]
  refine List.Perm.length_eq ((List.perm_ext_iff_of_nodup (List.nodup_range.filter _) nd).mpr fun k => ?_)
  rw [List.mem_filter, List.mem_range]
  unfold inL
  rw [decide_eq_true_eq]
  exact ⟨fun h => h.2, fun h => ⟨low k h, h⟩⟩
theorem ins_le_append (as bs : List Bar) (S : JS) : ins as S ≤ ins (as ++ bs) S := by
  unfold ins
  rw [List.countP_append]
  exact Nat.le_add_right _ _
theorem crowd_go {n : Nat} : ∀ (rest pre : List Bar) (cs : Cs), Ok n (pre ++ rest) → Fits n cs pre → Slim n pre → (Pl.crowdL cs rest = none → Slim n (pre ++ rest)) ∧
    ∀ ks, Pl.crowdL cs rest = some ks → ks.Nodup ∧ (∀ k ∈ ks, k < n) ∧ 2 ≤ ks.length ∧ 2 * ks.length < ins (pre ++ rest) (inL ks) + 3
  | [], pre, cs, _, _, sl => ⟨fun _ => by rw [List.append_nil]; exact sl, fun ks h => by cases h⟩
  | b :: rest, pre, cs, ok, ft, sl => by
    obtain ⟨o1, o2, o3⟩ := ok b (by simp)
    have eq : pre ++ b :: rest = (pre ++ [b]) ++ rest := by simp
    unfold Pl.crowdL
    cases hy : (lay cs b.1 b.2).2 with
    | none =>
      obtain ⟨f1, f2⟩ := lay_yes ft (fun c hc => ok c (List.mem_append_left _ hc)) sl o1 o2 o3 (Prod.ext rfl hy : lay cs b.1 b.2 = ((lay cs b.1 b.2).1, none))
      have z := crowd_go rest (pre ++ [b]) (lay cs b.1 b.2).1 (by rw [← eq]; exact ok) f1 f2
      rw [eq]
      exact z
    | some ks =>
      show (some ks = none → Slim n (pre ++ b :: rest)) ∧ ∀ ks', some ks = some ks' → ks'.Nodup ∧ (∀ k ∈ ks', k < n) ∧ 2 ≤ ks'.length ∧ 2 * ks'.length < ins (pre ++ b :: rest) (inL ks') + 3
      refine ⟨fun h => (Option.some_ne_none _ h).elim, fun ks' h => ?_⟩
      have h := Option.some.inj h
      subst h
      obtain ⟨_, nd, low, m1, m2, t1, t2⟩ := lay_no ft sl o1 o2 o3 (Prod.ext rfl hy : lay cs b.1 b.2 = ((lay cs b.1 b.2).1, some ks))
      rw [card_inL nd low] at t1 t2
      refine ⟨nd, low, t1, ?_⟩
      have i1 := ins_append pre b (inL ks)
      have e1 : inL ks b.1 = true := decide_eq_true m1
      have e2 : inL ks b.2 = true := decide_eq_true m2
      rw [e1, e2, Bool.and_self, if_pos rfl] at i1
      have i2 := ins_le_append (pre ++ [b]) rest (inL ks)
      rw [eq]
      omega
/-- None: lean; else: crowded joints -/
theorem crowd_spec {n : Nat} {nb : List Bar} (ok : Ok n nb) : (Pl.crowdL (List.replicate n []) nb = none ↔ Slim n nb) ∧
    ∀ ks, Pl.crowdL (List.replicate n []) nb = some ks → ks.Nodup ∧ (∀ k ∈ ks, k < n) ∧ 2 ≤ ks.length ∧ 2 * ks.length < ins nb (inL ks) + 3 := by
  obtain ⟨h1, h2⟩ := crowd_go nb [] (List.replicate n []) ok (Pl.fits_bare n) (Pl.slim_nil n)
  rw [List.nil_append] at h1 h2
  refine ⟨⟨h1, fun sl => ?_⟩, h2⟩
  cases e : Pl.crowdL (List.replicate n []) nb with
  | none => rfl
  | some ks =>
    obtain ⟨nd, low, k2, k3⟩ := h2 ks e
    have := sl (inL ks) (by rw [card_inL nd low]; exact k2)
    rw [card_inL nd low] at this
    omega
end Fr

/-! More of lists: an item of any data taken out, one popped into another list, turned about. -/
namespace Pl
open PySem PySem.Spec PyProof.Rows L2
open Evl (Ex)
/-- xs.remove(y): the first item that equals y goes -/
def rRemD (K : PySem.W.Frag) : V → List V → Hp → VK → Prop := fun x xs H Q => ∃ (a : Addr) (vs : List V) (y : V) (d : PyData) (ds : List PyData) (j : Nat) (z : PyData), x = V.ref a ∧ xs = [y] ∧ H a = some (.lst vs) ∧ DpAll K H vs ds ∧ Dp K H y d ∧
  PyData.canLayAll0 ds = true ∧ d.canLay0 = true ∧ d.depth ≤ 60 ∧ ds[j]? = some z ∧ PyData.eqv z d = true ∧ (∀ (m : Nat) (w : PyData), m < j → ds[m]? = some w → PyData.eqv w d = false) ∧ Q .non (upd H a (.lst (vs.eraseIdx j)))
theorem mt_removeD {X : Cx} (hu : X.A.units + 64 < cLine) : MtR X "list.remove" (rRemD X.K) := by
  intro pins s σ H x xs v us Q I rx rxs h
  obtain ⟨a, vs, y, d, ds, j, z, ex, exs, hH, ha, hy, sl, sd, dd, hz, hzj, hno, q⟩ := h
  subst ex
  subst exs
  cases rx
  obtain ⟨u, eu, ru⟩ := rxs.one
  subst eu
  obtain ⟨bs, r1⟩ := Dp.reads I d y u hy ru
  obtain ⟨big, its, n, rv, hl, ho⟩ := I.lstM hH
  obtain ⟨as, r2⟩ := Dp.readsAll I ds _ its ha rv
  have nl : its.length = ds.length := SeqAt.ReadsAll.length ds its as r2
  have me := SeqAt.readsAll_map ds its as sl r2
  have jl : j < ds.length := (List.getElem?_eq_some_iff.mp hz).1
  have hj : j < its.toArray.size := by rw [List.size_toArray]; omega
  have item : ∀ (m : Nat) (hm : m < its.toArray.size) (w : PyData), ds[m]? = some w → SeqAt.readOf s.heap its.toArray[m] = w := fun m hm w hw => by
    have hml : m < its.length := by rw [List.size_toArray] at hm; exact hm
    rw [← me, List.getElem?_map, List.getElem?_eq_getElem hml] at hw
    have := Option.some.inj hw
    simpa using this
  have room : X.A.units + 1 + min (PyData.depthAll ds) d.depth < cLine := by
    have := Nat.min_le_right (PyData.depthAll ds) d.depth
    omega
  refine call_meets PySem.F.slot_list_remove ⟨_, ho, rfl⟩ PySem.F.entry_list_remove (PySem.F.args_list_remove_2 _ _)
    (SeqAt.list_removeAt a its.toArray n none #[] u (fun w => PyData.eqv (SeqAt.readOf s.heap w) d) j hj ?_ (fun m hm hmj => ?_) (by rw [List.size_toArray]; omega)) ⟨ho, SeqAt.items_eqAt (vs := its.toArray) r2 r1 sl sd room, ?_⟩
  · show PyData.eqv (SeqAt.readOf s.heap its.toArray[j]) d = true
    rw [item j hj z hz, hzj]
  · have hmd : m < ds.length := by rw [List.size_toArray] at hm; omega
    show PyData.eqv (SeqAt.readOf s.heap its.toArray[m]) d = false
    rw [item m hm _ (List.getElem?_eq_getElem hmd)]
    exact hno m _ hmj (List.getElem?_eq_getElem hmd)
  · refine ⟨.non, _, I.lset (its' := its.eraseIdx j) (t' := s.toks) hH ho ?_ (rv.eraseIdx j) ?_, rfl, q⟩
    · show its.toArray.eraseIdxIfInBounds j = (its.eraseIdx j).toArray
      rw [List.eraseIdxIfInBounds_toArray]
    · exact Nat.le_trans (List.length_eraseIdx_le _ _) big
section
variable {K : PySem.W.Frag} {ρ : Rho} {te ti : TE} {d : D} {ds es : List D} {F : FE} {i j : Nat}
theorem mt_remD {X : Cx} {K : PySem.W.Frag} (h : X.K = K) (hu : X.A.units + 64 < cLine) : MtR X "list.remove" (rRemD K) := by subst h; exact mt_removeD hu
/-- xs.remove(y) of an own list -/
theorem T.removeD {k : Nat} (h : ρ[i]? = some (.o ds)) (he : EvD K te ρ d) (h0 : d.okd 59 = true) (h1 : ∀ x ∈ ds, x.okd 59 = true) (s0 : d.sm 60 = true) (s1 : ∀ x ∈ ds, x.sm 60 = true) (hj : ds[k]? = some d) (hn : ∀ m : Nat, m < k → ds[m]? ≠ some d) (kk : F.nx (ρ.set i (.o (ds.eraseIdx k)))) :
    T K (tDrop (tBM K "list" (rRemD K) (tVar i) (tCons te tNil))) ρ F := fun S0 H0 S H σ Dd s a => by
  obtain ⟨p, vs, g1, g2, g3, g4, g5⟩ := s.own i ds h
  refine ⟨_, g1, .inl ⟨rfl, _, Evl.sq_of g4⟩, ?_⟩
  refine he S H σ s.ext.sub s.env _ fun v S' H' x r => ?_
  have s' := s.go x
  have rl := (g5.mono x.s).mono x.sub
  have dl := okd_shape 59 d h0
  refine ⟨p, vs, v, d.py, pyL ds, k, d.py, rfl, rfl, x.h _ _ g4, dpL (fun v d => Rd.dp 59 v d) _ _ h1 rl, Rd.dp 59 _ _ h0 (r.mono x.sub), ?_, dl.1, by omega, ?_, eqv_dec s0 s0 (by simp), fun m w hm hw => ?_, ?_⟩
  · rw [pyL_map]
    exact canLayAll_of _ fun y hy => by
      obtain ⟨e, he, rfl⟩ := List.mem_map.mp hy
      exact (okd_shape 59 e (h1 e he)).1
  · rw [pyL_map, List.getElem?_map, hj]
    rfl
  · rw [pyL_map, List.getElem?_map] at hw
    cases e : ds[m]? with
    | none => rw [e] at hw; cases hw
    | some y =>
      rw [e] at hw
      cases hw
      have ne : y ≠ d := fun z => hn m hm (by rw [e, z])
      exact eqv_dec (b := false) (s1 y (List.mem_of_getElem? e)) s0 ⟨fun z => (Bool.false_ne_true z).elim, fun z => (ne z).elim⟩
  · exact a.nx _ S' _ σ kk x.s (s'.put (vs := vs) h g1 ((g5.mono x.s).eraseIdx k))
/-- found.append(left.pop(k)) of two own lists -/
theorem T.appendPop {k : Nat} (h : ρ[i]? = some (.o ds)) (h2 : ρ[j]? = some (.o es)) (ne : i ≠ j) (hi : EvD K ti (see ρ) (.int (k : Int))) (hk : es[k]? = some d) (hl : ds.length < 100000) (hl2 : es.length < 100000) (kk : F.nx ((ρ.set j (.o (es.eraseIdx k))).set i (.o (ds ++ [d])))) :
    T K (tDrop (tBM K "list" rAppend (tVar i) (tCons (tBM K "list" rPopAt (tVar j) (tCons ti tNil)) tNil))) ρ F := fun S0 H0 S H σ Dd s a => by
  obtain ⟨e, v, w⟩ := s.see
  obtain ⟨p, vs, g1, g2, g3, g4, g5⟩ := s.own i ds h
  obtain ⟨p2, vs2, f1, f2, f3, f4, f5⟩ := s.own j es h2
  refine ⟨_, g1, .inl ⟨rfl, _, Evl.sq_of g4⟩, _, f1, .inl ⟨rfl, _, Evl.sq_of f4⟩, ?_⟩
  refine hi _ H σ e v _ fun x S' H' xx r => ?_
  cases r
  obtain ⟨eS, s'⟩ := w S' H' xx
  have hkl : k < es.length := (List.getElem?_eq_some_iff.mp hk).1
  obtain ⟨y, hy, ry⟩ := (f5.mono eS).get hk
  have np : p ≠ p2 := fun z => ne (s.apart i j ds es p h h2 g1 (by rw [z]; exact f1))
  refine ⟨p2, vs2, (k : Int), k, y, rfl, rfl, xx.h _ _ f4, by omega, by omega, ?_, hy, ?_⟩
  · unfold seqIndex?
    have hv : vs2.length = es.length := f5.length
    rw [hv]
    have h0 : ¬ ((k : Int) < 0) := by omega
    simp only [h0, if_false]
    have h1 : (decide (0 ≤ (k : Int)) && decide ((k : Int) < (es.length : Int))) = true := by
      rw [Bool.and_eq_true]
      exact ⟨decide_eq_true (by omega), decide_eq_true (by omega)⟩
    rw [if_pos h1]
    rfl
  · have s1 := s'.put (vs := vs2) h2 f1 ((f5.mono eS).eraseIdx k)
    refine ⟨p, vs, y, rfl, rfl, by rw [upd_ne np]; exact xx.h _ _ g4, Evl.sz_lt (by rw [g5.length]; exact hl), ?_⟩
    have hi2 : (ρ.set j (.o (es.eraseIdx k)))[i]? = some (.o ds) := by rw [List.getElem?_set_ne (Ne.symm ne)]; exact h
    exact a.nx _ _ _ σ kk eS (s1.put (vs := vs) hi2 g1 ((g5.mono eS).append (.cons ry .nil)))
theorem RdL.rev {S : Hp} : ∀ {vs : List V} {ds : List D}, RdL K S vs ds → RdL K S vs.reverse ds.reverse
  | _, _, .nil => .nil
  | _, _, .cons h r => by
    rw [List.reverse_cons, List.reverse_cons]
    exact (RdL.rev r).append (.cons h .nil)
/-- xs[::-1] -/
theorem evF_revL (h : EvD K te ρ (.lst ds)) : EvF K (tRevL K te) ρ ds.reverse := fun S H σ e v Q q =>
  h S H σ e v _ fun u S1 H1 x1 r1 => by
    cases r1 with
    | lst ha rl =>
      exact ⟨_, _, rfl, Evl.sq_of (x1.sub _ _ ha), fun p hp => q p _ S1 _ (x1.trans (Ext.hid x1.sub hp)) (Evl.fresh_back x1.h hp) (sub_none x1.sub hp) upd_same rl.rev⟩
theorem ok_revL {X : Cx} {e : Expr} {te : TE} {k : Nat} {p1 p2 p3 pos : Pos} (h : X.K = K) (he : PE X e te) : PE X (.Subscript e (.Slice none none (some (.UnaryOp .USub (.Constant (.int 1) k p1) p2)) p3) pos) (tRevL K te) := by subst h; exact pe_revL he
/-- list(range(n)) -/
theorem evF_listRg {n : Nat} (h : EvD K te ρ (.int (n : Int))) (hn : n ≤ 100000) : EvF K (tLstRg (tRg1 te)) ρ ((kI (List.range n)).map D.int) := fun S H σ e v Q q =>
  h S H σ e v _ fun w S1 H1 x1 r1 => by
    cases r1
    refine ⟨_, rfl, RgOk.of_le (by omega) (by omega) (by omega) (by omega), fun p hp => ?_⟩
    have ev : rgV 0 (n : Int) = (kI (List.range n)).map V.int := by
      unfold rgV kI
      have e1 : ((n : Int) - 0).toNat = n := by omega
      rw [e1, List.map_map]
      refine List.map_congr_left fun k _ => ?_
      show V.int (0 + (k : Int)) = V.int (k : Int)
      rw [Int.zero_add]
    rw [ev]
    exact q p _ S1 _ (x1.trans (Ext.hid x1.sub hp)) (Evl.fresh_back x1.h hp) (sub_none x1.sub hp) upd_same (RdL.ofInts _)
/-- while, its test with a look at own lists -/
theorem T.whileV {c : TT} {t : TS} (Pv : Nat → Rho → Prop) {m0 : Nat} (h0 : Pv m0 ρ) (hs : ∀ (m : Nat) (ρ' : Rho), Pv m ρ' → ∃ b, EvT K c (see ρ') b ∧ (b = true → T K t ρ' { F with nx := fun r => ∃ m', m' < m ∧ Pv m' r, ct := fun r => ∃ m', m' < m ∧ Pv m' r, bk := F.nx }) ∧ (b = false → F.nx ρ')) :
    T K (tWhile c t) ρ F := fun S0 H0 S H σ Dd s a => by
  refine ⟨fun m σ' H' => ∃ ρ' S', Pv m ρ' ∧ Ex S S' ∧ Stt K S0 H0 ρ' S' H' σ', ⟨m0, ρ, S, h0, Ex.refl S, s⟩, ?_⟩
  rintro m σ' H' ⟨ρ', S', p, e, s'⟩
  obtain ⟨b, hb, h1, h2⟩ := hs m ρ' p
  obtain ⟨ev, vv, w⟩ := s'.see
  refine hb _ H' σ' ev vv _ fun S2 H2 x2 => ?_
  obtain ⟨eS, s2⟩ := w S2 H2 x2
  have e2 := e.trans eS
  cases b with
  | true =>
    refine ⟨fun σ3 H3 => ∃ m', m' < m ∧ ∃ ρ3 S3, Pv m' ρ3 ∧ Ex S S3 ∧ Stt K S0 H0 ρ3 S3 H3 σ3, fun σ3 H3 z => z, ?_⟩
    exact h1 rfl S0 H0 _ H2 σ' _ s2 ⟨fun ρ3 S3 H3 σ3 ⟨m', l, n⟩ e3 s3 => ⟨m', l, ρ3, S3, n, e2.trans e3, s3⟩, fun ρ3 S3 H3 σ3 n e3 s3 => a.nx ρ3 S3 H3 σ3 n (e2.trans e3) s3, fun ρ3 S3 H3 σ3 ⟨m', l, n⟩ e3 s3 => ⟨m', l, ρ3, S3, n, e2.trans e3, s3⟩, a.rt, a.rf⟩
  | false => exact a.nx ρ' _ H2 σ' (h2 rfl) e2 s2
/-- f(..) of one thing that may change the region -/
theorem EvX.cb1 {rc : List V → Hp → VK → Prop} {g g' : Gs} {z : D} (h : EvX K te ρ g (.d d) g') (hr : RC K rc [d] z) : EvX K (tCB rc (tCons te tNil)) ρ g (.d z) g' := fun S0 H0 S H σ s Q q => h S0 H0 S H σ s _ fun v S' H' e y => by
  obtain ⟨y1, y2⟩ := y
  exact hr S' H' [v] y1.sub (.cons y2 .nil) Q fun w S2 H2 x2 r2 => q w S2 H2 (e.trans x2.s) ⟨y1.go x2, r2⟩
end
end Pl

/-! Fresh lists of tuples, told with a look at own lists. -/
namespace Pl
open PySem PySem.Spec PyProof.Rows L2
open Evl (Ex)
/-- flat things and tuples of such -/
def D.still (d : D) : Bool := match d with
  | .tup ds => ds.all D.flat
  | d => d.flat
section
variable {K : PySem.W.Frag} {S S2 : Hp}
theorem Rd.still (k : ∀ a xs, S a = some (.tup xs) → S2 a = some (.tup xs)) {v : V} {d : D} (h : Rd K S v d) (e : d.still = true) : Rd K S2 v d := by
  have g : d.flat = true → Rd K S2 v d := fun f => h.flat f
  cases h with
  | tup h r =>
    refine .tup (k _ _ h) (r.flat fun x hx => ?_)
    have e : List.all _ D.flat = true := e
    exact List.all_eq_true.mp e x hx
  | _ => exact g e
theorem RdL.still (k : ∀ a xs, S a = some (.tup xs) → S2 a = some (.tup xs)) : ∀ {vs : List V} {ds : List D}, RdL K S vs ds → (∀ d ∈ ds, d.still = true) → RdL K S2 vs ds
  | _, _, .nil, _ => .nil
  | _, _, .cons h r, e => .cons (Rd.still k h (e _ List.mem_cons_self)) (RdL.still k r fun d hd => e d (List.mem_cons_of_mem _ hd))
end
section
variable {K : PySem.W.Frag} {ρ : Rho} {te : TE} {es : List D} {F : FE} {i : Nat}
theorem T.asgFV (h : EvF K te (see ρ) es) (hf : ∀ d ∈ es, d.still = true) (k : F.nx (ρ.set i (.o es))) : T K (tAsg te (gName i)) ρ F := fun S0 H0 S H σ Dd s a => by
  obtain ⟨e, v, w⟩ := s.see
  refine h _ H σ e v _ fun p vs S' H' xx hp sp h' r => ?_
  obtain ⟨eS, s'⟩ := w S' H' xx
  have kt : ∀ a xs, S' a = some (.tup xs) → woOwn ρ σ S' a = some (.tup xs) := fun b xs q => by
    unfold woOwn
    rw [if_neg]
    · exact q
    · rintro ⟨j, ds, h1, h2⟩
      obtain ⟨p', us, g1, g2, g3, g4, g5⟩ := s.own j ds h1
      rw [g1] at h2
      cases h2
      have z1 := xx.h _ _ g4
      rw [xx.sub _ _ q] at z1
      cases z1
  refine a.nx _ _ H' _ k eS (s'.setO (Evl.fresh_back s.ext.h hp) ?_ h' (r.still kt hf) fun j ds _ hh ej => ?_)
  · unfold woOwn
    split
    · rfl
    · exact sp
  · obtain ⟨q, us, g1, g2, g3, g4, g5⟩ := s.own j ds hh
    rw [g1] at ej
    cases ej
    rw [hp] at g4
    cases g4
end
end Pl

/-! What stands between two joints: the same as lay, without the bar; what is carried behind all bars. -/
namespace Fr
def btw (cs : Cs) (one other : Nat) : Cs × Option (List Nat) :=
  ((unload other one 3 (unload one one 3 cs).1).1, if (unload other one 3 (unload one one 3 cs).1).2 = true then none else some (keys (reached (unload other one 3 (unload one one 3 cs).1).1 other)))
theorem lay_none {cs : Cs} {one other : Nat} (h : (btw cs one other).2 = none) : lay cs one other = ((btw cs one other).1.set one (at_ (btw cs one other).1 one ++ [other]), none) := by
  unfold btw at h ⊢
  unfold lay
  by_cases e : (unload other one 3 (unload one one 3 cs).1).2 = true
  · simp only [e, if_true]
  · simp only [e] at h
    cases h
theorem lay_some {cs : Cs} {one other : Nat} {ks : List Nat} (h : (btw cs one other).2 = some ks) : lay cs one other = ((btw cs one other).1, some ks) := by
  unfold btw at h ⊢
  unfold lay
  by_cases e : (unload other one 3 (unload one one 3 cs).1).2 = true
  · simp only [e, if_true] at h
    cases h
  · simp only [if_neg e] at h ⊢
    cases h
    rfl
theorem btw_fits {n : Nat} {cs : Cs} {bs : List Bar} {one other : Nat} (ft : Fits n cs bs) (h1 : one < n) (h2 : other < n) : Fits n (btw cs one other).1 bs := by
  obtain ⟨ft1, _⟩ := unload_spec (spared := one) h1 3 cs ft (by have := ft.two one; omega)
  exact (unload_spec (spared := one) h2 3 _ ft1 (by have := ft1.two other; omega)).1
def layL (cs : Cs) : List Bar → Cs
  | [] => cs
  | b :: r => layL (lay cs b.1 b.2).1 r
/-- the bars that are taken -/
def keptL (cs : Cs) : List Bar → List Bar
  | [] => []
  | b :: r => if (lay cs b.1 b.2).2 = none then b :: keptL (lay cs b.1 b.2).1 r else keptL (lay cs b.1 b.2).1 r
theorem lay_len {cs : Cs} {one other n : Nat} {bs : List Bar} (ft : Fits n cs bs) (h1 : one < n) (h2 : other < n) : (lay cs one other).1.length = n := by
  have l := (btw_fits ft h1 h2).len
  cases h : (btw cs one other).2 with
  | none => rw [lay_none h]; simpa using l
  | some ks => rw [lay_some h]; exact l
theorem lay_fits_no {n : Nat} {cs : Cs} {bs : List Bar} {one other : Nat} {ks : List Nat} (ft : Fits n cs bs) (h1 : one < n) (h2 : other < n) (h : (lay cs one other).2 = some ks) : Fits n (lay cs one other).1 bs := by
  have l := btw_fits ft h1 h2
  cases hb : (btw cs one other).2 with
  | none => rw [lay_none hb] at h; cases h
  | some k => rw [lay_some hb]; exact l
theorem kept_go {n : Nat} : ∀ (nb pre : List Bar) (cs : Cs), Ok n nb → Ok n pre → Fits n cs pre → Slim n pre → Fits n (layL cs nb) (pre ++ keptL cs nb) ∧ Slim n (pre ++ keptL cs nb)
  | [], pre, cs, _, _, ft, sl => by
    unfold layL keptL
    rw [List.append_nil]
    exact ⟨ft, sl⟩
  | b :: r, pre, cs, ok, okp, ft, sl => by
    obtain ⟨o1, o2, o3⟩ := ok b List.mem_cons_self
    have okr : Ok n r := fun c hc => ok c (List.mem_cons_of_mem _ hc)
    unfold layL keptL
    cases hy : (lay cs b.1 b.2).2 with
    | none =>
      obtain ⟨f1, f2⟩ := lay_yes ft okp sl o1 o2 o3 (Prod.ext rfl hy : lay cs b.1 b.2 = ((lay cs b.1 b.2).1, none))
      have z := kept_go r (pre ++ [b]) _ okr (fun c hc => by
        rcases List.mem_append.mp hc with hc | hc
        · exact okp c hc
        · rw [List.mem_singleton.mp hc]; exact ⟨o1, o2, o3⟩) f1 f2
      rw [List.append_assoc] at z
      exact z
    | some ks =>
      have z := kept_go r pre _ okr okp (lay_fits_no ft o1 o2 hy) sl
      rw [if_neg (by simp)]
      exact z
theorem kept_spec {n : Nat} {nb : List Bar} (ok : Ok n nb) : Fits n (layL (List.replicate n []) nb) (keptL (List.replicate n []) nb) ∧ Slim n (keptL (List.replicate n []) nb) := by
  have := kept_go nb [] (List.replicate n []) ok (fun _ h => nomatch h) (Pl.fits_bare n) (Pl.slim_nil n)
  simpa using this
theorem layL_snoc : ∀ (nb : List Bar) (cs : Cs) (b : Bar), layL cs (nb ++ [b]) = (lay (layL cs nb) b.1 b.2).1
  | [], cs, b => rfl
  | a :: r, cs, b => layL_snoc r _ b
end Fr

/-! What keeps bars slim: a joint with two bars, or with three where one goes; fewer bars, other orders, other names. -/
namespace Fr
def wo (S : JS) (j : Nat) : JS := fun x => S x && !(x == j)
theorem card_wo {n j : Nat} {S : JS} (hj : j < n) (h : S j = true) : card n S = card n (wo S j) + 1 := by
  have hc := card_cup_cap n (wo S j) (one j)
  rw [card_one hj] at hc
  have e1 : card n (cup (wo S j) (one j)) = card n S := card_same fun x _ => by
    show (S x && !(x == j) || (x == j)) = S x
    cases e : (x == j) with
    | false => simp
    | true =>
      rw [beq_iff_eq.mp e, h]
      rfl
  have e2 : card n (cap (wo S j) (one j)) = 0 := by
    unfold card
    rw [List.countP_eq_zero]
    intro x _ e
    simp [cap, one, wo] at e
    exact e.1.2 e.2
  omega
theorem ins_wo {n j : Nat} {bs : List Bar} {S : JS} (ok : Ok j bs) : ins bs (wo S j) = ins bs S := by
  unfold ins
  refine countP_same fun b hb => ?_
  obtain ⟨l1, l2, _⟩ := ok b hb
  unfold wo
  have e1 : (b.1 == j) = false := by simp; omega
  have e2 : (b.2 == j) = false := by simp; omega
  rw [e1, e2]
  simp
theorem ins_app (as bs : List Bar) (S : JS) : ins (as ++ bs) S = ins as S + ins bs S := by
  unfold ins
  exact List.countP_append
theorem ins_cons (b : Bar) (bs : List Bar) (S : JS) : ins (b :: bs) S = ins bs S + (S b.1 && S b.2).toNat := by
  unfold ins
  rw [List.countP_cons]
  cases (S b.1 && S b.2) <;> simp
theorem ins_nil (S : JS) : ins [] S = 0 := rfl
theorem ins_perm {as bs : List Bar} (h : as.Perm bs) (S : JS) : ins as S = ins bs S := h.countP_eq _
theorem ins_sub {as bs : List Bar} (h : as.Sublist bs) (S : JS) : ins as S ≤ ins bs S := h.countP_le
theorem ins_erase {bs : List Bar} {b : Bar} (h : b ∈ bs) (S : JS) : ins (bs.erase b) S + (S b.1 && S b.2).toNat = ins bs S := by
  rw [ins_perm (List.perm_cons_erase h) S, ins_cons]
theorem Ok.up {j n : Nat} {bs : List Bar} (h : Ok j bs) (le : j ≤ n) : Ok n bs := fun b hb => by
  obtain ⟨a, b, c⟩ := h b hb
  exact ⟨by omega, by omega, c⟩
theorem Slim.sub {n : Nat} {as bs : List Bar} (h : Slim n bs) (e : as.Sublist bs) : Slim n as := fun S hS => by
  have := h S hS
  have := ins_sub e S
  omega
theorem Slim.perm {n : Nat} {as bs : List Bar} (h : Slim n bs) (e : as.Perm bs) : Slim n as := fun S hS => by
  rw [ins_perm e]
  exact h S hS
theorem Ok.sub {n : Nat} {as bs : List Bar} (h : Ok n bs) (e : as.Sublist bs) : Ok n as := fun b hb => h b (e.subset hb)
theorem Ok.perm {n : Nat} {as bs : List Bar} (h : Ok n bs) (e : as.Perm bs) : Ok n as := fun b hb => h b (e.subset hb)
theorem Ok.app {n : Nat} {as bs : List Bar} (h : Ok n as) (g : Ok n bs) : Ok n (as ++ bs) := fun b hb => (List.mem_append.mp hb).elim (h b) (g b)
theorem bool_sum2 {x y z : Bool} : (z && x).toNat + (z && y).toNat ≤ 2 := by cases x <;> cases y <;> cases z <;> decide
/-- at most one of some joints lies in a set of one joint -/
theorem two_slim {n j a b : Nat} {bs ad : List Bar} (ok : Ok j bs) (sl : Slim n bs) (hj : j < n) (ha : a < j) (hb : b < j) (ne : a ≠ b) (had : ∀ S : JS, ins ad S = (S j && S a).toNat + (S j && S b).toNat) : Slim n (bs ++ ad) := fun S hS => by
  rw [ins_app, had]
  cases e : S j with
  | false => simpa using sl S hS
  | true =>
    have c := card_wo hj e
    have i := ins_wo (n := n) (S := S) ok
    by_cases h2 : 2 ≤ card n (wo S j)
    · have := sl _ h2
      have := @bool_sum2 (S a) (S b) true
      omega
    · have z := ins_small (ok.up (Nat.le_of_lt hj)) (S := wo S j) (by omega)
      have : ¬ (S a = true ∧ S b = true) := fun ⟨q1, q2⟩ => ne (le_one_of (S := wo S j) (n := n) (by omega) (by omega) (by omega) (by simp [wo, q1]; omega) (by simp [wo, q2]; omega))
      revert this
      rw [i] at z
      cases S a <;> cases S b <;> simp <;> omega
theorem three_slim {n j a b c : Nat} {bs ad : List Bar} (ok : Ok j bs) (sl : Slim n bs) (hj : j < n) (ha : a < j) (hb : b < j) (hc : c < j) (ne : a ≠ b) (nca : c ≠ a) (ncb : c ≠ b) (hm : (a, b) ∈ bs)
    (had : ∀ S : JS, ins ad S = (S j && S a).toNat + (S j && S b).toNat + (S j && S c).toNat) : Slim n (bs.erase (a, b) ++ ad) := fun S hS => by
  rw [ins_app, had]
  have er := ins_erase hm S
  cases e : S j with
  | false =>
    have := sl S hS
    simp
    omega
  | true =>
    have cc := card_wo hj e
    have i := ins_wo (n := n) (S := S) ok
    by_cases h2 : 2 ≤ card n (wo S j)
    · have := sl _ h2
      revert er
      show ins _ S + (S a && S b).toNat = _ → _
      cases S a <;> cases S b <;> cases S c <;> simp <;> omega
    · have z := ins_small (ok.up (Nat.le_of_lt hj)) (S := wo S j) (by omega)
      have k : ∀ x y : Nat, x < j → y < j → x ≠ y → ¬ (S x = true ∧ S y = true) := fun x y hx hy ne ⟨q1, q2⟩ => ne (le_one_of (S := wo S j) (n := n) (by omega) (by omega) (by omega) (by simp [wo, q1]; omega) (by simp [wo, q2]; omega))
      have k1 := k a b ha hb ne
      have k2 := k c a hc ha nca
      have k3 := k c b hc hb ncb
      rw [i] at z
      revert k1 k2 k3 er
      show ins _ S + (S a && S b).toNat = _ → _
      cases S a <;> cases S b <;> cases S c <;> simp <;> omega
theorem slim_one {n a b : Nat} (h : a ≠ b) : Slim n [(a, b)] := fun S hS => by
  rw [ins_cons, ins_nil]
  have : (S a && S b).toNat ≤ 1 := Bool.toNat_le _
  show 0 + (S a && S b).toNat + 3 ≤ _
  omega
/-- too many bars for all joints -/
theorem not_slim_all {n : Nat} {bs : List Bar} (ok : Ok n bs) (h2 : 2 ≤ n) (h : 2 * n < bs.length + 3) : ¬ Slim n bs := fun sl => by
  have c : card n (fun _ => true) = n := by simp [card]
  have := sl (fun _ => true) (by omega)
  have i : ins bs (fun _ => true) = bs.length := by simp [ins]
  omega
theorem slim_len {n : Nat} {bs : List Bar} (h2 : 2 ≤ n) (sl : Slim n bs) : bs.length + 3 ≤ 2 * n := by
  have c : card n (fun _ => true) = n := by simp [card]
  have := sl (fun _ => true) (by omega)
  have i : ins bs (fun _ => true) = bs.length := by simp [ins]
  omega
theorem small_len {n : Nat} {l : List Nat} (nd : l.Nodup) (low : ∀ k ∈ l, k < n) : l.length ≤ n := by
  have h := card_inL nd low
  rw [← h]
  exact card_le _ _
/-- other names -/
theorem card_name {n : Nat} {f : Nat → Nat} (inj : ∀ x y, x < n → y < n → f x = f y → x = y) (low : ∀ x, x < n → f x < n) (S : JS) : card n (fun x => S (f x)) = card n S := by
  have p : ((List.range n).map f).Perm (List.range n) := by
    have nd : ((List.range n).map f).Nodup := by
      unfold List.Nodup
      rw [List.pairwise_map]
      exact List.Pairwise.imp_of_mem (fun hx hy ne e => ne (inj _ _ (List.mem_range.mp hx) (List.mem_range.mp hy) e)) (List.nodup_range (n := n))
    refine (List.perm_ext_iff_of_nodup nd List.nodup_range).mpr fun y => ⟨fun hy => ?_, fun hy => ?_⟩
    · obtain ⟨x, hx, rfl⟩ := List.mem_map.mp hy
      exact List.mem_range.mpr (low x (List.mem_range.mp hx))
    · by_cases h : y ∈ (List.range n).map f
      · exact h
      · have := small_len (n := n) (l := y :: (List.range n).map f) (List.nodup_cons.mpr ⟨h, nd⟩) fun k hk => by
          rcases List.mem_cons.mp hk with rfl | hk
          · exact List.mem_range.mp hy
          · obtain ⟨x, hx, rfl⟩ := List.mem_map.mp hk
            exact low x (List.mem_range.mp hx)
        simp at this
        omega
  unfold card
  rw [← p.countP_eq S, List.countP_map]
  rfl
theorem name_slim {n : Nat} {f : Nat → Nat} {as bs : List Bar} (inj : ∀ x y, x < n → y < n → f x = f y → x = y) (low : ∀ x, x < n → f x < n) (sl : Slim n bs) (h : ∀ S : JS, ins as S = ins bs fun x => S (f x)) : Slim n as := fun S hS => by
  rw [h, ← card_name inj low S]
  exact sl _ (by rw [card_name inj low S]; exact hS)
end Fr
namespace Fr
def thirds (b : Bar) (j : Nat) : List Nat := (List.range j).filter fun e => !decide (e = b.1) && !decide (e = b.2)
def tstep (more j : Nat) (bs : List Bar) : List Bar :=
  if 2 < j ∧ more / 64 % 2 = 1 then
    bs.erase (bs.getD (more % bs.length) (0, 0)) ++ [((bs.getD (more % bs.length) (0, 0)).1, j), (j, (bs.getD (more % bs.length) (0, 0)).2),
      ((thirds (bs.getD (more % bs.length) (0, 0)) j).getD (more / 128 % (thirds (bs.getD (more % bs.length) (0, 0)) j).length) 0, j)]
  else bs ++ [(more / 7 % j, j), (j, (more / 7 % j + 1 + more / 211 % (j - 1)) % j)]
/-- lean bars of a stiff frame, joint by joint -/
def tgo (mx : Nat → Nat) : Nat → List Bar
  | 0 => [(0, 1)]
  | k + 1 => tstep (mx (k + 2)) (k + 2) (tgo mx k)
def tightB (mx : Nat → Nat) (n : Nat) : List Bar := if n ≤ 1 then [] else tgo mx (n - 2)
theorem thirds_pos {b : Bar} {j : Nat} (h : 2 < j) : 0 < (thirds b j).length := by
  apply List.length_pos_iff.mpr
  intro e
  have h0 : ∀ x, x < j → x = b.1 ∨ x = b.2 := fun x hx => by
    by_cases h1 : x = b.1
    · exact .inl h1
    · by_cases h2 : x = b.2
      · exact .inr h2
      · have : x ∈ thirds b j := List.mem_filter.mpr ⟨List.mem_range.mpr hx, by simp [h1, h2]⟩
        rw [e] at this
        cases this
  have a0 := h0 0 (by omega)
  have a1 := h0 1 (by omega)
  have a2 := h0 2 (by omega)
  omega
theorem getD_mem {α : Type} {l : List α} {i : Nat} {d : α} (h : i < l.length) : l.getD i d ∈ l := by
  have : l.getD i d = l[i] := by simp [List.getD, h]
  rw [this]
  exact List.getElem_mem h
theorem other_ne {a m j : Nat} (ha : a < j) (h2 : 2 ≤ j) : (a + 1 + m % (j - 1)) % j < j ∧ (a + 1 + m % (j - 1)) % j ≠ a := by
  have hm : m % (j - 1) < j - 1 := Nat.mod_lt _ (by omega)
  refine ⟨Nat.mod_lt _ (by omega), fun e => ?_⟩
  by_cases h : a + 1 + m % (j - 1) < j
  · rw [Nat.mod_eq_of_lt h] at e
    omega
  · rw [Nat.mod_eq_sub_mod (by omega), Nat.mod_eq_of_lt (by omega)] at e
    omega
theorem tstep_ok {more j n : Nat} {bs : List Bar} (h2 : 2 ≤ j) (hj : j < n) (ok : Ok j bs) (sl : Slim n bs) (hl : 0 < bs.length) :
    Ok (j + 1) (tstep more j bs) ∧ Slim n (tstep more j bs) ∧ (tstep more j bs).length = bs.length + 2 := by
  unfold tstep
  have hm : bs.getD (more % bs.length) (0, 0) ∈ bs := getD_mem (Nat.mod_lt _ hl)
  generalize bs.getD (more % bs.length) (0, 0) = b at hm ⊢
  obtain ⟨o1, o2, o3⟩ := ok b hm
  split
  · rename_i h
    have tp := thirds_pos (b := b) h.1
    have ht : (thirds b j).getD (more / 128 % (thirds b j).length) 0 ∈ thirds b j := getD_mem (Nat.mod_lt _ tp)
    generalize (thirds b j).getD (more / 128 % (thirds b j).length) 0 = c at ht ⊢
    obtain ⟨c1, c2⟩ := List.mem_filter.mp ht
    have c1 := List.mem_range.mp c1
    simp at c2
    refine ⟨Ok.app ((ok.sub List.erase_sublist).up (Nat.le_succ j)) fun x hx => ?_, three_slim ok sl hj o1 o2 c1 o3 c2.1 c2.2 hm fun S => ?_, ?_⟩
    · simp at hx
      rcases hx with rfl | rfl | rfl <;> simp <;> omega
    · simp only [ins_cons, ins_nil]
      cases S j <;> cases S b.1 <;> cases S b.2 <;> cases S c <;> rfl
    · rw [List.length_append, List.length_erase_of_mem hm]
      simp
      omega
  · have ha : more / 7 % j < j := Nat.mod_lt _ (by omega)
    generalize more / 7 % j = a at ha ⊢
    obtain ⟨b1, b2⟩ := other_ne (m := more / 211) ha h2
    generalize (a + 1 + more / 211 % (j - 1)) % j = b at b1 b2 ⊢
    refine ⟨Ok.app (ok.up (Nat.le_succ j)) fun x hx => ?_, two_slim ok sl hj ha b1 (Ne.symm b2) fun S => ?_, by simp⟩
    · simp at hx
      rcases hx with rfl | rfl <;> simp <;> omega
    · simp only [ins_cons, ins_nil]
      cases S j <;> cases S a <;> cases S b <;> rfl
theorem tgo_ok {mx : Nat → Nat} {n : Nat} : ∀ k, k + 2 ≤ n → Ok (k + 2) (tgo mx k) ∧ Slim n (tgo mx k) ∧ (tgo mx k).length = 2 * k + 1
  | 0, h => ⟨fun b hb => by
      simp [tgo] at hb
      subst hb
      simp, slim_one (by decide), rfl⟩
  | k + 1, h => by
    obtain ⟨h1, h2, h3⟩ := tgo_ok (mx := mx) (n := n) k (by omega)
    obtain ⟨g1, g2, g3⟩ := tstep_ok (more := mx (k + 2)) (j := k + 2) (by omega) (by omega) h1 h2 (by omega)
    exact ⟨g1, g2, by show (tstep _ _ _).length = _; omega⟩
theorem tight_ok {mx : Nat → Nat} {n : Nat} (h : 2 ≤ n) : Ok n (tightB mx n) ∧ Slim n (tightB mx n) ∧ (tightB mx n).length + 3 = 2 * n := by
  obtain ⟨h1, h2, h3⟩ := tgo_ok (mx := mx) (n := n) (n - 2) (by omega)
  unfold tightB
  rw [if_neg (by omega)]
  have : n - 2 + 2 = n := by omega
  rw [this] at h1
  exact ⟨h1, h2, by omega⟩
end Fr

/-! Numbers below n by a test. -/
namespace Pl
open PySem PySem.Spec PyProof.Rows L2
open Evl (Ex)
def numI : D → Int
  | .int i => i
  | _ => 0
/-- rising numbers below n by a test -/
def pick (n : Nat) (f : Nat → Bool) : List Int := ((List.range n).filter f).map fun k : Nat => (k : Int)
theorem pick_rise (n : Nat) (f : Nat → Bool) : (pick n f).Pairwise (· < ·) := by
  unfold pick
  rw [List.pairwise_map]
  exact (List.pairwise_lt_range.filter f).imp fun h => by omega
theorem pick_mem {n : Nat} {f : Nat → Bool} {k : Int} : k ∈ pick n f ↔ ∃ i : Nat, i < n ∧ f i = true ∧ (i : Int) = k := by
  unfold pick
  rw [List.mem_map]
  constructor
  · rintro ⟨i, hi, e⟩
    rw [List.mem_filter, List.mem_range] at hi
    exact ⟨i, hi.1, hi.2, e⟩
  · rintro ⟨i, h1, h2, e⟩
    exact ⟨i, by rw [List.mem_filter, List.mem_range]; exact ⟨h1, h2⟩, e⟩
theorem pick_len (n : Nat) (f : Nat → Bool) : (pick n f).length ≤ n := by
  unfold pick
  rw [List.length_map]
  have := List.length_filter_le f (List.range n)
  rw [List.length_range] at this
  exact this
theorem evF_pick {K : PySem.W.Frag} {ρ : Rho} {wi : TI} {tt : TT} {te : TE} {vs : List Nat} {n : Nat} {j : Nat} {f : Nat → Bool} (hi : EvI K wi ρ (rngD 0 n 1)) (hj : j ∈ vs) (hn : n ≤ 1000)
    (ht : ∀ i : Nat, i < n → EvT K tt (setR (wipeR ρ vs) [(j, .int (i : Int))]) (f i)) (he : ∀ i : Nat, i < n → EvD K te (setR (wipeR ρ vs) [(j, .int (i : Int))]) (.int (i : Int))) :
    EvF K (tLc wi (gName j) tt te vs) ρ ((pick n f).map D.int) := by
  refine EvF.to (evF_lc hi (fun d => [(j, d)]) (fun d => f (numI d).toNat) id (fun d _ => eg_name) (fun d _ p hp => ?_) (fun d hd => ?_) (fun d hd _ => ?_) ?_) ?_
  · rw [List.mem_singleton.mp hp]
    exact hj
  · obtain ⟨i, hi, rfl⟩ := rngD_mem0 hd
    show EvT K tt _ (f ((i : Int)).toNat)
    rw [Int.toNat_natCast]
    exact ht i hi
  · obtain ⟨i, hi, rfl⟩ := rngD_mem0 hd
    exact he i hi
  · rw [rngD_len]
    omega
  · unfold pick rngD
    rw [List.filter_map, List.map_map, List.map_map]
    have e : ((fun d => f (numI d).toNat) ∘ fun i : Nat => D.int (0 + (i : Int) * 1)) = f := by
      funext i
      show f (0 + (i : Int) * 1).toNat = f i
      rw [Int.mul_one, Int.zero_add, Int.toNat_natCast]
    rw [e]
    refine List.map_congr_left fun i _ => ?_
    show D.int (0 + (i : Int) * 1) = D.int (i : Int)
    rw [Int.mul_one, Int.zero_add]
end Pl

/-! Lists of bars as data. -/
namespace Pl
open PySem PySem.Spec PyProof.Rows L2
open Evl (Ex)
def brs (nb : List Fr.Bar) : List D := (nb.map bI).map barD
theorem brs_app (as bs : List Fr.Bar) : brs (as ++ bs) = brs as ++ brs bs := by unfold brs; rw [List.map_append, List.map_append]
theorem brs_len (as : List Fr.Bar) : (brs as).length = as.length := by unfold brs; rw [List.length_map, List.length_map]
theorem brs_get {as : List Fr.Bar} {i : Nat} (h : i < as.length) : (brs as)[i]? = some (barD (bI (as.getD i (0, 0)))) := by
  unfold brs
  rw [List.getElem?_map, List.getElem?_map, List.getElem?_eq_getElem h]
  simp [List.getD, h]
theorem brs_mem {as : List Fr.Bar} {d : D} (h : d ∈ brs as) : ∃ b ∈ as, d = barD (bI b) := by
  obtain ⟨c, hc, rfl⟩ := List.mem_map.mp h
  obtain ⟨b, hb, rfl⟩ := List.mem_map.mp hc
  exact ⟨b, hb, rfl⟩
theorem brs_still {as : List Fr.Bar} : ∀ d ∈ brs as, d.still = true := fun d h => by
  obtain ⟨b, _, rfl⟩ := brs_mem h
  rfl
theorem brs_okd {as : List Fr.Bar} : ∀ d ∈ brs as, d.okd 59 = true := fun d h => by
  obtain ⟨b, _, rfl⟩ := brs_mem h
  rfl
theorem brs_sm {as : List Fr.Bar} : ∀ d ∈ brs as, d.sm 60 = true := fun d h => by
  obtain ⟨b, _, rfl⟩ := brs_mem h
  rfl
theorem erase_map {α β : Type} [BEq α] [LawfulBEq α] {f : α → β} (inj : ∀ x y, f x = f y → x = y) {a : α} : ∀ {l : List α}, a ∈ l → ∃ i, (l.map f)[i]? = some (f a) ∧ (∀ q : Nat, q < i → (l.map f)[q]? ≠ some (f a)) ∧ (l.map f).eraseIdx i = (l.erase a).map f
  | x :: l, h => by
    by_cases e : x = a
    · subst e
      refine ⟨0, rfl, fun q hq => absurd hq (Nat.not_lt_zero _), ?_⟩
      rw [List.erase_cons_head]
      rfl
    · obtain ⟨i, h1, h2, h3⟩ := erase_map inj (List.mem_of_ne_of_mem (Ne.symm e) h)
      refine ⟨i + 1, h1, fun q hq => ?_, ?_⟩
      · cases q with
        | zero =>
          intro z
          exact e (inj _ _ (Option.some.inj z))
        | succ q => exact h2 q (by omega)
      · rw [List.erase_cons_tail (by simpa using e)]
        show f x :: (l.map f).eraseIdx i = _
        rw [h3]
        rfl
theorem barI_inj : ∀ x y : Fr.Bar, barD (bI x) = barD (bI y) → x = y := fun x y h => by
  have h : D.tup [.int (x.1 : Int), .int (x.2 : Int)] = D.tup [.int (y.1 : Int), .int (y.2 : Int)] := h
  injection h with h
  injection h with h1 h2
  injection h2 with h2 _
  injection h1 with h1
  injection h2 with h2
  exact Prod.ext (by omega) (by omega)
theorem brs_erase {as : List Fr.Bar} {b : Fr.Bar} (h : b ∈ as) : ∃ i, (brs as)[i]? = some (barD (bI b)) ∧ (∀ q : Nat, q < i → (brs as)[q]? ≠ some (barD (bI b))) ∧ (brs as).eraseIdx i = brs (as.erase b) := by
  have e : ∀ l : List Fr.Bar, brs l = l.map fun x => barD (bI x) := fun l => by unfold brs; rw [List.map_map]; rfl
  rw [e, e]
  exact erase_map barI_inj h
theorem cut_from (xs : List D) (k : Nat) : cutD xs (some (k : Int)) none = xs.drop k := by
  unfold cutD
  rw [HT.sIx_nat, HT.sIx_none]
  by_cases h : k ≤ xs.length
  · rw [Nat.min_eq_left h, List.take_of_length_le (by rw [List.length_drop]; omega)]
  · rw [Nat.min_eq_right (by omega), List.drop_length, List.drop_eq_nil_of_le (by omega), List.take_nil]
theorem cut_to (xs : List D) (k : Nat) : cutD xs none (some (k : Int)) = xs.take k := by
  unfold cutD
  rw [HT.sIx_nat, HT.sIx_none, List.drop_zero, Nat.sub_zero]
  by_cases h : k ≤ xs.length
  · rw [Nat.min_eq_left h]
  · rw [Nat.min_eq_right (by omega), List.take_length, List.take_of_length_le (by omega)]
theorem natL_get {l : List Nat} {i : Nat} (h : i < l.length) : ((kI l).map D.int)[i]? = some (.int ((l.getD i 0 : Nat) : Int)) := by
  unfold kI
  rw [List.getElem?_map, List.getElem?_map, List.getElem?_eq_getElem h]
  simp [List.getD, h]
end Pl

/-! insert and clear of own lists. -/
namespace Pl
open PySem PySem.Spec PyProof.Rows L2
open Evl (Ex)
def rIns : V → List V → Hp → VK → Prop := fun x vs H Q => ∃ (l : Addr) (xs : List V) (i : Int) (y : V), x = .ref l ∧ vs = [.int i, y] ∧ H l = some (.lst xs) ∧ xs.length < sizeLine ∧ 0 ≤ i ∧ i < 2 ^ 63 ∧
    Q .non (upd H l (.lst (xs.take i.toNat ++ [y] ++ xs.drop i.toNat)))
theorem ok_insert {X : Cx} : MtR X "list.insert" rIns := mt_insert
section
variable {K : PySem.W.Frag} {ρ : Rho} {te ti : TE} {d : D} {ds es : List D} {F : FE} {i j : Nat}
theorem T.insert {k : Nat} (h : ρ[i]? = some (.o ds)) (hi : EvD K ti (see ρ) (.int (k : Int))) (he : EvD K te ρ d) (hl : ds.length < 100000) (hk : k ≤ ds.length) (kk : F.nx (ρ.set i (.o (ds.take k ++ [d] ++ ds.drop k)))) :
    T K (tDrop (tBM K "list" rIns (tVar i) (tCons ti (tCons te tNil)))) ρ F := fun S0 H0 S H σ Dd s a => by
  obtain ⟨e, v, w⟩ := s.see
  obtain ⟨p, vs, g1, g2, g3, g4, g5⟩ := s.own i ds h
  refine ⟨_, g1, .inl ⟨rfl, _, Evl.sq_of g4⟩, ?_⟩
  refine hi _ H σ e v _ fun x S' H' xx r => ?_
  cases r
  obtain ⟨eS, s'⟩ := w S' H' xx
  obtain ⟨p', vs', k1, k2, k3, k4, k5⟩ := s'.own i ds h
  rw [g1] at k1
  cases k1
  refine he _ H' σ s'.ext.sub s'.env _ fun y S2 H2 x2 r2 => ?_
  have s2 := s'.go x2
  refine ⟨p, vs', (k : Int), y, rfl, rfl, x2.h _ _ k4, Evl.sz_lt (by rw [k5.length]; exact hl), by omega, by omega, ?_⟩
  have rl := k5.mono x2.s
  rw [Int.toNat_natCast]
  exact a.nx _ _ _ σ kk (Ex.trans eS x2.s) (s2.put (vs := vs') h g1 (((rl.take k).append (.cons r2 .nil)).append (rl.drop k)))
theorem T.clear (h : ρ[i]? = some (.o ds)) (kk : F.nx (ρ.set i (.o []))) : T K (tDrop (tBM0 K "list" rClear (tVar i))) ρ F := fun S0 H0 S H σ Dd s a => by
  obtain ⟨p, vs, g1, g2, g3, g4, g5⟩ := s.own i ds h
  refine ⟨_, g1, .inl ⟨rfl, _, Evl.sq_of g4⟩, ?_⟩
  exact ⟨p, vs, rfl, rfl, g4, a.nx _ S _ σ kk (Ex.refl S) (s.put (vs := vs) h g1 .nil)⟩
end
end Pl

/-! Orders, other names, and sets, as the text that tries a frame makes them. -/
namespace Pl
def orderGo : Nat → Int → List Int → List Int → List Int
  | 0, _, _, found => found
  | k + 1, c, left, found => orderGo k (c / (left.length : Int)) (left.eraseIdx (c % (left.length : Int)).toNat) (found ++ [left.getD (c % (left.length : Int)).toNat 0])
def orderL (c : Int) (n : Nat) : List Int := orderGo n c ((List.range n).map fun k : Nat => (k : Int)) []
theorem take_out {l : List Int} : ∀ {i : Nat}, i < l.length → (l.getD i 0 :: l.eraseIdx i).Perm l := by
  induction l with
  | nil => intro i h; exact absurd h (Nat.not_lt_zero _)
  | cons x l ih =>
    intro i h
    cases i with
    | zero => exact .refl _
    | succ i => exact (List.Perm.swap x (l.getD i 0) (l.eraseIdx i)).trans ((ih (Nat.lt_of_succ_lt_succ h)).cons x)
theorem orderGo_perm : ∀ (k : Nat) (c : Int) (left found : List Int), left.length = k → (orderGo k c left found).Perm (found ++ left)
  | 0, c, left, found, h => by
    have : left = [] := List.length_eq_zero_iff.mp h
    subst this
    rw [List.append_nil]
    exact .refl _
  | k + 1, c, left, found, h => by
    have m1 := Int.emod_nonneg c (show (left.length : Int) ≠ 0 by omega)
    have m2 := Int.emod_lt_of_pos c (show (0 : Int) < (left.length : Int) by omega)
    have hi : (c % (left.length : Int)).toNat < left.length := by omega
    show (orderGo k (c / (left.length : Int)) (left.eraseIdx (c % (left.length : Int)).toNat) (found ++ [left.getD (c % (left.length : Int)).toNat 0])).Perm _
    generalize (c % (left.length : Int)).toNat = i at hi
    refine (orderGo_perm k _ _ _ (by rw [List.length_eraseIdx_of_lt hi]; omega)).trans ?_
    rw [List.append_assoc]
    exact (take_out hi).append_left found
/-- the order as numbers -/
def orderN (c : Int) (n : Nat) : List Nat := (orderL c n).map Int.toNat
theorem order_perm (c : Int) (n : Nat) : (orderN c n).Perm (List.range n) := by
  have h := (orderGo_perm n c ((List.range n).map fun k : Nat => (k : Int)) [] (by simp)).map Int.toNat
  rw [List.nil_append, List.map_map] at h
  have e : (Int.toNat ∘ fun k : Nat => (k : Int)) = id := by funext k; exact Int.toNat_natCast k
  rw [e, List.map_id] at h
  exact h
theorem orderL_eq (c : Int) (n : Nat) : orderL c n = kI (orderN c n) := by
  unfold kI orderN
  rw [List.map_map]
  have h := orderGo_perm n c ((List.range n).map fun k : Nat => (k : Int)) [] (by simp)
  refine (List.map_id _).symm.trans (List.map_congr_left fun x hx => ?_)
  obtain ⟨k, _, rfl⟩ := List.mem_map.mp (h.mem_iff.mp hx)
  rfl
theorem orderN_len (c : Int) (n : Nat) : (orderN c n).length = n := by
  have := (order_perm c n).length_eq
  rwa [List.length_range] at this
theorem orderN_low {c : Int} {n x : Nat} (h : x < n) : (orderN c n).getD x 0 < n := by
  have : (orderN c n).getD x 0 ∈ orderN c n := Fr.getD_mem (by rw [orderN_len]; exact h)
  exact List.mem_range.mp ((order_perm c n).mem_iff.mp this)
theorem orderN_inj {c : Int} {n x y : Nat} (hx : x < n) (hy : y < n) (e : (orderN c n).getD x 0 = (orderN c n).getD y 0) : x = y := by
  have nd : (orderN c n).Nodup := (order_perm c n).nodup_iff.mpr List.nodup_range
  have lx : x < (orderN c n).length := by rw [orderN_len]; exact hx
  have ly : y < (orderN c n).length := by rw [orderN_len]; exact hy
  simp only [List.getD, List.getElem?_eq_getElem lx, List.getElem?_eq_getElem ly, Option.getD_some] at e
  have q := List.pairwise_iff_getElem.mp nd
  rcases Nat.lt_trichotomy x y with h | h | h
  · exact absurd e (q x y lx ly h)
  · exact h
  · exact absurd e.symm (q y x ly lx h)
/-! ### other names -/
def nameP (bs : List (Int × Int)) (os : List Int) (c : Int) (k : Nat) : Int × Int :=
  (os.getD (bs.getD (((k : Int) + c) % (bs.length : Int)).toNat (0, 0)).1.toNat 0, os.getD (bs.getD (((k : Int) + c) % (bs.length : Int)).toNat (0, 0)).2.toNat 0)
def nameB (bs : List (Int × Int)) (os : List Int) (c : Int) (k : Nat) : Int × Int := if c / ((k : Int) + 2) % 2 = 1 then ((nameP bs os c k).2, (nameP bs os c k).1) else nameP bs os c k
def namedL (bs : List (Int × Int)) (os : List Int) (c : Int) (m : Nat) : List (Int × Int) := (List.range m).map (nameB bs os c)
theorem namedL_succ (bs : List (Int × Int)) (os : List Int) (c : Int) (m : Nat) : namedL bs os c (m + 1) = namedL bs os c m ++ [nameB bs os c m] := by
  unfold namedL
  rw [List.range_succ, List.map_append]
  rfl
def rotI (c : Int) (m k : Nat) : Nat := (((k : Int) + c) % (m : Int)).toNat
def turnB (q : Bool) (b : Fr.Bar) : Fr.Bar := if q then (b.2, b.1) else b
def nameN (nb : List Fr.Bar) (p : List Nat) (c : Int) (k : Nat) : Fr.Bar :=
  turnB (decide (c / ((k : Int) + 2) % 2 = 1)) (p.getD (nb.getD (rotI c nb.length k) (0, 0)).1 0, p.getD (nb.getD (rotI c nb.length k) (0, 0)).2 0)
def namedN (nb : List Fr.Bar) (p : List Nat) (c : Int) : List Fr.Bar := (List.range nb.length).map (nameN nb p c)
theorem getD_bI (nb : List Fr.Bar) (i : Nat) : (nb.map bI).getD i (0, 0) = bI (nb.getD i (0, 0)) := by
  by_cases h : i < nb.length
  · simp [List.getD, h]
  · simp [List.getD, Nat.le_of_not_lt h, bI]
theorem getD_kI (p : List Nat) (i : Nat) : (kI p).getD i 0 = ((p.getD i 0 : Nat) : Int) := by
  unfold kI
  by_cases h : i < p.length
  · simp [List.getD, h]
  · simp [List.getD, Nat.le_of_not_lt h]
theorem nameB_eq (nb : List Fr.Bar) (p : List Nat) (c : Int) (k : Nat) : nameB (nb.map bI) (kI p) c k = bI (nameN nb p c k) := by
  have e : nameP (nb.map bI) (kI p) c k = bI (p.getD (nb.getD (rotI c nb.length k) (0, 0)).1 0, p.getD (nb.getD (rotI c nb.length k) (0, 0)).2 0) := by
    unfold nameP rotI
    rw [List.length_map, getD_bI]
    show (_, _) = (_, _)
    simp only [bI, Int.toNat_natCast, getD_kI]
  unfold nameB nameN turnB
  rw [e]
  by_cases h : c / ((k : Int) + 2) % 2 = 1
  · rw [if_pos h, decide_eq_true h, if_pos rfl]; rfl
  · rw [if_neg h, decide_eq_false h, if_neg Bool.false_ne_true]
theorem namedL_eq (nb : List Fr.Bar) (p : List Nat) (c : Int) : namedL (nb.map bI) (kI p) c (nb.map bI).length = (namedN nb p c).map bI := by
  unfold namedL namedN
  rw [List.map_map, List.length_map]
  exact List.map_congr_left fun k _ => nameB_eq nb p c k
theorem namedN_len (nb : List Fr.Bar) (p : List Nat) (c : Int) : (namedN nb p c).length = nb.length := by unfold namedN; rw [List.length_map, List.length_range]
theorem rotI_lt {c : Int} {m k : Nat} (h : k < m) : rotI c m k < m := by
  unfold rotI
  have m1 := Int.emod_nonneg ((k : Int) + c) (show (m : Int) ≠ 0 by omega)
  have m2 := Int.emod_lt_of_pos ((k : Int) + c) (show (0 : Int) < (m : Int) by omega)
  omega
theorem rotI_inj {c : Int} {m x y : Nat} (hx : x < m) (hy : y < m) (h : rotI c m x = rotI c m y) : x = y := by
  unfold rotI at h
  have m1 := Int.emod_nonneg ((x : Int) + c) (show (m : Int) ≠ 0 by omega)
  have m2 := Int.emod_nonneg ((y : Int) + c) (show (m : Int) ≠ 0 by omega)
  have e : ((x : Int) + c) % (m : Int) = ((y : Int) + c) % (m : Int) := by omega
  have z := Int.emod_eq_emod_iff_emod_sub_eq_zero.mp e
  have z2 := Int.emod_eq_emod_iff_emod_sub_eq_zero.mp e.symm
  by_cases l : y ≤ x
  · rw [show ((x : Int) + c - ((y : Int) + c)) = ((x - y : Nat) : Int) by omega, Int.emod_eq_of_lt (by omega) (by omega)] at z
    omega
  · rw [show ((y : Int) + c - ((x : Int) + c)) = ((y - x : Nat) : Int) by omega, Int.emod_eq_of_lt (by omega) (by omega)] at z2
    omega
theorem range_perm {n : Nat} {f : Nat → Nat} (inj : ∀ x y, x < n → y < n → f x = f y → x = y) (low : ∀ x, x < n → f x < n) : ((List.range n).map f).Perm (List.range n) := by
  have nd : ((List.range n).map f).Nodup := by
    unfold List.Nodup
    rw [List.pairwise_map]
    exact List.Pairwise.imp_of_mem (fun hx hy ne e => ne (inj _ _ (List.mem_range.mp hx) (List.mem_range.mp hy) e)) (List.nodup_range (n := n))
  refine (List.perm_ext_iff_of_nodup nd List.nodup_range).mpr fun y => ⟨fun hy => ?_, fun hy => ?_⟩
  · obtain ⟨x, hx, rfl⟩ := List.mem_map.mp hy
    exact List.mem_range.mpr (low x (List.mem_range.mp hx))
  · by_cases h : y ∈ (List.range n).map f
    · exact h
    · have := Fr.small_len (n := n) (l := y :: (List.range n).map f) (List.nodup_cons.mpr ⟨h, nd⟩) fun k hk => by
        rcases List.mem_cons.mp hk with rfl | hk
        · exact List.mem_range.mp hy
        · obtain ⟨x, hx, rfl⟩ := List.mem_map.mp hk
          exact low x (List.mem_range.mp hx)
      simp at this
      omega
theorem range_getD (nb : List Fr.Bar) : (List.range nb.length).map (fun i => nb.getD i (0, 0)) = nb := by
  refine List.ext_getElem (by simp) fun i h1 h2 => ?_
  simp [List.getD, h2]
/-- the bars as they stand there, the first ones behind -/
theorem rot_perm (nb : List Fr.Bar) (c : Int) : ((List.range nb.length).map fun k => nb.getD (rotI c nb.length k) (0, 0)).Perm nb := by
  have h := (range_perm (n := nb.length) (f := rotI c nb.length) (fun x y hx hy => rotI_inj hx hy) fun x hx => rotI_lt hx).map fun i => nb.getD i (0, 0)
  rw [range_getD, List.map_map] at h
  exact h
theorem ins_named (nb : List Fr.Bar) (p : List Nat) (c : Int) (S : Fr.JS) : Fr.ins (namedN nb p c) S = Fr.ins nb fun x => S (p.getD x 0) := by
  rw [← Fr.ins_perm (rot_perm nb c)]
  unfold namedN Fr.ins
  rw [List.countP_map, List.countP_map]
  refine Fr.countP_same fun k _ => ?_
  show (S (nameN nb p c k).1 && S (nameN nb p c k).2) = (S _ && S _)
  unfold nameN turnB
  split
  · exact Bool.and_comm _ _
  · rfl
theorem named_ok {nb : List Fr.Bar} {n : Nat} (ok : Fr.Ok n nb) (o c : Int) : Fr.Ok n (namedN nb (orderN o n) c) := fun b hb => by
  obtain ⟨k, hk, rfl⟩ := List.mem_map.mp hb
  have hk := List.mem_range.mp hk
  have hm : nb.getD (rotI c nb.length k) (0, 0) ∈ nb := Fr.getD_mem (rotI_lt hk)
  obtain ⟨o1, o2, o3⟩ := ok _ hm
  unfold nameN turnB
  generalize nb.getD (rotI c nb.length k) (0, 0) = b at o1 o2 o3
  have l1 := orderN_low (c := o) o1
  have l2 := orderN_low (c := o) o2
  have ne : (orderN o n).getD b.1 0 ≠ (orderN o n).getD b.2 0 := fun e => o3 (orderN_inj o1 o2 e)
  split
  · exact ⟨l2, l1, Ne.symm ne⟩
  · exact ⟨l1, l2, ne⟩
theorem named_slim {nb : List Fr.Bar} {n : Nat} (sl : Fr.Slim n nb) (o c : Int) : Fr.Slim n (namedN nb (orderN o n) c) :=
  Fr.name_slim (f := fun x => (orderN o n).getD x 0) (fun x y hx hy => orderN_inj hx hy) (fun x hx => orderN_low hx) sl fun S => ins_named nb _ c S
/-! ### sets -/
def setsAll (js : List Int) : List (List Int) := js.foldl (fun acc j => acc ++ acc.map (· ++ [j])) [[]]
def setsL (js : List Int) : List (List Int) := (setsAll js).filter fun l => decide (1 < l.length)
theorem setsAll_snoc (js : List Int) (j : Int) : setsAll (js ++ [j]) = setsAll js ++ (setsAll js).map (· ++ [j]) := by
  unfold setsAll
  rw [List.foldl_append]
  rfl
theorem snoc_ind {α : Type} {p : List α → Prop} (h0 : p []) (hs : ∀ l x, p l → p (l ++ [x])) (l : List α) : p l := by
  have h : ∀ k : Nat, k ≤ l.length → p (l.take k) := fun k => by
    induction k with
    | zero => exact fun _ => h0
    | succ k ih =>
      intro hk
      rw [← List.take_append_getElem (show k < l.length by omega)]
      exact hs _ _ (ih (by omega))
  have := h l.length (Nat.le_refl _)
  rwa [List.take_length] at this
theorem setsAll_len (js : List Int) : (setsAll js).length = 2 ^ js.length := by
  refine snoc_ind (p := fun js => (setsAll js).length = 2 ^ js.length) rfl (fun js j ih => ?_) js
  rw [setsAll_snoc, List.length_append, List.length_map, ih, List.length_append]
  show _ = 2 ^ (js.length + 1)
  rw [Nat.pow_succ]
  omega
theorem setsAll_sub (js : List Int) : ∀ l, l ∈ setsAll js ↔ l.Sublist js := by
  refine snoc_ind (p := fun js => ∀ l, l ∈ setsAll js ↔ l.Sublist js) (fun l => ?_) (fun js j ih l => ?_) js
  · show l ∈ [[]] ↔ _
    rw [List.mem_singleton, List.sublist_nil]
  · rw [setsAll_snoc, List.mem_append, List.mem_map]
    constructor
    · rintro (h | ⟨k, hk, rfl⟩)
      · exact ((ih l).mp h).trans (List.sublist_append_left _ _)
      · exact ((ih k).mp hk).append (.refl _)
    · intro h
      obtain ⟨l1, l2, rfl, h1, h2⟩ := List.sublist_append_iff.mp h
      rcases l2 with _ | ⟨x, l2⟩
      · rw [List.append_nil]
        exact .inl ((ih l1).mpr h1)
      · have hl := h2.length_le
        have : l2 = [] := List.length_eq_zero_iff.mp (by simp at hl; exact List.length_eq_zero_iff.mpr hl)
        subst this
        have hx : x = j := List.mem_singleton.mp (h2.subset List.mem_cons_self)
        subst hx
        exact .inr ⟨l1, (ih l1).mpr h1, rfl⟩
theorem setsAll_short (js : List Int) : ∀ l ∈ setsAll js, l.length ≤ js.length := fun l h => ((setsAll_sub js l).mp h).length_le
def insideL (bs : List (Int × Int)) (js : List Int) : Nat := (bs.filter fun b => decide (b.1 ∈ js) && decide (b.2 ∈ js)).length
def isI (l : List Int) : Fr.JS := fun x => decide ((x : Int) ∈ l)
theorem inside_ins (nb : List Fr.Bar) (l : List Int) : insideL (nb.map bI) l = Fr.ins nb (isI l) := by
  unfold insideL Fr.ins
  rw [← List.countP_eq_length_filter, List.countP_map]
  rfl
def ofS (n : Nat) (S : Fr.JS) : List Int := kI ((List.range n).filter S)
theorem ofS_sub (n : Nat) (S : Fr.JS) : (ofS n S).Sublist (kI (List.range n)) := (List.filter_sublist).map _
theorem ofS_len (n : Nat) (S : Fr.JS) : (ofS n S).length = Fr.card n S := by
  unfold ofS kI Fr.card
  rw [List.length_map, List.countP_eq_length_filter]
theorem isI_ofS {n x : Nat} {S : Fr.JS} (h : x < n) : isI (ofS n S) x = S x := by
  unfold isI ofS
  have : ((x : Int) ∈ kI ((List.range n).filter S)) ↔ S x = true := by
    rw [kI_mem, List.mem_filter, List.mem_range]
    exact ⟨fun h => h.2, fun e => ⟨h, e⟩⟩
  cases e : S x with
  | true => exact decide_eq_true (this.mpr e)
  | false => exact decide_eq_false fun q => by rw [this.mp q] at e; cases e
theorem sub_nodup {n : Nat} {l : List Int} (h : l.Sublist (kI (List.range n))) : ∃ m : List Nat, l = kI m ∧ m.Nodup ∧ (∀ k ∈ m, k < n) ∧ m.Pairwise (· < ·) := by
  obtain ⟨m, hm, rfl⟩ := List.sublist_map_iff.mp h
  exact ⟨m, rfl, hm.nodup List.nodup_range, fun k hk => List.mem_range.mp (hm.subset hk), List.pairwise_lt_range.sublist hm⟩
theorem card_isI {n : Nat} {l : List Int} (h : l.Sublist (kI (List.range n))) : Fr.card n (isI l) = l.length := by
  obtain ⟨m, rfl, nd, low, _⟩ := sub_nodup h
  have e : isI (kI m) = Fr.inL m := by
    funext x
    unfold isI Fr.inL
    exact decide_eq_decide.mpr kI_mem
  rw [e, Fr.card_inL nd low]
  unfold kI
  rw [List.length_map]
/-- lean: no set crowded -/
theorem sets_slim {n : Nat} {nb : List Fr.Bar} (ok : Fr.Ok n nb) : (∀ l ∈ setsL (kI (List.range n)), ¬ (2 * l.length < insideL (nb.map bI) l + 3)) ↔ Fr.Slim n nb := by
  constructor
  · intro h S hS
    have hl := h (ofS n S) (List.mem_filter.mpr ⟨(setsAll_sub _ _).mpr (ofS_sub n S), by rw [decide_eq_true_eq, ofS_len]; omega⟩)
    rw [ofS_len, inside_ins, Fr.ins_same ok (T := S) fun x hx => isI_ofS hx] at hl
    omega
  · intro sl l hl
    obtain ⟨h1, h2⟩ := List.mem_filter.mp hl
    have h1 := (setsAll_sub _ _).mp h1
    have h2 := of_decide_eq_true h2
    have := sl (isI l) (by rw [card_isI h1]; exact h2)
    rw [card_isI h1] at this
    rw [inside_ins]
    omega
end Pl

/-! A call with no region before and after is like any other. -/
namespace Pl
open PySem PySem.Spec PyProof.Rows L2
open Evl (Ex)
section
variable {K : PySem.W.Frag} {S0 H0 S H S' H' : Hp} {σ : L2.St} {ρ : Rho} {tA : TA} {E : XK} {ds es : List D} {d : D} {N : List Str} {t : TS}
theorem SG.none (e : Ex S H) : SG K S H [] [] S H [] := by
  refine ⟨[], ⟨.nil, List.nodup_nil, fun _ h => nomatch h⟩, ?_⟩
  rw [cov_nil]
  exact ⟨Ext.refl e, ⟨rfl, fun i d h => by simp at h⟩, fun i ds h => by simp at h, fun i j a b p h => by simp at h⟩
theorem SG.bare (s : SG K S0 H0 ρ [] S H σ) : Stt K S0 H0 ρ S H σ := by
  obtain ⟨fp, rg, st⟩ := s
  have o := rg.own
  cases o
  rwa [cov_nil] at st
theorem SG.bareG {g : Gs} (s : SG K S0 H0 ρ g S H σ) : Stt K S0 H0 ρ S H σ := SG.bare (SG.forget (g := []) (g' := g) s)
theorem ev_callG {Rel : List D → Gs → Rs → Gs → Prop} (ha : EvA K tA ρ ds) (hr : Rel ds [] (.d d) []) : EvD K (tCall (spG K Rel) [] E tA) ρ d := fun S H σ e v Q q =>
  ha S H σ e v _ fun vs S1 H1 x1 r1 => ⟨S1, H1, ds, [], .d d, [], SG.none x1.sub, by rw [List.append_nil]; exact r1, hr, fun v S2 H2 _ z => q v S2 H2 (x1.trans (SG.bare z.1).ext) z.2⟩
theorem evF_callG {Rel : List D → Gs → Rs → Gs → Prop} (ha : EvA K tA ρ ds) (hr : Rel ds [] (.o es) []) : EvF K (tCall (spG K Rel) [] E tA) ρ es := fun S H σ e v Q q =>
  ha S H σ e v _ fun vs S1 H1 x1 r1 => ⟨S1, H1, ds, [], .o es, [], SG.none x1.sub, by rw [List.append_nil]; exact r1, hr, fun v S2 H2 _ z => by
    have z : SG K S1 H1 [.o es] [] S2 H2 [some v] := z
    have st := SG.bare z
    obtain ⟨p, ws, h1, h2, h3, h4, h5⟩ := st.own 0 es rfl
    have e : v = .ref p := Option.some.inj (Option.some.inj h1)
    subst e
    exact q p ws S2 H2 (x1.trans st.ext) (Evl.fresh_back x1.h h2) h3 h4 h5⟩
def FM.says (d : D) : FM := { nx := fun _ _ => d = .non, rt := fun r _ => r = .d d }
/-- a def that tells data, walked with a region of its own -/
theorem TM.finD {Rel : List D → D → Prop} {vs : List V} {H : Hp} {Q : VK} {E : XK} (h : spD K Rel vs H Q E) (k : ∀ ds d, Rel ds d → TM K t (startR N.length ds) [] (.says d)) : t { nx := fun _ H' => Q .non H', rt := Q } (L2.start N vs) H := by
  obtain ⟨S, ds, d, e, r, rel, q⟩ := h
  refine k ds d rel S H S H _ _ ((SG.none e).start r) ⟨fun ρ x S' H' σ n e' s => ?_, fun _ _ _ _ _ z => z.elim, fun _ _ _ _ _ z => z.elim, fun r' x v ρ S' H' σ n s => ?_⟩
  · have n : d = .non := n
    subst n
    exact q .non S' H' s.bareG.ext .non
  · have n : r' = .d d := n
    subst n
    exact q v S' H' s.1.bareG.ext s.2
end
end Pl
namespace Pl
theorem sortN_len (ks : List Nat) : (sortN ks).length = ks.length := (sortN_perm ks).length_eq
theorem kI_len (ks : List Nat) : (kI ks).length = ks.length := by unfold kI; rw [List.length_map]
theorem rise_of {l : List Nat} (h : l.Pairwise (· ≤ ·)) (nd : l.Nodup) : l.Pairwise (· < ·) := by
  have : l.Pairwise fun a b => a ≤ b ∧ a ≠ b := h.and nd
  exact this.imp fun h => by omega
theorem sortN_lt {ks : List Nat} (nd : ks.Nodup) : (sortN ks).Pairwise (· < ·) := rise_of (sortN_rise ks) ((sortN_perm ks).nodup_iff.mpr nd)
theorem kI_lt {ks : List Nat} (h : ks.Pairwise (· < ·)) : (kI ks).Pairwise (· < ·) := by
  unfold kI
  rw [List.pairwise_map]
  exact h.imp fun h => by omega
theorem isI_kI (m : List Nat) : isI (kI m) = Fr.inL m := by
  funext x
  unfold isI Fr.inL
  exact decide_eq_decide.mpr kI_mem
theorem inL_perm {l m : List Nat} (h : l.Perm m) : Fr.inL l = Fr.inL m := by
  funext x
  unfold Fr.inL
  exact decide_eq_decide.mpr h.mem_iff
theorem crowd_told {n : Nat} {nb : List Fr.Bar} (ok : Fr.Ok n nb) (hn : n ≤ 16) {ks : List Nat} (h : crowdL (List.replicate n []) nb = some ks) :
    (∀ x ∈ kI (sortN ks), 0 ≤ x ∧ x ≤ (n : Int) - 1) ∧ (kI (sortN ks)).Pairwise (· < ·) ∧ (kI (sortN ks)).length < 64 ∧ 2 ≤ (kI (sortN ks)).length ∧ 2 * (kI (sortN ks)).length < insideL (nb.map bI) (kI (sortN ks)) + 3 := by
  obtain ⟨nd, low, h2, h3⟩ := (Fr.crowd_spec ok).2 ks h
  have sm := Fr.small_len nd low
  rw [kI_len, sortN_len, inside_ins, isI_kI, inL_perm (sortN_perm ks)]
  refine ⟨fun x hx => ?_, kI_lt (sortN_lt nd), by omega, h2, h3⟩
  obtain ⟨k, hk, rfl⟩ := List.mem_map.mp hx
  have := low k ((sortN_perm ks).mem_iff.mp hk)
  omega
/-- bars as numbers -/
def unB (b : Int × Int) : Fr.Bar := (b.1.toNat, b.2.toNat)
theorem unB_bI {bs : List (Int × Int)} (h : ∀ b ∈ bs, 0 ≤ b.1 ∧ 0 ≤ b.2) : (bs.map unB).map bI = bs := by
  rw [List.map_map]
  refine (List.map_congr_left fun b hb => ?_).trans (List.map_id _)
  obtain ⟨h1, h2⟩ := h b hb
  show ((b.1.toNat : Int), (b.2.toNat : Int)) = b
  exact Prod.ext (Int.toNat_of_nonneg h1) (Int.toNat_of_nonneg h2)
end Pl

/-! The choice: going through bars, one taken where all stay slim; and by the room of all sets. -/
namespace Fr
open Classical in
noncomputable def pickN (n : Nat) : List Bar → List Bar → Nat → List Nat
  | _, [], _ => []
  | kb, b :: r, i => if Slim n (kb ++ [b]) then i :: pickN n (kb ++ [b]) r (i + 1) else pickN n kb r (i + 1)
open Classical in
noncomputable def pickB (n : Nat) : List Bar → List Bar → List Bar
  | _, [] => []
  | kb, b :: r => if Slim n (kb ++ [b]) then b :: pickB n (kb ++ [b]) r else pickB n kb r
theorem pickN_yes {n : Nat} {kb r : List Bar} {b : Bar} {i : Nat} (h : Slim n (kb ++ [b])) : pickN n kb (b :: r) i = i :: pickN n (kb ++ [b]) r (i + 1) := by rw [pickN, if_pos h]
theorem pickN_no {n : Nat} {kb r : List Bar} {b : Bar} {i : Nat} (h : ¬ Slim n (kb ++ [b])) : pickN n kb (b :: r) i = pickN n kb r (i + 1) := by rw [pickN, if_neg h]
theorem pickB_yes {n : Nat} {kb r : List Bar} {b : Bar} (h : Slim n (kb ++ [b])) : pickB n kb (b :: r) = b :: pickB n (kb ++ [b]) r := by rw [pickB, if_pos h]
theorem pickB_no {n : Nat} {kb r : List Bar} {b : Bar} (h : ¬ Slim n (kb ++ [b])) : pickB n kb (b :: r) = pickB n kb r := by rw [pickB, if_neg h]
theorem pickN_app {n : Nat} : ∀ (r s kb : List Bar) (i : Nat), pickN n kb (r ++ s) i = pickN n kb r i ++ pickN n (kb ++ pickB n kb r) s (i + r.length)
  | [], s, kb, i => by rw [pickB, List.append_nil]; rfl
  | b :: r, s, kb, i => by
    have e : i + (b :: r).length = i + 1 + r.length := by simp; omega
    by_cases h : Slim n (kb ++ [b])
    · rw [List.cons_append, pickN_yes h, pickN_yes h, pickB_yes h, pickN_app r s, e, List.append_assoc]
      rfl
    · rw [List.cons_append, pickN_no h, pickN_no h, pickB_no h, pickN_app r s, e]
theorem pickB_app {n : Nat} : ∀ (r s kb : List Bar), pickB n kb (r ++ s) = pickB n kb r ++ pickB n (kb ++ pickB n kb r) s
  | [], s, kb => by rw [pickB, List.append_nil]; rfl
  | b :: r, s, kb => by
    by_cases h : Slim n (kb ++ [b])
    · rw [List.cons_append, pickB_yes h, pickB_yes h, pickB_app r s, List.append_assoc]
      rfl
    · rw [List.cons_append, pickB_no h, pickB_no h, pickB_app r s]
theorem pickB_len {n : Nat} : ∀ (r kb : List Bar) (i : Nat), (pickN n kb r i).length = (pickB n kb r).length
  | [], kb, i => by rw [pickN, pickB]; rfl
  | b :: r, kb, i => by
    by_cases h : Slim n (kb ++ [b])
    · rw [pickN_yes h, pickB_yes h, List.length_cons, List.length_cons, pickB_len r]
    · rw [pickN_no h, pickB_no h, pickB_len r]
theorem pickB_slim {n : Nat} : ∀ (r kb : List Bar), Slim n kb → Slim n (kb ++ pickB n kb r)
  | [], kb, sl => by rw [pickB, List.append_nil]; exact sl
  | b :: r, kb, sl => by
    by_cases h : Slim n (kb ++ [b])
    · rw [pickB_yes h]
      have := pickB_slim r _ h
      rwa [List.append_assoc] at this
    · rw [pickB_no h]
      exact pickB_slim r kb sl
theorem pickB_sub {n : Nat} : ∀ (r kb : List Bar), (pickB n kb r).Sublist r
  | [], kb => by rw [pickB]; exact .refl _
  | b :: r, kb => by
    by_cases h : Slim n (kb ++ [b])
    · rw [pickB_yes h]
      exact (pickB_sub r _).cons₂ b
    · rw [pickB_no h]
      exact (pickB_sub r kb).cons b
theorem pickN_rise {n : Nat} : ∀ (r kb : List Bar) (i : Nat), (∀ k ∈ pickN n kb r i, i ≤ k ∧ k < i + r.length) ∧ (pickN n kb r i).Pairwise (· < ·)
  | [], kb, i => by
    rw [pickN]
    exact ⟨fun k h => (nomatch h), List.Pairwise.nil⟩
  | b :: r, kb, i => by
    by_cases h : Slim n (kb ++ [b])
    · rw [pickN_yes h]
      obtain ⟨h1, h2⟩ := pickN_rise r (kb ++ [b]) (i + 1)
      refine ⟨fun k hk => ?_, .cons (fun k hk => by have := h1 k hk; omega) h2⟩
      rw [List.length_cons]
      rcases List.mem_cons.mp hk with rfl | hk
      · omega
      · have := h1 k hk
        omega
    · rw [pickN_no h]
      obtain ⟨h1, h2⟩ := pickN_rise r kb (i + 1)
      refine ⟨fun k hk => ?_, h2⟩
      rw [List.length_cons]
      have := h1 k hk
      omega
/-- lean ones are all taken -/
theorem pickN_all {n : Nat} : ∀ (r kb : List Bar) (i : Nat), Slim n (kb ++ r) → pickN n kb r i = List.range' i r.length ∧ pickB n kb r = r
  | [], kb, i, _ => by rw [pickN, pickB]; exact ⟨rfl, rfl⟩
  | b :: r, kb, i, sl => by
    have e : kb ++ b :: r = (kb ++ [b]) ++ r := by simp
    rw [e] at sl
    have h : Slim n (kb ++ [b]) := sl.sub (List.sublist_append_left _ _)
    obtain ⟨h1, h2⟩ := pickN_all r (kb ++ [b]) (i + 1) sl
    rw [pickN_yes h, pickB_yes h, h1, h2]
    exact ⟨rfl, rfl⟩
/-- no room is left -/
theorem pickN_full {n : Nat} (h2 : 2 ≤ n) {kb : List Bar} (okk : Ok n kb) (hl : kb.length + 3 = 2 * n) : ∀ (r : List Bar) (i : Nat), Ok n r → pickN n kb r i = [] ∧ pickB n kb r = []
  | [], i, _ => by rw [pickN, pickB]; exact ⟨rfl, rfl⟩
  | b :: r, i, ok => by
    have h : ¬ Slim n (kb ++ [b]) := not_slim_all (okk.app fun c hc => by rw [List.mem_singleton.mp hc]; exact ok b List.mem_cons_self) h2 (by rw [List.length_append, List.length_singleton]; omega)
    rw [pickN_no h, pickB_no h]
    exact pickN_full h2 okk hl r (i + 1) fun c hc => ok c (List.mem_cons_of_mem _ hc)
/-- the joints' way of going through the bars takes the same ones -/
theorem lay_slim {n : Nat} {cs : Cs} {kb : List Bar} {b : Bar} (ft : Fits n cs kb) (okk : Ok n kb) (sl : Slim n kb) (o : b.1 < n ∧ b.2 < n ∧ b.1 ≠ b.2) : (lay cs b.1 b.2).2 = none ↔ Slim n (kb ++ [b]) := by
  obtain ⟨o1, o2, o3⟩ := o
  constructor
  · intro h
    exact (lay_yes ft okk sl o1 o2 o3 (Prod.ext rfl h : lay cs b.1 b.2 = ((lay cs b.1 b.2).1, none))).2
  · intro h
    cases hy : (lay cs b.1 b.2).2 with
    | none => rfl
    | some ks =>
      obtain ⟨_, nd, low, m1, m2, t1, t2⟩ := lay_no ft sl o1 o2 o3 (Prod.ext rfl hy : lay cs b.1 b.2 = ((lay cs b.1 b.2).1, some ks))
      have := h (inL ks) t1
      have i1 := ins_append kb b (inL ks)
      have e1 : inL ks b.1 = true := decide_eq_true m1
      have e2 : inL ks b.2 = true := decide_eq_true m2
      rw [e1, e2, Bool.and_self, if_pos rfl] at i1
      omega
theorem chosen_go {n : Nat} : ∀ (r kb : List Bar) (cs : Cs) (i : Nat), Ok n r → Ok n kb → Fits n cs kb → Slim n kb → Pl.chosenL cs r i = pickN n kb r i ∧ keptL cs r = pickB n kb r
  | [], kb, cs, i, _, _, _, _ => by rw [pickN, pickB]; exact ⟨rfl, rfl⟩
  | b :: r, kb, cs, i, ok, okk, ft, sl => by
    have o := ok b List.mem_cons_self
    have okr : Ok n r := fun c hc => ok c (List.mem_cons_of_mem _ hc)
    have hs := lay_slim ft okk sl o
    unfold Pl.chosenL keptL
    cases hy : (lay cs b.1 b.2).2 with
    | none =>
      have h := hs.mp hy
      obtain ⟨f1, f2⟩ := lay_yes ft okk sl o.1 o.2.1 o.2.2 (Prod.ext rfl hy : lay cs b.1 b.2 = ((lay cs b.1 b.2).1, none))
      obtain ⟨g1, g2⟩ := chosen_go r (kb ++ [b]) _ (i + 1) okr (okk.app fun c hc => by rw [List.mem_singleton.mp hc]; exact o) f1 f2
      rw [pickN_yes h, pickB_yes h, ← g1, ← g2]
      exact ⟨rfl, if_pos rfl⟩
    | some ks =>
      have h : ¬ Slim n (kb ++ [b]) := fun z => by rw [hs.mpr z] at hy; cases hy
      obtain ⟨g1, g2⟩ := chosen_go r kb _ (i + 1) okr okk (lay_fits_no ft o.1 o.2.1 hy) sl
      rw [pickN_no h, pickB_no h, ← g1, ← g2]
      exact ⟨rfl, if_neg (by simp)⟩
theorem chosen_spec {n : Nat} {nb : List Bar} (ok : Ok n nb) : Pl.chosenL (List.replicate n []) nb 0 = pickN n [] nb 0 ∧ keptL (List.replicate n []) nb = pickB n [] nb :=
  chosen_go nb [] _ 0 ok (fun _ h => nomatch h) (Pl.fits_bare n) (Pl.slim_nil n)
end Fr
namespace Pl
open PySem PySem.Spec PyProof.Rows L2
open Evl (Ex)
def nearL (L : List (List Int)) (b : Int × Int) : List Int := pick L.length fun k => decide (b.1 ∈ L.getD k []) && decide (b.2 ∈ L.getD k [])
def roomOf (kb : List Fr.Bar) (l : List Int) : Int := 2 * (l.length : Int) - 3 - (insideL (kb.map bI) l : Int)
def roomL (L : List (List Int)) (kb : List Fr.Bar) : List Int := L.map (roomOf kb)
theorem roomL_get (L : List (List Int)) (kb : List Fr.Bar) {k : Nat} (h : k < L.length) : (roomL L kb).getD k 0 = roomOf kb (L.getD k []) := by
  unfold roomL
  simp [List.getD, h]
theorem near_mem {L : List (List Int)} {b : Int × Int} {k : Int} : k ∈ nearL L b ↔ ∃ i : Nat, i < L.length ∧ (b.1 ∈ L.getD i [] ∧ b.2 ∈ L.getD i []) ∧ (i : Int) = k := by
  unfold nearL
  rw [pick_mem]
  constructor
  · rintro ⟨i, h1, h2, h3⟩
    rw [Bool.and_eq_true, decide_eq_true_eq, decide_eq_true_eq] at h2
    exact ⟨i, h1, h2, h3⟩
  · rintro ⟨i, h1, h2, h3⟩
    exact ⟨i, h1, by rw [Bool.and_eq_true, decide_eq_true_eq, decide_eq_true_eq]; exact h2, h3⟩
theorem inside_snoc (kb : List Fr.Bar) (b : Fr.Bar) (l : List Int) : insideL ((kb ++ [b]).map bI) l = insideL (kb.map bI) l + if (b.1 : Int) ∈ l ∧ (b.2 : Int) ∈ l then 1 else 0 := by
  rw [inside_ins, inside_ins, Fr.ins_append]
  by_cases h : (b.1 : Int) ∈ l ∧ (b.2 : Int) ∈ l
  · rw [if_pos h, if_pos (by unfold isI; rw [decide_eq_true h.1, decide_eq_true h.2]; rfl)]
  · rw [if_neg h, if_neg]
    intro z
    unfold isI at z
    rw [Bool.and_eq_true, decide_eq_true_eq, decide_eq_true_eq] at z
    exact h z
theorem whole_in {n : Nat} (h : 2 ≤ n) : kI (List.range n) ∈ setsL (kI (List.range n)) :=
  List.mem_filter.mpr ⟨(setsAll_sub _ _).mpr (.refl _), by rw [decide_eq_true_eq, kI_len, List.length_range]; omega⟩
theorem near_ne {n : Nat} {b : Fr.Bar} (h1 : b.1 < n) (h2 : b.2 < n) (h : 2 ≤ n) : 0 < (nearL (setsL (kI (List.range n))) (bI b)).length := by
  obtain ⟨i, hi, e⟩ := List.mem_iff_getElem.mp (whole_in h)
  refine List.length_pos_of_mem (a := (i : Int)) (near_mem.mpr ⟨i, hi, ?_, rfl⟩)
  have : (setsL (kI (List.range n))).getD i [] = kI (List.range n) := by simp [List.getD, hi, e]
  rw [this]
  exact ⟨kI_mem.mpr (List.mem_range.mpr h1), kI_mem.mpr (List.mem_range.mpr h2)⟩
theorem room_slim {n : Nat} {kb : List Fr.Bar} {b : Fr.Bar} (okk : Fr.Ok n kb) (sl : Fr.Slim n kb) (o : b.1 < n ∧ b.2 < n ∧ b.1 ≠ b.2) :
    (∀ k ∈ nearL (setsL (kI (List.range n))) (bI b), 0 < (roomL (setsL (kI (List.range n))) kb).getD k.toNat 0) ↔ Fr.Slim n (kb ++ [b]) := by
  have ok2 : Fr.Ok n (kb ++ [b]) := okk.app fun c hc => by rw [List.mem_singleton.mp hc]; exact o
  rw [← sets_slim ok2]
  have sl := (sets_slim okk).mpr sl
  constructor
  · intro h l hl
    obtain ⟨i, hi, e⟩ := List.mem_iff_getElem.mp hl
    have eg : (setsL (kI (List.range n))).getD i [] = l := by simp [List.getD, hi, e]
    rw [inside_snoc]
    by_cases q : (b.1 : Int) ∈ l ∧ (b.2 : Int) ∈ l
    · have z := h (i : Int) (near_mem.mpr ⟨i, hi, by rw [eg]; exact q, rfl⟩)
      rw [Int.toNat_natCast, roomL_get _ _ hi, eg] at z
      unfold roomOf at z
      rw [if_pos q]
      omega
    · rw [if_neg q]
      exact sl l hl
  · intro h k hk
    obtain ⟨i, hi, q, rfl⟩ := near_mem.mp hk
    rw [Int.toNat_natCast, roomL_get _ _ hi]
    have hm : (setsL (kI (List.range n))).getD i [] ∈ setsL (kI (List.range n)) := Fr.getD_mem hi
    have z := h _ hm
    have q : (b.1 : Int) ∈ (setsL (kI (List.range n))).getD i [] ∧ (b.2 : Int) ∈ (setsL (kI (List.range n))).getD i [] := q
    rw [inside_snoc, if_pos q] at z
    unfold roomOf
    omega
theorem room_next {L : List (List Int)} {kb : List Fr.Bar} {b : Fr.Bar} {R : List Int} (hl : R.length = L.length) (h : ∀ k : Nat, k < L.length → R.getD k 0 = (roomL L kb).getD k 0 - if (k : Int) ∈ nearL L (bI b) then 1 else 0) : R = roomL L (kb ++ [b]) := by
  have e2 : (roomL L (kb ++ [b])).length = L.length := by unfold roomL; rw [List.length_map]
  refine List.ext_getElem (by rw [hl, e2]) fun k h1 h2 => ?_
  have hk : k < L.length := by omega
  have a := h k hk
  have a2 := roomL_get L (kb ++ [b]) hk
  rw [roomL_get _ _ hk] at a
  have g1 : R.getD k 0 = R[k] := by simp [List.getD, h1]
  have g2 : (roomL L (kb ++ [b])).getD k 0 = (roomL L (kb ++ [b]))[k] := by simp [List.getD, h2]
  rw [← g1, ← g2, a, a2]
  unfold roomOf
  rw [inside_snoc]
  by_cases q : (b.1 : Int) ∈ L.getD k [] ∧ (b.2 : Int) ∈ L.getD k []
  · have q' : (bI b).1 ∈ L.getD k [] ∧ (bI b).2 ∈ L.getD k [] := q
    rw [if_pos (near_mem.mpr ⟨k, hk, q, rfl⟩), if_pos q]
    omega
  · rw [if_neg (fun z => q (by
      obtain ⟨i, _, q2, e⟩ := near_mem.mp z
      have : i = k := by omega
      rw [← this]
      exact q2)), if_neg q]
    omega
theorem ok_min {X : Cx} {K : PySem.W.Frag} (h : X.K = K) (hc : X.calm = true) : CallR X (.builtin "min") (rMin K) := by subst h; exact cr_min hc
theorem rc_min {K : PySem.W.Frag} {ns : List Int} {m : Int} (h1 : m ∈ ns) (h2 : ∀ y ∈ ns, m ≤ y) : RC K (rMin K) [.lst (ns.map D.int)] (.int m) := fun S H vs e r Q q => by
  cases r with
  | cons h t =>
    cases t
    cases h with
    | lst ha rl =>
      have z := rl.ints
      subst z
      refine ⟨_, ns, rfl, Evl.sq_of (e _ _ ha), List.length_pos_of_mem h1, fun k k1 k2 => ?_⟩
      have a := h2 k k1
      have b := k2 m h1
      have : k = m := by omega
      subst this
      exact q _ S H (Ext.refl e) (.int _)
theorem least_of : ∀ {ns : List Int}, 0 < ns.length → ∃ m ∈ ns, ∀ y ∈ ns, m ≤ y
  | [x], _ => ⟨x, List.mem_cons_self, fun y hy => by rw [List.mem_singleton.mp hy]; exact Int.le_refl _⟩
  | x :: y :: ns, _ => by
    obtain ⟨m, h1, h2⟩ := least_of (ns := y :: ns) (by simp)
    by_cases h : x ≤ m
    · exact ⟨x, List.mem_cons_self, fun z hz => by
        rcases List.mem_cons.mp hz with rfl | hz
        · exact Int.le_refl _
        · have := h2 z hz; omega⟩
    · exact ⟨m, List.mem_cons_of_mem _ h1, fun z hz => by
        rcases List.mem_cons.mp hz with rfl | hz
        · omega
        · exact h2 z hz⟩
end Pl

/-! What lean bars hold: parts, and that no lean ones are more; the worth. -/
namespace Fr
/-- two joints lie in a set without room -/
def Spn (n : Nat) (K : List Bar) (a b : Nat) : Prop := ∃ S : JS, Tight n K S ∧ S a = true ∧ S b = true
theorem Spn.symm {n : Nat} {K : List Bar} {a b : Nat} (h : Spn n K a b) : Spn n K b a := by
  obtain ⟨S, t, h1, h2⟩ := h
  exact ⟨S, t, h2, h1⟩
theorem Tight.mono {n : Nat} {K L : List Bar} {S : JS} (t : Tight n K S) (le : ins K S ≤ ins L S) (sl : Slim n L) : Tight n L S := by
  obtain ⟨h1, h2⟩ := t
  have := sl S h1
  exact ⟨h1, by omega⟩
theorem Spn.mono {n : Nat} {K L : List Bar} {a b : Nat} (h : Spn n K a b) (e : K.Sublist L) (sl : Slim n L) : Spn n L a b := by
  obtain ⟨S, t, h1, h2⟩ := h
  exact ⟨S, t.mono (ins_sub e S) sl, h1, h2⟩
theorem slim_snoc {n : Nat} {K : List Bar} {b : Bar} (sl : Slim n K) (h1 : b.1 < n) (h2 : b.2 < n) (ne : b.1 ≠ b.2) : Slim n (K ++ [b]) ↔ ¬ Spn n K b.1 b.2 := by
  constructor
  · rintro h ⟨S, ⟨t1, t2⟩, s1, s2⟩
    have i := ins_append K b S
    rw [s1, s2, Bool.and_self, if_pos rfl] at i
    have := h S t1
    omega
  · intro h S hS
    have i := ins_append K b S
    have s := sl S hS
    by_cases e : (S b.1 && S b.2) = true
    · rw [if_pos e] at i
      rw [Bool.and_eq_true] at e
      by_cases z : ins K S + 3 = 2 * card n S
      · exact (h ⟨S, ⟨hS, z⟩, e.1, e.2⟩).elim
      · omega
    · rw [if_neg e] at i
      omega
theorem ins_pos {bs : List Bar} {b : Bar} {S : JS} (hm : b ∈ bs) (h1 : S b.1 = true) (h2 : S b.2 = true) : 0 < ins bs S := List.countP_pos_iff.mpr ⟨b, hm, by rw [h1, h2]; rfl⟩
theorem bar_spn {n : Nat} {K : List Bar} {b : Bar} (ok : Ok n K) (sl : Slim n K) (hm : b ∈ K) : Spn n K b.1 b.2 := by
  obtain ⟨o1, o2, o3⟩ := ok b hm
  have c := card_two o1 o2 o3
  have s := sl (two b.1 b.2) (by omega)
  have p := ins_pos (S := two b.1 b.2) hm (by simp [two]) (by simp [two])
  exact ⟨two b.1 b.2, ⟨by omega, by omega⟩, by simp [two], by simp [two]⟩
/-- three joints that are held two by two are held by one set -/
theorem spn_three {n : Nat} {K : List Bar} (ok : Ok n K) (sl : Slim n K) {a b c : Nat} (ha : a < n) (hb : b < n) (hc : c < n) (nab : a ≠ b) (nac : a ≠ c) (nbc : b ≠ c)
    (h1 : Spn n K a b) (h2 : Spn n K a c) (h3 : Spn n K b c) : ∃ T, Tight n K T ∧ T a = true ∧ T b = true ∧ T c = true := by
  obtain ⟨S, tS, sa, sb⟩ := h1
  obtain ⟨T, tT, ta, tc⟩ := h2
  obtain ⟨U, tU, ub, uc⟩ := h3
  have p1 : 0 < card n (cap S T) := card_pos ha (by simp [cap, sa, ta])
  have p2 : 0 < card n (cap S U) := card_pos hb (by simp [cap, sb, ub])
  have p3 : 0 < card n (cap T U) := card_pos hc (by simp [cap, tc, uc])
  by_cases q1 : 2 ≤ card n (cap S T)
  · exact ⟨cup S T, (tS.cup sl tT q1).1, by simp [cup, sa], by simp [cup, sb], by simp [cup, tc]⟩
  by_cases q2 : 2 ≤ card n (cap S U)
  · exact ⟨cup S U, (tS.cup sl tU q2).1, by simp [cup, sa], by simp [cup, sb], by simp [cup, uc]⟩
  by_cases q3 : 2 ≤ card n (cap T U)
  · exact ⟨cup T U, (tT.cup sl tU q3).1, by simp [cup, ta], by simp [cup, ub], by simp [cup, tc]⟩
  have cc := card_cup_cap n (cap S U) (cap T U)
  have e1 : card n (cup (cap S U) (cap T U)) = card n (cap (cup S T) U) := card_same fun x _ => by
    show (S x && U x || T x && U x) = ((S x || T x) && U x)
    cases S x <;> cases T x <;> cases U x <;> rfl
  have e2 : card n (cap (cap S U) (cap T U)) = 0 := by
    cases z : card n (cap (cap S U) (cap T U)) with
    | zero => rfl
    | succ m =>
      have : 0 < card n (cap (cap S U) (cap T U)) := by omega
      obtain ⟨x, hx, h⟩ := List.countP_pos_iff.mp this
      have hx := List.mem_range.mp hx
      have h : (S x && U x && (T x && U x)) = true := h
      simp only [Bool.and_eq_true] at h
      obtain ⟨⟨k1, k2⟩, k3, _⟩ := h
      have : x = a := le_one_of (S := cap S T) (n := n) (by omega) hx ha (by simp [cap, k1, k3]) (by simp [cap, sa, ta])
      have : x = b := le_one_of (S := cap S U) (n := n) (by omega) hx hb (by simp [cap, k1, k2]) (by simp [cap, sb, ub])
      omega
  exact ⟨cup (cup S T) U, Tight.three ok sl tS tT tU (by omega) (by omega) (by omega) (by omega), by simp [cup, sa], by simp [cup, sb], by simp [cup, tc]⟩
open Classical in
/-- the part of two joints that hold each other -/
noncomputable def part (n : Nat) (K : List Bar) (a b : Nat) : JS := fun c => decide (c = a ∨ c = b ∨ (Spn n K a c ∧ Spn n K b c))
open Classical in
theorem part_iff {n : Nat} {K : List Bar} {a b c : Nat} : part n K a b c = true ↔ (c = a ∨ c = b ∨ (Spn n K a c ∧ Spn n K b c)) := by unfold part; exact decide_eq_true_iff
section
variable {n : Nat} {K : List Bar} {a b : Nat}
theorem part_most (ok : Ok n K) (sl : Slim n K) (ha : a < n) (hb : b < n) (ne : a ≠ b) (h : Spn n K a b) : ∀ m, m ≤ n → ∃ U, Tight n K U ∧ U a = true ∧ U b = true ∧ ∀ c, c < m → (∃ T, Tight n K T ∧ T a = true ∧ T b = true ∧ T c = true) → U c = true
  | 0, _ => by
    obtain ⟨S, t, h1, h2⟩ := h
    exact ⟨S, t, h1, h2, fun c hc => absurd hc (Nat.not_lt_zero _)⟩
  | m + 1, hm => by
    obtain ⟨U, tU, ua, ub, uc⟩ := part_most ok sl ha hb ne h m (by omega)
    by_cases q : ∃ T, Tight n K T ∧ T a = true ∧ T b = true ∧ T m = true
    · obtain ⟨T, tT, ta, tb, tm⟩ := q
      refine ⟨cup U T, Tight.cup_of sl tU tT ha hb ne ua ub ta tb, by simp [cup, ua], by simp [cup, ub], fun c hc hT => ?_⟩
      by_cases e : c = m
      · subst e
        simp [cup, tm]
      · simp [cup, uc c (by omega) hT]
    · refine ⟨U, tU, ua, ub, fun c hc hT => ?_⟩
      by_cases e : c = m
      · subst e
        exact (q hT).elim
      · exact uc c (by omega) hT
theorem part_all (ok : Ok n K) (sl : Slim n K) (ha : a < n) (hb : b < n) (ne : a ≠ b) (h : Spn n K a b) :
    Tight n K (part n K a b) ∧ ∀ T, Tight n K T → T a = true → T b = true → ∀ x, x < n → T x = true → part n K a b x = true := by
  obtain ⟨U, tU, ua, ub, uc⟩ := part_most ok sl ha hb ne h n (Nat.le_refl n)
  have e : ∀ x, x < n → U x = part n K a b x := fun x hx => by
    cases q : part n K a b x with
    | true =>
      rcases part_iff.mp q with rfl | rfl | ⟨h1, h2⟩
      · exact ua
      · exact ub
      · by_cases x1 : x = a
        · rw [x1]; exact ua
        by_cases x2 : x = b
        · rw [x2]; exact ub
        exact uc x hx (spn_three ok sl ha hb hx ne (Ne.symm x1) (Ne.symm x2) h h1 h2)
    | false =>
      cases z : U x with
      | false => rfl
      | true =>
        have : part n K a b x = true := part_iff.mpr (.inr (.inr ⟨⟨U, tU, ua, z⟩, ⟨U, tU, ub, z⟩⟩))
        rw [q] at this
        cases this
  exact ⟨tU.same ok e, fun T tT ta tb x hx tx => by rw [← e x hx]; exact uc x hx ⟨T, tT, ta, tb, tx⟩⟩
theorem part_left : part n K a b a = true := part_iff.mpr (.inl rfl)
theorem part_right : part n K a b b = true := part_iff.mpr (.inr (.inl rfl))
/-- two of a part have that part -/
theorem part_same (ok : Ok n K) (sl : Slim n K) (ha : a < n) (hb : b < n) (ne : a ≠ b) (h : Spn n K a b) {x y : Nat} (hx : x < n) (hy : y < n) (nxy : x ≠ y) (px : part n K a b x = true) (py : part n K a b y = true) :
    Spn n K x y ∧ ∀ z, z < n → part n K a b z = part n K x y z := by
  obtain ⟨t1, m1⟩ := part_all ok sl ha hb ne h
  have hxy : Spn n K x y := ⟨_, t1, px, py⟩
  obtain ⟨t2, m2⟩ := part_all ok sl hx hy nxy hxy
  refine ⟨hxy, fun z hz => ?_⟩
  have i1 : part n K a b z = true → part n K x y z = true := fun q => m2 _ t1 px py z hz q
  have pa := m2 _ t1 px py a ha part_left
  have pb := m2 _ t1 px py b hb part_right
  have i2 : part n K x y z = true → part n K a b z = true := fun q => m1 _ t2 pa pb z hz q
  cases q : part n K x y z with
  | true => exact i2 q
  | false =>
    cases r : part n K a b z with
    | false => rfl
    | true => rw [i1 r] at q; cases q
end
theorem least_ex {p : Nat → Prop} : ∀ x, p x → ∃ m, p m ∧ ∀ y, y < m → ¬ p y := fun x => by
  induction x using Nat.strongRecOn with
  | ind x ih =>
    intro h
    by_cases q : ∃ y, y < x ∧ p y
    · obtain ⟨y, hy, py⟩ := q
      exact ih y hy py
    · exact ⟨x, h, fun y hy py => q ⟨y, hy, py⟩⟩
theorem least_two {n : Nat} {S : JS} (h : 2 ≤ card n S) : ∃ a b, a < b ∧ b < n ∧ S a = true ∧ S b = true ∧ ∀ c, c < n → S c = true → c = a ∨ b ≤ c := by
  obtain ⟨x, y, lxy, hy, sx, sy⟩ := exists_two h
  obtain ⟨a, pa, la⟩ := least_ex (p := fun c => S c = true) x sx
  have hax : a ≤ x := by
    by_cases q : a ≤ x
    · exact q
    · exact (la x (by omega) sx).elim
  obtain ⟨b, ⟨pb, hb⟩, lb⟩ := least_ex (p := fun c => S c = true ∧ a < c) y ⟨sy, by omega⟩
  have hby : b ≤ y := by
    by_cases q : b ≤ y
    · exact q
    · exact (lb y (by omega) ⟨sy, by omega⟩).elim
  refine ⟨a, b, hb, by omega, pa, pb, fun c hc sc => ?_⟩
  by_cases q : c = a
  · exact .inl q
  · right
    have : a < c := by
      by_cases r : c < a
      · exact (la c r sc).elim
      · omega
    by_cases r : b ≤ c
    · exact r
    · exact (lb c (by omega) ⟨sc, this⟩).elim
/-- the two least joints of a part -/
def Ld (n : Nat) (K : List Bar) (a b : Nat) : Prop := a < b ∧ b < n ∧ Spn n K a b ∧ ∀ c, c < n → part n K a b c = true → c = a ∨ b ≤ c
section
variable {n : Nat} {K : List Bar}
theorem lead_ex (ok : Ok n K) (sl : Slim n K) {x y : Nat} (hx : x < n) (hy : y < n) (ne : x ≠ y) (h : Spn n K x y) : ∃ a b, Ld n K a b ∧ part n K a b x = true ∧ part n K a b y = true := by
  obtain ⟨t, _⟩ := part_all ok sl hx hy ne h
  obtain ⟨a, b, lab, hb, pa, pb, hl⟩ := least_two t.1
  obtain ⟨hab, e⟩ := part_same ok sl hx hy ne h (by omega) hb (by omega) pa pb
  refine ⟨a, b, ⟨lab, hb, hab, fun c hc q => hl c hc (by rw [e c hc]; exact q)⟩, ?_, ?_⟩
  · rw [← e x hx]; exact part_left
  · rw [← e y hy]; exact part_right
theorem lead_uniq (ok : Ok n K) (sl : Slim n K) {a b a' b' x y : Nat} (h : Ld n K a b) (h' : Ld n K a' b') (hx : x < n) (hy : y < n) (ne : x ≠ y) (p1 : part n K a b x = true) (p2 : part n K a b y = true)
    (q1 : part n K a' b' x = true) (q2 : part n K a' b' y = true) : a = a' ∧ b = b' := by
  obtain ⟨l1, hb, s1, m1⟩ := h
  obtain ⟨l2, hb', s2, m2⟩ := h'
  obtain ⟨_, e1⟩ := part_same ok sl (show a < n by omega) hb (by omega) s1 hx hy ne p1 p2
  obtain ⟨_, e2⟩ := part_same ok sl (show a' < n by omega) hb' (by omega) s2 hx hy ne q1 q2
  have e : ∀ z, z < n → part n K a b z = part n K a' b' z := fun z hz => by rw [e1 z hz, e2 z hz]
  have z1 := m1 a' (by omega) (by rw [e a' (by omega)]; exact part_left)
  have z2 := m1 b' hb' (by rw [e b' hb']; exact part_right)
  have z3 := m2 a (by omega) (by rw [← e a (by omega)]; exact part_left)
  have z4 := m2 b hb (by rw [← e b hb]; exact part_right)
  omega
open Classical in
/-- the two least joints of each part, rising -/
noncomputable def ldrs (n : Nat) (K : List Bar) : List Bar := (List.range n).flatMap fun a => ((List.range n).filter fun b => decide (Ld n K a b)).map fun b => (a, b)
open Classical in
theorem ldrs_mem {p : Bar} : p ∈ ldrs n K ↔ Ld n K p.1 p.2 := by
  unfold ldrs
  rw [List.mem_flatMap]
  constructor
  · rintro ⟨a, _, h⟩
    obtain ⟨b, hb, rfl⟩ := List.mem_map.mp h
    exact of_decide_eq_true (List.mem_filter.mp hb).2
  · intro h
    obtain ⟨h1, h2, _⟩ := id h
    exact ⟨p.1, List.mem_range.mpr (by omega), List.mem_map.mpr ⟨p.2, List.mem_filter.mpr ⟨List.mem_range.mpr h2, decide_eq_true h⟩, rfl⟩⟩
def Lex (x y : Bar) : Prop := x.1 < y.1 ∨ (x.1 = y.1 ∧ x.2 < y.2)
theorem ldrs_lex : (ldrs n K).Pairwise Lex := by
  unfold ldrs
  rw [List.pairwise_flatMap]
  refine ⟨fun a _ => ?_, List.pairwise_lt_range.imp fun {a b} h x hx y hy => ?_⟩
  · rw [List.pairwise_map]
    exact (List.pairwise_lt_range.filter _).imp fun h => .inr ⟨rfl, h⟩
  · obtain ⟨u, _, rfl⟩ := List.mem_map.mp hx
    obtain ⟨v, _, rfl⟩ := List.mem_map.mp hy
    exact .inl h
theorem ldrs_nodup : (ldrs n K).Nodup := ldrs_lex.imp fun {x y} h e => by
  subst e
  rcases h with h | h <;> omega
end
theorem count_one {α : Type} {p : α → Bool} : ∀ {l : List α} {x : α}, l.Nodup → x ∈ l → p x = true → (∀ y ∈ l, p y = true → y = x) → l.countP p = 1
  | y :: l, x, nd, hx, px, h => by
    obtain ⟨n1, n2⟩ := List.nodup_cons.mp nd
    rcases List.mem_cons.mp hx with rfl | hx
    · rw [List.countP_cons, if_pos px]
      have : l.countP p = 0 := List.countP_eq_zero.mpr fun y hy e => by
        have := h y (List.mem_cons_of_mem _ hy) e
        subst this
        exact n1 hy
      omega
    · have hy : ¬ p y = true := fun e => by
        have := h y List.mem_cons_self e
        subst this
        exact n1 hx
      rw [List.countP_cons, if_neg hy, count_one n2 hx px fun z hz => h z (List.mem_cons_of_mem _ hz)]
theorem sum_add {α : Type} (f g : α → Nat) : ∀ l : List α, (l.map fun x => f x + g x).sum = (l.map f).sum + (l.map g).sum
  | [] => rfl
  | x :: l => by
    simp only [List.map_cons, List.sum_cons]
    rw [sum_add f g l]
    omega
theorem sum_one {α : Type} {f : α → Nat} : ∀ {l : List α}, (∀ x ∈ l, f x = 1) → (l.map f).sum = l.length
  | [], _ => rfl
  | x :: l, h => by
    simp only [List.map_cons, List.sum_cons, List.length_cons]
    rw [sum_one fun y hy => h y (List.mem_cons_of_mem _ hy), h x List.mem_cons_self]
    omega
theorem sum_le {α : Type} {f g : α → Nat} : ∀ {l : List α}, (∀ x ∈ l, f x ≤ g x) → (l.map f).sum ≤ (l.map g).sum
  | [], _ => Nat.le_refl _
  | x :: l, h => by
    simp only [List.map_cons, List.sum_cons]
    have := sum_le fun y hy => h y (List.mem_cons_of_mem _ hy)
    have := h x List.mem_cons_self
    omega
theorem sum_count {β : Type} (q : β → Bool) : ∀ J : List β, (J.map fun x => (q x).toNat).sum = J.countP q
  | [] => rfl
  | x :: J => by
    simp only [List.map_cons, List.sum_cons, List.countP_cons]
    rw [sum_count q J]
    cases q x <;> simp <;> omega
theorem sum_swap {α β : Type} (q : α → β → Bool) (J : List β) : ∀ l : List α, (l.map fun p => J.countP (q p)).sum = (J.map fun x => l.countP fun p => q p x).sum
  | [] => by
    have : (J.map fun x => ([] : List α).countP fun p => q p x).sum = 0 := by
      induction J with
      | nil => rfl
      | cons y J ih => simp only [List.map_cons, List.sum_cons, ih]; rfl
    rw [this]
    rfl
  | p :: l => by
    simp only [List.map_cons, List.sum_cons]
    rw [sum_swap q J l, ← sum_count (q p) J, ← sum_add]
    congr 1
    refine List.map_congr_left fun x _ => ?_
    rw [List.countP_cons]
    cases q p x <;> simp <;> omega
section
variable {n : Nat} {K J : List Bar}
theorem ins_ldrs (ok : Ok n K) (sl : Slim n K) (okJ : Ok n J) (h : ∀ x ∈ J, Spn n K x.1 x.2) : ((ldrs n K).map fun p => ins J (part n K p.1 p.2)).sum = J.length := by
  have e := sum_swap (fun (p : Bar) (x : Bar) => part n K p.1 p.2 x.1 && part n K p.1 p.2 x.2) J (ldrs n K)
  refine Eq.trans e (sum_one fun x hx => ?_)
  obtain ⟨o1, o2, o3⟩ := okJ x hx
  obtain ⟨a, b, hl, p1, p2⟩ := lead_ex ok sl o1 o2 o3 (h x hx)
  refine count_one (x := (a, b)) ldrs_nodup (ldrs_mem.mpr hl) (by rw [p1, p2]; rfl) fun y hy e => ?_
  rw [Bool.and_eq_true] at e
  obtain ⟨z1, z2⟩ := lead_uniq ok sl (ldrs_mem.mp hy) hl o1 o2 o3 e.1 e.2 p1 p2
  exact Prod.ext z1 z2
/-- twice the joints less three, added up over the parts -/
theorem parts_sum (ok : Ok n K) (sl : Slim n K) : ((ldrs n K).map fun p => 2 * card n (part n K p.1 p.2) - 3).sum = K.length := by
  rw [← ins_ldrs ok sl ok fun x hx => bar_spn ok sl hx]
  congr 1
  refine List.map_congr_left fun p hp => ?_
  obtain ⟨h1, h2, h3, _⟩ := ldrs_mem.mp hp
  obtain ⟨⟨t1, t2⟩, _⟩ := part_all ok sl (show p.1 < n by omega) h2 (by omega) h3
  omega
/-- no lean ones that are held are more -/
theorem span_le (ok : Ok n K) (sl : Slim n K) (okJ : Ok n J) (slJ : Slim n J) (h : ∀ x ∈ J, Spn n K x.1 x.2) : J.length ≤ K.length := by
  rw [← ins_ldrs ok sl okJ h, ← ins_ldrs ok sl ok fun x hx => bar_spn ok sl hx]
  refine sum_le fun p hp => ?_
  obtain ⟨h1, h2, h3, _⟩ := ldrs_mem.mp hp
  obtain ⟨⟨t1, t2⟩, _⟩ := part_all ok sl (show p.1 < n by omega) h2 (by omega) h3
  have := slJ _ t1
  omega
end
/-! ### the worth -/
noncomputable def rk (n : Nat) (nb : List Bar) : Nat := (pickB n [] nb).length
/-- two joints hold each other -/
def Hld (n : Nat) (nb : List Bar) (a b : Nat) : Prop := Spn n (pickB n [] nb) a b
section
variable {n : Nat} {nb as bs : List Bar}
theorem basis_slim (n : Nat) (nb : List Bar) : Slim n (pickB n [] nb) := by
  have := pickB_slim nb [] (Pl.slim_nil n)
  simpa using this
theorem basis_ok (ok : Ok n nb) : Ok n (pickB n [] nb) := ok.sub (pickB_sub nb [])
theorem pick_spn : ∀ (r kb : List Bar), Ok n r → Ok n kb → Slim n kb → ∀ x ∈ r, Spn n (kb ++ pickB n kb r) x.1 x.2
  | b :: r, kb, ok, okk, sl, x, hx => by
    have o := ok b List.mem_cons_self
    have okr : Ok n r := fun c hc => ok c (List.mem_cons_of_mem _ hc)
    by_cases h : Slim n (kb ++ [b])
    · have okb : Ok n (kb ++ [b]) := okk.app fun c hc => by rw [List.mem_singleton.mp hc]; exact o
      rw [pickB_yes h]
      have e : kb ++ b :: pickB n (kb ++ [b]) r = (kb ++ [b]) ++ pickB n (kb ++ [b]) r := by simp
      rw [e]
      have s2 := pickB_slim r _ h
      rcases List.mem_cons.mp hx with rfl | hx
      · exact (bar_spn okb h (List.mem_append_right _ (List.mem_singleton.mpr rfl))).mono (List.sublist_append_left _ _) s2
      · exact pick_spn r _ okr okb h x hx
    · rw [pickB_no h]
      rcases List.mem_cons.mp hx with rfl | hx
      · have : Spn n kb x.1 x.2 := by
          by_cases q : Spn n kb x.1 x.2
          · exact q
          · exact (h ((slim_snoc sl o.1 o.2.1 o.2.2).mpr q)).elim
        exact this.mono (List.sublist_append_left _ _) (pickB_slim r kb sl)
      · exact pick_spn r kb okr okk sl x hx
theorem hld_bar (ok : Ok n nb) {x : Bar} (hx : x ∈ nb) : Hld n nb x.1 x.2 := by
  have := pick_spn nb [] ok (fun _ h => nomatch h) (Pl.slim_nil n) x hx
  rwa [List.nil_append] at this
theorem rk_max {J : List Bar} (ok : Ok n nb) (okJ : Ok n J) (slJ : Slim n J) (h : ∀ x ∈ J, Hld n nb x.1 x.2) : J.length ≤ rk n nb :=
  span_le (basis_ok ok) (basis_slim n nb) okJ slJ h
theorem rk_sub (oka : Ok n as) (okb : Ok n bs) (h : ∀ x ∈ as, Hld n bs x.1 x.2) : rk n as ≤ rk n bs :=
  rk_max okb (basis_ok oka) (basis_slim n as) fun x hx => h x ((pickB_sub as []).subset hx)
theorem rk_snoc {x : Bar} (o : x.1 < n ∧ x.2 < n ∧ x.1 ≠ x.2) : (Hld n nb x.1 x.2 → rk n (nb ++ [x]) = rk n nb) ∧ (¬ Hld n nb x.1 x.2 → rk n (nb ++ [x]) = rk n nb + 1) := by
  have e : pickB n [] (nb ++ [x]) = pickB n [] nb ++ pickB n (pickB n [] nb) [x] := by rw [pickB_app, List.nil_append]
  have s := slim_snoc (b := x) (basis_slim n nb) o.1 o.2.1 o.2.2
  constructor
  · intro h
    unfold rk
    rw [e, pickB_no (fun z => s.mp z h), pickB, List.append_nil]
  · intro h
    unfold rk
    rw [e, pickB_yes (s.mpr h), pickB, List.length_append]
    rfl
theorem hld_rk {x : Bar} (o : x.1 < n ∧ x.2 < n ∧ x.1 ≠ x.2) : Hld n nb x.1 x.2 ↔ rk n (nb ++ [x]) = rk n nb := by
  obtain ⟨h1, h2⟩ := rk_snoc (nb := nb) o
  by_cases h : Hld n nb x.1 x.2
  · exact ⟨h1, fun _ => h⟩
  · have := h2 h
    exact ⟨fun z => (h z).elim, fun z => by omega⟩
theorem ok_snoc {x : Bar} (ok : Ok n nb) (o : x.1 < n ∧ x.2 < n ∧ x.1 ≠ x.2) : Ok n (nb ++ [x]) := ok.app fun c hc => by rw [List.mem_singleton.mp hc]; exact o
/-- what is held by the one is held by the other -/
theorem hld_le (oka : Ok n as) (okb : Ok n bs) (h : ∀ x ∈ as, Hld n bs x.1 x.2) {a b : Nat} (ha : a < n) (hb : b < n) (ne : a ≠ b) (q : Hld n as a b) : Hld n bs a b := by
  have o : (a, b).1 < n ∧ (a, b).2 < n ∧ (a, b).1 ≠ (a, b).2 := ⟨ha, hb, ne⟩
  by_cases z : Hld n bs a b
  · exact z
  -- else a basis of the one, with this bar, and all of the other's
  have okab := ok_snoc okb o
  have hab : ∀ x, x ∈ bs ++ [(a, b)] → Hld n (bs ++ [(a, b)]) x.1 x.2 := fun x hx => hld_bar okab hx
  -- all of as ++ bs ++ [(a,b)] is held by bs ++ [(a,b)]; and by bs alone
  have oka2 : Ok n (bs ++ as) := okb.app oka
  have k1 : pickB n [] (bs ++ as) = pickB n [] bs := by
    have go : ∀ r : List Bar, Ok n r → (∀ x ∈ r, Hld n bs x.1 x.2) → pickB n (pickB n [] bs) r = [] := fun r => by
      induction r with
      | nil => intro _ _; rw [pickB]
      | cons y r ih =>
        intro okr hr
        have oy := okr y List.mem_cons_self
        rw [pickB_no fun s => (slim_snoc (basis_slim n bs) oy.1 oy.2.1 oy.2.2).mp s (hr y List.mem_cons_self)]
        exact ih (fun c hc => okr c (List.mem_cons_of_mem _ hc)) fun c hc => hr c (List.mem_cons_of_mem _ hc)
    rw [pickB_app, List.nil_append, go as oka h, List.append_nil]
  have e2 : Hld n (bs ++ as) a b ↔ Hld n bs a b := by unfold Hld; rw [k1]
  -- the rank of as, bs and the bar: no more than of as and bs
  have r1 := (rk_snoc (nb := bs ++ as) o).2 fun y => z (e2.mp y)
  have okas : Ok n (as ++ bs) := oka.app okb
  have r2 : rk n ((bs ++ as) ++ [(a, b)]) ≤ rk n (as ++ bs) := rk_sub (ok_snoc oka2 o) okas fun x hx => by
    rcases List.mem_append.mp hx with hx | hx
    · exact hld_bar okas (List.mem_append.mpr (List.mem_append.mp hx).symm)
    · rw [List.mem_singleton.mp hx]
      have : pickB n [] (as ++ bs) = pickB n [] as ++ pickB n (pickB n [] as) bs := by rw [pickB_app, List.nil_append]
      show Spn n _ a b
      rw [this]
      have s := pickB_slim bs _ (basis_slim n as)
      exact q.mono (List.sublist_append_left _ _) s
  have r3 : rk n (as ++ bs) ≤ rk n (bs ++ as) := rk_sub okas oka2 fun x hx => hld_bar oka2 (List.mem_append.mpr (List.mem_append.mp hx).symm)
  omega
theorem hld_symm {a b : Nat} (h : Hld n nb a b) : Hld n nb b a := Spn.symm h
/-- the same bars, in any order, turned or not -/
def Sub (as bs : List Bar) : Prop := ∀ x ∈ as, x ∈ bs ∨ (x.2, x.1) ∈ bs
theorem sub_hld (okb : Ok n bs) (h : Sub as bs) : ∀ x ∈ as, Hld n bs x.1 x.2 := fun x hx => (h x hx).elim (hld_bar okb) fun q => hld_symm (hld_bar okb q)
theorem rk_same (oka : Ok n as) (okb : Ok n bs) (h1 : Sub as bs) (h2 : Sub bs as) : rk n as = rk n bs := Nat.le_antisymm (rk_sub oka okb (sub_hld okb h1)) (rk_sub okb oka (sub_hld oka h2))
theorem hld_same (oka : Ok n as) (okb : Ok n bs) (h1 : Sub as bs) (h2 : Sub bs as) {a b : Nat} (ha : a < n) (hb : b < n) (ne : a ≠ b) : Hld n as a b ↔ Hld n bs a b :=
  ⟨hld_le oka okb (sub_hld okb h1) ha hb ne, hld_le okb oka (sub_hld oka h2) ha hb ne⟩
/-- the frame without the bar at i -/
theorem rk_less {i : Nat} (ok : Ok n nb) (hi : i < nb.length) : (Hld n (nb.eraseIdx i) nb[i].1 nb[i].2 → rk n (nb.eraseIdx i) = rk n nb ∧ ∀ a b, a < n → b < n → a ≠ b → (Hld n (nb.eraseIdx i) a b ↔ Hld n nb a b)) ∧
    (¬ Hld n (nb.eraseIdx i) nb[i].1 nb[i].2 → rk n (nb.eraseIdx i) + 1 = rk n nb) := by
  have okl : Ok n (nb.eraseIdx i) := ok.sub (List.eraseIdx_sublist _ _)
  have o := ok nb[i] (List.getElem_mem hi)
  have all : ∀ x ∈ nb, x ∈ nb.eraseIdx i ∨ x = nb[i] := fun x hx => by
    obtain ⟨j, hj, e⟩ := List.mem_iff_getElem.mp hx
    by_cases q : j = i
    · subst q; exact .inr e.symm
    · exact .inl (List.mem_eraseIdx_iff_getElem.mpr ⟨j, hj, q, e⟩)
  have s1 : Sub nb (nb.eraseIdx i ++ [nb[i]]) := fun x hx => .inl ((all x hx).elim (List.mem_append_left _) fun e => List.mem_append_right _ (by rw [e]; exact List.mem_singleton.mpr rfl))
  have s2 : Sub (nb.eraseIdx i ++ [nb[i]]) nb := fun x hx => .inl ((List.mem_append.mp hx).elim (fun h => (List.eraseIdx_sublist _ _).subset h) fun h => by rw [List.mem_singleton.mp h]; exact List.getElem_mem hi)
  have e := rk_same ok (ok_snoc okl o) s1 s2
  obtain ⟨h1, h2⟩ := rk_snoc (nb := nb.eraseIdx i) o
  refine ⟨fun h => ⟨by rw [e, h1 h], fun a b ha hb ne => ⟨fun q => hld_le okl ok (fun x hx => hld_bar ok ((List.eraseIdx_sublist _ _).subset hx)) ha hb ne q, fun q => hld_le ok okl (fun x hx => ?_) ha hb ne q⟩⟩, fun h => by rw [e, h2 h]⟩
  rcases all x hx with hx | rfl
  · exact hld_bar okl hx
  · exact h
end
end Fr

/-! What stands between two joints is told by what is carried, and the joints told are the fewest. -/
namespace Fr
def lens (cs : Cs) (S : JS) : Nat → Nat
  | 0 => 0
  | k + 1 => lens cs S k + if S k = true then (at_ cs k).length else 0
theorem outs_lens (cs : Cs) (S : JS) : ∀ k, outs cs S k ≤ lens cs S k
  | 0 => Nat.le_refl _
  | k + 1 => by
    have := outs_lens cs S k
    have h := List.countP_le_length (p := S) (l := at_ cs k)
    unfold outs lens
    split <;> omega
theorem outs_eq {cs : Cs} {S : JS} : ∀ {k : Nat}, outs cs S k = lens cs S k → ∀ v, v < k → S v = true → (at_ cs v).countP S = (at_ cs v).length
  | 0, _, v, hv, _ => absurd hv (Nat.not_lt_zero _)
  | k + 1, h, v, hv, sv => by
    have a := outs_lens cs S k
    have b := List.countP_le_length (p := S) (l := at_ cs k)
    unfold outs lens at h
    by_cases e : v = k
    · subst e
      rw [if_pos sv, if_pos sv] at h
      omega
    · refine outs_eq (k := k) ?_ v (by omega) sv
      split at h <;> omega
theorem card_succ (k : Nat) (S : JS) : card (k + 1) S = card k S + if S k = true then 1 else 0 := by
  unfold card
  rw [List.range_succ, List.countP_append, List.countP_cons, List.countP_nil]
  simp
theorem lens_low {cs : Cs} {S : JS} {one other : Nat} (two : ∀ v, (at_ cs v).length ≤ 2) (ne : one ≠ other) (s1 : S one = true) (s2 : S other = true) (e1 : at_ cs one = []) (e2 : (at_ cs other).length ≤ 1) :
    ∀ k, lens cs S k + (if one < k then 2 else 0) + (if other < k then 1 else 0) ≤ 2 * card k S
  | 0 => by simp [lens]
  | k + 1 => by
    have ih := lens_low two ne s1 s2 e1 e2 k
    have t := two k
    rw [card_succ]
    unfold lens
    by_cases a : k = one
    · subst a
      rw [if_pos s1, if_pos s1, if_pos (Nat.lt_succ_self k), e1]
      rw [if_neg (Nat.lt_irrefl k)] at ih
      by_cases q : other < k
      · rw [if_pos (by omega)]
        rw [if_pos q] at ih
        simp
        omega
      · rw [if_neg (by omega)]
        rw [if_neg q] at ih
        simp
        omega
    · by_cases b : k = other
      · subst b
        rw [if_pos s2, if_pos s2, if_pos (show k < k + 1 by omega)]
        rw [if_neg (Nat.lt_irrefl k)] at ih
        by_cases q : one < k
        · rw [if_pos (by omega)]
          rw [if_pos q] at ih
          omega
        · rw [if_neg (by omega)]
          rw [if_neg q] at ih
          omega
      · have p1 : (if one < k + 1 then 2 else 0) = (if one < k then 2 else 0) := by
          by_cases q : one < k
          · rw [if_pos q, if_pos (by omega)]
          · rw [if_neg q, if_neg (by omega)]
        have p2 : (if other < k + 1 then 1 else 0) = (if other < k then 1 else 0) := by
          by_cases q : other < k
          · rw [if_pos q, if_pos (by omega)]
          · rw [if_neg q, if_neg (by omega)]
        rw [p1, p2]
        split <;> omega
theorem closed_reached {n : Nat} {cs : Cs} {start : Nat} {ah : Ah} {S : JS} (sn : Seen n cs start ah []) (s0 : S start = true) (cl : ∀ v, v < n → S v = true → ∀ w ∈ at_ cs v, S w = true) : ∀ (m i f p : Nat), i ≤ m → ah[i]? = some (f, p) → S f = true
  | m, 0, f, p, _, h => by
    obtain ⟨r, hr⟩ := sn.head
    rw [hr] at h
    simp at h
    rw [← h.1]
    exact s0
  | 0, i + 1, _, _, hi, _ => by omega
  | m + 1, i + 1, f, p, hi, h => by
    obtain ⟨hf, i', q, hi', hq⟩ := sn.par (i + 1) f p h (by omega)
    have hp := closed_reached sn s0 cl m i' p q (by omega) hq
    exact cl p (sn.low p (List.mem_map.mpr ⟨(p, q), List.mem_of_getElem? hq, rfl⟩)) hp f hf
theorem btw_lay (cs : Cs) (one other : Nat) : (btw cs one other).2 = none ↔ (lay cs one other).2 = none := by
  cases h : (btw cs one other).2 with
  | none => rw [lay_none h]
  | some ks => rw [lay_some h]
/-- the joints told are the fewest without room -/
theorem btw_min {n : Nat} {cs : Cs} {bs : List Bar} {one other : Nat} {ks : List Nat} (ft : Fits n cs bs) (sl : Slim n bs) (h1 : one < n) (h2 : other < n) (ne : one ≠ other) (h : (btw cs one other).2 = some ks) :
    ks.Nodup ∧ (∀ k ∈ ks, k < n) ∧ one ∈ ks ∧ other ∈ ks ∧ Tight n bs (inL ks) ∧ ∀ S, Tight n bs S → S one = true → S other = true → ∀ k ∈ ks, S k = true := by
  obtain ⟨_, nd, low, m1, m2, tk⟩ := lay_no ft sl h1 h2 ne (show lay cs one other = ((btw cs one other).1, some ks) from lay_some h)
  refine ⟨nd, low, m1, m2, tk, fun S tS s1 s2 => ?_⟩
  obtain ⟨a, _, c, _⟩ := unload_spec (spared := one) h1 3 cs ft (by have := ft.two one; omega)
  have c := c (unload_all ft sl h1)
  obtain ⟨a2, b2, c2, d2⟩ := unload_spec (spared := one) h2 3 (unload one one 3 cs).1 a (by have := a.two other; omega)
  unfold btw at h
  dsimp only at h
  by_cases hy : (unload other one 3 (unload one one 3 cs).1).2 = true
  · rw [if_pos hy] at h
    cases h
  · rw [if_neg hy] at h
    have ek := Option.some.inj h
    have hf : (unload other one 3 (unload one one 3 cs).1).2 = false := by simpa using hy
    obtain ⟨g1, g2⟩ := d2 hf
    have e1 : at_ (unload other one 3 (unload one one 3 cs).1).1 one = [] := by
      have := b2 one ne rfl
      rw [c] at this
      exact List.eq_nil_of_length_eq_zero this
    generalize (unload other one 3 (unload one one 3 cs).1).1 = c3 at *
    subst ek
    obtain ⟨sn, sh⟩ := reached_seen a2.len a2.low h2
    have q := ins_reached a2 h2 g2
    have t := reach_two a2 h2 g1
    have s := sl _ t
    rw [if_pos ⟨h1, m1, ne⟩, e1] at q
    have z0 : ([] : List Nat).length = 0 := rfl
    have e2 : (at_ c3 other).length ≤ 1 := by
      have := a2.two other
      omega
    have ll := lens_low a2.two ne s1 s2 e1 e2 n
    rw [if_pos h1, if_pos h2] at ll
    have lo := outs_lens c3 S n
    obtain ⟨t1, t2⟩ := tS
    rw [a2.out] at t2
    have eq : outs c3 S n = lens c3 S n := by omega
    have cl : ∀ v, v < n → S v = true → ∀ w ∈ at_ c3 v, S w = true := fun v hv sv w hw => by
      have := outs_eq eq v hv sv
      exact List.countP_eq_length.mp this w hw
    intro k hk
    obtain ⟨i, p, hi⟩ : ∃ i p, (reached c3 other)[i]? = some (k, p) := by
      obtain ⟨⟨x, p⟩, hm, e⟩ := List.mem_map.mp hk
      obtain ⟨i, hi⟩ := List.getElem?_of_mem hm
      exact ⟨i, p, by rw [hi]; exact congrArg some (Prod.ext e rfl)⟩
    exact closed_reached sn s2 cl i i k p (Nat.le_refl _) hi
/-- told by what is carried: do the two hold each other -/
theorem btw_spn {n : Nat} {cs : Cs} {bs : List Bar} {one other : Nat} (ft : Fits n cs bs) (ok : Ok n bs) (sl : Slim n bs) (h1 : one < n) (h2 : other < n) (ne : one ≠ other) : (btw cs one other).2 = none ↔ ¬ Spn n bs one other := by
  rw [btw_lay, ← slim_snoc (b := (one, other)) sl h1 h2 ne]
  exact lay_slim (b := (one, other)) ft ok sl ⟨h1, h2, ne⟩
end Fr

/-! New trees by plain expressions; trees that become data; calls that are handed new trees. -/
namespace Pl
open PySem PySem.Spec PyProof.Rows L2
open Evl (Ex)
/-- a new tree -/
def EvM (K : PySem.W.Frag) (te : TE) (ρ : Rho) (m : M) : Prop := ∀ S H σ, Ex S H → Env K S σ ρ → ∀ Q : VK, (∀ p f S' H', Ext S H S' H' → Own K S' H' (.ref p) m f → f.Nodup → (∀ a ∈ f, H a = none ∧ S' a = none) → Q (.ref p) H') → te σ H Q
section
variable {K : PySem.W.Frag} {S0 H0 S H S' H' : Hp} {σ : L2.St} {ρ ρ' ρ1 ρv : Rho} {g g' g1 g2 gl gr : Gs} {F G : FM} {t u : TS} {te ti td tx tk tv ty : TE} {tA : TA} {c : TT} {d : D} {es ds : List D} {ms : List M} {m m1 m2 : M} {a : Addr} {π : List Nat} {Dd : Ends} {i j : Nat} {b : Bool} {r : Rs} {E : XK} {s : Shp}
theorem EvX.ofM (h : EvM K te ρ m) : EvX K te ρ g (.t m) g := fun S0 H0 S H σ st Q q =>
  h S H σ st.sub st.env Q fun p f S' H' x o nd no => q _ S' H' x.s ⟨p, rfl, st.add x o nd no⟩
theorem EvX.lookM (hv : View g ρ ρv) (h : EvM K te ρv m) (hf : m.flat = true) : EvX K te ρ g (.t m) g := fun S0 H0 S H σ st Q q => by
  obtain ⟨fp, rg, s0⟩ := id st
  obtain ⟨P, e1, e2, v, _⟩ := SG.look rg s0 hv
  refine h _ H σ e2 v _ fun p f S' H' x o nd no => ?_
  have xx : Ext S H (woH S H S') H' := ext_woH (e1.trans x.s) x.h x.sub
  exact q _ _ H' xx.s ⟨p, rfl, st.add xx (o.flat hf) nd fun a ha => ⟨(no a ha).1, woH_none (no a ha).2⟩⟩
open Classical in
/-- a tree that is told becomes data -/
theorem SG.tellT {p : Addr} (st : SG K S0 H0 ρ (g ++ [(p, m)]) S H σ) : ∃ S2, Ex S S2 ∧ SG K S0 H0 ρ g S2 H σ ∧ Rd K S2 (.ref p) m.see := by
  obtain ⟨fp, rg, s0⟩ := st
  have o := rg.own
  rw [gv_app, gm_app] at o
  obtain ⟨f1, f2, e, o1, o2⟩ := o.split gv_len
  have o2 : OwnL K S H [.ref p] [m] f2 := o2
  have n := SG.noS s0 rg
  have nd := rg.nd
  rw [e] at nd
  obtain ⟨nd1, nd2, nd3⟩ := List.nodup_append.mp nd
  have sub1 : ∀ a ∈ f1, a ∈ fp := fun a ha => e ▸ List.mem_append_left _ ha
  have sub2 : ∀ a ∈ f2, a ∈ fp := fun a ha => e ▸ List.mem_append_right _ ha
  have e1 : Ex S (withP (fun a => a ∈ f2) S H) := fun a o h => by
    unfold withP
    rw [if_neg fun z => by rw [n a (sub2 a z)] at h; cases h]
    exact h
  have e2 : Ex (withP (fun a => a ∈ f2) S H) H := fun a o h => by
    unfold withP at h
    split at h
    · exact h
    · exact s0.ext.sub a o h
  have in2 : ∀ a ∈ f2, withP (fun a => a ∈ f2) S H a = H a := fun a h => if_pos h
  refine ⟨_, e1, ⟨f1, ⟨o1.mono e1 fun a _ => rfl, nd1, fun a ha => rg.no a (sub1 a ha)⟩, s0.mv rg.no rg.own.lays e1 e2 (fun a _ _ => rfl) (fun a hn hs _ => ?_) fun a ha => ⟨.inl (sub1 a ha), ?_⟩⟩, ?_⟩
  · unfold withP
    rw [if_neg fun z => hn (sub2 a z)]
    exact hs
  · unfold withP
    rw [if_neg fun z => nd3 a ha a z rfl]
    exact n a (sub1 a ha)
  · cases o2 with
    | cons h r =>
      cases r
      exact h.see e1 fun b hb => in2 b (List.mem_append_left _ hb)
theorem EvX.tellT (h : EvX K te ρ g (.t m) g') : EvX K te ρ g (.d m.see) g' := fun S0 H0 S H σ st Q q => h S0 H0 S H σ st Q fun v S' H' e z => by
  obtain ⟨p, ev, z⟩ := z
  subst ev
  obtain ⟨S2, e2, st2, r2⟩ := z.tellT
  exact q _ S2 H' (e.trans e2) ⟨st2, r2⟩
/-- arguments, some of them new trees -/
def EvXA (K : PySem.W.Frag) (tA : TA) (ρ : Rho) (g : Gs) (P : List D → Gs → Prop) : Prop := ∀ S0 H0 S H σ, SG K S0 H0 ρ g S H σ → ∀ Q : List V → Hp → Prop, (∀ vs ds g' S' H', Ex S S' → P ds g' → SG K S0 H0 ρ g' S' H' σ → RdL K S' vs ds → Q vs H') → tA σ H Q
theorem xa_of (h : EvA K tA ρ ds) : EvXA K tA ρ g fun es x => es = ds ∧ x = g := fun S0 H0 S H σ st Q q => h S H σ st.sub st.env Q fun vs S' H' x r => q vs ds g S' H' x.s ⟨rfl, rfl⟩ (st.go x) r
theorem xa_d {P : List D → Gs → Prop} (h : EvD K te ρ d) (hr : EvXA K tA ρ g P) : EvXA K (tCons te tA) ρ g fun es x => ∃ l, es = d :: l ∧ P l x := fun S0 H0 S H σ st Q q =>
  h S H σ st.sub st.env _ fun v S1 H1 x1 r1 => hr S0 H0 S1 H1 σ (st.go x1) _ fun vs ds g' S' H' e p s2 r2 => q _ _ _ S' H' (x1.s.trans e) ⟨ds, rfl, p⟩ s2 (.cons (r1.mono e) r2)
theorem xa_t {P : Addr → List D → Gs → Prop} (h : EvX K te ρ g (.t m) g') (hr : ∀ p, EvXA K tA ρ (g' ++ [(p, m)]) (P p)) : EvXA K (tCons te tA) ρ g fun es x => ∃ p l, es = .adr p :: l ∧ P p l x := fun S0 H0 S H σ st Q q =>
  h S0 H0 S H σ st _ fun v S1 H1 e1 z => by
    obtain ⟨p, ev, s1⟩ := z
    subst ev
    exact hr p S0 H0 S1 H1 σ s1 _ fun vs ds g2 S' H' e pp s2 r2 => q _ _ _ S' H' (e1.trans e) ⟨p, ds, rfl, pp⟩ s2 (.cons (.adr p) r2)
theorem Res.forget {x e : Gs} {v : V} (hp : List.Perm x (g' ++ e)) (z : Res K S0 H0 ρ x S H σ v r) : Res K S0 H0 ρ g' S H σ v r := by
  cases r with
  | d d => exact ⟨(z.1.perm hp).forget, z.2⟩
  | o es => exact SG.forget (SG.perm hp z)
  | t m =>
    obtain ⟨p, ev, s⟩ := z
    have hp2 : List.Perm (x ++ [(p, m)]) ((g' ++ [(p, m)]) ++ e) := by
      refine (hp.append_right _).trans ?_
      rw [List.append_assoc, List.append_assoc]
      exact (List.perm_append_comm).append_left _
    exact ⟨p, ev, (s.perm hp2).forget⟩
/-- a call with such arguments; what it leaves of new trees is forgotten -/
theorem ex_callA {Rel : List D → Gs → Rs → Gs → Prop} {P : List D → Gs → Prop} (ha : EvXA K tA ρ g P) (hr : ∀ ds x, P ds x → ∃ g1 g2 gq e, List.Perm x (g1 ++ g2) ∧ Rel ds g1 r gq ∧ List.Perm (g2 ++ gq) (g' ++ e)) : EvX K (tCall (spG K Rel) [] E tA) ρ g r g' := fun S0 H0 S H σ st0 Q q =>
  ha S0 H0 S H σ st0 _ fun vs ds x S1 H1 e1 pp s1 r1 => by
    obtain ⟨g1, g2, gq, ex, hp, rel, hq⟩ := hr ds x pp
    obtain ⟨fp, rg, st⟩ := s1.perm hp
    have o := rg.own
    rw [gv_app, gm_app] at o
    obtain ⟨fs, f2, e, o1, o2⟩ := o.split gv_len
    subst e
    have n := SG.noS st rg
    have hc : cov (cov H1 (fun _ => none) fs) H1 fs = H1 := funext fun a => by
      by_cases h : a ∈ fs
      · rw [cov_in h]
      · rw [cov_out h, cov_out h]
    refine ⟨S1, cov H1 (fun _ => none) fs, ds, g1, r, gq, ⟨fs, ⟨o1, (List.nodup_append.mp rg.nd).1, fun a ha => ⟨cov_in ha, n a (List.mem_append_left _ ha)⟩⟩, ?_⟩, by rw [List.append_nil]; exact r1, rel, fun v S2 H2 _ z => ?_⟩
    · rw [hc]
      exact (⟨Ext.refl st.ext.sub, ⟨rfl, fun i d h => by simp at h⟩, fun i ds h => by simp at h, fun i j a b p h => by simp at h⟩ : Stt K S1 H1 [] S1 H1 [])
    · obtain ⟨e, y⟩ := SG.ret st o1 o2 rg.nd rg.no z
      exact q v S2 H2 (e1.trans e) (Res.forget hq y)
def rowF (e : D → List D) (d : D) : M := .n .lst ((e d).map M.d)
/-- a list of new lists -/
theorem EvM.lc {wi : TI} {tg : TG} {vs : List Nat} (hi : EvI K wi ρ ds) (ps : D → List (Nat × D)) (e : D → List D) (hg : ∀ d ∈ ds, EvG K tg d (ps d)) (hs : ∀ d ∈ ds, ∀ p ∈ ps d, p.1 ∈ vs)
    (he : ∀ d ∈ ds, EvF K te (setR (wipeR ρ vs) (ps d)) (e d)) (hl : ds.length ≤ 50000) : EvM K (tLc wi tg tYes te vs) ρ (.n .lst (ds.map (rowF e))) := fun S H σ ee v Q q =>
  hi S H σ ee v _ fun J S1 H1 x1 wk => fun Dl hD => by
    refine ⟨fun i m H' => m = ds.length - i ∧ i ≤ ds.length ∧ ∃ S' as, Ext S1 H1 S' H' ∧ S' Dl = none ∧ H' Dl = some (.lst (as.map V.ref)) ∧ as.length = i ∧ OwnL K S' H' (as.map V.ref) ((ds.take i).map (rowF e)) as ∧ (Dl :: as).Nodup ∧ ∀ a ∈ as, H1 a = none ∧ S' a = none,
      ⟨ds.length, by simp, Nat.zero_le _, S1, [], Ext.hid x1.sub hD, sub_none x1.sub hD, upd_same, rfl, .nil, by simp, fun _ z => nomatch z⟩, ?_⟩
    rintro i m H' ⟨rfl, hi, S', as, x, nS, hus, hal, ow, nd, rows⟩
    by_cases hlt : i < ds.length
    · refine .inr ⟨wk.go S' H' i x.s x.sub hlt, fun H2 => ∃ S2 as2, Ext S1 H1 S2 H2 ∧ S2 Dl = none ∧ H2 Dl = some (.lst (as2.map V.ref)) ∧ as2.length = i + 1 ∧ OwnL K S2 H2 (as2.map V.ref) ((ds.take (i + 1)).map (rowF e)) as2 ∧ (Dl :: as2).Nodup ∧ ∀ a ∈ as2, H1 a = none ∧ S2 a = none, fun H2 z => ⟨ds.length - (i + 1), by omega, rfl, hlt, z⟩, fun xv H'' y => ?_⟩
      have hd : ds[i]? = some ds[i] := List.getElem?_eq_getElem hlt
      have hm : ds[i] ∈ ds := List.getElem_mem hlt
      obtain ⟨S2, x2, r2⟩ := wk.yld S' H' i xv H'' ds[i] x.s x.sub hd y
      have tk : ds.take (i + 1) = ds.take i ++ [ds[i]] := (List.take_append_getElem hlt).symm
      refine hg _ hm S2 H'' _ xv x2.sub r2 _ fun ws rws => ⟨?_, ?_⟩
      · rw [wipe_setV fun j hj => by
          obtain ⟨p, hp, rfl⟩ := List.mem_map.mp hj
          exact hs _ hm p hp, wipe_wipe]
      · have ev : Env K S2 (setV (L2.wipe σ vs) ((ps ds[i]).map (·.1)) ws) (setR (wipeR ρ vs) (ps ds[i])) := (((v.mono ((x1.s.trans x.s).trans x2.s)).wipe vs)).setV rws
        refine he _ hm S2 H'' _ x2.sub ev _ fun p us S4 H4 x4 hp sp h4 r4 => ?_
        have xx := x2.trans x4
        have hD4 : H4 Dl = some (.lst (as.map V.ref)) := xx.h _ _ hus
        have np : p ≠ Dl := fun z => by rw [z, x2.h _ _ hus] at hp; cases hp
        have lay : ∀ a ∈ as, H' a ≠ none := fun a ha => ow.lays a ha
        have same4 : ∀ a, H' a ≠ none → H4 a = H' a := fun a ha => by
          cases z : H' a with
          | none => exact absurd z ha
          | some o => exact xx.h a o z
        have npa : ∀ a ∈ as, a ≠ p := fun a ha z => by
          have l := lay a ha
          cases w : H' a with
          | none => exact l w
          | some o =>
            have := x2.h a o w
            rw [z, hp] at this
            cases this
        have h1p : H1 p = none := Evl.fresh_back (x.h.trans x2.h) hp
        have s4D : S4 Dl = none := xx.dis _ nS (by rw [hus]; exact fun z => nomatch z)
        have nDa : ∀ a ∈ as, a ≠ Dl := fun a ha z => (List.nodup_cons.mp nd).1 (z ▸ ha)
        have ul : (as.map V.ref).length ≤ ds.length := by rw [List.length_map]; omega
        refine ⟨as.map V.ref, hD4, Evl.sz_lt (by omega), S4, as ++ [p], ?_, s4D, ?_, by rw [List.length_append, hal]; rfl, ?_, ?_, fun a ha => ?_⟩
        · have yy := x.trans xx
          refine ⟨yy.s, fun a o ha => ?_, fun a o ha => ?_, yy.dis⟩
          · rw [upd_ne (ne_of_none ha hD)]
            exact yy.h a o ha
          · rw [upd_ne (fun z => by rw [z, s4D] at ha; cases ha)]
            exact yy.sub a o ha
        · rw [upd_same, List.map_append]
          rfl
        · rw [tk, List.map_append, List.map_append]
          refine OwnL.append (ow.mono xx.s fun a ha => ?_) ?_
          · rw [upd_ne (nDa a ha)]
            exact same4 a (lay a ha)
          · have z : OwnL K S4 (upd H4 Dl (.lst (as.map V.ref ++ [V.ref p]))) [.ref p] [rowF e ds[i]] ((p :: []) ++ []) := .cons (.n (by rw [upd_ne np]; exact h4) (show Shp.ho .lst (.lst us) us from rfl) (OwnL.ofD r4)) .nil
            exact z
        · have nd' := List.nodup_cons.mp nd
          refine List.nodup_cons.mpr ⟨fun z => ?_, List.nodup_append.mpr ⟨nd'.2, by simp, fun a ha b hb e => npa a ha (e.trans (List.mem_singleton.mp hb))⟩⟩
          rcases List.mem_append.mp z with z | z
          · exact nd'.1 z
          · exact np (List.mem_singleton.mp z).symm
        · rcases List.mem_append.mp ha with ha | ha
          · exact ⟨(rows a ha).1, xx.dis a (rows a ha).2 (lay a ha)⟩
          · rw [List.mem_singleton.mp ha]
            exact ⟨h1p, sp⟩
    · have e0 : i = ds.length := by omega
      subst e0
      rw [List.take_length] at ow
      refine .inl ⟨wk.stop S' H' x.s x.sub, ?_⟩
      have xx := x1.trans x
      refine q Dl (Dl :: as) S' H' xx (.n hus (show Shp.ho .lst _ _ from rfl) ow) nd fun a ha => ?_
      rcases List.mem_cons.mp ha with e | ha
      · rw [e]
        exact ⟨Evl.fresh_back x1.h hD, nS⟩
      · exact ⟨Evl.fresh_back x1.h (rows a ha).1, (rows a ha).2⟩
end
end Pl

/-! sorted of a list of numbers; what each joint holds, and the parts, as lists. -/
namespace Pl
open PySem PySem.Spec PyProof.Rows L2
open Evl (Ex)
theorem ok_sortedI {X : Cx} {K : PySem.W.Frag} (h : X.K = K) : CallR X (.builtin "sorted") (rSorted K) := by subst h; exact cr_sorted
theorem rc_sortedI {K : PySem.W.Frag} {ns ms : List Int} (h64 : ns.length < 64) (hs : ms.Pairwise (· ≤ ·)) (hp : ms.Perm ns) : RCF K (rSorted K) [.lst (ns.map D.int)] (ms.map D.int) := fun S H vs e r Q q => by
  cases r with
  | cons h t =>
    cases t
    cases h with
    | lst ha rl =>
      have z := rl.ints
      subst z
      refine ⟨_, ns, rfl, Evl.sq_of (e _ _ ha), h64, fun ks p h1 h2 hp2 => ?_⟩
      have em : ks = ms := (h1.trans hp.symm).eq_of_pairwise (fun a b _ _ h1 h2 => by omega) h2 hs
      subst em
      exact q p _ S _ (Ext.hid e hp2) hp2 (sub_none e hp2) upd_same (RdL.ofInts ks)
/-- two rising lists of the same numbers -/
theorem rise_eq {l m : List Nat} (h1 : l.Pairwise (· < ·)) (h2 : m.Pairwise (· < ·)) (h : ∀ x, x ∈ l ↔ x ∈ m) : l = m := by
  have n1 : l.Nodup := h1.imp fun h => by omega
  have n2 : m.Nodup := h2.imp fun h => by omega
  exact ((List.perm_ext_iff_of_nodup n1 n2).mpr h).eq_of_pairwise (fun a b _ _ x y => by omega) (h1.imp fun h => Nat.le_of_lt h) (h2.imp fun h => Nat.le_of_lt h)
theorem sortN_eq {l m : List Nat} (nd : l.Nodup) (hm : m.Pairwise (· < ·)) (h : ∀ x, x ∈ l ↔ x ∈ m) : sortN l = m :=
  rise_eq (sortN_lt nd) hm fun x => by rw [(sortN_perm l).mem_iff, h]
open Classical in
/-- the joints that a joint holds, and itself -/
noncomputable def heldL (n : Nat) (K : List Fr.Bar) (x : Nat) : List Nat := (List.range n).filter fun y => decide (y = x ∨ Fr.Spn n K x y)
open Classical in
theorem heldL_mem {n : Nat} {K : List Fr.Bar} {x y : Nat} : y ∈ heldL n K x ↔ y < n ∧ (y = x ∨ Fr.Spn n K x y) := by
  unfold heldL
  rw [List.mem_filter, List.mem_range, decide_eq_true_eq]
theorem heldL_rise (n : Nat) (K : List Fr.Bar) (x : Nat) : (heldL n K x).Pairwise (· < ·) := List.pairwise_lt_range.filter _
theorem heldL_len (n : Nat) (K : List Fr.Bar) (x : Nat) : (heldL n K x).length ≤ n := by
  unfold heldL
  exact Nat.le_trans (List.length_filter_le _ _) (by rw [List.length_range]; exact Nat.le_refl _)
/-- the joints of a part -/
noncomputable def partL (n : Nat) (K : List Fr.Bar) (p : Fr.Bar) : List Nat := (List.range n).filter (Fr.part n K p.1 p.2)
noncomputable def partsL (n : Nat) (nb : List Fr.Bar) : List (List Nat) := (Fr.ldrs n (Fr.pickB n [] nb)).map (partL n (Fr.pickB n [] nb))
theorem partL_mem {n : Nat} {K : List Fr.Bar} {p : Fr.Bar} {y : Nat} : y ∈ partL n K p ↔ y < n ∧ Fr.part n K p.1 p.2 y = true := by
  unfold partL
  rw [List.mem_filter, List.mem_range]
theorem partL_rise (n : Nat) (K : List Fr.Bar) (p : Fr.Bar) : (partL n K p).Pairwise (· < ·) := List.pairwise_lt_range.filter _
/-- as the text makes it: those that both hold -/
def bothL (n : Nat) (A B : List Nat) : List Nat := A.filter fun y => decide (y ∈ B)
theorem both_part {n : Nat} {K : List Fr.Bar} {a b : Nat} (hb : b ∈ heldL n K a) (ne : a ≠ b) (ha : a < n) : bothL n (heldL n K a) (heldL n K b) = partL n K (a, b) := by
  obtain ⟨hbn, h⟩ := heldL_mem.mp hb
  have h : Fr.Spn n K a b := h.elim (fun e => (ne e.symm).elim) id
  refine rise_eq ((heldL_rise _ _ _).filter _) (partL_rise _ _ _) fun x => ?_
  unfold bothL
  rw [List.mem_filter, decide_eq_true_eq, heldL_mem, heldL_mem, partL_mem, Fr.part_iff]
  constructor
  · rintro ⟨⟨hx, h1⟩, _, h2⟩
    refine ⟨hx, ?_⟩
    rcases h1 with rfl | h1
    · exact .inl rfl
    · rcases h2 with rfl | h2
      · exact .inr (.inl rfl)
      · exact .inr (.inr ⟨h1, h2⟩)
  · rintro ⟨hx, rfl | rfl | ⟨h1, h2⟩⟩
    · exact ⟨⟨hx, .inl rfl⟩, hx, .inr h.symm⟩
    · exact ⟨⟨hx, .inr h⟩, hx, .inl rfl⟩
    · exact ⟨⟨hx, .inr h1⟩, hx, .inr h2⟩
/-- the two first ones are these: they lead -/
theorem lead_first {n : Nat} {K : List Fr.Bar} {a b : Nat} (ha : a < n) (hb : b ∈ heldL n K a) : (bothL n (heldL n K a) (heldL n K b)).take 2 = [a, b] ↔ Fr.Ld n K a b := by
  have rise : (bothL n (heldL n K a) (heldL n K b)).Pairwise (· < ·) := (heldL_rise _ _ _).filter _
  constructor
  · intro h
    generalize hl : bothL n (heldL n K a) (heldL n K b) = l at h rise
    match l, h, rise, hl with
    | x :: y :: r, h, rise, hl =>
      have h : [x, y] = [a, b] := h
      injection h with e1 h
      injection h with e2 _
      subst e1
      subst e2
      obtain ⟨r1, r2⟩ := List.pairwise_cons.mp rise
      have lt := r1 y List.mem_cons_self
      obtain ⟨hbn, hs⟩ := heldL_mem.mp hb
      have hs : Fr.Spn n K x y := hs.elim (fun e => by omega) id
      refine ⟨lt, hbn, hs, fun c hc pc => ?_⟩
      have hm : c ∈ partL n K (x, y) := partL_mem.mpr ⟨hc, pc⟩
      rw [← both_part hb (by omega) ha, hl] at hm
      rcases List.mem_cons.mp hm with rfl | hm
      · exact .inl rfl
      · rcases List.mem_cons.mp hm with rfl | hm
        · exact .inr (Nat.le_refl _)
        · exact .inr (Nat.le_of_lt ((List.pairwise_cons.mp r2).1 c hm))
  · rintro ⟨lt, hbn, hs, hl⟩
    have e := both_part hb (by omega) ha
    have ma : a ∈ bothL n (heldL n K a) (heldL n K b) := by rw [e]; exact partL_mem.mpr ⟨ha, Fr.part_left⟩
    have mb : b ∈ bothL n (heldL n K a) (heldL n K b) := by rw [e]; exact partL_mem.mpr ⟨hbn, Fr.part_right⟩
    have all : ∀ c ∈ bothL n (heldL n K a) (heldL n K b), c = a ∨ b ≤ c := fun c hc => by
      rw [e] at hc
      obtain ⟨h1, h2⟩ := partL_mem.mp hc
      exact hl c h1 h2
    generalize bothL n (heldL n K a) (heldL n K b) = l at rise ma mb all
    match l, rise, ma, mb, all with
    | [], _, ma, _, _ => cases ma
    | [x], _, ma, mb, _ =>
      have := List.mem_singleton.mp ma
      have := List.mem_singleton.mp mb
      omega
    | x :: y :: r, rise, ma, mb, all =>
      obtain ⟨r1, r2⟩ := List.pairwise_cons.mp rise
      obtain ⟨r3, _⟩ := List.pairwise_cons.mp r2
      have lxy := r1 y List.mem_cons_self
      have ex : x = a := by
        rcases all x List.mem_cons_self with e | e
        · exact e
        · rcases List.mem_cons.mp ma with e2 | hm
          · exact e2.symm
          · have := r1 a hm
            omega
      have ey : y = b := by
        rcases all y (List.mem_cons_of_mem _ List.mem_cons_self) with e | e
        · omega
        · rcases List.mem_cons.mp mb with e2 | hm
          · omega
          · rcases List.mem_cons.mp hm with e3 | hm
            · exact e3.symm
            · have := r3 b hm
              omega
      subst ex
      subst ey
      rfl
open Classical in
/-- as the text finds them -/
theorem parts_walk (n : Nat) (K : List Fr.Bar) (a : Nat) : ((heldL n K a).filter fun b => decide (Fr.Ld n K a b)) = (List.range n).filter fun b => decide (Fr.Ld n K a b) := by
  refine rise_eq ((heldL_rise _ _ _).filter _) (List.pairwise_lt_range.filter _) fun x => ?_
  rw [List.mem_filter, List.mem_filter, decide_eq_true_eq, heldL_mem, List.mem_range]
  constructor
  · rintro ⟨⟨h1, _⟩, h2⟩
    exact ⟨h1, h2⟩
  · rintro ⟨h1, h2⟩
    exact ⟨⟨h1, .inr h2.2.2.1⟩, h2⟩
end Pl

/-! The knots that bars tie as they come in an order. -/
namespace Fr
def barAt (nb : List Bar) (i : Nat) : Bar := nb.getD i (0, 0)
def knotL (nb : List Bar) (ks : List Nat) (i : Nat) (laid : List Nat) : List Nat := (List.range nb.length).filter fun a => (decide ((barAt nb a).1 ∈ ks) && decide ((barAt nb a).2 ∈ ks)) && (decide (a = i) || decide (a ∈ laid))
def tiedL (nb : List Bar) : Cs → List Nat → List Nat → List (Nat × List Nat)
  | _, [], _ => []
  | cs, i :: r, laid => match (lay cs (barAt nb i).1 (barAt nb i).2).2 with
    | none => tiedL nb (lay cs (barAt nb i).1 (barAt nb i).2).1 r (laid ++ [i])
    | some ks => (i, knotL nb ks i laid) :: tiedL nb (lay cs (barAt nb i).1 (barAt nb i).2).1 r laid
theorem tiedL_nil (nb : List Bar) (cs : Cs) (laid : List Nat) : tiedL nb cs [] laid = [] := rfl
theorem tiedL_none {nb : List Bar} {cs : Cs} {i : Nat} {r laid : List Nat} (h : (lay cs (barAt nb i).1 (barAt nb i).2).2 = none) : tiedL nb cs (i :: r) laid = tiedL nb (lay cs (barAt nb i).1 (barAt nb i).2).1 r (laid ++ [i]) := by
  conv => lhs; unfold tiedL
  rw [h]
theorem tiedL_some {nb : List Bar} {cs : Cs} {i : Nat} {r laid ks : List Nat} (h : (lay cs (barAt nb i).1 (barAt nb i).2).2 = some ks) : tiedL nb cs (i :: r) laid = (i, knotL nb ks i laid) :: tiedL nb (lay cs (barAt nb i).1 (barAt nb i).2).1 r laid := by
  conv => lhs; unfold tiedL
  rw [h]
theorem barAt_mem {nb : List Bar} {i : Nat} (h : i < nb.length) : barAt nb i ∈ nb := getD_mem h
theorem barAt_ok {n : Nat} {nb : List Bar} (ok : Ok n nb) {l : List Nat} (h : ∀ i ∈ l, i < nb.length) : Ok n (l.map (barAt nb)) := fun b hb => by
  obtain ⟨i, hi, rfl⟩ := List.mem_map.mp hb
  exact ok _ (barAt_mem (h i hi))
/-- what a knot is told by -/
def Told (n : Nat) (nb : List Bar) (lj : List Nat) (i : Nat) (l : List Nat) : Prop := ∃ T : JS, Tight n (lj.map (barAt nb)) T ∧ T (barAt nb i).1 = true ∧ T (barAt nb i).2 = true ∧
  (∀ S, Tight n (lj.map (barAt nb)) S → S (barAt nb i).1 = true → S (barAt nb i).2 = true → ∀ k, k < n → T k = true → S k = true) ∧ ∀ a, a ∈ l ↔ a < nb.length ∧ (T (barAt nb a).1 = true ∧ T (barAt nb a).2 = true) ∧ (a = i ∨ a ∈ lj)
theorem tied_all {n : Nat} {nb : List Bar} (ok : Ok n nb) : ∀ (os laid : List Nat) (cs : Cs), (∀ i ∈ os, i < nb.length) → (∀ i ∈ laid, i < nb.length) → (laid ++ os).Nodup → Fits n cs (laid.map (barAt nb)) → Slim n (laid.map (barAt nb)) →
    ∃ F, F.Sublist (laid ++ os) ∧ laid.Sublist F ∧ Slim n (F.map (barAt nb)) ∧ (∀ j ∈ os, j ∈ F ∨ ∃ p ∈ tiedL nb cs os laid, p.1 = j) ∧
      ∀ p ∈ tiedL nb cs os laid, p.1 ∈ os ∧ p.1 ∉ F ∧ ∃ lj, lj.Sublist F ∧ (∃ pre post, os = pre ++ p.1 :: post ∧ ∀ a ∈ lj, a ∈ laid ∨ a ∈ pre) ∧ Told n nb lj p.1 p.2
  | [], laid, cs, _, _, _, _, sl => ⟨laid, by rw [List.append_nil]; exact .refl _, .refl _, sl, (fun j h => (nomatch h)), (fun p h => (nomatch h))⟩
  | i :: r, laid, cs, ho, hl, nd, ft, sl => by
    have o := ok _ (barAt_mem (ho i List.mem_cons_self))
    have okl := barAt_ok ok hl
    have hor : ∀ j ∈ r, j < nb.length := fun j hj => ho j (List.mem_cons_of_mem _ hj)
    have hs := lay_slim (b := barAt nb i) ft okl sl o
    have hbl := btw_lay cs (barAt nb i).1 (barAt nb i).2
    unfold tiedL
    cases hy : (lay cs (barAt nb i).1 (barAt nb i).2).2 with
    | none =>
      obtain ⟨f1, f2⟩ := lay_yes ft okl sl o.1 o.2.1 o.2.2 (Prod.ext rfl hy : lay cs (barAt nb i).1 (barAt nb i).2 = ((lay cs (barAt nb i).1 (barAt nb i).2).1, none))
      have e : (laid ++ [i]).map (barAt nb) = laid.map (barAt nb) ++ [barAt nb i] := by rw [List.map_append]; rfl
      have el : (laid ++ [i]) ++ r = laid ++ i :: r := by simp
      obtain ⟨F, h1, h2, h3, h4, h5⟩ := tied_all ok r (laid ++ [i]) _ hor (fun j hj => by
        rcases List.mem_append.mp hj with hj | hj
        · exact hl j hj
        · rw [List.mem_singleton.mp hj]; exact ho i List.mem_cons_self) (by rw [el]; exact nd) (by rw [e]; exact f1) (by rw [e]; exact f2)
      rw [el] at h1
      refine ⟨F, h1, (List.sublist_append_left _ _).trans h2, h3, fun j hj => ?_, fun p hp => ?_⟩
      · rcases List.mem_cons.mp hj with rfl | hj
        · exact .inl (h2.subset (List.mem_append_right _ (List.mem_singleton.mpr rfl)))
        · exact h4 j hj
      · obtain ⟨g1, g2, lj, g3, ⟨pre, post, g4, g5⟩, g6⟩ := h5 p hp
        refine ⟨List.mem_cons_of_mem _ g1, g2, lj, g3, ⟨i :: pre, post, by rw [g4]; rfl, fun a ha => ?_⟩, g6⟩
        rcases g5 a ha with g | g
        · rcases List.mem_append.mp g with g | g
          · exact .inl g
          · rw [List.mem_singleton.mp g]; exact .inr List.mem_cons_self
        · exact .inr (List.mem_cons_of_mem _ g)
    | some ks =>
      have f1 := lay_fits_no ft o.1 o.2.1 hy
      have nd2 : (laid ++ r).Nodup := nd.sublist ((List.sublist_cons_self i r).append_left laid)
      obtain ⟨F, h1, h2, h3, h4, h5⟩ := tied_all ok r laid _ hor hl nd2 f1 sl
      have hb : (btw cs (barAt nb i).1 (barAt nb i).2).2 = some ks := by
        cases q : (btw cs (barAt nb i).1 (barAt nb i).2).2 with
        | none => rw [hbl.mp q] at hy; cases hy
        | some kk => rw [lay_some q] at hy; exact hy
      obtain ⟨knd, klow, m1, m2, tk, mn⟩ := btw_min ft sl o.1 o.2.1 o.2.2 hb
      have ni : i ∉ laid ++ r := fun z => by
        have q : (laid ++ i :: r).Perm (i :: (laid ++ r)) := List.perm_middle
        exact (List.nodup_cons.mp (q.nodup_iff.mp nd)).1 z
      refine ⟨F, h1.trans ((List.sublist_cons_self i r).append_left laid), h2, h3, fun j hj => ?_, fun p hp => ?_⟩
      · rcases List.mem_cons.mp hj with rfl | hj
        · exact .inr ⟨_, List.mem_cons_self, rfl⟩
        · rcases h4 j hj with h | ⟨p, hp, e⟩
          · exact .inl h
          · exact .inr ⟨p, List.mem_cons_of_mem _ hp, e⟩
      · rcases List.mem_cons.mp hp with rfl | hp
        · refine ⟨List.mem_cons_self, fun z => ni (h1.subset z), laid, h2, ⟨[], r, rfl, fun a ha => .inl ha⟩, inL ks, tk, decide_eq_true m1, decide_eq_true m2, fun S tS s1 s2 k _ hk => mn S tS s1 s2 k (of_decide_eq_true hk), fun a => ?_⟩
          show a ∈ knotL nb ks i laid ↔ _
          unfold knotL inL
          rw [List.mem_filter, List.mem_range]
          simp only [Bool.and_eq_true, Bool.or_eq_true, decide_eq_true_eq]
        · obtain ⟨g1, g2, lj, g3, ⟨pre, post, g4, g5⟩, g6⟩ := h5 p hp
          exact ⟨List.mem_cons_of_mem _ g1, g2, lj, g3, ⟨i :: pre, post, by rw [g4]; rfl, fun a ha => (g5 a ha).imp id (List.mem_cons_of_mem _)⟩, g6⟩
section
variable {n : Nat} {nb : List Bar}
theorem basis_all {K : List Bar} (sl : Slim n K) : pickB n [] K = K := (pickN_all K [] 0 (by simpa using sl)).2
/-- what lean ones of the bars hold, the bars hold -/
theorem spn_hld {K bs : List Bar} (okK : Ok n K) (sl : Slim n K) (okb : Ok n bs) (h : ∀ x ∈ K, x ∈ bs) {a b : Nat} (ha : a < n) (hb : b < n) (ne : a ≠ b) (q : Spn n K a b) : Hld n bs a b :=
  hld_le okK okb (fun x hx => hld_bar okb (h x hx)) ha hb ne (by unfold Hld; rw [basis_all sl]; exact q)
theorem erase_mem {i j : Nat} (hj : j < nb.length) (ne : j ≠ i) : barAt nb j ∈ nb.eraseIdx i :=
  List.mem_eraseIdx_iff_getElem.mpr ⟨j, hj, ne, by unfold barAt; simp [List.getD, hj]⟩
theorem barAt_get {i : Nat} (h : i < nb.length) : barAt nb i = nb[i] := by unfold barAt; simp [List.getD, h]
/-- the bars of an order: those that some knot has are those that others hold -/
theorem tied_iff (ok : Ok n nb) {os : List Nat} (hp : os.Perm (List.range nb.length)) {i : Nat} (hi : i < nb.length) :
    ((∃ p ∈ tiedL nb (List.replicate n []) os [], i ∈ p.2) ↔ Hld n (nb.eraseIdx i) (barAt nb i).1 (barAt nb i).2) ∧
    (∀ p ∈ tiedL nb (List.replicate n []) os [], p.1 < nb.length ∧ Hld n (nb.eraseIdx p.1) (barAt nb p.1).1 (barAt nb p.1).2 ∧ p.1 ∈ p.2 ∧ ∃ lj, (∀ a ∈ lj, a < nb.length) ∧ lj.Nodup ∧ Slim n (lj.map (barAt nb)) ∧ p.1 ∉ lj ∧ Told n nb lj p.1 p.2 ∧ ∃ pre post, os = pre ++ p.1 :: post ∧ ∀ a ∈ lj, a ∈ pre) := by
  have ho : ∀ j ∈ os, j < nb.length := fun j hj => List.mem_range.mp (hp.mem_iff.mp hj)
  have ndo : os.Nodup := hp.nodup_iff.mpr List.nodup_range
  obtain ⟨F, h1, h2, h3, h4, h5⟩ := tied_all ok os [] (List.replicate n []) ho (fun _ h => nomatch h) (by simpa using ndo) (Pl.fits_bare n) (Pl.slim_nil n)
  rw [List.nil_append] at h1
  have ndF : F.Nodup := ndo.sublist h1
  have hF : ∀ j ∈ F, j < nb.length := fun j hj => ho j (h1.subset hj)
  have key : ∀ p ∈ tiedL nb (List.replicate n []) os [], p.1 < nb.length ∧ Hld n (nb.eraseIdx p.1) (barAt nb p.1).1 (barAt nb p.1).2 ∧ p.1 ∈ p.2 ∧ ∃ lj, (∀ a ∈ lj, a < nb.length) ∧ lj.Nodup ∧ Slim n (lj.map (barAt nb)) ∧ p.1 ∉ lj ∧ Told n nb lj p.1 p.2 ∧ ∃ pre post, os = pre ++ p.1 :: post ∧ ∀ a ∈ lj, a ∈ pre := fun p hpm => by
    obtain ⟨g1, g2, lj, g3, ⟨pre, post, g4, g5⟩, g6⟩ := h5 p hpm
    have hlj : ∀ a ∈ lj, a < nb.length := fun a ha => hF a (g3.subset ha)
    have slj : Slim n (lj.map (barAt nb)) := h3.sub (g3.map _)
    have npj : p.1 ∉ lj := fun z => g2 (g3.subset z)
    obtain ⟨T, t1, t2, t3, t4, t5⟩ := id g6
    have o := ok _ (barAt_mem (ho _ g1))
    refine ⟨ho _ g1, spn_hld (barAt_ok ok hlj) slj (ok.sub (List.eraseIdx_sublist _ _)) (fun x hx => ?_) o.1 o.2.1 o.2.2 ⟨T, t1, t2, t3⟩, (t5 p.1).mpr ⟨ho _ g1, ⟨t2, t3⟩, .inl rfl⟩, lj, hlj, ndF.sublist g3, slj, npj, g6, pre, post, g4, fun a ha => (g5 a ha).elim (fun z => nomatch z) id⟩
    obtain ⟨a, ha, rfl⟩ := List.mem_map.mp hx
    exact erase_mem (hlj a ha) fun e => npj (e ▸ ha)
  refine ⟨⟨?_, fun hh => ?_⟩, key⟩
  · rintro ⟨p, hpm, hip⟩
    obtain ⟨k1, k2, _, lj, k3, knd, k4, k5, ⟨T, t1, t2, t3, t4, t5⟩, _⟩ := key p hpm
    obtain ⟨q1, ⟨q2, q3⟩, q4⟩ := (t5 i).mp hip
    rcases q4 with rfl | q4
    · exact k2
    · -- the bar at i changes with that at p.1
      have okl := barAt_ok ok k3
      have pe : (lj.map (barAt nb)).Perm (barAt nb i :: (lj.erase i).map (barAt nb)) := (List.perm_cons_erase q4).map _
      have ie : ∀ S, ins (lj.map (barAt nb)) S = ins ((lj.erase i).map (barAt nb)) S + (S (barAt nb i).1 && S (barAt nb i).2).toNat := fun S => by rw [ins_perm pe, ins_cons]
      have sle : Slim n ((lj.erase i).map (barAt nb)) := k4.sub ((List.erase_sublist).map _)
      have op := ok _ (barAt_mem k1)
      have oi := ok _ (barAt_mem q1)
      have sl2 : Slim n ((lj.erase i).map (barAt nb) ++ [barAt nb p.1]) := (slim_snoc sle op.1 op.2.1 op.2.2).mpr fun ⟨S, tS, s1, s2⟩ => by
        have tS2 : Tight n (lj.map (barAt nb)) S := tS.mono (by rw [ie]; exact Nat.le_add_right _ _) k4
        have z := ie S
        rw [t4 S tS2 s1 s2 _ oi.1 q2, t4 S tS2 s1 s2 _ oi.2.1 q3] at z
        have := tS.2
        have := tS2.2
        simp at z
        omega
      refine spn_hld (K := (lj.erase i).map (barAt nb) ++ [barAt nb p.1]) ((barAt_ok ok fun a ha => k3 a (List.mem_of_mem_erase ha)).app fun c hc => by rw [List.mem_singleton.mp hc]; exact op) sl2 (ok.sub (List.eraseIdx_sublist _ _)) (fun x hx => ?_) oi.1 oi.2.1 oi.2.2 ⟨T, ⟨t1.1, ?_⟩, q2, q3⟩
      · rcases List.mem_append.mp hx with hx | hx
        · obtain ⟨a, ha, rfl⟩ := List.mem_map.mp hx
          exact erase_mem (k3 a (List.mem_of_mem_erase ha)) ((List.Nodup.mem_erase_iff knd).mp ha).1
        · rw [List.mem_singleton.mp hx]
          exact erase_mem k1 fun e => k5 (e ▸ q4)
      · have z := ie T
        rw [q2, q3] at z
        have a := ins_append ((lj.erase i).map (barAt nb)) (barAt nb p.1) T
        rw [t2, t3, Bool.and_self, if_pos rfl] at a
        have := t1.2
        simp at z
        omega
  · by_cases hno : ∃ p ∈ tiedL nb (List.replicate n []) os [], i ∈ p.2
    · exact hno
    · exfalso
      have him : i ∈ os := hp.mem_iff.mpr (List.mem_range.mpr hi)
      have hiF : i ∈ F := by
        rcases h4 i him with h | ⟨p, hpm, e⟩
        · exact h
        · exact (hno ⟨p, hpm, by rw [← e]; exact (key p hpm).2.2.1⟩).elim
      have okF := barAt_ok ok hF
      have okE := barAt_ok ok fun a (ha : a ∈ F.erase i) => hF a (List.mem_of_mem_erase ha)
      have slE : Slim n ((F.erase i).map (barAt nb)) := h3.sub ((List.erase_sublist).map _)
      have oke : Ok n (nb.eraseIdx i) := ok.sub (List.eraseIdx_sublist _ _)
      have all : ∀ j, j < nb.length → j ≠ i → Spn n ((F.erase i).map (barAt nb)) (barAt nb j).1 (barAt nb j).2 := fun j hj ne => by
        rcases h4 j (hp.mem_iff.mpr (List.mem_range.mpr hj)) with h | ⟨p, hpm, e⟩
        · exact bar_spn okE slE (List.mem_map.mpr ⟨j, (List.mem_erase_of_ne ne).mpr h, rfl⟩)
        · subst e
          obtain ⟨_, _, lj, g3, _, T, t1, t2, t3, t4, t5⟩ := h5 p hpm
          have nin : ¬ i ∈ p.2 := fun z => hno ⟨p, hpm, z⟩
          refine ⟨T, t1.mono ?_ slE, t2, t3⟩
          by_cases q : i ∈ lj
          · have ni : ¬ (T (barAt nb i).1 = true ∧ T (barAt nb i).2 = true) := fun z => nin ((t5 i).mpr ⟨hi, z, .inr q⟩)
            have pe : (lj.map (barAt nb)).Perm (barAt nb i :: (lj.erase i).map (barAt nb)) := (List.perm_cons_erase q).map _
            rw [ins_perm pe, ins_cons]
            have e0 : (T (barAt nb i).1 && T (barAt nb i).2).toNat = 0 := by
              cases z1 : T (barAt nb i).1 <;> cases z2 : T (barAt nb i).2 <;> first | rfl | exact (ni ⟨z1, z2⟩).elim
            rw [e0]
            exact ins_sub ((List.Sublist.erase i g3).map _) T
          · have e1 : lj = lj.erase i := (List.erase_of_not_mem q).symm
            rw [e1]
            exact ins_sub ((List.Sublist.erase i g3).map _) T
      have r1 : rk n (nb.eraseIdx i) ≤ ((F.erase i).map (barAt nb)).length := span_le okE slE (basis_ok oke) (basis_slim n _) fun x hx => by
        have hx2 := (pickB_sub _ []).subset hx
        obtain ⟨j, hj, ne, e⟩ := List.mem_eraseIdx_iff_getElem.mp hx2
        rw [← e, ← barAt_get hj]
        exact all j hj ne
      have r2 : (F.map (barAt nb)).length ≤ rk n nb := rk_max ok okF h3 fun x hx => by
        obtain ⟨j, hj, rfl⟩ := List.mem_map.mp hx
        exact hld_bar ok (barAt_mem (hF j hj))
      have r3 := ((rk_less ok hi).1 (by rw [← barAt_get hi]; exact hh)).1
      rw [List.length_map, List.length_erase_of_mem hiF] at r1
      rw [List.length_map] at r2
      have : 0 < F.length := List.length_pos_of_mem hiF
      omega
/-- the last one of an order is tied just where the others hold it -/
theorem tied_last (ok : Ok n nb) {os : List Nat} {i : Nat} (hp : (os ++ [i]).Perm (List.range nb.length)) (hi : i < nb.length) :
    (∃ p ∈ tiedL nb (List.replicate n []) (os ++ [i]) [], p.1 = i) ↔ Hld n (nb.eraseIdx i) (barAt nb i).1 (barAt nb i).2 := by
  obtain ⟨h1, h2⟩ := tied_iff ok hp hi
  constructor
  · rintro ⟨p, hpm, rfl⟩
    exact (h2 p hpm).2.1
  · intro h
    obtain ⟨p, hpm, hip⟩ := h1.mpr h
    refine ⟨p, hpm, ?_⟩
    obtain ⟨_, _, _, lj, _, _, _, _, ⟨T, _, _, _, _, t5⟩, pre, post, e, hpre⟩ := h2 p hpm
    rcases ((t5 i).mp hip).2.2 with q | q
    · exact q.symm
    · exfalso
      have nd : (os ++ [i]).Nodup := hp.nodup_iff.mpr List.nodup_range
      have hpi := hpre i q
      rcases List.eq_nil_or_concat post with rfl | ⟨post', x, rfl⟩
      · have := List.append_inj' e rfl
        have e2 : i = p.1 := by simpa using this.2
        have : os = pre := this.1
        subst this
        exact (List.nodup_append.mp nd).2.2 i hpi i (List.mem_singleton.mpr rfl) rfl
      · have e' : os ++ [i] = (pre ++ p.1 :: post') ++ [x] := by rw [e]; simp
        have := List.append_inj' e' rfl
        have e1 := this.1
        have : i ∈ os := by rw [e1]; exact List.mem_append_left _ hpi
        exact (List.nodup_append.mp nd).2.2 i this i (List.mem_singleton.mpr rfl) rfl
end
end Fr

/-! Dicts of the region: their values, d.get(k) of a new one, a key's new value that is looked up. -/
namespace Pl
open PySem PySem.Spec PyProof.Rows L2
open Evl (Ex)
section
variable {K : PySem.W.Frag} {S0 H0 S H S' H' : Hp} {σ : L2.St} {ρ ρ' ρ1 ρv : Rho} {g g' g1 g2 gl gr : Gs} {F G : FM} {t u : TS} {te ti td tx tk tv ty : TE} {tA : TA} {c : TT} {d : D} {es ds : List D} {ms : List M} {m m1 m2 : M} {a : Addr} {π : List Nat} {Dd : Ends} {i j : Nat} {b : Bool} {r : Rs} {E : XK} {s : Shp}
theorem ei_vals {ks : List L2.Key} (h : EvD K td ρ (.fv ks ds)) : EvI K (iVals td) ρ ds := fun S H σ e v R q =>
  h S H σ e v _ fun w S1 H1 x1 r1 => by
    cases r1 with
    | fv ha hl rl =>
      rename_i p o xs
      have hz : (ks.zip xs).length = ds.length := by rw [List.length_zip, hl, Nat.min_self, rl.length]
      refine ⟨p, o, ks.zip xs, rfl, x1.sub _ _ ha, q _ S1 H1 x1 ⟨fun S' H' i e1 e2 hi => ⟨e2 _ _ (e1 _ _ ha), by rw [hz]; exact hi⟩, fun S' H' i x H'' d e1 e2 hd y => ?_, fun S' H' e1 e2 => ⟨e2 _ _ (e1 _ _ ha), by rw [hz]; exact Nat.le_refl _⟩⟩⟩
      obtain ⟨rfl, k, h1⟩ := y
      obtain ⟨u, hu, ru⟩ := rl.get hd
      have z := congrArg (Option.map Prod.snd) h1
      rw [← List.getElem?_map] at z
      have hs : (ks.zip xs).map Prod.snd = xs := List.map_snd_zip (by rw [hl]; exact Nat.le_refl _)
      rw [hs, hu] at z
      have z : some u = some x := z
      cases z
      exact ⟨S', Ext.refl e2, ru.mono e1⟩
/-- a fresh list from the values of a dict of the region -/
theorem EvX.vals {p : Addr} {ns : List Int} (hp : List.Perm g (g1 ++ [(p, .n (.dic (ik ns)) (ds.map M.d))])) (hi : ρ[i]? = some (.k (.adr p))) (hv : View g1 ρ ρv) (h : EvF K te (ρv.set i (.k (.fv (ik ns) ds))) es) (hf : ∀ d ∈ es, d.flat = true) : EvX K (tLockE te) ρ g (.o es) g := fun S0 H0 S H σ st Q q => by
  obtain ⟨S2, e1, e2, ev, sp⟩ := st.look1 (m := .d .non) hp hv
  obtain ⟨fp, rg, s0⟩ := id st
  obtain ⟨f, hfp, o⟩ := rg.own.mem (a := p) (m := .n (.dic (ik ns)) (ds.map M.d)) (hp.mem_iff.mpr (by simp))
  cases o with
  | n h1 h2 h3 =>
    rename_i ho vs fq
    obtain ⟨hl, eo⟩ := h2
    subst eo
    obtain ⟨v0, g1', g2'⟩ := st.env.val i _ hi
    cases g2'
    refine ⟨p, _, h1, trivial, fun od => ?_⟩
    have ex3 : Ex S2 (upd S2 p (.frz od (.dK ((ik ns).zip vs)))) := Ex.new sp
    have sub3 : Ex (upd S2 p (.frz od (.dK ((ik ns).zip vs)))) (upd H p (.frz od (.dK ((ik ns).zip vs)))) := fun a o e => by
      by_cases ha : a = p
      · subst ha; rw [upd_same] at e ⊢; exact e
      · rw [upd_ne ha] at e ⊢; exact e2 a o e
    have ev3 : Env K (upd S2 p (.frz od (.dK ((ik ns).zip vs)))) σ (ρv.set i (.k (.fv (ik ns) ds))) := by
      have z := (ev.mono ex3).set (i := i) (d := .fv (ik ns) ds) (v := .ref p) (.fv upd_same hl ((h3.toD.2.mono e1).mono ex3))
      rw [show σ.set i (some (.ref p)) = σ from List.ext_getElem? fun q => by
        by_cases hq : i = q
        · subst hq
          by_cases hl : i < σ.length
          · rw [List.getElem?_set_self hl, g1']
          · rw [List.getElem?_eq_none (by rw [List.length_set]; omega), List.getElem?_eq_none (by omega)]
        · rw [List.getElem?_set_ne hq]] at z
      exact z
    refine h _ _ σ sub3 ev3 _ fun q2 ws S4 H4 x hq2 sq h4 rl => ?_
    have e4 : H4 p = some (.frz od (.dK ((ik ns).zip vs))) := x.h p _ upd_same
    refine ⟨e4, ?_⟩
    have nq : q2 ≠ p := fun z => by rw [z, upd_same] at hq2; cases hq2
    have hq0 : H q2 = none := by rw [upd_ne nq] at hq2; exact hq2
    have h4' : (upd H4 p (.dK ((ik ns).zip vs))) q2 = some (.lst ws) := by rw [upd_ne nq]; exact h4
    have S5 : ∃ S5 : Hp, Ex S S5 ∧ Ex S5 (upd H4 p (.dK ((ik ns).zip vs))) ∧ S5 q2 = none := by
      refine ⟨fun a => if a = p then none else S4 a, fun a o e => ?_, fun a o e => ?_, ?_⟩
      · have ha : a ≠ p := fun z => by subst z; rw [e1 _ _ e] at sp; cases sp
        show (if a = p then none else S4 a) = some o
        rw [if_neg ha]
        exact x.s a o (ex3 a o (e1 a o e))
      · by_cases ha : a = p
        · have e : (if a = p then none else S4 a) = some o := e
          rw [if_pos ha] at e; cases e
        · have e : (if a = p then none else S4 a) = some o := e
          rw [if_neg ha] at e
          rw [upd_ne ha]
          exact x.sub a o e
      · show (if q2 = p then none else S4 q2) = none
        rw [if_neg nq]
        exact sq
    obtain ⟨S5, a1, a2, a3⟩ := S5
    have eH : Ex H (upd H4 p (.dK ((ik ns).zip vs))) := fun a o e => by
      by_cases ha : a = p
      · subst ha; rw [upd_same, ← h1]; exact e
      · rw [upd_ne ha]
        exact x.h a o (by rw [upd_ne ha]; exact e)
    have xx := ext_woH a1 eH a2
    obtain ⟨rg', s'⟩ := rg.go s0 xx
    exact q _ _ _ xx.s (SG.besideF rg s0 hq0 rg' s' (woH_none a3) h4' (rl.flat hf))
/-- d.get(k) of a new dict -/
theorem EvX.dget1 {ns : List Int} {k : Int} (h : EvX K td ρ g (.t (.n (.dic (ik ns)) (ds.map M.d))) g') (hk : EvD K ty ρ (.int k)) (hd : (∃ j, ns[j]? = some k ∧ (∀ q : Nat, q < j → ns[q]? ≠ some k) ∧ ds[j]? = some d) ∨ (k ∉ ns ∧ d = .non)) : EvX K (tDGet1 td ty) ρ g (.d d) g' := fun S0 H0 S H σ st Q q =>
  h S0 H0 S H σ st _ fun v S1 H1 e z => by
    obtain ⟨p, ev, st1⟩ := z
    subst ev
    obtain ⟨fp, rg, s1⟩ := id st1
    obtain ⟨f, hf, o⟩ := rg.own.mem (a := p) (m := .n (.dic (ik ns)) (ds.map M.d)) (by simp)
    cases o with
    | n h1 h2 h3 =>
      rename_i ho vs fq
      obtain ⟨hl, eo⟩ := h2
      subst eo
      obtain ⟨_, rl⟩ := h3.toD
      have hl2 : ns.length = vs.length := by rw [← hl]; exact (List.length_map _).symm
      refine ⟨p, rfl, .inl ⟨_, .inl h1⟩, hk S1 H1 σ st1.sub st1.env _ fun w S2 H2 x2 r2 => ?_⟩
      cases r2
      have st2 := (SG.forget st1).go x2
      rcases hd with ⟨j, k1, k2, k3⟩ | ⟨k1, rfl⟩
      · obtain ⟨y, hy, ry⟩ := rl.get k3
        refine ⟨some y, .inl ⟨_, .inl k, .inl (x2.h _ _ h1), rfl, ?_⟩, q y S2 H2 (e.trans x2.s) ⟨st2, ry.mono x2.s⟩⟩
        rw [valV_zip hl2 k1 k2, hy]
      · exact ⟨none, .inl ⟨_, .inl k, .inl (x2.h _ _ h1), rfl, (valV_out hl2 k1).symm⟩, q .non S2 H2 (e.trans x2.s) ⟨st2, .non⟩⟩
/-- d[k] = v of a new key, v looked up -/
theorem TM.dputX {ns : List Int} {k : Int} (hv : EvX K tv ρ g (.d d) g) (hp : EvP K td ρ g a m π) (hk : EvD K ty ρ (.int k)) (hg : g = gl ++ (a, m) :: gr) (hat : M.at π m = some (.n (.dic (ik ns)) (ds.map M.d))) (hn : k ∉ ns) (hl : ns.length < 100000)
    (kk : F.nx ρ (gl ++ (a, M.put (.n (.dic (ik (ns ++ [k]))) ((ds ++ [d]).map M.d)) π m) :: gr)) : TM K (sDPut td ty tv) ρ g F := fun S0 H0 S H σ Dd st ac =>
  hv S0 H0 S H σ st _ fun v S1 H1 ex1 z => by
    obtain ⟨st1, r1⟩ := z
    refine hp S0 H0 S1 H1 σ st1 _ fun u S2 H2 x2 l => ?_
    have st2 := st1.go x2
    refine hk S2 H2 σ st2.sub st2.env _ fun w S3 H3 x3 r3 => ?_
    cases r3
    have st3 := st2.go x3
    obtain ⟨p, o, vs, fq, e1, e2, _, e3, e4, e5, wr⟩ := st3.write hg (l.mono x3.h) hat
    obtain ⟨e6, e7⟩ := e4.toD
    obtain ⟨e8, e9⟩ := e3
    subst e1
    subst e9
    subst e6
    have hl2 : ns.length = vs.length := by rw [← e8]; exact (List.length_map _).symm
    refine ⟨p, _, rfl, .inl ⟨_, .inl k, e2, rfl, Evl.sz_lt (by rw [List.length_zip]; unfold ik; rw [List.length_map]; omega), rfl⟩, ?_⟩
    refine ac.nx _ _ S3 _ σ kk ((ex1.trans x2.s).trans x3.s) (wr _ (.dic (ik (ns ++ [k]))) (vs ++ [v]) _ [] ⟨?_, ?_⟩ (OwnL.ofD (e7.append (.cons (r1.mono (x2.s.trans x3.s)) .nil))) (List.Sublist.refl _))
    · unfold ik
      rw [List.length_map, List.length_append, List.length_append, hl2]
      rfl
    · rw [putK_new v (valV_out hl2 hn)]
      unfold ik
      rw [List.map_append, List.zip_append (by rw [List.length_map]; exact hl2)]
      rfl
theorem em_dnew : EvM K tDNewK ρ (.n (.dic []) []) := fun S H σ e v Q q => fun p hp =>
  q p [p] S _ (Ext.hid e hp) (.n (o := .dK []) (vs := []) (fp := []) upd_same ⟨rfl, rfl⟩ .nil) (by simp) fun a ha => by
    rw [List.mem_singleton.mp ha]
    exact ⟨hp, sub_none e hp⟩
end
theorem nD_kI (l : List Nat) : nD l = (kI l).map D.int := by unfold nD kI; rw [List.map_map]; rfl
theorem nD_len (l : List Nat) : (nD l).length = l.length := by unfold nD; rw [List.length_map]
def tiedM (l : List (Nat × List Nat)) : M := .n (.dic (ik (kI (l.map (·.1))))) ((l.map fun p => D.lst (nD p.2)).map M.d)
open Classical in
/-- the bars that are too many -/
noncomputable def manyL (n : Nat) (nb : List Fr.Bar) : List Nat := (List.range nb.length).filter fun i => decide (Fr.Hld n (nb.eraseIdx i) (Fr.barAt nb i).1 (Fr.barAt nb i).2)
open Classical in
theorem manyL_mem {n : Nat} {nb : List Fr.Bar} {i : Nat} : i ∈ manyL n nb ↔ i < nb.length ∧ Fr.Hld n (nb.eraseIdx i) (Fr.barAt nb i).1 (Fr.barAt nb i).2 := by
  unfold manyL
  rw [List.mem_filter, List.mem_range, decide_eq_true_eq]
theorem manyL_rise (n : Nat) (nb : List Fr.Bar) : (manyL n nb).Pairwise (· < ·) := List.pairwise_lt_range.filter _
theorem manyL_len (n : Nat) (nb : List Fr.Bar) : (manyL n nb).length ≤ nb.length := by
  unfold manyL
  exact Nat.le_trans (List.length_filter_le _ _) (by rw [List.length_range]; exact Nat.le_refl _)
def orderBut (m i : Nat) : List Nat := (List.range m).filter (fun a => !decide (a = i)) ++ [i]
theorem orderBut_perm {m i : Nat} (h : i < m) : (orderBut m i).Perm (List.range m) := by
  unfold orderBut
  have nd : ((List.range m).filter (fun a => !decide (a = i)) ++ [i]).Nodup := List.nodup_append.mpr ⟨List.nodup_range.filter _, by simp, fun a ha b hb e => by
    rw [List.mem_singleton.mp hb] at e
    subst e
    simpa using (List.mem_filter.mp ha).2⟩
  refine (List.perm_ext_iff_of_nodup nd List.nodup_range).mpr fun x => ?_
  rw [List.mem_append, List.mem_filter, List.mem_singleton]
  simp only [List.mem_range, Bool.not_eq_true', decide_eq_false_iff_not]
  constructor
  · rintro (⟨h1, _⟩ | rfl)
    · exact h1
    · exact h
  · intro hx
    by_cases q : x = i
    · exact .inr q
    · exact .inl ⟨hx, q⟩
/-- the knot told of a bar -/
def knotOf (n : Nat) (nb : List Fr.Bar) (i : Nat) : Option (Nat × List Nat) := (Fr.tiedL nb (List.replicate n []) (orderBut nb.length i) []).find? fun p => decide (p.1 = i)
def knotD (n : Nat) (nb : List Fr.Bar) (i : Nat) : D := match knotOf n nb i with
  | none => .non
  | some p => .lst (nD p.2)
end Pl

/-! The worth, the parts, and the bars that are too many: one bar less, one bar more. -/
namespace Fr
section
variable {n : Nat} {nb as bs : List Bar}
theorem rk_slim : rk n nb = nb.length ↔ Slim n nb := by
  constructor
  · intro h
    have e : pickB n [] nb = nb := (pickB_sub nb []).eq_of_length h
    rw [← e]
    exact basis_slim n nb
  · intro h
    unfold rk
    rw [basis_all h]
theorem rk_le (n : Nat) (nb : List Bar) : rk n nb ≤ nb.length := (pickB_sub nb []).length_le
/-- bars that are not lean: one is held by others -/
theorem not_slim_hld (ok : Ok n nb) (h : ¬ Slim n nb) : ∃ i, i < nb.length ∧ Hld n (nb.eraseIdx i) (barAt nb i).1 (barAt nb i).2 := by
  obtain ⟨m, h1, h2⟩ := least_ex (p := fun m => ¬ Slim n (nb.take m)) nb.length (by rwa [List.take_length])
  obtain ⟨i, rfl⟩ : ∃ i, m = i + 1 := by
    cases m with
    | zero => exact (h1 (by rw [List.take_zero]; exact Pl.slim_nil n)).elim
    | succ i => exact ⟨i, rfl⟩
  have sl : Slim n (nb.take i) := by
    by_cases q : Slim n (nb.take i)
    · exact q
    · exact (h2 i (Nat.lt_succ_self i) q).elim
  have hi : i < nb.length := by
    by_cases q : i < nb.length
    · exact q
    · exact (h1 (by rw [List.take_of_length_le (by omega)]; rw [List.take_of_length_le (by omega)] at sl; exact sl)).elim
  have e : nb.take (i + 1) = nb.take i ++ [barAt nb i] := by rw [barAt_get hi]; exact (List.take_append_getElem hi).symm
  rw [e] at h1
  have o := ok _ (barAt_mem hi)
  have sp : Spn n (nb.take i) (barAt nb i).1 (barAt nb i).2 := by
    by_cases q : Spn n (nb.take i) (barAt nb i).1 (barAt nb i).2
    · exact q
    · exact (h1 ((slim_snoc sl o.1 o.2.1 o.2.2).mpr q)).elim
  refine ⟨i, hi, spn_hld (ok.sub (List.take_sublist _ _)) sl (ok.sub (List.eraseIdx_sublist _ _)) (fun x hx => ?_) o.1 o.2.1 o.2.2 sp⟩
  obtain ⟨j, hj, ej⟩ := List.mem_iff_getElem.mp hx
  rw [List.length_take] at hj
  rw [List.getElem_take] at ej
  have := erase_mem (nb := nb) (i := i) (j := j) (by omega) (by omega)
  rw [barAt_get (by omega)] at this
  rw [← ej]
  exact this
theorem slim_not_hld (ok : Ok n nb) (h : Slim n nb) {i : Nat} (hi : i < nb.length) : ¬ Hld n (nb.eraseIdx i) (barAt nb i).1 (barAt nb i).2 := fun q => by
  have r := ((rk_less ok hi).1 (by rw [← barAt_get hi]; exact q)).1
  have r1 := rk_slim.mpr h
  have r2 := rk_le n (nb.eraseIdx i)
  rw [List.length_eraseIdx_of_lt hi] at r2
  omega
theorem part_congr {K L : List Bar} (h : ∀ a b, a < n → b < n → a ≠ b → (Spn n K a b ↔ Spn n L a b)) {a b c : Nat} (ha : a < n) (hb : b < n) (hc : c < n) : part n K a b c = part n L a b c := by
  have e : part n K a b c = true ↔ part n L a b c = true := by
    rw [part_iff, part_iff]
    by_cases q1 : c = a
    · exact ⟨fun _ => .inl q1, fun _ => .inl q1⟩
    by_cases q2 : c = b
    · exact ⟨fun _ => .inr (.inl q2), fun _ => .inr (.inl q2)⟩
    rw [h a c ha hc (Ne.symm q1), h b c hb hc (Ne.symm q2)]
  cases h1 : part n K a b c <;> cases h2 : part n L a b c <;> simp_all
theorem ld_congr {K L : List Bar} (h : ∀ a b, a < n → b < n → a ≠ b → (Spn n K a b ↔ Spn n L a b)) (a b : Nat) : Ld n K a b ↔ Ld n L a b := by
  constructor
  · rintro ⟨h1, h2, h3, h4⟩
    exact ⟨h1, h2, (h a b (by omega) h2 (by omega)).mp h3, fun c hc p => h4 c hc (by rw [part_congr h (by omega) h2 hc]; exact p)⟩
  · rintro ⟨h1, h2, h3, h4⟩
    exact ⟨h1, h2, (h a b (by omega) h2 (by omega)).mpr h3, fun c hc p => h4 c hc (by rw [← part_congr h (by omega) h2 hc]; exact p)⟩
theorem ldrs_congr {K L : List Bar} (h : ∀ a b, a < n → b < n → a ≠ b → (Spn n K a b ↔ Spn n L a b)) : ldrs n K = ldrs n L := by
  unfold ldrs
  congr 1
  funext a
  congr 1
  refine List.filter_congr fun b _ => ?_
  exact decide_eq_decide.mpr (ld_congr h a b)
end
end Fr
namespace Pl
open PySem PySem.Spec PyProof.Rows L2
section
variable {n : Nat} {nb as bs : List Fr.Bar}
theorem parts_congr (h : ∀ a b, a < n → b < n → a ≠ b → (Fr.Hld n as a b ↔ Fr.Hld n bs a b)) : partsL n as = partsL n bs := by
  unfold partsL
  rw [Fr.ldrs_congr h]
  refine List.map_congr_left fun p hp => ?_
  obtain ⟨h1, h2, _⟩ := Fr.ldrs_mem.mp hp
  unfold partL
  exact List.filter_congr fun c hc => Fr.part_congr h (by omega) h2 (List.mem_range.mp hc)
theorem many_nil (ok : Fr.Ok n nb) : manyL n nb = [] ↔ Fr.Slim n nb := by
  constructor
  · intro h
    by_cases q : Fr.Slim n nb
    · exact q
    · obtain ⟨i, hi, hh⟩ := Fr.not_slim_hld ok q
      have := manyL_mem.mpr ⟨hi, hh⟩
      rw [h] at this
      cases this
  · intro h
    cases e : manyL n nb with
    | nil => rfl
    | cons i r =>
      have : i ∈ manyL n nb := by rw [e]; exact List.mem_cons_self
      obtain ⟨hi, hh⟩ := manyL_mem.mp this
      exact (Fr.slim_not_hld ok h hi hh).elim
theorem knot_none (ok : Fr.Ok n nb) {i : Nat} (hi : i < nb.length) : knotD n nb i = .non ↔ ¬ Fr.Hld n (nb.eraseIdx i) (Fr.barAt nb i).1 (Fr.barAt nb i).2 := by
  have pm := orderBut_perm hi
  unfold orderBut at pm
  have h := Fr.tied_last ok pm hi
  unfold knotD knotOf orderBut
  constructor
  · intro e q
    obtain ⟨p, hp, ep⟩ := h.mpr q
    cases f : (Fr.tiedL nb (List.replicate n []) ((List.range nb.length).filter (fun a => !decide (a = i)) ++ [i]) []).find? fun p => decide (p.1 = i) with
    | none =>
      have := List.find?_eq_none.mp f p hp
      simp [ep] at this
    | some p => rw [f] at e; cases e
  · intro q
    cases f : (Fr.tiedL nb (List.replicate n []) ((List.range nb.length).filter (fun a => !decide (a = i)) ++ [i]) []).find? fun p => decide (p.1 = i) with
    | none => rfl
    | some p => exact (q (h.mp ⟨p, List.mem_of_find?_eq_some f, by have z := List.find?_some f; simpa using z⟩)).elim
/-- without a bar -/
theorem rk_without (ok : Fr.Ok n nb) {i : Nat} (hi : i < nb.length) : (Fr.rk n (nb.eraseIdx i) : Int) = (Fr.rk n nb : Int) - (if !decide (i ∈ manyL n nb) then 1 else 0) := by
  obtain ⟨h1, h2⟩ := Fr.rk_less ok hi
  rw [← Fr.barAt_get hi] at h1 h2
  by_cases q : i ∈ manyL n nb
  · have := (h1 (manyL_mem.mp q).2).1
    rw [decide_eq_true q]
    simp
    omega
  · have := h2 fun z => q (manyL_mem.mpr ⟨hi, z⟩)
    rw [decide_eq_false q]
    simp
    omega
theorem parts_without (ok : Fr.Ok n nb) {i : Nat} (hi : i < nb.length) (q : i ∈ manyL n nb) : partsL n (nb.eraseIdx i) = partsL n nb :=
  parts_congr ((Fr.rk_less ok hi).1 (by rw [← Fr.barAt_get hi]; exact (manyL_mem.mp q).2)).2
theorem erase_cut (nb : List Fr.Bar) (i : Nat) : nb.take i ++ nb.drop (i + 1) = nb.eraseIdx i := (List.eraseIdx_eq_take_drop_succ nb i).symm
theorem erase_last (nb : List Fr.Bar) (x : Fr.Bar) : (nb ++ [x]).eraseIdx nb.length = nb := by
  rw [List.eraseIdx_append_of_length_le (Nat.le_refl _), Nat.sub_self]
  simp
theorem barAt_last (nb : List Fr.Bar) (x : Fr.Bar) : Fr.barAt (nb ++ [x]) nb.length = x := by
  unfold Fr.barAt
  simp [List.getD]
end
theorem rc_int1 {K : PySem.W.Frag} {k : Bool} : RC K (fun xs H Q => (∃ i, xs = [V.int i] ∧ Q (.int i) H) ∨ ∃ k, xs = [V.bl k] ∧ Q (.int (if k then 1 else 0)) H) [.bl k] (.int (if k then 1 else 0)) := fun S H vs e r Q q => by
  cases r with
  | cons h t =>
    cases t
    cases h
    exact .inr ⟨k, rfl, q _ S H (Ext.refl e) (.int _)⟩
end Pl
namespace Pl
open PySem PySem.Spec PyProof.Rows L2
theorem size_3 (a b : Int) : Builtin.Range.rangeSize a b 3 = if a < b then (b - a - 1) / 3 + 1 else 0 := by
  unfold Builtin.Range.rangeSize
  rw [if_pos (by decide)]
theorem small_3 {a b : Int} (ha : 0 ≤ a) (ha' : a ≤ 1000) (hb : 0 ≤ b) (hb' : b ≤ 1000) : Builtin.Range.small a b 3 = true := by
  unfold Builtin.Range.small
  rw [size_3, if_pos (show (3 : Int) > 0 by decide)]
  have q1 : 0 ≤ (b - a - 1) / 3 + 1 ∨ ¬ a < b := by omega
  have q2 : (b - a - 1) / 3 + 1 ≤ 1001 := by omega
  generalize (b - a - 1) / 3 + 1 = n at q1 q2
  simp only [Builtin.Range.rangeFitsLong, Bool.and_eq_true, Bool.or_eq_true, decide_eq_true_eq, beq_iff_eq]
  split <;> omega
theorem rgc3 (a b : Nat) (ha : a ≤ 1000) (hb : b ≤ 1000) : ∃ n : Nat, RgC (a : Int) (b : Int) 3 n ∧ n ≤ 1000 ∧ ∀ i : Nat, i < n → a + i * 3 < b := by
  refine ⟨if a < b then (b - a - 1) / 3 + 1 else 0, ⟨by decide, by decide, small_3 (by omega) (by omega) (by omega) (by omega), ?_⟩, by split <;> omega, fun i hi => by split at hi <;> omega⟩
  rw [size_3]
  split <;> split <;> omega
theorem size_5 (a b : Int) : Builtin.Range.rangeSize a b 5 = if a < b then (b - a - 1) / 5 + 1 else 0 := by
  unfold Builtin.Range.rangeSize
  rw [if_pos (by decide)]
theorem small_5 {a b : Int} (ha : 0 ≤ a) (ha' : a ≤ 1000) (hb : 0 ≤ b) (hb' : b ≤ 1000) : Builtin.Range.small a b 5 = true := by
  unfold Builtin.Range.small
  rw [size_5, if_pos (show (5 : Int) > 0 by decide)]
  have q1 : 0 ≤ (b - a - 1) / 5 + 1 ∨ ¬ a < b := by omega
  have q2 : (b - a - 1) / 5 + 1 ≤ 1001 := by omega
  generalize (b - a - 1) / 5 + 1 = n at q1 q2
  simp only [Builtin.Range.rangeFitsLong, Bool.and_eq_true, Bool.or_eq_true, decide_eq_true_eq, beq_iff_eq]
  split <;> omega
theorem rgc5 (a b : Nat) (ha : a ≤ 1000) (hb : b ≤ 1000) : ∃ n : Nat, RgC (a : Int) (b : Int) 5 n ∧ n ≤ 1000 ∧ ∀ i : Nat, i < n → a + i * 5 < b := by
  refine ⟨if a < b then (b - a - 1) / 5 + 1 else 0, ⟨by decide, by decide, small_5 (by omega) (by omega) (by omega) (by omega), ?_⟩, by split <;> omega, fun i hi => by split at hi <;> omega⟩
  rw [size_5]
  split <;> split <;> omega
/-- lists of lists of numbers, compared -/
theorem rowsD_eq {as bs : List (List Nat)} : as.map rowD = bs.map rowD ↔ as = bs := by
  refine (List.map_inj_right fun x y h => ?_)
  have h : D.lst (nD x) = D.lst (nD y) := h
  injection h with h
  exact (List.map_inj_right fun a b e => by injection e with e; omega).mp h
theorem rows_okd (as : List (List Nat)) : (D.lst (as.map rowD)).okd 60 = true := by
  refine List.all_eq_true.mpr fun x hx => ?_
  obtain ⟨l, _, rfl⟩ := List.mem_map.mp hx
  exact List.all_eq_true.mpr fun y hy => by obtain ⟨i, _, rfl⟩ := List.mem_map.mp hy; rfl
theorem rows_sm (as : List (List Nat)) : (D.lst (as.map rowD)).sm 60 = true := by
  refine List.all_eq_true.mpr fun x hx => ?_
  obtain ⟨l, _, rfl⟩ := List.mem_map.mp hx
  exact List.all_eq_true.mpr fun y hy => by obtain ⟨i, _, rfl⟩ := List.mem_map.mp hy; rfl
theorem rv_eqRows {K : PySem.W.Frag} {as bs : List (List Nat)} : RV K (rEqD K) (.lst (as.map rowD)) (.lst (bs.map rowD)) (.bl (decide (as = bs))) :=
  rv_eqS (rows_okd as) (rows_okd bs) (rows_sm as) (rows_sm bs) (by rw [decide_eq_true_eq, D.lst.injEq, rowsD_eq])
theorem rv_neRows {K : PySem.W.Frag} {as bs : List (List Nat)} : RV K (rNeD K) (.lst (as.map rowD)) (.lst (bs.map rowD)) (.bl (!decide (as = bs))) :=
  rv_neS (rows_okd as) (rows_okd bs) (rows_sm as) (rows_sm bs) (by rw [decide_eq_true_eq, D.lst.injEq, rowsD_eq])
end Pl
namespace Pl
def pOne (u : Int) (n : Nat) : Nat := (u % (n : Int)).toNat
def pOther (u v : Int) (n : Nat) : Nat := (((pOne u n : Int) + 1 + v % ((n : Int) - 1)) % (n : Int)).toNat
theorem pPair (u v : Int) {n : Nat} (h : 2 ≤ n) : ((pOne u n : Nat) : Int) = u % (n : Int) ∧ ((pOther u v n : Nat) : Int) = ((pOne u n : Int) + 1 + v % ((n : Int) - 1)) % (n : Int) ∧ pOne u n < n ∧ pOther u v n < n ∧ pOne u n ≠ pOther u v n := by
  have a1 := Int.emod_nonneg u (show (n : Int) ≠ 0 by omega)
  have a2 := Int.emod_lt_of_pos u (show (0 : Int) < (n : Int) by omega)
  have e1 : ((pOne u n : Nat) : Int) = u % (n : Int) := by unfold pOne; omega
  have b1 := Int.emod_nonneg ((pOne u n : Int) + 1 + v % ((n : Int) - 1)) (show (n : Int) ≠ 0 by omega)
  have b2 := Int.emod_lt_of_pos ((pOne u n : Int) + 1 + v % ((n : Int) - 1)) (show (0 : Int) < (n : Int) by omega)
  have e2 : ((pOther u v n : Nat) : Int) = ((pOne u n : Int) + 1 + v % ((n : Int) - 1)) % (n : Int) := by unfold pOther; omega
  refine ⟨e1, e2, by omega, by omega, fun e => ?_⟩
  have c1 := Int.emod_nonneg v (show (n : Int) - 1 ≠ 0 by omega)
  have c2 := Int.emod_lt_of_pos v (show (0 : Int) < (n : Int) - 1 by omega)
  generalize v % ((n : Int) - 1) = t at *
  by_cases l : (pOne u n : Int) + 1 + t < n
  · rw [Int.emod_eq_of_lt (by omega) l] at e2
    omega
  · rw [← Int.sub_emod_right, Int.emod_eq_of_lt (by omega) (by omega)] at e2
    omega
theorem brs_take (nb : List Fr.Bar) (k : Nat) : (brs nb).take k = brs (nb.take k) := by unfold brs; rw [List.map_take, List.map_take]
theorem brs_drop (nb : List Fr.Bar) (k : Nat) : (brs nb).drop k = brs (nb.drop k) := by unfold brs; rw [List.map_drop, List.map_drop]
def crowdD (n : Nat) (nb : List Fr.Bar) : D := match crowdL (List.replicate n []) nb with
  | none => .non
  | some ks => .lst ((kI (sortN ks)).map D.int)
theorem crowdD_iff {n : Nat} {nb : List Fr.Bar} (ok : Fr.Ok n nb) : crowdD n nb = .non ↔ Fr.Slim n nb := by
  unfold crowdD
  rw [← (Fr.crowd_spec ok).1]
  cases crowdL (List.replicate n []) nb with
  | none => exact ⟨fun _ => rfl, fun _ => rfl⟩
  | some ks => exact ⟨fun h => (by cases h), fun h => (by cases h)⟩
end Pl

/-! sorted of a list of data that are alike. -/
namespace So
open PySem PySem.Spec PySem.Calls PyProof.Rows L2 PySem.W
abbrev leD (x y : V × PyData) : Bool := sortLe (listOrd itemOrd) false (fun b : V × PyData => keyToks b.2) x y
def rSortD (K : PySem.W.Frag) : List V → Hp → VK → Prop := fun vs H Q => ∃ (a : Addr) (xs : List V) (ds : List PyData), vs = [V.ref a] ∧ SqL K H a xs ∧ DpAll K H xs ds ∧ AllAlike ds ∧ Sortable ds ∧ (∀ d ∈ ds, d.depth ≤ 60) ∧
  ∀ p : Addr, H p = none → Q (.ref p) (upd H p (.lst (((xs.zip ds).mergeSort leD).map Prod.fst)))
section
variable {X : Cx}
theorem each_of {h : Heap} : ∀ {xs : List V} {us : List Value} {ds : List PyData} {as : List Addr}, Vals xs us → ReadsAll h us ds as → EachIs (fun v (b : V × PyData) => RelV b.1 v ∧ ∃ as, Reads h v b.2 as) us (xs.zip ds)
  | _, _, _, _, .nil, r => by cases r; exact .nil
  | _, _, _, _, .cons hx hr, r => by
    cases r with
    | cons r rs => exact .cons ⟨hx, _, r⟩ (each_of hr rs)
theorem vals_of {h : Heap} : ∀ {us : List Value} {bs : List (V × PyData)}, EachIs (fun v (b : V × PyData) => RelV b.1 v ∧ ∃ as, Reads h v b.2 as) us bs → Vals (bs.map Prod.fst) us
  | _, _, .nil => .nil
  | _, _, .cons h r => .cons h.1 (vals_of r)
theorem data_of {h : Heap} : ∀ {us : List Value} {ds : List PyData} {as : List Addr}, ReadsAll h us ds as → EachIs (fun v d => ∃ as, Reads h v d as) us ds
  | [], _, _, r => by cases r; exact .nil
  | _ :: us, _, _, r => by
    cases r with
    | cons r rs => exact .cons ⟨_, r⟩ (data_of rs)
theorem cr_sortD (hu : X.A.units + 64 < cLine) : CallR X (.builtin "sorted") (rSortD X.K) := by
  intro pins s σ H vs us Q I r h
  obtain ⟨a, xs, ds, rfl, hs, hd, hal, hk, hdep, q⟩ := h
  obtain ⟨its, rv, hl, hz⟩ := I.list hs
  rw [Vals.ref1 r]
  obtain ⟨as, rd⟩ := Dp.readsAll I ds _ its hd rv
  have hlen : its.length ≤ sizeLine := by rw [← rv.length]; exact hz
  have old : ∀ b o, s.heap.get? b = some o → (sortingHeap (copyHeap s.heap its) (s.heap.objs.size + 1) its).get? b = some o := fun b o e => sorting_copy_old e
  have e1 := data_of rd
  have e2 : EachIs (fun v d => ∃ as, Reads (sortingHeap (copyHeap s.heap its) (s.heap.objs.size + 1) its) v d as) its ds := e1.mono fun v d ⟨as, r⟩ => ⟨as, Reads.keeps old r⟩
  refine sorted_vals hl.isList (SortsAt.data (s := { s with heap := sortingHeap (copyHeap s.heap its) (s.heap.objs.size + 1) its }) e2 hal hk fun d hdm => ?_) hlen ?_
  · have := hdep d hdm
    show X.A.units + 1 + 1 + d.depth < cLine
    omega
  · have eb := each_of rv rd
    have ek : EachIs (fun v (b : V × PyData) => (dataKind (sortingHeap (copyHeap s.heap its) (s.heap.objs.size + 1) its) ds).keyOf v = some (keyToks b.2)) its (xs.zip ds) := by
      refine EachIs.of_zip eb.length fun p hp => ?_
      obtain ⟨_, as', rr⟩ := eb.zip p hp
      have hm : p.2 ∈ xs.zip ds := (List.of_mem_zip hp).2
      exact dataKind_some hal (List.of_mem_zip hm).2 (Reads.keeps old rr)
    have es := sortVals_each (κ := dataKind (sortingHeap (copyHeap s.heap its) (s.heap.objs.size + 1) its) ds) (rev := false) (fun b : V × PyData => keyToks b.2) eb ek
    have hv := vals_of es
    obtain ⟨ep, he'⟩ := sortedAll_at s.heap its (sortVals (dataKind (sortingHeap (copyHeap s.heap its) (s.heap.objs.size + 1) its) ds) false its its).toArray
    have hlv : (((xs.zip ds).mergeSort leD).map Prod.fst).length ≤ sizeLine := by
      have e3 := hv.length
      rw [sortVals_length false rfl] at e3
      exact Nat.le_trans (Nat.le_of_eq e3) hlen
    exact ⟨.ref _, upd H (s.heap.objs.size + 1) (.lst (((xs.zip ds).mergeSort leD).map Prod.fst)), I.laid (t' := s.toks) (fun _ _ => sortedAll_old) (Nat.le_succ _) ⟨hlv, _, ep, hv, he'⟩, rfl, q _ (I.hok.fresh (Nat.le_succ _))⟩
end
end So

/-! sorted of a list of lists of numbers. -/
namespace Pl
open PySem PySem.Spec PyProof.Rows L2 PySem.W
open Evl (Ex)
def rowP (l : List Nat) : PyData := (rowD l).py
def rowLt (a b : List Nat) : Bool := lexLt itemOrd (keyToks (rowP a)) (keyToks (rowP b))
theorem rowP_eq (l : List Nat) : rowP l = .list (l.map fun k : Nat => .int (k : Int)) := by
  show PyData.list (pyL (nD l)) = _
  rw [pyL_map]
  unfold nD
  rw [List.map_map]
  rfl
theorem row_nil (b : List Nat) (y : Nat) : rowLt [] (y :: b) = true := by
  unfold rowLt
  rw [rowP_eq, rowP_eq]
  show lexLt itemOrd [.inl 0] (.inl 1 :: (_ ++ _)) = true
  rw [lex_diff (O := itemOrd) (by decide)]
  rfl
theorem row_cons (x y : Nat) (l m : List Nat) : rowLt (x :: l) (y :: m) = if x = y then rowLt l m else decide (x < y) := by
  unfold rowLt
  rw [rowP_eq, rowP_eq, rowP_eq, rowP_eq]
  show lexLt itemOrd (.inl 1 :: (.inl (x : Int) :: keyToksAll (l.map fun k : Nat => PyData.int (k : Int)))) (.inl 1 :: (.inl (y : Int) :: keyToksAll (m.map fun k : Nat => PyData.int (k : Int)))) = if x = y then lexLt itemOrd (keyToksAll (l.map fun k : Nat => PyData.int (k : Int))) (keyToksAll (m.map fun k : Nat => PyData.int (k : Int))) else decide (x < y)
  rw [lex_self (O := itemOrd)]
  by_cases e : x = y
  · subst e
    rw [if_pos rfl, lex_self (O := itemOrd)]
  · rw [if_neg e, lex_diff (O := itemOrd) (fun z => e (by injection z with z; omega))]
    show decide ((x : Int) < (y : Int)) = _
    exact decide_eq_decide.mpr (by omega)
theorem toks_inj : ∀ {a b : List Nat}, keyToks (rowP a) = keyToks (rowP b) → a = b
  | [], [], _ => rfl
  | [], y :: b, h => by
    rw [rowP_eq, rowP_eq] at h
    have h : [Sum.inl (0 : Int)] = (Sum.inl 1 :: _ : List (Int ⊕ List Nat)) := h
    injection h with h _
    injection h with h
    exact absurd h (by decide)
  | x :: a, [], h => by
    rw [rowP_eq, rowP_eq] at h
    have h : (Sum.inl 1 :: _ : List (Int ⊕ List Nat)) = [Sum.inl (0 : Int)] := h
    injection h with h _
    injection h with h
    exact absurd h (by decide)
  | x :: a, y :: b, h => by
    rw [rowP_eq, rowP_eq] at h
    have h : (Sum.inl (1 : Int) :: (Sum.inl (x : Int) :: keyToksAll (a.map fun k : Nat => PyData.int (k : Int))) : List (Int ⊕ List Nat)) = Sum.inl 1 :: (Sum.inl (y : Int) :: keyToksAll (b.map fun k : Nat => PyData.int (k : Int))) := h
    injection h with _ h
    injection h with h1 h2
    injection h1 with h1
    have : a = b := toks_inj (by rw [rowP_eq, rowP_eq]; exact h2)
    rw [this, show x = y by omega]
theorem row_anti {a b : List Nat} (h1 : rowLt a b = false) (h2 : rowLt b a = false) : a = b := toks_inj (lex_total (O := itemOrd) _ _ h1 h2)
theorem row_asym {a b : List Nat} (h : rowLt a b = true) : rowLt b a = false := by
  cases e : rowLt b a with
  | false => rfl
  | true =>
    have z := (listOrd itemOrd).trans _ _ _ (show (listOrd itemOrd).blt (keyToks (rowP a)) (keyToks (rowP b)) = true from h) e
    rw [(listOrd itemOrd).irrefl] at z
    cases z
section
variable {K : PySem.W.Frag}
theorem ok_sortD {X : Cx} (h : X.K = K) (hu : X.A.units + 64 < cLine) : CallR X (.builtin "sorted") (So.rSortD K) := by subst h; exact So.cr_sortD hu
abbrev rowR (a b : V × List Nat) : Bool := sortLe (listOrd itemOrd) false (fun p : V × List Nat => keyToks (rowP p.2)) a b
theorem RdL.pairs {S : Hp} : ∀ {T : List (V × List Nat)}, (∀ p ∈ T, Rd K S p.1 (rowD p.2)) → RdL K S (T.map Prod.fst) ((T.map Prod.snd).map rowD)
  | [], _ => .nil
  | p :: T, h => .cons (h p List.mem_cons_self) (RdL.pairs fun q hq => h q (List.mem_cons_of_mem _ hq))
theorem RdL.zipR {S : Hp} : ∀ {xs : List V} {as : List (List Nat)}, RdL K S xs (as.map rowD) → ∀ p ∈ xs.zip as, Rd K S p.1 (rowD p.2)
  | [], _, _, p, hp => by cases hp
  | x :: xs, [], r, p, hp => by cases r
  | x :: xs, a :: as, r, p, hp => by
    have r : RdL K S (x :: xs) (rowD a :: as.map rowD) := r
    cases r with
    | cons h t =>
      rcases List.mem_cons.mp hp with rfl | hp
      · exact h
      · exact RdL.zipR t p hp
theorem rc_sortRows {as bs : List (List Nat)} (hp : bs.Perm as) (hs : bs.Pairwise fun a b => rowLt b a = false) : RCF K (So.rSortD K) [.lst (as.map rowD)] (bs.map rowD) := fun S H vs e r Q q => by
  cases r with
  | cons h t =>
    cases t
    cases h with
    | lst ha rl =>
      rename_i a xs
      have hlen : xs.length = as.length := by rw [rl.length, List.length_map]
      have okd : ∀ x ∈ as.map rowD, x.okd 59 = true := fun x hx => by
        obtain ⟨l, _, rfl⟩ := List.mem_map.mp hx
        exact List.all_eq_true.mpr fun y hy => by obtain ⟨i, _, rfl⟩ := List.mem_map.mp hy; rfl
      have dp := dpL (fun v d => Rd.dp 59 v d) _ _ okd (rl.mono e)
      have ed : pyL (as.map rowD) = as.map rowP := by rw [pyL_map, List.map_map]; rfl
      rw [ed] at dp
      have isl : ∀ d ∈ as.map rowP, ∃ l : List Nat, d = .list (l.map fun k : Nat => .int (k : Int)) := fun d hd => by
        obtain ⟨l, _, rfl⟩ := List.mem_map.mp hd
        exact ⟨l, rowP_eq l⟩
      refine ⟨a, xs, as.map rowP, rfl, Evl.sq_of (e _ _ ha), dp, fun d hd d' hd' => ?_, .inr fun d hd => ?_, fun d hd => ?_, fun p hpn => ?_⟩
      · obtain ⟨l, rfl⟩ := isl d hd
        obtain ⟨m, rfl⟩ := isl d' hd'
        show alikeAll _ _ = true
        clear hd hd'
        induction l generalizing m with
        | nil => rfl
        | cons x l ih =>
          cases m with
          | nil => rfl
          | cons y m => exact ih m
      · obtain ⟨l, rfl⟩ := isl d hd
        exact ⟨fun z => (by cases z), fun xs z => (by cases z)⟩
      · obtain ⟨l, hl, rfl⟩ := List.mem_map.mp hd
        exact (okd_shape 60 (rowD l) (by
          exact List.all_eq_true.mpr fun y hy => by obtain ⟨i, _, rfl⟩ := List.mem_map.mp hy; rfl)).2
      · -- the sorted pairs
        have em : ((xs.zip as).mergeSort rowR).map (fun p => (p.1, rowP p.2)) = (xs.zip (as.map rowP)).mergeSort So.leD := by
          rw [sort_maps (r := rowR) (s := So.leD) (fun p : V × List Nat => (p.1, rowP p.2)) (fun a _ b _ => rfl)]
          congr 1
          rw [List.zip_map_right]
          rfl
        have pm : ((xs.zip as).mergeSort rowR).Perm (xs.zip as) := List.mergeSort_perm _ _
        have e1 : ((xs.zip (as.map rowP)).mergeSort So.leD).map Prod.fst = ((xs.zip as).mergeSort rowR).map Prod.fst := by
          rw [← em, List.map_map]
          rfl
        have snd : ((xs.zip as).mergeSort rowR).map Prod.snd = bs := by
          have p2 : (((xs.zip as).mergeSort rowR).map Prod.snd).Perm as := by
            have := pm.map Prod.snd
            rwa [List.map_snd_zip (by omega)] at this
          have s2 := sort_pairwise (sortLe_total (listOrd itemOrd) false fun p : V × List Nat => keyToks (rowP p.2)) (xs.zip as)
          have s3 : (((xs.zip as).mergeSort rowR).map Prod.snd).Pairwise fun a b => rowLt b a = false := by
            rw [List.pairwise_map]
            refine s2.imp fun {a b} h => ?_
            have h : (!rowLt b.2 a.2) = true := h
            simpa using h
          exact (p2.trans hp.symm).eq_of_pairwise (fun a b _ _ h1 h2 => row_anti h2 h1) s3 hs
        rw [e1]
        have rr := RdL.pairs (K := K) (S := S) (T := (xs.zip as).mergeSort rowR) fun p hpm => RdL.zipR rl p (pm.mem_iff.mp hpm)
        rw [snd] at rr
        exact q p _ S _ (Ext.hid e hpn) hpn (sub_none e hpn) upd_same rr
end
end Pl

/-! Other names for joints: the worth, what is held, parts. -/
namespace Fr
def fb (f : Nat → Nat) (b : Bar) : Bar := (f b.1, f b.2)
/-- f and g turn the joints about, each the other's way back -/
structure Turn (n : Nat) (f g : Nat → Nat) : Prop where
  fl : ∀ x, x < n → f x < n
  gl : ∀ x, x < n → g x < n
  gf : ∀ x, x < n → g (f x) = x
  fg : ∀ x, x < n → f (g x) = x
section
variable {n : Nat} {f g : Nat → Nat} {nb K : List Bar}
theorem Turn.symm (t : Turn n f g) : Turn n g f := ⟨t.gl, t.fl, t.fg, t.gf⟩
theorem Turn.inj (t : Turn n f g) : ∀ x y, x < n → y < n → f x = f y → x = y := fun x y hx hy h => by
  have := congrArg g h
  rwa [t.gf x hx, t.gf y hy] at this
theorem ok_map (t : Turn n f g) (ok : Ok n nb) : Ok n (nb.map (fb f)) := fun c hc => by
  obtain ⟨b, hb, rfl⟩ := List.mem_map.mp hc
  obtain ⟨o1, o2, o3⟩ := ok b hb
  exact ⟨t.fl _ o1, t.fl _ o2, fun e => o3 (t.inj _ _ o1 o2 e)⟩
theorem ins_map (K : List Bar) (f : Nat → Nat) (S : JS) : ins (K.map (fb f)) S = ins K fun x => S (f x) := by
  unfold ins
  rw [List.countP_map]
  rfl
theorem slim_map (t : Turn n f g) (sl : Slim n K) : Slim n (K.map (fb f)) := name_slim (f := f) t.inj t.fl sl fun S => ins_map K f S
theorem spn_map (t : Turn n f g) (ok : Ok n K) {a b : Nat} (ha : a < n) (hb : b < n) (h : Spn n K a b) : Spn n (K.map (fb f)) (f a) (f b) := by
  obtain ⟨S, ⟨t1, t2⟩, s1, s2⟩ := h
  refine ⟨fun x => S (g x), ⟨?_, ?_⟩, by show S (g (f a)) = true; rw [t.gf a ha]; exact s1, by show S (g (f b)) = true; rw [t.gf b hb]; exact s2⟩
  · rw [card_name t.symm.inj t.gl]
    exact t1
  · rw [card_name t.symm.inj t.gl, ins_map, ins_same ok (T := S) fun x hx => by rw [t.gf x hx]]
    exact t2
theorem map_back (t : Turn n f g) (ok : Ok n nb) : (nb.map (fb f)).map (fb g) = nb := by
  rw [List.map_map]
  refine (List.map_congr_left fun b hb => ?_).trans (List.map_id _)
  obtain ⟨o1, o2, _⟩ := ok b hb
  exact Prod.ext (t.gf _ o1) (t.gf _ o2)
theorem hld_map1 (t : Turn n f g) (ok : Ok n nb) {a b : Nat} (ha : a < n) (hb : b < n) (ne : a ≠ b) (h : Hld n nb a b) : Hld n (nb.map (fb f)) (f a) (f b) := by
  have okb := basis_ok ok
  refine spn_hld (ok_map t okb) (slim_map t (basis_slim n nb)) (ok_map t ok) (fun x hx => ?_) (t.fl a ha) (t.fl b hb) (fun e => ne (t.inj a b ha hb e)) (spn_map t okb ha hb h)
  obtain ⟨y, hy, rfl⟩ := List.mem_map.mp hx
  exact List.mem_map.mpr ⟨y, (pickB_sub nb []).subset hy, rfl⟩
theorem hld_map (t : Turn n f g) (ok : Ok n nb) {a b : Nat} (ha : a < n) (hb : b < n) (ne : a ≠ b) : Hld n nb a b ↔ Hld n (nb.map (fb f)) (f a) (f b) := by
  refine ⟨hld_map1 t ok ha hb ne, fun h => ?_⟩
  have := hld_map1 t.symm (ok_map t ok) (t.fl a ha) (t.fl b hb) (fun e => ne (t.inj a b ha hb e)) h
  rwa [map_back t ok, t.gf a ha, t.gf b hb] at this
theorem rk_map1 (t : Turn n f g) (ok : Ok n nb) : rk n nb ≤ rk n (nb.map (fb f)) := by
  have okb := basis_ok ok
  have h := rk_max (ok_map t ok) (ok_map t okb) (slim_map t (basis_slim n nb)) fun x hx => hld_bar (ok_map t ok) (by
    obtain ⟨y, hy, rfl⟩ := List.mem_map.mp hx
    exact List.mem_map.mpr ⟨y, (pickB_sub nb []).subset hy, rfl⟩)
  rwa [List.length_map] at h
theorem rk_map (t : Turn n f g) (ok : Ok n nb) : rk n (nb.map (fb f)) = rk n nb := by
  have h := rk_map1 t.symm (ok_map t ok)
  rw [map_back t ok] at h
  exact Nat.le_antisymm h (rk_map1 t ok)
/-- the same bars by other names, in any order, turned or not -/
structure Alike (n : Nat) (f g : Nat → Nat) (nb ob : List Bar) : Prop where
  turn : Turn n f g
  ok : Ok n nb
  oko : Ok n ob
  s1 : Sub (nb.map (fb f)) ob
  s2 : Sub ob (nb.map (fb f))
variable {ob : List Bar}
theorem sub_map {as bs : List Bar} (h : Sub as bs) (f : Nat → Nat) : Sub (as.map (fb f)) (bs.map (fb f)) := fun x hx => by
  obtain ⟨y, hy, rfl⟩ := List.mem_map.mp hx
  rcases h y hy with q | q
  · exact .inl (List.mem_map.mpr ⟨y, q, rfl⟩)
  · exact .inr (List.mem_map.mpr ⟨_, q, rfl⟩)
theorem Alike.symm (a : Alike n f g nb ob) : Alike n g f ob nb := by
  have e := map_back a.turn a.ok
  refine ⟨a.turn.symm, a.oko, a.ok, ?_, ?_⟩
  · have := sub_map a.s2 g
    rwa [e] at this
  · have := sub_map a.s1 g
    rwa [e] at this
theorem Alike.rk (a : Alike n f g nb ob) : Fr.rk n ob = Fr.rk n nb := by
  rw [← rk_map a.turn a.ok]
  exact rk_same a.oko (ok_map a.turn a.ok) a.s2 a.s1
theorem Alike.hld (q : Alike n f g nb ob) {a b : Nat} (ha : a < n) (hb : b < n) (ne : a ≠ b) : Hld n nb a b ↔ Hld n ob (f a) (f b) := by
  have ne2 : f a ≠ f b := fun e => ne (q.turn.inj a b ha hb e)
  rw [hld_map q.turn q.ok ha hb ne]
  exact hld_same (ok_map q.turn q.ok) q.oko q.s1 q.s2 (q.turn.fl a ha) (q.turn.fl b hb) ne2
theorem Alike.prt (q : Alike n f g nb ob) {a b c : Nat} (ha : a < n) (hb : b < n) (hc : c < n) : part n (pickB n [] nb) a b c = part n (pickB n [] ob) (f a) (f b) (f c) := by
  have e : part n (pickB n [] nb) a b c = true ↔ part n (pickB n [] ob) (f a) (f b) (f c) = true := by
    rw [part_iff, part_iff]
    have i1 : c = a ↔ f c = f a := ⟨fun e => by rw [e], fun e => q.turn.inj c a hc ha e⟩
    have i2 : c = b ↔ f c = f b := ⟨fun e => by rw [e], fun e => q.turn.inj c b hc hb e⟩
    by_cases q1 : c = a
    · exact ⟨fun _ => .inl (i1.mp q1), fun _ => .inl q1⟩
    by_cases q2 : c = b
    · exact ⟨fun _ => .inr (.inl (i2.mp q2)), fun _ => .inr (.inl q2)⟩
    have h1 := q.hld ha hc (Ne.symm q1)
    have h2 := q.hld hb hc (Ne.symm q2)
    unfold Hld at h1 h2
    rw [h1, h2, ← i1, ← i2]
  cases h1 : Fr.part n (pickB n [] nb) a b c <;> cases h2 : Fr.part n (pickB n [] ob) (f a) (f b) (f c) <;> simp_all
end
end Fr
namespace Pl
open Fr (Alike)
section
variable {n : Nat} {f g : Nat → Nat} {nb ob : List Fr.Bar}
/-- a part as a list begins with its two least joints -/
theorem partL_head {n : Nat} {K : List Fr.Bar} {p : Fr.Bar} (h : Fr.Ld n K p.1 p.2) : ∃ r, partL n K p = p.1 :: p.2 :: r := by
  obtain ⟨l, hb, hs, hl⟩ := id h
  have hm : p.2 ∈ heldL n K p.1 := heldL_mem.mpr ⟨hb, .inr hs⟩
  have e := both_part hm (by omega) (show p.1 < n by omega)
  have t := (lead_first (show p.1 < n by omega) hm).mpr h
  rw [e] at t
  match hq : partL n K p, t with
  | x :: y :: r, t =>
    have t : [x, y] = [p.1, p.2] := t
    injection t with t1 t
    injection t with t2 _
    exact ⟨r, by rw [t1, t2]⟩
  | [x], t =>
    cases t
  | [], t =>
    cases t
theorem parts_lt (n : Nat) (nb : List Fr.Bar) : (partsL n nb).Pairwise fun a b => rowLt a b = true := by
  unfold partsL
  rw [List.pairwise_map]
  refine List.Pairwise.imp_of_mem (fun {p q} hp hq h => ?_) (Fr.ldrs_lex (n := n) (K := Fr.pickB n [] nb))
  obtain ⟨r, hr⟩ := partL_head (Fr.ldrs_mem.mp hp)
  obtain ⟨t, ht⟩ := partL_head (Fr.ldrs_mem.mp hq)
  rw [hr, ht, row_cons]
  rcases h with h | ⟨h1, h2⟩
  · rw [if_neg (by omega)]
    exact decide_eq_true h
  · rw [if_pos h1, row_cons, if_neg (by omega)]
    exact decide_eq_true h2
theorem parts_le (n : Nat) (nb : List Fr.Bar) : (partsL n nb).Pairwise fun a b => rowLt b a = false := (parts_lt n nb).imp fun h => row_asym h
theorem rowLt_irrefl (a : List Nat) : rowLt a a = false := (PyProof.Rows.listOrd PyProof.Rows.itemOrd).irrefl _
theorem parts_nodup (n : Nat) (nb : List Fr.Bar) : (partsL n nb).Nodup := (parts_lt n nb).imp fun {a b} h e => by
  subst e
  rw [rowLt_irrefl] at h
  cases h
/-- a part by other names -/
def nameL (f : Nat → Nat) (l : List Nat) : List Nat := sortN (l.map f)
theorem part_sub (q : Alike n f g nb ob) {l : List Nat} (h : l ∈ partsL n nb) : nameL f l ∈ partsL n ob := by
  obtain ⟨p, hp, rfl⟩ := List.mem_map.mp h
  obtain ⟨h1, h2, h3, h4⟩ := Fr.ldrs_mem.mp hp
  have ha : p.1 < n := by omega
  have ne : p.1 ≠ p.2 := by omega
  have ne2 : f p.1 ≠ f p.2 := fun e => ne (q.turn.inj _ _ ha h2 e)
  have hh : Fr.Hld n ob (f p.1) (f p.2) := (q.hld ha h2 ne).mp h3
  have okk := Fr.basis_ok q.oko
  have sl := Fr.basis_slim n ob
  obtain ⟨a, b, hl, m1, m2⟩ := Fr.lead_ex okk sl (q.turn.fl _ ha) (q.turn.fl _ h2) ne2 hh
  obtain ⟨l1, l2, l3, _⟩ := id hl
  obtain ⟨_, same⟩ := Fr.part_same okk sl (show a < n by omega) l2 (by omega) l3 (q.turn.fl _ ha) (q.turn.fl _ h2) ne2 m1 m2
  refine List.mem_map.mpr ⟨(a, b), Fr.ldrs_mem.mpr hl, (sortN_eq ?_ (partL_rise _ _ _) fun y => ?_).symm⟩
  · have nd : (partL n (Fr.pickB n [] nb) p).Nodup := (partL_rise _ _ _).imp fun h => by omega
    unfold List.Nodup
    rw [List.pairwise_map]
    exact List.Pairwise.imp_of_mem (fun hx hy ne e => ne (q.turn.inj _ _ (partL_mem.mp hx).1 (partL_mem.mp hy).1 e)) nd
  · rw [List.mem_map, partL_mem]
    constructor
    · rintro ⟨c, hc, rfl⟩
      obtain ⟨c1, c2⟩ := partL_mem.mp hc
      refine ⟨q.turn.fl c c1, ?_⟩
      rw [same _ (q.turn.fl c c1), ← q.prt ha h2 c1]
      exact c2
    · rintro ⟨hy, hpy⟩
      rw [same y hy] at hpy
      refine ⟨g y, partL_mem.mpr ⟨q.turn.gl y hy, ?_⟩, q.turn.fg y hy⟩
      rw [q.prt ha h2 (q.turn.gl y hy), q.turn.fg y hy]
      exact hpy
theorem name_back (q : Alike n f g nb ob) {l : List Nat} (h : l ∈ partsL n nb) : nameL g (nameL f l) = l := by
  obtain ⟨p, hp, rfl⟩ := List.mem_map.mp h
  have low : ∀ c ∈ partL n (Fr.pickB n [] nb) p, c < n := fun c hc => (partL_mem.mp hc).1
  have nd : (partL n (Fr.pickB n [] nb) p).Nodup := (partL_rise _ _ _).imp fun h => by omega
  have nd1 : ((partL n (Fr.pickB n [] nb) p).map f).Nodup := by
    unfold List.Nodup
    rw [List.pairwise_map]
    exact List.Pairwise.imp_of_mem (fun hx hy ne e => ne (q.turn.inj _ _ (low _ hx) (low _ hy) e)) nd
  have mem1 : ∀ y, y ∈ nameL f (partL n (Fr.pickB n [] nb) p) ↔ ∃ c ∈ partL n (Fr.pickB n [] nb) p, f c = y := fun y => by
    unfold nameL
    rw [(sortN_perm _).mem_iff, List.mem_map]
  have nd2 : (nameL f (partL n (Fr.pickB n [] nb) p)).Nodup := (sortN_perm _).nodup_iff.mpr nd1
  refine sortN_eq ?_ (partL_rise _ _ _) fun x => ?_
  · unfold List.Nodup
    rw [List.pairwise_map]
    refine List.Pairwise.imp_of_mem (fun {u v} hu hv ne e => ne ?_) nd2
    obtain ⟨c, hc, rfl⟩ := (mem1 u).mp hu
    obtain ⟨d, hd, rfl⟩ := (mem1 v).mp hv
    rw [q.turn.gf c (low c hc), q.turn.gf d (low d hd)] at e
    rw [e]
  · rw [List.mem_map]
    constructor
    · rintro ⟨y, hy, rfl⟩
      obtain ⟨c, hc, rfl⟩ := (mem1 y).mp hy
      rw [q.turn.gf c (low c hc)]
      exact hc
    · intro hx
      exact ⟨f x, (mem1 _).mpr ⟨x, hx, rfl⟩, q.turn.gf x (low x hx)⟩
/-- the parts by other names, sorted, are the other's -/
theorem parts_perm (q : Alike n f g nb ob) : (partsL n ob).Perm ((partsL n nb).map (nameL f)) := by
  refine (List.perm_ext_iff_of_nodup (parts_nodup n ob) ?_).mpr fun l => ?_
  · unfold List.Nodup
    rw [List.pairwise_map]
    refine List.Pairwise.imp_of_mem (fun {u v} hu hv ne e => ne ?_) (parts_nodup n nb)
    rw [← name_back q hu, ← name_back q hv, e]
  · rw [List.mem_map]
    constructor
    · intro h
      exact ⟨nameL g l, part_sub q.symm h, name_back q.symm h⟩
    · rintro ⟨m, hm, rfl⟩
      exact part_sub q hm
end
end Pl

/-! The same bars in another order, some turned, by other names: the bars that are too many. -/
namespace Fr
theorem turn_of {n : Nat} {f : Nat → Nat} (inj : ∀ x y, x < n → y < n → f x = f y → x = y) (low : ∀ x, x < n → f x < n) : ∃ g, Turn n f g := by
  have p := Pl.range_perm inj low
  have ex : ∀ y, y < n → ∃ x, x < n ∧ f x = y := fun y hy => by
    have := p.mem_iff.mpr (List.mem_range.mpr hy)
    obtain ⟨x, hx, e⟩ := List.mem_map.mp this
    exact ⟨x, List.mem_range.mp hx, e⟩
  refine ⟨fun y => if h : ∃ x, x < n ∧ f x = y then Classical.choose h else 0, low, fun y hy => ?_, fun x hx => ?_, fun y hy => ?_⟩
  · show (if h : ∃ x, x < n ∧ f x = y then Classical.choose h else 0) < n
    rw [dif_pos (ex y hy)]
    exact (Classical.choose_spec (ex y hy)).1
  · show (if h : ∃ z, z < n ∧ f z = f x then Classical.choose h else 0) = x
    have h : ∃ z, z < n ∧ f z = f x := ⟨x, hx, rfl⟩
    rw [dif_pos h]
    obtain ⟨h1, h2⟩ := Classical.choose_spec h
    exact inj _ _ h1 hx h2
  · show f (if h : ∃ x, x < n ∧ f x = y then Classical.choose h else 0) = y
    rw [dif_pos (ex y hy)]
    exact (Classical.choose_spec (ex y hy)).2
end Fr
namespace Pl
open Fr (Alike)
/-- the bars at some places, by other names, some turned -/
def otherB (f : Nat → Nat) (t : Nat → Bool) (nb : List Fr.Bar) (i : Nat) : Fr.Bar := turnB (t i) (Fr.fb f (Fr.barAt nb i))
theorem erase_maps {α β : Type} (h : α → β) : ∀ (l : List α) (k : Nat), (l.map h).eraseIdx k = (l.eraseIdx k).map h
  | [], _ => rfl
  | _ :: _, 0 => rfl
  | x :: l, k + 1 => congrArg (h x :: ·) (erase_maps h l k)
def otherL (f : Nat → Nat) (t : Nat → Bool) (nb : List Fr.Bar) (P : List Nat) : List Fr.Bar := P.map (otherB f t nb)
theorem turn_or (q : Bool) (b : Fr.Bar) : turnB q b = b ∨ turnB q b = (b.2, b.1) := by
  unfold turnB
  cases q with
  | true => exact .inr rfl
  | false => exact .inl rfl
section
variable {n : Nat} {f g : Nat → Nat} {t : Nat → Bool} {nb : List Fr.Bar} {P : List Nat}
theorem other_ok (tr : Fr.Turn n f g) (ok : Fr.Ok n nb) (h : ∀ i ∈ P, i < nb.length) : Fr.Ok n (otherL f t nb P) := fun c hc => by
  obtain ⟨i, hi, rfl⟩ := List.mem_map.mp hc
  obtain ⟨o1, o2, o3⟩ := ok _ (Fr.barAt_mem (h i hi))
  have l1 := tr.fl _ o1
  have l2 := tr.fl _ o2
  have ne : f (Fr.barAt nb i).1 ≠ f (Fr.barAt nb i).2 := fun e => o3 (tr.inj _ _ o1 o2 e)
  unfold otherB
  rcases turn_or (t i) (Fr.fb f (Fr.barAt nb i)) with e | e
  · rw [e]; exact ⟨l1, l2, ne⟩
  · rw [e]; exact ⟨l2, l1, Ne.symm ne⟩
/-- from a list of bars whose places are P's -/
theorem alike_of {mb : List Fr.Bar} (tr : Fr.Turn n f g) (ok : Fr.Ok n nb) (okm : Fr.Ok n mb) (h : ∀ i ∈ P, i < nb.length) (h1 : ∀ b ∈ mb, ∃ i ∈ P, Fr.barAt nb i = b) (h2 : ∀ i ∈ P, Fr.barAt nb i ∈ mb) : Alike n f g mb (otherL f t nb P) := by
  refine ⟨tr, okm, other_ok tr ok h, fun x hx => ?_, fun x hx => ?_⟩
  · obtain ⟨b, hb, rfl⟩ := List.mem_map.mp hx
    obtain ⟨i, hi, rfl⟩ := h1 b hb
    have m : otherB f t nb i ∈ otherL f t nb P := List.mem_map.mpr ⟨i, hi, rfl⟩
    unfold otherB at m
    rcases turn_or (t i) (Fr.fb f (Fr.barAt nb i)) with e | e
    · rw [e] at m; exact .inl m
    · rw [e] at m; exact .inr m
  · obtain ⟨i, hi, rfl⟩ := List.mem_map.mp hx
    have m : Fr.fb f (Fr.barAt nb i) ∈ mb.map (Fr.fb f) := List.mem_map.mpr ⟨_, h2 i hi, rfl⟩
    unfold otherB
    rcases turn_or (t i) (Fr.fb f (Fr.barAt nb i)) with e | e
    · rw [e]; exact .inl m
    · rw [e]; exact .inr m
theorem other_alike (tr : Fr.Turn n f g) (ok : Fr.Ok n nb) (pm : P.Perm (List.range nb.length)) : Alike n f g nb (otherL f t nb P) := by
  have h : ∀ i ∈ P, i < nb.length := fun i hi => List.mem_range.mp (pm.mem_iff.mp hi)
  refine alike_of tr ok ok h (fun b hb => ?_) fun i hi => Fr.barAt_mem (h i hi)
  obtain ⟨i, hi, e⟩ := List.mem_iff_getElem.mp hb
  exact ⟨i, pm.mem_iff.mpr (List.mem_range.mpr hi), by rw [Fr.barAt_get hi]; exact e⟩
theorem other_less (tr : Fr.Turn n f g) (ok : Fr.Ok n nb) (pm : P.Perm (List.range nb.length)) {k : Nat} (hk : k < P.length) : Alike n f g (nb.eraseIdx P[k]) ((otherL f t nb P).eraseIdx k) := by
  have h : ∀ i ∈ P, i < nb.length := fun i hi => List.mem_range.mp (pm.mem_iff.mp hi)
  have nd : P.Nodup := pm.nodup_iff.mpr List.nodup_range
  have e : (otherL f t nb P).eraseIdx k = otherL f t nb (P.eraseIdx k) := by
    unfold otherL
    rw [erase_maps]
  have sub : ∀ i ∈ P.eraseIdx k, i ∈ P ∧ i ≠ P[k] := fun i hi => by
    obtain ⟨j, hj, ne, ej⟩ := List.mem_eraseIdx_iff_getElem.mp hi
    refine ⟨by rw [← ej]; exact List.getElem_mem hj, fun z => ?_⟩
    rw [← ej] at z
    have q := List.pairwise_iff_getElem.mp nd
    rcases Nat.lt_trichotomy j k with l | l | l
    · exact q j k hj hk l z
    · exact ne l
    · exact q k j hk hj l z.symm
  rw [e]
  refine alike_of tr ok (ok.sub (List.eraseIdx_sublist _ _)) (fun i hi => h i (sub i hi).1) (fun b hb => ?_) fun i hi => Fr.erase_mem (h i (sub i hi).1) (sub i hi).2
  obtain ⟨i, hi, ne, ei⟩ := List.mem_eraseIdx_iff_getElem.mp hb
  have him : i ∈ P := pm.mem_iff.mpr (List.mem_range.mpr hi)
  obtain ⟨j, hj, ej⟩ := List.mem_iff_getElem.mp him
  refine ⟨i, List.mem_eraseIdx_iff_getElem.mpr ⟨j, hj, fun z => ne ?_, ej⟩, by rw [Fr.barAt_get hi]; exact ei⟩
  subst z
  exact ej.symm
theorem other_many (tr : Fr.Turn n f g) (ok : Fr.Ok n nb) (pm : P.Perm (List.range nb.length)) {k : Nat} (hk : k < P.length) : k ∈ manyL n (otherL f t nb P) ↔ P[k] ∈ manyL n nb := by
  have h : ∀ i ∈ P, i < nb.length := fun i hi => List.mem_range.mp (pm.mem_iff.mp hi)
  have hi := h _ (List.getElem_mem hk)
  have ho := other_ok (t := t) tr ok h
  have lo : (otherL f t nb P).length = P.length := by unfold otherL; rw [List.length_map]
  rw [manyL_mem, manyL_mem, lo]
  have o := ok _ (Fr.barAt_mem hi)
  have hd := (other_less (t := t) tr ok pm hk).hld o.1 o.2.1 o.2.2
  have eb : Fr.barAt (otherL f t nb P) k = otherB f t nb P[k] := by
    unfold Fr.barAt otherL
    simp [List.getD, hk]
  rw [eb, hd]
  unfold otherB
  rcases turn_or (t P[k]) (Fr.fb f (Fr.barAt nb P[k])) with e | e
  · rw [e]
    exact ⟨fun z => ⟨hi, z.2⟩, fun z => ⟨hk, z.2⟩⟩
  · rw [e]
    exact ⟨fun z => ⟨hi, Fr.hld_symm z.2⟩, fun z => ⟨hk, Fr.hld_symm z.2⟩⟩
theorem idx_get (P : List Nat) {i : Nat} (h : i ∈ P) : ∃ hk : P.idxOf i < P.length, P[P.idxOf i] = i := ⟨List.idxOf_lt_length_of_mem h, List.getElem_idxOf _⟩
theorem many_perm (tr : Fr.Turn n f g) (ok : Fr.Ok n nb) (pm : P.Perm (List.range nb.length)) : (manyL n (otherL f t nb P)).Perm ((manyL n nb).map fun i => P.idxOf i) := by
  have nd1 : (manyL n (otherL f t nb P)).Nodup := (manyL_rise _ _).imp fun h => by omega
  have nd0 : (manyL n nb).Nodup := (manyL_rise _ _).imp fun h => by omega
  have inP : ∀ i ∈ manyL n nb, i ∈ P := fun i hi => pm.mem_iff.mpr (List.mem_range.mpr (manyL_mem.mp hi).1)
  have lo : (otherL f t nb P).length = P.length := by unfold otherL; rw [List.length_map]
  refine (List.perm_ext_iff_of_nodup nd1 ?_).mpr fun k => ?_
  · unfold List.Nodup
    rw [List.pairwise_map]
    refine List.Pairwise.imp_of_mem (fun {u v} hu hv ne e => ne ?_) nd0
    obtain ⟨_, e1⟩ := idx_get P (inP u hu)
    obtain ⟨_, e2⟩ := idx_get P (inP v hv)
    rw [← e1, ← e2]
    simp only [e]
  · rw [List.mem_map]
    constructor
    · intro h
      have hk : k < P.length := by
        have := (manyL_mem.mp h).1
        rwa [lo] at this
      have hm := (other_many tr ok pm hk).mp h
      refine ⟨P[k], hm, ?_⟩
      have nd : P.Nodup := pm.nodup_iff.mpr List.nodup_range
      obtain ⟨hl, e⟩ := idx_get P (inP _ hm)
      have q := List.pairwise_iff_getElem.mp nd
      rcases Nat.lt_trichotomy (P.idxOf P[k]) k with l | l | l
      · exact absurd e (q _ _ hl hk l)
      · exact l
      · exact absurd e.symm (q _ _ hk hl l)
    · rintro ⟨i, hi, rfl⟩
      obtain ⟨hl, e⟩ := idx_get P (inP i hi)
      exact (other_many tr ok pm hl).mpr (by rw [e]; exact hi)
theorem other_slim (tr : Fr.Turn n f g) (ok : Fr.Ok n nb) (pm : P.Perm (List.range nb.length)) : Fr.Slim n (otherL f t nb P) ↔ Fr.Slim n nb := by
  have e := (other_alike (t := t) tr ok pm).rk
  have lo : (otherL f t nb P).length = nb.length := by
    unfold otherL
    rw [List.length_map, pm.length_eq, List.length_range]
  rw [← Fr.rk_slim, ← Fr.rk_slim, e, lo]
end
end Pl
namespace Pl
open PySem PySem.Spec PyProof.Rows L2
open Evl (Ex)
theorem ok_index {X : Cx} {K : PySem.W.Frag} (h : X.K = K) : MtR X "list.index" (rIndex K) := by subst h; exact mt_index
theorem ev_index {K : PySem.W.Frag} {ρ : Rho} {te tx : TE} {ns : List Int} {k : Int} {j : Nat} (hd : EvD K te ρ (.lst (ns.map D.int))) (hx : EvD K tx ρ (.int k)) (hj : ns[j]? = some k) (hn : ∀ m : Nat, m < j → ns[m]? ≠ some k) : EvD K (tBM K "list" (rIndex K) te (tCons tx tNil)) ρ (.int (j : Int)) := fun S H σ e v Q q =>
  hd S H σ e v _ fun w S1 H1 x1 r1 => by
    cases r1 with
    | lst ha rl =>
      have z := rl.ints
      subst z
      refine ⟨.inl ⟨rfl, _, Evl.sq_of (x1.sub _ _ ha)⟩, hx S1 H1 σ x1.sub (v.mono x1.s) _ fun u S2 H2 x2 r2 => ?_⟩
      cases r2
      refine ⟨_, ns.map V.int, .int k, j, .int k, rfl, rfl, Evl.sq_of (x2.h _ _ (x1.sub _ _ ha)), rfl, List.all_eq_true.mpr fun y hy => by obtain ⟨i, _, rfl⟩ := List.mem_map.mp hy; rfl, by rw [List.getElem?_map, hj]; rfl, by simp [eqV], fun m z' hm hz => ?_, q _ S2 H2 (x1.trans x2) (.int _)⟩
      rw [List.getElem?_map] at hz
      cases e3 : ns[m]? with
      | none => rw [e3] at hz; cases hz
      | some y =>
        rw [e3] at hz
        cases hz
        have ne : y ≠ k := fun z => hn m hm (by rw [e3, z])
        simp [eqV, ne]
end Pl
namespace Pl
open PySem PySem.Spec PyProof.Rows L2
theorem ok_bm {X : Cx} {K : PySem.W.Frag} {o e : Expr} {es : List Expr} {to : TE} {t : TA} {name : Str} {apos cpos : Pos} {T id : String} {r : V → List V → Hp → VK → Prop} (hK : X.K = K) (pa : PlainAttrs T) (slot : Slot T name id) (hty : typeOf (.builtin id) = pure (.type "method_descriptor")) (hm : MtR X id r) (ho : PE X o to) (ha : PA X (e :: es) t)
    (hbase : attributeBase o name X.env (eval o X.env) = eval o X.env := by rfl)
    (hfew : ((backTo cpos (starEach (e :: es) X.env)).all (fun x => !x.1) && (backToKw cpos (keywordEach [] X.env)).all (fun x => x.1.isSome)
      && decide ((e :: es).length + ([] : List Keyword).length + (if ([] : List Keyword).isEmpty then 0 else 1) < 30)) = true := by rfl)
    (hline : (apos.endLine == cpos.line) = true := by rfl) (hs : starEach (e :: es) X.env = (false, eval e X.env) :: starEach es X.env := by rfl) (hplain : (backTo cpos (starEach es X.env)).any (·.1) = false := by rfl) :
    PE X (.Call (.Attribute o name apos) (e :: es) [] cpos) (tBM K T r to t) := by subst hK; exact pe_bm pa slot hty hm ho ha hbase hfew hline hs hplain
end Pl

/-! What a knot looks like: twice its joints less two, and fewer of these joints are not crowded by it. -/
namespace Fr
section
variable {n : Nat} {nb : List Bar} {lj l : List Nat} {i : Nat}
theorem told_perm {T : JS} (ndl : l.Nodup) (ndj : lj.Nodup) (ni : i ∉ lj) (hj : ∀ a ∈ lj, a < nb.length) (hi : i < nb.length) (t2 : T (barAt nb i).1 = true) (t3 : T (barAt nb i).2 = true)
    (t5 : ∀ a, a ∈ l ↔ a < nb.length ∧ (T (barAt nb a).1 = true ∧ T (barAt nb a).2 = true) ∧ (a = i ∨ a ∈ lj)) : l.Perm (i :: lj.filter fun a => T (barAt nb a).1 && T (barAt nb a).2) := by
  have nd2 : (i :: lj.filter fun a => T (barAt nb a).1 && T (barAt nb a).2).Nodup := List.nodup_cons.mpr ⟨fun z => ni (List.mem_filter.mp z).1, ndj.filter _⟩
  refine (List.perm_ext_iff_of_nodup ndl nd2).mpr fun a => ?_
  rw [t5, List.mem_cons, List.mem_filter, Bool.and_eq_true]
  constructor
  · rintro ⟨h1, h2, rfl | h3⟩
    · exact .inl rfl
    · exact .inr ⟨h3, h2⟩
  · rintro (rfl | ⟨h1, h2⟩)
    · exact ⟨hi, ⟨t2, t3⟩, .inl rfl⟩
    · exact ⟨hj a h1, h2, .inr h1⟩
theorem knot_shape (ok : Ok n nb) (hj : ∀ a ∈ lj, a < nb.length) (ndj : lj.Nodup) (sl : Slim n (lj.map (barAt nb))) (ni : i ∉ lj) (hi : i < nb.length) (ndl : l.Nodup) (h : Told n nb lj i l) :
    ∃ T : JS, l.length + 2 = 2 * card n T ∧ 2 ≤ card n T ∧ (∀ x, x < n → (T x = true ↔ ∃ a ∈ l, (barAt nb a).1 = x ∨ (barAt nb a).2 = x)) ∧
      ∀ W : JS, 2 ≤ card n W → (∀ x, x < n → W x = true → T x = true) → (∃ x, x < n ∧ T x = true ∧ W x = false) → ins (l.map (barAt nb)) W + 3 ≤ 2 * card n W := by
  obtain ⟨T, tT, t2, t3, t4, t5⟩ := h
  have pm := told_perm ndl ndj ni hj hi t2 t3 t5
  have o := ok _ (barAt_mem hi)
  have okl := barAt_ok ok hj
  have cnt : ∀ W : JS, ins ((lj.filter fun a => T (barAt nb a).1 && T (barAt nb a).2).map (barAt nb)) W ≤ ins (lj.map (barAt nb)) W := fun W => ins_sub ((List.filter_sublist).map _) W
  have len : (lj.filter fun a => T (barAt nb a).1 && T (barAt nb a).2).length = ins (lj.map (barAt nb)) T := by
    unfold ins
    rw [List.countP_map, ← List.countP_eq_length_filter]
    rfl
  obtain ⟨c1, c2⟩ := id tT
  refine ⟨T, ?_, c1, fun x hx => ⟨fun tx => ?_, fun hz => ?_⟩, fun W hW sub ⟨x, hx, tx, wx⟩ => ?_⟩
  · rw [pm.length_eq, List.length_cons, len]
    omega
  · -- each joint is an end
    by_cases q : ∃ a ∈ l, (barAt nb a).1 = x ∨ (barAt nb a).2 = x
    · exact q
    · exfalso
      have no : ∀ a ∈ l, (barAt nb a).1 ≠ x ∧ (barAt nb a).2 ≠ x := fun a ha => ⟨fun z => q ⟨a, ha, .inl z⟩, fun z => q ⟨a, ha, .inr z⟩⟩
      have il : i ∈ l := (t5 i).mpr ⟨hi, ⟨t2, t3⟩, .inl rfl⟩
      have cw := card_wo hx tx
      have two : 2 ≤ card n (wo T x) := two_le_card o.1 o.2.1 o.2.2 (by have := (no i il).1; simp [wo, t2, this]) (by have := (no i il).2; simp [wo, t3, this])
      have e : ins (lj.map (barAt nb)) (wo T x) = ins (lj.map (barAt nb)) T := by
        unfold ins
        rw [List.countP_map, List.countP_map]
        refine countP_same fun a ha => ?_
        show (wo T x (barAt nb a).1 && wo T x (barAt nb a).2) = (T (barAt nb a).1 && T (barAt nb a).2)
        cases z : (T (barAt nb a).1 && T (barAt nb a).2) with
        | true =>
          rw [Bool.and_eq_true] at z
          have hm : a ∈ l := (t5 a).mpr ⟨hj a ha, z, .inr ha⟩
          have n1 := (no a hm).1
          have n2 := (no a hm).2
          simp [wo, z.1, z.2, n1, n2]
        | false =>
          unfold wo
          rw [Bool.and_eq_false_iff] at z
          rcases z with z | z <;> simp [z]
      have := sl _ two
      omega
  · obtain ⟨a, ha, q⟩ := hz
    obtain ⟨_, ⟨h1, h2⟩, _⟩ := (t5 a).mp ha
    rcases q with rfl | rfl
    · exact h1
    · exact h2
  · rw [ins_perm (pm.map (barAt nb)), List.map_cons, ins_cons]
    have a1 := cnt W
    have a2 := sl W hW
    by_cases both : W (barAt nb i).1 = true ∧ W (barAt nb i).2 = true
    · have : ¬ Tight n (lj.map (barAt nb)) W := fun tW => by
        have := t4 W tW both.1 both.2 x hx tx
        rw [wx] at this
        cases this
      have lt : ins (lj.map (barAt nb)) W + 3 ≠ 2 * card n W := fun e => this ⟨hW, e⟩
      rw [both.1, both.2]
      show _ + 1 + 3 ≤ _
      omega
    · have e0 : (W (barAt nb i).1 && W (barAt nb i).2).toNat = 0 := by
        cases z1 : W (barAt nb i).1 <;> cases z2 : W (barAt nb i).2 <;> first | rfl | exact (both ⟨z1, z2⟩).elim
      rw [e0]
      omega
end
end Fr

/-! isinstance of an exception that is known as a thing of the heap that stays as it is. -/
namespace Ex0
open PySem PySem.Spec PyProof.Rows L2
def rIsEr (K : PySem.W.Frag) : List V → Hp → VK → Prop := fun xs H Q => ∃ (a D : Addr) (o : Obj) (u : HO) (c : V) (cv : Value) (b : Bool), xs = [.ref a, c] ∧ H a = some (.frz o u) ∧ o.cls = .ref D ∧ o.dict = none ∧ (∃ vs, o.data = .fields vs) ∧ ExcC K D ∧
  (∀ w, RelV c w → w = cv) ∧ PySem.W.kitOne K (.ref D) cv = some b ∧ Q (.bl b) H
theorem call_isEr {X : Cx} : CallR X (.builtin "isinstance") (rIsEr X.K) := by
  intro pins s σ H xs us Q I r h
  obtain ⟨a, D, oe, uo, c, cv, b, rfl, hH, hc, hd, ⟨vs, hv⟩, C, hcv, e, q⟩ := h
  cases r with
  | cons rx rr =>
    cases rr with
    | cons rt rr =>
      cases rr
      cases rx
      have ec := hcv _ rt
      subst ec
      have hget : s.heap.get? a = some oe := (I.hok a _ hH).1
      have J : PySem.W.InstAt s.heap a oe D none := by
        obtain ⟨oc, od, oda, osl⟩ := oe
        dsimp only at hc hd hv
        subst hc hd hv
        exact ⟨hget, rfl, rfl, trivial⟩
      exact PySem.W.kia_one (PySem.W.handS_kitx_exc C.hg C.hk C.hs C.hd C.ha C.hn C.ht C.hm) I.kIn J e (fun z => nomatch z) fun tk => ⟨.bl b, H, I.kept (t' := tk) fun _ _ z => z, rfl, q⟩
end Ex0

/-! A call that is handed the exception that the suite holds: the callee knows it as a thing of the heap that stays as it is. -/
namespace Ex0
open PySem PySem.Spec PyProof.Rows L2
def xt : HO := .ext fun _ => True
def era (a : Addr) (H : Hp) : Hp := fun b => if b = a then none else H b
theorem era_same {a : Addr} {H : Hp} : era a H a = none := if_pos rfl
theorem era_ne {a b : Addr} {H : Hp} (h : b ≠ a) : era a H b = H b := if_neg h
section
variable {X : Cx} {pins : List (Addr × Obj)} {σ : L2.St} {H : Hp} {s : Shared} {a : Addr} {oe : Obj} {vs : Array Value}
theorem hold_in (I : Inv X pins σ H s) (ha : s.heap.get? a = some oe) (hd : oe.data = .fields vs) (na : H a = none) (nK : X.K.lookup a = none) (nL : a ≠ X.env.locals) (nF : a ∉ X.fs) :
    Env0 X.prog X.w X.K X.mg (PySem.W.hideAll X.base [a]) X.A X.stack s (upd H a (.frz oe xt)) := by
  have nns : ∀ (L : Addr) (m : Str → Option Value), X.base.Ns L m → L ≠ a := fun L m h z => by
    obtain ⟨o, es, ep, e, d, _⟩ := h
    have q := (I.bs L o e).1
    rw [z, ha] at q
    have q := Option.some.inj q
    subst q
    rw [hd] at d
    cases d
  have keep : ∀ L, L ≠ a → ∀ o, X.base.get? L = some o → (PySem.W.hideAll X.base [a]).get? L = some o := fun L h o e => PySem.W.hideAll_get _ e fun z => h (List.mem_singleton.mp z)
  have nS : ∀ b ∈ frs X.stack, b ≠ a := fun b hb z => by
    rcases List.mem_cons.mp (I.stkSub b hb) with e | e
    · exact nL (z.symm.trans e)
    · exact nF (z ▸ e)
  have up : ∀ b o, H b = some o → upd H a (.frz oe xt) b = some o := fun b o e => by
    rw [upd_ne fun z => by rw [z, na] at e; cases e]
    exact e
  obtain ⟨mk, mG, ⟨mb, mB, hB⟩, mN⟩ := I.ok.mod
  refine ⟨I.ok.frames, ⟨fun b o e => keep b (fun z => by rw [z, nK] at e; cases e) o (mk b o e), mG.at (keep _ (nns _ _ mG)), ⟨mb, mB.at (keep _ (nns _ _ mB)), hB⟩, ?_⟩, fun b o e => ?_, ?_, ?_, fun b hb => ?_, fun b o e => ?_, I.bare⟩
  · obtain ⟨mc, h1, h2⟩ := mN
    exact ⟨mc, h1.at (keep _ (nns _ _ h1)), h2⟩
  · have e1 := PySem.W.of_hideAll _ e
    have ne : b ≠ a := fun z => by
      rw [PySem.W.hideAll_none [a] (List.mem_singleton.mpr z)] at e
      cases e
    rw [upd_ne ne]
    exact I.bs b o e1
  · rw [PySem.W.hideAll_size]
    exact Nat.le_trans I.ok.bsz I.sz
  · refine funFrames_none I.stack fun L hL => ?_
    cases q : (PySem.W.hideAll X.base [a]).get? L with
    | none => rfl
    | some o =>
      have z := (I.stack.mem hL).1
      rw [PySem.W.of_hideAll _ q] at z
      cases z
  · rw [upd_ne (nS b hb)]
    exact I.stkFree b hb
  · by_cases hb : b = a
    · subst hb
      rw [upd_same] at e
      cases e
      exact ⟨ha, trivial, ⟨_, ha⟩, fun _ _ _ _ => trivial⟩
    · rw [upd_ne hb] at e
      exact (I.hok b o e).stay (fun _ _ _ q => q) (fun c q => up c _ q) fun c xs q => up c _ q
theorem hold_out (I : Inv X pins σ H s) {s' : Shared} {Q Q' : VK} {u : Value} (ha : s.heap.get? a = some oe) (na : H a = none) (nL : a ≠ X.env.locals) (nF : a ∉ X.fs) (h : CE X.stack X.prog X.w (upd H a (.frz oe xt)) s Q u s')
    (hQ : ∀ v H', H' a = some (.frz oe xt) → Q v H' → Q' v (era a H')) : EP X pins σ Q' u s' := by
  obtain ⟨v, H', os, bare, un, hok, r, q⟩ := h
  have z : H' a = some (.frz oe xt) := un.frzs a oe xt upd_same
  have za : s'.heap.get? a = some oe := (hok a _ z).1
  have ne : ∀ {b o}, H b = some o → b ≠ a := fun {b o} e w => by rw [w, na] at e; cases e
  have nS : ∀ b ∈ frs X.stack, b ≠ a := fun b hb z => by
    rcases List.mem_cons.mp (I.stkSub b hb) with e | e
    · exact nL (z.symm.trans e)
    · exact nF (z ▸ e)
  have un2 : Un (frs X.stack) [] H (era a H') s.heap s'.heap := by
    refine ⟨fun b o e n hb hx => ?_, fun b o e n hb hx => ?_, fun b o e n hx => ?_, un.there, fun b xs e => ?_, fun b o u e => ?_, fun b ps e => ?_⟩
    · by_cases w : b = a
      · subst w
        rw [ha] at e
        rw [za, e]
      · exact un.keep b o e (by rw [upd_ne w]; exact n) hb hx
    · exact un.slot b o e (by rw [upd_ne (nS b hb)]; exact n) hb hx
    · by_cases w : b = a
      · subst w
        exact era_same
      · rw [era_ne w]
        exact un.free b o e (by rw [upd_ne w]; exact n) hx
    · rw [era_ne (ne e)]
      exact un.tups b xs (by rw [upd_ne (ne e)]; exact e)
    · rw [era_ne (ne e)]
      exact un.frzs b o u (by rw [upd_ne (ne e)]; exact e)
    · rw [era_ne (ne e)]
      exact un.tbls b ps (by rw [upd_ne (ne e)]; exact e)
  have hok2 : HOk X.prog X.w (era a H') s'.heap := fun b o e => by
    have w : b ≠ a := fun w => by rw [w, era_same] at e; cases e
    rw [era_ne w] at e
    have ne2 : ∀ {c o}, H' c = some o → (∀ u, o ≠ .frz oe u) → c ≠ a := fun {c o} e h w => by
      rw [w, z] at e
      cases e
      exact h _ rfl
    exact (hok b o e).stay (fun _ _ _ q => q) (fun c q => by rw [era_ne (ne2 q fun _ h => by cases h)]; exact q) fun c xs q => by rw [era_ne (ne2 q fun _ h => by cases h)]; exact q
  exact I.after ⟨v, era a H', os, bare, un2, hok2, r, hQ v H' z q⟩
end
end Ex0

/-! Lists walked, tuples taken apart, comprehensions while an exception is handled. -/
namespace Ex0
open PySem PySem.Spec PyProof.Rows L2
open HotX (HotAt)
section
variable {prog : Program} {w : World} {A : Around} {E : Value → Shared → Prop} {s : Shared} {x1 : Addr}
theorem hot_stays {h h' : Heap} (hot : HotAt A x1 h) (k : ∀ o, h.get? x1 = some o → h'.get? x1 = some o) : HotAt A x1 h' := by
  obtain ⟨hh, o, vs, h1, d, c⟩ := hot
  exact ⟨hh, o, vs, k o h1, d, c⟩
/-- the end of a walk: StopIteration is made, gets its context -/
theorem stop_hot {α : Type} {it : Addr} {h0 : Heap} {Q : α → Shared → Prop} (hot : HotAt A x1 s.heap) (k : ∀ b o, b ≠ it → h0.get? b = some o → s.heap.get? b = some o)
    (hE : ∀ e h', Shared.TypeIs { s with heap := h' } (.ref e) "StopIteration" → Heap.ExtBut it h0 h' → E (.ref e) { s with heap := h' }) :
    wpAny (model prog w) A (newExc (.type "StopIteration") [] >>= fun e => (raiseNew e : Sem α)) Q E s := by
  obtain ⟨hh, o1, vs1, h1, d1, c1⟩ := hot
  refine wpAny_bind ?_
  simp only [newExc, newTuple]
  refine wpAny_bind (wpAny_newObj_type ?_ (by size_fits))
  refine wpAny_bind (m := firstArgMember _ _) (wpAny_of_eq (a := Value.none) (by first | rfl | (simp only [firstArgMember]; rfl)) ?_)
  refine wpAny_newObj_type ?_ (by size_fits)
  refine HotX.raiseNew_hot ⟨hh, o1, vs1, Heap.get?_push_of_some _ (Heap.get?_push_of_some _ h1), d1, c1⟩ (Nat.ne_of_lt (Heap.lt_size (Heap.get?_push_of_some _ h1))) (Heap.get?_push_size _ rfl) rfl (by first | (simp; done) | (simp; omega)) ?_
  refine hE _ _ ⟨_, Heap.get?_update_self _ (Heap.get?_push_size _ rfl) rfl, rfl⟩ fun b o hb e => ?_
  rw [Heap.get?_update_other _ _ (Nat.ne_of_gt (Heap.lt_size (Heap.get?_push_of_some _ (k b o hb e))))]
  exact Heap.get?_push_of_some _ (Heap.get?_push_of_some _ (k b o hb e))
theorem list_end_hot {it l : Addr} {i : Nat} {items : Array Value} {Q : Option Value → Shared → Prop} (hot : HotAt A x1 s.heap) (ne : x1 ≠ it) (hit : s.heap.IsListIter it l i) (hl : s.heap.IsList l items) (hx : items[i]? = none)
    (hQ : ∀ h', Heap.ExtBut it s.heap h' → Q none { s with heap := h' }) : wpAny (model prog w) A (pyNext (.ref it)) Q E s := by
  obtain ⟨oi, hoi, hci, hdi⟩ := id hit
  obtain ⟨ol, hol, _, nl, hdl⟩ := hl
  unfold pyNext
  refine wpAny_bind (wpAny_attempt (wpAny_callSpecial?_slot (name := Str.ofString "__next__") hit.typeIs slot_listiter_next (wpAny_call_entry slot_listiter_next hit.typeIs entry_listiter_next ?_ (args_listiter_next _))))
  show wpAny _ _ (field (.ref it) 0 >>= _) _ _ s
  refine wpAny_bind (wpAny_field hoi hdi (x := .ref l) rfl ?_)
  show wpAny _ _ (if (Value.ref l == Value.none) = true then _ else _) _ _ s
  rw [if_neg (show ¬ ((Value.ref l == Value.none) = true) from Bool.false_ne_true)]
  show wpAny _ _ (field (.ref it) 1 >>= _) _ _ s
  refine wpAny_bind (wpAny_field hoi hdi (x := .int i 0) rfl ?_)
  show wpAny _ _ (seqItems? (.ref l) >>= _) _ _ s
  refine wpAny_bind (wpAny_seqItems hol hdl ?_)
  simp only [Int.toNat_natCast, hx]
  refine wpAny_bind (wpAny_rule (wpAny_bind (wpAny_setField hoi hdi (by simp) ?_)))
  have kk : ∀ b o, b ≠ it → s.heap.get? b = some o → (s.heap.update it (Obj.mapFields (·.setIfInBounds 0 Value.none))).get? b = some o := fun b o hb e => (Heap.get?_update_other _ _ (Ne.symm hb)).trans e
  refine stop_hot (A := A.in1) (h0 := s.heap) (it := it) (hot_stays (A := A.in1) (h := s.heap) hot fun o e => kk _ o ne e) kk fun e h' ty ex => ?_
  exact wpAny_bind (wpAny_isInstance (T := "StopIteration") (b := true) ty isSubtype_stop (wpAny_pure (hQ h' ex)))
theorem tup_end_hot {it t : Addr} {i : Nat} {items : Array Value} {Q : Option Value → Shared → Prop} (hot : HotAt A x1 s.heap) (ne : x1 ≠ it) (hit : IsTupIter s.heap it t i) (ht : IsTup s.heap t items) (hx : items[i]? = none)
    (hQ : ∀ h', Heap.ExtBut it s.heap h' → Q none { s with heap := h' }) : wpAny (model prog w) A (pyNext (.ref it)) Q E s := by
  obtain ⟨oi, hoi, hci, hdi⟩ := id hit
  obtain ⟨ol, hol, _, nl, hdl⟩ := ht
  unfold pyNext
  refine wpAny_bind (wpAny_attempt (wpAny_callSpecial?_slot (name := Str.ofString "__next__") hit.typeIs slot_tupleiter_next (wpAny_call_entry slot_tupleiter_next hit.typeIs entry_tupleiter_next ?_ (args_tupleiter_next _))))
  show wpAny _ _ (field (.ref it) 0 >>= _) _ _ s
  refine wpAny_bind (wpAny_field hoi hdi (x := .ref t) rfl ?_)
  show wpAny _ _ (if (Value.ref t == Value.none) = true then _ else _) _ _ s
  rw [if_neg (show ¬ ((Value.ref t == Value.none) = true) from Bool.false_ne_true)]
  show wpAny _ _ (field (.ref it) 1 >>= _) _ _ s
  refine wpAny_bind (wpAny_field hoi hdi (x := .int i 0) rfl ?_)
  show wpAny _ _ (seqItems? (.ref t) >>= _) _ _ s
  refine wpAny_bind (wpAny_seqItems hol hdl ?_)
  simp only [Int.toNat_natCast, hx]
  refine wpAny_bind (wpAny_rule (wpAny_bind (wpAny_setField hoi hdi (by simp) ?_)))
  have kk : ∀ b o, b ≠ it → s.heap.get? b = some o → (s.heap.update it (Obj.mapFields (·.setIfInBounds 0 Value.none))).get? b = some o := fun b o hb e => (Heap.get?_update_other _ _ (Ne.symm hb)).trans e
  refine stop_hot (A := A.in1) (h0 := s.heap) (it := it) (hot_stays (A := A.in1) (h := s.heap) hot fun o e => kk _ o ne e) kk fun e h' ty ex => ?_
  exact wpAny_bind (wpAny_isInstance (T := "StopIteration") (b := true) ty isSubtype_stop (wpAny_pure (hQ h' ex)))
theorem apart_hot {t : Addr} {items : Array Value} {Q : List Value → Shared → Prop} (hot : HotAt A x1 s.heap) (ht : IsTup s.heap t items)
    (hQ : ∀ h', Heap.ExtBut s.heap.objs.size s.heap h' → Q items.toList { s with heap := h' }) : wpAny (model prog w) A (unpackItems (.ref t) items.size none) Q E s := by
  have ht1 : t ≠ s.heap.objs.size := by
    obtain ⟨o, ho, _⟩ := ht
    exact Nat.ne_of_lt (Heap.lt_size ho)
  have hx1 : x1 ≠ s.heap.objs.size := by
    obtain ⟨_, o, _, ho, _⟩ := hot
    exact Nat.ne_of_lt (Heap.lt_size ho)
  unfold unpackItems
  refine wpAny_bind ?_
  unfold notIterableAtAll
  refine wpAny_bind (wpAny_specialOf ht.typeIs slot_tuple_iter.lookup (wpAny_pure ?_))
  simp only [Bool.false_eq_true, if_false]
  refine wpAny_bind (wpAny_holding (iter_tuple ht (wpAny_bind (wpAny_holding (draw_tuple ht1 items.size 0 _ _ ⟨_, Heap.get?_push_size _ rfl, rfl, rfl⟩ (ht.push _) (by omega) fun h1 hi1 sb1 => ?_)))))
  rw [show List.take items.size (List.drop 0 items.toList) = items.toList from by rw [List.drop_zero]; exact List.take_of_length_le (by simp), if_neg (by simp)]
  refine wpAny_bind (wpAny_holding (tup_end_hot (hot_stays hot fun o e => sb1.extBut _ o hx1 (Heap.get?_push_of_some _ e)) hx1 hi1 ((ht.push _).extBut sb1.extBut ht1) (by simp) fun h2 eb2 => ?_))
  simp only [Option.isSome_none, Bool.false_eq_true, if_false]
  exact wpAny_pure (hQ h2 fun b o hb e => eb2 b o hb (sb1.extBut b o hb (Heap.get?_push_of_some _ e)))
theorem pull_hot {env : Env} {elts : List Expr} {kk : Nat} {pos : Pos} {t : Addr} {items : Array Value} {Q : Unit → Shared → Prop} (hot : HotAt A x1 s.heap) (ht : IsTup s.heap t items) (hn : (assignEach elts env).length = items.size)
    (hst : (assignEach elts env).findIdx? (·.1) = none) (h : ∀ h', Heap.ExtBut s.heap.objs.size s.heap h' → wpAny (model prog w) A (assignInOrder ((assignEach elts env).map (·.2)) items.toList) Q E { s with heap := h' }) :
    wpAny (model prog w) A (assign (.Tuple elts kk pos) env (.ref t)) Q E s := by
  rw [assign_Tuple]
  refine wpAny_bind (wpAny_standAt ?_)
  unfold unpack
  rw [hn, hst]
  exact wpAny_bind (wpAny_holding (apart_hot hot ht h))
end
/-! ### a context that bears the handled exception as a thing that stays -/
def Hott (X : Cx) : Prop := ∃ (a : Addr) (oe : Obj) (fs : Array Value), X.A.handled = some (.ref a) ∧ X.H_0 a = some (.frz oe xt) ∧ oe.data = .fields fs ∧ fs[2]? = some .none
section
variable {X : Cx} {pins : List (Addr × Obj)} {σ : L2.St} {H : Hp} {s : Shared}
theorem Hott.at (c : Hott X) (I : Inv X pins σ H s) : ∃ x1, HotAt X.A x1 s.heap ∧ H x1 ≠ none := by
  obtain ⟨a, oe, fs, hh, h0, hd, hc⟩ := c
  have q := I.base.frzs a oe xt h0
  exact ⟨a, ⟨hh, oe, fs, (I.hok a _ q).1, hd, hc⟩, by rw [q]; exact fun z => by cases z⟩
theorem pg_tupX {es : List Expr} {k : Nat} {t : TGs} {n : Nat} {pos : Pos} (hc : Hott X) (h : PGs X es t) (hn : (assignEach es X.env).length = n := by rfl) (hst : (assignEach es X.env).findIdx? (·.1) = none := by rfl) : PG X (.Tuple es k pos) (gTup X.K n t) := by
  refine ⟨fun pins s σ H v u Q I r hw => ?_⟩
  obtain ⟨b, xs, rfl, hq, hl, hw⟩ := hw
  cases r
  obtain ⟨its, rv, ht, _⟩ := I.tuple hq
  obtain ⟨x1, hot, _⟩ := hc.at I
  refine pull_hot hot ht (by simp [hn, ← hl, rv.length]) hst fun h' hx => ?_
  exact h.run pins _ σ H xs _ Q (I.kept (t' := s.toks) fun b o e => hx b o (Nat.ne_of_lt (Heap.lt_size e)) e) (by simpa using rv) hw
end
end Ex0

/-! A list comprehension over a list while an exception is handled. -/
namespace Ex0
open PySem PySem.Spec PyProof.Rows L2
open HotX (HotAt)
section
variable {X : Cx}
theorem lc_hot {pins : List (Addr × Obj)} {s : Shared} {σ : L2.St} {H : Hp} {Q : VK} {elt tg l : Expr} {ifs : List Expr} {scope : Scope} {own : List (Str × Nat)} {pos pos' : Pos} {tl : TE} {g : TG} {tt : TT} {te : TE} {use : Option (Value → Sem Unit)} {Qf : Value → Shared → Prop}
    (hc : Hott X) (hN : X.N.Nodup) (I : Inv X pins σ H s) (hl : PE X l tl) (ok : BlkOk X.N X.env.scope scope own)
    (hg : ∀ s H C cl fp, Hott (X.blk s H scope (compEnvC scope cl C X.env) fp) → PG (X.blk s H scope (compEnvC scope cl C X.env) fp) tg g) (ht : ∀ s H C cl fp, PTs (X.blk s H scope (compEnvC scope cl C X.env) fp) ifs tt)
    (he : ∀ s H C cl fp, PE (X.blk s H scope (compEnvC scope cl C X.env) fp) elt te) (hs : ∀ x, foldedSetIterable l X.env x = pure x) (h : tLc (iList X.K tl) g tt te (own.map (·.2)) σ H Q)
    (hRR : ∀ D C s' m H', Inv X pins σ H' s' → Q (.ref D) H' → s'.heap.Ns C m → FpOk X pins H' C → compPost (model X.prog X.w) X.A X.xe use Qf (.ref D) C (.ok .next) s') :
    wpAny (model X.prog X.w) X.A (comprehension (.ListComp elt [⟨tg, l, ifs, 0⟩] scope pos) scope X.env pos' (newList []) false (eval l X.env) use) Qf X.xe s := by
  have frees : ∀ y ∈ scope.names, y.2 = .free → ∃ c, X.env.cells.lookup y.1 = some c := fun y hy e => (ok.free y hy e).elim (fun k => I.ok.has _ (.inl k)) fun k => I.ok.has _ (.inr k)
  refine wpAny_comprehension_free (use := use) rfl hs (closure_ok frees) ok.kind (fun y hy e => by rw [ok.uniq y hy, e]) (thn (hl.run pins s σ H _ I h) fun xv s1 hx => ?_)
  obtain ⟨x, H1, I1, r1, a, rfl, ⟨xs0, hq0⟩, q⟩ := hx
  cases r1
  obtain ⟨its0, _, p0, _⟩ := I1.list hq0
  refine wpAny_pyIter_list p0.isList ?_
  have f1 : FpOk X pins H1 s1.heap.objs.size := I1.fpOk (Nat.le_refl _) (I1.hok.fresh (Nat.le_refl _))
  have I2 : Inv X pins σ H1 { s1 with heap := s1.heap.push { cls := .type "list_iterator", data := .fields #[.ref a, .int 0 0] } } := I1.kept (t' := s1.toks) fun b o e => Heap.get?_push_of_some _ e
  have it2 : Heap.IsListIter (s1.heap.push { cls := .type "list_iterator", data := .fields #[.ref a, .int 0 0] }) s1.heap.objs.size a 0 := ⟨_, Heap.get?_push_size _ rfl, rfl, rfl⟩
  generalize s1.heap.objs.size = it at f1 it2 ⊢
  change wpAny _ _ _ _ _ ({ s1 with heap := s1.heap.push { cls := .type "list_iterator", data := .fields #[.ref a, .int 0 0] } } : Shared)
  generalize hs2 : ({ s1 with heap := s1.heap.push { cls := .type "list_iterator", data := .fields #[.ref a, .int 0 0] } } : Shared) = s2 at I2 ⊢
  have it2 : s2.heap.IsListIter it a 0 := by rw [← hs2]; exact it2
  refine wpAny_newObj_type (newEnv_comp ?_) (by show 0 ≤ sizeLine; decide)
  have nD : H1 s2.heap.objs.size = none := I2.hok.fresh (Nat.le_refl _)
  obtain ⟨W, ⟨m0, w0⟩, turn⟩ := q _ nD
  have lt2 : it < s2.heap.objs.size := by
    obtain ⟨o, e, _⟩ := it2
    exact Heap.lt_size e
  have I3 : Inv X pins σ (upd H1 s2.heap.objs.size (.lst [])) { s2 with heap := s2.heap.push { cls := .type "list", data := .seq ([] : List Value).toArray } } :=
    I2.laid (t' := s2.toks) (fun b o e => Heap.get?_push_of_some _ e) (Nat.le_refl _) ⟨Nat.zero_le _, [], 0, .nil, Heap.get?_push_size _ rfl⟩
  have f3 : FpOk X pins (upd H1 s2.heap.objs.size (.lst [])) it := ⟨by rw [upd_ne (Nat.ne_of_lt lt2)]; exact f1.1, f1.2⟩
  have it3 : Heap.IsListIter (s2.heap.push { cls := .type "list", data := .seq ([] : List Value).toArray }) it a 0 := it2.at fun o e => Heap.get?_push_of_some _ e
  have lt3 : it < (s2.heap.push { cls := .type "list", data := .seq ([] : List Value).toArray }).objs.size := by
    rw [Heap.size_push]
    exact Nat.lt_succ_of_lt lt2
  generalize s2.heap.objs.size = D at *
  generalize upd H1 D (.lst []) = H3 at *
  generalize hs3 : ({ s2 with heap := s2.heap.push { cls := .type "list", data := .seq ([] : List Value).toArray } } : Shared) = s3 at I3 ⊢
  have e3 : s3.heap = s2.heap.push { cls := .type "list", data := .seq ([] : List Value).toArray } := by rw [← hs3]
  rw [← e3] at it3 lt3
  have I4 := block_start (fp := [it]) I3 ok hN fun b hb => by rw [List.mem_singleton.mp hb]; exact ⟨f3, lt3⟩
  have pg := hg s3 H3 s3.heap.objs.size (cellsFrom (s3.heap.objs.size + 1) scope.names (cloFrom X.env.cells scope.names [])) [it]
  have pt := ht s3 H3 s3.heap.objs.size (cellsFrom (s3.heap.objs.size + 1) scope.names (cloFrom X.env.cells scope.names [])) [it]
  have pe := he s3 H3 s3.heap.objs.size (cellsFrom (s3.heap.objs.size + 1) scope.names (cloFrom X.env.cells scope.names [])) [it]
  have goal : codeAny (model X.prog X.w) X.A (.compStart (.ListComp elt [⟨tg, l, ifs, 0⟩] scope pos) 0 (.ref it) (.ref D) (compEnvC scope (cellsFrom (s3.heap.objs.size + 1) scope.names (cloFrom X.env.cells scope.names [])) s3.heap.objs.size X.env))
      (compPost (model X.prog X.w) X.A X.xe use Qf (.ref D) s3.heap.objs.size) { s3 with heap := pushCells (s3.heap.push { cls := .type "dict", data := .dict #[] }) scope.names } := by
    generalize hv : compEnvC scope (cellsFrom (s3.heap.objs.size + 1) scope.names (cloFrom X.env.cells scope.names [])) s3.heap.objs.size X.env = cv at I4 pg pt pe ⊢
    have lv : cv.locals = s3.heap.objs.size := by rw [← hv]; rfl
    have it4 : (pushCells (s3.heap.push { cls := .type "dict", data := .dict #[] }) scope.names).IsListIter it a 0 := it3.at fun o e => pushCells_keeps _ _ _ _ (Heap.get?_push_of_some _ e)
    have hot : Hott (X.blk s3 H3 scope cv [it]) := by
      obtain ⟨b, oe, fs, hh, h0, hd, hx⟩ := hc
      exact ⟨b, oe, fs, hh, I3.base.frzs b oe xt h0, hd, hx⟩
    have pg := pg hot
    generalize hs4 : ({ s3 with heap := pushCells (s3.heap.push { cls := .type "dict", data := .dict #[] }) scope.names } : Shared) = s4 at I4 ⊢
    have it4 : s4.heap.IsListIter it a 0 := by rw [← hs4]; exact it4
    have stat : ∀ {σ' : L2.St} {H' : Hp} {s' : Shared}, Inv (X.blk s3 H3 scope cv [it]) [] σ' H' s' → H' it = none → FpOk (X.blk s3 H3 scope cv [it]) [] H' it := fun {σ' H' s'} J n =>
      ⟨n, (J.ok.exf it (List.mem_singleton.mpr rfl)).1, J.ok.exfs it (List.mem_singleton.mpr rfl), .inl (List.mem_singleton.mpr rfl), fun x c e => (J.ok.exf it (List.mem_singleton.mpr rfl)).2 x c e, fun p hp => by cases hp⟩
    refine codeAny_compStart_list ?_ (wpAny_pyIter_listiter it4 ?_)
    all_goals
      refine compLoop_any (fun n s' => ∃ i H', Inv (X.blk s3 H3 scope cv [it]) [] (wipe σ (own.map (·.2))) H' s' ∧ s'.heap.IsListIter it a i ∧ H' it = none ∧ W i n H') ?_ m0 ⟨0, H3, I4, it4, f3.1, w0⟩
      rintro n s5 ⟨i, H5, I5, it5, n5, w5⟩
      obtain ⟨f0, g1, g2, g3, g4, g5⟩ := stat I5 n5
      rcases turn i n H5 w5 with ⟨⟨xs, hq, hx⟩, qq⟩ | ⟨⟨xs, x, hq, hx⟩, Nx, hNx, step⟩
      · obtain ⟨its, rv, p, _⟩ := I5.list hq
        obtain ⟨x1, ho, nx⟩ := hot.at I5
        have len := rv.length
        refine list_end_hot ho (fun z => nx (z ▸ n5)) it5 p.isList (by simp; omega) fun h' eb => ?_
        have I6 : Inv (X.blk s3 H3 scope cv [it]) [] (wipe σ (own.map (·.2))) H5 { s5 with heap := h' } := I5.turned (t' := s5.toks) (fun b o hb e => eb b o hb e) f0 g1 g3 g4 g5
        have I7 : Inv X pins σ H5 { s5 with heap := h' } := I3.call' (ch := [it]) I6.os I6.base I6.hok I6.bare fun b hb => by
          rw [List.mem_singleton.mp hb]
          exact ⟨f3.2.2.2.1, f3.2.1, f3.2.2.2.2.1, f3.2.2.2.2.2⟩
        have nC : H5 s3.heap.objs.size = none := by
          have z : H5 cv.locals = none := I6.free
          rwa [lv] at z
        obtain ⟨m, hn, _⟩ := I6.loc
        have hn : h'.Ns cv.locals m := hn
        rw [lv] at hn
        exact hRR D _ _ m H5 I7 qq hn (I3.fpOk (Nat.le_refl _) nC)
      · obtain ⟨its, rv, p, _⟩ := I5.list hq
        obtain ⟨u, hu, ru⟩ := rv.get hx
        refine wpAny_pyNext_list_item it5 p.isList (x := u) (by simpa using hu) fun h' it6 sb => ?_
        have I6 : Inv (X.blk s3 H3 scope cv [it]) [] (wipe σ (own.map (·.2))) H5 { s5 with heap := h' } := I5.turned (t' := s5.toks) (fun b o hb e => (sb.2 b hb).trans e) f0 g1 g3 g4 g5
        have y7 : (Itl X.K a).yld i H5 x H5 := ⟨rfl, fun ys hy => by rw [I5.list_inj hy hq]; exact hx⟩
        obtain ⟨oi, eo, co, dd⟩ := id it6
        refine go_of (s := { s5 with heap := h' }) eo co dd (by decide) ?_
        have I8 := I6.pinned (fp := [it]) (fun b hb => by rw [List.mem_singleton.mp hb]; exact stat I6 n5) fun b hb => by
          rw [List.mem_singleton.mp hb]
          exact ⟨oi, eo, fun v z => by rw [dd] at z; cases z⟩
        refine thnF (pg.run _ _ _ H5 x u _ I8 ru (step x H5 y7)) fun _ s8 ⟨σ8, H8, I9, w8, q8⟩ => ?_
        refine thnF (pt.run _ s8 σ8 H8 _ I9 q8) fun b s9 ⟨H9, I10, q9⟩ => ?_
        have fin : ∀ {s' : Shared} {H' : Hp}, Inv (X.blk s3 H3 scope cv [it]) ([] ++ pinsAt [it] h') σ8 H' s' → Nx H' → ∃ m, m < n ∧ ∃ i H', Inv (X.blk s3 H3 scope cv [it]) [] (wipe σ (own.map (·.2))) H' s' ∧ s'.heap.IsListIter it a i ∧ H' it = none ∧ W i m H' := fun {s' H'} J nx => by
          obtain ⟨m', hm, w'⟩ := hNx H' nx
          have z := J.pin (it, oi) (List.mem_append_right _ (List.mem_append_right _ (mem_pinsAt (List.mem_singleton.mpr rfl) eo)))
          refine ⟨m', hm, i + 1, H', (J.unpinned (pins := [])).weak (by rw [← w8, wipe_length]) (fun j v e => ?_), it6.at fun o e => ?_, z.2.1, w'⟩
          · rw [← w8] at e
            exact (wipe_some e).1
          · have e : h'.get? it = some o := e
            rw [eo] at e
            cases e
            exact z.1
        cases b with
        | false =>
          simp only [Bool.false_eq_true, if_false] at q9 ⊢
          exact fin I10 q9
        | true =>
          simp only [if_true] at q9 ⊢
          refine thnF (pe.run _ s9 σ8 H9 _ I10 q9) fun z s10 ⟨yv, H10, I11, r10, acc, hD, hz, nx⟩ => ?_
          exact app_ok (X := X.blk s3 H3 scope cv [it]) I11 hD hz r10 fun s11 I12 => fin I12 nx
  subst hs3
  exact goal
/-- name = [..] on one line, the name a local -/
theorem ps_lcHot {i : Nat} {y : Str} {py : Pos} {elt tg l : Expr} {ifs : List Expr} {scope : Scope} {own : List (Str × Nat)} {pos spos : Pos} {tl : TE} {g : TG} {tt : TT} {te : TE} (hc : Hott X) (hN : X.N.Nodup) (hy : X.N[i]? = some y) (hyl : X.env.scope.names.lookup y = some .local)
    (hsw : swapsWith (.ListComp elt [⟨tg, l, ifs, 0⟩] scope pos) (some (.Name y py)) spos.line X.env = pure true) (hl : PE X l tl) (ok : BlkOk X.N X.env.scope scope own)
    (hg : ∀ s H C cl fp, Hott (X.blk s H scope (compEnvC scope cl C X.env) fp) → PG (X.blk s H scope (compEnvC scope cl C X.env) fp) tg g) (ht : ∀ s H C cl fp, PTs (X.blk s H scope (compEnvC scope cl C X.env) fp) ifs tt)
    (he : ∀ s H C cl fp, PE (X.blk s H scope (compEnvC scope cl C X.env) fp) elt te) (hs : ∀ x, foldedSetIterable l X.env x = pure x := by intro _; rfl) :
    PS X (.Assign [.Name y py] (.ListComp elt [⟨tg, l, ifs, 0⟩] scope pos) spos) (tAsg (tLc (iList X.K tl) g tt te (own.map (·.2))) (gName i)) := by
  refine ⟨fun pins s σ H D I h => ?_⟩
  rw [exec_Assign_Name_used _ _ _ _ hsw]
  refine wpAny_bind (wpAny_standAt (wpAny_bind ?_))
  change wpAny _ X.A (do let _ ← comprehension (.ListComp elt [⟨tg, l, ifs, 0⟩] scope pos) scope X.env (firstIterPos [⟨tg, l, ifs, 0⟩] pos) (newList []) false (eval l X.env) (some (assign (.Name y py) X.env))) _ _ s
  refine wpAny_bind (thn (lc_hot (Q := fun x H1 => gName i x σ H1 D.nx) (Qf := fun _ s' => SP X pins D .next s') hc hN I hl ok hg ht he hs h fun L C s' m H' J q hn f => ?_) fun _ s' hq => wpAny_pure (wpAny_pure hq))
  change wpAny _ _ (assign (.Name y py) X.env (.ref L)) _ _ _
  refine wpAny_assign_Name (store_ok2 (v := V.ref L) J hN hy (.inl hyl) rfl (fun s2 J2 ⟨b, sb, hb⟩ => ?_) (.inr hyl))
  obtain ⟨f0, f1, f2, f3, f4, f5⟩ := f
  have nb : C ≠ b := hb.elim (fun z => by rw [z]; exact f1) fun z e => f4 y b z e.symm
  exact ⟨m, hn.sameBut sb nb, fun h3 sb3 => ⟨_, H', J2.turned (t' := s2.toks) (fun b o hb e => (sb3.2 b hb).trans e) f0 f1 f3 f4 f5, q⟩⟩
end
end Ex0

/-! A def that is handed the exception in the suite that holds it. -/
namespace Ex0
open PySem PySem.Spec PyProof.Rows L2
open HotX (HotAt)
structure FnE (P : Program) (w : World) (K : PySem.W.Frag) (mg : Str → Option Value) (base : Heap) (k : Nat) (f : Addr) (fd : FuncData) (ps : List Str) (sp : Sp) : Prop where
  len : ∀ vs H Q E, sp vs H Q E → vs.length = ps.length
  run : ∀ (A : Around) (outer : List Env) (s : Shared) (H : Hp) (us : List Value) (vs : List V) (Q : VK) (a : Addr) (oe : Obj) (fs : Array Value), L2H.RoomH k A → A.handled = some (.ref a) → H a = some (.frz oe xt) → oe.data = .fields fs → fs[2]? = some .none →
    Env0 P w K mg base A outer s H → BindsTo s fd ⟨us, []⟩ (ps.zip us) → Vals vs us → sp vs H Q E0 → codeAny (model P w) A (.call (.ref f) ⟨us, []⟩) (CR CX0 outer P w H s Q E0) s
abbrev cxE (P : Program) (w : World) (K : PySem.W.Frag) (mg : Str → Option Value) (base : Heap) (N : List Str) (qual : Str) (scope : Scope) (f : Addr) (cd : Value) (A : Around) (outer : List Env) (s : Shared) (H : Hp) (p : Addr × Obj) : Cx :=
  L2H.cxH CX0 P w K mg base N qual scope f cd A outer s H E0 p
/-- THE RULE for such a def -/
theorem fnE_of {P : Program} {w : World} {K : PySem.W.Frag} {mg : Str → Option Value} {base : Heap} {x qual : Str} {params : Arguments} {body : List Stmt} {scope : Scope} {dvs : List V} {kws : List (Str × V)} {f : Addr} {fd : FuncData} {N ps : List Str} {k : Nat} {sp : Sp}
    (F : FunD K x qual params body scope dvs kws f fd) (S : FnScope N ps scope) (len : ∀ vs H Q E, sp vs H Q E → vs.length = ps.length)
    (hbody : ∀ (cdv : Value) (A : Around) (outer : List Env) (s : Shared) (H : Hp) (vs : List V) (Q : VK) (p : Addr × Obj), L2H.RoomH k (A.deeper (envOfC qual scope s.heap.objs.size f cdv)) → Hott (cxE P w K mg base N qual scope f cdv A outer s H p) → sp vs H Q E0 →
      ∃ t, PSs (cxE P w K mg base N qual scope f cdv A outer s H p) body t ∧ t { nx := fun _ H' => Q .non H', rt := Q } (L2.start N vs) H) : FnE P w K mg base (k + 1) f fd ps sp := by
  obtain ⟨oc, od, dV, kV, doc, pm, an, cdv, ct, osl, rfl, lk, hcd, _, _⟩ := F.ex
  refine ⟨len, fun A outer s H us vs Q a oe fs hr hh h0 hd hx e0 hb r hsp => ?_⟩
  have hl := len _ _ _ _ hsp
  have KX : K.In s.heap := e0.mod.kin.keeps fun b o e => (e0.bs b o e).1
  have lim : s.heap.NoLimit := e0.mod.nolimit.keeps fun b o e => (e0.bs b o e).1
  obtain ⟨o, es, ep, eo, dO, _⟩ := e0.mod.glob
  have pin : L2H.PinOk outer H s (mainGlobals, o) := by
    refine ⟨(e0.bs _ o eo).1, (e0.bs _ o eo).2, fun hm => ?_, fun v z => ?_⟩
    · have q := (e0.funs.mem hm).1
      rw [eo] at q
      cases q
    · have z : o.data = .cell v := z
      rw [dO] at z
      cases z
  have kinds : ∀ y ∈ ps.zip us, scope.names.lookup y.1 = some .local ∨ (scope.names.lookup y.1 = some .cell ∧ ((cellsFrom (s.heap.objs.size + 1) scope.names []).lookup y.1).isSome = true) := fun ⟨n, v⟩ hy =>
    (S.par n (List.of_mem_zip hy).1).elim .inl fun q => .inr ⟨q, PySem.W.cellsFrom_some _ _ _ (.inl q)⟩
  refine codeAny_call_function hr.depth (KX _ _ lk) rfl S.co S.gen rfl (PySem.W.codeRec_of KX hcd) (hb _ _ _ _ (wpAny_newFunctionEnv_cells S.kind kinds fun env he s1 y => ?_))
  subst he
  refine ⟨lim.keeps y.toInCall.keep, codeAny_func ?_⟩
  obtain ⟨t, ht, hq⟩ := hbody cdv A outer s H vs Q (mainGlobals, o) (hr.deeper _) ⟨a, oe, fs, hh, h0, hd, hx⟩ hsp
  have I : Inv (cxE P w K mg base N qual scope f cdv A outer s H (mainGlobals, o)) [] (L2.start N vs) H s1 := L2H.inv_startH S pin e0 hl r y
  refine wpAny_mono (ht.run [] s1 (L2.start N vs) H _ I hq) (fun fl s' q => ?_) fun _ _ q => q
  cases fl with
  | ret u =>
    obtain ⟨v, σ', H', J, rv, q⟩ := q
    exact ⟨v, H', J.os, J.bare, J.base, J.hok, rv, q⟩
  | next =>
    obtain ⟨σ', H', J, q⟩ := q
    exact ⟨V.non, H', J.os, J.bare, J.base, J.hok, rfl, q⟩
  | brk =>
    obtain ⟨_, _, _, q⟩ := q
    exact q.elim
  | cont =>
    obtain ⟨_, _, _, q⟩ := q
    exact q.elim
def CalE (P : Program) (w : World) (K : PySem.W.Frag) (mg : Str → Option Value) (base : Heap) (k : Nat) (x : Str) (ps : List Str) (sp : Sp) : Prop :=
  ∃ f fd, FnE P w K mg base k f fd ps sp ∧ mg x = some (.ref f) ∧ PySem.W.keepIn K (.ref f) = true ∧ Binds K fd ps []
/-- f(error), error the exception that the suite holds: of the class at C, with no dict -/
def tAsk (sp : Sp) (a C : Addr) (cls : Value) (d : Option Addr) (t : TA) : TE := fun σ H Q => t σ H fun vs H1 => H1 a = none →
  cls = .ref C ∧ d = none ∧ ∀ oe : Obj, oe.cls = .ref C → oe.dict = none → (∃ fs, oe.data = .fields fs) → sp vs (upd H1 a (.frz oe xt)) (fun v H' => H' a = some (.frz oe xt) → Q v (era a H')) E0
theorem pe_ask {X : Cx} {a C : Addr} {oe : Obj} {cls : Value} {d : Option Addr} {pn : List (Addr × Obj)} {k j : Nat} {x : Str} {ps : List Str} {sp : Sp} {e : Expr} {p pos : Pos} {t : TA} (CK : ∀ base, CalE X.prog X.w X.K X.mg base k x ps sp)
    (hz : L2N.Zn cls d oe) (hf : ∃ vs, oe.data = .fields vs) (nK : ∀ b o, X.K.lookup b = some o → o.cls ≠ .ref C) (hr : Room j X.A) (hj : k ≤ j) (ha : PA (X.suite a ((a, oe) :: pn)) (e :: []) t)
    (hg : Gl X x := by rfl) (hdb : (x == ("__debug__" : Str)) = false := by decide) (he : starEach (e :: []) X.env = (false, eval e X.env) :: starEach [] X.env := by rfl) (hpl : (backTo pos (starEach [] X.env)).any (·.1) = false := by rfl) :
    PE (X.suite a ((a, oe) :: pn)) (.Call (.Name x p) (e :: []) [] pos) (tAsk sp a C cls d t) := by
  obtain ⟨f, fd, F, hm, hk, hb⟩ := CK (PySem.W.hideAll X.base [a])
  refine ⟨fun pins s σ H Q I h => wpAny_Call_Name_kw (ld_glob I hg hm ?_ hdb)⟩
  refine PySem.W.callWith_K (h₀ := X.base) I.ok.mod.kin hk (thn (ha.run pos pins s σ H _ I h) fun us s1 ⟨vs, H1, I1, r, q⟩ => ⟨I1.kIn, ?_⟩) he hpl
  obtain ⟨hget, na, nL, nF, _⟩ := I1.pin (a, oe) (List.mem_append.mpr (.inl List.mem_cons_self))
  obtain ⟨e1, e2, q⟩ := q na
  obtain ⟨z1, z2, z3⟩ := hz
  have q := q oe (z1.trans e1) (z2.trans e2) hf
  obtain ⟨fs, hd⟩ := hf
  have hlen : us.length = ps.length := by rw [← r.length]; exact F.len _ _ _ _ q
  have nKa : X.K.lookup a = none := by
    cases w : X.K.lookup a with
    | none => rfl
    | some o =>
      have w2 := I1.kIn a o w
      rw [hget] at w2
      have w2 := Option.some.inj w2
      subst w2
      exact absurd (z1.trans e1) (nK a _ w)
  have b := hb s1 us I1.kIn (by rw [List.append_nil]; exact hlen)
  rw [List.append_nil] at b
  have hr := hr.mono hj
  have room : L2H.RoomH k (X.suite a ((a, oe) :: pn)).A := ⟨hr.dp, hr.un⟩
  refine wpAny_call (codeAny_mono (F.run _ _ s1 _ us vs _ a oe fs room rfl upd_same hd (z3 fs hd) (hold_in I1 hget hd na nKa nL nF) b r q) fun r s' hq => ?_)
  cases r with
  | error e => exact hq.elim
  | ok fl =>
    cases fl with
    | ret u => exact hold_out I1 hget na nL nF hq fun v H' h1 h2 => h2 h1
    | next => exact False.elim hq
    | brk => exact False.elim hq
    | cont => exact False.elim hq
end Ex0

/-! Refusals as data: a def that raises, the suite that asks which class it was. -/
namespace Pl
open PySem PySem.Spec PyProof.Rows L2
open Evl (Ex)
section
variable {K : PySem.W.Frag} {X : Cx}
theorem ok_isEr (h : X.K = K) : CallR X (.builtin "isinstance") (Ex0.rIsEr K) := by subst h; exact Ex0.call_isEr
theorem rc_isEr {C B : Addr} {b : Bool} (c : ExcC K C) (h : PySem.W.kitOne K (.ref C) (.ref B) = some b) : RC K (Ex0.rIsEr K) [.er C, .adr B] (.bl b) := fun S H vs e r Q q => by
  cases r with
  | cons h1 t1 =>
    cases t1 with
    | cons h2 t2 =>
      cases t2
      cases h2
      cases h1 with
      | er hs hc hd hv => exact ⟨_, _, _, _, _, .ref B, b, rfl, e _ _ hs, hc, hd, hv, c, fun w z => z, h, q _ S H (Ext.refl e) (.bl b)⟩
theorem rc_isErT {C : Addr} {n : String} {b : Bool} (c : ExcC K C) (h : PySem.W.kitOne K (.ref C) (.type n) = some b) : RC K (Ex0.rIsEr K) [.er C, .ty n] (.bl b) := fun S H vs e r Q q => by
  cases r with
  | cons h1 t1 =>
    cases t1 with
    | cons h2 t2 =>
      cases t2
      cases h2
      cases h1 with
      | er hs hc hd hv => exact ⟨_, _, _, _, _, .type n, b, rfl, e _ _ hs, hc, hd, hv, c, fun w z => z, h, q _ S H (Ext.refl e) (.bl b)⟩
theorem ok_tupX {es : List Expr} {k n : Nat} {t : TGs} {pos : Pos} (hK : X.K = K) (hc : Ex0.Hott X) (h : PGs X es t) (hn : (assignEach es X.env).length = n := by rfl) (hst : (assignEach es X.env).findIdx? (·.1) = none := by rfl) : PG X (.Tuple es k pos) (gTup K n t) := by
  subst hK
  exact Ex0.pg_tupX hc h hn hst
theorem ok_lcHot {i : Nat} {y : Str} {py : Pos} {elt tg l : Expr} {ifs : List Expr} {scope : Scope} {own : List (Str × Nat)} {pos spos : Pos} {tl : TE} {g : TG} {tt : TT} {te : TE} (hK : X.K = K) (hc : Ex0.Hott X) (hN : X.N.Nodup) (hy : X.N[i]? = some y) (hyl : X.env.scope.names.lookup y = some .local)
    (hsw : swapsWith (.ListComp elt [⟨tg, l, ifs, 0⟩] scope pos) (some (.Name y py)) spos.line X.env = pure true) (hl : PE X l tl) (ok : BlkOk X.N X.env.scope scope own)
    (hg : ∀ s H C cl fp, Ex0.Hott (X.blk s H scope (compEnvC scope cl C X.env) fp) → PG (X.blk s H scope (compEnvC scope cl C X.env) fp) tg g) (ht : ∀ s H C cl fp, PTs (X.blk s H scope (compEnvC scope cl C X.env) fp) ifs tt)
    (he : ∀ s H C cl fp, PE (X.blk s H scope (compEnvC scope cl C X.env) fp) elt te) (hs : ∀ x, foldedSetIterable l X.env x = pure x := by intro _; rfl) :
    PS X (.Assign [.Name y py] (.ListComp elt [⟨tg, l, ifs, 0⟩] scope pos) spos) (tAsg (tLc (iList K tl) g tt te (own.map (·.2))) (gName i)) := by
  subst hK
  exact Ex0.ps_lcHot hc hN hy hyl hsw hl ok hg ht he hs
end
/-! ### what the classes say -/
theorem excB_ok {K : PySem.W.Frag} {C : Addr} (h : excB K C = true) : ExcC K C := by
  unfold excB at h
  simp only [Bool.and_eq_true, decide_eq_true_eq] at h
  obtain ⟨h1, h2, h3, h4, h5, h6, h7, h8⟩ := h
  exact ⟨h1, h2, h3, h4, h5, h6, h7, h8⟩
/-- of a class: what isinstance says of its instances, by names; and nothing written is one of them -/
structure Kind (x : Str) (ys : List (Str × Bool)) (K : PySem.W.Frag) : Prop where
  exc : ExcC K (He.ga K x)
  is : ∀ y ∈ ys, PySem.W.kitOne K (.ref (He.ga K x)) (.ref (He.ga K y.1)) = some y.2
  ve : PySem.W.kitOne K (.ref (He.ga K x)) (.type "ValueError") = some true
  no : ∀ b o, K.lookup b = some o → o.cls ≠ .ref (He.ga K x)
theorem kindB_ok {x : Str} {ys : List (Str × Bool)} {K : PySem.W.Frag} (h : kindB x ys K = true) : Kind x ys K := by
  unfold kindB at h
  simp only [Bool.and_eq_true, decide_eq_true_eq, List.all_eq_true] at h
  obtain ⟨h1, h2, h3, h4⟩ := h
  exact ⟨excB_ok h1, h2, h3, fun b o e => h4 (b, o) (He.lookup_mem e)⟩
/-- the classes, and the law's words for them -/
theorem Kind.at {x y z : Str} {K : PySem.W.Frag} (k : Kind x (kinds7 x) K) (h : (y, z) ∈ classes7) : PySem.W.kitOne K (.ref (He.ga K x)) (.ref (He.ga K y)) = some (y == x) := k.is (y, y == x) (List.mem_map.mpr ⟨(y, z), h, rfl⟩)
/-! ### a def that raises -/
section
variable (K : PySem.W.Frag)
def spX (C : Addr) (Rel : List D → Prop) : Sp := fun vs H _ E => ∃ S ds, Ex S H ∧ RdL K S vs ds ∧ Rel ds ∧ ∀ S' H', Ext S H S' H' → E (.ref C) none H'
def Up (E : XK) (C : Addr) (t : TS) (ρ : Rho) : Prop := ∀ S0 H0 S H σ Dd, Stt K S0 H0 ρ S H σ → (∀ S' H', Ext S0 H0 S' H' → E (.ref C) none H') → t Dd σ H
end
section
variable {K : PySem.W.Frag} {E : XK} {C : Addr} {t u : TS} {ρ ρ1 : Rho} {c : TT}
theorem Up.raise : Up K E C (fun _ _ H => E (.ref C) none H) ρ := fun S0 H0 S H σ Dd s q => q S H s.ext
theorem Up.seq (h : T K t ρ { nx := fun r => r = ρ1 }) (k : Up K E C u ρ1) : Up K E C (tSeq t u) ρ := fun S0 H0 S H σ Dd s q =>
  h S0 H0 S H σ _ s ⟨fun r S' H' σ' e _ s' => by subst e; exact k S0 H0 S' H' σ' Dd s' q, fun _ _ _ _ z => z.elim, fun _ _ _ _ z => z.elim, fun _ _ _ _ z => z.elim, fun _ _ _ _ _ z => z.elim⟩
theorem Up.first (h : Up K E C t ρ) : Up K E C (tSeq t u) ρ := fun S0 H0 S H σ Dd s q => h S0 H0 S H σ _ s q
theorem Up.if (h : EvT K c ρ true) (k : Up K E C t ρ) : Up K E C (tIfS c t u) ρ := fun S0 H0 S H σ Dd s q => h S H σ s.ext.sub s.env _ fun S' H' x => by
  show t Dd σ H'
  exact k S0 H0 S' H' σ Dd (s.go x) q
theorem Up.fin {N : List Str} {Rel : List D → Prop} {vs : List V} {H : Hp} {Q : VK} (h : spX K C Rel vs H Q E) (k : ∀ ds, Rel ds → Up K E C t (startR N.length ds)) : t { nx := fun _ H' => Q .non H', rt := Q } (L2.start N vs) H := by
  obtain ⟨S, ds, e, r, rel, q⟩ := h
  exact k ds rel S H S H _ _ (stt_start e r) q
end
/-! ### the suite -/
theorem strs_of {K : PySem.W.Frag} {S : Hp} : ∀ {ws : List Str} {vs : List V}, RdL K S vs (ws.map D.str) → vs = ws.map V.str
  | [], _, .nil => rfl
  | _ :: _, _, .cons h r => by cases h; rw [strs_of r]; rfl
theorem rd_strs {K : PySem.W.Frag} {S : Hp} : ∀ (ws : List Str), RdL K S (ws.map V.str) (ws.map D.str)
  | [] => .nil
  | x :: ws => .cons (.str x) (rd_strs ws)
section
variable {K : PySem.W.Frag} {Rel : List D → List D → Prop} {a C : Addr} {cls : Value} {d : Option Addr} {i : Nat} {ws : List Str} {S H : Hp} {σ : L2.St} {Q : VK}
/-- the suite's question -/
theorem ask_of (hc : cls = .ref C) (hd : d = none) (rel : Rel [.er C] (ws.map D.str)) (e : Ex S H) (hs : σ[i]? = some (some (.ref a))) (na : H a = none)
    (q : ∀ p H', Ext S H S H' → H' p = some (.lst (ws.map V.str)) → Q (.ref p) H') : Ex0.tAsk (spF K Rel) a C cls d (tCons (tVar i) tNil) σ H Q := by
  refine ⟨.ref a, hs, fun _ => ⟨hc, hd, fun oe c1 c2 c3 => ?_⟩⟩
  have sa : S a = none := sub_none e na
  have e1 : Ex (upd S a (.frz oe Ex0.xt)) (upd H a (.frz oe Ex0.xt)) := fun b o z => by
    by_cases hb : b = a
    · subst hb
      rw [upd_same] at z ⊢
      exact z
    · rw [upd_ne hb] at z ⊢
      exact e b o z
  refine ⟨upd S a (.frz oe Ex0.xt), [.er C], ws.map D.str, e1, .cons (.er upd_same c1 c2 c3) .nil, rel, fun p vs S' H' x hp sp h' r fz => ?_⟩
  have np : p ≠ a := fun z => by
    subst z
    rw [upd_same] at hp
    cases hp
  have ne : ∀ {b o}, H b = some o → b ≠ a := fun {b o} z w => by rw [w, na] at z; cases z
  have hh : Ex H (Ex0.era a H') := fun b o z => by
    rw [Ex0.era_ne (ne z)]
    exact x.h b o (by rw [upd_ne (ne z)]; exact z)
  refine q p _ ⟨Ex.refl S, hh, e.trans hh, fun _ z _ => z⟩ ?_
  rw [Ex0.era_ne np, h', strs_of r]
end
end Pl
namespace Pl
open PySem PySem.Spec PyProof.Rows L2
open Evl (Ex)
theorem roomH_units {k : Nat} {A : Around} (r : L2H.RoomH k A) : A.units + 64 < cLine := by
  have := r.un
  omega
theorem takes0N {X : Cx} : L2N.Takes X (fun _ _ _ _ => False) := fun _ _ x => by
  obtain ⟨_, _, _, _, _, _, _, _, _, _, _, _, _, _, _, _, z⟩ := x
  exact z.elim
section
variable {K : PySem.W.Frag}
theorem spX_len {C : Addr} {Rel : List D → Prop} {n : Nat} (h : ∀ ds, Rel ds → ds.length = n) : ∀ vs H Q E, spX K C Rel vs H Q E → vs.length = n := fun vs H Q E z => by
  obtain ⟨S, ds, e, r, rel, _⟩ := z
  rw [r.length]
  exact h ds rel
theorem okd_strs {ws : List Str} (h : ∀ x ∈ ws, PyData.strOk x = true) : (D.lst (ws.map D.str)).okd 60 = true := List.all_eq_true.mpr fun d hd => by
  obtain ⟨x, hx, rfl⟩ := List.mem_map.mp hd
  exact h x hx
theorem sm_strs (ws : List Str) : (D.lst (ws.map D.str)).sm 60 = true := List.all_eq_true.mpr fun d hd => by
  obtain ⟨x, hx, rfl⟩ := List.mem_map.mp hd
  rfl
theorem eqv_strs (ws : List Str) : PyData.eqv (D.lst (ws.map D.str)).py (D.lst (ws.map D.str)).py = true := (eqv_iff 60 _ _ (sm_strs ws) (sm_strs ws)).mpr rfl
/-- the suite: return kind(error) == [the word] -/
theorem ask_one {Rel : List D → List D → Prop} {a C : Addr} {cls : Value} {d : Option Addr} {i : Nat} {x : Str} {S0 H0 S H : Hp} {σ : L2.St} {Q : VK} (hc : cls = .ref C) (hd : d = none) (rel : Rel [.er C] [.str x]) (hx : PyData.strOk x = true)
    (e : Ext S0 H0 S H) (hs : σ[i]? = some (some (.ref a))) (na : H a = none) (q : ∀ H', Ext S0 H0 S H' → Q (.bl true) H') :
    tOp (rEqD K) (Ex0.tAsk (spF K Rel) a C cls d (tCons (tVar i) tNil)) (tLst (tCons (tC (.str x)) tNil)) σ H Q := by
  refine ask_of (ws := [x]) hc hd rel e.sub hs na fun p H3 x3 h3 => ?_
  refine ⟨by show 1 ≤ sizeLine; rw [sizeLine_eq]; omega, fun p2 hp2 => ?_⟩
  have np : p ≠ p2 := fun z => by rw [z, hp2] at h3; cases h3
  have s1 : Ext S0 H0 S H3 := e.trans x3
  have s2 : Ext S0 H0 S (upd H3 p2 (.lst [.str x])) := s1.trans (Ext.hid s1.sub hp2)
  refine rv_eq (K := K) (x := .lst ([x].map D.str)) (y := .lst ([x].map D.str)) (okd_strs fun y hy => by rw [List.mem_singleton.mp hy]; exact hx) (okd_strs fun y hy => by rw [List.mem_singleton.mp hy]; exact hx) (upd H3 p2 (.lst [.str x])) (upd H3 p2 (.lst [.str x])) (.ref p) (.ref p2) (Ex.refl _)
    (.lst (by rw [upd_ne np]; exact h3) (rd_strs [x])) (.lst upd_same (rd_strs [x])) Q fun w S' H' x4 r4 => ?_
  rw [eqv_strs] at r4
  cases r4
  exact q H' (s2.trans ⟨Ex.refl S, x4.h, s2.sub.trans x4.h, fun _ z _ => z⟩)
end
end Pl
namespace Pl
open PySem PySem.Spec PyProof.Rows L2
/-- no whole number -/
def Dull (d : D) : Prop := d.kind = "NoneType" ∨ d.kind = "bool" ∨ d.kind = "str" ∨ d.kind = "list" ∨ d.kind = "tuple" ∨ d.kind = "dict"
theorem dull_isi {K : PySem.W.Frag} {d : D} (h : Dull d) : ∃ a b, RC K (rIsi K) [d, .ty "int"] (.bl a) ∧ RC K (rIsi K) [d, .ty "bool"] (.bl b) ∧ (a && !b) = false := by
  rcases h with h | h | h | h | h | h
  · exact ⟨false, false, rc_isi (by rw [h]; decide +kernel) (by rw [h]; decide), rc_isi (by rw [h]; decide +kernel) (by rw [h]; decide), rfl⟩
  · exact ⟨true, true, rc_isi (by rw [h]; decide +kernel) (by rw [h]; decide), rc_isi (by rw [h]; decide +kernel) (by rw [h]; decide), rfl⟩
  · exact ⟨false, false, rc_isi (by rw [h]; decide +kernel) (by rw [h]; decide), rc_isi (by rw [h]; decide +kernel) (by rw [h]; decide), rfl⟩
  · exact ⟨false, false, rc_isi (by rw [h]; decide +kernel) (by rw [h]; decide), rc_isi (by rw [h]; decide +kernel) (by rw [h]; decide), rfl⟩
  · exact ⟨false, false, rc_isi (by rw [h]; decide +kernel) (by rw [h]; decide), rc_isi (by rw [h]; decide +kernel) (by rw [h]; decide), rfl⟩
  · exact ⟨false, false, rc_isi (by rw [h]; decide +kernel) (by rw [h]; decide), rc_isi (by rw [h]; decide +kernel) (by rw [h]; decide), rfl⟩
/-- whether a datum is a joint of so many -/
inductive JD (c : Int) : D → Bool → Prop
  | int (j : Int) : JD c (.int j) (decide (0 ≤ j) && decide (j < c))
  | no {d : D} (h : Dull d) : JD c d false
end Pl

/-! Trees whose branches are roots of their own for a while: taken apart, put together; walked, looked up. -/
namespace Pl
open PySem PySem.Spec PyProof.Rows L2
open Evl (Ex)
section
variable {K : PySem.W.Frag} {S0 H0 S H S' H' : Hp} {σ : L2.St} {ρ ρ' ρ1 ρv : Rho} {g g' g1 g2 gl gr : Gs} {F G : FM} {t u : TS} {te ti td tx tk tv ty : TE} {tA : TA} {c : TT} {d : D} {es ds : List D} {ms : List M} {m m1 m2 mv : M} {a : Addr} {π : List Nat} {Dd : Ends} {i j : Nat} {b : Bool} {r : Rs} {E : XK} {s : Shp}
/-- branches that are told by their addresses -/
def adrM (as : List Addr) : List M := as.map fun a => M.d (.adr a)
def M.isN : M → Bool
  | .d _ => false
  | .n _ _ => true
  | .tb _ _ => false
theorem adrM_own : ∀ (as : List Addr), OwnL K S H (as.map V.ref) (adrM as) []
  | [] => .nil
  | a :: as => by
    have z := OwnL.cons (Own.d (K := K) (S := S) (H := H) (Rd.adr a)) (adrM_own as)
    exact z
theorem adrM_inv : ∀ {as : List Addr} {vs : List V} {f : List Addr}, OwnL K S H vs (adrM as) f → f = [] ∧ vs = as.map V.ref
  | [], _, _, .nil => ⟨rfl, rfl⟩
  | a :: as, _, _, .cons h r => by
    cases h with
    | d h =>
      cases h
      obtain ⟨e1, e2⟩ := adrM_inv (as := as) r
      subst e1
      subst e2
      exact ⟨rfl, rfl⟩
theorem own_refs : ∀ {ms : List M} {vs : List V} {f : List Addr}, (∀ m ∈ ms, m.isN = true) → OwnL K S H vs ms f → ∃ as : List Addr, vs = as.map V.ref ∧ as.length = ms.length
  | [], _, _, _, .nil => ⟨[], rfl, rfl⟩
  | m :: ms, _, _, hm, .cons h r => by
    obtain ⟨as, e1, e2⟩ := own_refs (ms := ms) (fun x hx => hm x (List.mem_cons_of_mem _ hx)) r
    have h0 := hm m List.mem_cons_self
    cases h with
    | d _ => cases h0
    | tb _ => cases h0
    | n h1 h2 h3 => exact ⟨_ :: as, by rw [e1]; rfl, by rw [List.length_cons, List.length_cons, e2]⟩
theorem gv_zip : ∀ {as : List Addr} {ms : List M}, as.length = ms.length → gv (as.zip ms) = as.map V.ref
  | [], [], _ => rfl
  | a :: as, m :: ms, h => by
    have z := gv_zip (as := as) (ms := ms) (Nat.succ.inj h)
    show V.ref a :: gv (as.zip ms) = V.ref a :: as.map V.ref
    rw [z]
theorem gm_zip : ∀ {as : List Addr} {ms : List M}, as.length = ms.length → gm (as.zip ms) = ms
  | [], [], _ => rfl
  | a :: as, m :: ms, h => by
    have z := gm_zip (as := as) (ms := ms) (Nat.succ.inj h)
    show m :: gm (as.zip ms) = m :: ms
    rw [z]
theorem SG.join {p : Addr} {as : List Addr} (hl : as.length = ms.length) (st : SG K S0 H0 ρ (g1 ++ (p, .n s (adrM as)) :: as.zip ms) S H σ) : SG K S0 H0 ρ (g1 ++ [(p, .n s ms)]) S H σ := by
  obtain ⟨fp, rg, s0⟩ := st
  have o := rg.own
  rw [gv_app, gm_app] at o
  obtain ⟨f1, f2, e, o1, o2⟩ := o.split gv_len
  have o2 : OwnL K S H (.ref p :: gv (as.zip ms)) (.n s (adrM as) :: gm (as.zip ms)) f2 := o2
  cases o2 with
  | cons h r =>
    rename_i fa fb
    rw [gv_zip hl, gm_zip hl] at r
    cases h with
    | n h1 h2 h3 =>
      obtain ⟨e1, e2⟩ := adrM_inv h3
      subst e1
      subst e2
      refine ⟨fp, ⟨?_, rg.nd, rg.no⟩, s0⟩
      rw [gv_app, gm_app, e]
      refine o1.append ?_
      have z : OwnL K S H [.ref p] [.n s ms] ((p :: fb) ++ []) := .cons (.n h1 h2 r) .nil
      rw [List.append_nil] at z
      exact z
theorem SG.split {p : Addr} (hm : ∀ m ∈ ms, m.isN = true) (st : SG K S0 H0 ρ (g1 ++ [(p, .n s ms)]) S H σ) : ∃ as : List Addr, as.length = ms.length ∧ SG K S0 H0 ρ (g1 ++ (p, .n s (adrM as)) :: as.zip ms) S H σ := by
  obtain ⟨fp, rg, s0⟩ := st
  have o := rg.own
  rw [gv_app, gm_app] at o
  obtain ⟨f1, f2, e, o1, o2⟩ := o.split gv_len
  have o2 : OwnL K S H [.ref p] [.n s ms] f2 := o2
  cases o2 with
  | cons h r =>
    cases r
    cases h with
    | n h1 h2 h3 =>
      rename_i ho vs fq
      obtain ⟨as, ev, hl⟩ := own_refs hm h3
      subst ev
      refine ⟨as, hl, fp, ⟨?_, rg.nd, rg.no⟩, s0⟩
      rw [gv_app, gm_app, e]
      refine o1.append ?_
      have z : OwnL K S H (.ref p :: gv (as.zip ms)) (.n s (adrM as) :: gm (as.zip ms)) ((p :: []) ++ fq) := .cons (.n h1 h2 (adrM_own as)) (by rw [gv_zip hl, gm_zip hl]; exact h3)
      rw [List.append_nil]
      exact z
theorem TM.join {p : Addr} {as : List Addr} (hp : List.Perm g (g1 ++ (p, .n s (adrM as)) :: as.zip ms)) (hl : as.length = ms.length) (k : TM K t ρ (g1 ++ [(p, .n s ms)]) F) : TM K t ρ g F := fun S0 H0 S H σ Dd st ac => k S0 H0 S H σ Dd (SG.join hl (st.perm hp)) ac
theorem TM.split {p : Addr} (hp : List.Perm g (g1 ++ [(p, .n s ms)])) (hm : ∀ m ∈ ms, m.isN = true) (k : ∀ as : List Addr, as.length = ms.length → TM K t ρ (g1 ++ (p, .n s (adrM as)) :: as.zip ms) F) : TM K t ρ g F := fun S0 H0 S H σ Dd st ac => by
  obtain ⟨as, hl, z⟩ := SG.split hm (st.perm hp)
  exact k as hl S0 H0 S H σ Dd z ac
/-- [] as a new tree -/
theorem em_lnew : EvM K (tLst tNil) ρ (.n .lst []) := fun S H σ e v Q q => ⟨Evl.sz_of (Nat.zero_le _), fun p hp =>
  q p [p] S _ (Ext.hid e hp) (.n (o := .lst []) (vs := []) (fp := []) upd_same rfl .nil) (by simp) fun a ha => by
    rw [List.mem_singleton.mp ha]
    exact ⟨hp, sub_none e hp⟩⟩
/-- d[k] = v of a new key, v a new tree -/
theorem TM.dputT {ns : List Int} {k : Int} (hv : EvX K tv ρ g (.t mv) g2) (hp : ∀ p0, EvP K td ρ (g2 ++ [(p0, mv)]) a m π) (hk : EvD K ty ρ (.int k)) (hg : g2 = gl ++ (a, m) :: gr) (hat : M.at π m = some (.n (.dic (ik ns)) ms)) (hn : k ∉ ns) (hl : ns.length < 100000)
    (kk : ∀ p0, F.nx ρ (gl ++ (a, M.put (.n (.dic (ik (ns ++ [k]))) (ms ++ [.d (.adr p0)])) π m) :: (gr ++ [(p0, mv)]))) : TM K (sDPut td ty tv) ρ g F := fun S0 H0 S H σ Dd st ac =>
  hv S0 H0 S H σ st _ fun v S1 H1 ex1 z => by
    obtain ⟨p0, ev, st1⟩ := z
    subst ev
    refine hp p0 S0 H0 S1 H1 σ st1 _ fun u S2 H2 x2 l => ?_
    have st2 := st1.go x2
    refine hk S2 H2 σ st2.sub st2.env _ fun w S3 H3 x3 r3 => ?_
    cases r3
    have st3 := st2.go x3
    have hg3 : g2 ++ [(p0, mv)] = gl ++ (a, m) :: (gr ++ [(p0, mv)]) := by rw [hg]; simp
    obtain ⟨p, o, vs, fq, e1, e2, _, e3, e4, e5, wr⟩ := st3.write hg3 (l.mono x3.h) hat
    obtain ⟨e8, e9⟩ := e3
    subst e1
    subst e9
    have hl2 : ns.length = vs.length := by rw [← e8]; exact (List.length_map _).symm
    refine ⟨p, _, rfl, .inl ⟨_, .inl k, e2, rfl, Evl.sz_lt (by rw [List.length_zip]; unfold ik; rw [List.length_map]; omega), rfl⟩, ?_⟩
    refine ac.nx _ _ S3 _ σ (kk p0) ((ex1.trans x2.s).trans x3.s) (wr _ (.dic (ik (ns ++ [k]))) (vs ++ [.ref p0]) _ (fq ++ ([] ++ [])) ⟨?_, ?_⟩ ((e4.mono (Ex.refl _) fun b hb => upd_ne fun e => e5 (by rw [← e]; exact hb)).append (.cons (.d (.adr p0)) .nil)) (by simp))
    · unfold ik
      rw [List.length_map, List.length_append, List.length_append, hl2]
      rfl
    · rw [putK_new (.ref p0) (valV_out hl2 hn)]
      unfold ik
      rw [List.map_append, List.zip_append (by rw [List.length_map]; exact hl2)]
      rfl
/-- a new list of data, as an own list -/
theorem SG.pull {p : Addr} (st : SG K S0 H0 ρ (g ++ [(p, .n .lst (ds.map M.d))]) S H σ) : SG K S0 H0 (ρ ++ [.o ds]) g S H (σ ++ [some (.ref p)]) := by
  obtain ⟨fp, rg, s0⟩ := st
  have o := rg.own
  rw [gv_app, gm_app] at o
  obtain ⟨f1, f2, e, o1, o2⟩ := o.split gv_len
  have o2 : OwnL K S H [.ref p] [.n .lst (ds.map M.d)] f2 := o2
  have n := SG.noS s0 rg
  have nd := rg.nd
  rw [e] at nd
  obtain ⟨nd1, nd2, nd3⟩ := List.nodup_append.mp nd
  have sub1 : ∀ a ∈ f1, a ∈ fp := fun a ha => e ▸ List.mem_append_left _ ha
  have sub2 : ∀ a ∈ f2, a ∈ fp := fun a ha => e ▸ List.mem_append_right _ ha
  cases o2 with
  | cons h r =>
    cases r
    cases h with
    | n h1 h2 h3 =>
      rename_i ho vs fq
      have h2 : ho = .lst vs := h2
      subst h2
      obtain ⟨e6, e7⟩ := h3.toD
      subst e6
      have pf : p ∈ fp := sub2 p (by simp)
      have np1 : p ∉ f1 := fun z => nd3 p z p (by simp) rfl
      refine ⟨f1, ⟨o1, nd1, fun a ha => rg.no a (sub1 a ha)⟩, (s0.mv (fp' := f1) rg.no rg.own.lays (Ex.refl S) s0.ext.sub (fun a _ _ => rfl) (fun a _ h _ => h) fun a ha => ⟨.inl (sub1 a ha), n a (sub1 a ha)⟩).beside ⟨p, vs, rfl, ?_, n p pf, h1, e7⟩ fun p' ep j es hj ej => ?_⟩
      · rw [cov_out np1]
        exact (rg.no p pf).1
      · cases ep
        obtain ⟨q', us, g1, g2', g3, g4, g5⟩ := s0.own j es hj
        rw [ej] at g1
        cases g1
        rw [cov_in pf, g4] at g2'
        cases g2'
theorem EvX.pull (h : EvX K te ρ g (.t (.n .lst (ds.map M.d))) g') : EvX K te ρ g (.o ds) g' := fun S0 H0 S H σ st Q q => h S0 H0 S H σ st Q fun v S' H' e z => by
  obtain ⟨p, ev, z⟩ := z
  subst ev
  exact q _ S' H' e z.pull
theorem Stt.base {B B' : Hp} {p : Addr} (s : Stt K S0 B ρ S H σ) (n : S p = none) (hno : ∀ (j : Nat) (ds : List D), ρ[j]? = some (.o ds) → σ[j]? ≠ some (some (.ref p))) (hB : ∀ a, a ≠ p → B' a = B a) (hp : B' p = H p) : Stt K S0 B' ρ S H σ := by
  refine ⟨⟨s.ext.s, fun a o e => ?_, s.ext.sub, fun a h1 h2 => ?_⟩, s.env, fun j es hj => ?_, s.apart⟩
  · by_cases ha : a = p
    · subst ha
      rw [hp] at e
      exact e
    · rw [hB a ha] at e
      exact s.ext.h a o e
  · by_cases ha : a = p
    · subst ha
      exact n
    · rw [hB a ha] at h2
      exact s.ext.dis a h1 h2
  · obtain ⟨q, us, g1, g2, g3, g4, g5⟩ := s.own j es hj
    refine ⟨q, us, g1, ?_, g3, g4, g5⟩
    rw [hB q fun z => hno j es hj (by rw [g1, z])]
    exact g2
/-- an own list as a tree -/
theorem SG.root {v : V} (st : SG K S0 H0 (ρ ++ [.o ds]) g S H (σ ++ [some v])) : ∃ p, v = .ref p ∧ SG K S0 H0 ρ (g ++ [(p, .n .lst (ds.map M.d))]) S H σ := by
  obtain ⟨fp, rg, s0⟩ := st
  have s1 := s0.pull (i := 0)
  have hl : σ.length = ρ.length := s1.2.env.len
  obtain ⟨p, vs, h1, h2, h3, h4, h5⟩ := s0.own ρ.length ds (by simp)
  rw [← hl] at h1
  have h1 : v = .ref p := by simpa using h1
  subst h1
  have npf : p ∉ fp := fun z => by
    rw [cov_in z, h4] at h2
    cases h2
  rw [cov_out npf] at h2
  have s0p : S0 p = Option.none := by
    cases z : S0 p with
    | none => rfl
    | some o =>
      have y := s0.ext.s p o z
      rw [h3] at y
      cases y
  refine ⟨p, rfl, fp ++ [p], ⟨?_, ?_, fun a ha => ?_⟩, s1.2.base (p := p) h3 (fun j es hj ej => ?_) (fun a ha => ?_) (cov_in (List.mem_append_right _ (List.mem_singleton.mpr rfl)))⟩
  · rw [gv_app, gm_app]
    refine rg.own.append ?_
    have z : OwnL K S H [.ref p] [.n .lst (ds.map M.d)] ((p :: []) ++ []) := .cons (.n h4 rfl (OwnL.ofD h5)) .nil
    exact z
  · refine List.nodup_append.mpr ⟨rg.nd, by simp, fun a ha b hb eq => ?_⟩
    rw [List.mem_singleton.mp hb] at eq
    subst eq
    exact npf ha
  · rcases List.mem_append.mp ha with ha | ha
    · exact rg.no a ha
    · rw [List.mem_singleton.mp ha]
      exact ⟨h2, s0p⟩
  · have hj2 : j < ρ.length := (List.getElem?_eq_some_iff.mp hj).1
    have z := s0.apart j ρ.length es ds p (by rw [List.getElem?_append_left hj2]; exact hj) (by simp) (by rw [List.getElem?_append_left (by omega)]; exact ej) (by rw [← hl]; simp)
    omega
  · by_cases hf : a ∈ fp
    · rw [cov_in hf, cov_in (List.mem_append_left _ hf)]
    · rw [cov_out hf, cov_out fun z => (List.mem_append.mp z).elim hf fun z => ha (List.mem_singleton.mp z)]
theorem EvX.root (h : EvX K te ρ g (.o ds) g') : EvX K te ρ g (.t (.n .lst (ds.map M.d))) g' := fun S0 H0 S H σ st Q q => h S0 H0 S H σ st Q fun v S' H' e z => by
  obtain ⟨p, ev, z2⟩ := SG.root z
  subst ev
  exact q _ S' H' e ⟨p, rfl, z2⟩
theorem perm_mid {α : Type} (l : List α) (a b : α) : List.Perm (l ++ [a] ++ [b]) (l ++ [b] ++ [a]) := by
  rw [List.append_assoc, List.append_assoc]
  exact List.Perm.append_left _ (List.Perm.swap _ _ _)
theorem adr_get {as : List Addr} (h : as.length = ms.length) (hm : ms[j]? = some m) : ∃ a, as[j]? = some a ∧ ∃ g1 g2, as.zip ms = g1 ++ (a, m) :: g2 := by
  have hj : j < ms.length := (List.getElem?_eq_some_iff.mp hm).1
  have em : ms[j] = m := (List.getElem?_eq_some_iff.mp hm).2
  refine ⟨as[j], List.getElem?_eq_getElem (by omega), (as.zip ms).take j, (as.zip ms).drop (j + 1), ?_⟩
  have hz : j < (as.zip ms).length := by rw [List.length_zip]; omega
  rw [← em, show (as[j], ms[j]) = (as.zip ms)[j] from (List.getElem_zip ..).symm, ← List.drop_eq_getElem_cons hz, List.take_append_drop]
/-- d.get(k) of a new dict of trees -/
theorem EvX.dgetT {ns : List Int} {k : Int} (h : EvX K td ρ g (.t (.n (.dic (ik ns)) ms)) g') (hk : EvD K ty ρ (.int k)) (hm : ∀ m ∈ ms, m.isN = true) (h1 : ns[j]? = some k) (h2 : ∀ q : Nat, q < j → ns[q]? ≠ some k) (h3 : ms[j]? = some m) : EvX K (tDGet1 td ty) ρ g (.t m) g' := fun S0 H0 S H σ st Q q =>
  h S0 H0 S H σ st _ fun v S1 H1 e z => by
    obtain ⟨p, ev, st1⟩ := z
    subst ev
    obtain ⟨as, hl, st1⟩ := SG.split hm st1
    obtain ⟨fp, rg, s1⟩ := id st1
    obtain ⟨f, hf, o⟩ := rg.own.mem (a := p) (m := .n (.dic (ik ns)) (adrM as)) (by simp)
    obtain ⟨a, ha, gA, gB, hz⟩ := adr_get hl h3
    cases o with
    | n k1 k2 k3 =>
      rename_i ho vs fq
      obtain ⟨hlen, eo⟩ := k2
      subst eo
      obtain ⟨_, ev⟩ := adrM_inv k3
      subst ev
      have hl2 : ns.length = (as.map V.ref).length := by rw [← hlen]; exact (List.length_map _).symm
      refine ⟨p, rfl, .inl ⟨_, .inl k1⟩, hk S1 H1 σ st1.sub st1.env _ fun w S2 H2 x2 r2 => ?_⟩
      cases r2
      have st2 := st1.go x2
      refine ⟨some (.ref a), .inl ⟨_, .inl k, .inl (x2.h _ _ k1), rfl, ?_⟩, q (.ref a) S2 H2 (e.trans x2.s) ⟨a, rfl, ?_⟩⟩
      · rw [valV_zip hl2 h1 h2, List.getElem?_map, ha]
        rfl
      · refine SG.forget (g' := (p, .n (.dic (ik ns)) (adrM as)) :: (gA ++ gB)) (st2.perm ?_)
        rw [hz, List.append_assoc]
        refine List.Perm.append_left _ ?_
        exact List.perm_middle (l₁ := (p, .n (.dic (ik ns)) (adrM as)) :: gA)
theorem EvX.dgetN {ns : List Int} {k : Int} (h : EvX K td ρ g (.t (.n (.dic (ik ns)) ms)) g') (hk : EvD K ty ρ (.int k)) (h1 : k ∉ ns) : EvX K (tDGet1 td ty) ρ g (.d .non) g' := fun S0 H0 S H σ st Q q =>
  h S0 H0 S H σ st _ fun v S1 H1 e z => by
    obtain ⟨p, ev, st1⟩ := z
    subst ev
    obtain ⟨fp, rg, s1⟩ := id st1
    obtain ⟨f, hf, o⟩ := rg.own.mem (a := p) (m := .n (.dic (ik ns)) ms) (by simp)
    cases o with
    | n k1 k2 k3 =>
      rename_i ho vs fq
      obtain ⟨hlen, eo⟩ := k2
      subst eo
      have hl2 : ns.length = vs.length := by rw [← hlen]; exact (List.length_map _).symm
      refine ⟨p, rfl, .inl ⟨_, .inl k1⟩, hk S1 H1 σ st1.sub st1.env _ fun w S2 H2 x2 r2 => ?_⟩
      cases r2
      have st2 := (SG.forget st1).go x2
      exact ⟨none, .inl ⟨_, .inl k, .inl (x2.h _ _ k1), rfl, (valV_out hl2 h1).symm⟩, q .non S2 H2 (e.trans x2.s) ⟨st2, .non⟩⟩
open Classical in
/-- branches become data -/
theorem SG.tellB {p : Addr} (st : SG K S0 H0 ρ (g ++ [(p, .n s ms)]) S H σ) : ∃ S2, Ex S S2 ∧ SG K S0 H0 ρ (g ++ [(p, .n s ((ms.map M.see).map M.d))]) S2 H σ := by
  obtain ⟨fp, rg, s0⟩ := st
  have o := rg.own
  rw [gv_app, gm_app] at o
  obtain ⟨f1, f2, e, o1, o2⟩ := o.split gv_len
  have o2 : OwnL K S H [.ref p] [.n s ms] f2 := o2
  have n := SG.noS s0 rg
  have nd := rg.nd
  rw [e] at nd
  obtain ⟨nd1, nd2, nd3⟩ := List.nodup_append.mp nd
  cases o2 with
  | cons h r =>
    cases r
    cases h with
    | n h1 h2 h3 =>
      rename_i ho vs fq
      have nd2 : ((p :: fq) ++ []).Nodup := nd2
      rw [List.append_nil] at nd2
      obtain ⟨np, ndq⟩ := List.nodup_cons.mp nd2
      have subq : ∀ a ∈ fq, a ∈ fp := fun a ha => e ▸ List.mem_append_right _ (List.mem_append_left _ (List.mem_cons_of_mem _ ha))
      have sub1 : ∀ a ∈ f1, a ∈ fp := fun a ha => e ▸ List.mem_append_left _ ha
      have pf : p ∈ fp := e ▸ List.mem_append_right _ (List.mem_append_left _ List.mem_cons_self)
      have e1 : Ex S (withP (fun a => a ∈ fq) S H) := fun a o h => by
        unfold withP
        rw [if_neg fun z => by rw [n a (subq a z)] at h; cases h]
        exact h
      have e2 : Ex (withP (fun a => a ∈ fq) S H) H := fun a o h => by
        unfold withP at h
        split at h
        · exact h
        · exact s0.ext.sub a o h
      have inq : ∀ a ∈ fq, withP (fun a => a ∈ fq) S H a = H a := fun a h => if_pos h
      have out : ∀ a, a ∉ fq → withP (fun a => a ∈ fq) S H a = S a := fun a h => if_neg h
      have n1q : ∀ a ∈ f1, a ∉ fq := fun a ha z => nd3 a ha a (List.mem_append_left _ (List.mem_cons_of_mem _ z)) rfl
      refine ⟨_, e1, f1 ++ [p], ⟨?_, ?_, fun a ha => ?_⟩, s0.mv rg.no rg.own.lays e1 e2 (fun a _ _ => rfl) (fun a hn hs _ => ?_) fun a ha => ?_⟩
      · rw [gv_app, gm_app]
        refine (o1.mono e1 fun a _ => rfl).append ?_
        have rl := h3.see e1 inq
        rw [seeL_map] at rl
        have z : OwnL K (withP (fun a => a ∈ fq) S H) H [.ref p] [.n s ((ms.map M.see).map M.d)] ((p :: []) ++ []) := .cons (.n h1 h2 (OwnL.ofD rl)) .nil
        exact z
      · refine List.nodup_append.mpr ⟨nd1, by simp, fun a ha b hb eq => ?_⟩
        rw [List.mem_singleton.mp hb] at eq
        subst eq
        exact nd3 a ha a (List.mem_append_left _ List.mem_cons_self) rfl
      · rcases List.mem_append.mp ha with ha | ha
        · exact rg.no a (sub1 a ha)
        · rw [List.mem_singleton.mp ha]
          exact rg.no p pf
      · rw [out a fun z => hn (subq a z)]
        exact hs
      · rcases List.mem_append.mp ha with ha | ha
        · exact ⟨.inl (sub1 a ha), by rw [out a (n1q a ha)]; exact n a (sub1 a ha)⟩
        · rw [List.mem_singleton.mp ha]
          exact ⟨.inl pf, by rw [out p np]; exact n p pf⟩
theorem TM.tellB {p : Addr} (hp : List.Perm g (g1 ++ [(p, .n s ms)])) (k : TM K t ρ (g1 ++ [(p, .n s ((ms.map M.see).map M.d))]) F) : TM K t ρ g F := fun S0 H0 S H σ Dd st ac => by
  obtain ⟨S2, e, z⟩ := SG.tellB (st.perm hp)
  exact k S0 H0 S2 H σ Dd z (ac.mono e)
/-- for x in xs, xs a list of the region that stays as it is -/
theorem TM.forR {tg : TG} (hi : ρ[i]? = some (.k (.adr a))) (Pv : Nat → Rho → Gs → Prop) (h0 : Pv 0 ρ g) (hg : (a, .n .lst (ds.map M.d)) ∈ g)
    (hr : ∀ (n : Nat) (ρ' : Rho) (g' : Gs), Pv n ρ' g' → (a, .n .lst (ds.map M.d)) ∈ g')
    (hs : ∀ (n : Nat) (d : D) (ρ' : Rho) (g' : Gs), ds[n]? = some d → Pv n ρ' g' → ∃ ps, EvG K tg d ps ∧ TM K t (setR ρ' ps) g' { F with nx := Pv (n + 1), ct := Pv (n + 1), bk := F.nx })
    (he : ∀ (ρ' : Rho) (g' : Gs), Pv ds.length ρ' g' → F.nx ρ' g') : TM K (tFor (iList K (tVar i)) tg t) ρ g F := fun S0 H0 S H σ Dd st ac => by
  have look : ∀ {ρ' : Rho} {g' : Gs} {S' H' : Hp} {σ' : L2.St}, (a, .n .lst (ds.map M.d)) ∈ g' → SG K S0 H0 ρ' g' S' H' σ' → ∃ vs, H' a = some (.lst vs) ∧ RdL K S' vs ds := fun {ρ' g' S' H' σ'} hm z => by
    obtain ⟨fp, rg, s0⟩ := z
    obtain ⟨f, hf, o⟩ := rg.own.mem hm
    cases o with
    | n k1 k2 k3 =>
      rename_i ho vs fq
      have k2 : ho = .lst vs := k2
      subst k2
      exact ⟨vs, k1, k3.toD.2⟩
  obtain ⟨v, hv1, hv2⟩ := st.env.val i _ hi
  cases hv2
  obtain ⟨vs0, hx0, _⟩ := look hg st
  refine ⟨_, hv1, a, rfl, ⟨_, Evl.sq_of hx0⟩, ?_⟩
  refine ⟨fun n m σ' H' => m = ds.length - n ∧ n ≤ ds.length ∧ ∃ ρ' g' S', Pv n ρ' g' ∧ Ex S S' ∧ SG K S0 H0 ρ' g' S' H' σ', ⟨ds.length, by simp, Nat.zero_le _, ρ, g, S, h0, Ex.refl S, st⟩, ?_⟩
  rintro n m σ' H' ⟨rfl, hn, ρ', g', S', p, e, s'⟩
  obtain ⟨vs, hx, rl⟩ := look (hr n ρ' g' p) s'
  by_cases hlt : n < ds.length
  · have hdd : ds[n]? = some ds[n] := List.getElem?_eq_getElem hlt
    obtain ⟨y, hy, ry⟩ := rl.get hdd
    obtain ⟨ps, hgg, ht⟩ := hs n ds[n] ρ' g' hdd p
    refine .inr ⟨⟨vs, y, Evl.sq_of hx, hy⟩, fun σ2 H2 => ∃ ρ2 g2 S2, Pv (n + 1) ρ2 g2 ∧ Ex S S2 ∧ SG K S0 H0 ρ2 g2 S2 H2 σ2, fun σ2 H2 z => ⟨ds.length - (n + 1), by omega, rfl, hlt, z⟩, fun xv H'' w => ?_⟩
    obtain ⟨rfl, w⟩ := w
    have w := w vs (Evl.sq_of hx)
    rw [hy] at w
    cases w
    refine hgg S' H'' σ' y s'.sub ry _ fun ws rw => ?_
    refine ht S0 H0 S' H'' _ _ (s'.setV rw) ⟨fun ρ3 g3 S3 H3 σ3 n e3 s3 => ⟨ρ3, g3, S3, n, e.trans e3, s3⟩, fun ρ3 g3 S3 H3 σ3 n e3 s3 => ac.nx ρ3 g3 S3 H3 σ3 n (e.trans e3) s3, fun ρ3 g3 S3 H3 σ3 n e3 s3 => ⟨ρ3, g3, S3, n, e.trans e3, s3⟩, ac.rt⟩
  · have e0 : n = ds.length := by omega
    subst e0
    exact .inl ⟨⟨vs, Evl.sq_of hx, by rw [rl.length]; exact Nat.le_refl _⟩, ac.nx ρ' g' S' H' σ' (he ρ' g' p) e s'⟩
end
end Pl

/-! Knots as they are told; one bar more than a stiff lean frame has. -/
namespace Fr
section
variable {n : Nat} {nb : List Bar} {i : Nat}
theorem tied_rise : ∀ (os laid : List Nat) (cs : Cs), ∀ p ∈ tiedL nb cs os laid, p.2.Pairwise (· < ·)
  | [], laid, cs, p, h => by rw [tiedL_nil] at h; cases h
  | j :: r, laid, cs, p, h => by
    cases hy : (lay cs (barAt nb j).1 (barAt nb j).2).2 with
    | none =>
      rw [tiedL_none hy] at h
      exact tied_rise r _ _ p h
    | some ks =>
      rw [tiedL_some hy] at h
      rcases List.mem_cons.mp h with e | h
      · rw [e]
        exact List.pairwise_lt_range.filter _
      · exact tied_rise r _ _ p h
theorem erase_idx (nb : List Bar) (i : Nat) : nb.eraseIdx i = ((List.range nb.length).eraseIdx i).map (barAt nb) := by
  rw [← Pl.erase_maps]
  congr 1
  exact (Pl.range_getD nb).symm
theorem mem_but {m a i : Nat} (h : a < m) (ne : a ≠ i) : a ∈ (List.range m).eraseIdx i :=
  List.mem_eraseIdx_iff_getElem.mpr ⟨a, by rw [List.length_range]; exact h, ne, List.getElem_range _⟩
theorem slim_idx {l : List Nat} (nd : l.Nodup) (h : ∀ a ∈ l, a < nb.length ∧ a ≠ i) (sl : Slim n (nb.eraseIdx i)) : Slim n (l.map (barAt nb)) := by
  have pm : l.Perm (((List.range nb.length).eraseIdx i).filter fun a => decide (a ∈ l)) := by
    refine (List.perm_ext_iff_of_nodup nd ((List.nodup_range.sublist (List.eraseIdx_sublist _ _)).filter _)).mpr fun a => ?_
    rw [List.mem_filter, decide_eq_true_eq]
    exact ⟨fun q => ⟨mem_but (h a q).1 (h a q).2, q⟩, fun q => q.2⟩
  rw [erase_idx] at sl
  exact (sl.sub ((List.filter_sublist).map _)).perm (pm.map _)
/-- others lean: the bar's knot has all that are too many -/
theorem one_more (ok : Ok n nb) (hi : i < nb.length) (sl : Slim n (nb.eraseIdx i)) {p : Nat × List Nat} (hp : Pl.knotOf n nb i = some p) : p.2 = Pl.manyL n nb := by
  have pm := Pl.orderBut_perm hi
  unfold Pl.knotOf at hp
  have hpm := List.mem_of_find?_eq_some hp
  have hpi : p.1 = i := by
    have z := List.find?_some hp
    simpa using z
  refine Pl.rise_eq (tied_rise _ _ _ p hpm) (Pl.manyL_rise n nb) fun x => ?_
  constructor
  · intro hx
    obtain ⟨_, _, _, lj, _, _, _, _, ⟨T, _, _, _, _, t5⟩, _⟩ := (tied_iff ok pm hi).2 p hpm
    have hx2 := ((t5 x).mp hx).1
    exact Pl.manyL_mem.mpr ⟨hx2, (tied_iff ok pm hx2).1.mp ⟨p, hpm, hx⟩⟩
  · intro hx
    obtain ⟨h1, h2⟩ := Pl.manyL_mem.mp hx
    obtain ⟨q, hq, hxq⟩ := (tied_iff ok pm h1).1.mpr h2
    obtain ⟨q1, _, _, lj, hj, ndj, slj, nq, ⟨T, tT, t2, t3, _, _⟩, pre, post, eo, hpre⟩ := (tied_iff ok pm hi).2 q hq
    have ndo : (Pl.orderBut nb.length i).Nodup := pm.nodup_iff.mpr List.nodup_range
    have eq : q.1 = i := by
      by_cases e : q.1 = i
      · exact e
      · exfalso
        have hne : ∀ a ∈ pre, a ≠ i := fun a ha z => by
          subst z
          have e2 := eo
          unfold Pl.orderBut at e2
          rcases List.eq_nil_or_concat post with rfl | ⟨post', y, rfl⟩
          · have z := (List.append_inj' e2 rfl).2
            exact e (by simpa using z.symm)
          · have e3 : (List.range nb.length).filter (fun b => !decide (b = a)) ++ [a] = (pre ++ q.1 :: post') ++ [y] := by rw [e2]; simp
            have z := (List.append_inj' e3 rfl).1
            have w : a ∈ (List.range nb.length).filter fun b => !decide (b = a) := by rw [z]; exact List.mem_append_left _ ha
            simpa using (List.mem_filter.mp w).2
        have s := slim_idx (l := lj ++ [q.1]) (List.nodup_append.mpr ⟨ndj, by simp, fun a ha b hb z => nq (by rw [List.mem_singleton.mp hb] at z; exact z ▸ ha)⟩) (fun a ha => by
          rcases List.mem_append.mp ha with ha | ha
          · exact ⟨hj a ha, hne a (hpre a ha)⟩
          · rw [List.mem_singleton.mp ha]
            exact ⟨q1, e⟩) sl
        rw [List.map_append] at s
        have o := ok _ (barAt_mem q1)
        exact (slim_snoc slj o.1 o.2.1 o.2.2).mp s ⟨T, tT, t2, t3⟩
    -- the dict has one entry for each number
    obtain ⟨F, f1, f2, f3, f4, f5⟩ := tied_all ok (Pl.orderBut nb.length i) [] (List.replicate n []) (fun j hj => List.mem_range.mp (pm.mem_iff.mp hj)) (fun _ h => nomatch h) (by simpa using ndo) (Pl.fits_bare n) (Pl.slim_nil n)
    have one : ∀ (os laid : List Nat) (cs : Cs), os.Nodup → ∀ p ∈ tiedL nb cs os laid, ∀ q ∈ tiedL nb cs os laid, p.1 = q.1 → p = q := by
      intro os
      induction os with
      | nil => intro laid cs _ p hp; rw [tiedL_nil] at hp; cases hp
      | cons j r ih =>
        intro laid cs nd p hp q hq e
        obtain ⟨n1, n2⟩ := List.nodup_cons.mp nd
        have low : ∀ (os laid : List Nat) (cs : Cs), ∀ p ∈ tiedL nb cs os laid, p.1 ∈ os := by
          intro os
          induction os with
          | nil => intro laid cs p hp; rw [tiedL_nil] at hp; cases hp
          | cons j r ih =>
            intro laid cs p hp
            cases hy : (lay cs (barAt nb j).1 (barAt nb j).2).2 with
            | none =>
              rw [tiedL_none hy] at hp
              exact List.mem_cons_of_mem _ (ih _ _ p hp)
            | some ks =>
              rw [tiedL_some hy] at hp
              rcases List.mem_cons.mp hp with e | hp
              · rw [e]; exact List.mem_cons_self
              · exact List.mem_cons_of_mem _ (ih _ _ p hp)
        cases hy : (lay cs (barAt nb j).1 (barAt nb j).2).2 with
        | none =>
          rw [tiedL_none hy] at hp hq
          exact ih _ _ n2 p hp q hq e
        | some ks =>
          rw [tiedL_some hy] at hp hq
          rcases List.mem_cons.mp hp with e1 | hp
          · rcases List.mem_cons.mp hq with e2 | hq
            · rw [e1, e2]
            · exact (n1 (by have := low _ _ _ q hq; rw [← e, e1] at this; exact this)).elim
          · rcases List.mem_cons.mp hq with e2 | hq
            · exact (n1 (by have := low _ _ _ p hp; rw [e, e2] at this; exact this)).elim
            · exact ih _ _ n2 p hp q hq e
    rw [one _ _ _ ndo p hpm q hq (by rw [hpi, eq])]
    exact hxq
end
end Fr
namespace Pl
/-- what makes numbers of bars a knot -/
structure Knot (nb : List Fr.Bar) (l : List Nat) (i : Nat) (js : List Nat) : Prop where
  h1 : l.Pairwise (· < ·)
  h2 : ∀ a ∈ l, a < nb.length
  h4 : i ∈ l
  j1 : js.Pairwise (· < ·)
  j2 : ∀ x, x ∈ js ↔ ∃ a ∈ l, (Fr.barAt nb a).1 = x ∨ (Fr.barAt nb a).2 = x
  hc : l.length + 2 = 2 * js.length
  hs : ∀ m : List Int, m.Sublist (kI js) → 2 ≤ m.length → m.length < js.length → insideL ((l.map (Fr.barAt nb)).map bI) m + 3 ≤ 2 * m.length
theorem kI_sub {l m : List Nat} (h : l.Sublist m) : (kI l).Sublist (kI m) := h.map _
theorem knot_fit {n : Nat} {nb : List Fr.Bar} {i : Nat} (ok : Fr.Ok n nb) (hi : i < nb.length) {p : Nat × List Nat} (hp : knotOf n nb i = some p) : ∃ js : List Nat, js.length ≤ n ∧ Knot nb p.2 i js := by
  have pm := orderBut_perm hi
  unfold knotOf at hp
  have hpm := List.mem_of_find?_eq_some hp
  have hpi : p.1 = i := by
    have z := List.find?_some hp
    simpa using z
  have ri := Fr.tied_rise _ _ _ p hpm
  obtain ⟨q1, _, q3, lj, hj, ndj, slj, nq, tl, _⟩ := (Fr.tied_iff ok pm hi).2 p hpm
  obtain ⟨T, s1, s2, s3, s4⟩ := Fr.knot_shape ok hj ndj slj nq q1 (ri.imp fun h => Nat.ne_of_lt h) tl
  have hlow : ∀ a ∈ p.2, a < nb.length := by
    obtain ⟨_, _, _, _, _, t5⟩ := tl
    exact fun a ha => ((t5 a).mp ha).1
  have cT : ((List.range n).filter T).length = Fr.card n T := List.countP_eq_length_filter.symm
  refine ⟨(List.range n).filter T, by rw [cT]; exact Fr.card_le n T, ri, hlow, by rw [← hpi]; exact q3, List.pairwise_lt_range.filter _, fun x => ?_, by rw [cT]; exact s1, fun m hm h2 h3 => ?_⟩
  · rw [List.mem_filter, List.mem_range]
    constructor
    · rintro ⟨h1, h2⟩
      exact (s3 x h1).mp h2
    · rintro ⟨a, ha, q⟩
      have o := ok _ (Fr.barAt_mem (hlow a ha))
      have hx : x < n := by rcases q with q | q <;> omega
      exact ⟨hx, (s3 x hx).mpr ⟨a, ha, q⟩⟩
  · have hm2 : m.Sublist (kI (List.range n)) := hm.trans (kI_sub List.filter_sublist)
    have c := card_isI hm2
    rw [inside_ins]
    have sub : ∀ x, x < n → isI m x = true → T x = true := fun x hx h => by
      have z : (x : Int) ∈ m := of_decide_eq_true h
      exact (List.mem_filter.mp (kI_mem.mp (hm.subset z))).2
    rw [← c]
    refine s4 (isI m) (by rw [c]; exact h2) sub ?_
    by_cases q : ∃ x, x < n ∧ T x = true ∧ isI m x = false
    · exact q
    · exfalso
      have : Fr.card n T ≤ Fr.card n (isI m) := Fr.card_mono fun x hx tx => by
        cases z : isI m x with
        | true => rfl
        | false => exact (q ⟨x, hx, tx, z⟩).elim
      omega
theorem knot_some {n : Nat} {nb : List Fr.Bar} {i : Nat} (ok : Fr.Ok n nb) (hi : i < nb.length) : (∃ p, knotOf n nb i = some p) ↔ i ∈ manyL n nb := by
  have h := knot_none ok hi
  rw [manyL_mem]
  unfold knotD at h
  cases q : knotOf n nb i with
  | none =>
    rw [q] at h
    exact ⟨fun ⟨p, e⟩ => (by cases e), fun z => (h.mp rfl z.2).elim⟩
  | some p =>
    rw [q] at h
    refine ⟨fun _ => ⟨hi, ?_⟩, fun _ => ⟨p, rfl⟩⟩
    by_cases z : Fr.Hld n (nb.eraseIdx i) (Fr.barAt nb i).1 (Fr.barAt nb i).2
    · exact z
    · cases h.mpr z
/-- one bar more, at i, than a stiff lean frame has -/
theorem great_knot {n : Nat} {nb : List Fr.Bar} {i : Nat} (ok : Fr.Ok n nb) (h2 : 2 ≤ n) (hi : i < nb.length) (sl : Fr.Slim n (nb.eraseIdx i)) (hl : (nb.eraseIdx i).length + 3 = 2 * n) : ∃ js : List Nat, js.length ≤ n ∧ Knot nb (manyL n nb) i js := by
  have okl : Fr.Ok n (nb.eraseIdx i) := ok.sub (List.eraseIdx_sublist _ _)
  have o := ok _ (Fr.barAt_mem hi)
  have call : Fr.card n (fun _ => true) = n := by
    unfold Fr.card
    exact (congrFun List.countP_true _).trans List.length_range
  have iall : Fr.ins (nb.eraseIdx i) (fun _ => true) = (nb.eraseIdx i).length := congrFun List.countP_true _
  have hh : Fr.Hld n (nb.eraseIdx i) (Fr.barAt nb i).1 (Fr.barAt nb i).2 := by
    unfold Fr.Hld
    rw [Fr.basis_all sl]
    exact ⟨fun _ => true, ⟨by rw [call]; exact h2, by rw [call, iall]; exact hl⟩, rfl, rfl⟩
  obtain ⟨p, hp⟩ := (knot_some ok hi).mpr (manyL_mem.mpr ⟨hi, hh⟩)
  rw [← Fr.one_more ok hi sl hp]
  exact knot_fit ok hi hp
end Pl

/-! Drawn numbers, drawn things of a list, what is no joint. -/
namespace Pl
open PySem PySem.Spec PyProof.Rows L2
def md (c : Int) (m : Nat) : Nat := (c % (m : Int)).toNat
theorem md_eq (c : Int) {m : Nat} (h : 0 < m) : ((md c m : Nat) : Int) = c % (m : Int) ∧ md c m < m := by
  unfold md
  have := Int.emod_nonneg c (show (m : Int) ≠ 0 by omega)
  have := Int.emod_lt_of_pos c (show (0 : Int) < (m : Int) by omega)
  omega
theorem JD.out {c j : Int} (h : ¬ (0 ≤ j ∧ j < c)) : JD c (.int j) false := by
  have z : (decide (0 ≤ j) && decide (j < c)) = false := by
    rw [← Bool.decide_and]
    exact decide_eq_false h
  rw [← z]
  exact .int j
theorem JD.in {c j : Int} (h1 : 0 ≤ j) (h2 : j < c) : JD c (.int j) true := by
  have z : (decide (0 ≤ j) && decide (j < c)) = true := by rw [decide_eq_true h1, decide_eq_true h2]; rfl
  rw [← z]
  exact .int j
theorem dull_non : Dull .non := .inl rfl
theorem dull_bl {b : Bool} : Dull (.bl b) := .inr (.inl rfl)
theorem dull_str {s : Str} : Dull (.str s) := .inr (.inr (.inl rfl))
theorem dull_lst {ds : List D} : Dull (.lst ds) := .inr (.inr (.inr (.inl rfl)))
theorem dull_tup {ds : List D} : Dull (.tup ds) := .inr (.inr (.inr (.inr (.inl rfl))))
theorem dull_dc {ks : List L2.Key} {ds : List D} : Dull (.dc ks ds) := .inr (.inr (.inr (.inr (.inr rfl))))
section
variable {K : PySem.W.Frag}
theorem rv_pow {i j : Int} (h : CPow i j) : RV K (rI CPow fun i j => .int (i ^ j.toNat)) (.int i) (.int j) (.int (i ^ j.toNat)) := rv_I h fun _ => .int _
theorem rv_pickL {ds : List D} {c m : Int} (hm : (ds.length : Int) = m) (h : 0 < m) : ∃ d ∈ ds, RV K (rIx K) (.lst ds) (.int (c % m)) d := by
  have a1 := Int.emod_nonneg c (show m ≠ 0 by omega)
  have a2 := Int.emod_lt_of_pos c h
  have hl : (c % m).toNat < ds.length := by omega
  exact ⟨ds[(c % m).toNat], List.getElem_mem hl, rv_ixL (atI_int a1 (List.getElem?_eq_getElem hl))⟩
theorem erase_ins {α : Type} (l : List α) (x : α) {k : Nat} (h : k ≤ l.length) : (l.take k ++ [x] ++ l.drop k).eraseIdx k = l ∧ (l.take k ++ [x] ++ l.drop k)[k]? = some x ∧ (l.take k ++ [x] ++ l.drop k).length = l.length + 1 := by
  have hk : (l.take k).length = k := by rw [List.length_take]; omega
  refine ⟨?_, ?_, ?_⟩
  · rw [List.append_assoc, List.eraseIdx_append_of_length_le (by omega), hk, Nat.sub_self]
    exact List.take_append_drop k l
  · rw [List.append_assoc, List.getElem?_append_right (by omega), hk, Nat.sub_self]
    rfl
  · simp only [List.length_append, List.length_drop, hk, List.length_singleton]
    omega
end
end Pl

/-! Walks over lists that are told by a function; x in a list of data. -/
namespace Pl
open PySem PySem.Spec PyProof.Rows L2
open Evl (Ex)
section
variable {K : PySem.W.Frag} {ρ : Rho}
theorem evF_lcM {α : Type} {wi : TI} {g : TG} {tt : TT} {te : TE} {vs : List Nat} {xs : List α} {gd : α → D} (hi : EvI K wi ρ (xs.map gd)) (ps : α → List (Nat × D)) (f : α → Bool) (e : α → D) (hg : ∀ d ∈ xs, EvG K g (gd d) (ps d)) (hs : ∀ d ∈ xs, ∀ p ∈ ps d, p.1 ∈ vs)
    (ht : ∀ d ∈ xs, EvT K tt (setR (wipeR ρ vs) (ps d)) (f d)) (he : ∀ d ∈ xs, f d = true → EvD K te (setR (wipeR ρ vs) (ps d)) (e d)) (hl : xs.length ≤ 50000) : EvF K (tLc wi g tt te vs) ρ ((xs.filter f).map e) := fun S H σ ee v Q q =>
  hi S H σ ee v _ fun J S1 H1 x1 wk => fun Dl hD => by
    refine ⟨fun i m H' => m = xs.length - i ∧ i ≤ xs.length ∧ ∃ S' us, Ext S1 H1 S' H' ∧ S' Dl = none ∧ H' Dl = some (.lst us) ∧ RdL K S' us (((xs.take i).filter f).map e),
      ⟨xs.length, by simp, Nat.zero_le _, S1, [], Ext.hid x1.sub hD, sub_none x1.sub hD, upd_same, .nil⟩, ?_⟩
    rintro i m H' ⟨rfl, hi, S', us, x, nS, hus, rl⟩
    by_cases hlt : i < xs.length
    · refine .inr ⟨wk.go S' H' i x.s x.sub (by rw [List.length_map]; exact hlt), fun H2 => ∃ S2 us2, Ext S1 H1 S2 H2 ∧ S2 Dl = none ∧ H2 Dl = some (.lst us2) ∧ RdL K S2 us2 (((xs.take (i + 1)).filter f).map e), fun H2 z => ⟨xs.length - (i + 1), by omega, rfl, hlt, z⟩, fun xv H'' y => ?_⟩
      have hd : (xs.map gd)[i]? = some (gd xs[i]) := by rw [List.getElem?_map, List.getElem?_eq_getElem hlt]; rfl
      have hlm : i < (xs.map gd).length := by rw [List.length_map]; exact hlt
      have hm : xs[i] ∈ xs := List.getElem_mem hlt
      obtain ⟨S2, x2, r2⟩ := wk.yld S' H' i xv H'' (gd xs[i]) x.s x.sub hd y
      have tk : xs.take (i + 1) = xs.take i ++ [xs[i]] := (List.take_append_getElem hlt).symm
      refine hg _ hm S2 H'' _ xv x2.sub r2 _ fun ws rws => ⟨?_, ?_⟩
      · rw [wipe_setV fun j hj => by
          obtain ⟨p, hp, rfl⟩ := List.mem_map.mp hj
          exact hs _ hm p hp, wipe_wipe]
      · have ev : Env K S2 (setV (L2.wipe σ vs) ((ps xs[i]).map (·.1)) ws) (setR (wipeR ρ vs) (ps xs[i])) := (((v.mono ((x1.s.trans x.s).trans x2.s)).wipe vs)).setV rws
        have nl : ∀ {S3 H3 : Hp}, Ext S2 H'' S3 H3 → S3 Dl = none := fun x3 => x3.dis Dl (x2.dis Dl nS (by rw [hus]; exact fun z => nomatch z)) (by rw [x2.h Dl _ hus]; exact fun z => nomatch z)
        refine ht _ hm S2 H'' _ x2.sub ev _ fun S3 H3 x3 => ?_
        cases hf : f xs[i] with
        | false =>
          refine ⟨S3, us, (x.trans x2).trans x3, nl x3, (x2.trans x3).h _ _ hus, ?_⟩
          rw [tk, List.filter_append, List.filter_cons, hf]
          simp only [Bool.false_eq_true, if_false, List.filter_nil, List.append_nil]
          exact rl.mono (x2.trans x3).s
        | true =>
          refine he _ hm hf S3 H3 _ x3.sub (ev.mono x3.s) _ fun yv S4 H4 x4 r4 => ?_
          have hu4 := (x2.trans (x3.trans x4)).h _ _ hus
          have n4 := nl (x3.trans x4)
          have ul : us.length ≤ xs.length := by
            rw [rl.length, List.length_map]
            exact Nat.le_trans (List.length_filter_le _ _) (by rw [List.length_take]; omega)
          refine ⟨us, hu4, Evl.sz_lt (by omega), S4, us ++ [yv], ?_, n4, upd_same, ?_⟩
          · have xx := (x.trans x2).trans (x3.trans x4)
            refine ⟨xx.s, fun a o ha => ?_, fun a o ha => ?_, xx.dis⟩
            · rw [upd_ne (ne_of_none ha hD)]
              exact xx.h a o ha
            · rw [upd_ne (fun z => by rw [z, n4] at ha; cases ha)]
              exact xx.sub a o ha
          · rw [tk, List.filter_append, List.filter_cons, hf]
            simp only [if_true, List.filter_nil]
            rw [List.map_append]
            exact (rl.mono (x2.trans (x3.trans x4)).s).append (.cons r4 .nil)
    · have e0 : i = xs.length := by omega
      subst e0
      rw [List.take_length] at rl
      exact .inl ⟨by have z := wk.stop S' H' x.s x.sub; rwa [List.length_map] at z, q Dl us S' H' (x1.trans x) (Evl.fresh_back x1.h hD) nS hus rl⟩

theorem rngD_eq (n : Nat) : rngD 0 n 1 = (List.range n).map fun i : Nat => D.int (i : Int) := by
  unfold rngD
  refine List.map_congr_left fun i _ => ?_
  rw [Int.mul_one, Int.zero_add]
/-- [.. for k in range(n) if ..] -/
theorem evF_lcN {wi : TI} {tt : TT} {te : TE} {vs : List Nat} {n j : Nat} (hi : EvI K wi ρ (rngD 0 n 1)) (hj : j ∈ vs) (hn : n ≤ 1000) (f : Nat → Bool) (e : Nat → D)
    (ht : ∀ i : Nat, i < n → EvT K tt (setR (wipeR ρ vs) [(j, .int (i : Int))]) (f i)) (he : ∀ i : Nat, i < n → f i = true → EvD K te (setR (wipeR ρ vs) [(j, .int (i : Int))]) (e i)) :
    EvF K (tLc wi (gName j) tt te vs) ρ (((List.range n).filter f).map e) := by
  rw [rngD_eq] at hi
  exact evF_lcM hi (fun k => [(j, .int (k : Int))]) f e (fun _ _ => eg_name) (fun _ _ p hp => by rw [List.mem_singleton.mp hp]; exact hj) (fun i hi => ht i (List.mem_range.mp hi)) (fun i hi => he i (List.mem_range.mp hi)) (by rw [List.length_range]; omega)
variable {F : FE} {t : TS} {FF : FM} {g : Gs}
theorem T.forM {α : Type} {xs : List α} {gd : α → D} {wi : TI} {tg : TG} (hi : EvI K wi ρ (xs.map gd)) (Pv : Nat → Rho → Prop) (h0 : Pv 0 ρ) (hs : ∀ (i : Nat) (x : α) (ρ' : Rho), xs[i]? = some x → Pv i ρ' → ∃ ps, EvG K tg (gd x) ps ∧ T K t (setR ρ' ps) { F with nx := Pv (i + 1), ct := Pv (i + 1), bk := F.nx })
    (hd : ∀ ρ', Pv xs.length ρ' → F.nx ρ') : T K (tFor wi tg t) ρ F := T.for hi Pv h0 (fun i d ρ' he p => by
  rw [List.getElem?_map] at he
  cases q : xs[i]? with
  | none => rw [q] at he; cases he
  | some x =>
    rw [q] at he
    cases he
    exact hs i x ρ' q p) (by rw [List.length_map]; exact hd)
theorem TM.forM {α : Type} {xs : List α} {gd : α → D} {wi : TI} {tg : TG} (hi : EvI K wi ρ (xs.map gd)) (Pv : Nat → Rho → Gs → Prop) (h0 : Pv 0 ρ g) (hs : ∀ (i : Nat) (x : α) (ρ' : Rho) (g' : Gs), xs[i]? = some x → Pv i ρ' g' → ∃ ps, EvG K tg (gd x) ps ∧ TM K t (setR ρ' ps) g' { FF with nx := Pv (i + 1), ct := Pv (i + 1), bk := FF.nx })
    (hd : ∀ ρ' g', Pv xs.length ρ' g' → FF.nx ρ' g') : TM K (tFor wi tg t) ρ g FF := TM.for hi Pv h0 (fun i d ρ' g' he p => by
  rw [List.getElem?_map] at he
  cases q : xs[i]? with
  | none => rw [q] at he; cases he
  | some x =>
    rw [q] at he
    cases he
    exact hs i x ρ' g' q p) (by rw [List.length_map]; exact hd)
theorem T.forN {n : Nat} {wi : TI} {tg : TG} (hi : EvI K wi ρ (rngD 0 n 1)) (Pv : Nat → Rho → Prop) (h0 : Pv 0 ρ) (hs : ∀ (i : Nat) (ρ' : Rho), i < n → Pv i ρ' → ∃ ps, EvG K tg (.int (i : Int)) ps ∧ T K t (setR ρ' ps) { F with nx := Pv (i + 1), ct := Pv (i + 1), bk := F.nx })
    (hd : ∀ ρ', Pv n ρ' → F.nx ρ') : T K (tFor wi tg t) ρ F := T.for hi Pv h0 (fun i d ρ' he p => by
  obtain ⟨h1, rfl⟩ := rngD_get0 he
  exact hs i ρ' h1 p) (by rw [rngD_len]; exact hd)
theorem TM.forN {n : Nat} {wi : TI} {tg : TG} (hi : EvI K wi ρ (rngD 0 n 1)) (Pv : Nat → Rho → Gs → Prop) (h0 : Pv 0 ρ g) (hs : ∀ (i : Nat) (ρ' : Rho) (g' : Gs), i < n → Pv i ρ' g' → ∃ ps, EvG K tg (.int (i : Int)) ps ∧ TM K t (setR ρ' ps) g' { FF with nx := Pv (i + 1), ct := Pv (i + 1), bk := FF.nx })
    (hd : ∀ ρ' g', Pv n ρ' g' → FF.nx ρ' g') : TM K (tFor wi tg t) ρ g FF := TM.for hi Pv h0 (fun i d ρ' g' he p => by
  obtain ⟨h1, rfl⟩ := rngD_get0 he
  exact hs i ρ' g' h1 p) (by rw [rngD_len]; exact hd)
/-- enumerate(xs) -/
theorem T.forE {α : Type} {xs : List α} {gd : α → D} {wi : TI} {tg : TG} (hi : EvI K wi ρ (enumD (xs.map gd))) (Pv : Nat → Rho → Prop) (h0 : Pv 0 ρ) (hs : ∀ (i : Nat) (x : α) (ρ' : Rho), xs[i]? = some x → Pv i ρ' → ∃ ps, EvG K tg (.tup [.int (i : Int), gd x]) ps ∧ T K t (setR ρ' ps) { F with nx := Pv (i + 1), ct := Pv (i + 1), bk := F.nx })
    (hd : ∀ ρ', Pv xs.length ρ' → F.nx ρ') : T K (tFor wi tg t) ρ F := T.for hi Pv h0 (fun i d ρ' he p => by
  obtain ⟨y, hy, rfl⟩ := enumD_get he
  rw [List.getElem?_map] at hy
  cases q : xs[i]? with
  | none => rw [q] at hy; cases hy
  | some x =>
    rw [q] at hy
    cases hy
    exact hs i x ρ' q p) (by rw [enumD_len, List.length_map]; exact hd)
/-! ### x in xs, of data -/
theorem units65 {k : Nat} {A : Around} (r : Room k A) : A.units + 65 < cLine := by
  have := r.un
  omega
theorem okd_mono : ∀ (n m : Nat) (d : D), n ≤ m → d.okd n = true → d.okd m = true
  | _, m, .non, _, _ => by cases m <;> rfl
  | _, m, .bl _, _, _ => by cases m <;> rfl
  | _, m, .int _, _, _ => by cases m <;> rfl
  | n, m, .str s, _, h => by cases n <;> cases m <;> exact h
  | n, _, .adr _, _, h => by cases n <;> cases h
  | n, _, .ty _, _, h => by cases n <;> cases h
  | n, _, .dc _ _, _, h => by cases n <;> cases h
  | n, _, .ob _ _ _, _, h => by cases n <;> cases h
  | n, _, .fz _, _, h => by cases n <;> cases h
  | n, _, .fv _ _, _, h => by cases n <;> cases h
  | n, _, .er _, _, h => by cases n <;> cases h
  | 0, _, .ro _, _, h => by cases h
  | 0, _, .lst _, _, h => by cases h
  | 0, _, .tup _, _, h => by cases h
  | _ + 1, 0, .ro _, l, _ => absurd l (by omega)
  | _ + 1, 0, .lst _, l, _ => absurd l (by omega)
  | _ + 1, 0, .tup _, l, _ => absurd l (by omega)
  | n + 1, m + 1, .ro _, _, _ => rfl
  | n + 1, m + 1, .lst ds, l, h => List.all_eq_true.mpr fun d hd => okd_mono n m d (by omega) (List.all_eq_true.mp h d hd)
  | n + 1, m + 1, .tup ds, l, h => List.all_eq_true.mpr fun d hd => okd_mono n m d (by omega) (List.all_eq_true.mp h d hd)
theorem okd_up {d : D} (h : d.okd 59 = true) : d.okd 60 = true := okd_mono 59 60 d (by decide) h
theorem ok_inD {X : Cx} (h : X.K = K) (hu : X.A.units + 65 < cLine) : OpR X (compareOp .In) (rInD K) := by subst h; exact op_inD hu
theorem ok_niD {X : Cx} (h : X.K = K) (hu : X.A.units + 65 < cLine) : OpR X (compareOp .NotIn) (rNotInD K) := by subst h; exact op_notInD hu
theorem any_eqv {x : D} {ds : List D} (sx : x.sm 60 = true) (sds : ∀ d ∈ ds, d.sm 60 = true) : (((ds.map D.py).any fun z => PyData.eqv z x.py) = true) ↔ x ∈ ds := by
  rw [List.any_map, List.any_eq_true]
  constructor
  · rintro ⟨d, hd, h⟩
    have z := (eqv_iff 60 d x (sds d hd) sx).mp h
    exact z ▸ hd
  · exact fun h => ⟨x, h, (eqv_iff 60 x x sx sx).mpr rfl⟩
theorem rv_inD {x : D} {ds : List D} {b : Bool} (hx : x.okd 59 = true) (hds : ∀ d ∈ ds, d.okd 59 = true) (sx : x.sm 60 = true) (sds : ∀ d ∈ ds, d.sm 60 = true) (h : b = true ↔ x ∈ ds) : RV K (rInD K) x (.lst ds) (.bl b) := fun S H v u e r1 r2 Q q => by
  have hx60 : x.okd 60 = true := okd_up hx
  have hL : (D.lst ds).okd 60 = true := List.all_eq_true.mpr hds
  have d2 := Rd.dp 60 _ _ hL (r2.mono e)
  have s2 := okd_shaped hL
  have ep : (D.lst ds).py = .list (ds.map D.py) := by rw [D.py, pyL_map]
  rw [ep] at d2 s2
  refine ⟨x.py, ds.map D.py, Rd.dp 60 _ _ hx60 (r1.mono e), d2, okd_shaped hx60, s2, ?_⟩
  have eb : ((ds.map D.py).any fun z => PyData.eqv z x.py) = b := Bool.eq_iff_iff.mpr ((any_eqv sx sds).trans h.symm)
  rw [eb]
  exact q _ S H (Ext.refl e) (.bl b)
theorem rv_isBl {a b : Bool} : RV K rIsB (.bl a) (.bl b) (.bl (decide (a = b))) := fun S H v u e r1 r2 Q q => by
  cases r1
  cases r2
  exact ⟨a, b, rfl, rfl, q _ S H (Ext.refl e) (.bl _)⟩
theorem rv_notBl {a b : Bool} : RV K rNotB (.bl a) (.bl b) (.bl (!decide (a = b))) := fun S H v u e r1 r2 Q q => by
  cases r1
  cases r2
  exact ⟨a, b, rfl, rfl, q _ S H (Ext.refl e) (.bl _)⟩
theorem rv_niD {x : D} {ds : List D} {b : Bool} (hx : x.okd 59 = true) (hds : ∀ d ∈ ds, d.okd 59 = true) (sx : x.sm 60 = true) (sds : ∀ d ∈ ds, d.sm 60 = true) (h : b = true ↔ x ∈ ds) : RV K (rNotInD K) x (.lst ds) (.bl (!b)) := fun S H v u e r1 r2 Q q => by
  have hx60 : x.okd 60 = true := okd_up hx
  have hL : (D.lst ds).okd 60 = true := List.all_eq_true.mpr hds
  have d2 := Rd.dp 60 _ _ hL (r2.mono e)
  have s2 := okd_shaped hL
  have ep : (D.lst ds).py = .list (ds.map D.py) := by rw [D.py, pyL_map]
  rw [ep] at d2 s2
  refine ⟨x.py, ds.map D.py, Rd.dp 60 _ _ hx60 (r1.mono e), d2, okd_shaped hx60, s2, ?_⟩
  have eb : ((ds.map D.py).any fun z => PyData.eqv z x.py) = b := Bool.eq_iff_iff.mpr ((any_eqv sx sds).trans h.symm)
  rw [eb]
  exact q _ S H (Ext.refl e) (.bl _)
end
end Pl

/-! Statements without a region within those with one; rows as trees; stiff frames have one part. -/
namespace Pl
open PySem PySem.Spec PyProof.Rows L2
open Evl (Ex)
section
variable {K : PySem.W.Frag} {ρ : Rho} {t : TS} {F : FM} {g g1 g2 : Gs} {E : XK} {tA : TA} {ds : List D} {m : M}
def FM.flat (F : FM) : FE := { nx := fun r => F.nx r [], rt := fun d => F.rt (.d d) [], rf := fun es => F.rt (.o es) [], bk := fun r => F.bk r [], ct := fun r => F.ct r [] }
theorem SG.ofS {S0 H0 S H : Hp} {σ : L2.St} (s : Stt K S0 H0 ρ S H σ) : SG K S0 H0 ρ [] S H σ := ⟨[], ⟨.nil, List.nodup_nil, fun _ h => nomatch h⟩, by rw [cov_nil]; exact s⟩
theorem SG.ofX {S0 H0 S' H' : Hp} (x : Ext S0 H0 S' H') : Stt K S0 H0 [] S' H' [] := ⟨x, ⟨rfl, fun i d h => by simp at h⟩, fun i ds h => by simp at h, fun i j a b p h => by simp at h⟩
/-- no region: as without one -/
theorem TM.ofT (h : T K t ρ F.flat) : TM K t ρ [] F := fun S0 H0 S H σ Dd st ac =>
  h S0 H0 S H σ Dd st.bare ⟨fun ρ' S' H' σ' n e s' => ac.nx ρ' [] S' H' σ' n e (SG.ofS s'), fun ρ' S' H' σ' n e s' => ac.bk ρ' [] S' H' σ' n e (SG.ofS s'), fun ρ' S' H' σ' n e s' => ac.ct ρ' [] S' H' σ' n e (SG.ofS s'),
    fun d v S' H' n x r => ac.rt (.d d) [] v [] S' H' [] n ⟨SG.ofS (SG.ofX x), r⟩,
    fun es p vs S' H' n x h0 sp hp r => ac.rt (.o es) [] (.ref p) [] S' H' [] n (SG.ofS ((SG.ofX x).beside ⟨p, vs, rfl, h0, sp, hp, r⟩ fun _ _ j ds hj => by simp at hj))⟩
/-- the region is left behind -/
theorem TM.drop (h : T K t ρ F.flat) : TM K t ρ g F := TM.forget (g1 := []) (g2 := g) (List.Perm.refl _) (TM.ofT h)
theorem ev_callT {Rel : List D → Gs → Rs → Gs → Prop} (ha : EvA K tA ρ ds) (hr : Rel ds [] (.t m) []) : EvD K (tCall (spG K Rel) [] E tA) ρ m.see := fun S H σ e v Q q =>
  ha S H σ e v _ fun vs S1 H1 x1 r1 => ⟨S1, H1, ds, [], .t m, [], SG.none x1.sub, by rw [List.append_nil]; exact r1, hr, fun v S2 H2 _ z => by
    obtain ⟨p, ev, z⟩ := z
    subst ev
    obtain ⟨S3, e3, z3, r3⟩ := SG.tellT (g := []) z
    exact q _ S3 H2 (x1.trans (SG.bare z3).ext) r3⟩
def rowT (l : List Nat) : M := .n .lst ((nD l).map M.d)
theorem see_rowT (l : List Nat) : (rowT l).see = rowD l := by
  show D.lst (seeL _) = D.lst _
  rw [seeL_d]
def rowsT (ls : List (List Nat)) : M := .n .lst (ls.map rowT)
theorem see_rowsT (ls : List (List Nat)) : (rowsT ls).see = .lst (ls.map rowD) := by
  show D.lst (seeL _) = D.lst _
  rw [seeL_map, List.map_map]
  refine congrArg D.lst (List.map_congr_left fun l _ => see_rowT l)
theorem rowT_isN {ls : List (List Nat)} : ∀ m ∈ ls.map rowT, m.isN = true := fun m hm => by
  obtain ⟨e, _, rfl⟩ := List.mem_map.mp hm
  rfl
theorem adrM_map (as : List Addr) : adrM as = (as.map D.adr).map M.d := by
  unfold adrM
  rw [List.map_map]
  rfl
theorem zip_rowT {as : List Addr} {ls : List (List Nat)} {a : Addr} {l : List Nat} (h : as.length = ls.length) : (as ++ [a]).zip ((ls ++ [l]).map rowT) = as.zip (ls.map rowT) ++ [(a, rowT l)] := by
  rw [List.map_append, List.zip_append (by rw [List.length_map]; exact h)]
  rfl
end
theorem partsL_mem0 {n : Nat} {nb : List Fr.Bar} (ok : Fr.Ok n nb) {l : List Nat} : l ∈ partsL n nb ↔ ∃ a b, a < b ∧ b < n ∧ Fr.Spn n (Fr.pickB n [] nb) a b ∧ l = partL n (Fr.pickB n [] nb) (a, b) := by
  have okk := Fr.basis_ok ok
  have slk := Fr.basis_slim n nb
  unfold partsL
  generalize Fr.pickB n [] nb = kb at okk slk
  rw [List.mem_map]
  constructor
  · rintro ⟨p, hp, rfl⟩
    obtain ⟨h1, h2, h3, _⟩ := Fr.ldrs_mem.mp hp
    exact ⟨p.1, p.2, h1, h2, h3, rfl⟩
  · rintro ⟨a, b, h1, h2, h3, rfl⟩
    obtain ⟨a', b', hL, pa, pb⟩ := Fr.lead_ex okk slk (show a < n by omega) h2 (by omega) h3
    obtain ⟨k1, k2, k3, _⟩ := id hL
    refine ⟨(a', b'), Fr.ldrs_mem.mpr hL, ?_⟩
    have same := (Fr.part_same okk slk (show a' < n by omega) k2 (by omega) k3 (show a < n by omega) h2 (by omega) pa pb).2
    unfold partL
    exact List.filter_congr fun z hz => same z (List.mem_range.mp hz)
theorem parts_few {n : Nat} {nb : List Fr.Bar} (ok : Fr.Ok n nb) : (partsL n nb).length ≤ nb.length := by
  have okk := Fr.basis_ok ok
  have slk := Fr.basis_slim n nb
  have hps := Fr.parts_sum okk slk
  have hk := (Fr.pickB_sub (n := n) nb []).length_le
  unfold partsL
  rw [List.length_map]
  have one : ((Fr.ldrs n (Fr.pickB n [] nb)).map fun _ => 1).sum = (Fr.ldrs n (Fr.pickB n [] nb)).length := Fr.sum_one fun _ _ => rfl
  have le := Fr.sum_le (l := Fr.ldrs n (Fr.pickB n [] nb)) (f := fun _ => 1) (g := fun p => 2 * Fr.card n (Fr.part n (Fr.pickB n [] nb) p.1 p.2) - 3) fun p hp => by
    obtain ⟨h1, h2, h3, _⟩ := Fr.ldrs_mem.mp hp
    obtain ⟨⟨t1, _⟩, _⟩ := Fr.part_all okk slk (show p.1 < n by omega) h2 (by omega) h3
    omega
  omega
theorem parts_short {n : Nat} {nb : List Fr.Bar} {l : List Nat} (h : l ∈ partsL n nb) : l.length ≤ n := by
  obtain ⟨p, _, rfl⟩ := List.mem_map.mp h
  unfold partL
  exact Nat.le_trans (List.length_filter_le _ _) (by rw [List.length_range]; exact Nat.le_refl _)
/-! ### stiff frames -/
section
variable {n : Nat} {nb : List Fr.Bar}
theorem card_all (n : Nat) : Fr.card n (fun _ => true) = n := (congrFun List.countP_true _).trans List.length_range
theorem ins_all (bs : List Fr.Bar) : Fr.ins bs (fun _ => true) = bs.length := congrFun List.countP_true _
theorem range_all {n : Nat} {p : Nat → Bool} (h : ∀ x, x < n → p x = true) : (List.range n).filter p = List.range n := List.filter_eq_self.mpr fun x hx => h x (List.mem_range.mp hx)
theorem stiff_parts (ok : Fr.Ok n nb) (h2 : 2 ≤ n) : Fr.rk n nb + 3 = 2 * n ↔ partsL n nb = [List.range n] := by
  have okk := Fr.basis_ok ok
  have slk := Fr.basis_slim n nb
  have hps := Fr.parts_sum okk slk
  have hnd := parts_nodup n nb
  unfold Fr.rk
  unfold partsL at hnd ⊢
  generalize Fr.pickB n [] nb = kb at okk slk hps hnd
  constructor
  · intro h
    have sp : ∀ a b, Fr.Spn n kb a b := fun a b => ⟨fun _ => true, ⟨by rw [card_all]; exact h2, by rw [card_all, ins_all]; exact h⟩, rfl, rfl⟩
    have one : ∀ p ∈ Fr.ldrs n kb, partL n kb p = List.range n := fun p hp => range_all fun x _ => Fr.part_iff.mpr (.inr (.inr ⟨sp _ _, sp _ _⟩))
    obtain ⟨a, b, hL, _⟩ := Fr.lead_ex okk slk (show 0 < n by omega) (show 1 < n by omega) (by decide) (sp 0 1)
    have hm : List.range n ∈ (Fr.ldrs n kb).map (partL n kb) := List.mem_map.mpr ⟨(a, b), Fr.ldrs_mem.mpr hL, one _ (Fr.ldrs_mem.mpr hL)⟩
    have all : ∀ l ∈ (Fr.ldrs n kb).map (partL n kb), l = List.range n := fun l hl => by
      obtain ⟨p, hp, rfl⟩ := List.mem_map.mp hl
      exact one p hp
    generalize (Fr.ldrs n kb).map (partL n kb) = L at hm all hnd
    cases L with
    | nil => cases hm
    | cons x t =>
      cases t with
      | nil => rw [all x List.mem_cons_self]
      | cons y t =>
        have e1 := all x List.mem_cons_self
        have e2 := all y (List.mem_cons_of_mem _ List.mem_cons_self)
        rw [e1, e2] at hnd
        exact ((List.nodup_cons.mp hnd).1 List.mem_cons_self).elim
  · intro h
    generalize Fr.ldrs n kb = L at h hps
    cases L with
    | nil => cases h
    | cons p t =>
      cases t with
      | cons y t =>
        have z := congrArg List.length h
        simp at z
      | nil =>
        have e : partL n kb p = List.range n := by
          rw [List.map_cons, List.map_nil] at h
          exact (List.cons.inj h).1
        have c : Fr.card n (Fr.part n kb p.1 p.2) = n := by
          have z := congrArg List.length e
          unfold partL at z
          rw [List.length_range] at z
          exact List.countP_eq_length_filter.trans z
        simp only [List.map_cons, List.map_nil, List.sum_cons, List.sum_nil, c] at hps
        omega
end
end Pl

/-! sum(xss, []): lists put one behind the other. -/
namespace Su
open PySem PySem.Spec PyProof.Rows L2
theorem list_str : isSubtype (.type "list") (.type "str") = pure false := by rw [isSubtype_type]; kernel_rfl
theorem list_bytes : isSubtype (.type "list") (.type "bytes") = pure false := by rw [isSubtype_type]; kernel_rfl
theorem list_bytearray : isSubtype (.type "list") (.type "bytearray") = pure false := by rw [isSubtype_type]; kernel_rfl
theorem args_two (a b : Value) : argsOk "sum" ⟨[a, b], []⟩ := by unfold argsOk; kernel_rfl
section
variable {prog : Program} {w : World} {A : Around} {R : Result → Shared → Prop} {s0 : Shared} {h0 : Heap} {L I S : Addr} {us : List Value} {ys : Nat → List Value} {tot : Nat → List Value}
theorem loop (hh : A.handled = none) (hne : L ≠ I) (hSI : S ≠ I) (hSL : S ≠ L) (hS0 : h0.get? S = none) (hSz : h0.objs.size ≤ S) (hI0 : h0.get? I = none)
    (hu : ∀ i v, us[i]? = some v → ∃ l n, v = .ref l ∧ h0.get? l = some { cls := .type "list", data := .seq (ys i).toArray n }) (ht : ∀ i, tot (i + 1) = tot i ++ ys i) (hz : ∀ i, i < us.length → (tot i).length + (ys i).length ≤ sizeLine)
    (hR : ∀ (p : Addr) (n : Nat) (h' : Heap) (tk : Nat), (∀ b o, h0.get? b = some o → h'.get? b = some o) → h'.get? p = some { cls := .type "list", data := .seq (tot us.length).toArray n } → (us.length = 0 ∨ h0.objs.size ≤ p) → R (.ok (.ret (.ref p))) { s0 with heap := h', toks := tk }) :
    ∀ (k i : Nat) (h : Heap) (tk0 : Nat) (t : Addr) (tn c : Nat), us.length - i = k → i ≤ us.length → (∀ b o, h0.get? b = some o → h.get? b = some o) → h.IsListIter I L i → h.IsList L us.toArray → t ≠ S → t ≠ I →
      h.get? t = some { cls := .type "list", data := .seq (tot i).toArray tn } → (i = 0 ∨ h0.objs.size ≤ t) → h.get? S = some { cls := .type "list", dict := none, data := .seq #[.ref t] c, slots := #[] } →
      codeAny (model prog w) A (.builtin "sum.loop" ⟨[.ref I, .ref S, rawInt 2, rawInt 0], []⟩) R { s0 with heap := h, toks := tk0 } := by
  have W := Walks.list (prog := prog) (w := w) (A := A.in1) hh I L hne us.toArray
  have hsz : us.toArray.size = us.length := by simp
  intro k
  induction k with
  | zero =>
    intro i h tk0 t tn c hk hi kp hit hl tS tI hT hti hS
    have hin : i = us.length := by omega
    subst hin
    refine codeAny_builtin F.entry_sum_loop ?_
    rw [Around.under_plainId F.plain_sum_loop _]
    show wpAny _ A.in1 (seqItems? (.ref S) >>= _) _ _ { s0 with heap := h, toks := tk0 }
    refine wpAny_bind (wpAny_seqItems hS rfl ?_)
    show wpAny _ A.in1 (tryCatch (pyNext (.ref I)) _ >>= _) _ _ { s0 with heap := h, toks := tk0 }
    refine wpAny_bind (wpAny_tryCatch (W.done { s0 with heap := h, toks := tk0 } _ _ ⟨by rw [hsz]; exact hit, hl⟩ fun h' tk hk' => ?_))
    have kI : ∀ b o, b ≠ I → h.get? b = some o → h'.get? b = some o := fun b o hb e => hk' b o (fun z => hb (List.mem_singleton.mp z)) e
    exact wpAny_pure (hR t tn h' tk (fun b o e => kI b o (fun z => by rw [z, hI0] at e; cases e) (kp b o e)) (kI t _ tI hT) hti)
  | succ k ih =>
    intro i h tk0 t tn c hk hi kp hit hl tS tI hT hti hS
    have hlt : i < us.length := by omega
    refine codeAny_builtin F.entry_sum_loop ?_
    rw [Around.under_plainId F.plain_sum_loop _]
    show wpAny _ A.in1 (seqItems? (.ref S) >>= _) _ _ { s0 with heap := h, toks := tk0 }
    refine wpAny_bind (wpAny_seqItems hS rfl ?_)
    show wpAny _ A.in1 (tryCatch (pyNext (.ref I)) _ >>= _) _ _ { s0 with heap := h, toks := tk0 }
    refine wpAny_bind (wpAny_tryCatch (W.item i { s0 with heap := h, toks := tk0 } _ _ (by rw [hsz]; exact hlt) ⟨hit, hl⟩ fun v h' tk hP hst' hk' => ?_))
    have kI : ∀ b o, b ≠ I → h.get? b = some o → h'.get? b = some o := fun b o hb e => hk' b o (fun z => hb (List.mem_singleton.mp z)) e
    obtain ⟨l, n, rfl, hl0⟩ := hu i v (by simpa using hP)
    have hl' := kI l _ (fun z => by rw [z, hI0] at hl0; cases hl0) (kp l _ hl0)
    have hT' := kI t _ tI hT
    have hS' := kI S _ hSI hS
    show wpAny _ A.in1 ((holding [.ref l] (binaryOp .Add (.ref t) (.ref l))).attempt >>= _) _ _ _
    refine wpAny_bind (wpAny_attempt (wpAny_holding (PySem.P.add_list (n := tn) (n2 := n) hT' hl' ?_ (by have z := hz i hlt; simp only [List.size_toArray]; exact z))))
    show wpAny _ A.in1 (updateSeq S (fun _ => #[.ref h'.objs.size]) >>= _) _ _ _
    have hS1 : (h'.push { cls := .type "list", data := .seq ((tot i).toArray ++ (ys i).toArray) }).get? S = _ := Heap.get?_push_of_some _ hS'
    refine wpAny_bind (wpAny_updateSeq hS1 rfl ?_)
    have hS₂ := Heap.get?_update_self (Obj.mapSeq fun _ => #[Value.ref h'.objs.size]) hS1 rfl
    refine wpAny_bind (wpAny_letGo ?_)
    have ne2 : ∀ b, b ≠ S → ∀ o, h'.get? b = some o → (((h'.push { cls := .type "list", data := .seq ((tot i).toArray ++ (ys i).toArray) }).update S (Obj.mapSeq fun _ => #[Value.ref h'.objs.size])).update S (Obj.mapSeq fun _ => #[Value.ref h'.objs.size])).get? b = some o := fun b hb o e =>
      (Heap.get?_update_other _ _ (Ne.symm hb)).trans ((Heap.get?_update_other _ _ (Ne.symm hb)).trans (Heap.get?_push_of_some _ e))
    have ltS : S < h'.objs.size := Heap.lt_size hS'
    have ltI : I < h'.objs.size := by
      obtain ⟨o, e, _⟩ := hst'.1
      exact Heap.lt_size e
    have kp' : ∀ b o, h0.get? b = some o → h'.get? b = some o := fun b o e => kI b o (fun z => by rw [z, hI0] at e; cases e) (kp b o e)
    have sz1 : h0.objs.size ≤ h'.objs.size := Nat.le_trans hSz (Nat.le_of_lt ltS)
    refine wpAny_bind (wpAny_updateSeq hS₂ rfl (wpAny_pure ⟨plainId_quiet F.plain_sum_loop _, ih (i + 1) _ _ h'.objs.size 0 _ (by omega) hlt (fun b o e => ?_) (hst'.1.at fun o e => ne2 I (Ne.symm hSI) o e) (hst'.2.at fun o e => ne2 L (Ne.symm hSL) o e) (Nat.ne_of_gt ltS) (Nat.ne_of_gt ltI) ?_ (.inr sz1) (Heap.get?_update_self _ hS₂ rfl)⟩))
    · exact ne2 b (fun z => by rw [z, hS0] at e; cases e) o (kp' b o e)
    · refine (Heap.get?_update_other _ _ (Nat.ne_of_lt ltS)).trans ((Heap.get?_update_other _ _ (Nat.ne_of_lt ltS)).trans ?_)
      rw [Heap.get?_push_size _ rfl, ht]
      simp
end
section
variable {prog : Program} {w : World} {A : Around} {E : Value → Shared → Prop} {s : Shared} {L B : Addr} {us : List Value} {ys : Nat → List Value} {tot : Nat → List Value} {Q : Value → Shared → Prop}
theorem sum_lists (hh : A.handled = none) (hl : s.heap.IsList L us.toArray) (h0 : tot 0 = []) {bn : Nat} (hb : s.heap.get? B = some { cls := .type "list", data := .seq #[] bn })
    (hu : ∀ i v, us[i]? = some v → ∃ l n, v = .ref l ∧ s.heap.get? l = some { cls := .type "list", data := .seq (ys i).toArray n }) (ht : ∀ i, tot (i + 1) = tot i ++ ys i) (hz : ∀ i, i < us.length → (tot i).length + (ys i).length ≤ sizeLine)
    (hQ : ∀ (p : Addr) (n : Nat) (h' : Heap) (tk : Nat), (∀ b o, s.heap.get? b = some o → h'.get? b = some o) → h'.get? p = some { cls := .type "list", data := .seq (tot us.length).toArray n } → (us.length = 0 ∨ s.heap.objs.size ≤ p) → Q (.ref p) { s with heap := h', toks := tk }) :
    wpAny (model prog w) A (call (.builtin "sum") [.ref L, .ref B]) Q E s := by
  refine call_function_tree F.kind_sum F.plain_sum F.entry_sum (args_two _ _) ?_
  unfold Builtin.«sum»
  simp only [List.length_cons, List.length_nil]
  rw [if_neg (by decide)]
  refine wpAny_bind (wpAny_of_eq (show Builtin.Builtins.bindParams "sum" ["start"] 0 ⟨[.ref B], []⟩ = pure [some (.ref B)] from rfl) ?_)
  refine wpAny_bind (wpAny_pyIter_list hl ?_)
  refine wpAny_bind (wpAny_pure ?_)
  have ty : ∀ (h : Heap) (tk : Nat), (∀ b o, s.heap.get? b = some o → h.get? b = some o) → Shared.TypeIs { s with heap := h, toks := tk } (.ref B) "list" := fun h tk k => ⟨_, k _ _ hb, rfl⟩
  simp only [List.forIn_cons, List.forIn_nil]
  refine wpAny_bind (wpAny_bind (wpAny_bind (wpAny_isInstance (T := "list") (b := false) (ty _ _ fun b o e => Heap.get?_push_of_some _ e) list_str ?_)))
  simp only [Bool.false_eq_true, if_false]
  refine wpAny_pure (wpAny_bind (wpAny_bind (wpAny_isInstance (T := "list") (b := false) (ty _ _ fun b o e => Heap.get?_push_of_some _ e) list_bytes ?_)))
  simp only [Bool.false_eq_true, if_false]
  refine wpAny_pure (wpAny_bind (wpAny_bind (wpAny_isInstance (T := "list") (b := false) (ty _ _ fun b o e => Heap.get?_push_of_some _ e) list_bytearray ?_)))
  simp only [Bool.false_eq_true, if_false]
  refine wpAny_pure (wpAny_pure ?_)
  refine wpAny_bind (wpAny_newObj_type ?_)
  have sp : s.heap.objs.size < (s.heap.push { cls := .type "list_iterator", data := .fields #[.ref L, .int 0 0] }).objs.size := by rw [Heap.size_push]; exact Nat.lt_succ_self _
  have n1 := Nat.ne_of_lt sp
  have spl := Nat.le_of_lt sp
  have lL : L < s.heap.objs.size := by
    obtain ⟨o, e, _⟩ := hl
    exact Heap.lt_size e
  have lB : B < s.heap.objs.size := Heap.lt_size hb
  have fresh : ∀ b, s.heap.objs.size ≤ b → s.heap.get? b = none := fun b hb => Heap.get?_none_of_le hb
  refine wpAny_pure ⟨plainId_quiet F.plain_sum_loop _, loop (s0 := s) (h0 := s.heap) (us := us) (ys := ys) (tot := tot) hh (Nat.ne_of_lt lL) (Ne.symm n1) (Ne.symm (Nat.ne_of_lt (Nat.lt_of_lt_of_le lL spl))) (fresh _ spl) spl (fresh _ (Nat.le_refl _)) hu ht hz (fun p n h' tk k e1 e2 => hQ p n h' tk k e1 e2)
    us.length 0 _ _ B bn 0 rfl (Nat.zero_le _) (fun b o e => Heap.get?_push_of_some _ (Heap.get?_push_of_some _ e)) ?_ ?_ (Nat.ne_of_lt (Nat.lt_of_lt_of_le lB spl)) (Nat.ne_of_lt lB) ?_ (.inl rfl) ?_⟩
  · exact ⟨_, Heap.get?_push_of_some _ (Heap.get?_push_size _ rfl), rfl, rfl⟩
  · exact hl.at fun o e => Heap.get?_push_of_some _ (Heap.get?_push_of_some _ e)
  · rw [h0]
    exact Heap.get?_push_of_some _ (Heap.get?_push_of_some _ hb)
  · exact Heap.get?_push_size _ rfl
end
section
variable {X : Cx}
/-- sum(xss, b), b an empty list: a new list of all that is in xss, which isn't empty -/
def rSumL (K : PySem.W.Frag) : List V → Hp → VK → Prop := fun vs H Q => ∃ (a b : Addr) (ls : List Addr) (yss : List (List V)), vs = [.ref a, .ref b] ∧ SqL K H a (ls.map V.ref) ∧ H b = some (.lst []) ∧ ls.length = yss.length ∧ 0 < ls.length ∧ (∀ (i : Nat) (l : Addr) (ys : List V), ls[i]? = some l → yss[i]? = some ys → H l = some (.lst ys)) ∧ yss.flatten.length ≤ sizeLine ∧
  ∀ p, H p = none → Q (.ref p) (upd H p (.lst yss.flatten))
theorem flat_take {α : Type} (yss : List (List α)) (i : Nat) : (yss.take (i + 1)).flatten = (yss.take i).flatten ++ yss.getD i [] := by
  by_cases h : i < yss.length
  · rw [← List.take_append_getElem h, List.flatten_append]
    simp [List.getD, h]
  · rw [List.take_of_length_le (by omega), List.take_of_length_le (by omega)]
    simp [List.getD, h]
theorem cr_sumL (hc : X.calm = true) : CallR X (.builtin "sum") (rSumL X.K) := by
  intro pins s σ H vs us Q I r h
  obtain ⟨a, b, ls, yss, rfl, hs, hb, hlen, h1, hall, hz, q⟩ := h
  obtain ⟨its, rv, hl, _⟩ := I.list hs
  obtain ⟨_, bits, bn, rb, lb, eb⟩ := I.lstM hb
  have eb0 : bits = [] := List.length_eq_zero_iff.mp (by rw [← lb]; rfl)
  subst eb0
  cases r with
  | cons ra r =>
    cases r with
    | cons rb2 r =>
      cases r
      cases ra
      cases rb2
      have hits : its.length = ls.length := by rw [← rv.length, List.length_map]
      have each : ∀ i : Nat, i < ls.length → ∃ (l : Addr) (vs : List Value) (n : Nat), its[i]? = some (.ref l) ∧ Vals (yss.getD i []) vs ∧ s.heap.get? l = some { cls := .type "list", data := .seq vs.toArray n } := fun i hi => by
        obtain ⟨u, hu, ru⟩ := rv.get (i := i) (x := V.ref ls[i]) (by rw [List.getElem?_map, List.getElem?_eq_getElem hi]; rfl)
        cases ru
        have hy : yss[i]? = some (yss.getD i []) := by
          have hi2 : i < yss.length := by omega
          simp [List.getD, hi2]
        obtain ⟨_, vs, n, rvs, _, e⟩ := I.lstM (hall i ls[i] _ (List.getElem?_eq_getElem hi) hy)
        exact ⟨_, vs, n, hu, rvs, e⟩
      have hch : ∃ ys : Nat → List Value, ∀ i : Nat, i < ls.length → ∃ (l : Addr) (n : Nat), its[i]? = some (.ref l) ∧ Vals (yss.getD i []) (ys i) ∧ s.heap.get? l = some { cls := .type "list", data := .seq (ys i).toArray n } := by
        refine ⟨fun i => if h : i < ls.length then (each i h).choose_spec.choose else [], fun i hi => ?_⟩
        simp only [dif_pos hi]
        obtain ⟨n, e1, e2, e3⟩ := (each i hi).choose_spec.choose_spec
        exact ⟨_, n, e1, e2, e3⟩
      obtain ⟨ys, hys⟩ := hch
      have tv : ∀ i : Nat, i ≤ ls.length → Vals (yss.take i).flatten ((List.range i).flatMap ys) := fun i => by
        induction i with
        | zero => intro _; rw [List.take_zero]; exact .nil
        | succ i ih =>
          intro hi
          obtain ⟨_, _, _, e2, _⟩ := hys i (by omega)
          rw [flat_take, List.range_succ, List.flatMap_append]
          refine (ih (by omega)).append ?_
          simpa using e2
      have tl : ∀ i : Nat, i ≤ ls.length → ((List.range i).flatMap ys).length ≤ yss.flatten.length := fun i hi => by
        rw [← (tv i hi).length]
        have z := congrArg (fun l => l.flatten.length) (List.take_append_drop i yss)
        simp only [List.flatten_append, List.length_append] at z
        omega
      refine sum_lists (I.ok.hd hc) hl.isList (ys := ys) (tot := fun i => (List.range i).flatMap ys) rfl eb (fun i v hv => ?_) (fun i => by rw [List.range_succ, List.flatMap_append]; simp) (fun i hi => ?_) fun p n h' tk k e1 e2 => ?_
      · have hi : i < ls.length := by rw [← hits]; exact (List.getElem?_eq_some_iff.mp hv).1
        obtain ⟨l, n, e1, _, e3⟩ := hys i hi
        rw [hv] at e1
        cases e1
        exact ⟨l, n, rfl, e3⟩
      · have hi2 : i < ls.length := by omega
        have z := tl (i + 1) hi2
        rw [List.range_succ, List.flatMap_append, List.length_append] at z
        simp only [List.flatMap_cons, List.flatMap_nil, List.append_nil] at z
        omega
      · have hp : s.heap.objs.size ≤ p := e2.elim (fun z => absurd z (by omega)) id
        rw [hits] at e1
        have v := tv ls.length (Nat.le_refl _)
        rw [List.take_of_length_le (by omega)] at v
        exact ⟨.ref p, _, I.laid (o := .lst yss.flatten) k hp ⟨hz, _, n, v, e1⟩, rfl, q p (I.hok.fresh hp)⟩
end
end Su

/-! Promises with several outcomes; a tree in a slot told as data; sum of lists; max. -/
namespace Pl
open PySem PySem.Spec PyProof.Rows L2
open Evl (Ex)
section
variable {K : PySem.W.Frag} {S0 H0 S H S' H' : Hp} {σ : L2.St} {ρ ρ' ρ1 ρv : Rho} {g g' g1 g2 gl gr : Gs} {F G : FM} {t u : TS} {te ti td tx tk tv ty : TE} {tA : TA} {c : TT} {d : D} {es ds : List D} {ms : List M} {m m1 m2 mv : M} {a : Addr} {π : List Nat} {Dd : Ends} {i j : Nat} {b : Bool} {r : Rs} {E : XK} {s : Shp}
/-- a def's promise: one of the outcomes P -/
def spQ (K : PySem.W.Frag) (Rel : List D → Gs → (Rs → Gs → Prop) → Prop) : Sp := fun vs H Q _ => ∃ S H0 ds g P, SG K S H0 [] g S H [] ∧ RdL K S vs ds ∧ Rel ds g P ∧ ∀ r g' v S' H', P r g' → Ex S S' → Res K S H0 [] g' S' H' [] v r → Q v H'
def EvQ (K : PySem.W.Frag) (te : TE) (ρ : Rho) (g : Gs) (P : Rs → Gs → Prop) : Prop := ∀ S0 H0 S H σ, SG K S0 H0 ρ g S H σ → ∀ Q : VK, (∀ r g' v S' H', P r g' → Ex S S' → Res K S0 H0 ρ g' S' H' σ v r → Q v H') → te σ H Q
theorem spQ_len {Rel : List D → Gs → (Rs → Gs → Prop) → Prop} {n : Nat} (h : ∀ ds g P, Rel ds g P → ds.length = n) : ∀ vs H Q E, spQ K Rel vs H Q E → vs.length = n := fun vs H Q E ⟨S, H0, ds, g, P, _, rl, rel, _⟩ => rl.length.trans (h ds g P rel)
/-- a call with arguments, some of them new trees -/
theorem ev_callQ {Rel : List D → Gs → (Rs → Gs → Prop) → Prop} {PA : List D → Gs → Prop} {P : Rs → Gs → Prop} (ha : EvXA K tA ρ g PA) (hr : ∀ ds x, PA ds x → ∃ g1 g2 P1, List.Perm x (g1 ++ g2) ∧ Rel ds g1 P1 ∧ ∀ r gq, P1 r gq → ∃ g' e, P r g' ∧ List.Perm (g2 ++ gq) (g' ++ e)) : EvQ K (tCall (spQ K Rel) [] E tA) ρ g P := fun S0 H0 S H σ st0 Q q =>
  ha S0 H0 S H σ st0 _ fun vs ds x S1 H1 e1 pp s1 r1 => by
    obtain ⟨g1, g2, P1, hp, rel, hq⟩ := hr ds x pp
    obtain ⟨fp, rg, st⟩ := s1.perm hp
    have o := rg.own
    rw [gv_app, gm_app] at o
    obtain ⟨fs, f2, e, o1, o2⟩ := o.split gv_len
    subst e
    have n := SG.noS st rg
    have hc : cov (cov H1 (fun _ => none) fs) H1 fs = H1 := funext fun a => by
      by_cases h : a ∈ fs
      · rw [cov_in h]
      · rw [cov_out h, cov_out h]
    refine ⟨S1, cov H1 (fun _ => none) fs, ds, g1, P1, ⟨fs, ⟨o1, (List.nodup_append.mp rg.nd).1, fun a ha => ⟨cov_in ha, n a (List.mem_append_left _ ha)⟩⟩, ?_⟩, by rw [List.append_nil]; exact r1, rel, fun r gq v S2 H2 hP _ z => ?_⟩
    · rw [hc]
      exact (⟨Ext.refl st.ext.sub, ⟨rfl, fun i d h => by simp at h⟩, fun i ds h => by simp at h, fun i j a b p h => by simp at h⟩ : Stt K S1 H1 [] S1 H1 [])
    · obtain ⟨e, y⟩ := SG.ret st o1 o2 rg.nd rg.no z
      obtain ⟨g', ex, hP', hpp⟩ := hq r gq hP
      exact q r g' v S2 H2 hP' (e1.trans e) (Res.forget hpp y)
def FM.tellQ (P : Rs → Gs → Prop) : FM := { nx := fun _ x => ∃ g e, P (.d .non) g ∧ List.Perm x (g ++ e), rt := fun q x => ∃ g e, P q g ∧ List.Perm x (g ++ e) }
theorem TM.finQ {Rel : List D → Gs → (Rs → Gs → Prop) → Prop} {vs : List V} {N : List Str} {H : Hp} {Q : VK} {E : XK} (h : spQ K Rel vs H Q E) (k : ∀ ds g P, Rel ds g P → TM K t (startR N.length ds) g (.tellQ P)) : t { nx := fun _ H' => Q .non H', rt := Q } (L2.start N vs) H := by
  obtain ⟨S, H0, ds, g, P, st, rl, rel, q⟩ := h
  refine k ds g P rel S H0 S H _ _ (st.start rl) ⟨fun ρ x S' H' σ n e s => ?_, fun _ _ _ _ _ z => z.elim, fun _ _ _ _ _ z => z.elim, fun r' x v ρ S' H' σ n s => ?_⟩
  · obtain ⟨g', ex, hP, hp⟩ := n
    obtain ⟨fp, rg, s⟩ := (s.perm hp).forget
    exact q (.d .non) g' .non S' H' hP s.ext.s ⟨⟨fp, rg, s.clear⟩, .non⟩
  · obtain ⟨g', ex, hP, hp⟩ := n
    have s := s.bare
    have fin : ∀ {ρc σc}, SG K S H0 ρc x S' H' σc → Ex S S' ∧ SG K S H0 ρc g' S' H' σc := fun {ρc σc} z => by
      obtain ⟨fp, rg, y⟩ := (z.perm hp).forget
      exact ⟨y.ext.s, fp, rg, y⟩
    cases r' with
    | d d =>
      obtain ⟨e, y⟩ := fin s.1
      exact q _ g' v S' H' hP e ⟨y, s.2⟩
    | o es =>
      obtain ⟨e, y⟩ := fin s
      exact q _ g' v S' H' hP e y
    | t m =>
      obtain ⟨p, ev, s⟩ := s
      have hp2 : List.Perm (x ++ [(p, m)]) ((g' ++ [(p, m)]) ++ ex) := by
        refine (hp.append_right _).trans ?_
        rw [List.append_assoc, List.append_assoc]
        exact (List.perm_append_comm).append_left _
      obtain ⟨fp, rg, y⟩ := (s.perm hp2).forget
      exact q _ g' v S' H' hP y.ext.s ⟨p, ev, fp, rg, y⟩
/-- x = f(..) by one of the outcomes, all of them data -/
theorem TM.asgQ {tg : TG} {P : Rs → Gs → Prop} (h : EvQ K te ρ g P) (hk : ∀ r g', P r g' → ∃ d ps, r = .d d ∧ EvG K tg d ps ∧ F.nx (setR ρ ps) g') : TM K (tAsg te tg) ρ g F := fun S0 H0 S H σ Dd s a =>
  h S0 H0 S H σ s _ fun r g' v S1 H1 hP x1 z => by
    obtain ⟨d, ps, rfl, hg, k⟩ := hk r g' hP
    obtain ⟨s1, r1⟩ := z
    exact hg S1 H1 σ v s1.sub r1 _ fun vs rv => a.nx _ g' S1 H1 _ k x1 (s1.setV rv)
/-- an expression by one of the outcomes, told -/
theorem TM.retQ {P : Rs → Gs → Prop} (h : EvQ K te ρ g P) (hk : ∀ r g', P r g' → F.rt r g') : TM K (tRet te) ρ g F := fun S0 H0 S H σ Dd s a =>
  h S0 H0 S H σ s _ fun r g' v S1 H1 hP x1 z => a.rt r g' v ρ S1 H1 σ (hk r g' hP) z
theorem EvQ.of (h : EvX K te ρ g r g') {P : Rs → Gs → Prop} (hP : P r g') : EvQ K te ρ g P := fun S0 H0 S H σ s Q q => h S0 H0 S H σ s Q fun v S' H' e z => q r g' v S' H' hP e z
theorem SG.tellO {v : V} (z : SG K S0 H0 (ρ ++ [.o es]) g S H (σ ++ [some v])) : ∃ S2, Ex S S2 ∧ SG K S0 H0 ρ g S2 H σ ∧ Rd K S2 v (.lst es) := by
  obtain ⟨fp, rg, st⟩ := z
  have hl : σ.length = ρ.length := by
    have z := st.env.len
    simp only [List.length_append, List.length_cons, List.length_nil] at z
    omega
  have hlast : (ρ ++ [Sl.o es])[ρ.length]? = some (.o es) := by simp
  have hlastσ : (σ ++ [some v])[ρ.length]? = some (some v) := by rw [← hl]; simp
  obtain ⟨S2, e2, st2⟩ := st.freeze hlast
  have n := SG.noS st rg
  have hs : (ρ ++ [Sl.o es]).set ρ.length (.k (.lst es)) = ρ ++ [.k (.lst es)] := by simp
  rw [hs] at st2
  obtain ⟨w, w1, w2⟩ := st2.env.val ρ.length (.lst es) (by simp)
  rw [hlastσ] at w1
  cases w1
  have up : ∀ {j : Nat} {x : Sl}, ρ[j]? = some x → (ρ ++ [Sl.k (.lst es)])[j]? = some x ∧ (σ ++ [some v])[j]? = σ[j]? := fun {j x} h => by
    have hj : j < ρ.length := (List.getElem?_eq_some_iff.mp h).1
    exact ⟨by rw [List.getElem?_append_left hj]; exact h, by rw [List.getElem?_append_left (by omega)]⟩
  refine ⟨S2, e2, ⟨fp, ⟨rg.own.mono e2 fun a _ => rfl, rg.nd, rg.no⟩, st2.ext, ⟨hl, fun j x h => ?_⟩, fun j ds h => ?_, fun j k a b p h1 h2 e1 e2 => ?_⟩, w2⟩
  · obtain ⟨a1, a2⟩ := up h
    rw [← a2]
    exact st2.env.val j x a1
  · obtain ⟨a1, a2⟩ := up h
    rw [← a2]
    exact st2.own j ds a1
  · exact st2.apart j k a b p (up h1).1 (up h2).1 (by rw [(up h1).2]; exact e1) (by rw [(up h2).2]; exact e2)
/-- own lists that are told become data -/
theorem EvQ.tell {P P' : Rs → Gs → Prop} (h : EvQ K te ρ g P) (hP : ∀ r g', P r g' → ∃ es, r = .o es ∧ P' (.d (.lst es)) g') : EvQ K te ρ g P' := fun S0 H0 S H σ s Q q => h S0 H0 S H σ s Q fun r g' v S' H' hp e z => by
  obtain ⟨es, rfl, hp'⟩ := hP r g' hp
  obtain ⟨S2, e2, z2, r2⟩ := SG.tellO z
  exact q _ g' v S2 H' hp' (e.trans e2) ⟨z2, r2⟩
/-- a tree in a slot becomes data -/
theorem TM.tellS {q : Addr} (h : ρ[i]? = some (.k (.adr q))) (hp : List.Perm g (g1 ++ [(q, m)])) (k : TM K t (ρ.set i (.k m.see)) g1 F) : TM K t ρ g F := fun S0 H0 S H σ Dd st ac => by
  obtain ⟨S2, e, z, rd⟩ := SG.tellT (st.perm hp)
  obtain ⟨v, h1, h2⟩ := st.env.val i _ h
  cases h2
  obtain ⟨fp, rg, s⟩ := z
  have s2 := s.set (i := i) rd
  have eσ : σ.set i (some (.ref q)) = σ := by
    obtain ⟨hl, he⟩ := List.getElem?_eq_some_iff.mp h1
    rw [← he]
    exact List.set_getElem_self hl
  rw [eσ] at s2
  exact k S0 H0 S2 H σ Dd ⟨fp, rg, s2⟩ (ac.mono e)
/-! ### sum of lists -/
theorem ok_sumL {X : Cx} (h : X.K = K) (hc : X.calm = true) : CallR X (.builtin "sum") (Su.rSumL K) := by subst h; exact Su.cr_sumL hc
theorem ok_max {X : Cx} (h : X.K = K) (hc : X.calm = true) : CallR X (.builtin "max") (rMax K) := by subst h; exact cr_max hc
theorem ok_sum {X : Cx} (h : X.K = K) (hc : X.calm = true) : CallR X (.builtin "sum") (rSum K) := by subst h; exact cr_sum hc
theorem rc_sum {ns : List Int} : RC K (rSum K) [.lst (ns.map D.int)] (.int ns.sum) := fun S H vs e r Q q => by
  cases r with
  | cons h t =>
    cases t
    cases h with
    | lst ha rl =>
      have z := rl.ints
      subst z
      exact ⟨_, ns, rfl, Evl.sq_of (e _ _ ha), q _ S H (Ext.refl e) (.int _)⟩
theorem rc_max {ns : List Int} {m : Int} (h1 : m ∈ ns) (h2 : ∀ y ∈ ns, y ≤ m) : RC K (rMax K) [.lst (ns.map D.int)] (.int m) := fun S H vs e r Q q => by
  cases r with
  | cons h t =>
    cases t
    cases h with
    | lst ha rl =>
      have z := rl.ints
      subst z
      refine ⟨_, ns, rfl, Evl.sq_of (e _ _ ha), List.length_pos_of_mem h1, fun x hx hy => ?_⟩
      have ex : x = m := Int.le_antisymm (h2 x hx) (hy m h1)
      subst ex
      exact q _ S H (Ext.refl e) (.int _)
theorem rdl_lists : ∀ {xs : List V} {yss : List (List D)}, RdL K S xs (yss.map D.lst) → ∃ (ls : List Addr) (vss : List (List V)), xs = ls.map V.ref ∧ ls.length = yss.length ∧ vss.length = yss.length ∧ (∀ (i : Nat) (l : Addr) (ys : List V), ls[i]? = some l → vss[i]? = some ys → S l = some (.lst ys)) ∧ RdL K S vss.flatten yss.flatten
  | _, [], .nil => ⟨[], [], rfl, rfl, rfl, fun i l ys h => by simp at h, .nil⟩
  | _, ys :: yss, .cons h r => by
    obtain ⟨ls, vss, e1, e2, e3, e4, e5⟩ := rdl_lists r
    cases h with
    | lst ha rl =>
      rename_i a vs
      refine ⟨a :: ls, vs :: vss, by rw [e1]; rfl, by simp [e2], by simp [e3], fun i l ws h1 h2 => ?_, ?_⟩
      · cases i with
        | zero =>
          simp at h1 h2
          rw [← h1, ← h2]
          exact ha
        | succ i => exact e4 i l ws (by simpa using h1) (by simpa using h2)
      · rw [List.flatten_cons, List.flatten_cons]
        exact rl.append e5
theorem rc_sumL {yss : List (List D)} (h1 : 0 < yss.length) (hz : yss.flatten.length ≤ 100000) : RCF K (Su.rSumL K) [.lst (yss.map D.lst), .lst []] yss.flatten := fun S H vs e r Q q => by
  cases r with
  | cons ra r =>
    cases r with
    | cons rb r =>
      cases r
      cases ra with
      | lst ha rl =>
        cases rb with
        | lst hb rn =>
          cases rn
          obtain ⟨ls, vss, e1, e2, e3, e4, e5⟩ := rdl_lists rl
          subst e1
          refine ⟨_, _, ls, vss, rfl, Evl.sq_of (e _ _ ha), e _ _ hb, by omega, by omega, fun i l ys h1 h2 => e _ _ (e4 i l ys h1 h2), Evl.sz_of (by rw [e5.length]; exact hz), fun p hp => ?_⟩
          exact q p _ S _ (Ext.hid e hp) hp (sub_none e hp) upd_same e5
end
end Pl

/-! Blocks that have one joint together at most: lean, and each a part. -/
namespace Fr
open Pl (turnB)
section
variable {n : Nat}
theorem sub_length {l m : List Nat} (hl : l.Nodup) (hm : m.Nodup) (h : ∀ x ∈ l, x ∈ m) : l.length ≤ m.length := by
  have pm : (m.filter fun x => decide (x ∈ l)).Perm l := (List.perm_ext_iff_of_nodup (hm.filter _) hl).mpr fun x => by
    rw [List.mem_filter, decide_eq_true_eq]
    exact ⟨fun z => z.2, fun z => ⟨h x z, z⟩⟩
  rw [← pm.length_eq]
  exact List.length_filter_le _ _
/-- fewer joints, by other names -/
theorem emb_card {k : Nat} {f : Nat → Nat} (inj : ∀ x y, x < k → y < k → f x = f y → x = y) (low : ∀ x, x < k → f x < n) (S : JS) : card k (fun x => S (f x)) ≤ card n S := by
  unfold card
  rw [List.countP_eq_length_filter, List.countP_eq_length_filter, ← List.length_map (f := f)]
  refine sub_length ?_ (List.nodup_range.filter _) fun x hx => ?_
  · exact List.pairwise_map.mpr ((List.Pairwise.filter _ List.nodup_range).imp_of_mem fun {a b} ha hb hne e => hne (inj a b (List.mem_range.mp (List.mem_filter.mp ha).1) (List.mem_range.mp (List.mem_filter.mp hb).1) e))
  · obtain ⟨y, hy, rfl⟩ := List.mem_map.mp hx
    obtain ⟨h1, h2⟩ := List.mem_filter.mp hy
    exact List.mem_filter.mpr ⟨List.mem_range.mpr (low y (List.mem_range.mp h1)), h2⟩
theorem emb_slim {k : Nat} {bs : List Bar} {f : Nat → Nat} (inj : ∀ x y, x < k → y < k → f x = f y → x = y) (low : ∀ x, x < k → f x < n) (ok : Ok k bs) (sl : Slim k bs) : Slim n (bs.map (fb f)) := fun S hS => by
  rw [ins_map]
  have c := emb_card inj low S
  by_cases h : 2 ≤ card k fun x => S (f x)
  · have := sl _ h
    omega
  · rw [ins_small ok (by omega)]
    omega
/-- blocks, each with lean bars that leave it no room; m joints so far -/
inductive Glued (n : Nat) : Nat → List (List Nat) → List (List Bar) → Prop
  | nil : Glued n 0 [] []
  | snoc {m : Nat} {Bs : List (List Nat)} {Ks : List (List Bar)} (h : Glued n m Bs Ks) (m' : Nat) (B : List Nat) (L : List Bar) (nd : B.Nodup) (b2 : 2 ≤ B.length) (len : L.length + 3 = 2 * B.length) (sl : Slim n L)
      (within : ∀ b ∈ L, b.1 ∈ B ∧ b.2 ∈ B ∧ b.1 ≠ b.2) (low : ∀ x ∈ B, x < m') (up : m ≤ m') (le : m' ≤ n) (cov : ∀ x, x < m' → x < m ∨ x ∈ B) (one : ∀ x ∈ B, ∀ y ∈ B, x < m → y < m → x = y) : Glued n m' (Bs ++ [B]) (Ks ++ [L])
theorem card_block {B : List Nat} (nd : B.Nodup) (low : ∀ x ∈ B, x < n) : card n (inL B) = B.length := card_inL nd low
theorem block_tight {B : List Nat} {L : List Bar} (nd : B.Nodup) (b2 : 2 ≤ B.length) (len : L.length + 3 = 2 * B.length) (within : ∀ b ∈ L, b.1 ∈ B ∧ b.2 ∈ B ∧ b.1 ≠ b.2) (low : ∀ x ∈ B, x < n) : Tight n L (inL B) := by
  have c := card_block nd low
  have i : ins L (inL B) = L.length := by
    unfold ins
    rw [List.countP_eq_length]
    intro b hb
    obtain ⟨h1, h2, _⟩ := within b hb
    show (decide (b.1 ∈ B) && decide (b.2 ∈ B)) = true
    rw [decide_eq_true h1, decide_eq_true h2]
    rfl
  exact ⟨by omega, by omega⟩
theorem glued_low {m : Nat} {Bs : List (List Nat)} {Ks : List (List Bar)} (h : Glued n m Bs Ks) : m ≤ n ∧ Bs.length = Ks.length ∧ (∀ B ∈ Bs, ∀ x ∈ B, x < m) ∧ (∀ x, x < m → ∃ B ∈ Bs, x ∈ B) ∧ (∀ L ∈ Ks, ∀ b ∈ L, b.1 < m ∧ b.2 < m ∧ b.1 ≠ b.2) := by
  induction h with
  | nil => exact ⟨Nat.zero_le _, rfl, (fun _ h => nomatch h), (fun _ h => absurd h (Nat.not_lt_zero _)), fun _ h => nomatch h⟩
  | snoc h m' B L nd b2 len sl within low up le cov one ih =>
    obtain ⟨_, i2, i3, i4, i5⟩ := ih
    refine ⟨le, by simp [i2], fun C hC x hx => ?_, fun x hx => ?_, fun C hC b hb => ?_⟩
    · rcases List.mem_append.mp hC with hC | hC
      · have := i3 C hC x hx; omega
      · rw [List.mem_singleton.mp hC] at hx; exact low x hx
    · rcases cov x hx with h | h
      · obtain ⟨C, c1, c2⟩ := i4 x h
        exact ⟨C, List.mem_append_left _ c1, c2⟩
      · exact ⟨B, List.mem_append_right _ (List.mem_singleton.mpr rfl), h⟩
    · rcases List.mem_append.mp hC with hC | hC
      · obtain ⟨a1, a2, a3⟩ := i5 C hC b hb
        exact ⟨by omega, by omega, a3⟩
      · rw [List.mem_singleton.mp hC] at hb
        obtain ⟨a1, a2, a3⟩ := within b hb
        exact ⟨low _ a1, low _ a2, a3⟩
/-- one block more -/
theorem glue {m : Nat} {K L : List Bar} {B : List Nat} (okK : ∀ b ∈ K, b.1 < m ∧ b.2 < m ∧ b.1 ≠ b.2) (hm : m ≤ n) (slK : Slim n K) (slL : Slim n L) (within : ∀ b ∈ L, b.1 ∈ B ∧ b.2 ∈ B ∧ b.1 ≠ b.2) (low : ∀ x ∈ B, x < n)
    (one : ∀ x ∈ B, ∀ y ∈ B, x < m → y < m → x = y) : Slim n (K ++ L) ∧ ∀ S, Tight n (K ++ L) S → (Tight n K S) ∨ (∀ x, x < n → S x = true → x ∈ B) := by
  have okn : Ok n K := fun b hb => by obtain ⟨h1, h2, h3⟩ := okK b hb; exact ⟨by omega, by omega, h3⟩
  have okl : Ok n L := fun b hb => by obtain ⟨h1, h2, h3⟩ := within b hb; exact ⟨low _ h1, low _ h2, h3⟩
  have main : ∀ S : JS, 2 ≤ card n S → ins (K ++ L) S + 3 ≤ 2 * card n S ∧ (ins (K ++ L) S + 3 = 2 * card n S → Tight n K S ∨ ∀ x, x < n → S x = true → x ∈ B) := fun S hS => by
    have e1 : ins K S = ins K (cap S fun x => decide (x < m)) := countP_same fun b hb => by
      obtain ⟨h1, h2, _⟩ := okK b hb
      show (S b.1 && S b.2) = ((S b.1 && decide (b.1 < m)) && (S b.2 && decide (b.2 < m)))
      rw [decide_eq_true h1, decide_eq_true h2, Bool.and_true, Bool.and_true]
    have e2 : ins L S = ins L (cap S (inL B)) := countP_same fun b hb => by
      obtain ⟨h1, h2, _⟩ := within b hb
      show (S b.1 && S b.2) = ((S b.1 && decide (b.1 ∈ B)) && (S b.2 && decide (b.2 ∈ B)))
      rw [decide_eq_true h1, decide_eq_true h2, Bool.and_true, Bool.and_true]
    have cc := card_cup_cap n (cap S fun x => decide (x < m)) (cap S (inL B))
    have c1 : card n (cup (cap S fun x => decide (x < m)) (cap S (inL B))) ≤ card n S := card_mono fun x _ h => by
      have h : ((S x && decide (x < m)) || (S x && decide (x ∈ B))) = true := h
      cases q : S x with
      | true => rfl
      | false => rw [q] at h; cases h
    have c2 : card n (cap (cap S fun x => decide (x < m)) (cap S (inL B))) ≤ 1 := by
      by_cases q : 2 ≤ card n (cap (cap S fun x => decide (x < m)) (cap S (inL B)))
      · exfalso
        obtain ⟨a, b, lab, hb, ha2, hb2⟩ := exists_two q
        have ha2 : ((S a && decide (a < m)) && (S a && decide (a ∈ B))) = true := ha2
        have hb2 : ((S b && decide (b < m)) && (S b && decide (b ∈ B))) = true := hb2
        simp only [Bool.and_eq_true, decide_eq_true_eq] at ha2 hb2
        have := one a ha2.2.2 b hb2.2.2 ha2.1.2 hb2.1.2
        omega
      · omega
    have s1 : card n (cap S fun x => decide (x < m)) ≤ card n S := card_mono fun x _ h => by
      have h : (S x && decide (x < m)) = true := h
      rw [Bool.and_eq_true] at h; exact h.1
    have s2 : card n (cap S (inL B)) ≤ card n S := card_mono fun x _ h => by
      have h : (S x && decide (x ∈ B)) = true := h
      rw [Bool.and_eq_true] at h; exact h.1
    rw [ins_app, e1, e2]
    have bK : 2 ≤ card n (cap S fun x => decide (x < m)) → ins K (cap S fun x => decide (x < m)) + 3 ≤ 2 * card n (cap S fun x => decide (x < m)) := slK _
    have bL : 2 ≤ card n (cap S (inL B)) → ins L (cap S (inL B)) + 3 ≤ 2 * card n (cap S (inL B)) := slL _
    have zK : card n (cap S fun x => decide (x < m)) ≤ 1 → ins K (cap S fun x => decide (x < m)) = 0 := ins_small okn
    have zL : card n (cap S (inL B)) ≤ 1 → ins L (cap S (inL B)) = 0 := ins_small okl
    generalize hkS : card n (cap S fun x => decide (x < m)) = kS at *
    generalize hlS : card n (cap S (inL B)) = lS at *
    generalize hiK : ins K (cap S fun x => decide (x < m)) = iK at *
    generalize hiL : ins L (cap S (inL B)) = iL at *
    refine ⟨?_, fun e => ?_⟩
    · by_cases q1 : 2 ≤ kS <;> by_cases q2 : 2 ≤ lS
      · have := bK q1; have := bL q2; omega
      · have := bK q1; have := zL (by omega); omega
      · have := bL q2; have := zK (by omega); omega
      · have := zK (by omega); have := zL (by omega); omega
    · by_cases q1 : 2 ≤ kS
      · by_cases q2 : 2 ≤ lS
        · have := bK q1; have := bL q2; omega
        · left
          have := zL (by omega)
          have := bK q1
          exact ⟨hS, by rw [e1]; omega⟩
      · right
        intro x hx sx
        have := zK (by omega)
        have h2 : 2 ≤ lS := by
          by_cases q2 : 2 ≤ lS
          · exact q2
          · have := zL (by omega); omega
        have := bL h2
        -- all of S is in B
        by_cases q : x ∈ B
        · exact q
        · exfalso
          have lt : card n (cap S (inL B)) < card n S := by
            have w := card_wo (n := n) (j := x) (S := S) hx sx
            have le2 : card n (cap S (inL B)) ≤ card n (wo S x) := card_mono fun y _ h => by
              have h : (S y && decide (y ∈ B)) = true := h
              rw [Bool.and_eq_true, decide_eq_true_eq] at h
              show (S y && !(y == x)) = true
              have ne : (y == x) = false := by
                cases z : y == x with
                | false => rfl
                | true => rw [beq_iff_eq] at z; subst z; exact (q h.2).elim
              rw [h.1, ne]
              rfl
            omega
          omega
  exact ⟨fun S hS => (main S hS).1, fun S ⟨t1, t2⟩ => (main S t1).2 t2⟩
theorem glued_flat {m : Nat} {Bs : List (List Nat)} {Ks : List (List Bar)} (h : Glued n m Bs Ks) : Ok n Ks.flatten ∧ Slim n Ks.flatten ∧ ∀ S, Tight n Ks.flatten S → ∃ B ∈ Bs, ∀ x, x < n → S x = true → x ∈ B := by
  induction h with
  | nil => exact ⟨fun _ h => (nomatch h), Pl.slim_nil n, fun S ⟨t1, t2⟩ => by have z : ins [] S = 0 := rfl; simp only [List.flatten_nil] at t2; omega⟩
  | snoc h m' B L nd b2 len sl within low up le cov one ih =>
    rename_i m0 Bs Ks
    obtain ⟨i1, i2, i3⟩ := ih
    obtain ⟨g1, _, g3, _, g5⟩ := glued_low h
    have e : ∀ Ks : List (List Bar), (Ks ++ [L]).flatten = Ks.flatten ++ L := fun Ks => by simp
    rw [e]
    have okK : ∀ b ∈ Ks.flatten, b.1 < m0 ∧ b.2 < m0 ∧ b.1 ≠ b.2 := fun b hb => by
      obtain ⟨C, c1, c2⟩ := List.mem_flatten.mp hb
      exact g5 C c1 b c2
    obtain ⟨k1, k2⟩ := glue okK g1 i2 sl within (fun x hx => by have := low x hx; omega) one
    refine ⟨i1.app fun b hb => ?_, k1, fun S tS => ?_⟩
    · obtain ⟨a1, a2, a3⟩ := within b hb
      have := low _ a1
      have := low _ a2
      exact ⟨by omega, by omega, a3⟩
    · rcases k2 S tS with q | q
      · obtain ⟨C, c1, c2⟩ := i3 S q
        exact ⟨C, List.mem_append_left _ c1, c2⟩
      · exact ⟨B, List.mem_append_right _ (List.mem_singleton.mpr rfl), q⟩
/-- each block with its bars -/
theorem glued_at {m : Nat} {Bs : List (List Nat)} {Ks : List (List Bar)} (h : Glued n m Bs Ks) : ∀ (i : Nat) (B : List Nat) (L : List Bar), Bs[i]? = some B → Ks[i]? = some L → B.Nodup ∧ 2 ≤ B.length ∧ (∀ x ∈ B, x < n) ∧ (∀ b ∈ L, b.1 ∈ B ∧ b.2 ∈ B ∧ b.1 ≠ b.2) ∧ L.length + 3 = 2 * B.length ∧ Slim n L := by
  induction h with
  | nil => intro i B L h1; simp at h1
  | snoc h m' B L nd b2 len sl within low up le cov one ih =>
    rename_i m0 Bs Ks
    intro i C M h1 h2
    obtain ⟨_, g2, _⟩ := glued_low h
    by_cases hi : i < Bs.length
    · rw [List.getElem?_append_left hi] at h1
      rw [List.getElem?_append_left (by omega)] at h2
      exact ih i C M h1 h2
    · have hi2 : i = Bs.length := by
        have z := (List.getElem?_eq_some_iff.mp h1).1
        simp at z
        omega
      subst hi2
      rw [List.getElem?_append_right (Nat.le_refl _), Nat.sub_self] at h1
      rw [List.getElem?_append_right (by omega), g2, Nat.sub_self] at h2
      simp at h1 h2
      subst h1
      subst h2
      exact ⟨nd, b2, fun x hx => by have := low x hx; omega, within, len, sl⟩
/-- two blocks have one joint together at most -/
theorem glued_two {m : Nat} {Bs : List (List Nat)} {Ks : List (List Bar)} (h : Glued n m Bs Ks) : ∀ (i j : Nat) (B C : List Nat), Bs[i]? = some B → Bs[j]? = some C → i ≠ j → ∀ x ∈ B, ∀ y ∈ B, x ∈ C → y ∈ C → x = y := by
  induction h with
  | nil => intro i j B C h1; simp at h1
  | snoc h m' B0 L nd b2 len sl within low up le cov one ih =>
    rename_i m0 Bs Ks
    intro i j B C h1 h2 ne x hx y hy hx2 hy2
    obtain ⟨_, _, g3, _, _⟩ := glued_low h
    have dec : ∀ {k : Nat} {D : List Nat}, (Bs ++ [B0])[k]? = some D → (k < Bs.length ∧ Bs[k]? = some D) ∨ (k = Bs.length ∧ D = B0) := fun {k D} hk => by
      by_cases q : k < Bs.length
      · rw [List.getElem?_append_left q] at hk
        exact .inl ⟨q, hk⟩
      · have z := (List.getElem?_eq_some_iff.mp hk).1
        simp at z
        have : k = Bs.length := by omega
        subst this
        simp at hk
        exact .inr ⟨rfl, hk.symm⟩
    rcases dec h1 with ⟨q1, k1⟩ | ⟨q1, rfl⟩
    · rcases dec h2 with ⟨q2, k2⟩ | ⟨q2, rfl⟩
      · exact ih i j B C k1 k2 ne x hx y hy hx2 hy2
      · have hm := List.mem_of_getElem? k1
        exact one x hx2 y hy2 (g3 B hm x hx) (g3 B hm y hy)
    · rcases dec h2 with ⟨q2, k2⟩ | ⟨q2, rfl⟩
      · have hm := List.mem_of_getElem? k2
        exact one x hx y hy (g3 C hm x hx2) (g3 C hm y hy2)
      · exact absurd (q1.trans q2.symm) ne
end
end Fr

/-! Glued blocks with some bars more within blocks: what is held, the worth, the parts, the bars that are too many. -/
namespace Fr
open Pl (manyL partsL partL manyL_mem sortN)
/-- blocks, their lean bars, all their bars -/
structure Grown (n : Nat) (Bs : List (List Nat)) (Ks Ns : List (List Bar)) : Prop where
  gl : Glued n n Bs Ks
  len : Ns.length = Ks.length
  more : ∀ (i : Nat) (B : List Nat) (L N : List Bar), Bs[i]? = some B → Ks[i]? = some L → Ns[i]? = some N → ∃ E, N = L ++ E ∧ ∀ b ∈ E, b.1 ∈ B ∧ b.2 ∈ B ∧ b.1 ≠ b.2
section
variable {n : Nat} {Bs : List (List Nat)} {Ks Ns : List (List Bar)}
theorem get3 (gr : Grown n Bs Ks Ns) {i : Nat} (hi : i < Ns.length) : ∃ B L N E, Bs[i]? = some B ∧ Ks[i]? = some L ∧ Ns[i]? = some N ∧ N = L ++ E ∧ ∀ b ∈ E, b.1 ∈ B ∧ b.2 ∈ B ∧ b.1 ≠ b.2 := by
  obtain ⟨_, g2, _⟩ := glued_low gr.gl
  have h1 : i < Ks.length := by have := gr.len; omega
  have h2 : i < Bs.length := by omega
  obtain ⟨E, e1, e2⟩ := gr.more i _ _ _ (List.getElem?_eq_getElem h2) (List.getElem?_eq_getElem h1) (List.getElem?_eq_getElem hi)
  exact ⟨_, _, _, E, List.getElem?_eq_getElem h2, List.getElem?_eq_getElem h1, List.getElem?_eq_getElem hi, e1, e2⟩
theorem flat_mem {α : Type} {xs : List (List α)} {x : α} : x ∈ xs.flatten ↔ ∃ (i : Nat) (l : List α), xs[i]? = some l ∧ x ∈ l := by
  rw [List.mem_flatten]
  constructor
  · rintro ⟨l, h1, h2⟩
    obtain ⟨i, hi⟩ := List.getElem?_of_mem h1
    exact ⟨i, l, hi, h2⟩
  · rintro ⟨i, l, h1, h2⟩
    exact ⟨l, List.mem_of_getElem? h1, h2⟩
/-- a bar of all lies within its block -/
theorem grown_in (gr : Grown n Bs Ks Ns) {i : Nat} {N : List Bar} {b : Bar} (hN : Ns[i]? = some N) (hb : b ∈ N) : ∃ B, Bs[i]? = some B ∧ b.1 ∈ B ∧ b.2 ∈ B ∧ b.1 ≠ b.2 := by
  obtain ⟨B, L, N', E, h1, h2, h3, e, hE⟩ := get3 gr (List.getElem?_eq_some_iff.mp hN).1
  rw [hN] at h3
  cases h3
  obtain ⟨_, _, _, w, _, _⟩ := glued_at gr.gl i B L h1 h2
  rw [e] at hb
  exact ⟨B, h1, (List.mem_append.mp hb).elim (w b) (hE b)⟩
theorem grown_ok (gr : Grown n Bs Ks Ns) : Ok n Ns.flatten := fun b hb => by
  obtain ⟨i, N, h1, h2⟩ := flat_mem.mp hb
  obtain ⟨B, hB, a1, a2, a3⟩ := grown_in gr h1 h2
  obtain ⟨_, _, g3, _⟩ := glued_low gr.gl
  exact ⟨g3 B (List.mem_of_getElem? hB) _ a1, g3 B (List.mem_of_getElem? hB) _ a2, a3⟩
theorem sub_flat {α : Type} {xs : List (List α)} {i : Nat} {l : List α} (h : xs[i]? = some l) : l.Sublist xs.flatten := by
  induction xs generalizing i with
  | nil => simp at h
  | cons y ys ih =>
    rw [List.flatten_cons]
    cases i with
    | zero =>
      simp at h
      rw [h]
      exact List.sublist_append_left _ _
    | succ i => exact (ih (by simpa using h)).trans (List.sublist_append_right _ _)
theorem block_spn (gr : Grown n Bs Ks Ns) {i : Nat} {B : List Nat} {L J : List Bar} (hB : Bs[i]? = some B) (hL : Ks[i]? = some L) (sub : L.Sublist J) (slJ : Slim n J) {a b : Nat} (ha : a ∈ B) (hb : b ∈ B) : Spn n J a b := by
  obtain ⟨nd, b2, low, w, len, _⟩ := glued_at gr.gl i B L hB hL
  have t := block_tight nd b2 len w low
  exact ⟨inL B, t.mono (ins_sub sub _) slJ, decide_eq_true ha, decide_eq_true hb⟩
theorem grown_spn (gr : Grown n Bs Ks Ns) {a b : Nat} (ha : a < n) (hb : b < n) : Spn n Ks.flatten a b ↔ ∃ B ∈ Bs, a ∈ B ∧ b ∈ B := by
  obtain ⟨_, sl, ti⟩ := glued_flat gr.gl
  constructor
  · rintro ⟨S, tS, sa, sb⟩
    obtain ⟨B, hB, h⟩ := ti S tS
    exact ⟨B, hB, h a ha sa, h b hb sb⟩
  · rintro ⟨B, hB, h1, h2⟩
    obtain ⟨i, hi⟩ := List.getElem?_of_mem hB
    obtain ⟨_, g2, _⟩ := glued_low gr.gl
    have hk : i < Ks.length := by have := (List.getElem?_eq_some_iff.mp hi).1; omega
    exact block_spn gr hi (List.getElem?_eq_getElem hk) (sub_flat (List.getElem?_eq_getElem hk)) sl h1 h2
theorem lean_in (gr : Grown n Bs Ks Ns) : ∀ x ∈ Ks.flatten, x ∈ Ns.flatten := fun x hx => by
  obtain ⟨i, L, h1, h2⟩ := flat_mem.mp hx
  have hi : i < Ns.length := by have := (List.getElem?_eq_some_iff.mp h1).1; have := gr.len; omega
  obtain ⟨B, L', N, E, k1, k2, k3, e, _⟩ := get3 gr hi
  rw [h1] at k2
  cases k2
  exact flat_mem.mpr ⟨i, N, k3, by rw [e]; exact List.mem_append_left _ h2⟩
theorem held_in (gr : Grown n Bs Ks Ns) : ∀ x ∈ Ns.flatten, Hld n Ks.flatten x.1 x.2 := fun x hx => by
  obtain ⟨_, sl, _⟩ := glued_flat gr.gl
  unfold Hld
  rw [basis_all sl]
  obtain ⟨i, N, h1, h2⟩ := flat_mem.mp hx
  obtain ⟨B, hB, a1, a2, _⟩ := grown_in gr h1 h2
  have o := grown_ok gr x hx
  exact (grown_spn gr o.1 o.2.1).mpr ⟨B, List.mem_of_getElem? hB, a1, a2⟩
theorem grown_hld (gr : Grown n Bs Ks Ns) {a b : Nat} (ha : a < n) (hb : b < n) (ne : a ≠ b) : Hld n Ns.flatten a b ↔ ∃ B ∈ Bs, a ∈ B ∧ b ∈ B := by
  obtain ⟨okK, sl, _⟩ := glued_flat gr.gl
  have okN := grown_ok gr
  rw [← grown_spn gr ha hb]
  have e : Hld n Ks.flatten a b ↔ Spn n Ks.flatten a b := by unfold Hld; rw [basis_all sl]
  rw [← e]
  exact ⟨hld_le okN okK (held_in gr) ha hb ne, hld_le okK okN (fun x hx => hld_bar okN (lean_in gr x hx)) ha hb ne⟩
theorem grown_rk (gr : Grown n Bs Ks Ns) : rk n Ns.flatten = Ks.flatten.length := by
  obtain ⟨okK, sl, _⟩ := glued_flat gr.gl
  have okN := grown_ok gr
  have e : rk n Ks.flatten = Ks.flatten.length := rk_slim.mpr sl
  rw [← e]
  exact Nat.le_antisymm (rk_sub okN okK (held_in gr)) (rk_sub okK okN fun x hx => hld_bar okN (lean_in gr x hx))
theorem grown_sum {m : Nat} (h : Glued n m Bs Ks) : (Ks.flatten.length : Int) = (Bs.map fun B => 2 * (B.length : Int) - 3).sum := by
  induction h with
  | nil => rfl
  | snoc h m' B L nd b2 len sl within low up le cov one ih =>
    rw [List.map_append, List.sum_append, ← ih]
    simp only [List.flatten_append, List.length_append, List.map_cons, List.map_nil, List.sum_cons, List.sum_nil, List.flatten_cons, List.flatten_nil, List.length_nil]
    omega
/-- the parts are the blocks -/
theorem grown_part (gr : Grown n Bs Ks Ns) {B : List Nat} (hB : B ∈ Bs) {a b : Nat} (ha : a ∈ B) (hb : b ∈ B) (ne : a ≠ b) : partL n (pickB n [] Ns.flatten) (a, b) = sortN B := by
  have okN := grown_ok gr
  have okk := basis_ok okN
  have slk := basis_slim n Ns.flatten
  obtain ⟨_, g2, g3, _⟩ := glued_low gr.gl
  have hld := fun {x y : Nat} (hx : x < n) (hy : y < n) (nxy : x ≠ y) => grown_hld gr hx hy nxy
  unfold Hld at hld
  have han := g3 B hB a ha
  have hbn := g3 B hB b hb
  have hab := (hld han hbn ne).mpr ⟨B, hB, ha, hb⟩
  obtain ⟨tp, _⟩ := part_all okk slk han hbn ne hab
  obtain ⟨i, hi⟩ := List.getElem?_of_mem hB
  have hk : i < Ks.length := by have := (List.getElem?_eq_some_iff.mp hi).1; omega
  obtain ⟨nd, _⟩ := glued_at gr.gl i B _ hi (List.getElem?_eq_getElem hk)
  -- the part, tight for the basis, is tight for the lean bars: within one block
  obtain ⟨okK, slK, ti⟩ := glued_flat gr.gl
  have tK : ∃ C ∈ Bs, ∀ x, x < n → part n (pickB n [] Ns.flatten) a b x = true → x ∈ C := by
    have hsp : ∀ {x y : Nat}, x < n → y < n → x ≠ y → (Spn n (pickB n [] Ns.flatten) x y ↔ Spn n Ks.flatten x y) := fun {x y} hx hy nxy => by
      rw [grown_spn gr hx hy]
      exact hld hx hy nxy
    obtain ⟨t2, _⟩ := part_all okK slK han hbn ne ((hsp han hbn ne).mp hab)
    obtain ⟨C, hC, h⟩ := ti _ t2
    refine ⟨C, hC, fun x hx px => h x hx ?_⟩
    rw [← part_congr (fun x y hx hy nxy => hsp hx hy nxy) han hbn hx]
    exact px
  obtain ⟨C, hC, hin⟩ := tK
  have eC : C = B := by
    obtain ⟨j, hj⟩ := List.getElem?_of_mem hC
    by_cases e : i = j
    · subst e
      rw [hi] at hj
      exact (Option.some.inj hj).symm
    · exact absurd (glued_two gr.gl i j B C hi hj e a ha b hb (hin a han part_left) (hin b hbn part_right)) ne
  subst eC
  refine (Pl.sortN_eq nd (Pl.partL_rise _ _ _) fun x => ?_).symm
  rw [Pl.partL_mem]
  constructor
  · intro hx
    have hxn := g3 C hC x hx
    refine ⟨hxn, part_iff.mpr ?_⟩
    by_cases e1 : x = a
    · exact .inl e1
    · by_cases e2 : x = b
      · exact .inr (.inl e2)
      · exact .inr (.inr ⟨(hld han hxn (Ne.symm e1)).mpr ⟨C, hC, ha, hx⟩, (hld hbn hxn (Ne.symm e2)).mpr ⟨C, hC, hb, hx⟩⟩)
  · rintro ⟨hxn, px⟩
    exact hin x hxn px
theorem block_pair (gr : Grown n Bs Ks Ns) {B : List Nat} (hB : B ∈ Bs) : ∃ a b, a ∈ B ∧ b ∈ B ∧ a < b ∧ b < n ∧ B.Nodup ∧ ∀ x ∈ B, x < n := by
  obtain ⟨i, hi⟩ := List.getElem?_of_mem hB
  obtain ⟨_, g2, _⟩ := glued_low gr.gl
  have hk : i < Ks.length := by have := (List.getElem?_eq_some_iff.mp hi).1; omega
  obtain ⟨nd, b2, low, _⟩ := glued_at gr.gl i B _ hi (List.getElem?_eq_getElem hk)
  obtain ⟨a, b, lab, hbn, ha, hb⟩ := exists_two (n := n) (S := inL B) (by rw [card_block nd low]; exact b2)
  exact ⟨a, b, of_decide_eq_true ha, of_decide_eq_true hb, lab, hbn, nd, low⟩
theorem sortN_inj {n : Nat} {B C : List Nat} (h : sortN B = sortN C) : ∀ x, x ∈ B ↔ x ∈ C := fun x => by
  rw [← (Pl.sortN_perm B).mem_iff, h, (Pl.sortN_perm C).mem_iff]
theorem grown_parts (gr : Grown n Bs Ks Ns) : (partsL n Ns.flatten).Perm (Bs.map sortN) := by
  have okN := grown_ok gr
  have nd2 : (Bs.map sortN).Nodup := by
    refine List.pairwise_iff_getElem.mpr fun i j hi hj hij e => ?_
    rw [List.length_map] at hi hj
    rw [List.getElem_map, List.getElem_map] at e
    obtain ⟨a, b, ha, hb, lab, _⟩ := block_pair gr (List.getElem_mem hi)
    have same := sortN_inj (n := n) e
    have := glued_two gr.gl i j _ _ (List.getElem?_eq_getElem hi) (List.getElem?_eq_getElem hj) (by omega) a ha b hb ((same a).mp ha) ((same b).mp hb)
    omega
  refine (List.perm_ext_iff_of_nodup (Pl.parts_nodup n _) nd2).mpr fun l => ?_
  have pm : l ∈ partsL n Ns.flatten ↔ ∃ a b, a < b ∧ b < n ∧ Spn n (pickB n [] Ns.flatten) a b ∧ l = partL n (pickB n [] Ns.flatten) (a, b) := Pl.partsL_mem0 okN
  rw [pm, List.mem_map]
  constructor
  · rintro ⟨a, b, h1, h2, h3, rfl⟩
    obtain ⟨B, hB, ha, hb⟩ := (grown_hld gr (show a < n by omega) h2 (by omega)).mp h3
    exact ⟨B, hB, (grown_part gr hB ha hb (by omega)).symm⟩
  · rintro ⟨B, hB, rfl⟩
    obtain ⟨a, b, ha, hb, lab, hbn, _⟩ := block_pair gr hB
    exact ⟨a, b, lab, hbn, (grown_hld gr (show a < n by omega) hbn (by omega)).mpr ⟨B, hB, ha, hb⟩, (grown_part gr hB ha hb (by omega)).symm⟩
theorem grown_slim (gr : Grown n Bs Ks Ns) : Slim n Ns.flatten ↔ Ns.flatten.length = Ks.flatten.length := by
  rw [← rk_slim, grown_rk gr]
  exact eq_comm
theorem flat_split {α : Type} : ∀ {xs : List (List α)} {j : Nat}, j < xs.flatten.length → ∃ (i : Nat) (A C : List α) (b : α), xs[i]? = some (A ++ b :: C) ∧ xs.flatten[j]? = some b ∧ xs.flatten.eraseIdx j = (xs.set i (A ++ C)).flatten
  | [], j, h => absurd h (Nat.not_lt_zero _)
  | y :: ys, j, h => by
    rw [List.flatten_cons] at h ⊢
    by_cases q : j < y.length
    · refine ⟨0, y.take j, y.drop (j + 1), y[j], ?_, ?_, ?_⟩
      · show some y = _
        rw [← List.drop_eq_getElem_cons q, List.take_append_drop]
      · rw [List.getElem?_append_left q, List.getElem?_eq_getElem q]
      · rw [List.eraseIdx_append_of_lt_length q, List.eraseIdx_eq_take_drop_succ]
        rfl
    · rw [List.length_append] at h
      obtain ⟨i, A, C, b, e1, e2, e3⟩ := flat_split (xs := ys) (j := j - y.length) (by omega)
      refine ⟨i + 1, A, C, b, e1, ?_, ?_⟩
      · rw [List.getElem?_append_right (by omega)]
        exact e2
      · rw [List.eraseIdx_append_of_length_le (by omega), e3]
        rfl
/-- a bar that is too many is of a block with bars more -/
theorem grown_many (gr : Grown n Bs Ks Ns) {j : Nat} (h : j ∈ manyL n Ns.flatten) : ∃ (i : Nat) (B : List Nat), Bs[i]? = some B ∧ (barAt Ns.flatten j).1 ∈ B ∧ (barAt Ns.flatten j).2 ∈ B ∧ Ns[i]? ≠ Ks[i]? := by
  obtain ⟨hj, hh⟩ := manyL_mem.mp h
  have okN := grown_ok gr
  obtain ⟨okK, slK, _⟩ := glued_flat gr.gl
  obtain ⟨i, A, C, b, e1, e2, e3⟩ := flat_split hj
  have eb : barAt Ns.flatten j = b := by
    have z := barAt_get hj
    rw [z]
    exact (List.getElem?_eq_some_iff.mp e2).2
  obtain ⟨B, hB, a1, a2, _⟩ := grown_in gr e1 (List.mem_append_right _ List.mem_cons_self : b ∈ A ++ b :: C)
  refine ⟨i, B, hB, by rw [eb]; exact a1, by rw [eb]; exact a2, fun eq => ?_⟩
  have hKi : Ks[i]? = some (A ++ b :: C) := by rw [← eq]; exact e1
  have hik : i < Ks.length := (List.getElem?_eq_some_iff.mp hKi).1
  -- the lean ones without that bar hold all that are left
  have lenK : ((Ks.set i (A ++ C)).flatten).length + 1 = Ks.flatten.length := by
    have z : ∀ (xs : List (List Bar)) (i : Nat), xs[i]? = some (A ++ b :: C) → ((xs.set i (A ++ C)).flatten).length + 1 = xs.flatten.length := fun xs => by
      induction xs with
      | nil => intro i h; simp at h
      | cons y ys ih =>
        intro i h
        cases i with
        | zero =>
          simp at h
          subst h
          simp
          omega
        | succ i =>
          have z := ih i (by simpa using h)
          simp only [List.set_cons_succ, List.flatten_cons, List.length_append] at z ⊢
          omega
    exact z Ks i hKi
  have subK : (Ks.set i (A ++ C)).flatten.Sublist Ks.flatten := by
    have z : ∀ (xs : List (List Bar)) (i : Nat), xs[i]? = some (A ++ b :: C) → (xs.set i (A ++ C)).flatten.Sublist xs.flatten := fun xs => by
      induction xs with
      | nil => intro i h; simp at h
      | cons y ys ih =>
        intro i h
        cases i with
        | zero =>
          simp at h
          subst h
          simp only [List.set_cons_zero, List.flatten_cons]
          exact (List.Sublist.append (List.Sublist.refl _) (List.sublist_cons_self _ _)).append (List.Sublist.refl _)
        | succ i =>
          simp only [List.set_cons_succ, List.flatten_cons]
          exact (List.Sublist.refl _).append (ih i (by simpa using h))
    exact z Ks i hKi
  have slW := slK.sub subK
  have okW := okK.sub subK
  have allW : ∀ x ∈ Ns.flatten.eraseIdx j, Hld n (Ks.set i (A ++ C)).flatten x.1 x.2 := fun x hx => by
    rw [e3] at hx
    obtain ⟨i', N, h1, h2⟩ := flat_mem.mp hx
    by_cases ei : i = i'
    · subst ei
      have hi2 : i < Ns.length := (List.getElem?_eq_some_iff.mp e1).1
      rw [List.getElem?_set_self hi2] at h1
      cases h1
      exact hld_bar okW (flat_mem.mpr ⟨i, A ++ C, List.getElem?_set_self hik, h2⟩)
    · rw [List.getElem?_set_ne ei] at h1
      have hi' : i' < Ns.length := (List.getElem?_eq_some_iff.mp h1).1
      obtain ⟨B', L', N', E', k1, k2, k3, _, _⟩ := get3 gr hi'
      obtain ⟨B2, hB2, c1, c2, _⟩ := grown_in gr h1 h2
      rw [k1] at hB2
      cases hB2
      unfold Hld
      rw [basis_all slW]
      exact block_spn gr k1 k2 (sub_flat (i := i') (by rw [List.getElem?_set_ne ei]; exact k2)) slW c1 c2
  have r1 := rk_sub (okN.sub (List.eraseIdx_sublist _ _)) okW allW
  have r2 : rk n (Ks.set i (A ++ C)).flatten ≤ ((Ks.set i (A ++ C)).flatten).length := rk_le n _
  have r3 := (rk_less okN hj).1
  rw [← barAt_get hj] at r3
  have r4 := (r3 hh).1
  have r5 := grown_rk gr
  omega
end
end Fr

/-! Other names and another order, as one; blocks joint by joint. Trees put into lists. -/
namespace Pl
open PySem PySem.Spec PyProof.Rows L2
open Evl (Ex)
theorem named_other {n : Nat} (nb : List Fr.Bar) (o c : Int) : ∃ g t, Fr.Turn n (fun x => (orderN o n).getD x 0) g ∧ ((List.range nb.length).map (rotI c nb.length)).Perm (List.range nb.length) ∧
    namedN nb (orderN o n) c = otherL (fun x => (orderN o n).getD x 0) t nb ((List.range nb.length).map (rotI c nb.length)) := by
  obtain ⟨g, tr⟩ := Fr.turn_of (n := n) (f := fun x => (orderN o n).getD x 0) (fun x y hx hy e => orderN_inj hx hy e) (fun x hx => orderN_low hx)
  have pm := range_perm (n := nb.length) (f := rotI c nb.length) (fun x y hx hy e => rotI_inj hx hy e) fun x hx => rotI_lt hx
  refine ⟨g, fun i => decide (c / ((((List.range nb.length).map (rotI c nb.length)).idxOf i : Nat) + 2 : Int) % 2 = 1), tr, pm, ?_⟩
  unfold namedN otherL
  rw [List.map_map]
  refine List.map_congr_left fun k hk => ?_
  have hk := List.mem_range.mp hk
  have hkl : k < ((List.range nb.length).map (rotI c nb.length)).length := by simp [hk]
  have ek : ((List.range nb.length).map (rotI c nb.length))[k] = rotI c nb.length k := by simp
  obtain ⟨h1, h2⟩ := idx_get ((List.range nb.length).map (rotI c nb.length)) (i := rotI c nb.length k) (List.mem_map.mpr ⟨k, List.mem_range.mpr hk, rfl⟩)
  have nd : ((List.range nb.length).map (rotI c nb.length)).Nodup := pm.nodup_iff.mpr List.nodup_range
  have ei : ((List.range nb.length).map (rotI c nb.length)).idxOf (rotI c nb.length k) = k := by
    rcases Nat.lt_trichotomy (((List.range nb.length).map (rotI c nb.length)).idxOf (rotI c nb.length k)) k with l | l | l
    · exact absurd (h2.trans ek.symm) (List.pairwise_iff_getElem.mp nd _ _ h1 hkl l)
    · exact l
    · exact absurd (ek.trans h2.symm) (List.pairwise_iff_getElem.mp nd _ _ hkl h1 l)
  show nameN nb (orderN o n) c k = turnB (decide (c / ((((List.range nb.length).map (rotI c nb.length)).idxOf (rotI c nb.length k) : Nat) + 2 : Int) % 2 = 1)) _
  rw [ei]
  rfl
section
variable {K : PySem.W.Frag} {S0 H0 S H S' H' : Hp} {σ : L2.St} {ρ : Rho} {g g2 gl gr : Gs} {F : FM} {tx te : TE} {ms : List M} {mv : M} {a : Addr} {i : Nat}
theorem TM.freeze {t : TS} {ds : List D} (h : ρ[i]? = some (.o ds)) (k : TM K t (ρ.set i (.k (.lst ds))) g F) : TM K t ρ g F := fun S0 H0 S H σ Dd st ac => by
  obtain ⟨fp, rg, s⟩ := st
  obtain ⟨S', e, s'⟩ := s.freeze h
  exact k S0 H0 S' H σ Dd ⟨fp, ⟨rg.own.mono e fun _ _ => rfl, rg.nd, rg.no⟩, s'⟩ (ac.mono e)
/-- xs.append(new list), xs a root -/
theorem TM.appendT (h : ρ[i]? = some (.k (.adr a))) (hm : (a, .n .lst ms) ∈ g) (hx : EvX K tx ρ g (.t mv) g2) (hg : g2 = gl ++ (a, .n .lst ms) :: gr) (hl : ms.length < 100000)
    (k : ∀ p0, F.nx ρ (gl ++ (a, .n .lst (ms ++ [.d (.adr p0)])) :: (gr ++ [(p0, mv)]))) : TM K (tDrop (tBM K "list" rAppend (tVar i) (tCons tx tNil))) ρ g F := fun S0 H0 S H σ Dd st ac => by
  obtain ⟨v, h1, h2⟩ := st.env.val i _ h
  cases h2
  obtain ⟨p, o, vs, fq, e1, e2, e3, e4⟩ := st.at hm (Loc.nil (m := .n .lst ms)) rfl
  cases e1
  have e3 : o = .lst vs := e3
  subst e3
  refine ⟨_, h1, .inl ⟨rfl, _, Evl.sq_of e2⟩, hx S0 H0 S H σ st _ fun w S2 H2 ex2 z => ?_⟩
  obtain ⟨p0, ew, st2⟩ := z
  subst ew
  have hg2 : g2 ++ [(p0, mv)] = gl ++ (a, .n .lst ms) :: (gr ++ [(p0, mv)]) := by rw [hg]; simp
  obtain ⟨p', o, vs, fq, e1, e2, _, e3, e4, e5, wr⟩ := st2.write hg2 (Loc.nil (m := .n .lst ms)) rfl
  cases e1
  have e3 : o = .lst vs := e3
  subst e3
  refine ⟨_, vs, _, rfl, rfl, e2, Evl.sz_lt (by rw [e4.length]; exact hl), ?_⟩
  have kk := k p0
  refine ac.nx _ _ S2 _ σ kk ex2 (wr _ .lst _ _ _ rfl ((e4.mono (Ex.refl _) fun b hb => upd_ne fun e => e5 (by rw [← e]; exact hb)).append (.cons (.d (.adr p0)) .nil)) ?_)
  rw [List.append_nil, List.append_nil]
  exact List.Sublist.refl _
theorem evF_listRg2 {ta tb : TE} {x y : Nat} (ha : EvD K ta ρ (.int (x : Int))) (hb : EvD K tb ρ (.int (y : Int))) (hn : y ≤ 1000) (hx : x ≤ y) : EvF K (tLstRg (tRg2 ta tb)) ρ ((kI (List.range' x (y - x))).map D.int) := fun S H σ e v Q q =>
  ha S H σ e v _ fun w S1 H1 x1 r1 => hb S1 H1 σ x1.sub (v.mono x1.s) _ fun w2 S2 H2 x2 r2 => by
    cases r1
    cases r2
    refine ⟨_, _, rfl, rfl, RgOk.of_le (by omega) (by omega) (by omega) (by omega), fun p hp => ?_⟩
    have ev : rgV (x : Int) (y : Int) = (kI (List.range' x (y - x))).map V.int := by
      unfold rgV kI
      have e1 : ((y : Int) - (x : Int)).toNat = y - x := by omega
      rw [e1, List.map_map, List.range'_eq_map_range, List.map_map]
      refine List.map_congr_left fun k _ => ?_
      show V.int ((x : Int) + (k : Int)) = V.int ((x + k : Nat) : Int)
      congr 1
    rw [ev]
    exact q p _ S2 _ ((x1.trans x2).trans (Ext.hid x2.sub hp)) (Evl.fresh_back (x1.trans x2).h hp) (sub_none x2.sub hp) upd_same (RdL.ofInts _)
end
/-- a list of bars as a tree -/
def barsT (L : List Fr.Bar) : M := .n .lst ((brs L).map M.d)
theorem see_barsT (L : List Fr.Bar) : (barsT L).see = .lst (brs L) := by
  show D.lst (seeL _) = D.lst _
  rw [seeL_d]
def blocksT (Ls : List (List Fr.Bar)) : M := .n .lst (Ls.map barsT)
theorem see_blocksT (Ls : List (List Fr.Bar)) : (blocksT Ls).see = .lst ((Ls.map brs).map D.lst) := by
  show D.lst (seeL _) = D.lst _
  rw [seeL_map, List.map_map, List.map_map]
  exact congrArg D.lst (List.map_congr_left fun l _ => see_barsT l)
theorem brs_flat (Ls : List (List Fr.Bar)) : (Ls.map brs).flatten = brs Ls.flatten := by
  induction Ls with
  | nil => rfl
  | cons l ls ih => rw [List.map_cons, List.flatten_cons, ih, List.flatten_cons, brs_app]
theorem zip_bars {as : List Addr} {Ls : List (List Fr.Bar)} {a : Addr} {L : List Fr.Bar} (h : as.length = Ls.length) : (as ++ [a]).zip ((Ls ++ [L]).map barsT) = as.zip (Ls.map barsT) ++ [(a, barsT L)] := by
  rw [List.map_append, List.zip_append (by rw [List.length_map]; exact h)]
  rfl
/-- what holds while blocks are drawn -/
structure Drawing (m : Nat) (Bs : List (List Nat)) (Ks : List (List Fr.Bar)) : Prop where
  gl : ∀ N, m ≤ N → Fr.Glued N m Bs Ks
  le : m ≤ 16
  five : ∀ B ∈ Bs, B.length ≤ 5
  cnt : Ks.flatten.length ≤ 7 * Bs.length
  len : Bs.length = Ks.length
theorem drawing_nil : Drawing 0 [] [] := ⟨fun _ _ => .nil, by decide, (fun _ h => nomatch h), by simp, rfl⟩
theorem drawing_step {m m' : Nat} {Bs : List (List Nat)} {Ks : List (List Fr.Bar)} (d : Drawing m Bs Ks) (mx : Nat → Nat) {J : List Nat} (nd : J.Nodup) (l2 : 2 ≤ J.length) (l5 : J.length ≤ 5) (low : ∀ x ∈ J, x < m') (up : m ≤ m') (h16 : m' ≤ 16) (cov : ∀ x, x < m' → x < m ∨ x ∈ J) (one : ∀ x ∈ J, ∀ y ∈ J, x < m → y < m → x = y) :
    Drawing m' (Bs ++ [J]) (Ks ++ [(Fr.tightB mx J.length).map (Fr.fb fun x => J.getD x 0)]) := by
  obtain ⟨tok, tsl, tln⟩ := Fr.tight_ok (mx := mx) l2
  have get : ∀ x, x < J.length → J.getD x 0 = J[x]! := fun x hx => by simp [List.getD, hx]
  have mem : ∀ x, x < J.length → J.getD x 0 ∈ J := fun x hx => Fr.getD_mem hx
  have inj : ∀ x y, x < J.length → y < J.length → J.getD x 0 = J.getD y 0 → x = y := fun x y hx hy e => by
    have e : J[x] = J[y] := by simpa [List.getD, hx, hy] using e
    rcases Nat.lt_trichotomy x y with l | l | l
    · exact absurd e (List.pairwise_iff_getElem.mp nd x y hx hy l)
    · exact l
    · exact absurd e.symm (List.pairwise_iff_getElem.mp nd y x hy hx l)
  refine ⟨fun N hN => (d.gl N (by omega)).snoc m' J _ nd l2 (by rw [List.length_map]; exact tln) (Fr.emb_slim inj (fun x hx => by have := low _ (mem x hx); omega) tok tsl) (fun b hb => ?_) low up hN cov one, h16, fun B hB => ?_, ?_, by rw [List.length_append, List.length_append, d.len]; rfl⟩
  · obtain ⟨b0, hb0, rfl⟩ := List.mem_map.mp hb
    obtain ⟨o1, o2, o3⟩ := tok b0 hb0
    exact ⟨mem _ o1, mem _ o2, fun e => o3 (inj _ _ o1 o2 e)⟩
  · rcases List.mem_append.mp hB with h | h
    · exact d.five B h
    · rw [List.mem_singleton.mp h]; exact l5
  · have := d.cnt
    simp only [List.flatten_append, List.length_append, List.flatten_cons, List.flatten_nil, List.length_nil, List.length_map, List.length_cons]
    omega
end Pl
namespace Fr
theorem flat_set_len : ∀ {Ns : List (List Bar)} {i : Nat} {N : List Bar} (b : Bar), Ns[i]? = some N → ((Ns.set i (N ++ [b])).flatten).length = Ns.flatten.length + 1
  | [], i, N, b, h => by simp at h
  | M :: Ns, 0, N, b, h => by
    simp at h
    subst h
    simp
    omega
  | M :: Ns, i + 1, N, b, h => by
    have z := flat_set_len (Ns := Ns) (i := i) b (by simpa using h)
    simp only [List.set_cons_succ, List.flatten_cons, List.length_append] at z ⊢
    omega
theorem grown_start {n : Nat} {Bs : List (List Nat)} {Ks : List (List Bar)} (gl : Glued n n Bs Ks) : Grown n Bs Ks Ks := ⟨gl, rfl, fun i B L N h1 h2 h3 => by
  rw [h2] at h3
  cases h3
  exact ⟨[], by simp, fun _ h => nomatch h⟩⟩
theorem grown_step {n : Nat} {Bs : List (List Nat)} {Ks Ns : List (List Bar)} {i : Nat} {B : List Nat} {N : List Bar} {b : Bar} (gr : Grown n Bs Ks Ns) (hB : Bs[i]? = some B) (hN : Ns[i]? = some N) (hb : b.1 ∈ B ∧ b.2 ∈ B ∧ b.1 ≠ b.2) : Grown n Bs Ks (Ns.set i (N ++ [b])) := by
  refine ⟨gr.gl, by rw [List.length_set]; exact gr.len, fun j C L M h1 h2 h3 => ?_⟩
  by_cases e : i = j
  · subst e
    rw [List.getElem?_set_self (List.getElem?_eq_some_iff.mp hN).1] at h3
    cases h3
    obtain ⟨E, e1, e2⟩ := gr.more i C L N h1 h2 hN
    rw [hB] at h1
    cases h1
    exact ⟨E ++ [b], by rw [e1, List.append_assoc], fun c hc => (List.mem_append.mp hc).elim (e2 c) fun z => by rw [List.mem_singleton.mp z]; exact hb⟩
  · rw [List.getElem?_set_ne e] at h3
    exact gr.more j C L M h1 h2 h3
end Fr

/-! Blocks by other names: parts, what is held, which bars are too many, and how great a knot is. -/
namespace Pl
open Fr (Grown Alike Hld rk Slim)
theorem sortN_same {l m : List Nat} (h : l.Perm m) : sortN l = sortN m :=
  (((sortN_perm l).trans h).trans (sortN_perm m).symm).eq_of_pairwise (fun a b _ _ x y => Nat.le_antisymm x y) (sortN_rise l) (sortN_rise m)
section
variable {n : Nat} {Bs : List (List Nat)} {Ks Ns : List (List Fr.Bar)} {f g : Nat → Nat} {ob : List Fr.Bar}
theorem names_parts (gr : Grown n Bs Ks Ns) (al : Alike n f g Ns.flatten ob) : (partsL n ob).Perm ((Bs.map fun B => B.map f).map sortN) := by
  refine (parts_perm al).trans ?_
  have e : ((Bs.map sortN).map (nameL f)) = (Bs.map fun B => B.map f).map sortN := by
    rw [List.map_map, List.map_map]
    refine List.map_congr_left fun B _ => ?_
    exact sortN_same ((sortN_perm B).map f)
  rw [← e]
  exact (Fr.grown_parts gr).map _
theorem names_hld (gr : Grown n Bs Ks Ns) (al : Alike n f g Ns.flatten ob) {a b : Nat} (ha : a < n) (hb : b < n) (ne : a ≠ b) : Hld n ob a b ↔ ∃ C ∈ Bs.map (fun B => B.map f), a ∈ C ∧ b ∈ C := by
  have t := al.turn
  have h := al.hld (a := g a) (b := g b) (t.gl a ha) (t.gl b hb) (fun e => ne (by rw [← t.fg a ha, ← t.fg b hb, e]))
  rw [t.fg a ha, t.fg b hb] at h
  rw [← h, Fr.grown_hld gr (t.gl a ha) (t.gl b hb) (fun e => ne (by rw [← t.fg a ha, ← t.fg b hb, e]))]
  obtain ⟨_, _, g3, _⟩ := Fr.glued_low gr.gl
  constructor
  · rintro ⟨B, hB, h1, h2⟩
    exact ⟨_, List.mem_map.mpr ⟨B, hB, rfl⟩, List.mem_map.mpr ⟨_, h1, t.fg a ha⟩, List.mem_map.mpr ⟨_, h2, t.fg b hb⟩⟩
  · rintro ⟨C, hC, h1, h2⟩
    obtain ⟨B, hB, rfl⟩ := List.mem_map.mp hC
    obtain ⟨x, hx, rfl⟩ := List.mem_map.mp h1
    obtain ⟨y, hy, rfl⟩ := List.mem_map.mp h2
    exact ⟨B, hB, by rw [t.gf x (g3 B hB x hx)]; exact hx, by rw [t.gf y (g3 B hB y hy)]; exact hy⟩
theorem names_rk (gr : Grown n Bs Ks Ns) (al : Alike n f g Ns.flatten ob) : (rk n ob : Int) = (Bs.map fun B => 2 * (B.length : Int) - 3).sum := by
  rw [al.rk, Fr.grown_rk gr, Fr.grown_sum gr.gl]
theorem names_stiff (gr : Grown n Bs Ks Ns) (al : Alike n f g Ns.flatten ob) (h2 : 2 ≤ n) : rk n ob + 3 = 2 * n ↔ Bs.length = 1 := by
  rw [al.rk, stiff_parts (Fr.grown_ok gr) h2]
  have pm := Fr.grown_parts gr
  constructor
  · intro h
    rw [h] at pm
    have := pm.length_eq
    rw [List.length_map] at this
    exact this.symm
  · intro h
    obtain ⟨B, rfl⟩ := List.length_eq_one_iff.mp h
    have e := List.perm_singleton.mp pm
    rw [e]
    obtain ⟨_, _, g3, g4, _⟩ := Fr.glued_low gr.gl
    obtain ⟨_, _, _, _, _, _, nd, _⟩ := Fr.block_pair gr (List.mem_singleton.mpr rfl : B ∈ [B])
    congr 1
    refine sortN_eq nd List.pairwise_lt_range fun x => ?_
    rw [List.mem_range]
    constructor
    · exact fun hx => g3 B (List.mem_singleton.mpr rfl) x hx
    · intro hx
      obtain ⟨C, hC, h⟩ := g4 x hx
      rw [List.mem_singleton.mp hC] at h
      exact h
theorem names_many {t : Nat → Bool} {P : List Nat} (gr : Grown n Bs Ks Ns) (tr : Fr.Turn n f g) (pm : P.Perm (List.range Ns.flatten.length)) {k : Nat} (hk : k ∈ manyL n (otherL f t Ns.flatten P)) :
    ∃ (i : Nat) (B : List Nat), Bs[i]? = some B ∧ Ns[i]? ≠ Ks[i]? ∧ (Fr.barAt (otherL f t Ns.flatten P) k).1 ∈ B.map f ∧ (Fr.barAt (otherL f t Ns.flatten P) k).2 ∈ B.map f := by
  have okN := Fr.grown_ok gr
  have hl : k < P.length := by
    have := (manyL_mem.mp hk).1
    unfold otherL at this
    rwa [List.length_map] at this
  obtain ⟨i, B, hB, h1, h2, h3⟩ := Fr.grown_many gr ((other_many tr okN pm hl).mp hk)
  refine ⟨i, B, hB, h3, ?_⟩
  have e : Fr.barAt (otherL f t Ns.flatten P) k = turnB (t P[k]) (Fr.fb f (Fr.barAt Ns.flatten P[k])) := by
    unfold Fr.barAt otherL otherB
    simp [List.getD, hl]
    rfl
  rw [e]
  have m1 : f (Fr.barAt Ns.flatten P[k]).1 ∈ B.map f := List.mem_map.mpr ⟨_, h1, rfl⟩
  have m2 : f (Fr.barAt Ns.flatten P[k]).2 ∈ B.map f := List.mem_map.mpr ⟨_, h2, rfl⟩
  rcases turn_or (t P[k]) (Fr.fb f (Fr.barAt Ns.flatten P[k])) with e | e
  · rw [e]; exact ⟨m1, m2⟩
  · rw [e]; exact ⟨m2, m1⟩
theorem names_none {t : Nat → Bool} {P : List Nat} (gr : Grown n Bs Ks Ns) (tr : Fr.Turn n f g) (pm : P.Perm (List.range Ns.flatten.length)) : manyL n (otherL f t Ns.flatten P) = [] ↔ Ns.flatten.length = Ks.flatten.length := by
  have okN := Fr.grown_ok gr
  rw [many_nil (other_alike tr okN pm).oko, other_slim tr okN pm, Fr.grown_slim gr]
/-- the joints of a knot are of one part -/
theorem knot_part {nb : List Fr.Bar} {i : Nat} (ok : Fr.Ok n nb) (hi : i < nb.length) {p : Nat × List Nat} (hp : knotOf n nb i = some p) : ∃ js : List Nat, Knot nb p.2 i js ∧ ∃ l ∈ partsL n nb, js.length ≤ l.length := by
  obtain ⟨js, _, kn⟩ := knot_fit ok hi hp
  refine ⟨js, kn, ?_⟩
  have pm := orderBut_perm hi
  unfold knotOf at hp
  have hpm := List.mem_of_find?_eq_some hp
  have hpi : p.1 = i := by
    have z := List.find?_some hp
    simpa using z
  obtain ⟨q1, _, q3, lj, hj, ndj, slj, nq, ⟨T, tT, t2, t3, _, t5⟩, _⟩ := (Fr.tied_iff ok pm hi).2 p hpm
  rw [hpi] at t2 t3
  have o := ok _ (Fr.barAt_mem hi)
  have okj := Fr.barAt_ok ok hj
  have hld : ∀ x y, x < n → y < n → x ≠ y → T x = true → T y = true → Hld n nb x y := fun x y hx hy ne tx ty =>
    Fr.spn_hld okj slj ok (fun b hb => by obtain ⟨a, ha, rfl⟩ := List.mem_map.mp hb; exact Fr.barAt_mem (hj a ha)) hx hy ne ⟨T, tT, tx, ty⟩
  have inT : ∀ x ∈ js, x < n ∧ T x = true := fun x hx => by
    obtain ⟨a, ha, q⟩ := (kn.j2 x).mp hx
    have oa := ok _ (Fr.barAt_mem (kn.h2 a ha))
    have ta := ((t5 a).mp ha).2.1
    rcases q with rfl | rfl
    · exact ⟨oa.1, ta.1⟩
    · exact ⟨oa.2.1, ta.2⟩
  -- in the order of the two ends
  have two : ∃ a b, a < b ∧ b < n ∧ T a = true ∧ T b = true := by
    rcases Nat.lt_trichotomy (Fr.barAt nb i).1 (Fr.barAt nb i).2 with l | l | l
    · exact ⟨_, _, l, o.2.1, t2, t3⟩
    · exact absurd l o.2.2
    · exact ⟨_, _, l, o.1, t3, t2⟩
  obtain ⟨a, b, lab, hbn, ta, tb⟩ := two
  have han : a < n := by omega
  refine ⟨partL n (Fr.pickB n [] nb) (a, b), (partsL_mem0 ok).mpr ⟨a, b, lab, hbn, hld a b han hbn (by omega) ta tb, rfl⟩, ?_⟩
  refine Fr.sub_length (kn.j1.imp fun h => Nat.ne_of_lt h) ((partL_rise _ _ _).imp fun h => Nat.ne_of_lt h) fun x hx => ?_
  obtain ⟨hxn, tx⟩ := inT x hx
  refine partL_mem.mpr ⟨hxn, Fr.part_iff.mpr ?_⟩
  by_cases e1 : x = a
  · exact .inl e1
  · by_cases e2 : x = b
    · exact .inr (.inl e2)
    · exact .inr (.inr ⟨hld a x han hxn (Ne.symm e1) ta tx, hld b x hbn hxn (Ne.symm e2) tb tx⟩)
/-- all bars of a told knot are too many -/
theorem knot_many {nb : List Fr.Bar} {i : Nat} (ok : Fr.Ok n nb) (hi : i < nb.length) {p : Nat × List Nat} (hp : knotOf n nb i = some p) : ∀ x ∈ p.2, x ∈ manyL n nb := fun x hx => by
  have pm := orderBut_perm hi
  unfold knotOf at hp
  have hpm := List.mem_of_find?_eq_some hp
  obtain ⟨_, _, _, lj, _, _, _, _, ⟨T, _, _, _, _, t5⟩, _⟩ := (Fr.tied_iff ok pm hi).2 p hpm
  have hx2 := ((t5 x).mp hx).1
  exact manyL_mem.mpr ⟨hx2, (Fr.tied_iff ok pm hx2).1.mp ⟨p, hpm, hx⟩⟩
end
end Pl

/-! Rules that HandS lacked: an error made with any text, (a, *b) = a tuple, .get of a written dict, len of a set. -/
namespace L2N
open PySem PySem.Spec PyProof.Rows L2
section
variable {X : Cx} {C : Addr} {bmB : List Value} {B newId initId : String}
/-- X(e), e whatever -/
theorem pmk_ownE {x : Str} {e : Expr} {te : TE} {p pos : Pos} (F : ExcBaseFacts B newId initId bmB) (q : PySem.W.excIn X.K C bmB newId = true) (gC : X.mg x = some (.ref C)) (kC : PySem.W.keepIn X.K (.ref C) = true) (r : Raises X (.ref C)) (hg : Gl X x) (he : PE X e te)
    (hdb : (x == ("__debug__" : Str)) = false := by decide) (hst : starEach [e] X.env = (false, eval e X.env) :: starEach [] X.env := by rfl) : PMk X (.Call (.Name x p) [e] [] pos) (fun σ H Q => te σ H fun _ H1 => Q (.ref C) none H1) := by
  intro pins s σ H Q I h
  refine wpAny_Call_Name_kw (ld_glob I hg gC ?_ hdb)
  have ha : PA X [e] (tCons te tNil) := pa_cons he pa_nil hst
  refine PySem.W.callWith_K (h₀ := X.base) I.ok.mod.kin kC (thn (ha.run pos pins s σ H (fun vs H1 => match vs with
    | [_] => Q (.ref C) none H1
    | _ => False) I h) fun us s1 hh => ?_) (by rw [hst])
  obtain ⟨vs, H1, I1, r1, ev⟩ := hh
  refine ⟨I1.kIn, ?_⟩
  cases r1 with
  | nil => exact ev.elim
  | cons ru rn =>
    cases rn with
    | cons _ _ => exact ev.elim
    | nil =>
      show wpAny _ _ (call (.ref C) [_]) _ _ _
      obtain ⟨bm, N, nm, qn, bs, hdct, sn, sub, ab, col, dd, k0, k1, k2, k3, k5, mN, hC, hN, hni, T⟩ := exc_obj I1.kIn q
      refine wpAny_call_exc_subT F T hC hN hni (fun h' e hm => ?_) (by show 1 ≤ sizeLine; rw [sizeLine_eq]; omega)
      exact mk_of I1 hm r ev (I1.hok.gone hm.new)
end
end L2N
namespace L2
open PySem PySem.Spec PyProof.Rows
section
variable {prog : Program} {w : World} {A : Around} {E : Value → Shared → Prop} {s : Shared}
/-- (.., *b) = a tuple: its items ahead, the rest as a new list -/
theorem unpack_star {l : Addr} {items : Array Value} {i : Nat} {Q : List Value → Shared → Prop} (hl : IsTup s.heap l items) (hh : A.handled = none) (hi : i ≤ items.size) (hz : items.size ≤ 16384)
    (h : ∀ (h' : Heap) (tk : Tok), (∀ b o, s.heap.get? b = some o → h'.get? b = some o) → Q (items.toList.take i ++ [.ref h'.objs.size]) { s with heap := h'.push { cls := .type "list", data := .seq (items.toList.drop i).toArray }, toks := tk }) :
    wpAny (model prog w) A (unpackItems (.ref l) (i + 1) (some i)) Q E s := by
  have hlt : l ≠ s.heap.objs.size := by obtain ⟨o, ho, _⟩ := hl; exact Nat.ne_of_lt (Heap.lt_size ho)
  unfold unpackItems
  refine wpAny_bind ?_
  unfold notIterableAtAll
  refine wpAny_bind (wpAny_specialOf hl.typeIs slot_tuple_iter.lookup ?_)
  refine wpAny_pure ?_
  simp only [Bool.false_eq_true, if_false]
  refine wpAny_bind (wpAny_holding (iter_tuple hl ?_))
  refine wpAny_bind (wpAny_holding (draw_tuple hlt i 0 _ _ ⟨_, Heap.get?_push_size _ rfl, rfl, rfl⟩ (hl.push _) (by omega) fun h₁ hit₁ hs₁ => ?_))
  have hl₁ : IsTup h₁ l items := (hl.push _).extBut hs₁.extBut hlt
  rw [Nat.zero_add] at hit₁
  have hit₁' := hit₁
  obtain ⟨oi, hoi, _⟩ := hit₁'
  have hl₁' := hl₁
  obtain ⟨ol, hol, _⟩ := hl₁'
  rw [List.drop_zero]
  have hfl : (items.toList.take i).length = i := by rw [List.length_take, Array.length_toList]; omega
  rw [if_neg (show ¬ ((items.toList.take i).length < i) by rw [hfl]; omega)]
  refine wpAny_bind (wpAny_holding (PySem.W.kun_collect (s := { s with heap := h₁ }) (T := "tuple_iterator") (.inr (.inr (.inr rfl))) (Walks.tuple (A := A.in1) hh s.heap.objs.size l hlt items) (fun j u st => st.1.typeIs) (k := i) (by omega) ⟨hit₁, hl₁⟩ (Heap.lt_size hoi) (Heap.lt_size hol) (fun h₂ tk hk => ?_) (by rw [sizeLine_eq]; omega)))
  have hrl : (items.toList.drop i).length = items.size - i := by rw [List.length_drop, Array.length_toList]
  have ha : i + 1 - 1 - i = 0 := by omega
  show wpAny _ _ (if (items.toList.drop i).length < i + 1 - 1 - i then _ else _) _ _ _
  rw [if_neg (by omega)]
  show wpAny _ _ (newList ((items.toList.drop i).take ((items.toList.drop i).length - (i + 1 - 1 - i))) >>= fun d => pure (items.toList.take i ++ [d] ++ (items.toList.drop i).drop ((items.toList.drop i).length - (i + 1 - 1 - i)))) _ _ _
  rw [ha, Nat.sub_zero, List.take_length, List.drop_length]
  have oth : ∀ b o, s.heap.get? b = some o → h₂.get? b = some o := fun b o e => by
    have hb : b ≠ s.heap.objs.size := Nat.ne_of_lt (Heap.lt_size e)
    exact hk b o hb (hs₁.extBut b o hb (Heap.get?_push_of_some _ e))
  refine wpAny_bind (wpAny_newList (wpAny_pure ?_) (by rw [hrl, sizeLine_eq]; omega))
  rw [List.append_nil]
  exact h h₂ tk oth
end
def gStar (K : PySem.W.Frag) (i : Nat) (t : TGs) : TG := fun v σ H Q => ∃ a xs, v = .ref a ∧ SqT K H a xs ∧ i ≤ xs.length ∧ xs.length ≤ 16384 ∧ ∀ l, H l = none → t (xs.take i ++ [.ref l]) σ (upd H l (.lst (xs.drop i))) Q
section
variable {X : Cx} {pos p : Pos}
theorem pgs_star {e : Expr} {es : List Expr} {t : TG} {u : TGs} (h1 : PG X e t) (h2 : PGs X es u)
    (hs : (assignEach (.Starred e p :: es) X.env).map (·.2) = assign e X.env :: (assignEach es X.env).map (·.2) := by rfl) : PGs X (.Starred e p :: es) (gCons t u) := by
  refine ⟨fun pins s σ H vs us Q I r h => ?_⟩
  obtain ⟨v, vr, e1, h⟩ := h
  subst e1
  cases r with
  | cons r rr =>
    rw [hs]
    refine assignInOrder_cons (thn (h1.run pins s σ H _ _ _ I r h) fun _ s1 ⟨σ1, H1, I1, q1⟩ => ?_)
    exact h2.run pins s1 σ1 H1 _ _ Q I1 rr q1
theorem pg_star {es : List Expr} {k i : Nat} {t : TGs} {K : PySem.W.Frag} (hK : X.K = K) (hc : X.calm = true) (h : PGs X es t)
    (hn : (assignEach es X.env).length = i + 1 := by rfl) (hst : (assignEach es X.env).findIdx? (·.1) = some i := by rfl) : PG X (.Tuple es k pos) (gStar K i t) := by
  subst hK
  refine ⟨fun pins s σ H v u Q I r hw => ?_⟩
  obtain ⟨a, xs, e1, hq, hl, hm, hw⟩ := hw
  subst e1
  cases r
  obtain ⟨its, rv, ht, hz⟩ := I.tuple hq
  have el := rv.length
  rw [PyProof.Rows.assign_Tuple]
  refine wpAny_bind (wpAny_standAt ?_)
  unfold unpack
  rw [hn, hst]
  refine wpAny_bind (wpAny_holding (unpack_star (i := i) ht (I.ok.hd hc) (by rw [List.size_toArray]; omega) (by rw [List.size_toArray]; omega) fun h' tk oth => ?_))
  have I1 : Inv X pins σ H { s with heap := h', toks := tk } := I.kept oth
  have hzz : (xs.drop i).length ≤ sizeLine := by
    rw [List.length_drop, sizeLine_eq]
    omega
  have I2 : Inv X pins σ (upd H h'.objs.size (.lst (xs.drop i))) { s with heap := h'.push { cls := .type "list", data := .seq (its.drop i).toArray }, toks := tk } :=
    I1.laid (t' := tk) (fun b o e => Heap.get?_push_of_some _ e) (Nat.le_refl _) (show ObjOk X.prog X.w _ _ _ (.lst (xs.drop i)) from ⟨hzz, its.drop i, 0, rv.drop i, Heap.get?_push_size _ rfl⟩)
  exact h.run pins _ σ _ _ _ Q I2 (Vals.append (rv.take i) (Paired.cons (show RelV (.ref h'.objs.size) (.ref h'.objs.size) from rfl) .nil)) (hw _ (I1.hok.fresh (Nat.le_refl _)))
end
/-! ### .get of a written dict with text keys -/
/-- what stands at that key, or none -/
def KGot (K : PySem.W.Frag) (w : World) (d : Addr) (z : Str) (v : V) : Prop := ∃ es n r, KDict K w d es n ∧ PySem.W.nsIn K d z = some r ∧ RelV v (r.getD .none)
def tKGet (K : PySem.W.Frag) (w : World) (td ty : TE) : TE := fun σ H Q => td σ H fun x H1 => ∃ d es n, x = .ref d ∧ KDict K w d es n ∧ ty σ H1 fun y H2 => ∃ z v, y = .str z ∧ KGot K w d z v ∧ Q v H2
section
variable {X : Cx} {o e : Expr} {apos cpos : Pos} {td ty : TE}
theorem pe_kget {K : PySem.W.Frag} {w : World} (hK : X.K = K) (hw : X.w = w) (ho : PE X o td) (he : PE X e ty) (m : M1 X o "get" apos e cpos) : PE X (.Call (.Attribute o "get" apos) [e] [] cpos) (tKGet K w td ty) := by
  subst hK
  subst hw
  refine ⟨fun pins s σ H Q I h => ?_⟩
  refine wpAny_Call_method m.base m.few m.line PySem.F.plainAttrs_dict PySem.F.slot_dict_get PySem.F.type_dict_get (thn (ho.run pins s σ H _ I h) fun u s1 ⟨x, H1, I1, rx, a, es, n, ex, D, q1⟩ => ?_)
  subst ex
  obtain rfl : u = Value.ref a := rx
  have hm := PySem.W.mapOf_K (prog := X.prog) (w := X.w) I1.kIn D.at_ D.lit
  refine ⟨hm.typeIs, fun b eb => ?_, ?_⟩
  · cases eb
    exact ⟨_, I1.kIn _ _ D.at_, rfl⟩
  · rw [m.trees]
    refine Calls.callWith_builtin rfl (Calls.evalArgs_plain (Calls.spliced_cons (thn (he.run pins s1 σ H1 _ I1 q1) fun iv s2 ⟨y, H2, I2, ry, z, v, ey, g, q2⟩ => Calls.spliced_nil ?_)))
    subst ey
    obtain ⟨t, rfl⟩ := ry
    obtain ⟨es', n', r, D', hr, rv⟩ := g
    have hm2 := PySem.W.mapOf_K (prog := X.prog) (w := X.w) I2.kIn D'.at_ D'.lit
    refine call_meetsIn PySem.F.slot_dict_get hm2.typeIs PySem.F.entry_dict_get (PySem.F.args_dict_get_2 _ _) (meets_dict_get (strKind X.prog X.w) a (PySem.strKind_is X.prog X.w z t) D'.low) ⟨_, hm2, ?_⟩
    rw [PySem.W.find_K D'.at_ hr]
    exact ⟨v, H2, I2.tok _, rv, q2⟩
end
/-! ### len of a set of whole numbers -/
def rLenSet (w : World) : List V → Hp → VK → Prop := fun xs H Q => ∃ p S n, xs = [.ref p] ∧ H p = some (SetO w p S n) ∧ (n : Int) < 2 ^ 62 ∧ Q (.int (n : Int)) H
theorem cr_lenSet {X : Cx} : CallR X (.builtin "len") (rLenSet X.w) := by
  intro pins s σ H xs us Q I r h
  obtain ⟨p, S, n, rfl, hp, hn, q⟩ := h
  obtain ⟨u, rfl, rx⟩ := vals1 r
  cases rx
  obtain ⟨o, es, ep, t, ho, hx, hd, _, _, _, _, hf, hsz, _⟩ := setO_get I hp
  subst hsz
  exact call_len_set ho hx hd hf (by omega) ⟨.int _, H, I.tok _, ⟨_, rfl⟩, q⟩
/-! ### min, max of a tuple of whole numbers -/
def rMinT (K : PySem.W.Frag) : List V → Hp → VK → Prop := fun vs H Q => ∃ (a : Addr) (n : Int) (ns : List Int), vs = [V.ref a] ∧ SqT K H a ((n :: ns).map V.int) ∧ Q (.int (ns.foldl min n)) H
def rMaxT (K : PySem.W.Frag) : List V → Hp → VK → Prop := fun vs H Q => ∃ (a : Addr) (n : Int) (ns : List Int), vs = [V.ref a] ∧ SqT K H a ((n :: ns).map V.int) ∧ Q (.int (ns.foldl max n)) H
theorem reads_ints {h : Heap} : ∀ {ns : List Int} {us : List Value}, Vals (ns.map V.int) us → ReadsAll h us (ns.map .int) []
  | [], _, .nil => .nil
  | n :: ns, _, .cons r rs => by
    obtain ⟨t, rfl⟩ := r
    exact .cons (.int n t) (reads_ints rs)
theorem alike_ints (ns : List Int) : PySem.W.AlikeAll (ns.map .int) := by
  refine ⟨fun x hx y hy => ?_, fun x hx => ?_⟩
  · obtain ⟨a, _, rfl⟩ := List.mem_map.mp hx
    obtain ⟨b, _, rfl⟩ := List.mem_map.mp hy
    rfl
  · obtain ⟨a, _, rfl⟩ := List.mem_map.mp hx
    exact fun z => by cases z
theorem depth_ints : ∀ ns : List Int, PyData.depthAll (ns.map .int) = 0
  | [] => rfl
  | n :: ns => by
    show max (PyData.depth (.int n)) (PyData.depthAll (ns.map .int)) = 0
    rw [depth_ints ns]
    rfl
theorem cr_minT {X : Cx} (hc : X.calm = true) (hu : X.A.units + 64 < cLine) : CallR X (.builtin "min") (rMinT X.K) := by
  intro pins s σ H vs us Q I r h
  obtain ⟨a, n, ns, rfl, hs, q⟩ := h
  obtain ⟨its, rv, ht, hz⟩ := I.tuple hs
  rw [Vals.ref1 r]
  refine PySem.W.min_tuple_data (x := .int n) (xs := ns.map .int) (as := []) (I.ok.hd hc) ht (reads_ints (ns := n :: ns) (by simpa using rv)) (alike_ints (n :: ns)) (by have := depth_ints (n :: ns); rw [show PyData.depthAll (.int n :: ns.map .int) = 0 from this]; omega) fun i v h' tk bs hv hr kp => ?_
  rw [PySem.W.minD_ints] at hr
  cases hr with
  | int _ t => exact ⟨.int _, H, I.kept kp, ⟨t, rfl⟩, q⟩
theorem cr_maxT {X : Cx} (hc : X.calm = true) (hu : X.A.units + 64 < cLine) : CallR X (.builtin "max") (rMaxT X.K) := by
  intro pins s σ H vs us Q I r h
  obtain ⟨a, n, ns, rfl, hs, q⟩ := h
  obtain ⟨its, rv, ht, hz⟩ := I.tuple hs
  rw [Vals.ref1 r]
  refine PySem.W.max_tuple_data (x := .int n) (xs := ns.map .int) (as := []) (I.ok.hd hc) ht (reads_ints (ns := n :: ns) (by simpa using rv)) (alike_ints (n :: ns)) (by have := depth_ints (n :: ns); rw [show PyData.depthAll (.int n :: ns.map .int) = 0 from this]; omega) fun i v h' tk bs hv hr kp => ?_
  rw [PySem.W.maxD_ints] at hr
  cases hr with
  | int _ t => exact ⟨.int _, H, I.kept kp, ⟨t, rfl⟩, q⟩
/-! ### in a tuple of any data -/
def rInDT (K : PySem.W.Frag) : R2 := fun x y H Q => ∃ d ds, Dp K H x d ∧ Dp K H y (.tuple ds) ∧ SeqAt.shaped d = true ∧ SeqAt.shaped (.tuple ds) = true ∧ Q (.bl (ds.any fun z => PyData.eqv z d)) H
def rNotInDT (K : PySem.W.Frag) : R2 := fun x y H Q => ∃ d ds, Dp K H x d ∧ Dp K H y (.tuple ds) ∧ SeqAt.shaped d = true ∧ SeqAt.shaped (.tuple ds) = true ∧ Q (.bl (!ds.any fun z => PyData.eqv z d)) H
theorem op_inDT {X : Cx} (hu : X.A.units + 65 < cLine) : OpR X (compareOp .In) (rInDT X.K) := by
  intro pins s σ H x y v u Q I rx ry h
  obtain ⟨d, ds, hd, he, sd, se, q⟩ := h
  obtain ⟨as, r1⟩ := Dp.reads I d x v hd rx
  obtain ⟨bs, r2⟩ := Dp.reads I (.tuple ds) y u he ry
  exact SeqAt.in_tuple_reads r2 r1 (SeqAt.canLay_of_shaped se) (SeqAt.canLay_of_shaped sd) (room_in_shaped sd hu) ⟨.bl _, H, I, rfl, q⟩
theorem op_notInDT {X : Cx} (hu : X.A.units + 65 < cLine) : OpR X (compareOp .NotIn) (rNotInDT X.K) := by
  intro pins s σ H x y v u Q I rx ry h
  obtain ⟨d, ds, hd, he, sd, se, q⟩ := h
  obtain ⟨as, r1⟩ := Dp.reads I d x v hd rx
  obtain ⟨bs, r2⟩ := Dp.reads I (.tuple ds) y u he ry
  exact SeqAt.notIn_tuple_reads r2 r1 (SeqAt.canLay_of_shaped se) (SeqAt.canLay_of_shaped sd) (room_in_shaped sd hu) ⟨.bl _, H, I, rfl, q⟩
end L2

/-! (a, *b) = a tuple; .get of a written dict; the number of a set's members; min, max of a pair; tuple(list); {} as data; in a tuple of any data; bars sorted; a loop that raises. -/
namespace Pl
open PySem PySem.Spec PyProof.Rows L2
open Evl (Ex)
section
variable {K : PySem.W.Frag} {ρ : Rho} {te td ty : TE} {d x y : D} {ds es : List D} {F : FE} {w : World}
theorem T.asgStar {gs : TGs} {ps : List (Nat × D)} {n : Nat} (h : EvD K te ρ (.tup ds)) (hn : n ≤ ds.length) (hl : ds.length ≤ 16384) (hg : EvGs K gs (ds.take n ++ [.lst (ds.drop n)]) ps) (k : F.nx (setR ρ ps)) : T K (tAsg te (gStar K n gs)) ρ F := fun S0 H0 S H σ Dd s a =>
  h S H σ s.ext.sub s.env _ fun v S' H' x r => by
    cases r with
    | tup ha rl =>
      rename_i aa xs
      refine ⟨_, _, rfl, Evl.st_of (x.sub _ _ ha), by rw [rl.length]; exact hn, by rw [rl.length]; exact hl, fun l hl => ?_⟩
      have sl := sub_none x.sub hl
      have x2 := x.trans (Ext.new (o := .lst (xs.drop n)) x.sub hl)
      exact hg _ _ σ _ x2.sub (((rl.take n).mono (Ex.new sl)).append (.cons (.lst upd_same ((rl.drop n).mono (Ex.new sl))) .nil)) _ fun vs rv => a.nx _ _ _ _ k x2.s ((s.go x2).setV rv)
theorem ev_kget {a : Addr} {z : Str} {v : V} (hd : EvD K td ρ (.adr a)) (hk : ∃ es n, KDict K w a es n) (hy : EvD K ty ρ (.str z)) (g : KGot K w a z v) (r : ∀ S, Rd K S v x) : EvD K (tKGet K w td ty) ρ x := fun S H σ e vv Q q =>
  hd S H σ e vv _ fun u S1 H1 x1 r1 => by
    cases r1
    obtain ⟨es, n, D⟩ := hk
    exact ⟨a, es, n, rfl, D, hy S1 H1 σ x1.sub (vv.mono x1.s) _ fun u2 S2 H2 x2 r2 => by
      cases r2
      exact ⟨z, v, rfl, g, q v S2 H2 (x1.trans x2) (r S2)⟩⟩
/-- its items, each once -/
def nub : List Int → List Int
  | [] => []
  | a :: l => if a ∈ l then nub l else a :: nub l
theorem nub_mem : ∀ {l : List Int} {k : Int}, k ∈ nub l ↔ k ∈ l
  | [], _ => Iff.rfl
  | a :: l, k => by
    unfold nub
    by_cases h : a ∈ l
    · rw [if_pos h, nub_mem, List.mem_cons]
      exact ⟨.inr, fun z => z.elim (fun e => e ▸ h) id⟩
    · rw [if_neg h, List.mem_cons, List.mem_cons, nub_mem]
theorem nub_nodup : ∀ l : List Int, (nub l).Nodup
  | [] => List.nodup_nil
  | a :: l => by
    unfold nub
    by_cases h : a ∈ l
    · rw [if_pos h]
      exact nub_nodup l
    · rw [if_neg h]
      exact List.nodup_cons.mpr ⟨fun z => h (nub_mem.mp z), nub_nodup l⟩
theorem nub_le : ∀ l : List Int, (nub l).length ≤ l.length
  | [] => Nat.le_refl _
  | a :: l => by
    unfold nub
    have := nub_le l
    by_cases h : a ∈ l
    · rw [if_pos h, List.length_cons]
      omega
    · rw [if_neg h, List.length_cons, List.length_cons]
      omega
theorem nub_len : ∀ {l : List Int}, (nub l).length = l.length ↔ l.Nodup
  | [] => ⟨fun _ => List.nodup_nil, fun _ => rfl⟩
  | a :: l => by
    unfold nub
    have h1 := nub_le l
    by_cases h : a ∈ l
    · rw [if_pos h, List.length_cons, List.nodup_cons]
      exact ⟨fun z => absurd z (by omega), fun z => absurd h z.1⟩
    · rw [if_neg h, List.length_cons, List.length_cons, List.nodup_cons, ← nub_len (l := l)]
      exact ⟨fun z => ⟨h, by omega⟩, fun z => by rw [z.2]⟩
theorem ev_lenSet {ns : List Int} (h : EvD K te ρ (.lst (ns.map D.int))) (hl : ns.length ≤ 1000) : EvD K (tCB (rLenSet w) (tCons (tCB (Sx.rSetOf K w) (tCons te tNil)) tNil)) ρ (.int ((nub ns).length : Int)) := fun S H σ e v Q q =>
  h S H σ e v _ fun u S1 H1 x1 r1 => by
    cases r1 with
    | lst ha rl =>
      have z := rl.ints
      subst z
      refine ⟨_, ns, rfl, Evl.sq_of (x1.sub _ _ ha), hl, fun T ks p hp' nd hT hk => ?_⟩
      have el : ks.length = (nub ns).length := Nat.le_antisymm (List.Nodup.length_le_of_subset nd fun k hk' => nub_mem.mpr ((hk k).mp hk')) (List.Nodup.length_le_of_subset (nub_nodup ns) fun k hk' => (hk k).mpr (nub_mem.mp hk'))
      have hle := nub_le ns
      rw [el]
      exact ⟨p, T, (nub ns).length, rfl, upd_same, by omega, q _ S1 _ (x1.trans (Ext.hid x1.sub hp')) (.int _)⟩
theorem ok_lenSet {X : Cx} (hw : X.w = w) : CallR X (.builtin "len") (rLenSet w) := by subst hw; exact cr_lenSet
theorem ok_minT {X : Cx} (h : X.K = K) (hc : X.calm = true) (hu : X.A.units + 64 < cLine) : CallR X (.builtin "min") (rMinT K) := by subst h; exact cr_minT hc hu
theorem ok_maxT {X : Cx} (h : X.K = K) (hc : X.calm = true) (hu : X.A.units + 64 < cLine) : CallR X (.builtin "max") (rMaxT K) := by subst h; exact cr_maxT hc hu
theorem rc_minT2 {a b : Int} : RC K (rMinT K) [.tup [.int a, .int b]] (.int (min a b)) := fun S H vs e r Q q => by
  cases r with
  | cons h t =>
    cases t
    cases h with
    | tup ha rl =>
      have z := RdL.ints (ns := [a, b]) rl
      subst z
      exact ⟨_, a, [b], rfl, Evl.st_of (e _ _ ha), q _ S H (Ext.refl e) (.int _)⟩
theorem rc_maxT2 {a b : Int} : RC K (rMaxT K) [.tup [.int a, .int b]] (.int (max a b)) := fun S H vs e r Q q => by
  cases r with
  | cons h t =>
    cases t
    cases h with
    | tup ha rl =>
      have z := RdL.ints (ns := [a, b]) rl
      subst z
      exact ⟨_, a, [b], rfl, Evl.st_of (e _ _ ha), q _ S H (Ext.refl e) (.int _)⟩
/-! ### tuple(xs), {} -/
def rTupOf (K : PySem.W.Frag) : List V → Hp → VK → Prop := fun xs H Q => ∃ p ys, xs = [V.ref p] ∧ ((SqL K H p ys ∧ ∀ l, H l = none → Q (.ref l) (upd H l (.tup ys))) ∨ (SqT K H p ys ∧ Q (.ref p) H))
theorem ok_tupOf {X : Cx} (h : X.K = K) : CallR X (.type "tuple") (rTupOf K) := by subst h; exact call_tuple_of
theorem rc_tupL : RC K (rTupOf K) [.lst ds] (.tup ds) := fun S H vs e r Q q => by
  cases r with
  | cons h t =>
    cases t
    cases h with
    | lst ha rl => exact ⟨_, _, rfl, .inl ⟨Evl.sq_of (e _ _ ha), fun p hp => q (.ref p) (upd S p (.tup _)) (upd H p (.tup _)) (Ext.new e hp) (.tup upd_same (rl.mono (Ex.new (sub_none e hp))))⟩⟩
theorem ev_dnew : EvD K tDNewK ρ (.dc [] []) := fun S H σ e v Q q => fun p hp =>
  q (.ref p) (upd S p (.dK [])) (upd H p (.dK [])) (Ext.new e hp) (.dc (xs := []) upd_same rfl .nil)
/-! ### in a tuple of any data -/
theorem ok_inDT {X : Cx} (h : X.K = K) (hu : X.A.units + 65 < cLine) : OpR X (compareOp .In) (rInDT K) := by subst h; exact op_inDT hu
theorem ok_niDT {X : Cx} (h : X.K = K) (hu : X.A.units + 65 < cLine) : OpR X (compareOp .NotIn) (rNotInDT K) := by subst h; exact op_notInDT hu
theorem rv_inDT {b : Bool} (hx : x.okd 59 = true) (hds : ∀ d ∈ ds, d.okd 59 = true) (sx : x.sm 60 = true) (sds : ∀ d ∈ ds, d.sm 60 = true) (h : b = true ↔ x ∈ ds) : RV K (rInDT K) x (.tup ds) (.bl b) := fun S H v u e r1 r2 Q q => by
  have hx60 : x.okd 60 = true := okd_up hx
  have hL : (D.tup ds).okd 60 = true := List.all_eq_true.mpr hds
  have d2 := Rd.dp 60 _ _ hL (r2.mono e)
  have s2 := okd_shaped hL
  have ep : (D.tup ds).py = .tuple (ds.map D.py) := by rw [D.py, pyL_map]
  rw [ep] at d2 s2
  refine ⟨x.py, ds.map D.py, Rd.dp 60 _ _ hx60 (r1.mono e), d2, okd_shaped hx60, s2, ?_⟩
  have eb : ((ds.map D.py).any fun z => PyData.eqv z x.py) = b := Bool.eq_iff_iff.mpr ((any_eqv sx sds).trans h.symm)
  rw [eb]
  exact q _ S H (Ext.refl e) (.bl b)
theorem rv_niDT {b : Bool} (hx : x.okd 59 = true) (hds : ∀ d ∈ ds, d.okd 59 = true) (sx : x.sm 60 = true) (sds : ∀ d ∈ ds, d.sm 60 = true) (h : b = true ↔ x ∈ ds) : RV K (rNotInDT K) x (.tup ds) (.bl (!b)) := fun S H v u e r1 r2 Q q => by
  have hx60 : x.okd 60 = true := okd_up hx
  have hL : (D.tup ds).okd 60 = true := List.all_eq_true.mpr hds
  have d2 := Rd.dp 60 _ _ hL (r2.mono e)
  have s2 := okd_shaped hL
  have ep : (D.tup ds).py = .tuple (ds.map D.py) := by rw [D.py, pyL_map]
  rw [ep] at d2 s2
  refine ⟨x.py, ds.map D.py, Rd.dp 60 _ _ hx60 (r1.mono e), d2, okd_shaped hx60, s2, ?_⟩
  have eb : ((ds.map D.py).any fun z => PyData.eqv z x.py) = b := Bool.eq_iff_iff.mpr ((any_eqv sx sds).trans h.symm)
  rw [eb]
  exact q _ S H (Ext.refl e) (.bl (!b))
end
/-! ### a loop that raises -/
section
variable {K : PySem.W.Frag} {E : XK} {C : Addr} {t u : TS} {ρ : Rho} {ds : List D}
theorem Up.seqP {N : Rho → Prop} (h : T K t ρ { nx := N }) (k : ∀ ρ', N ρ' → Up K E C u ρ') : Up K E C (tSeq t u) ρ := fun S0 H0 S H σ Dd s q =>
  h S0 H0 S H σ _ s ⟨fun r S' H' σ' e _ s' => k r e S0 H0 S' H' σ' Dd s' q, fun _ _ _ _ z => z.elim, fun _ _ _ _ z => z.elim, fun _ _ _ _ z => z.elim, fun _ _ _ _ _ z => z.elim⟩
theorem Up.for {wi : TI} {g : TG} (hi : EvI K wi ρ ds) (Pv : Nat → Rho → Prop) (h0 : Pv 0 ρ) (hs : ∀ (i : Nat) (d : D) (ρ' : Rho), ds[i]? = some d → Pv i ρ' → ∃ ps, EvG K g d ps ∧ (T K t (setR ρ' ps) { nx := Pv (i + 1), ct := Pv (i + 1) } ∨ Up K E C t (setR ρ' ps)))
    (hd : ∀ ρ', ¬ Pv ds.length ρ') : Up K E C (tFor wi g t) ρ := fun S0 H0 S H σ Dd s q =>
  hi S H σ s.ext.sub s.env _ fun J S1 H1 x1 wk => by
    refine ⟨fun i m σ' H' => m = ds.length - i ∧ i ≤ ds.length ∧ ∃ ρ' S', Pv i ρ' ∧ Ex S1 S' ∧ Stt K S0 H0 ρ' S' H' σ', ⟨ds.length, by simp, Nat.zero_le _, ρ, S1, h0, Ex.refl S1, s.go x1⟩, ?_⟩
    rintro i m σ' H' ⟨rfl, hi, ρ', S', p, e, s'⟩
    by_cases hlt : i < ds.length
    · have hdd : ds[i]? = some ds[i] := List.getElem?_eq_getElem hlt
      obtain ⟨ps, hg, ht⟩ := hs i ds[i] ρ' hdd p
      refine .inr ⟨wk.go S' H' i e s'.ext.sub hlt, fun σ2 H2 => ∃ ρ2 S2, Pv (i + 1) ρ2 ∧ Ex S1 S2 ∧ Stt K S0 H0 ρ2 S2 H2 σ2, fun σ2 H2 z => ⟨ds.length - (i + 1), by omega, rfl, hlt, z⟩, fun xv H'' y => ?_⟩
      obtain ⟨S2, x2, r2⟩ := wk.yld S' H' i xv H'' ds[i] e s'.ext.sub hdd y
      refine hg S2 H'' σ' xv x2.sub r2 _ fun ws rw => ?_
      have e2 : Ex S1 S2 := e.trans x2.s
      rcases ht with ht | ht
      · exact ht S0 H0 S2 H'' _ _ ((s'.go x2).setV rw) ⟨fun ρ3 S3 H3 σ3 n e3 s3 => ⟨ρ3, S3, n, e2.trans e3, s3⟩, fun ρ3 S3 H3 σ3 n => n.elim, fun ρ3 S3 H3 σ3 n e3 s3 => ⟨ρ3, S3, n, e2.trans e3, s3⟩, fun _ _ _ _ z => z.elim, fun _ _ _ _ _ z => z.elim⟩
      · exact ht S0 H0 S2 H'' _ _ ((s'.go x2).setV rw) q
    · have e0 : i = ds.length := by omega
      subst e0
      exact absurd p (hd ρ')
end
/-! ### bars sorted -/
def barLe (a b : Int × Int) : Bool := decide (a.1 < b.1) || (decide (a.1 = b.1) && decide (a.2 ≤ b.2))
theorem barLe_iff {a b : Int × Int} : barLe a b = true ↔ a.1 < b.1 ∨ a.1 = b.1 ∧ a.2 ≤ b.2 := by
  unfold barLe
  rw [Bool.or_eq_true, Bool.and_eq_true, decide_eq_true_eq, decide_eq_true_eq, decide_eq_true_eq]
def sortB (l : List (Int × Int)) : List (Int × Int) := l.mergeSort barLe
theorem sortB_perm (l : List (Int × Int)) : (sortB l).Perm l := List.mergeSort_perm l barLe
theorem barLe_trans (a b c : Int × Int) (h1 : barLe a b = true) (h2 : barLe b c = true) : barLe a c = true := by
  rw [barLe_iff] at h1 h2 ⊢
  omega
theorem barLe_total (a b : Int × Int) : (barLe a b || barLe b a) = true := by
  rw [Bool.or_eq_true, barLe_iff, barLe_iff]
  omega
theorem sortB_rise (l : List (Int × Int)) : (sortB l).Pairwise fun a b => barLe a b = true := List.pairwise_mergeSort barLe_trans barLe_total l
theorem rise_uniq : ∀ {l m : List (Int × Int)}, l.Perm m → (l.Pairwise fun a b => barLe a b = true) → (m.Pairwise fun a b => barLe a b = true) → l = m := fun hp h1 h2 =>
  hp.eq_of_pairwise (fun a b _ _ z1 z2 => by
    rw [barLe_iff] at z1 z2
    exact Prod.ext (by omega) (by omega)) h1 h2
section
variable {K : PySem.W.Frag} {ρ : Rho}
theorem ok_sortPO {X : Cx} (h : X.K = K) : CallR X (.builtin "sorted") (rSortedPO K) := by subst h; exact cr_sortedPO
/-- what the heap says of a pair -/
noncomputable def pairAt (H : Hp) (v : V) : Int × Int := by
  classical
  exact if h : ∃ p : Int × Int, ∃ t, v = V.ref t ∧ H t = some (.tup [.int p.1, .int p.2]) then h.choose else (0, 0)
theorem pairAt_eq {H : Hp} {t : Addr} {a b : Int} (h : H t = some (.tup [.int a, .int b])) : pairAt H (.ref t) = (a, b) := by
  have hx : ∃ p : Int × Int, ∃ t', V.ref t = V.ref t' ∧ H t' = some (.tup [.int p.1, .int p.2]) := ⟨(a, b), t, rfl, h⟩
  unfold pairAt
  rw [dif_pos hx]
  obtain ⟨t', e, e2⟩ := hx.choose_spec
  cases e
  rw [h] at e2
  have e3 := Option.some.inj e2
  injection e3 with e3
  injection e3 with e4 e5
  injection e5 with e5 _
  injection e4 with e4
  injection e5 with e5
  exact Prod.ext e4.symm e5.symm
theorem rc_sortBars {bs : List (Int × Int)} : RCF K (rSortedPO K) [.lst (bs.map barD)] ((sortB bs).map barD) := fun S H vs e r Q q => by
  cases r with
  | cons h t =>
    cases t
    cases h with
    | lst ha rl =>
      rename_i a xs
      have one : ∀ {v : V} {c : Int × Int}, Rd K S v (barD c) → ∃ t, v = .ref t ∧ H t = some (.tup [.int c.1, .int c.2]) := fun {v c} r => by
        cases r with
        | tup hb rb =>
          have z := RdL.ints (ns := [c.1, c.2]) rb
          subst z
          exact ⟨_, rfl, e _ _ hb⟩
      have all : ∀ {xs : List V} {bs : List (Int × Int)}, RdL K S xs (bs.map barD) → xs.map (pairAt H) = bs ∧ ∀ x ∈ xs, Rd K S x (barD (pairAt H x)) := fun {xs bs} r => by
        induction bs generalizing xs with
        | nil => cases r; exact ⟨rfl, fun _ h => nomatch h⟩
        | cons b bs ih =>
          have r : RdL K S xs (barD b :: bs.map barD) := r
          cases r with
          | cons r1 r2 =>
            obtain ⟨t, rfl, ht⟩ := one r1
            obtain ⟨i1, i2⟩ := ih r2
            have ep : pairAt H (.ref t) = b := pairAt_eq ht
            refine ⟨by rw [List.map_cons, i1, ep], fun x hx => ?_⟩
            rcases List.mem_cons.mp hx with rfl | hx
            · rw [ep]
              exact r1
            · exact i2 x hx
      obtain ⟨a1, a2⟩ := all rl
      refine ⟨a, xs, pairAt H, rfl, Evl.sq_of (e _ _ ha), fun x hx => ?_, fun ys p hs hst hp => ?_⟩
      · exact one (a2 x hx)
      · have pm : ys.Perm xs := hst.perm
        have e1 : ys.map (pairAt H) = sortB bs := by
          refine rise_uniq ((pm.map _).trans (by rw [a1]; exact (sortB_perm bs).symm)) ?_ (sortB_rise bs)
          refine List.pairwise_map.mpr (hs.imp fun {x y} z => ?_)
          have z := SrtO.lexB_no.mp z
          rw [barLe_iff]
          omega
        have rl2 : RdL K S ys ((sortB bs).map barD) := by
          rw [← e1, List.map_map]
          have hall : ∀ x ∈ ys, Rd K S x (barD (pairAt H x)) := fun x hx => a2 x (pm.mem_iff.mp hx)
          clear hs hst pm e1
          induction ys with
          | nil => exact .nil
          | cons y ys ih => exact .cons (hall y List.mem_cons_self) (ih fun x hx => hall x (List.mem_cons_of_mem _ hx))
        exact q p ys S _ (Ext.hid e hp) hp (sub_none e hp) upd_same rl2
end
end Pl

/-! Steps: what each makes of the bars, which can be taken, plans that go. -/
namespace Pl
open PySem PySem.Spec PyProof.Rows L2
/-! ### what a written table says -/
theorem gotB_ok {K : PySem.W.Frag} {w : World} {a : Addr} {l : List (Str × Option Int)} (h : gotB K a l = true) (hd : ∃ es n, KDict K w a es n) : ∀ p ∈ l, KGot K w a p.1 (gotV p.2) := fun p hp => by
  obtain ⟨es, n, D⟩ := hd
  have z := List.all_eq_true.mp h p hp
  obtain ⟨x, o⟩ := p
  cases e : PySem.W.nsIn K a x with
  | none =>
    rw [e] at z
    cases z
  | some r =>
    rw [e] at z
    cases r with
    | none =>
      cases o with
      | none => exact ⟨es, n, none, D, e, rfl⟩
      | some j => cases z
    | some u =>
      cases o with
      | none => cases u <;> cases z
      | some j =>
        cases u with
        | int i t =>
          have z := of_decide_eq_true z
          subst z
          exact ⟨es, n, _, D, e, ⟨t, rfl⟩⟩
        | _ => cases z
/-! ### steps -/
def wordOf : Nat → Str
  | 2 => "bar"
  | 3 => "two"
  | _ => "three"
def stepD (js : List Nat) : D := .tup (.str (wordOf js.length) :: nD js)
def loB (a b : Nat) : Fr.Bar := (min a b, max a b)
def isJt (rows : List Fr.Bar) (k : Nat) : Bool := rows.any fun b => decide (b.1 = k) || decide (b.2 = k)
theorem isJt_iff {rows : List Fr.Bar} {k : Nat} : isJt rows k = true ↔ ∃ b ∈ rows, b.1 = k ∨ b.2 = k := by
  unfold isJt
  rw [List.any_eq_true]
  constructor
  · rintro ⟨b, hb, h⟩
    exact ⟨b, hb, by simpa using h⟩
  · rintro ⟨b, hb, h⟩
    exact ⟨b, hb, by simpa using h⟩
def jtsL (n : Nat) (rows : List Fr.Bar) : List Nat := (List.range n).filter (isJt rows)
theorem jtsL_mem {n : Nat} {rows : List Fr.Bar} {k : Nat} : k ∈ jtsL n rows ↔ k < n ∧ isJt rows k = true := by
  unfold jtsL
  rw [List.mem_filter, List.mem_range]
theorem jtsL_nodup {n : Nat} {rows : List Fr.Bar} : (jtsL n rows).Nodup := List.Pairwise.filter _ List.nodup_range
theorem jtsL_rise {n : Nat} {rows : List Fr.Bar} : (jtsL n rows).Pairwise (· < ·) := List.Pairwise.filter _ List.pairwise_lt_range
theorem jtsL_len {n : Nat} {rows : List Fr.Bar} : (jtsL n rows).length ≤ n := Nat.le_trans (List.length_filter_le _ _) (by rw [List.length_range]; exact Nat.le_refl n)
def okStep (n : Nat) (js : List Nat) : Bool := (decide (2 ≤ js.length) && decide (js.length ≤ 4)) && (js.all (fun k => decide (k < n)) && decide js.Nodup)
theorem okStep_iff {n : Nat} {js : List Nat} : okStep n js = true ↔ (2 ≤ js.length ∧ js.length ≤ 4) ∧ (∀ k ∈ js, k < n) ∧ js.Nodup := by
  unfold okStep
  rw [Bool.and_eq_true, Bool.and_eq_true, Bool.and_eq_true, decide_eq_true_eq, decide_eq_true_eq, decide_eq_true_eq, List.all_eq_true]
  constructor
  · exact fun h => ⟨h.1, fun k hk => of_decide_eq_true (h.2.1 k hk), h.2.2⟩
  · exact fun h => ⟨h.1, fun k hk => decide_eq_true (h.2.1 k hk), h.2.2⟩
def mayB (rows : List Fr.Bar) : List Nat → Bool
  | [_, _] => rows.isEmpty
  | [v, a, b] => !isJt rows v && (isJt rows a && isJt rows b)
  | [v, a, b, c] => (!isJt rows v && (isJt rows a && (isJt rows b && isJt rows c))) && decide (loB a b ∈ rows)
  | _ => false
def stepRows (rows : List Fr.Bar) : List Nat → List Fr.Bar
  | [a, b] => rows ++ [loB a b]
  | [v, a, b] => rows ++ [loB v a, loB v b]
  | [v, a, b, c] => rows.erase (loB a b) ++ [loB v a, loB v b, loB v c]
  | _ => rows
theorem loB_comm (a b : Nat) : loB a b = loB b a := by
  unfold loB
  rw [Nat.min_comm, Nat.max_comm]
theorem loB_ends {a b k : Nat} : ((loB a b).1 = k ∨ (loB a b).2 = k) ↔ k = a ∨ k = b := by
  unfold loB
  show min a b = k ∨ max a b = k ↔ _
  omega
theorem loB_ok {n a b : Nat} (ha : a < n) (hb : b < n) (ne : a ≠ b) : (loB a b).1 < n ∧ (loB a b).2 < n ∧ (loB a b).1 ≠ (loB a b).2 := by
  unfold loB
  show min a b < n ∧ max a b < n ∧ min a b ≠ max a b
  omega
theorem isJt_app {rs ss : List Fr.Bar} {k : Nat} : isJt (rs ++ ss) k = (isJt rs k || isJt ss k) := by
  unfold isJt
  rw [List.any_append]
theorem isJt_nil {k : Nat} : isJt [] k = false := rfl
theorem isJt_lo {ps : List (Nat × Nat)} {k : Nat} : isJt (ps.map fun p => loB p.1 p.2) k = true ↔ ∃ p ∈ ps, k = p.1 ∨ k = p.2 := by
  rw [isJt_iff]
  constructor
  · rintro ⟨b, hb, h⟩
    obtain ⟨p, hp, rfl⟩ := List.mem_map.mp hb
    exact ⟨p, hp, loB_ends.mp h⟩
  · rintro ⟨p, hp, h⟩
    exact ⟨_, List.mem_map_of_mem hp, loB_ends.mpr h⟩
/-- the joints after a step that can be taken: those ahead, and the step's own -/
theorem isJt_step {rows : List Fr.Bar} {js : List Nat} {k : Nat} (h : mayB rows js = true) : isJt (stepRows rows js) k = true ↔ isJt rows k = true ∨ k ∈ js := by
  unfold mayB at h
  unfold stepRows
  split at h
  · rename_i a b
    rw [List.isEmpty_iff] at h
    subst h
    rw [List.nil_append, (show isJt [loB a b] k = true ↔ _ from isJt_lo (ps := [(a, b)]))]
    simp [isJt_nil]
  · rename_i v a b
    simp only [isJt_app, Bool.or_eq_true, Bool.and_eq_true] at h ⊢
    rw [(show isJt [loB v a, loB v b] k = true ↔ _ from isJt_lo (ps := [(v, a), (v, b)]))]
    simp only [List.mem_cons, List.not_mem_nil, or_false, exists_eq_or_imp, exists_eq_left]
    constructor
    · rintro (h | h | h)
      · exact .inl h
      · exact .inr (by omega)
      · exact .inr (by omega)
    · rintro (h | h)
      · exact .inl h
      · exact .inr (by omega)
  · rename_i v a b c
    simp only [isJt_app, Bool.or_eq_true, Bool.and_eq_true] at h ⊢
    rw [(show isJt [loB v a, loB v b, loB v c] k = true ↔ _ from isJt_lo (ps := [(v, a), (v, b), (v, c)]))]
    simp only [List.mem_cons, List.not_mem_nil, or_false, exists_eq_or_imp, exists_eq_left]
    constructor
    · rintro (z | z | z | z)
      · obtain ⟨x, hx, e⟩ := isJt_iff.mp z
        exact .inl (isJt_iff.mpr ⟨x, List.mem_of_mem_erase hx, e⟩)
      · exact .inr (by omega)
      · exact .inr (by omega)
      · exact .inr (by omega)
    · rintro (z | z)
      · obtain ⟨x, hx, e⟩ := isJt_iff.mp z
        by_cases q : x = loB a b
        · subst q
          have := loB_ends.mp e
          exact .inr (by omega)
        · exact .inl (isJt_iff.mpr ⟨x, (List.mem_erase_of_ne q).mpr hx, e⟩)
      · exact .inr (by omega)
  · cases h
theorem ok_step {n : Nat} {rows : List Fr.Bar} {js : List Nat} (ok : Fr.Ok n rows) (h : okStep n js = true) : Fr.Ok n (stepRows rows js) := by
  obtain ⟨_, h2, h3⟩ := okStep_iff.mp h
  have pair : ∀ {a b}, a ∈ js → b ∈ js → a ≠ b → ∀ x ∈ [loB a b], x.1 < n ∧ x.2 < n ∧ x.1 ≠ x.2 := fun ha hb ne x hx => by
    rw [List.mem_singleton.mp hx]
    exact loB_ok (h2 _ ha) (h2 _ hb) ne
  unfold stepRows
  clear h
  split
  · rename_i a b _
    intro x hx
    rcases List.mem_append.mp hx with hx | hx
    · exact ok x hx
    · exact pair (a := a) (b := b) (by simp) (by simp) (by simpa using h3) x hx
  · rename_i v a b _
    simp only [List.nodup_cons, List.mem_cons, List.not_mem_nil, or_false, not_or, not_false_eq_true, List.nodup_nil, and_true] at h3
    intro x hx
    rcases List.mem_append.mp hx with hx | hx
    · exact ok x hx
    · simp only [List.mem_cons, List.not_mem_nil, or_false] at hx
      rcases hx with rfl | rfl
      · exact loB_ok (h2 _ (by simp)) (h2 _ (by simp)) h3.1.1
      · exact loB_ok (h2 _ (by simp)) (h2 _ (by simp)) h3.1.2
  · rename_i v a b c
    simp only [List.nodup_cons, List.mem_cons, List.not_mem_nil, or_false, not_or, not_false_eq_true, List.nodup_nil, and_true] at h3
    intro x hx
    rcases List.mem_append.mp hx with hx | hx
    · exact ok x (List.mem_of_mem_erase hx)
    · simp only [List.mem_cons, List.not_mem_nil, or_false] at hx
      rcases hx with rfl | rfl | rfl
      · exact loB_ok (h2 _ (by simp)) (h2 _ (by simp)) h3.1.1
      · exact loB_ok (h2 _ (by simp)) (h2 _ (by simp)) h3.1.2.1
      · exact loB_ok (h2 _ (by simp)) (h2 _ (by simp)) h3.1.2.2
  · exact ok
theorem step_len {rows : List Fr.Bar} {js : List Nat} : (stepRows rows js).length ≤ rows.length + 3 := by
  unfold stepRows
  split
  · rw [List.length_append]
    exact Nat.add_le_add_left (Nat.le_of_ble_eq_true rfl) _
  · rw [List.length_append]
    exact Nat.add_le_add_left (Nat.le_of_ble_eq_true rfl) _
  · rw [List.length_append]
    exact Nat.add_le_add_right List.length_erase_le _
  · omega
/-- a plan from these bars to those -/
inductive Goes (n : Nat) : List Fr.Bar → List (List Nat) → List Fr.Bar → Prop
  | nil {rows : List Fr.Bar} : Goes n rows [] rows
  | cons {rows out : List Fr.Bar} {js : List Nat} {r : List (List Nat)} (h1 : okStep n js = true) (h2 : mayB rows js = true) (h3 : Goes n (stepRows rows js) r out) : Goes n rows (js :: r) out
theorem Goes.app {n : Nat} {rows mid out : List Fr.Bar} {p q : List (List Nat)} (h : Goes n rows p mid) (h2 : Goes n mid q out) : Goes n rows (p ++ q) out := by
  induction h with
  | nil => exact h2
  | cons a b _ ih => exact .cons a b (ih h2)
theorem Goes.split {n : Nat} {out : List Fr.Bar} : ∀ {p q : List (List Nat)} {rows : List Fr.Bar}, Goes n rows (p ++ q) out → ∃ mid, Goes n rows p mid ∧ Goes n mid q out
  | [], q, rows, h => ⟨rows, .nil, h⟩
  | js :: p, q, rows, h => by
    have h : Goes n rows (js :: (p ++ q)) out := h
    cases h with
    | cons a b c =>
      obtain ⟨mid, z1, z2⟩ := Goes.split c
      exact ⟨mid, .cons a b z1, z2⟩
theorem Goes.ok {n : Nat} {rows out : List Fr.Bar} {p : List (List Nat)} (h : Goes n rows p out) (ok : Fr.Ok n rows) : Fr.Ok n out := by
  induction h with
  | nil => exact ok
  | cons a b _ ih => exact ih (ok_step ok a)
theorem Goes.len {n : Nat} {rows out : List Fr.Bar} {p : List (List Nat)} (h : Goes n rows p out) : out.length ≤ rows.length + 3 * p.length := by
  induction h with
  | nil => simp
  | cons a b _ ih =>
    rename_i rows out js r _
    have := step_len (rows := rows) (js := js)
    rw [List.length_cons]
    omega
theorem Goes.jt {n : Nat} {rows out : List Fr.Bar} {p : List (List Nat)} {k : Nat} (h : Goes n rows p out) : isJt out k = true ↔ isJt rows k = true ∨ ∃ js ∈ p, k ∈ js := by
  induction h with
  | nil => simp
  | cons a b _ ih =>
    rw [ih, isJt_step b]
    simp only [List.mem_cons, exists_eq_or_imp]
    rw [or_assoc]
theorem Goes.steps {n : Nat} {rows out : List Fr.Bar} {p : List (List Nat)} (h : Goes n rows p out) : ∀ js ∈ p, okStep n js = true := by
  induction h with
  | nil => exact fun _ h => nomatch h
  | cons a _ _ ih =>
    intro js hj
    rcases List.mem_cons.mp hj with rfl | hj
    · exact a
    · exact ih js hj
/-- one more joint by each step -/
theorem jts_step {n : Nat} {rows : List Fr.Bar} {js : List Nat} (h : mayB rows js = true) : (jtsL n (stepRows rows js)).length ≤ (jtsL n rows).length + (if rows = [] then 2 else 1) := by
  have sub : ∀ l : List Nat, (∀ k, k ∈ js → isJt rows k = true ∨ k ∈ l) → (jtsL n (stepRows rows js)).length ≤ (jtsL n rows).length + l.length := fun l hl => by
    rw [← List.length_append]
    refine List.Nodup.length_le_of_subset jtsL_nodup fun k hk => ?_
    obtain ⟨k1, k2⟩ := jtsL_mem.mp hk
    rcases (isJt_step h).mp k2 with k2 | k2
    · exact List.mem_append_left _ (jtsL_mem.mpr ⟨k1, k2⟩)
    · rcases hl k k2 with z | z
      · exact List.mem_append_left _ (jtsL_mem.mpr ⟨k1, z⟩)
      · exact List.mem_append_right _ z
  have h0 := h
  unfold mayB at h
  split at h
  · rename_i a b
    rw [List.isEmpty_iff] at h
    rw [if_pos h]
    exact sub [a, b] fun k hk => .inr hk
  · rename_i v a b
    simp only [Bool.and_eq_true] at h
    have hne : rows ≠ [] := fun z => by
      rw [z, isJt_nil] at h
      cases h.2.1
    rw [if_neg hne]
    exact sub [v] fun k hk => by
      simp only [List.mem_cons, List.not_mem_nil, or_false] at hk ⊢
      rcases hk with rfl | rfl | rfl
      · exact .inr rfl
      · exact .inl h.2.1
      · exact .inl h.2.2
  · rename_i v a b c
    simp only [Bool.and_eq_true] at h
    have hne : rows ≠ [] := fun z => by
      rw [z, isJt_nil] at h
      cases h.1.2.1
    rw [if_neg hne]
    exact sub [v] fun k hk => by
      simp only [List.mem_cons, List.not_mem_nil, or_false] at hk ⊢
      rcases hk with rfl | rfl | rfl | rfl
      · exact .inr rfl
      · exact .inl h.1.2.1
      · exact .inl h.1.2.2.1
      · exact .inl h.1.2.2.2
  · cases h
theorem stepRows_ne {rows : List Fr.Bar} {js : List Nat} (h : mayB rows js = true) : stepRows rows js ≠ [] := by
  unfold mayB at h
  unfold stepRows
  split at h
  · simp
  · simp
  · simp
  · cases h
theorem Goes.few {n : Nat} {rows out : List Fr.Bar} {p : List (List Nat)} (h : Goes n rows p out) : (jtsL n out).length ≤ (jtsL n rows).length + p.length + (if rows = [] then (if p = [] then 0 else 1) else 0) := by
  induction h with
  | nil => simp
  | cons a b c ih =>
    rename_i rows out js r
    have h1 := jts_step (n := n) b
    rw [if_neg (stepRows_ne b)] at ih
    rw [List.length_cons]
    by_cases z : rows = []
    · rw [if_pos z] at h1 ⊢
      rw [if_neg (by simp)]
      omega
    · rw [if_neg z] at h1 ⊢
      omega
theorem jtsL_nil {n : Nat} : jtsL n [] = [] := List.filter_eq_nil_iff.mpr fun _ _ => by simp [isJt_nil]
/-! ### what can't be taken -/
/-- whether a datum is a step -/
inductive StepD (n : Nat) : D → Bool → Prop
  | noTup {d : D} (h : d.kind = "NoneType" ∨ d.kind = "int" ∨ d.kind = "list") : StepD n d false
  | badWord {x : D} {ds : List D} (h : x.kind = "list" ∨ x = .dc [] []) (hl : ds.length ≤ 10) : StepD n (.tup (x :: ds)) false
  | badLen {x : Str} {o : Option Int} {ds : List D} (hx : (x, o) ∈ [(("bar" : Str), some (3 : Int)), ("two", some 4), ("three", some 5), ("Two", none)]) (h : o ≠ some (ds.length + 1 : Int)) (hl : ds.length ≤ 10) : StepD n (.tup (.str x :: ds)) false
  | joints {x : Str} {ds : List D} {bs : List Bool} (hx : (x, some (ds.length + 1 : Int)) ∈ [(("bar" : Str), some (3 : Int)), ("two", some 4), ("three", some 5)]) (hl : ds.length ≤ 10) (h : ds.length = bs.length) (hj : ∀ (i : Nat) (d : D) (b : Bool), ds[i]? = some d → bs[i]? = some b → JD (n : Int) d b) (hb : bs.all id = false) : StepD n (.tup (.str x :: ds)) false
  | nats {js : List Nat} (h1 : 2 ≤ js.length) (h2 : js.length ≤ 4) : StepD n (stepD js) (okStep n js)
/-- no step, or one that can't be taken there -/
def BadAt (n : Nat) (rows : List Fr.Bar) (d : D) : Prop := StepD n d false ∨ ∃ js, d = stepD js ∧ okStep n js = true ∧ mayB rows js = false
inductive Fails (n : Nat) : List Fr.Bar → List D → Prop
  | here {rows : List Fr.Bar} {d : D} {ds : List D} (h : BadAt n rows d) : Fails n rows (d :: ds)
  | next {rows : List Fr.Bar} {js : List Nat} {ds : List D} (h1 : okStep n js = true) (h2 : mayB rows js = true) (h3 : Fails n (stepRows rows js) ds) : Fails n rows (stepD js :: ds)
theorem Fails.after {n : Nat} {rows mid : List Fr.Bar} {p : List (List Nat)} {ds : List D} (h : Goes n rows p mid) (f : Fails n mid ds) : Fails n rows (p.map stepD ++ ds) := by
  induction h with
  | nil => exact f
  | cons a b _ ih => exact .next a b (ih f)
/-- steps either go, or fail -/
theorem goes_or {n : Nat} : ∀ {p : List (List Nat)} {rows : List Fr.Bar}, (∀ js ∈ p, okStep n js = true) → (∃ out, Goes n rows p out) ∨ Fails n rows (p.map stepD)
  | [], rows, _ => .inl ⟨rows, .nil⟩
  | js :: p, rows, h => by
    have h1 := h js List.mem_cons_self
    cases h2 : mayB rows js with
    | false => exact .inr (.here (.inr ⟨js, rfl, h1, h2⟩))
    | true =>
      rcases goes_or (p := p) (rows := stepRows rows js) fun x hx => h x (List.mem_cons_of_mem _ hx) with ⟨out, g⟩ | f
      · exact .inl ⟨out, .cons h1 h2 g⟩
      · exact .inr (.next h1 h2 f)
/-- the steps are refused: one of them can't be taken, or they build too few joints -/
inductive Rfs (n : Nat) : List D → Prop
  | fails {ds : List D} (h : Fails n [] ds) : Rfs n ds
  | few {p : List (List Nat)} {out : List Fr.Bar} (h : Goes n [] p out) (h1 : 1 < n) (h2 : (jtsL n out).length < n) : Rfs n (p.map stepD)
theorem rfs_short {n : Nat} {p : List (List Nat)} (h : ∀ js ∈ p, okStep n js = true) (h1 : 1 < n) (hl : p.length + 1 < n) : Rfs n (p.map stepD) := by
  rcases goes_or (rows := []) h with ⟨out, g⟩ | f
  · refine .few g h1 ?_
    have := g.few
    rw [jtsL_nil, if_pos rfl] at this
    by_cases z : p = []
    · rw [if_pos z, List.length_nil] at this
      omega
    · rw [if_neg z, List.length_nil] at this
      omega
  · exact .fails f
/-- a step that was just taken can't be taken again -/
theorem may_again {rows : List Fr.Bar} {js : List Nat} (h : mayB rows js = true) : mayB (stepRows rows js) js = false := by
  have k := fun k => (isJt_step (k := k) h)
  have hne := stepRows_ne h
  have h0 := h
  unfold mayB at h0
  split at h0
  · unfold mayB
    rw [← Bool.not_eq_true, List.isEmpty_iff]
    exact hne
  · rename_i v a b
    have := (k v).mpr (.inr (by simp))
    show (!isJt (stepRows rows [v, a, b]) v && _) = false
    rw [this]
    rfl
  · rename_i v a b c
    have := (k v).mpr (.inr (by simp))
    show ((!isJt (stepRows rows [v, a, b, c]) v && _) && _) = false
    rw [this]
    rfl
  · cases h0
end Pl

/-! min and max of two, not xs, a tuple as a test, steps as data, three texts as one. -/
namespace Pl
open PySem PySem.Spec PyProof.Rows L2
open Evl (Ex)
section
variable {K : PySem.W.Frag} {ρ : Rho} {te t1 t2 t3 : TE} {ds : List D}
abbrev rMin2 : List V → Hp → VK → Prop := fun xs H Q => ∃ i j, xs = [V.int i, V.int j] ∧ Q (.int (if j < i then j else i)) H
abbrev rMax2 : List V → Hp → VK → Prop := fun xs H Q => ∃ i j, xs = [V.int i, V.int j] ∧ Q (.int (if j > i then j else i)) H
theorem rc_min2 {i j : Int} : RC K rMin2 [.int i, .int j] (.int (min i j)) := fun S H vs e r Q q => by
  cases r with
  | cons h t =>
    cases t with
    | cons h2 t2 =>
      cases t2
      cases h
      cases h2
      refine ⟨i, j, rfl, ?_⟩
      have : (if j < i then j else i) = min i j := by
        by_cases h : j < i
        · rw [if_pos h]; omega
        · rw [if_neg h]; omega
      rw [this]
      exact q _ S H (Ext.refl e) (.int _)
theorem rc_max2 {i j : Int} : RC K rMax2 [.int i, .int j] (.int (max i j)) := fun S H vs e r Q q => by
  cases r with
  | cons h t =>
    cases t with
    | cons h2 t2 =>
      cases t2
      cases h
      cases h2
      refine ⟨i, j, rfl, ?_⟩
      have : (if j > i then j else i) = max i j := by
        by_cases h : j > i
        · rw [if_pos h]; omega
        · rw [if_neg h]; omega
      rw [this]
      exact q _ S H (Ext.refl e) (.int _)
theorem rc_isiDc {ks : List L2.Key} {T : String} {b : Bool} (h : kitB "dict" T = some b) : RC K (rIsi K) [.dc ks ds, .ty T] (.bl b) := fun S H vs e r Q q => by
  cases r with
  | cons h1 t1 =>
    cases t1 with
    | cons h2 t2 =>
      cases t2
      cases h2
      cases h1 with
      | dc ha _ _ => exact ⟨_, _, .type "dict", _, b, rfl, .ty T, .base (.dK (e _ _ ha)), kit_ty h, q _ S H (Ext.refl e) (.bl b)⟩
theorem ok_notT {X : Cx} {a : Expr} {ta : TE} {pos : Pos} (h : X.K = K) (ha : PE X a ta) : PE X (.UnaryOp .Not a pos) (tNotT K ta) := by subst h; exact pe_notT ha
theorem ev_notL (h : EvD K te ρ (.lst ds)) : EvD K (tNotT K te) ρ (.bl ds.isEmpty) := fun S H σ e v Q q =>
  h S H σ e v _ fun w S1 H1 x1 r1 => by
    cases r1 with
    | lst ha rl =>
      refine ⟨!ds.isEmpty, .inl ⟨_, Evl.sq_of (x1.sub _ _ ha), ?_⟩, ?_⟩
      · cases rl <;> rfl
      · rw [Bool.not_not]
        exact q _ S1 H1 x1 (.bl _)
theorem et_truT (h : EvD K te ρ (.tup ds)) : EvT K (fun σ H Q => te σ H fun x H' => ∃ k, TruV K x H' k ∧ Q k H') ρ (!ds.isEmpty) := fun S H σ e v Q q =>
  h S H σ e v _ fun w S1 H1 x1 r1 => by
    cases r1 with
    | tup ha rl =>
      refine ⟨!ds.isEmpty, .inr (.inl ⟨_, Evl.st_of (x1.sub _ _ ha), ?_⟩), q S1 H1 x1⟩
      cases rl <;> rfl
theorem loB_bar (a b : Nat) : D.tup [.int (min (a : Int) (b : Int)), .int (max (a : Int) (b : Int))] = barD (bI (loB a b)) := by
  have h1 : min (a : Int) (b : Int) = ((min a b : Nat) : Int) := by omega
  have h2 : max (a : Int) (b : Int) = ((max a b : Nat) : Int) := by omega
  rw [h1, h2]
  rfl
/-- (min(x, y), max(x, y)) -/
theorem ev_loB {a b : Nat} (h1 : EvD K t1 ρ (.int (a : Int))) (h2 : EvD K t2 ρ (.int (b : Int))) : EvD K (tTup (tCons (tCB rMin2 (tCons t1 (tCons t2 tNil))) (tCons (tCB rMax2 (tCons t1 (tCons t2 tNil))) tNil))) ρ (barD (bI (loB a b))) :=
  EvD.to (ev_tup (ea_cons (ev_cb (ea_cons h1 (ea_cons h2 ea_nil)) rc_min2) (ea_cons (ev_cb (ea_cons h1 (ea_cons h2 ea_nil)) rc_max2) ea_nil)) (Nat.le_of_ble_eq_true rfl)) (loB_bar a b)
theorem rv_eqStr {x y : Str} (hx : PyData.strOk x = true) (hy : PyData.strOk y = true) : RV K (rEqD K) (.str x) (.str y) (.bl (decide (x = y))) := rv_eqS hx hy rfl rfl (by rw [decide_eq_true_eq]; exact ⟨congrArg D.str, fun e => D.str.inj e⟩)
/-- f'..{i}..' as an argument: some text -/
theorem ev_fstr {x y : Str} {i : Int} (h1 : EvD K t1 ρ (.str x)) (h2 : EvD K t2 ρ (.int i)) (h3 : EvD K t3 ρ (.str y)) (hi : i.natAbs.log2 < 1920) (a1 : (Str.empty ++ x).length ≤ sizeLine) (a2 : (Str.empty ++ x ++ toString i).length ≤ sizeLine) (a3 : (Str.empty ++ x ++ toString i ++ y).length ≤ sizeLine) :
    EvD K (fun σ H Q => tJs [t1, tFmt t2, t3] Str.empty σ H fun out H1 => Q (.str out) H1) ρ (.str (Str.empty ++ x ++ toString i ++ y)) := fun S H σ e v Q q =>
  h1 S H σ e v _ fun w1 S1 H1 x1 r1 => by
    cases r1
    refine ⟨x, rfl, a1, h2 S1 H1 σ x1.sub (v.mono x1.s) _ fun w2 S2 H2 x2 r2 => ?_⟩
    cases r2
    refine .inr ⟨i, rfl, hi, toString i, rfl, a2, h3 S2 H2 σ x2.sub (v.mono (x1.s.trans x2.s)) _ fun w3 S3 H3 x3 r3 => ?_⟩
    cases r3
    exact ⟨y, rfl, a3, q _ S3 H3 ((x1.trans x2).trans x3) (.str _)⟩
end
section
variable {K : PySem.W.Frag} {E : XK} {C : Addr} {ρ : Rho} {te : TE} {d : D}
theorem Up.raiseE (h : EvD K te ρ d) : Up K E C (fun _ σ H => te σ H fun _ H1 => E (.ref C) none H1) ρ := fun S0 H0 S H σ Dd s q =>
  h S H σ s.ext.sub s.env _ fun v S' H' x r => q S' H' (s.ext.trans x)
end
/-! ### steps as data -/
theorem wordOf_ok (k : Nat) : PyData.strOk (wordOf k) = true := by
  unfold wordOf
  split <;> decide +kernel
theorem stepD_okd (js : List Nat) (n : Nat) : (stepD js).okd (n + 1) = true := List.all_eq_true.mpr fun d hd => by
  rcases List.mem_cons.mp hd with rfl | hd
  · cases n <;> exact wordOf_ok _
  · obtain ⟨i, _, rfl⟩ := List.mem_map.mp hd
    cases n <;> rfl
theorem stepD_sm (js : List Nat) (n : Nat) : (stepD js).sm (n + 1) = true := List.all_eq_true.mpr fun d hd => by
  rcases List.mem_cons.mp hd with rfl | hd
  · cases n <;> rfl
  · obtain ⟨i, _, rfl⟩ := List.mem_map.mp hd
    cases n <;> rfl
theorem nD_inj {a b : List Nat} (h : nD a = nD b) : a = b := by
  have : a.map (fun k : Nat => (k : Int)) = b.map fun k : Nat => (k : Int) := by
    rw [nD_kI, nD_kI] at h
    exact map_int_inj.mp h
  exact (List.map_inj_right (fun x y e => by omega)).mp this
theorem stepD_inj {a b : List Nat} (h : stepD a = stepD b) : a = b := by
  unfold stepD at h
  injection h with h
  injection h with _ h
  exact nD_inj h
theorem steps_okd (p : List (List Nat)) : (D.lst (p.map stepD)).okd 60 = true := List.all_eq_true.mpr fun d hd => by
  obtain ⟨js, _, rfl⟩ := List.mem_map.mp hd
  exact stepD_okd js 58
theorem steps_sm (p : List (List Nat)) : (D.lst (p.map stepD)).sm 60 = true := List.all_eq_true.mpr fun d hd => by
  obtain ⟨js, _, rfl⟩ := List.mem_map.mp hd
  exact stepD_sm js 58
theorem okStep_cases {n : Nat} {js : List Nat} (h : okStep n js = true) : (∃ a b, js = [a, b]) ∨ (∃ v a b, js = [v, a, b]) ∨ ∃ v a b c, js = [v, a, b, c] := by
  obtain ⟨⟨h1, h2⟩, _⟩ := okStep_iff.mp h
  match js, h1, h2 with
  | [a, b], _, _ => exact .inl ⟨a, b, rfl⟩
  | [v, a, b], _, _ => exact .inr (.inl ⟨v, a, b, rfl⟩)
  | [v, a, b, c], _, _ => exact .inr (.inr ⟨v, a, b, c, rfl⟩)
theorem may_cases {rows : List Fr.Bar} {js : List Nat} (h : mayB rows js = true) : (∃ a b, js = [a, b] ∧ rows = []) ∨ (∃ v a b, js = [v, a, b] ∧ isJt rows v = false ∧ isJt rows a = true ∧ isJt rows b = true) ∨ ∃ v a b c, js = [v, a, b, c] ∧ isJt rows v = false ∧ isJt rows a = true ∧ isJt rows b = true ∧ isJt rows c = true ∧ loB a b ∈ rows := by
  unfold mayB at h
  split at h
  · exact .inl ⟨_, _, rfl, List.isEmpty_iff.mp h⟩
  · rename_i v a b
    simp only [Bool.and_eq_true, Bool.not_eq_true'] at h
    exact .inr (.inl ⟨v, a, b, rfl, h.1, h.2.1, h.2.2⟩)
  · rename_i v a b c
    simp only [Bool.and_eq_true, Bool.not_eq_true', decide_eq_true_eq] at h
    exact .inr (.inr ⟨v, a, b, c, rfl, h.1.1, h.1.2.1, h.1.2.2.1, h.1.2.2.2, h.2⟩)
  · cases h
theorem jt_lt {n : Nat} {rows : List Fr.Bar} (ok : Fr.Ok n rows) {k : Nat} (h : isJt rows k = true) : k < n := by
  obtain ⟨b, hb, e⟩ := isJt_iff.mp h
  obtain ⟨o1, o2, _⟩ := ok b hb
  omega
end Pl

/-! Parts of tuples. -/
namespace Pl
open PySem PySem.Spec PyProof.Rows L2
section
variable {K : PySem.W.Frag} {ρ : Rho} {te t1 t2 : TE} {ds : List D} {a b : Nat}
theorem ev_slFrom (h : EvD K te ρ (.tup ds)) (h1 : EvD K t1 ρ (.int (a : Int))) (ha : 0 < a) (hd : 0 < ds.length) : EvD K (tSl (rSl K) te (tPart t1) tNoPart) ρ (.tup (ds.drop a)) :=
  EvD.to (ev_slT h (eo_some h1) eo_no (fun z => by rw [HT.sIx_nat] at z; omega)) (by rw [cut_from])
theorem ev_slTo (h : EvD K te ρ (.tup ds)) (h1 : EvD K t1 ρ (.int (b : Int))) (hb : b < ds.length) : EvD K (tSl (rSl K) te tNoPart (tPart t1)) ρ (.tup (ds.take b)) :=
  EvD.to (ev_slT h eo_no (eo_some h1) (fun z => by rw [HT.sIx_nat] at z; omega)) (by rw [cut_to])
theorem cut_mid (xs : List D) (a b : Nat) (hb : b ≤ xs.length) (hab : a ≤ b) : cutD xs (some (a : Int)) (some (b : Int)) = (xs.drop a).take (b - a) := by
  unfold cutD
  rw [HT.sIx_nat, HT.sIx_nat, Nat.min_eq_left hb, Nat.min_eq_left (by omega)]
theorem ev_slMid (h : EvD K te ρ (.tup ds)) (h1 : EvD K t1 ρ (.int (a : Int))) (h2 : EvD K t2 ρ (.int (b : Int))) (ha : 0 < a) (hab : a ≤ b) (hb : b ≤ ds.length) (hd : 0 < ds.length) : EvD K (tSl (rSl K) te (tPart t1) (tPart t2)) ρ (.tup ((ds.drop a).take (b - a))) :=
  EvD.to (ev_slT h (eo_some h1) (eo_some h2) (fun z => by rw [HT.sIx_nat] at z; omega)) (by rw [cut_mid _ _ _ hb hab])
theorem sIx_last (n d : Nat) (h : 0 < n) : HT.sIx n d (some (-1)) = n - 1 := by
  unfold HT.sIx
  simp only []
  first
    | (rw [if_pos (by omega)]; omega)
    | omega
theorem ev_slLast (h : EvD K te ρ (.tup ds)) (h1 : EvD K t1 ρ (.int (-1))) (hd : 0 < ds.length) : EvD K (tSl (rSl K) te tNoPart (tPart t1)) ρ (.tup (ds.take (ds.length - 1))) :=
  EvD.to (ev_slT h eo_no (eo_some h1) (fun z => by rw [sIx_last _ _ hd] at z; omega)) (by
    unfold cutD
    rw [HT.sIx_none, sIx_last _ _ hd, List.drop_zero, Nat.sub_zero])
/-- (min(xs), max(xs)) of a list of two, of a tuple of two -/
theorem ev_loL {x y : Nat} (h : EvD K te ρ (.lst (nD [x, y]))) : EvD K (tTup (tCons (tCB (rMin K) (tCons te tNil)) (tCons (tCB (rMax K) (tCons te tNil)) tNil))) ρ (barD (bI (loB x y))) := by
  have h : EvD K te ρ (.lst ([(x : Int), (y : Int)].map D.int)) := h
  refine EvD.to (ev_tup (ea_cons (ev_cb (ea_cons h ea_nil) (rc_min (m := min (x : Int) (y : Int)) ?_ ?_)) (ea_cons (ev_cb (ea_cons h ea_nil) (rc_max (m := max (x : Int) (y : Int)) ?_ ?_)) ea_nil)) (Nat.le_of_ble_eq_true rfl)) (loB_bar x y)
  · simp only [List.mem_cons, List.not_mem_nil, or_false]; omega
  · simp only [List.mem_cons, List.not_mem_nil, or_false]; intro z hz; omega
  · simp only [List.mem_cons, List.not_mem_nil, or_false]; omega
  · simp only [List.mem_cons, List.not_mem_nil, or_false]; intro z hz; omega
theorem ev_loT {x y : Nat} (h : EvD K te ρ (.tup (nD [x, y]))) : EvD K (tTup (tCons (tCB (rMinT K) (tCons te tNil)) (tCons (tCB (rMaxT K) (tCons te tNil)) tNil))) ρ (barD (bI (loB x y))) :=
  EvD.to (ev_tup (ea_cons (ev_cb (ea_cons (show EvD K te ρ (.tup [.int (x : Int), .int (y : Int)]) from h) ea_nil) rc_minT2) (ea_cons (ev_cb (ea_cons (show EvD K te ρ (.tup [.int (x : Int), .int (y : Int)]) from h) ea_nil) rc_maxT2) ea_nil)) (Nat.le_of_ble_eq_true rfl)) (loB_bar x y)
end
end Pl

/-! Plans as they are drawn. -/
namespace Pl
open PySem PySem.Spec PyProof.Rows L2
abbrev loP (p : Fr.Bar) : Fr.Bar := loB p.1 p.2
/-- a drawn plan of the first k joints of L: its bars as drawn, as told -/
structure PI (n : Nat) (L : List Nat) (k : Nat) (plan : List (List Nat)) (ub rows : List Fr.Bar) : Prop where
  g : Goes n [] plan rows
  pm : (ub.map loP).Perm rows
  pl : plan.length + 1 = k
  ul : ub.length + 3 = 2 * k
  jt : ∀ x, isJt rows x = true ↔ x ∈ L.take k
section
variable {n k : Nat} {L : List Nat} {plan : List (List Nat)} {ub rows : List Fr.Bar}
theorem pi_ok (h : PI n L k plan ub rows) : Fr.Ok n rows := h.g.ok fun _ h => nomatch h
theorem pi_bar (h : PI n L k plan ub rows) {p : Fr.Bar} (hp : p ∈ ub) : loP p ∈ rows ∧ p.1 ∈ L.take k ∧ p.2 ∈ L.take k ∧ p.1 ≠ p.2 := by
  have h1 : loP p ∈ rows := h.pm.mem_iff.mp (List.mem_map_of_mem hp)
  obtain ⟨_, _, o3⟩ := pi_ok h _ h1
  refine ⟨h1, (h.jt _).mp (isJt_iff.mpr ⟨_, h1, loB_ends.mpr (.inl rfl)⟩), (h.jt _).mp (isJt_iff.mpr ⟨_, h1, loB_ends.mpr (.inr rfl)⟩), fun e => o3 ?_⟩
  show min p.1 p.2 = max p.1 p.2
  omega
theorem take_next (nd : L.Nodup) (hk : k < L.length) : L.take (k + 1) = L.take k ++ [L.getD k 0] ∧ L.getD k 0 ∉ L.take k ∧ L.getD k 0 ∈ L := by
  have e : L.getD k 0 = L[k] := by rw [List.getD_eq_getElem?_getD, List.getElem?_eq_getElem hk]; rfl
  have e2 : L.take (k + 1) = L.take k ++ [L[k]] := by rw [List.take_add_one, List.getElem?_eq_getElem hk]; rfl
  rw [e]
  refine ⟨e2, fun z => ?_, List.getElem_mem hk⟩
  have nd2 : (L.take (k + 1)).Nodup := nd.sublist (List.take_sublist _ _)
  rw [e2] at nd2
  exact (List.nodup_append.mp nd2).2.2 _ z _ List.mem_cons_self rfl
theorem pi_start (nd : L.Nodup) (low : ∀ x ∈ L, x < n) (hl : 2 ≤ L.length) : PI n L 2 [[L.getD 0 0, L.getD 1 0]] [(L.getD 0 0, L.getD 1 0)] [loB (L.getD 0 0) (L.getD 1 0)] := by
  match L, hl with
  | a :: b :: r, _ =>
    have ne : a ≠ b := fun e => by
      subst e
      simp at nd
    have ok : okStep n [a, b] = true := okStep_iff.mpr ⟨⟨Nat.le_refl _, by simp⟩, fun x hx => by
      simp only [List.mem_cons, List.not_mem_nil, or_false] at hx
      rcases hx with rfl | rfl <;> exact low _ (by simp), by simpa using ne⟩
    exact ⟨.cons ok rfl .nil, List.Perm.refl _, rfl, rfl, fun x => by
      show isJt (stepRows [] [a, b]) x = true ↔ _
      rw [isJt_step rfl]
      simp [isJt_nil]⟩
theorem pi_three (h : PI n L k plan ub rows) (nd : L.Nodup) (low : ∀ x ∈ L, x < n) (hk : k < L.length) {p : Fr.Bar} (hp : p ∈ ub) {t : Nat} (ht : t ∈ L.take k) (t1 : t ≠ p.1) (t2 : t ≠ p.2) :
    PI n L (k + 1) (plan ++ [[L.getD k 0, p.1, p.2, t]]) ((ub.erase p ++ [(t, L.getD k 0)]) ++ [(p.1, L.getD k 0), (L.getD k 0, p.2)]) (stepRows rows [L.getD k 0, p.1, p.2, t]) := by
  obtain ⟨b1, b2, b3, b4⟩ := pi_bar h hp
  obtain ⟨e1, e2, e3⟩ := take_next nd hk
  generalize L.getD k 0 = v at *
  have lt : ∀ x ∈ L.take k, x < n := fun x hx => low x (List.mem_of_mem_take hx)
  have nv : ∀ x ∈ L.take k, x ≠ v := fun x hx e => e2 (e ▸ hx)
  have jv : isJt rows v = false := by
    cases q : isJt rows v with
    | false => rfl
    | true => exact absurd ((h.jt v).mp q) e2
  have ok : okStep n [v, p.1, p.2, t] = true := okStep_iff.mpr ⟨⟨by simp, by simp⟩, fun x hx => by
    simp only [List.mem_cons, List.not_mem_nil, or_false] at hx
    rcases hx with rfl | rfl | rfl | rfl
    · exact low _ e3
    · exact lt _ b2
    · exact lt _ b3
    · exact lt _ ht, by
    have n1 := nv _ b2
    have n2 := nv _ b3
    have n3 := nv _ ht
    simp only [List.nodup_cons, List.mem_cons, List.not_mem_nil, or_false, not_or, not_false_eq_true, List.nodup_nil, and_true]
    exact ⟨⟨fun e => n1 e.symm, fun e => n2 e.symm, fun e => n3 e.symm⟩, ⟨b4, fun e => t1 e.symm⟩, fun e => t2 e.symm⟩⟩
  have may : mayB rows [v, p.1, p.2, t] = true := by
    show ((!isJt rows v && (isJt rows p.1 && (isJt rows p.2 && isJt rows t))) && decide (loB p.1 p.2 ∈ rows)) = true
    rw [jv, (h.jt _).mpr b2, (h.jt _).mpr b3, (h.jt _).mpr ht, decide_eq_true b1]
    rfl
  refine ⟨h.g.app (.cons ok may .nil), ?_, by rw [List.length_append]; have := h.pl; show plan.length + 1 + 1 = k + 1; omega, ?_, fun x => ?_⟩
  · show (((ub.erase p ++ [(t, v)]) ++ [(p.1, v), (v, p.2)]).map loP).Perm (rows.erase (loP p) ++ [loB v p.1, loB v p.2, loB v t])
    have pe : ((ub.erase p).map loP).Perm (rows.erase (loP p)) := by
      have z : (loP p :: (ub.erase p).map loP).Perm rows := ((List.perm_cons_erase hp).map loP).symm.trans h.pm
      have := z.erase (loP p)
      rwa [List.erase_cons_head] at this
    rw [List.map_append, List.map_append, List.append_assoc]
    refine pe.append ?_
    show [loB t v, loB p.1 v, loB v p.2].Perm [loB v p.1, loB v p.2, loB v t]
    rw [loB_comm t v, loB_comm p.1 v]
    exact (List.Perm.swap _ _ _).trans ((List.Perm.swap _ _ _).cons _)
  · have := h.ul
    have l1 := List.length_erase_of_mem hp
    have l2 : 0 < ub.length := List.length_pos_of_mem hp
    rw [List.length_append, List.length_append, l1]
    show ub.length - 1 + 1 + 2 + 3 = _
    omega
  · rw [isJt_step may, h.jt, e1, List.mem_append, List.mem_singleton]
    simp only [List.mem_cons, List.not_mem_nil, or_false]
    constructor
    · rintro (z | rfl | rfl | rfl | rfl)
      · exact .inl z
      · exact .inr rfl
      · exact .inl b2
      · exact .inl b3
      · exact .inl ht
    · rintro (z | z)
      · exact .inl z
      · exact .inr (.inl z)
theorem pi_two (h : PI n L k plan ub rows) (nd : L.Nodup) (low : ∀ x ∈ L, x < n) (hk : k < L.length) {a b : Nat} (ha : a ∈ L.take k) (hb : b ∈ L.take k) (ne : a ≠ b) :
    PI n L (k + 1) (plan ++ [[L.getD k 0, b, a]]) (ub ++ [(a, L.getD k 0), (L.getD k 0, b)]) (stepRows rows [L.getD k 0, b, a]) := by
  obtain ⟨e1, e2, e3⟩ := take_next nd hk
  generalize L.getD k 0 = v at *
  have lt : ∀ x ∈ L.take k, x < n := fun x hx => low x (List.mem_of_mem_take hx)
  have nv : ∀ x ∈ L.take k, x ≠ v := fun x hx e => e2 (e ▸ hx)
  have jv : isJt rows v = false := by
    cases q : isJt rows v with
    | false => rfl
    | true => exact absurd ((h.jt v).mp q) e2
  have ok : okStep n [v, b, a] = true := okStep_iff.mpr ⟨⟨by simp, by simp⟩, fun x hx => by
    simp only [List.mem_cons, List.not_mem_nil, or_false] at hx
    rcases hx with rfl | rfl | rfl
    · exact low _ e3
    · exact lt _ hb
    · exact lt _ ha, by
    have n1 := nv _ ha
    have n2 := nv _ hb
    simp only [List.nodup_cons, List.mem_cons, List.not_mem_nil, or_false, not_or, not_false_eq_true, List.nodup_nil, and_true]
    exact ⟨⟨fun e => n2 e.symm, fun e => n1 e.symm⟩, fun e => ne e.symm⟩⟩
  have may : mayB rows [v, b, a] = true := by
    show (!isJt rows v && (isJt rows b && isJt rows a)) = true
    rw [jv, (h.jt _).mpr ha, (h.jt _).mpr hb]
    rfl
  refine ⟨h.g.app (.cons ok may .nil), ?_, by rw [List.length_append]; have := h.pl; show plan.length + 1 + 1 = k + 1; omega, ?_, fun x => ?_⟩
  · show ((ub ++ [(a, v), (v, b)]).map loP).Perm (rows ++ [loB v b, loB v a])
    rw [List.map_append]
    refine h.pm.append ?_
    show [loB a v, loB v b].Perm [loB v b, loB v a]
    rw [loB_comm a v]
    exact List.Perm.swap _ _ _
  · have := h.ul
    rw [List.length_append]
    show ub.length + 2 + 3 = _
    omega
  · rw [isJt_step may, h.jt, e1, List.mem_append, List.mem_singleton]
    simp only [List.mem_cons, List.not_mem_nil, or_false]
    constructor
    · rintro (z | rfl | rfl | rfl)
      · exact .inl z
      · exact .inr rfl
      · exact .inl hb
      · exact .inl ha
    · rintro (z | z)
      · exact .inl z
      · exact .inr (.inl z)
theorem pi_end (h : PI n L n plan ub rows) (hl : L.length = n) (all : ∀ x, x < n → x ∈ L) : (jtsL n rows).length = n := by
  refine Nat.le_antisymm jtsL_len ?_
  have : (List.range n).length ≤ (jtsL n rows).length := List.Nodup.length_le_of_subset List.nodup_range fun x hx => jtsL_mem.mpr ⟨List.mem_range.mp hx, (h.jt x).mpr (by
    rw [List.take_of_length_le (by omega)]
    exact all x (List.mem_range.mp hx))⟩
  rwa [List.length_range] at this
end
end Pl

/-! min(xs, key=lambda joint: ends.count(joint)), ends being a list of ints that a cell holds. -/
namespace Lam
open PySem PySem.Spec PyProof.Rows L2 LamX
open Pl (TbAt)
section
variable {prog : Program} {w : World} {A : Around} {s : Shared}
/-- the lambda's body -/
theorem cnt_eval {env : PySem.Env} {m : Str → Option Value} {ce e : Addr} {its : Array Value} {c : Nat} {sl : Array (Option Value)} {ns : List Int} {k : Int} {t : Tok} {p1 p2 ap pos : Pos} {Q : Value → Shared → Prop} {E : Value → Shared → Prop}
    (hk : env.scope.kind = .function) (hx : env.kindOf "ends" = some .free) (hcx : env.cells.lookup ("ends" : Str) = some ce) (hcell : s.heap.IsCell ce (some (.ref e)))
    (hy : env.kindOf "joint" = some .local) (hn : s.heap.Ns env.locals m) (hm : m "joint" = some (.int k t))
    (ho : s.heap.get? e = some { cls := .type "list", dict := none, data := .seq its c, slots := sl }) (hi : IntsAre its.toList ns)
    (h : Q (.int (ns.count k : Nat) s.toks) { s with toks := s.toks + 1 }) (hline : (ap.endLine == pos.line) = true) :
    wpAny (model prog w) A (eval (.Call (.Attribute (.Name "ends" p1) "count" ap) [.Name "joint" p2] [] pos) env) Q E s := by
  refine wpAny_Call_method_late (by rfl) (by rfl) hline rfl (wpAny_Name (wpAny_loadName_free hk hx hcx hcell ?_))
  have ty : s.TypeIs (.ref e) "list" := ⟨_, ho, rfl⟩
  refine ⟨"list", "list.count", PySem.F.plainAttrs_list, PySem.F.slot_list_count, PySem.F.type_list_count, ty, fun a ea => ?_, ?_⟩
  · cases ea
    exact ⟨_, ho, rfl⟩
  · refine Calls.callWith_builtin (by rfl) (Calls.evalArgs_plain ?_)
    refine Calls.spliced_cons (wpAny_Name (wpAny_loadName_local hk hy hn hm ?_))
    refine Calls.spliced_nil ?_
    refine call_meets PySem.F.slot_list_count ty PySem.F.entry_list_count (PySem.F.args_list_count_2 _ _) (SeqAt.list_countAt e its c none sl (.int k t) (eqk k)) ⟨ho, fun y hy => (eqk_gives hi y (by simpa using hy)).at _ _, ?_⟩
    have ec : its.toList.countP (eqk k) = ns.count k := eqk_count hi
    show Q (.int ((its.toList.countP (eqk k) : Nat) : Int) s.toks) _
    rw [ec]
    exact h
/-- the lambda that is called by a whole number: all that stands is kept -/
theorem lam_call {f c' ce e : Addr} {q : Str} {params : Arguments} {scope : Scope} {clos : List (Str × Addr)} {pm ctv : Value} {its : Array Value} {c : Nat} {sl : Array (Option Value)} {ns : List Int} {k : Int} {t : Tok} {p1 p2 ap pos : Pos} {Q : Value → Shared → Prop} {E : Value → Shared → Prop}
    (hroom : A.depth < recursionLimit) (lim : s.heap.NoLimit)
    (hf : s.heap.get? f = some (PySem.W.kla_obj "<lambda>" q params (.Call (.Attribute (.Name "ends" p1) "count" ap) [.Name "joint" p2] [] pos) scope clos pm c' ctv)) (hcode : s.heap.CodeRec (.ref c') q)
    (hk : scope.kind = .function) (hco : scope.isCoroutine = false) (hgen : scope.isGenerator = false) (hcl : ∀ x ∈ scope.names, x.2 ≠ .cell) (hx : scope.names.lookup ("ends" : Str) = some .free) (hy : scope.names.lookup ("joint" : Str) = some .local)
    (hbind : ∀ (cv : Value), bindArgs (PySem.W.kla_fn "<lambda>" q params (.Call (.Attribute (.Name "ends" p1) "count" ap) [.Name "joint" p2] [] pos) scope clos pm (.ref c') ctv) ⟨[cv], []⟩ = pure [(("joint" : Str), cv)])
    (hcx : clos.lookup ("ends" : Str) = some ce) (hcell : s.heap.IsCell ce (some (.ref e)))
    (ho : s.heap.get? e = some { cls := .type "list", dict := none, data := .seq its c, slots := sl }) (hi : IntsAre its.toList ns) (hline : (ap.endLine == pos.line) = true)
    (h : ∀ (h' : Heap) (tk t' : Nat), (∀ b o, s.heap.get? b = some o → h'.get? b = some o) → Q (.int (ns.count k : Nat) t') { s with heap := h', toks := tk }) :
    wpAny (model prog w) A (call (.ref f) [.int k t]) Q E s := by
  refine wpAny_call (PySem.W.kla_callFunE hroom hf rfl hco hgen rfl hcode ?_)
  rw [hbind]
  refine wpAny_pure (wpAny_newFunctionEnv hcl (fun x hxm => ?_) (fun h₁ hns hsb => ⟨lim.fresh _ hsb, ?_⟩) hk)
  · rw [List.mem_singleton.mp hxm]
    exact hy
  · refine PySem.W.kla_codeExpr ?_
    have kp : ∀ b o, s.heap.get? b = some o → h₁.get? b = some o := fun b o e => hsb.extBut b o (Nat.ne_of_lt (Heap.lt_size e)) (Heap.get?_push_of_some _ e)
    obtain ⟨oc, hoc, hdc⟩ := hcell
    refine cnt_eval (m := _) (ce := ce) (e := e) (its := its) (c := c) (sl := sl) (ns := ns) (k := k) (t := t) hk hx hcx ⟨oc, kp _ _ hoc, hdc⟩ hy hns rfl (kp _ _ ho) hi ?_ hline
    exact h _ _ _ kp
end
section
variable {X : Cx} {pins : List (Addr × Obj)} {σ : L2.St} {H : Hp} {s : Shared}
/-- min of a list by that lambda: the first of those that ends has the fewest of -/
theorem min_run {f c' ce e l : Addr} {q : Str} {params : Arguments} {scope : Scope} {clos : List (Str × Addr)} {pm ctv : Value} {ns es : List Int} {p1 p2 ap pos : Pos} {Q : Value → Shared → Prop} {E : Value → Shared → Prop}
    (I : Inv X pins σ H s) (hc : X.calm = true) (hroom : X.A.depth < recursionLimit)
    (hf : s.heap.get? f = some (PySem.W.kla_obj "<lambda>" q params (.Call (.Attribute (.Name "ends" p1) "count" ap) [.Name "joint" p2] [] pos) scope clos pm c' ctv)) (hco' : H c' = some (CodeO c' q))
    (hk : scope.kind = .function) (hco : scope.isCoroutine = false) (hgen : scope.isGenerator = false) (hcl : ∀ x ∈ scope.names, x.2 ≠ .cell) (hx : scope.names.lookup ("ends" : Str) = some .free) (hy : scope.names.lookup ("joint" : Str) = some .local)
    (hbind : ∀ (cv : Value), bindArgs (PySem.W.kla_fn "<lambda>" q params (.Call (.Attribute (.Name "ends" p1) "count" ap) [.Name "joint" p2] [] pos) scope clos pm (.ref c') ctv) ⟨[cv], []⟩ = pure [(("joint" : Str), cv)])
    (hcx : clos.lookup ("ends" : Str) = some ce) (hcell : s.heap.IsCell ce (some (.ref e))) (hline : (ap.endLine == pos.line) = true)
    (hl : SqL X.K H l (ns.map V.int)) (hne : 0 < ns.length) (he : SqL X.K H e (es.map V.int))
    (h : ∀ (i : Nat) (n : Int) (t : Tok) (s' : Shared), ns[i]? = some n → (∀ (j : Nat) (m : Int), ns[j]? = some m → es.count n ≤ es.count m ∧ (j < i → es.count n < es.count m)) → Inv X pins σ H s' → Q (.int n t) s') :
    wpAny (model X.prog X.w) X.A (call (.builtin "min") [.ref l] [(Str.ofString "key", .ref f)]) Q E s := by
  obtain ⟨m, F⟩ := I.fr
  obtain ⟨its, rv, ⟨ol, nl, ho, hcl1, hdn, hd⟩, _⟩ := I.list hl
  obtain ⟨ite, rve, ⟨⟨cls2, dd2, dt2, sl2⟩, c, hoe, hc2, hd2, hdt2⟩, _⟩ := I.list he
  simp only at hc2 hd2 hdt2
  subst hc2 hd2 hdt2
  have hi := ints_of_vals rv
  have hie := ints_of_vals rve
  have lenv : its.length = ns.length := hi.length
  have notL : ∀ b o, s.heap.get? b = some o → (∀ es ep, o.data ≠ .dict es ep) → b ≠ X.env.locals := fun b o eo nd z => by
    obtain ⟨o2, es2, ep2, e2, d2, _⟩ := F.ns
    rw [z, e2] at eo
    cases eo
    exact nd _ _ d2
  have keep : ∀ h, Fr X.base X.env.locals h m → News X.base X.env.locals h (allNews X.base s.heap X.env.locals) → ∀ b o, b ≠ X.env.locals → s.heap.get? b = some o → h.get? b = some o := fun h F' N' b o nb eo => by
    cases z : X.base.get? b with
    | none => exact (N' (b, o) (mem_allNews nb z eo)).1
    | some u =>
      have y := I.bk b u z
      rw [eo] at y
      cases y
      exact F'.keep b o z
  have crec := NdefX.codeO_at I.hok hco'
  refine kmk_min (vs := its) (fun i => (es.count (ns.getD i 0) : Nat)) (I.ok.hd hc) F news_all (fun h F' N' => ⟨ol, keep h F' N' l ol (notL l ol ho fun _ _ z => by rw [hd] at z; cases z) ho, hcl1, nl, hd⟩) (by omega) (fun i v hv h tk own F' N' => ?_) fun i v h' tk' hv hb F' N' => ?_
  · have hi' : i < its.length := (List.getElem?_eq_some_iff.mp hv).1
    have hn : ns[i]? = some (ns.getD i 0) := by
      rw [List.getD_eq_getElem?_getD, List.getElem?_eq_getElem (by omega)]
      rfl
    obtain ⟨t, ht⟩ := hi.get i _ hn
    rw [hv] at ht
    cases ht
    have kp := keep h F' fun p hp => N' p (List.mem_append_left _ hp)
    obtain ⟨oc, hoc, hdc⟩ := hcell
    obtain ⟨c2, o2, vs2, t2, e2, hoc2, hd3, hv2⟩ := crec
    cases e2
    refine lam_call (s := { s with heap := h, toks := tk }) hroom (I.ok.mod.nolimit.keeps F'.keep) (kp _ _ (notL _ _ hf fun _ _ z => by cases z) hf) ⟨_, o2, vs2, t2, rfl, kp _ _ (notL _ _ hoc2 fun _ _ z => by rw [hd3] at z; cases z) hoc2, hd3, hv2⟩ hk hco hgen hcl hx hy hbind hcx
      ⟨oc, kp _ _ (notL _ _ hoc fun _ _ z => by rw [hdc] at z; cases z) hoc, hdc⟩ (kp _ _ (notL _ _ hoe fun _ _ z => by cases z) hoe) (ns := es) (by simpa using hie) hline fun h' tk' t' kk => ?_
    exact KskEnd.intro (news' := allNews X.base s.heap X.env.locals ++ own) ⟨F'.ns.keeps kk, fun b o eo => kk _ _ (F'.keep b o eo), F'.above⟩ (fun p hp => ⟨kk _ _ (N' p hp).1, (N' p hp).2⟩) fun p hp => hp
  · have hi' : i < its.length := (List.getElem?_eq_some_iff.mp hv).1
    have hn : ns[i]? = some (ns.getD i 0) := by
      rw [List.getD_eq_getElem?_getD, List.getElem?_eq_getElem (by omega)]
      rfl
    obtain ⟨t, ht⟩ := hi.get i _ hn
    rw [hv] at ht
    cases ht
    have kp := keep h' F' N'
    refine h i _ t _ hn (fun j k hj => ?_) (I.step (ch := []) (g' := s.gens) (d' := s.drawn) (fun b hb => absurd hb (by simp)) (fun b o nb _ _ eo _ => kp b o nb eo) (fun b o nb _ _ eo _ => ⟨o.slots, kp b o nb eo⟩) (fun b o _ _ n => n) (fun b o _ eo => ?_) (fun _ _ e => e) (fun _ _ _ e => e) (fun b ps e => ⟨#[], by rw [e]; simp⟩) (fun m' hm => ?_) ?_ I.bare)
    · have hjl : j < its.length := by rw [lenv]; exact (List.getElem?_eq_some_iff.mp hj).1
      have ej : ns.getD j 0 = k := by rw [List.getD_eq_getElem?_getD, hj]; rfl
      have z := hb j hjl
      simp only [ej] at z
      exact ⟨by omega, fun q => by have := z.2 q; omega⟩
    · by_cases hb2 : b = X.env.locals
      · obtain ⟨o2, _, _, e2, _⟩ := F'.ns
        exact ⟨o2, by rw [hb2]; exact e2⟩
      · exact ⟨o, kp b o hb2 eo⟩
    · rw [SlX.ns_only hm F.ns]
      exact F'.ns
    · intro b u eu
      have lk : ∀ b o, (b = b ∧ ∃ u, H b = some u) → s.heap.get? b = some o → h'.get? b = some o := fun b o ⟨_, u, hu⟩ eo => kp b o (fun z => by rw [z, I.free] at hu; cases hu) eo
      refine (I.hok b u eu).stay (fun d v hd eo => ?_) (fun _ e => e) (fun _ _ e => e)
      refine lk d v ⟨rfl, ?_⟩ eo
      rcases hd with z | z
      · exact ⟨u, by rw [z]; exact eu⟩
      · exact ⟨_, z⟩
end
section
variable {X : Cx} {pins : List (Addr × Obj)} {σ : L2.St} {H : Hp} {s : Shared}
/-- the lambda is made; either nothing but the function is new, or a code object as well, which the table then tells -/
theorem lam_new {q : Str} {S : Hp} {c P : Addr} {params : Arguments} {body : Expr} {scope : Scope} {pos : Pos} {E : Value → Shared → Prop} {Q : Value → Shared → Prop} (I : Inv X pins σ H s) (eS : ∀ a o, S a = some o → H a = some o) (TB : TabB X.base X.mg c P) (hcode : X.env.code = .ref c)
    (hq : q = X.env.qual ++ "<lambda>") (hT : TbAt S H P q) (hP0 : S P = none) (hdef : defaultsOf params X.env = ([], [])) (hfree : ∀ y ∈ scope.names, y.2 = .free → ∃ c, X.env.cells.lookup y.1 = some c)
    (h : ∀ (f k : Addr) (pm ct : Value) (S1 H1 : Hp) (s1 : Shared), Inv X pins σ H1 s1 → (∀ b o, s.heap.get? b = some o → b ≠ P → s1.heap.get? b = some o) →
      ((S1 = S ∧ H1 = H) ∨ (H k = none ∧ k ≠ P ∧ S1 = upd S k (CodeO k q) ∧ ∃ ts, H1 = upd (upd H k (CodeO k q)) P (.tbl ts))) → TbAt S1 H1 P q → S1 k = some (CodeO k q) → H1 k = some (CodeO k q) →
      s1.heap.get? f = some (PySem.W.kla_obj "<lambda>" q params body scope (cloFrom X.env.cells scope.names []) pm k ct) → Q (.ref f) s1) :
    wpAny (model X.prog X.w) X.A (eval (.Lambda params body scope pos) X.env) Q E s := by
  obtain ⟨qs, t1, t2, t3⟩ := hT
  have bl : s.heap.BuiltinsAt X.mg P := TB.bm.keeps I.bk
  have tb : s.heap.get? P = some { cls := .none, data := .fields qs } := I.hok P _ t1
  subst hq
  refine PySem.W.kla_eval hdef ?_
  rcases e : codeAmong pos qs.toList with _ | v
  · refine PySem.W.kla_makeFunction (c := c) (P := P) (mg := X.mg) (ps := qs) (closure_ok hfree) I.ok.glob (I.mod.glob.keeps I.bk) hcode (TB.code.keeps I.bk) tb t2 e TB.gP bl fun k ct h2 tk hx hge hlt hrec htb => ?_
    obtain ⟨k2, oc, vs, t, ek, hoc, hd, hv⟩ := hrec
    cases ek
    have big : s.heap.objs.size ≤ h2.objs.size := Nat.le_trans hge (Nat.le_of_lt hlt)
    have kn : H k = none := I.hok.fresh hge
    have kP : P ≠ k := ne_of_none t1 kn
    have up : ∀ {b : Addr} {o : Obj}, h2.get? b = some o → (h2.push (PySem.W.kla_obj "<lambda>" (X.env.qual ++ "<lambda>") params body scope (cloFrom X.env.cells scope.names []) ((X.mg "__name__").getD .none) k ct)).get? b = some o := fun z => Heap.get?_push_of_some _ z
    have J := inv_table (q := X.env.qual ++ "<lambda>") (t' := tk) (more := #[rawInt pos.line, rawInt pos.col, .ref k]) I t1 (fun b o nb z => up (hx b o nb z)) (up htb) hge ⟨oc, vs, t, up hoc, hd, hv⟩
    have sw : upd (upd H P (.tbl (qs ++ #[rawInt pos.line, rawInt pos.col, .ref k]))) k (CodeO k (X.env.qual ++ "<lambda>")) = upd (upd H k (CodeO k (X.env.qual ++ "<lambda>"))) P (.tbl (qs ++ #[rawInt pos.line, rawInt pos.col, .ref k])) := by
      funext b
      by_cases b1 : b = k
      · subst b1
        rw [upd_same, upd_ne (Ne.symm kP), upd_same]
      · rw [upd_ne b1]
        by_cases b2 : b = P
        · subst b2
          rw [upd_same, upd_same]
        · rw [upd_ne b2, upd_ne b2, upd_ne b1]
    rw [sw] at J
    refine h h2.objs.size k ((X.mg "__name__").getD .none) ct (upd S k (CodeO k (X.env.qual ++ "<lambda>"))) _ _ J (fun b o z nb => up (hx b o nb z)) (.inr ⟨kn, Ne.symm kP, rfl, _, rfl⟩) ⟨_, upd_same, ?_, fun p2 v hv2 => ?_⟩ upd_same ?_ (Heap.get?_push_size _ rfl)
    · rw [Array.toList_append]
      exact PySem.TriplesOk_snoc _ _ _ _ t2
    · rw [Array.toList_append] at hv2
      rcases among_app _ t2 hv2 with z | z
      · obtain ⟨c0, e1, e2⟩ := t3 p2 v z
        refine ⟨c0, e1, ?_⟩
        rw [upd_ne (fun w => by rw [w] at e2; rw [eS _ _ e2] at kn; cases kn)]
        exact e2
      · exact ⟨k, z, upd_same⟩
    · rw [upd_ne (Ne.symm kP), upd_same]
  · obtain ⟨k, ek, hk⟩ := t3 pos v e
    subst ek
    refine PySem.W.kla_makeFunctionHit (c := c) (P := P) (mg := X.mg) (ps := qs) (closure_ok hfree) I.ok.glob (I.mod.glob.keeps I.bk) hcode (TB.code.keeps I.bk) tb t2 e bl fun ct h2 tk hx big => ?_
    have kp : ∀ b o, s.heap.get? b = some o → (h2.push (PySem.W.kla_obj "<lambda>" (X.env.qual ++ "<lambda>") params body scope (cloFrom X.env.cells scope.names []) ((X.mg "__name__").getD .none) k ct)).get? b = some o := fun b o z => Heap.get?_push_of_some _ (hx b o z)
    exact h h2.objs.size k ((X.mg "__name__").getD .none) ct S H _ (I.kept kp) (fun b o z _ => kp b o z) (.inl ⟨rfl, rfl⟩) ⟨qs, t1, t2, t3⟩ hk (eS _ _ hk) (Heap.get?_push_size _ rfl)
/-- the reading: the list, the list in the slot j, the table at P -/
def tMinCnt (K : PySem.W.Frag) (P : Addr) (q : Str) (j : Nat) (ta : TA) : TE := fun σ H Q => ta σ H fun vs H1 => ∃ (S : Hp) (l e : Addr) (ns es : List Int), vs = [.ref l] ∧ SqL K H1 l (ns.map V.int) ∧ 0 < ns.length ∧ σ[j]? = some (some (.ref e)) ∧ SqL K H1 e (es.map V.int) ∧
  (∀ a o, S a = some o → H1 a = some o) ∧ S P = none ∧ TbAt S H1 P q ∧ ∀ (i : Nat) (n : Int) (k : Addr) (S2 H2 : Hp), ns[i]? = some n → (∀ (j : Nat) (m : Int), ns[j]? = some m → es.count n ≤ es.count m ∧ (j < i → es.count n < es.count m)) →
    ((S2 = S ∧ H2 = H1) ∨ (H1 k = none ∧ k ≠ P ∧ S2 = upd S k (CodeO k q) ∧ ∃ ts, H2 = upd (upd H1 k (CodeO k q)) P (.tbl ts))) → TbAt S2 H2 P q → Q (.int n) H2
/-- a look at the lambda's scope -/
def scopeL (scope : Scope) : Bool := decide (scope.kind = .function) && !scope.isCoroutine && !scope.isGenerator && scope.names.all (fun x => !decide (x.2 = .cell)) && decide (scope.names.lookup ("ends" : Str) = some .free) && decide (scope.names.lookup ("joint" : Str) = some .local) && scope.names.all (fun x => !decide (x.2 = .free) || decide (x.1 = "ends"))
theorem pe_minCnt {P c : Addr} {q : Str} {j : Nat} {params : Arguments} {scope : Scope} {lpos kpos p pos p1 p2 ap bp : Pos} {arg : Expr} {ta : TA} (hc : X.calm = true) (hr : Room 1 X.A) (hg : Gl X "min") (hm : X.mg "min" = none) (ha : PA X [arg] ta)
    (TB : TabB X.base X.mg c P) (hcode : X.env.code = .ref c) (hq : q = X.env.qual ++ "<lambda>") (hdef : defaultsOf params X.env = ([], [])) (hs : scopeL scope = true) (hN : X.N[j]? = some "ends") (hv : X.env.kindOf "ends" = some .cell)
    (hbind : ∀ (q : Str) (cl : List (Str × Addr)) (pm cd ct cv : Value), bindArgs (PySem.W.kla_fn "<lambda>" q params (.Call (.Attribute (.Name "ends" p1) "count" ap) [.Name "joint" p2] [] bp) scope cl pm cd ct) ⟨[cv], []⟩ = pure [(("joint" : Str), cv)]) (hline : (ap.endLine == bp.line) = true)
    (he : backTo pos (starEach [arg] X.env) = (false, eval arg X.env) :: backTo pos (starEach [] X.env) := by rfl) (hpl : (backTo pos (starEach [arg] X.env)).any (·.1) = false := by rfl) :
    PE X (.Call (.Name "min" p) [arg] [⟨some "key", .Lambda params (.Call (.Attribute (.Name "ends" p1) "count" ap) [.Name "joint" p2] [] bp) scope lpos, kpos⟩] pos) (tMinCnt X.K P q j ta) := by
  unfold scopeL at hs
  simp only [Bool.and_eq_true, Bool.not_eq_true', decide_eq_true_eq, List.all_eq_true, Bool.or_eq_true, decide_eq_false_iff_not] at hs
  obtain ⟨⟨⟨⟨⟨⟨s1, s2⟩, s3⟩, s4⟩, s5⟩, s6⟩, s7⟩ := hs
  refine ⟨fun pins s σ H Q I h => ?_⟩
  refine wpAny_Call_Name_kw (ld_blt I hg hm (show bootBuiltins "min" = some (.builtin "min") by decide +kernel) ?_)
  refine PyProof.Rows.callWith_kw (thn (ha.run pos pins s σ H _ I h) fun us s1' ⟨vs, H1, I1, r1, q1⟩ => PyProof.Rows.kws_cons ?_) he hpl
  obtain ⟨S, l, e, ns, es, rfl, hl, hne, hj, hes, eS, hSP, hT, q2⟩ := q1
  obtain ⟨u, rfl, ru⟩ := Vals.one r1
  cases ru
  have hfr : ∀ y ∈ scope.names, y.2 = .free → ∃ c, X.env.cells.lookup y.1 = some c := fun y hy ey => by
    have z := (s7 y hy).resolve_left fun w => w ey
    rw [z]
    exact I.ok.has _ (.inl hv)
  refine lam_new I1 eS TB hcode hq hT hSP hdef hfr fun f k pm ct S1 H2 sB IB kB alt hT2 hk1 hk2 hf => PyProof.Rows.kws_nil ?_
  show wpAny _ _ (call (.builtin "min") [.ref l] [(Str.ofString "key", .ref f)]) _ _ _
  have lift : ∀ a xs, SqL X.K H1 a xs → SqL X.K H2 a xs := fun a xs z => by
    rcases alt with ⟨_, e2⟩ | ⟨kn, _, _, ts, e2⟩
    · rw [e2]
      exact z
    · obtain ⟨_, t1, _⟩ := hT
      have st : ∀ o, H1 a = some o → (∀ qs, o ≠ .tbl qs) → H2 a = some o := fun o zo nt => by
        rw [e2, upd_ne (fun w => by rw [w, t1] at zo; exact nt _ (Option.some.inj zo).symm), upd_ne (ne_of_none zo kn)]
        exact zo
      rcases z with (z | ⟨o, z⟩) | z
      · exact .inl (.inl (st _ z fun _ w => by cases w))
      · exact .inl (.inr ⟨o, st _ z fun _ w => by cases w⟩)
      · exact .inr z
  obtain ⟨m, hn, lk⟩ := IB.loc
  obtain ⟨u, ru2, hlook⟩ := lk j "ends" (.ref e) hN hj (.inr (.inl hv))
  cases ru2
  have hlook := hlook.resolve_left fun z => by
    rw [hv] at z
    cases z.1
  obtain ⟨_, ce, hce, hcell⟩ := hlook
  have hin : (("ends" : Str), NameKind.free) ∈ scope.names := PySem.mem_of_lookup s5
  refine min_run IB hc hr.depth hf hk2 s1 s2 s3 (fun x hx => s4 x hx) s5 s6 (fun cv => hbind _ _ _ _ _ cv) (NdefX.clo_has hfr hin hce) hcell hline (lift _ _ hl) hne (lift _ _ hes) fun i n t s' hi hb J => ?_
  exact ⟨.int n, H2, J, ⟨t, rfl⟩, q2 i n k S1 H2 hi hb (by
    rcases alt with w | ⟨w1, w2, w3, w4⟩
    · exact .inl w
    · exact .inr ⟨w1, w2, w3, w4⟩) hT2⟩
end
end Lam
namespace Pl
open PySem PySem.Spec PyProof.Rows L2 LamX
open Evl (Ex)
section
variable {K : PySem.W.Frag} {S0 H0 S H S' H' : Hp} {σ : L2.St} {ρ ρ' : Rho} {g gl gr : Gs} {ta : TA}
/-- the table told anew -/
theorem SG.retab {P k : Addr} {q : Str} {H2 S2 : Hp} (st : SG K S0 H0 ρ g S H σ) (hg : (P, .tb q P) ∈ g)
    (alt : (S2 = S ∧ H2 = H) ∨ (H k = Option.none ∧ k ≠ P ∧ S2 = upd S k (CodeO k q) ∧ ∃ ts, H2 = upd (upd H k (CodeO k q)) P (.tbl ts))) (hT : TbAt S2 H2 P q) : Ex S S2 ∧ SG K S0 H0 ρ g S2 H2 σ := by
  rcases alt with ⟨e1, e2⟩ | ⟨kn, kP, e1, ts, e2⟩
  · rw [e1, e2]
    exact ⟨Ex.refl S, st⟩
  · have xn := Ext.new st.sub (o := CodeO k q) kn
    have st1 := st.go xn
    rw [← e1] at st1 xn
    obtain ⟨fp, rg, s1⟩ := st1
    refine ⟨xn.s, fp, ⟨?_, rg.nd, rg.no⟩, ?_⟩
    · obtain ⟨gl, gr, rfl⟩ := List.append_of_mem hg
      have o := rg.own
      have nd := rg.nd
      rw [gv_app, gm_app] at o ⊢
      obtain ⟨f1, f2, ef, o1, o2⟩ := o.split gv_len
      subst ef
      have o2 : OwnL K S2 (upd H k (CodeO k q)) (.ref P :: gv gr) (.tb q P :: gm gr) f2 := o2
      cases o2 with
      | cons h r =>
        cases h with
        | tb h0 =>
          rename_i f3
          obtain ⟨n1, n2, n3⟩ := List.nodup_append.mp nd
          have n2 := List.nodup_cons.mp (show (P :: f3).Nodup from n2)
          have same : ∀ a, a ≠ P → H2 a = upd H k (CodeO k q) a := fun a ha => by rw [e2, upd_ne ha]
          have z : OwnL K S2 H2 (.ref P :: gv gr) (.tb q P :: gm gr) ([P] ++ f3) := .cons (.tb hT) (r.mono (Ex.refl S2) fun a ha => same a fun w => n2.1 (w ▸ ha))
          exact (o1.mono (Ex.refl S2) fun a ha => same a fun w => n3 a ha P (by simp) w).append z
    · have hP : P ∈ fp := by
        obtain ⟨f, h1, h2⟩ := rg.own.mem hg
        cases h2 with
        | tb _ => exact h1 _ List.mem_cons_self
      have nS := SG.noS s1 rg
      have same : ∀ a, a ≠ P → H2 a = upd H k (CodeO k q) a := fun a ha => by rw [e2, upd_ne ha]
      refine s1.mv rg.no rg.own.lays (Ex.refl S2) (fun a o ha => ?_) (fun a ha _ => same a fun w => ha (w ▸ hP)) (fun a _ h _ => h) fun a ha => ⟨.inl ha, nS a ha⟩
      rw [same a fun w => by rw [w, nS P hP] at ha; cases ha]
      exact s1.ext.sub a o ha
theorem SG.tabAt {P : Addr} {q : Str} (st : SG K S0 H0 ρ g S H σ) (hg : (P, .tb q P) ∈ g) : S P = Option.none ∧ TbAt S H P q := by
  obtain ⟨fp, rg, s1⟩ := st
  obtain ⟨f, h1, h2⟩ := rg.own.mem hg
  have nS := SG.noS s1 rg
  cases h2 with
  | tb h => exact ⟨nS P (h1 _ List.mem_cons_self), h⟩
/-- the first of ns with the fewest in es -/
def Fewest (es ns : List Int) (n : Int) : Prop := ∃ i, ns[i]? = some n ∧ ∀ (j : Nat) (m : Int), ns[j]? = some m → es.count n ≤ es.count m ∧ (j < i → es.count n < es.count m)
theorem Fewest.uniq {es ns : List Int} {n m : Int} (h : Fewest es ns n) (h' : Fewest es ns m) : n = m := by
  obtain ⟨i, a, b⟩ := h
  obtain ⟨j, c, d⟩ := h'
  rcases Nat.lt_trichotomy i j with q | q | q
  · have := (d i n a).2 q
    have := (b j m c).1
    omega
  · subst q
    rw [a] at c
    exact Option.some.inj c
  · have := (b j m c).2 q
    have := (d i n a).1
    omega
theorem EvX.minCnt {P : Addr} {q : Str} {j : Nat} {ns es : List Int} {n : Int} (ha : EvA K ta ρ [.lst (ns.map D.int)]) (hg : (P, .tb q P) ∈ g) (hj : ρ[j]? = some (.k (.lst (es.map D.int)))) (hn : Fewest es ns n) : EvX K (Lam.tMinCnt K P q j ta) ρ g (.d (.int n)) g := fun S0 H0 S H σ st Q q0 =>
  ha S H σ st.sub st.env _ fun vs S1 H1 x1 r1 => by
    have st1 := st.go x1
    obtain ⟨v, hv1, hv2⟩ := st1.env.val j _ hj
    obtain ⟨sp, hT⟩ := st1.tabAt hg
    cases r1 with
    | cons ra rb =>
      cases rb
      cases ra with
      | lst ha rl =>
        have e1 := rl.ints
        subst e1
        cases hv2 with
        | lst hb rb =>
          have e2 := rb.ints
          subst e2
          refine ⟨S1, _, _, ns, es, rfl, Evl.sq_of (x1.sub _ _ ha), ?_, hv1, Evl.sq_of (x1.sub _ _ hb), x1.sub, sp, hT, fun i m k S2 H2 hi hm alt hT2 => ?_⟩
          · obtain ⟨i, hi, _⟩ := hn
            exact Nat.lt_of_le_of_lt (Nat.zero_le i) (List.getElem?_eq_some_iff.mp hi).1
          · have e := Fewest.uniq hn ⟨i, hi, hm⟩
            subst e
            obtain ⟨ex, st2⟩ := st1.retab hg alt hT2
            exact q0 _ S2 H2 (x1.s.trans ex) ⟨st2, .int n⟩
end
end Pl

/-! Steps backwards: a joint of few bars is taken off lean bars that fill their joints. -/
namespace Pl
open Fr (Bar JS)
def touch (v : Nat) (b : Bar) : Bool := decide (b.1 = v) || decide (b.2 = v)
def dg (r : List Bar) (v : Nat) : Nat := r.countP (touch v)
def restB (r : List Bar) (v : Nat) : List Bar := r.filter fun b => !touch v b
def offB (v : Nat) (b : Bar) : Nat := b.1 + b.2 - v
def farB (r : List Bar) (v : Nat) : List Nat := (r.filter (touch v)).map (offB v)
/-- lean bars that are as many as their joints allow -/
structure Fill (n : Nat) (r : List Bar) : Prop where
  ok : Fr.Ok n r
  sl : Fr.Slim n r
  full : r.length + 3 = 2 * (jtsL n r).length
section
variable {n v : Nat} {r : List Bar}
theorem touch_iff {b : Bar} : touch v b = true ↔ b.1 = v ∨ b.2 = v := by
  unfold touch
  rw [Bool.or_eq_true, decide_eq_true_eq, decide_eq_true_eq]
theorem jts_card : Fr.card n (isJt r) = (jtsL n r).length := by
  unfold Fr.card jtsL
  exact List.countP_eq_length_filter
theorem jts_ins : Fr.ins r (isJt r) = r.length := by
  unfold Fr.ins
  rw [List.countP_eq_length]
  intro b hb
  rw [isJt_iff.mpr ⟨b, hb, .inl rfl⟩, isJt_iff.mpr ⟨b, hb, .inr rfl⟩]
  rfl
theorem jts_two (ok : Fr.Ok n r) (hr : r ≠ []) : 2 ≤ (jtsL n r).length := by
  cases r with
  | nil => exact absurd rfl hr
  | cons b l =>
    obtain ⟨o1, o2, o3⟩ := ok b List.mem_cons_self
    rw [← jts_card]
    exact Fr.two_le_card o1 o2 o3 (isJt_iff.mpr ⟨b, List.mem_cons_self, .inl rfl⟩) (isJt_iff.mpr ⟨b, List.mem_cons_self, .inr rfl⟩)
theorem slim_jts (ok : Fr.Ok n r) (sl : Fr.Slim n r) (hr : r ≠ []) : r.length + 3 ≤ 2 * (jtsL n r).length := by
  have := sl (isJt r) (by rw [jts_card]; exact jts_two ok hr)
  rwa [jts_ins, jts_card] at this
theorem split_perm : (restB r v ++ r.filter (touch v)).Perm r := by
  have h := List.filter_append_perm (touch v) r
  exact List.perm_append_comm.trans h
theorem rest_dg : (restB r v).length + dg r v = r.length := by
  have z := (split_perm (r := r) (v := v)).length_eq
  rw [List.length_append] at z
  unfold dg
  rw [List.countP_eq_length_filter]
  exact z
theorem far_len : (farB r v).length = dg r v := by
  unfold farB dg
  rw [List.length_map, List.countP_eq_length_filter]
theorem rest_sub : (restB r v).Sublist r := List.filter_sublist
theorem rest_jt {x : Nat} (h : isJt (restB r v) x = true) : isJt r x = true ∧ x ≠ v := by
  obtain ⟨b, hb, e⟩ := isJt_iff.mp h
  obtain ⟨h1, h2⟩ := List.mem_filter.mp hb
  refine ⟨isJt_iff.mpr ⟨b, h1, e⟩, fun z => ?_⟩
  subst z
  rw [touch_iff.mpr e] at h2
  cases h2
theorem wo_ins (S : JS) : Fr.ins r (Fr.wo S v) = Fr.ins (restB r v) S := by
  unfold Fr.ins restB
  rw [List.countP_filter]
  refine List.countP_congr fun b _ => ?_
  unfold Fr.wo touch
  cases S b.1 <;> cases S b.2 <;> simp
/-- few joints that are other ones -/
theorem jts_off {q : List Bar} (hv : isJt r v = true) (hvn : v < n) (h : ∀ x, isJt q x = true → isJt r x = true ∧ x ≠ v) : (jtsL n q).length + 1 ≤ (jtsL n r).length ∧ ((jtsL n r).length ≤ (jtsL n q).length + 1 → ∀ x, isJt r x = true → x < n → x ≠ v → isJt q x = true) := by
  have nd : (v :: jtsL n q).Nodup := List.nodup_cons.mpr ⟨fun z => (h v (jtsL_mem.mp z).2).2 rfl, jtsL_nodup⟩
  have sub : ∀ x ∈ v :: jtsL n q, x ∈ jtsL n r := fun x hx => by
    rcases List.mem_cons.mp hx with rfl | hx
    · exact jtsL_mem.mpr ⟨hvn, hv⟩
    · obtain ⟨h1, h2⟩ := jtsL_mem.mp hx
      exact jtsL_mem.mpr ⟨h1, (h x h2).1⟩
  have le := List.Nodup.length_le_of_subset nd sub
  rw [List.length_cons] at le
  refine ⟨le, fun ge x hx xn xv => ?_⟩
  cases q' : isJt q x with
  | true => rfl
  | false =>
    have nx : x ∉ v :: jtsL n q := fun z => by
      rcases List.mem_cons.mp z with z | z
      · exact xv z
      · rw [(jtsL_mem.mp z).2] at q'
        cases q'
    have nd2 : (x :: v :: jtsL n q).Nodup := List.nodup_cons.mpr ⟨nx, nd⟩
    have le2 := List.Nodup.length_le_of_subset nd2 (l₂ := jtsL n r) fun y hy => by
      rcases List.mem_cons.mp hy with rfl | hy
      · exact jtsL_mem.mpr ⟨xn, hx⟩
      · exact sub y hy
    rw [List.length_cons, List.length_cons] at le2
    omega
theorem dg_pos (hv : isJt r v = true) : 0 < dg r v := by
  obtain ⟨b, hb, e⟩ := isJt_iff.mp hv
  exact List.countP_pos_iff.mpr ⟨b, hb, touch_iff.mpr e⟩
theorem dg_two (f : Fill n r) (h1 : 1 < r.length) (hv : isJt r v = true) (hvn : v < n) : 2 ≤ dg r v := by
  have c := Fr.card_wo (S := isJt r) hvn hv
  rw [jts_card] at c
  have z := f.full
  have s := f.sl (Fr.wo (isJt r) v) (by omega)
  rw [wo_ins] at s
  have e : Fr.ins (restB r v) (isJt r) = (restB r v).length := by
    unfold Fr.ins
    rw [List.countP_eq_length]
    intro b hb
    have hb := rest_sub.subset hb
    rw [isJt_iff.mpr ⟨b, hb, .inl rfl⟩, isJt_iff.mpr ⟨b, hb, .inr rfl⟩]
    rfl
  have l := rest_dg (r := r) (v := v)
  omega
theorem sum_const {α : Type} (c : Nat) : ∀ l : List α, (l.map fun _ => c).sum = l.length * c
  | [] => by simp
  | _ :: l => by
    rw [List.map_cons, List.sum_cons, sum_const c l, List.length_cons, Nat.succ_mul, Nat.add_comm]
theorem dg_three (f : Fill n r) (least : ∀ u, isJt r u = true → u < n → dg r v ≤ dg r u) : dg r v ≤ 3 := by
  have sw := Fr.sum_swap (fun (b : Bar) (x : Nat) => touch x b) (jtsL n r) r
  have le : (r.map fun b => (jtsL n r).countP fun x => touch x b).sum ≤ (r.map fun _ => 2).sum := Fr.sum_le fun b hb => by
    obtain ⟨o1, o2, o3⟩ := f.ok b hb
    have z : (jtsL n r).countP (fun x => touch x b) ≤ (List.range n).countP (fun x => touch x b) := List.Sublist.countP_le List.filter_sublist
    have y : (List.range n).countP (fun x => touch x b) = Fr.card n (Fr.two b.1 b.2) := Fr.countP_same fun x _ => by
      unfold touch Fr.two
      rw [Bool.eq_iff_iff]
      simp only [Bool.or_eq_true, decide_eq_true_eq, beq_iff_eq]
      constructor <;> rintro (h | h) <;> omega
    rw [Fr.card_two o1 o2 o3] at y
    omega
  have ge : ((jtsL n r).map fun _ => dg r v).sum ≤ ((jtsL n r).map fun x => r.countP fun b => touch x b).sum := Fr.sum_le fun x hx => by
    obtain ⟨h1, h2⟩ := jtsL_mem.mp hx
    exact least x h2 h1
  rw [sum_const] at le ge
  have z := f.full
  have fin : (jtsL n r).length * dg r v ≤ r.length * 2 := Nat.le_trans ge (by rw [← sw]; exact le)
  cases Nat.lt_or_ge 3 (dg r v) with
  | inr h => exact h
  | inl h =>
    have := Nat.mul_le_mul_left (jtsL n r).length (show 4 ≤ dg r v from h)
    omega
/-- the far ends are different joints -/
theorem far_mem {x : Nat} (ok : Fr.Ok n r) (h : x ∈ farB r v) : isJt r x = true ∧ x < n ∧ x ≠ v ∧ v < n := by
  obtain ⟨b, hb, rfl⟩ := List.mem_map.mp h
  obtain ⟨h1, h2⟩ := List.mem_filter.mp hb
  obtain ⟨o1, o2, o3⟩ := ok b h1
  unfold offB
  rcases touch_iff.mp h2 with e | e
  · have z : b.1 + b.2 - v = b.2 := by omega
    rw [z]
    exact ⟨isJt_iff.mpr ⟨b, h1, .inr rfl⟩, o2, by omega, by omega⟩
  · have z : b.1 + b.2 - v = b.1 := by omega
    rw [z]
    exact ⟨isJt_iff.mpr ⟨b, h1, .inl rfl⟩, o1, by omega, by omega⟩
theorem off_lo {b : Bar} (h : touch v b = true) : loB b.1 b.2 = loB v (offB v b) := by
  unfold offB
  rcases touch_iff.mp h with e | e
  · rw [show b.1 + b.2 - v = b.2 by omega, e]
  · rw [show b.1 + b.2 - v = b.1 by omega, e, loB_comm]
theorem far_lo : (r.filter (touch v)).map loP = (farB r v).map (loB v) := by
  unfold farB
  rw [List.map_map]
  exact List.map_congr_left fun b hb => off_lo (List.mem_filter.mp hb).2
theorem far_nodup (ok : Fr.Ok n r) (sl : Fr.Slim n r) : (farB r v).Nodup := by
  unfold farB
  rw [List.Nodup, List.pairwise_map]
  have sub : (r.filter (touch v)).Sublist r := List.filter_sublist
  have slf := sl.sub sub
  have all : ∀ b ∈ r.filter (touch v), touch v b = true ∧ b.1 < n ∧ b.2 < n ∧ b.1 ≠ b.2 := fun b hb => ⟨(List.mem_filter.mp hb).2, ok b (List.mem_filter.mp hb).1⟩
  generalize r.filter (touch v) = l at slf all
  induction l with
  | nil => exact .nil
  | cons b l ih =>
    refine .cons (fun c hc e => ?_) (ih (slf.sub (List.sublist_cons_self b l)) fun x hx => all x (List.mem_cons_of_mem _ hx))
    obtain ⟨t1, a1, a2, a3⟩ := all b List.mem_cons_self
    obtain ⟨t2, c1, c2, c3⟩ := all c (List.mem_cons_of_mem _ hc)
    have s := slf (Fr.two b.1 b.2) (by rw [Fr.card_two a1 a2 a3]; exact Nat.le_refl 2)
    rw [Fr.card_two a1 a2 a3, Fr.ins_cons] at s
    have in1 : (Fr.two b.1 b.2 b.1 && Fr.two b.1 b.2 b.2) = true := by simp [Fr.two]
    have same : (c.1 = b.1 ∧ c.2 = b.2) ∨ (c.1 = b.2 ∧ c.2 = b.1) := by
      have e : b.1 + b.2 - v = c.1 + c.2 - v := e
      rcases touch_iff.mp t1 with q1 | q1 <;> rcases touch_iff.mp t2 with q2 | q2 <;> omega
    have p := Fr.ins_pos (S := Fr.two b.1 b.2) hc (by rcases same with z | z <;> rw [z.1] <;> simp [Fr.two]) (by rcases same with z | z <;> rw [z.2] <;> simp [Fr.two])
    rw [in1] at s
    simp at s
    omega
end
/-- js takes bars of q to bars of r -/
structure Prev (n : Nat) (r q : List Bar) (js : List Nat) : Prop where
  f : Fill n q
  ok : okStep n js = true
  go : ∀ rows : List Bar, rows.Perm (q.map loP) → mayB rows js = true ∧ (stepRows rows js).Perm (r.map loP)
  len : q.length + 2 = r.length
section
variable {n v : Nat} {r q rows : List Bar}
theorem jt_perm (h : rows.Perm q) (x : Nat) : isJt rows x = isJt q x := by
  rw [Bool.eq_iff_iff, isJt_iff, isJt_iff]
  exact ⟨fun ⟨b, hb, e⟩ => ⟨b, h.mem_iff.mp hb, e⟩, fun ⟨b, hb, e⟩ => ⟨b, h.mem_iff.mpr hb, e⟩⟩
theorem jt_lop (x : Nat) : isJt (q.map loP) x = isJt q x := by
  rw [Bool.eq_iff_iff, isJt_iff, isJt_iff]
  constructor
  · rintro ⟨b, hb, e⟩
    obtain ⟨c, hc, rfl⟩ := List.mem_map.mp hb
    have := loB_ends.mp e
    exact ⟨c, hc, by omega⟩
  · rintro ⟨b, hb, e⟩
    exact ⟨loP b, List.mem_map_of_mem hb, loB_ends.mpr (by omega)⟩
theorem rest_off {x : Nat} : isJt (restB r v) x = true → isJt r x = true ∧ x ≠ v := rest_jt
theorem far_three {L : List Nat} (hL : (farB r v).Perm L) : ((restB r v).map loP ++ L.map (loB v)).Perm (r.map loP) := by
  have e := (split_perm (r := r) (v := v)).map loP
  rw [List.map_append, far_lo] at e
  exact ((hL.map (loB v)).symm.append_left _).trans e
theorem prev_two {a b : Nat} (f : Fill n r) (h1 : 1 < r.length) (hv : isJt r v = true) (hvn : v < n) (hf : farB r v = [a, b]) : Prev n r (restB r v) [v, a, b] := by
  have nd := far_nodup (v := v) f.ok f.sl
  have ma := far_mem (v := v) (x := a) f.ok (by rw [hf]; simp)
  have mb := far_mem (v := v) (x := b) f.ok (by rw [hf]; simp)
  rw [hf] at nd
  have nab : a ≠ b := by simpa using nd
  have d : dg r v = 2 := by rw [← far_len, hf]; rfl
  have l := rest_dg (r := r) (v := v)
  have fu := f.full
  have okr := f.ok.sub (rest_sub (r := r) (v := v))
  have slr := f.sl.sub (rest_sub (r := r) (v := v))
  have ne : restB r v ≠ [] := fun z => by rw [z] at l; simp at l; omega
  have j := slim_jts okr slr ne
  obtain ⟨o1, o2⟩ := jts_off (q := restB r v) hv hvn fun x hx => rest_jt hx
  have inR : ∀ x, isJt r x = true → x < n → x ≠ v → isJt (restB r v) x = true := o2 (by omega)
  refine ⟨⟨okr, slr, by omega⟩, okStep_iff.mpr ⟨⟨by simp, by simp⟩, fun k hk => ?_, ?_⟩, fun rows hp => ⟨?_, ?_⟩, by omega⟩
  · simp only [List.mem_cons, List.not_mem_nil, or_false] at hk
    rcases hk with rfl | rfl | rfl
    · exact hvn
    · exact ma.2.1
    · exact mb.2.1
  · simp only [List.nodup_cons, List.mem_cons, List.not_mem_nil, or_false, not_or, not_false_eq_true, List.nodup_nil, and_true]
    exact ⟨⟨fun z => ma.2.2.1 z.symm, fun z => mb.2.2.1 z.symm⟩, nab⟩
  · have nv : isJt rows v = false := by
      rw [jt_perm hp, jt_lop]
      cases z : isJt (restB r v) v with
      | false => rfl
      | true => exact absurd rfl (rest_jt z).2
    show (!isJt rows v && (isJt rows a && isJt rows b)) = true
    rw [nv, jt_perm hp, jt_perm hp, jt_lop, jt_lop, inR a ma.1 ma.2.1 ma.2.2.1, inR b mb.1 mb.2.1 mb.2.2.1]
    rfl
  · show (rows ++ [loB v a, loB v b]).Perm _
    exact (hp.append_right _).trans (far_three (L := [a, b]) (by rw [hf]))
theorem prev_three {a b c : Nat} (f : Fill n r) (h1 : 1 < r.length) (hv : isJt r v = true) (hvn : v < n) (hf : (farB r v).Perm [a, b, c]) (ns : ¬ Fr.Spn n (restB r v) a b) : Prev n r (restB r v ++ [(a, b)]) [v, a, b, c] := by
  have nd := hf.nodup_iff.mp (far_nodup (v := v) f.ok f.sl)
  have ma := far_mem (v := v) (x := a) f.ok (hf.mem_iff.mpr (by simp))
  have mb := far_mem (v := v) (x := b) f.ok (hf.mem_iff.mpr (by simp))
  have mc := far_mem (v := v) (x := c) f.ok (hf.mem_iff.mpr (by simp))
  simp only [List.nodup_cons, List.mem_cons, List.not_mem_nil, or_false, not_or, not_false_eq_true, List.nodup_nil, and_true] at nd
  obtain ⟨⟨nab, nac⟩, nbc⟩ := nd
  have d : dg r v = 3 := by rw [← far_len, hf.length_eq]; rfl
  have l := rest_dg (r := r) (v := v)
  have fu := f.full
  have okr : Fr.Ok n (restB r v ++ [(a, b)]) := Fr.ok_snoc (f.ok.sub rest_sub) ⟨ma.2.1, mb.2.1, nab⟩
  have slr : Fr.Slim n (restB r v ++ [(a, b)]) := (Fr.slim_snoc (f.sl.sub rest_sub) ma.2.1 mb.2.1 nab).mpr ns
  have ll : (restB r v ++ [(a, b)]).length = (restB r v).length + 1 := by rw [List.length_append]; rfl
  have j := slim_jts okr slr (by simp)
  have offq : ∀ x, isJt (restB r v ++ [(a, b)]) x = true → isJt r x = true ∧ x ≠ v := fun x hx => by
    rw [isJt_app, Bool.or_eq_true] at hx
    rcases hx with hx | hx
    · exact rest_jt hx
    · obtain ⟨e, he, z⟩ := isJt_iff.mp hx
      rw [List.mem_singleton.mp he] at z
      rcases z with z | z
      · have z : a = x := z
        rw [← z]
        exact ⟨ma.1, ma.2.2.1⟩
      · have z : b = x := z
        rw [← z]
        exact ⟨mb.1, mb.2.2.1⟩
  obtain ⟨o1, o2⟩ := jts_off (q := restB r v ++ [(a, b)]) hv hvn offq
  have inR : ∀ x, isJt r x = true → x < n → x ≠ v → isJt (restB r v ++ [(a, b)]) x = true := o2 (by omega)
  refine ⟨⟨okr, slr, by omega⟩, okStep_iff.mpr ⟨⟨by simp, by simp⟩, fun k hk => ?_, ?_⟩, fun rows hp => ?_, by omega⟩
  · simp only [List.mem_cons, List.not_mem_nil, or_false] at hk
    rcases hk with rfl | rfl | rfl | rfl
    · exact hvn
    · exact ma.2.1
    · exact mb.2.1
    · exact mc.2.1
  · simp only [List.nodup_cons, List.mem_cons, List.not_mem_nil, or_false, not_or, not_false_eq_true, List.nodup_nil, and_true]
    exact ⟨⟨fun z => ma.2.2.1 z.symm, fun z => mb.2.2.1 z.symm, fun z => mc.2.2.1 z.symm⟩, ⟨nab, nac⟩, nbc⟩
  · have hp2 : rows.Perm ((restB r v).map loP ++ [loB a b]) := by
      rw [List.map_append] at hp
      exact hp
    have hm : loB a b ∈ rows := hp2.mem_iff.mpr (by simp)
    refine ⟨?_, ?_⟩
    · have nv : isJt rows v = false := by
        rw [jt_perm hp, jt_lop]
        cases z : isJt (restB r v ++ [(a, b)]) v with
        | false => rfl
        | true => exact absurd rfl (offq v z).2
      show ((!isJt rows v && (isJt rows a && (isJt rows b && isJt rows c))) && decide (loB a b ∈ rows)) = true
      rw [nv, jt_perm hp, jt_perm hp, jt_perm hp, jt_lop, jt_lop, jt_lop, inR a ma.1 ma.2.1 ma.2.2.1, inR b mb.1 mb.2.1 mb.2.2.1, inR c mc.1 mc.2.1 mc.2.2.1, decide_eq_true hm]
      rfl
    · show (rows.erase (loB a b) ++ [loB v a, loB v b, loB v c]).Perm _
      have he : (rows.erase (loB a b)).Perm ((restB r v).map loP) := by
        have z := hp2.erase (loB a b)
        refine z.trans ?_
        have y : ((restB r v).map loP ++ [loB a b]).Perm (loB a b :: (restB r v).map loP) := List.perm_append_comm
        have w := y.erase (loB a b)
        rw [List.erase_cons_head] at w
        exact w
      exact (he.append_right _).trans (far_three (L := [a, b, c]) hf)
/-- not all of the three hold each other -/
theorem three_not {a b c : Nat} (f : Fill n r) (hvn : v < n) (hf : (farB r v).Perm [a, b, c]) (h1 : Fr.Spn n (restB r v) a b) (h2 : Fr.Spn n (restB r v) a c) : ¬ Fr.Spn n (restB r v) b c := fun h3 => by
  have nd := hf.nodup_iff.mp (far_nodup (v := v) f.ok f.sl)
  have ma := far_mem (v := v) (x := a) f.ok (hf.mem_iff.mpr (by simp))
  have mb := far_mem (v := v) (x := b) f.ok (hf.mem_iff.mpr (by simp))
  have mc := far_mem (v := v) (x := c) f.ok (hf.mem_iff.mpr (by simp))
  simp only [List.nodup_cons, List.mem_cons, List.not_mem_nil, or_false, not_or, not_false_eq_true, List.nodup_nil, and_true] at nd
  obtain ⟨⟨nab, nac⟩, nbc⟩ := nd
  have okr := f.ok.sub (rest_sub (r := r) (v := v))
  have slr := f.sl.sub (rest_sub (r := r) (v := v))
  obtain ⟨T, ⟨t1, t2⟩, ta, tb, tc⟩ := Fr.spn_three okr slr ma.2.1 mb.2.1 mc.2.1 nab nac nbc h1 h2 h3
  have nv : T v = false := by
    cases z : T v with
    | false => rfl
    | true =>
      have c1 := Fr.card_wo (S := T) hvn z
      have e : Fr.ins (restB r v) (Fr.wo T v) = Fr.ins (restB r v) T := by
        unfold Fr.ins
        refine List.countP_congr fun x hx => ?_
        have ht := (List.mem_filter.mp hx).2
        unfold Fr.wo
        have n1 : (x.1 == v) = false := by
          cases q : x.1 == v with
          | false => rfl
          | true => rw [touch_iff.mpr (.inl (beq_iff_eq.mp q))] at ht; cases ht
        have n2 : (x.2 == v) = false := by
          cases q : x.2 == v with
          | false => rfl
          | true => rw [touch_iff.mpr (.inr (beq_iff_eq.mp q))] at ht; cases ht
        rw [n1, n2]
        simp
      have two := Fr.two_le_card (S := Fr.wo T v) ma.2.1 mb.2.1 nab (by unfold Fr.wo; rw [ta]; simp [ma.2.2.1]) (by unfold Fr.wo; rw [tb]; simp [mb.2.2.1])
      have s := slr (Fr.wo T v) two
      omega
  have c2 : Fr.card n (fun x => T x || x == v) = Fr.card n T + 1 := by
    have z := Fr.card_wo (S := fun x => T x || x == v) hvn (by simp)
    rw [z]
    refine congrArg (· + 1) (Fr.card_same fun x _ => ?_)
    unfold Fr.wo
    by_cases q : x = v
    · subst q
      simp [nv]
    · rw [beq_false_of_ne q]
      simp
      exact fun z => absurd z q
  have p := Fr.ins_perm (split_perm (r := r) (v := v)) (fun x => T x || x == v)
  rw [Fr.ins_app] at p
  have i1 : Fr.ins (restB r v) T ≤ Fr.ins (restB r v) (fun x => T x || x == v) := Fr.ins_mono fun x h => by rw [h]; rfl
  have i2 : Fr.ins (r.filter (touch v)) (fun x => T x || x == v) = (r.filter (touch v)).length := by
    unfold Fr.ins
    rw [List.countP_eq_length]
    intro x hx
    have ht := (List.mem_filter.mp hx).2
    have hm : offB v x ∈ [a, b, c] := hf.mem_iff.mp (List.mem_map_of_mem hx)
    have hT : T (offB v x) = true := by
      simp only [List.mem_cons, List.not_mem_nil, or_false] at hm
      rcases hm with e | e | e <;> rw [e] <;> assumption
    unfold offB at hT
    rcases touch_iff.mp ht with e | e
    · rw [show x.1 + x.2 - v = x.2 by omega] at hT
      show ((T x.1 || x.1 == v) && (T x.2 || x.2 == v)) = true
      rw [hT, e]
      simp
    · rw [show x.1 + x.2 - v = x.1 by omega] at hT
      show ((T x.1 || x.1 == v) && (T x.2 || x.2 == v)) = true
      rw [hT, e]
      simp
  have fl := hf.length_eq
  rw [far_len] at fl
  have fd : (r.filter (touch v)).length = 3 := by
    rw [← List.countP_eq_length_filter]
    exact fl
  have s := f.sl (fun x => T x || x == v) (by omega)
  omega
/-- steps taken backwards so far: what they make of these bars -/
structure Back (n : Nat) (nb r : List Bar) (bl : List (List Nat)) : Prop where
  f : Fill n r
  go : ∀ rows : List Bar, rows.Perm (r.map loP) → ∃ out, Goes n rows bl.reverse out ∧ out.Perm (nb.map loP)
  len : r.length + 2 * bl.length = nb.length
theorem Back.step {nb : List Bar} {bl : List (List Nat)} {js : List Nat} (h : Back n nb r bl) (p : Prev n r q js) : Back n nb q (bl ++ [js]) := by
  refine ⟨p.f, fun rows hp => ?_, ?_⟩
  · obtain ⟨a, b⟩ := p.go rows hp
    obtain ⟨out, g, e⟩ := h.go _ b
    rw [List.reverse_append]
    exact ⟨out, .cons p.ok a g, e⟩
  · have := h.len
    have := p.len
    rw [List.length_append]
    show _ + 2 * (_ + 1) = _
    omega
/-- the last bar -/
theorem Back.fin {nb : List Bar} {bl : List (List Nat)} {x y : Nat} (h : Back n nb [(x, y)] bl) : ∃ out, Goes n [] ((bl ++ [[x, y]]).reverse) out ∧ out.Perm (nb.map loP) := by
  obtain ⟨o1, o2, o3⟩ := h.f.ok (x, y) List.mem_cons_self
  obtain ⟨out, g, e⟩ := h.go [loB x y] (List.Perm.refl _)
  rw [List.reverse_append]
  refine ⟨out, .cons (okStep_iff.mpr ⟨⟨by simp, by simp⟩, fun k hk => ?_, by simpa using o3⟩) rfl g, e⟩
  simp only [List.mem_cons, List.not_mem_nil, or_false] at hk
  rcases hk with rfl | rfl
  · exact o1
  · exact o2
theorem Back.start {nb : List Bar} (ok : Fr.Ok n nb) (sl : Fr.Slim n nb) (hl : nb.length + 3 = 2 * n) : Back n nb nb [] := by
  have ne : nb ≠ [] := fun z => by rw [z] at hl; simp at hl; omega
  have a := slim_jts ok sl ne
  have b := jtsL_len (n := n) (rows := nb)
  exact ⟨⟨ok, sl, by omega⟩, fun rows hp => ⟨rows, .nil, hp⟩, rfl⟩
/-- the joint that is taken off -/
theorem Fill.least (f : Fill n r) (h1 : 1 < r.length) (hv : isJt r v = true) (hvn : v < n) (le : ∀ u, isJt r u = true → u < n → dg r v ≤ dg r u) : (∃ a b, farB r v = [a, b]) ∨ ∃ a b c, farB r v = [a, b, c] := by
  have a := dg_two f h1 hv hvn
  have b := dg_three f le
  have l := far_len (r := r) (v := v)
  match hf : farB r v with
  | [] => rw [hf] at l; simp at l; omega
  | [_] => rw [hf] at l; simp at l; omega
  | [a, b] => exact .inl ⟨a, b, rfl⟩
  | [a, b, c] => exact .inr ⟨a, b, c, rfl⟩
  | _ :: _ :: _ :: _ :: _ => rw [hf] at l; simp at l; omega
end
end Pl

/-! Lists by two clauses; lists grown by lists; refusals of several classes; a def with a lambda. -/
namespace Pl
open PySem PySem.Spec PyProof.Rows L2
open Evl (Ex)
section
variable {K : PySem.W.Frag} {ρ : Rho}
theorem evF_lc2 {wi wi1 : TI} {g g1 : TG} {te : TE} {vs vs1 : List Nat} {ds : List D} (hi : EvI K wi ρ ds) (ps : D → List (Nat × D)) (es : D → List D) (ps1 : D → D → List (Nat × D)) (el : D → D → D)
    (hg : ∀ d ∈ ds, EvG K g d (ps d)) (hs : ∀ d ∈ ds, ∀ p ∈ ps d, p.1 ∈ vs) (hi1 : ∀ d ∈ ds, EvI K wi1 (setR (wipeR ρ vs) (ps d)) (es d))
    (hg1 : ∀ d ∈ ds, ∀ e ∈ es d, EvG K g1 e (ps1 d e)) (hs1 : ∀ d ∈ ds, ∀ e ∈ es d, ∀ p ∈ ps1 d e, p.1 ∈ vs1) (he : ∀ d ∈ ds, ∀ e ∈ es d, EvD K te (setR (wipeR (setR (wipeR ρ vs) (ps d)) vs1) (ps1 d e)) (el d e))
    (hl : (ds.flatMap fun d => (es d).map (el d)).length ≤ 50000) :
    EvF K (tLc2 wi g tYes wi1 g1 tYes te vs vs1) ρ (ds.flatMap fun d => (es d).map (el d)) := fun S H σ ee v Q q =>
  hi S H σ ee v _ fun J S1 H1 x1 wk => fun p hpn => by
    refine ⟨fun i m H' => m = ds.length - i ∧ i ≤ ds.length ∧ ∃ S' us, Ext S1 H1 S' H' ∧ S' p = none ∧ H' p = some (.lst us) ∧ RdL K S' us ((ds.take i).flatMap fun d => (es d).map (el d)),
      ⟨ds.length, by simp, Nat.zero_le _, S1, [], Ext.hid x1.sub hpn, sub_none x1.sub hpn, upd_same, .nil⟩, ?_⟩
    rintro i m H' ⟨rfl, hi', S', us, x, nS, hh, hk⟩
    by_cases hlt : i < ds.length
    · have hd : ds[i]? = some ds[i] := List.getElem?_eq_getElem hlt
      have hmem : ds[i] ∈ ds := List.getElem_mem hlt
      have tk : ds.take (i + 1) = ds.take i ++ [ds[i]] := (List.take_append_getElem hlt).symm
      refine .inr ⟨wk.go S' H' i x.s x.sub hlt, fun H2 => ∃ S2 us2, Ext S1 H1 S2 H2 ∧ S2 p = none ∧ H2 p = some (.lst us2) ∧ RdL K S2 us2 ((ds.take (i + 1)).flatMap fun d => (es d).map (el d)), fun H2 z => ⟨ds.length - (i + 1), by omega, rfl, hlt, z⟩, fun xv H'' y => ?_⟩
      obtain ⟨S2, x2, r2⟩ := wk.yld S' H' i xv H'' ds[i] x.s x.sub hd y
      have nl : ∀ {S3 H3 : Hp}, Ext S2 H'' S3 H3 → S3 p = none := fun x3 => x3.dis p (x2.dis p nS (by rw [hh]; exact fun z => nomatch z)) (by rw [x2.h p _ hh]; exact fun z => nomatch z)
      refine hg _ hmem S2 H'' _ xv x2.sub r2 _ fun ws rws => ⟨?_, ?_⟩
      · rw [wipe_setV fun j hj => by
          obtain ⟨r, hr, rfl⟩ := List.mem_map.mp hj
          exact hs _ hmem r hr, wipe_wipe]
      have ev : Env K S2 (setV (L2.wipe σ vs) ((ps ds[i]).map (·.1)) ws) (setR (wipeR ρ vs) (ps ds[i])) := (((v.mono ((x1.s.trans x.s).trans x2.s)).wipe vs)).setV rws
      rw [show tYes = (fun _ H Q => Q true H : TT) from rfl]
      dsimp only
      rw [if_pos rfl]
      refine hi1 _ hmem S2 H'' _ x2.sub ev _ fun J1 S4 H4 x4 wk1 => ?_
      refine ⟨fun j n H5 => n = (es ds[i]).length - j ∧ j ≤ (es ds[i]).length ∧ ∃ S5 us5, Ext S1 H1 S5 H5 ∧ Ex S4 S5 ∧ S5 p = none ∧ H5 p = some (.lst us5) ∧ RdL K S5 us5 (((ds.take i).flatMap fun d => (es d).map (el d)) ++ ((es ds[i]).take j).map (el ds[i])),
        ⟨_, rfl, Nat.zero_le _, S4, us, (x.trans x2).trans x4, Ex.refl S4, nl x4, x4.h _ _ (x2.h _ _ hh), by rw [List.take_zero, List.map_nil, List.append_nil]; exact hk.mono (x2.trans x4).s⟩, ?_⟩
      rintro j n H5 ⟨rfl, hj, S5, us5, x5, e5, n5, hh5, hk5⟩
      by_cases hjl : j < (es ds[i]).length
      · have hje : (es ds[i])[j]? = some (es ds[i])[j] := List.getElem?_eq_getElem hjl
        have hjm : (es ds[i])[j] ∈ es ds[i] := List.getElem_mem hjl
        have tk1 : (es ds[i]).take (j + 1) = (es ds[i]).take j ++ [(es ds[i])[j]] := (List.take_append_getElem hjl).symm
        refine .inr ⟨wk1.go S5 H5 j e5 x5.sub hjl, fun H6 => ∃ S6 us6, Ext S1 H1 S6 H6 ∧ Ex S4 S6 ∧ S6 p = none ∧ H6 p = some (.lst us6) ∧ RdL K S6 us6 (((ds.take i).flatMap fun d => (es d).map (el d)) ++ ((es ds[i]).take (j + 1)).map (el ds[i])), fun H6 z => ⟨(es ds[i]).length - (j + 1), by omega, rfl, hjl, z⟩, fun yv H6 y1 => ?_⟩
        obtain ⟨S6, x6, r6⟩ := wk1.yld S5 H5 j yv H6 _ e5 x5.sub hje y1
        refine hg1 _ hmem _ hjm S6 H6 _ yv x6.sub r6 _ fun ws1 rus => ⟨?_, ?_⟩
        · rw [wipe_setV fun a ha => by
            obtain ⟨r, hr, rfl⟩ := List.mem_map.mp ha
            exact hs1 _ hmem _ hjm r hr, wipe_wipe]
        have ev2 : Env K S6 _ (setR (wipeR (setR (wipeR ρ vs) (ps ds[i])) vs1) (ps1 ds[i] (es ds[i])[j])) := ((ev.mono ((x4.s.trans e5).trans x6.s)).wipe vs1).setV rus
        dsimp only
        rw [if_pos rfl]
        refine he _ hmem _ hjm S6 H6 _ x6.sub ev2 _ fun zv S7 H7 x7 r7 => ?_
        have x67 := x6.trans x7
        have hp7 : H7 p = some (.lst us5) := x67.h _ _ hh5
        have n7 : S7 p = none := x67.dis p n5 (by rw [hh5]; exact fun z => nomatch z)
        have ul : us5.length ≤ 50000 := by
          rw [hk5.length]
          refine Nat.le_trans ?_ hl
          have z : ((ds.take i).flatMap fun d => (es d).map (el d)) ++ ((es ds[i]).map (el ds[i])) ++ ((ds.drop (i + 1)).flatMap fun d => (es d).map (el d)) = ds.flatMap fun d => (es d).map (el d) := by
            conv => rhs; rw [← List.take_append_drop (i + 1) ds]
            rw [List.flatMap_append, tk, List.flatMap_append]
            simp
          rw [← z, List.length_append, List.length_append, List.length_append]
          have : (((es ds[i]).take j).map (el ds[i])).length ≤ ((es ds[i]).map (el ds[i])).length := by
            rw [List.length_map, List.length_map, List.length_take]
            omega
          omega
        refine ⟨us5, hp7, Evl.sz_lt (by omega), S7, us5 ++ [zv], ?_, e5.trans x67.s, n7, upd_same, ?_⟩
        · have xx := x5.trans x67
          refine ⟨xx.s, fun a o ha => ?_, fun a o ha => ?_, xx.dis⟩
          · rw [upd_ne (ne_of_none ha hpn)]
            exact xx.h a o ha
          · rw [upd_ne fun z => by rw [z, n7] at ha; cases ha]
            exact xx.sub a o ha
        · rw [tk1, List.map_append, ← List.append_assoc]
          exact (hk5.mono x67.s).append (.cons r7 .nil)
      · have e0 : j = (es ds[i]).length := by omega
        subst e0
        refine .inl ⟨wk1.stop S5 H5 e5 x5.sub, S5, us5, x5, n5, hh5, ?_⟩
        rw [tk, List.flatMap_append]
        rw [List.take_length] at hk5
        simpa using hk5
    · have e0 : i = ds.length := by omega
      subst e0
      rw [List.take_length] at hk
      have x2 := x1.trans x
      exact .inl ⟨wk.stop S' H' x.s x.sub, q p us S' H' x2 (Evl.fresh_back x1.h hpn) nS hh hk⟩
end
section
variable {K : PySem.W.Frag} {ρ : Rho} {F : FE} {te : TE} {i : Nat} {ds es : List D}
theorem T.extend (h : ρ[i]? = some (.o ds)) (he : EvF K te ρ es) (hl : ds.length + es.length ≤ 100000) (k : F.nx (ρ.set i (.o (ds ++ es)))) : T K (tDrop (tBM K "list" rExtend (tVar i) (tCons te tNil))) ρ F := fun S0 H0 S H σ Dd s a => by
  obtain ⟨p, vs, h1, h2, h3, h4, h5⟩ := s.own i ds h
  refine ⟨_, h1, .inl ⟨rfl, _, Evl.sq_of h4⟩, ?_⟩
  refine he S H σ s.ext.sub s.env _ fun q us S' H' x hq sq hl' r => ?_
  have s' := s.go x
  refine ⟨p, q, vs, us, rfl, rfl, x.h _ _ h4, hl', Evl.sz_of (by rw [h5.length, r.length]; exact hl), ?_⟩
  exact a.nx _ S' _ σ k x.s (s'.put (vs := vs) h h1 ((h5.mono x.s).append r))
end
/-! ### refusals of several classes -/
/-- an expression by one of several readings -/
theorem pe_any {X : Cx} {ι : Type} {P : ι → Prop} {e : Expr} {te : ι → TE} (h : ∀ i, P i → PE X e (te i)) : PE X e fun σ H Q => ∃ i, P i ∧ te i σ H Q :=
  ⟨fun pins s σ H Q I ⟨i, hi, z⟩ => (h i hi).run pins s σ H Q I z⟩
def spY (K : PySem.W.Frag) (Rel : List D → Str → Prop) : Sp := fun vs H _ E => ∃ S ds x, Ex S H ∧ RdL K S vs ds ∧ Rel ds x ∧ ∀ S' H', Ext S H S' H' → E (.ref (He.ga K x)) none H'
theorem spY_len {K : PySem.W.Frag} {Rel : List D → Str → Prop} {n : Nat} (h : ∀ ds x, Rel ds x → ds.length = n) : ∀ vs H Q E, spY K Rel vs H Q E → vs.length = n := fun vs H Q E z => by
  obtain ⟨S, ds, x, e, r, rel, _⟩ := z
  rw [r.length]
  exact h ds x rel
theorem Up.finY {K : PySem.W.Frag} {E : XK} {t : TS} {N : List Str} {Rel : List D → Str → Prop} {vs : List V} {H : Hp} {Q : VK} (h : spY K Rel vs H Q E) (k : ∀ ds x, Rel ds x → Up K E (He.ga K x) t (startR N.length ds)) : t { nx := fun _ H' => Q .non H', rt := Q } (L2.start N vs) H := by
  obtain ⟨S, ds, x, e, r, rel, q⟩ := h
  exact k ds x rel S H S H _ _ (stt_start e r) q
/-! ### a def whose table is known -/
theorem okC {P : Program} {w : World} {K : PySem.W.Frag} {mg : Str → Option Value} {base : Heap} {x qual : Str} {params : Arguments} {body : List Stmt} {scope : Scope} {dvs : List V} {kws : List (Str × V)} {f : Addr} {fd : FuncData} {CX : CXT} {N ps : List Str} {k : Nat} {sp : Sp} {p : Str × Option Str}
    (F : FunD K x qual params body scope dvs kws f fd) (hf : f = He.fAd K p) (S : FnScope N ps scope) (len : ∀ vs H Q E, sp vs H Q E → vs.length = ps.length)
    (hbody : ∀ (cdv : Value) (A : Around) (outer : List PySem.Env) (s : Shared) (H : Hp) (vs : List V) (Q : VK) (E : XK), cdv = .ref (He.codeOf K p) → Room k (A.deeper (envOfC qual scope s.heap.objs.size f cdv)) → sp vs H Q E →
      ∃ t, PSs (cxOf CX P w K mg base N qual scope f cdv A outer s H E) body t ∧ t { nx := fun _ H' => Q .non H', rt := Q } (L2.start N vs) H) : FnOk P w K mg base CX (k + 1) f fd ps sp := by
  obtain ⟨oc, od, dV, kV, doc, pm, an, cdv, ct, osl, rfl, lk, hcd, _, _⟩ := F.ex
  obtain ⟨c, rfl⟩ := He.codeIn_ref hcd
  subst hf
  exact fn_of lk hcd S len fun A outer s H vs Q E hr hsp => hbody _ A outer s H vs Q E (congrArg Value.ref (He.codeOf_eq lk rfl).symm) hr hsp
/-! ### a law's start, with an empty table -/
open Classical in
noncomputable def lessP (P : Addr) (H : Hp) : Hp := fun b => if b = P then none else H b
theorem sg_tab {K : PySem.W.Frag} {H : Hp} {P : Addr} {q : Str} (h : H P = some (.tbl #[])) : SG K (lessP P H) (lessP P H) [] [(P, .tb q P)] (lessP P H) H [] := by
  have e : Ex (lessP P H) H := fun a o z => by
    unfold lessP at z
    split at z
    · cases z
    · exact z
  have out : lessP P H P = none := if_pos rfl
  have hc : cov (lessP P H) H [P] = H := funext fun a => by
    by_cases ha : a = P
    · rw [ha, cov_in List.mem_cons_self]
    · rw [cov_out (by simpa using ha)]
      exact if_neg ha
  refine ⟨[P], ⟨?_, by simp, fun a ha => ?_⟩, ?_⟩
  · have z : OwnL K (lessP P H) H [.ref P] [.tb q P] ([P] ++ []) := .cons (.tb ⟨#[], h, True.intro, fun p v hc => by
      have z : codeAmong p [] = some v := hc
      simp [codeAmong] at z⟩) .nil
    exact z
  · rw [List.mem_singleton.mp ha]
    exact ⟨out, out⟩
  · rw [hc]
    exact ⟨Ext.refl e, ⟨rfl, fun i d h => by simp at h⟩, fun i ds h => by simp at h, fun i j a b p h => by simp at h⟩
theorem sq_less {K : PySem.W.Frag} {H : Hp} {P a : Addr} {ns : List Int} (h : H P = some (.tbl #[])) (hs : SqL K H a (ns.map V.int)) : SqL K (lessP P H) a (ns.map V.int) := by
  have ne : ∀ o, H a = some o → (∀ ps, o ≠ .tbl ps) → lessP P H a = some o := fun o e n => by
    unfold lessP
    rw [if_neg fun z => by rw [z, h] at e; exact n _ (Option.some.inj e).symm]
    exact e
  rcases hs with (z | ⟨o, z⟩) | z
  · exact .inl (.inl (ne _ z fun _ w => by cases w))
  · exact .inl (.inr ⟨o, ne _ z fun _ w => by cases w⟩)
  · exact .inr z
/-- the law's promise, begun -/
theorem spG_tab {K : PySem.W.Frag} {Rel : List D → Gs → Rs → Gs → Prop} {H : Hp} {P a : Addr} {q : Str} {ns : List Int} {E : XK} (h : H P = some (.tbl #[])) (hs : SqL K H a (ns.map V.int)) (rel : Rel [.ro ns] [(P, .tb q P)] (.d (.bl true)) [(P, .tb q P)]) : spG K Rel [.ref a] H (fun v _ => v = .bl true) E :=
  ⟨lessP P H, lessP P H, [.ro ns], _, _, _, sg_tab h, .cons (.ro (sq_less h hs)) .nil, rel, fun v S' H' _ ⟨_, r⟩ => by cases r; rfl⟩
/-- the suite's question, its answer new -/
theorem ask_new {K : PySem.W.Frag} {Rel : List D → List D → Prop} {a C : Addr} {cls : Value} {d : Option Addr} {i : Nat} {ws : List Str} {S H : Hp} {σ : L2.St} {Q : VK} (hc : cls = .ref C) (hd : d = none) (rel : Rel [.er C] (ws.map D.str)) (e : Ex S H) (hs : σ[i]? = some (some (.ref a))) (na : H a = none)
    (q : ∀ p H', Ext S H S H' → H p = none → H' p = some (.lst (ws.map V.str)) → Q (.ref p) H') : Ex0.tAsk (spF K Rel) a C cls d (tCons (tVar i) tNil) σ H Q := by
  refine ⟨.ref a, hs, fun _ => ⟨hc, hd, fun oe c1 c2 c3 => ?_⟩⟩
  have e1 : Ex (upd S a (.frz oe Ex0.xt)) (upd H a (.frz oe Ex0.xt)) := fun b o z => by
    by_cases hb : b = a
    · subst hb
      rw [upd_same] at z ⊢
      exact z
    · rw [upd_ne hb] at z ⊢
      exact e b o z
  refine ⟨upd S a (.frz oe Ex0.xt), [.er C], ws.map D.str, e1, .cons (.er upd_same c1 c2 c3) .nil, rel, fun p vs S' H' x hp sp h' r fz => ?_⟩
  have np : p ≠ a := fun z => by
    subst z
    rw [upd_same] at hp
    cases hp
  have ne : ∀ {b o}, H b = some o → b ≠ a := fun {b o} z w => by rw [w, na] at z; cases z
  have hh : Ex H (Ex0.era a H') := fun b o z => by
    rw [Ex0.era_ne (ne z)]
    exact x.h b o (by rw [upd_ne (ne z)]; exact z)
  rw [upd_ne np] at hp
  refine q p _ ⟨Ex.refl S, hh, e.trans hh, fun _ z _ => z⟩ hp ?_
  rw [Ex0.era_ne np, h', strs_of r]
end Pl

/-! For steps: lists taken apart, ends counted, lean bars all carried. -/
namespace Pl
open PySem PySem.Spec PyProof.Rows L2
open Evl (Ex)
section
variable {K : PySem.W.Frag} {X : Cx}
theorem ok_unl {es : List Expr} {k n : Nat} {t : TGs} {pos : Pos} (h : X.K = K) (hc : X.calm = true) (ht : PGs X es t) (hn : (assignEach es X.env).length = n := by rfl) (hst : (assignEach es X.env).findIdx? (·.1) = none := by rfl) : PG X (.Tuple es k pos) (gLst K n t) := by
  subst h
  exact pg_lst hc ht hn hst
theorem eg_lst {n : Nat} {gs : TGs} {ds : List D} {ps : List (Nat × D)} (h : EvGs K gs ds ps) (hn : ds.length = n) : EvG K (gLst K n gs) (.lst ds) ps := fun S H σ v e r Q q => by
  cases r with
  | lst ha rl => exact ⟨_, _, rfl, Evl.sq_of (e _ _ ha), by rw [rl.length]; exact hn, h S H σ _ e rl Q q⟩
end
/-! ### ends -/
def endsI (r : List Fr.Bar) : List Int := r.flatMap fun b => [(b.1 : Int), (b.2 : Int)]
theorem ends_len (r : List Fr.Bar) : (endsI r).length = 2 * r.length := by
  induction r with
  | nil => rfl
  | cons b r ih =>
    show ((b.1 : Int) :: (b.2 : Int) :: endsI r).length = _
    rw [List.length_cons, List.length_cons, ih, List.length_cons]
    omega
theorem ends_count {n : Nat} {r : List Fr.Bar} (ok : Fr.Ok n r) (v : Nat) : (endsI r).count (v : Int) = dg r v := by
  induction r with
  | nil => rfl
  | cons b r ih =>
    have ih := ih fun x hx => ok x (List.mem_cons_of_mem _ hx)
    obtain ⟨_, _, o3⟩ := ok b List.mem_cons_self
    show ((b.1 : Int) :: (b.2 : Int) :: endsI r).count (v : Int) = dg (b :: r) v
    unfold dg at ih ⊢
    rw [List.count_cons, List.count_cons, ih, List.countP_cons]
    unfold touch
    by_cases h1 : b.1 = v
    · have h2 : ¬ b.2 = v := fun z => o3 (h1.trans z.symm)
      have h1' : (b.1 : Int) = (v : Int) := by omega
      have h2' : ¬ (b.2 : Int) = (v : Int) := by omega
      simp [h1', h2', h1, h2]
    · have h1' : ¬ (b.1 : Int) = (v : Int) := by omega
      by_cases h2 : b.2 = v
      · have h2' : (b.2 : Int) = (v : Int) := by omega
        simp [h1', h2', h1, h2]
      · have h2' : ¬ (b.2 : Int) = (v : Int) := by omega
        simp [h1', h2', h1, h2]
theorem fewest_ex (es : List Int) : ∀ (ns : List Int), ns ≠ [] → ∃ n, Fewest es ns n
  | [], h => absurd rfl h
  | [n], _ => ⟨n, 0, rfl, fun j m hj => by
    cases j with
    | zero =>
      have e : n = m := by simpa using hj
      subst e
      exact ⟨Nat.le_refl _, fun z => absurd z (Nat.lt_irrefl _)⟩
    | succ j => simp at hj⟩
  | n :: k :: ns, _ => by
    obtain ⟨m, i, hi, hm⟩ := fewest_ex es (k :: ns) (by simp)
    by_cases h : es.count n ≤ es.count m
    · refine ⟨n, 0, rfl, fun j x hj => ?_⟩
      cases j with
      | zero =>
        have e : n = x := by simpa using hj
        subst e
        exact ⟨Nat.le_refl _, fun z => absurd z (Nat.lt_irrefl _)⟩
      | succ j =>
        have := (hm j x (by simpa using hj)).1
        exact ⟨by omega, fun z => by omega⟩
    · refine ⟨m, i + 1, by simpa using hi, fun j x hj => ?_⟩
      cases j with
      | zero =>
        have e : n = x := by simpa using hj
        subst e
        exact ⟨by omega, fun _ => by omega⟩
      | succ j =>
        obtain ⟨a, b⟩ := hm j x (by simpa using hj)
        exact ⟨a, fun z => b (by omega)⟩
theorem Fewest.mem {es ns : List Int} {n : Int} (h : Fewest es ns n) : n ∈ ns := by
  obtain ⟨i, hi, _⟩ := h
  exact List.mem_of_getElem? hi
theorem Fewest.le {es ns : List Int} {n m : Int} (h : Fewest es ns n) (hm : m ∈ ns) : es.count n ≤ es.count m := by
  obtain ⟨i, hi, hb⟩ := h
  obtain ⟨j, hj, e⟩ := List.getElem_of_mem hm
  exact (hb j m (by rw [List.getElem?_eq_getElem hj, e])).1
def tupOf : D → List D
  | .tup ds => ds
  | _ => []
theorem brs_flat2 (r : List Fr.Bar) : ((brs r).flatMap fun d => (tupOf d).map fun e => e) = (endsI r).map D.int := by
  induction r with
  | nil => rfl
  | cons b r ih =>
    show [D.int (b.1 : Int), D.int (b.2 : Int)] ++ ((brs r).flatMap fun d => (tupOf d).map fun e => e) = _
    rw [ih]
    rfl
/-! ### bars read -/
def unD : D → Fr.Bar
  | .tup [.int a, .int b] => (a.toNat, b.toNat)
  | _ => (0, 0)
def d1 : D → D
  | .tup [a, _] => a
  | _ => .non
def d2 : D → D
  | .tup [_, b] => b
  | _ => .non
theorem unD_bar (b : Fr.Bar) : unD (barD (bI b)) = b := rfl
theorem brs_filter (p : Fr.Bar → Bool) (r : List Fr.Bar) : (brs r).filter (fun d => p (unD d)) = brs (r.filter p) := by
  induction r with
  | nil => rfl
  | cons b r ih =>
    show List.filter _ (barD (bI b) :: brs r) = _
    rw [List.filter_cons, List.filter_cons, ih]
    show (if p b = true then _ else _) = _
    cases p b <;> rfl
theorem brs_far (v : Nat) (r : List Fr.Bar) : ((brs r).filter (fun d => touch v (unD d))).map (fun d => D.int (offB v (unD d) : Int)) = nD (farB r v) := by
  rw [brs_filter]
  unfold farB nD brs
  rw [List.map_map, List.map_map, List.map_map]
  rfl
theorem brs_rest (v : Nat) (r : List Fr.Bar) : ((brs r).filter (fun d => !touch v (unD d))).map (fun d => d) = brs (restB r v) := by
  rw [List.map_id']
  exact brs_filter (fun b => !touch v b) r
theorem touch_in (v : Nat) (b : Fr.Bar) : decide ((v : Int) ∈ [(b.1 : Int), (b.2 : Int)]) = touch v b := by
  unfold touch
  rw [Bool.eq_iff_iff, decide_eq_true_eq, Bool.or_eq_true, decide_eq_true_eq, decide_eq_true_eq, List.mem_cons, List.mem_singleton]
  omega
theorem crowd_slim {n : Nat} {nb : List Fr.Bar} (ok : Fr.Ok n nb) : crowdL (List.replicate n []) nb = none ↔ Fr.Slim n nb := (Fr.crowd_spec ok).1
/-- what every lean bars of so many joints are as good as -/
theorem rk_slim {n : Nat} {nb : List Fr.Bar} (sl : Fr.Slim n nb) : Fr.rk n nb = nb.length := by
  unfold Fr.rk
  rw [Fr.basis_all sl]
theorem ok_one {nb : List Fr.Bar} (ok : Fr.Ok 1 nb) : nb = [] := by
  cases nb with
  | nil => rfl
  | cons b l =>
    obtain ⟨o1, o2, o3⟩ := ok b List.mem_cons_self
    omega
theorem brs_fun (v : Nat) (l : List Nat) : l.map (fun k => barD (bI (loB v k))) = brs (l.map (loB v)) := by
  unfold brs
  rw [List.map_map, List.map_map]
  rfl
/-- kept + [lesser_first(joint, end) for end in ends] -/
theorem ev_ends {K : PySem.W.Frag} {ρ : Rho} {wi : TI} {te t1 : TE} {v j : Nat} {vs rest : List Nat} {kl : List Fr.Bar} (hk : EvD K t1 ρ (.lst (brs kl))) (hi : EvI K wi ρ (rest.map fun k : Nat => D.int (k : Int))) (hj : j ∈ vs) (he : ∀ k : Nat, EvD K te (setR (wipeR ρ vs) [(j, .int (k : Int))]) (barD (bI (loB v k)))) (h1 : kl.length ≤ 100) (h2 : rest.length ≤ 10) :
    EvF K (tOp (rPlus K) t1 (tLc wi (gName j) tYes te vs)) ρ (brs (kl ++ rest.map (loB v))) :=
  EvF.to (ev_opF (x := .lst (brs kl)) (y := .lst (brs (rest.map (loB v)))) hk (EvF.data (EvF.to (evF_lcM (α := Nat) (xs := rest) (gd := fun k : Nat => D.int (k : Int)) hi (fun k => [(j, .int (k : Int))]) (fun _ => true) (fun k => barD (bI (loB v k))) (fun k _ => eg_name) (fun k _ p hp => by rw [List.mem_singleton.mp hp]; exact hj) (fun k _ => et_yes) (fun k _ _ => he k) (by omega)) (by rw [List.filter_eq_self.mpr fun _ _ => rfl, brs_fun])))
    (rvF_plus (by rw [brs_len, brs_len, List.length_map]; omega))) (brs_app _ _).symm
theorem ev_allIn {K : PySem.W.Frag} {ρ : Rho} {wi : TI} {te : TE} {j : Nat} {vs rest : List Nat} {f : Nat → Bool} (hi : EvI K wi ρ (rest.map fun k : Nat => D.int (k : Int))) (hj : j ∈ vs) (he : ∀ k : Nat, EvD K te (setR (wipeR ρ vs) [(j, .int (k : Int))]) (.bl (f k))) (h2 : rest.length ≤ 10) :
    EvD K (tCB (rAll K) (tCons (tLc wi (gName j) tYes te vs) tNil)) ρ (.bl (rest.all f)) :=
  EvD.to (ev_cb (ea_cons (EvF.data (EvF.to (evF_lcM (α := Nat) (xs := rest) (gd := fun k : Nat => D.int (k : Int)) hi (fun k => [(j, .int (k : Int))]) (fun _ => true) (fun k => D.bl (f k)) (fun k _ => eg_name) (fun k _ p hp => by rw [List.mem_singleton.mp hp]; exact hj) (fun k _ => et_yes) (fun k _ _ => he k) (by omega)) (by rw [List.filter_eq_self.mpr fun _ _ => rfl]; exact (List.map_map (f := f) (g := D.bl)).symm))) ea_nil) rc_all) (by rw [List.all_map]; rfl)
section
variable {K : PySem.W.Frag} {ρ : Rho} {g g' : Gs} {F : FM} {te tb : TE} {tA : TA} {i : Nat} {x y z d : D} {ds es : List D} {E : XK}
/-- an own list by one of the outcomes -/
theorem TM.asgQO {P : Rs → Gs → Prop} (h : EvQ K te ρ g P) (hk : ∀ r g', P r g' → ∃ es, r = .o es ∧ F.nx (ρ.set i (.o es)) g') : TM K (tAsg te (gName i)) ρ g F := fun S0 H0 S H σ Dd s a =>
  h S0 H0 S H σ s _ fun r g' v S1 H1 hP x1 z => by
    obtain ⟨es, rfl, k⟩ := hk r g' hP
    obtain ⟨fp, rg, s1⟩ := z
    exact a.nx _ g' S1 H1 _ k x1 ⟨fp, rg, s1.pull.1⟩
/-- a call whose first argument has several outcomes, its answer one alone -/
theorem EvQ.callF {Rel : List D → List D → Prop} {P : Rs → Gs → Prop} (h : EvQ K te ρ g P) (ha : EvA K tA ρ ds) (hP : ∀ r g', P r g' → g' = g ∧ ∃ d, r = .d d ∧ Rel (d :: ds) es) : EvX K (tCall (spF K Rel) [] E (tCons te tA)) ρ g (.d (.lst es)) g := fun S0 H0 S H σ st Q q =>
  h S0 H0 S H σ st _ fun r g' v S1 H1 hp e1 zz => by
    obtain ⟨rfl, d, rfl, rel⟩ := hP r g' hp
    obtain ⟨st1, r1⟩ := zz
    refine ha S1 H1 σ st1.sub st1.env _ fun ws S2 H2 x2 r2 => ⟨S2, d :: ds, es, x2.sub, by rw [List.append_nil]; exact .cons (r1.mono x2.s) r2, rel, fun p us S3 H3 x3 hp sp h3 r3 => ?_⟩
    have xx := x2.trans x3
    have x4 := xx.tell sp (Evl.fresh_back x2.h hp) h3
    exact q (.ref p) (upd S3 p (.lst us)) H3 (e1.trans x4.s) ⟨st1.go x4, .lst upd_same (r3.mono (Ex.new sp))⟩
theorem EvX.opD {rr : R2} (h : EvX K te ρ g (.d x) g') (hb : EvD K tb ρ y) (hr : RV K rr x y z) : EvX K (tOp rr te tb) ρ g (.d z) g' := fun S0 H0 S H σ s Q q => h S0 H0 S H σ s _ fun v S1 H1 e1 ⟨s1, r1⟩ =>
  hb S1 H1 σ s1.sub s1.env _ fun u S2 H2 x2 r2 => hr S2 H2 v u x2.sub (r1.mono x2.s) r2 Q fun w S3 H3 x3 r3 => q w S3 H3 (e1.trans (x2.trans x3).s) ⟨(s1.go x2).go x3, r3⟩
end
theorem dup_not_slim {n : Nat} {l : List Fr.Bar} {b : Fr.Bar} (ok : Fr.Ok n l) (sl : Fr.Slim n l) (hb : b ∈ l) : ¬ Fr.Slim n (l ++ [b]) := fun z => by
  obtain ⟨o1, o2, o3⟩ := ok b hb
  exact (Fr.slim_snoc sl o1 o2 o3).mp z (Fr.bar_spn ok sl hb)
end Pl

/-! The worth shown: chosen ahead of a bar, parts among which a bar lies, what two parts share. -/
namespace Pl
open Fr (Bar JS)
def barN (nb : List Bar) (i : Nat) : Bar := nb.getD i (0, 0)
section
variable {n : Nat} {nb : List Bar}
theorem pick_bars : ∀ (r kb pre : List Bar), (Fr.pickN n kb r pre.length).map (barN (pre ++ r)) = Fr.pickB n kb r
  | [], kb, pre => by rw [Fr.pickN, Fr.pickB]; rfl
  | b :: r, kb, pre => by
    have e : pre ++ b :: r = (pre ++ [b]) ++ r := by simp
    have l : pre.length + 1 = (pre ++ [b]).length := by simp
    by_cases h : Fr.Slim n (kb ++ [b])
    · rw [Fr.pickN_yes h, Fr.pickB_yes h, List.map_cons, l, e, pick_bars r (kb ++ [b]) (pre ++ [b])]
      refine congrArg (· :: _) ?_
      unfold barN
      rw [← e]
      simp [List.getD]
    · rw [Fr.pickN_no h, Fr.pickB_no h, l, e, pick_bars r kb (pre ++ [b])]
theorem pick_all : (Fr.pickN n [] nb 0).map (barN nb) = Fr.pickB n [] nb := by
  have z := pick_bars (n := n) nb [] []
  simpa using z
theorem pick_low {i : Nat} (h : i ∈ Fr.pickN n [] nb 0) : i < nb.length := by
  have := ((Fr.pickN_rise nb [] 0).1 i h).2
  omega
theorem pick_split {j : Nat} (hj : j < nb.length) : Fr.pickN n [] nb 0 = Fr.pickN n [] (nb.take j) 0 ++ Fr.pickN n (Fr.pickB n [] (nb.take j)) (nb.drop j) j := by
  have z := Fr.pickN_app (n := n) (nb.take j) (nb.drop j) [] 0
  rw [List.take_append_drop, List.nil_append, Nat.zero_add, List.length_take, Nat.min_eq_left (by omega)] at z
  exact z
/-- those chosen ahead of one -/
theorem pick_ahead {j : Nat} (hj : j < nb.length) : ((Fr.pickN n [] nb 0).filter fun i => decide (i < j)).map (barN nb) = Fr.pickB n [] (nb.take j) := by
  have h1 := (Fr.pickN_rise (n := n) (nb.take j) [] 0).1
  have h2 := (Fr.pickN_rise (n := n) (nb.drop j) (Fr.pickB n [] (nb.take j)) j).1
  rw [pick_split hj, List.filter_append, List.filter_eq_self.mpr fun i hi => decide_eq_true (by have := (h1 i hi).2; rw [List.length_take] at this; omega),
    List.filter_eq_nil_iff.mpr fun i hi => by have := (h2 i hi).1; rw [decide_eq_true_eq]; omega, List.append_nil]
  rw [← pick_all (nb := nb.take j)]
  refine List.map_congr_left fun i hi => ?_
  have := (h1 i hi).2
  rw [List.length_take] at this
  unfold barN
  rw [List.getD_eq_getElem?_getD, List.getD_eq_getElem?_getD, List.getElem?_take_of_lt (by omega)]
theorem pick_at {j : Nat} (hj : j < nb.length) : j ∈ Fr.pickN n [] nb 0 ↔ Fr.Slim n (Fr.pickB n [] (nb.take j) ++ [barN nb j]) := by
  have h1 := (Fr.pickN_rise (n := n) (nb.take j) [] 0).1
  have ed : nb.drop j = barN nb j :: nb.drop (j + 1) := by
    rw [List.drop_eq_getElem_cons hj]
    unfold barN
    simp [List.getD, hj]
  rw [pick_split hj, List.mem_append, ed]
  have no : j ∉ Fr.pickN n [] (nb.take j) 0 := fun z => by
    have := (h1 j z).2
    rw [List.length_take] at this
    omega
  by_cases h : Fr.Slim n (Fr.pickB n [] (nb.take j) ++ [barN nb j])
  · rw [Fr.pickN_yes h]
    exact ⟨fun _ => h, fun _ => .inr List.mem_cons_self⟩
  · rw [Fr.pickN_no h]
    refine ⟨fun z => ?_, fun z => absurd z h⟩
    rcases z with z | z
    · exact absurd z no
    · have := ((Fr.pickN_rise (n := n) (nb.drop (j + 1)) (Fr.pickB n [] (nb.take j)) (j + 1)).1 j z).1
      omega
/-! ### parts -/
theorem mem_partL {K : List Bar} {p : Bar} {x : Nat} : x ∈ partL n K p ↔ x < n ∧ Fr.part n K p.1 p.2 x = true := by
  unfold partL
  rw [List.mem_filter, List.mem_range]
theorem part_rise {l : List Nat} (h : l ∈ partsL n nb) : l.Pairwise (· < ·) ∧ ∀ x ∈ l, x < n := by
  obtain ⟨p, _, rfl⟩ := List.mem_map.mp h
  exact ⟨List.Pairwise.filter _ List.pairwise_lt_range, fun x hx => (mem_partL.mp hx).1⟩
theorem part_two {l : List Nat} (h : l ∈ partsL n nb) : 2 ≤ l.length := by
  obtain ⟨p, hp, rfl⟩ := List.mem_map.mp h
  obtain ⟨h1, h2, h3, _⟩ := Fr.ldrs_mem.mp hp
  have a : p.1 ∈ partL n (Fr.pickB n [] nb) p := mem_partL.mpr ⟨by omega, Fr.part_left⟩
  have b : p.2 ∈ partL n (Fr.pickB n [] nb) p := mem_partL.mpr ⟨h2, Fr.part_right⟩
  match hl : partL n (Fr.pickB n [] nb) p with
  | [] => rw [hl] at a; cases a
  | [x] =>
    rw [hl] at a b
    have e1 := List.mem_singleton.mp a
    have e2 := List.mem_singleton.mp b
    omega
  | _ :: _ :: _ => simp
/-- each bar lies among just one part -/
theorem part_one (ok : Fr.Ok n nb) {b : Bar} (hb : b ∈ nb) : ((partsL n nb).filter fun l => decide (b.1 ∈ l) && decide (b.2 ∈ l)).length = 1 := by
  have okk := Fr.basis_ok ok
  have slk := Fr.basis_slim n nb
  obtain ⟨o1, o2, o3⟩ := ok b hb
  have sp : Fr.Spn n (Fr.pickB n [] nb) b.1 b.2 := Fr.hld_bar ok hb
  have z := Fr.ins_ldrs okk slk (J := [b]) (fun x hx => by rw [List.mem_singleton.mp hx]; exact ⟨o1, o2, o3⟩) fun x hx => by rw [List.mem_singleton.mp hx]; exact sp
  rw [← List.countP_eq_length_filter]
  unfold partsL
  rw [List.countP_map]
  rw [List.length_singleton] at z
  rw [← z, ← Fr.sum_count]
  refine congrArg List.sum (List.map_congr_left fun p _ => ?_)
  have e : ((fun l => decide (b.1 ∈ l) && decide (b.2 ∈ l)) ∘ partL n (Fr.pickB n [] nb)) p = (Fr.part n (Fr.pickB n [] nb) p.1 p.2 b.1 && Fr.part n (Fr.pickB n [] nb) p.1 p.2 b.2) := by
    show (decide (b.1 ∈ partL n (Fr.pickB n [] nb) p) && decide (b.2 ∈ partL n (Fr.pickB n [] nb) p)) = _
    have d : ∀ x, x < n → decide (x ∈ partL n (Fr.pickB n [] nb) p) = Fr.part n (Fr.pickB n [] nb) p.1 p.2 x := fun x hx => by
      rw [Bool.eq_iff_iff, decide_eq_true_eq, mem_partL]
      exact ⟨fun h => h.2, fun h => ⟨hx, h⟩⟩
    rw [d _ o1, d _ o2]
  rw [e, Fr.ins_cons, Fr.ins_nil, Nat.zero_add]
/-- two parts have one joint together at most -/
theorem part_share (ok : Fr.Ok n nb) {i j : Nat} {l m : List Nat} (hl : (partsL n nb)[i]? = some l) (hm : (partsL n nb)[j]? = some m) (ij : i ≠ j) : (l.filter fun x => decide (x ∈ m)).length ≤ 1 := by
  have okk := Fr.basis_ok ok
  have slk := Fr.basis_slim n nb
  have nd := parts_nodup n nb
  have lm : l ≠ m := fun e => by
    subst e
    obtain ⟨h1, e1⟩ := List.getElem?_eq_some_iff.mp hl
    exact ij ((List.getElem?_inj h1 nd).mp (hl.trans hm.symm))
  have ml := List.mem_of_getElem? hl
  have mm := List.mem_of_getElem? hm
  have ndl : l.Nodup := (part_rise ml).1.imp fun {a b} h => Nat.ne_of_lt h
  obtain ⟨p, hp, rfl⟩ := List.mem_map.mp ml
  obtain ⟨q, hq, rfl⟩ := List.mem_map.mp mm
  match hf : (partL n (Fr.pickB n [] nb) p).filter fun x => decide (x ∈ partL n (Fr.pickB n [] nb) q) with
  | [] => simp
  | [_] => simp
  | x :: y :: r =>
    exfalso
    have mx : x ∈ (partL n (Fr.pickB n [] nb) p).filter fun x => decide (x ∈ partL n (Fr.pickB n [] nb) q) := by rw [hf]; simp
    have my : y ∈ (partL n (Fr.pickB n [] nb) p).filter fun x => decide (x ∈ partL n (Fr.pickB n [] nb) q) := by rw [hf]; simp
    have ndf := ndl.sublist (List.filter_sublist (p := fun x => decide (x ∈ partL n (Fr.pickB n [] nb) q)))
    rw [hf] at ndf
    have xy : x ≠ y := fun e => (List.nodup_cons.mp ndf).1 (by rw [e]; exact List.mem_cons_self)
    obtain ⟨x1, x2⟩ := List.mem_filter.mp mx
    obtain ⟨y1, y2⟩ := List.mem_filter.mp my
    obtain ⟨xn, xp⟩ := mem_partL.mp x1
    obtain ⟨yn, yp⟩ := mem_partL.mp y1
    obtain ⟨_, xq⟩ := mem_partL.mp (of_decide_eq_true x2)
    obtain ⟨_, yq⟩ := mem_partL.mp (of_decide_eq_true y2)
    obtain ⟨e1, e2⟩ := Fr.lead_uniq okk slk (Fr.ldrs_mem.mp hp) (Fr.ldrs_mem.mp hq) xn yn xy xp yp xq yq
    exact lm (by rw [show p = q from Prod.ext e1 e2])
/-- twice their joints less three, added up -/
theorem part_sums (ok : Fr.Ok n nb) : ((partsL n nb).map fun l => 2 * (l.length : Int) - 3).sum = (Fr.rk n nb : Int) := by
  have ps := Fr.parts_sum (Fr.basis_ok ok) (Fr.basis_slim n nb)
  unfold Fr.rk
  rw [← ps]
  unfold partsL
  rw [List.map_map]
  have all : ∀ p ∈ Fr.ldrs n (Fr.pickB n [] nb), (2 * ((partL n (Fr.pickB n [] nb) p).length : Int) - 3) = ((2 * Fr.card n (Fr.part n (Fr.pickB n [] nb) p.1 p.2) - 3 : Nat) : Int) := fun p hp => by
    have two := part_two (n := n) (nb := nb) (List.mem_map_of_mem hp)
    have e : (partL n (Fr.pickB n [] nb) p).length = Fr.card n (Fr.part n (Fr.pickB n [] nb) p.1 p.2) := List.countP_eq_length_filter.symm
    rw [e] at two ⊢
    omega
  generalize Fr.ldrs n (Fr.pickB n [] nb) = L at all
  induction L with
  | nil => rfl
  | cons p L ih =>
    rw [List.map_cons, List.sum_cons, List.map_cons, List.sum_cons, ih fun q hq => all q (List.mem_cons_of_mem _ hq)]
    have z := all p List.mem_cons_self
    show (2 * ((partL n (Fr.pickB n [] nb) p).length : Int) - 3) + _ = _
    rw [z]
    omega
end
end Pl

/-! Methods of a class by their promises; list(d.values()); a call that may raise, of a method. -/
namespace Ms
open PySem PySem.Spec PyProof.Rows L2
/-! ### promises -/
def MetP (P : Program) (w : World) (K : PySem.W.Frag) (mg : Str → Option Value) (base : Heap) (CX : CXT) (k : Nat) (C : Addr) (m : Str) (ps : List Str) (sp : Sp) : Prop :=
  ∃ (f : Addr) (fd : FuncData), FnOk P w K mg base CX k f fd ps sp ∧ Cls K C ∧ Meth K C m f ∧ Binds K fd ps []
def MakP (P : Program) (w : World) (K : PySem.W.Frag) (mg : Str → Option Value) (base : Heap) (CX : CXT) (k : Nat) (x : Str) (C : Addr) (ps : List Str) (sp : Sp) : Prop :=
  ∃ (f : Addr) (fd : FuncData), FnOk P w K mg base CX k f fd ps sp ∧ Mk K C f ∧ mg x = some (.ref C) ∧ Binds K fd ps []
section
variable {X : Cx} {CX : CXT} {k j : Nat} {C : Addr} {x m : Str} {ps : List Str} {sp : Sp} {E : XK} {p pos apos : Pos} {e o : Expr} {es : List Expr} {ta : TE} {t : TA}
theorem pe_met {pl : Sem Bool} (c : MetP X.prog X.w X.K X.mg X.base CX k C m ps sp) (hr : Room j X.A) (hk : k ≤ j) (hx : Passes CX X E) (he : PE X o ta) (ha : PA X (e :: es) t)
    (hst : starEach (e :: es) X.env = (false, eval e X.env) :: starEach es X.env := by rfl) (hpl : (backTo pos (starEach es X.env)).any (·.1) = false := by rfl)
    (ht : eval (.Call (.Attribute o m apos) (e :: es) [] pos) X.env = (do
      let ov ← eval o X.env
      standAt apos.atName
      let (f, first) ← holding [ov] (getMethod ov m pl)
      callWith pos f first (backTo pos (starEach (e :: es) X.env)) (backToKw pos (keywordEach [] X.env))) := by rfl) :
    PE X (.Call (.Attribute o m apos) (e :: es) [] pos) (tMeth C m sp [] E ta t) := by
  obtain ⟨f, fd, F, hc, hm, b⟩ := c
  exact pe_meth (pl := pl) he hc hm F (hr.mono hk) b .nil hx ha hst hpl ht
theorem pe_met0 {pl : Sem Bool} (c : MetP X.prog X.w X.K X.mg X.base CX k C m ps sp) (hr : Room j X.A) (hk : k ≤ j) (hx : Passes CX X E) (he : PE X o ta)
    (ht : eval (.Call (.Attribute o m apos) [] [] pos) X.env = (do
      let ov ← eval o X.env
      standAt apos.atName
      let (f, first) ← holding [ov] (getMethod ov m pl)
      callWith pos f first (backTo pos (starEach [] X.env)) (backToKw pos (keywordEach [] X.env))) := by rfl) :
    PE X (.Call (.Attribute o m apos) [] [] pos) (tMeth C m sp [] E ta tNil) := by
  obtain ⟨f, fd, F, hc, hm, b⟩ := c
  exact pe_meth0 (pl := pl) he hc hm F (hr.mono hk) b .nil hx ht
theorem pe_mak (c : MakP X.prog X.w X.K X.mg X.base CX k x C ps sp) (hr : Room j X.A) (hk : k + 1 ≤ j) (hg : Gl X x) (hx : Passes CX X E) (ha : PA X (e :: es) t)
    (hdb : (x == ("__debug__" : Str)) = false := by decide) (he : starEach (e :: es) X.env = (false, eval e X.env) :: starEach es X.env := by rfl) (hpl : (backTo pos (starEach es X.env)).any (·.1) = false := by rfl) :
    PE X (.Call (.Name x p) (e :: es) [] pos) (tMake C sp [] E t) := by
  obtain ⟨f, fd, F, M, hm, b⟩ := c
  exact pe_make M F (hr.mono hk) hg hm b .nil hx ha hdb he hpl
/-- o.m(e, ..) within a suite -/
def tMethS (C : Addr) (m : Str) (sp : Sp) (E : L2.St → XK) (ta : TE) (t : TA) : TE := fun σ H Q => ta σ H fun x H1 => ∃ a dx fs, x = .ref a ∧ H1 a = some (.ins C dx fs) ∧ fs.lookup m = none ∧
  t σ H1 fun vs H2 => sp (x :: vs) H2 Q (E σ)
theorem pe_metS {pl : Sem Bool} {E : L2.St → XK} (c : MetP X.prog X.w X.K X.mg X.base CX k C m ps sp) (hr : Room j X.A) (hk : k ≤ j) (hx : ∀ σ, PassesAt CX X σ (E σ)) (he : PE X o ta) (ha : PA X (e :: es) t)
    (hst : starEach (e :: es) X.env = (false, eval e X.env) :: starEach es X.env := by rfl) (hpl : (backTo pos (starEach es X.env)).any (·.1) = false := by rfl)
    (ht : eval (.Call (.Attribute o m apos) (e :: es) [] pos) X.env = (do
      let ov ← eval o X.env
      standAt apos.atName
      let (f, first) ← holding [ov] (getMethod ov m pl)
      callWith pos f first (backTo pos (starEach (e :: es) X.env)) (backToKw pos (keywordEach [] X.env))) := by rfl) :
    PE X (.Call (.Attribute o m apos) (e :: es) [] pos) (tMethS C m sp E ta t) := by
  obtain ⟨f, fd, F, hc, hm, b⟩ := c
  refine ⟨fun pins s σ H Q I h => ?_⟩
  refine PySem.W.methodCall_KW (pl := pl) (thn (he.run pins s σ H _ I h) fun u s1 ⟨x, H1, I1, rx, a, dx, fs, ex, ea, l, q⟩ => ?_) ht
  subst ex
  obtain rfl : u = Value.ref a := rx
  refine getmeth_ok I1 ea hc hm l ?_
  refine PySem.W.callWith_K (first := [.ref a]) (h₀ := X.base) I.ok.mod.kin hm.kp (thn (ha.run pos pins s1 σ H1 _ I1 q) fun us s2 ⟨vs, H2, I2, r, q2⟩ => ⟨I2.kIn, ?_⟩) hst hpl
  exact run_fnS (us := .ref a :: us) (vs := .ref a :: vs) F (hr.mono hk) b (hx σ) I2 (.cons rfl r) q2
end
/-- a def that lets nothing out may be called where something may come out -/
theorem fn_cx {P : Program} {w : World} {K : PySem.W.Frag} {mg : Str → Option Value} {base : Heap} {CX : CXT} {k : Nat} {f : Addr} {fd : FuncData} {ps : List Str} {sp : Sp} (F : FnOk P w K mg base CX0 k f fd ps sp) : FnOk P w K mg base CX k f fd ps sp :=
  ⟨F.len, fun A outer s H args us vs Q E hr he hb hv hs => codeAny_mono (F.run A outer s H args us vs Q E hr he hb hv hs) fun r s' hq => by
    cases r with
    | error e => exact False.elim hq
    | ok fl =>
      cases fl with
      | ret u => exact hq
      | next => exact False.elim hq
      | brk => exact False.elim hq
      | cont => exact False.elim hq⟩
/-- one def, two promises -/
theorem fn_or {P : Program} {w : World} {K : PySem.W.Frag} {mg : Str → Option Value} {base : Heap} {CX : CXT} {k : Nat} {f : Addr} {fd : FuncData} {ps : List Str} {sp sp' : Sp} (F : FnOk P w K mg base CX k f fd ps sp) (G : FnOk P w K mg base CX k f fd ps sp') :
    FnOk P w K mg base CX k f fd ps fun vs H Q E => sp vs H Q E ∨ sp' vs H Q E :=
  ⟨fun vs H Q E h => h.elim (F.len vs H Q E) (G.len vs H Q E), fun A outer s H args us vs Q E hr he hb hv hs => hs.elim (F.run A outer s H args us vs Q E hr he hb hv) (G.run A outer s H args us vs Q E hr he hb hv)⟩
/-! ### list(d.values()) -/
theorem vals_at : ∀ {kvs : List (L2.Key × V)} {vs : List (L2.Key × Value)} {us : List Value}, KV kvs vs → us.length = vs.length → (∀ (j : Nat) (v : Value), us[j]? = some v → ∃ k, vs[j]? = some (k, v)) → Vals (kvs.map (·.2)) us
  | _, _, [], .nil, _, _ => .nil
  | _, _, _ :: _, .nil, h, _ => by cases h
  | _, _, [], .cons _ _, h, _ => by cases h
  | _, _, u :: us, .cons r t, h, hj => by
    obtain ⟨k, e⟩ := hj 0 u rfl
    have e := Option.some.inj e
    refine .cons ?_ (vals_at t (Nat.succ.inj h) fun j v hv => hj (j + 1) v hv)
    have z := r.2
    rw [e] at z
    exact z
def tListVals (te : TE) : TE := fun σ H Q => te σ H fun x H1 => ∃ (d : Addr) (kvs : List (L2.Key × V)), x = .ref d ∧ H1 d = some (.dK kvs) ∧ ∀ p, H1 p = none → Q (.ref p) (upd H1 p (.lst (kvs.map (·.2))))
theorem pe_listVals {X : Cx} {e : Expr} {te : TE} {p apos cpos pos : Pos} (hc : X.calm = true) (he : PE X e te) (hg : Gl X "list") (hm : X.mg "list" = none) (hv : bootBuiltins "list" = some (.type "list") := by decide +kernel) (hbase : attributeBase e "values" X.env (eval e X.env) = eval e X.env := by rfl) (hline : (apos.endLine == cpos.line) = true := by rfl)
    (hs : starEach [.Call (.Attribute e "values" apos) [] [] cpos] X.env = (false, eval (.Call (.Attribute e "values" apos) [] [] cpos) X.env) :: starEach [] X.env := by rfl) :
    PE X (.Call (.Name "list" p) [.Call (.Attribute e "values" apos) [] [] cpos] [] pos) (tListVals te) := by
  refine ⟨fun pins s σ H Q I hq => ?_⟩
  refine wpAny_Call_Name_kw (ld_blt I hg hm hv ?_)
  refine PyProof.Rows.callWith_type1 ?_ hs rfl
  rw [hs]
  show wpAny _ _ (spliced ((false, eval (.Call (.Attribute e "values" apos) [] [] cpos) X.env) :: backTo pos (starEach [] X.env))) _ _ s
  refine Calls.spliced_cons ?_
  refine wpAny_Call_method (T := "dict") (id := "dict.values") hbase rfl hline F.plainAttrs_dict F.slot_dict_values F.type_dict_values (thn (he.run pins s σ H _ I hq) fun u s1 ⟨x, H1, I1, rx, d, kvs, ex, hd, q⟩ => ?_)
  subst ex
  obtain rfl : u = Value.ref d := rx
  obtain ⟨hz, hs0, vs, kv, hdo⟩ := I1.hok d _ hd
  obtain ⟨ep, hat⟩ := hdo.dictAt
  have lk : kvs.length = vs.length := Paired.length kv
  have I2 : Inv X pins σ H1 { s1 with heap := s1.heap.push { cls := .type "dict_values", data := .fields #[.ref d] } } := I1.kept (t' := s1.toks) fun b ob q => Heap.get?_push_of_some _ q
  refine ⟨hdo.typeIs, hdo.mapOf.noDict, ?_⟩
  show wpAny _ _ (callWith cpos (.builtin "dict.values") [.ref d] [] []) _ X.xe s1
  refine method_meetsIn F.slot_dict_values F.entry_dict_values rfl (PySem.evalArgs_none ⟨rfl, hdo.typeIs, F.args_dict_values_1 _, _, meets_dict_values (mixKind X.prog X.w) d hs0, ⟨vs, hdo⟩, ?_⟩)
  refine Calls.spliced_nil ?_
  refine PySem.W.kdl_call (PySem.W.kdl_values (knd := mixKind X.prog X.w) (kvs := vs) (ep := ep) (r := s1.heap.objs.size) (d := d)) (I1.ok.hd hc) ⟨⟨_, Heap.get?_push_size _ rfl, rfl, rfl⟩, hat.push _⟩ (by omega) fun h' tk acc c' hk hD hacc => ?_
  have hvv : Vals (kvs.map (·.2)) acc.toList := vals_at kv (by rw [Array.length_toList]; exact hacc.1) fun j v e => hacc.2 j v (by rw [← Array.getElem?_toList]; exact e)
  exact ⟨.ref _, upd H1 _ (.lst (kvs.map (·.2))), I2.laid (t' := tk) hk (Nat.le_refl _)
    (show ObjOk X.prog X.w _ _ _ (.lst (kvs.map (·.2))) from ⟨by rw [List.length_map]; exact hz, acc.toList, c', hvv, by rw [Array.toArray_toList]; exact hD⟩), rfl, q _ (I2.hok.fresh (Nat.le_refl _))⟩
end Ms

/-! Instances: as data and as trees; their methods; dicts that are held by an attribute. -/
namespace Pl
open PySem PySem.Spec PyProof.Rows L2
open Evl (Ex)
theorem look_zip {f : Str} : ∀ {fs : List Str} {xs : List V} {k : Nat}, fs.length = xs.length → fs[k]? = some f → (∀ q : Nat, q < k → fs[q]? ≠ some f) → (fs.zip xs).lookup f = xs[k]?
  | [], _, _, _, h, _ => by simp at h
  | _ :: _, [], _, h, _, _ => by cases h
  | g :: fs, x :: xs, 0, _, h, _ => by
    have e : g = f := by simpa using h
    subst e
    show List.lookup g ((g, x) :: fs.zip xs) = some x
    simp [List.lookup]
  | g :: fs, x :: xs, k + 1, hl, h, hn => by
    have ne : g ≠ f := fun z => hn 0 (Nat.succ_pos _) (by rw [z]; rfl)
    have hb : (f == g) = false := beq_false_of_ne (Ne.symm ne)
    show List.lookup f ((g, x) :: fs.zip xs) = (x :: xs)[k + 1]?
    rw [List.lookup, hb]
    have z := look_zip (f := f) (fs := fs) (xs := xs) (k := k) (Nat.succ.inj hl) (by simpa using h) fun q hq => by
      have := hn (q + 1) (by omega)
      simpa using this
    simpa using z
theorem look_out {m : Str} : ∀ {fs : List Str} {xs : List V}, m ∉ fs → (fs.zip xs).lookup m = none
  | [], _, _ => rfl
  | _ :: _, [], _ => rfl
  | g :: fs, x :: xs, h => by
    have hb : (m == g) = false := beq_false_of_ne fun z => h (z ▸ List.mem_cons_self)
    show List.lookup m ((g, x) :: fs.zip xs) = none
    rw [List.lookup, hb]
    exact look_out fun z => h (List.mem_cons_of_mem _ z)
theorem putF_old {f : Str} {y : V} : ∀ {fs : List Str} {xs : List V} {k : Nat}, fs.length = xs.length → fs[k]? = some f → (∀ q : Nat, q < k → fs[q]? ≠ some f) → putF f y (fs.zip xs) = fs.zip (xs.set k y)
  | [], _, _, _, h, _ => by simp at h
  | _ :: _, [], _, h, _, _ => by cases h
  | g :: fs, x :: xs, 0, _, h, _ => by
    have e : g = f := by simpa using h
    subst e
    show (if g = g then (g, y) :: fs.zip xs else _) = _
    rw [if_pos rfl]
    rfl
  | g :: fs, x :: xs, k + 1, hl, h, hn => by
    have ne : g ≠ f := fun z => hn 0 (Nat.succ_pos _) (by rw [z]; rfl)
    show (if g = f then _ else (g, x) :: putF f y (fs.zip xs)) = (g, x) :: fs.zip (xs.set k y)
    rw [if_neg ne, putF_old (Nat.succ.inj hl) (by simpa using h) fun q hq => by
      have := hn (q + 1) (by omega)
      simpa using this]
theorem putF_new {f : Str} {y : V} : ∀ {fs : List Str} {xs : List V}, fs.length = xs.length → f ∉ fs → putF f y (fs.zip xs) = (fs ++ [f]).zip (xs ++ [y])
  | [], [], _, _ => rfl
  | [], _ :: _, h, _ => by cases h
  | _ :: _, [], h, _ => by cases h
  | g :: fs, x :: xs, hl, h => by
    have ne : g ≠ f := fun z => h (z ▸ List.mem_cons_self)
    show (if g = f then _ else (g, x) :: putF f y (fs.zip xs)) = (g, x) :: (fs ++ [f]).zip (xs ++ [y])
    rw [if_neg ne, putF_new (Nat.succ.inj hl) fun z => h (List.mem_cons_of_mem _ z)]
theorem dropK_zip {k : Int} : ∀ {ns : List Int} {vs : List V} {j : Nat}, ns.length = vs.length → ns[j]? = some k → ns.Nodup → dropK ((ik ns).zip vs) (.inl k) = (ik (ns.eraseIdx j)).zip (vs.eraseIdx j)
  | [], _, _, _, h, _ => by simp at h
  | _ :: _, [], _, h, _, _ => by cases h
  | n :: ns, v :: vs, 0, hl, h, nd => by
    have e : n = k := by simpa using h
    subst e
    have out : ∀ {ns : List Int} {vs : List V}, n ∉ ns → dropK ((ik ns).zip vs) (.inl n) = (ik ns).zip vs := fun {ns vs} hn => by
      unfold dropK
      refine List.filter_eq_self.mpr fun p hp => decide_eq_true fun e => hn ?_
      have z := (List.of_mem_zip (a := p.1) (b := p.2) hp).1
      unfold ik at z
      obtain ⟨x, hx, ex⟩ := List.mem_map.mp z
      rw [e] at ex
      exact Sum.inl.inj ex ▸ hx
    have hn := (List.nodup_cons.mp nd).1
    have z : dropK (((Sum.inl n : L2.Key), v) :: (ik ns).zip vs) (.inl n) = dropK ((ik ns).zip vs) (.inl n) := List.filter_cons_of_neg (by simp)
    show dropK (((Sum.inl n : L2.Key), v) :: (ik ns).zip vs) (.inl n) = (ik ns).zip vs
    rw [z, out hn]
  | n :: ns, v :: vs, j + 1, hl, h, nd => by
    have hj : ns[j]? = some k := by simpa using h
    have ne : n ≠ k := fun z => (List.nodup_cons.mp nd).1 (z ▸ List.mem_of_getElem? hj)
    have z : dropK (((Sum.inl n : L2.Key), v) :: (ik ns).zip vs) (.inl k) = (Sum.inl n, v) :: dropK ((ik ns).zip vs) (.inl k) := List.filter_cons_of_pos (decide_eq_true fun e => ne (Sum.inl.inj e))
    show dropK (((Sum.inl n : L2.Key), v) :: (ik ns).zip vs) (.inl k) = (Sum.inl n, v) :: (ik (ns.eraseIdx j)).zip (vs.eraseIdx j)
    rw [z, dropK_zip (Nat.succ.inj hl) hj (List.nodup_cons.mp nd).2]
section
variable {K : PySem.W.Frag} {S H : Hp}
theorem RdL.of_get : ∀ {xs : List V} {ds : List D}, xs.length = ds.length → (∀ (q : Nat) (v : V) (d : D), xs[q]? = some v → ds[q]? = some d → Rd K S v d) → RdL K S xs ds
  | [], [], _, _ => .nil
  | [], _ :: _, h, _ => by cases h
  | _ :: _, [], h, _ => by cases h
  | v :: xs, d :: ds, hl, h => .cons (h 0 v d rfl rfl) (RdL.of_get (Nat.succ.inj hl) fun q v d e1 e2 => h (q + 1) v d (by simpa using e1) (by simpa using e2))
/-- flat, or a tuple of such -/
def D.tf : D → Bool
  | .tup ds => ds.all D.flat
  | d => d.flat
theorem Rd.swap {v : V} {d : D} {p : Addr} {o o' : HO} (h : Rd K S v d) (hd : d.tf = true) (hp : S p = some o) (no : ∀ xs, o ≠ .tup xs) : Rd K (upd S p o') v d := by
  cases h with
  | tup ha r =>
    rename_i a xs ds
    have ne : a ≠ p := fun z => by
      subst z
      rw [ha] at hp
      exact no _ (Option.some.inj hp).symm
    exact .tup (by rw [upd_ne ne]; exact ha) (r.flat fun d hm => List.all_eq_true.mp hd d hm)
  | non => exact .non
  | bl b => exact .bl b
  | int i => exact .int i
  | str x => exact .str x
  | adr a => exact .adr a
  | ty n => exact .ty n
  | ro _ => cases hd
  | lst _ _ => cases hd
  | dc _ _ _ => cases hd
  | ob _ _ _ => cases hd
  | fz _ _ => cases hd
  | fv _ _ _ => cases hd
  | er _ _ _ _ => cases hd
theorem RdL.swap {p : Addr} {o o' : HO} (hp : S p = some o) (no : ∀ xs, o ≠ .tup xs) : ∀ {vs : List V} {ds : List D}, RdL K S vs ds → (∀ d ∈ ds, d.tf = true) → RdL K (upd S p o') vs ds
  | _, _, .nil, _ => .nil
  | _, _, .cons h r, f => .cons (h.swap (f _ List.mem_cons_self) hp no) (RdL.swap hp no r fun d hd => f d (List.mem_cons_of_mem _ hd))
end
/-! ### data -/
section
variable {K : PySem.W.Frag} {ρ : Rho} {ta te td : TE} {tA : TA} {C : Addr} {fs : List Str} {os ds es : List D} {d : D} {f m : Str} {k : Nat} {E : XK}
theorem ev_fld (h : EvD K ta ρ (.ob C fs os)) (c : Cls K C) (n : NoAttr K C f) (h1 : fs[k]? = some f) (h2 : ∀ q : Nat, q < k → fs[q]? ≠ some f) (hd : os[k]? = some d) : EvD K (tFld K ta f) ρ d := fun S H σ e v Q q =>
  h S H σ e v _ fun w S1 H1 x1 r1 => by
    cases r1 with
    | ob ha hl rl =>
      obtain ⟨u, hu, ru⟩ := rl.get hd
      exact ⟨_, _, _, _, u, rfl, x1.sub _ _ ha, c, n, by rw [look_zip hl h1 h2, hu], q u S1 H1 x1 ru⟩
theorem ev_meth {Rel : List D → D → Prop} (h : EvD K ta ρ (.ob C fs os)) (hm : m ∉ fs) (ha : EvA K tA ρ ds) (hr : Rel (.ob C fs os :: ds) d) : EvD K (tMeth C m (spD K Rel) [] E ta tA) ρ d := fun S H σ e v Q q =>
  h S H σ e v _ fun w S1 H1 x1 r1 => by
    have r1' := r1
    cases r1 with
    | ob hb hl rl =>
      refine ⟨_, _, _, rfl, x1.sub _ _ hb, look_out hm, ha S1 H1 σ x1.sub (v.mono x1.s) _ fun ws S2 H2 x2 r2 => ⟨S2, _, d, x2.sub, ?_, hr, fun w S3 H3 x3 r3 => q w S3 H3 ((x1.trans x2).trans x3) r3⟩⟩
      rw [List.append_nil]
      exact .cons (r1'.mono x2.s) r2
theorem ev_methF {Rel : List D → List D → Prop} (h : EvD K ta ρ (.ob C fs os)) (hm : m ∉ fs) (ha : EvA K tA ρ ds) (hr : Rel (.ob C fs os :: ds) es) : EvF K (tMeth C m (spF K Rel) [] E ta tA) ρ es := fun S H σ e v Q q =>
  h S H σ e v _ fun w S1 H1 x1 r1 => by
    have r1' := r1
    cases r1 with
    | ob hb hl rl =>
      refine ⟨_, _, _, rfl, x1.sub _ _ hb, look_out hm, ha S1 H1 σ x1.sub (v.mono x1.s) _ fun ws S2 H2 x2 r2 => ⟨S2, _, es, x2.sub, ?_, hr, fun p us S3 H3 x3 hp sp h3 r3 => q p us S3 H3 ((x1.trans x2).trans x3) (Evl.fresh_back (x1.h.trans x2.h) hp) sp h3 r3⟩⟩
      rw [List.append_nil]
      exact .cons (r1'.mono x2.s) r2
def rLenD : List V → Hp → VK → Prop := fun xs H Q => ∃ a kvs, xs = [V.ref a] ∧ H a = some (.dK kvs) ∧ Q (.int kvs.length) H
theorem ok_lenD {X : Cx} : CallR X (.builtin "len") rLenD := call_lenD
theorem rc_lenD {ks : List L2.Key} : RC K rLenD [.dc ks ds] (.int (ds.length : Int)) := fun S H vs e r Q q => by
  cases r with
  | cons h t =>
    cases t
    cases h with
    | dc ha hl rl =>
      refine ⟨_, _, rfl, e _ _ ha, ?_⟩
      rw [List.length_zip, hl, Nat.min_self, rl.length]
      exact q _ S H (Ext.refl e) (.int _)
def rListD : List V → Hp → VK → Prop := fun xs H Q => ∃ (a : Addr) (kvs : List (L2.Key × V)), xs = [.ref a] ∧ L2.Rd H a (.dK kvs) ∧ ∀ p, H p = none → Q (.ref p) (upd H p (.lst (kvs.map fun kv => kV kv.1)))
theorem ok_listD {X : Cx} (hc : X.calm = true) : CallR X (.type "list") rListD := call_listD hc
theorem rcF_listD {ns : List Int} : RCF K rListD [.dc (ik ns) ds] (ns.map D.int) := fun S H vs e r Q q => by
  cases r with
  | cons h t =>
    cases t
    cases h with
    | dc ha hl rl =>
      rename_i a xs
      refine ⟨a, _, rfl, .inl (e _ _ ha), fun p hp => ?_⟩
      have ev : (((ik ns).zip xs).map fun kv => kV kv.1) = ns.map V.int := by
        have z : ((ik ns).zip xs).map (fun kv => kV kv.1) = (((ik ns).zip xs).map Prod.fst).map kV := by rw [List.map_map]; rfl
        rw [z, List.map_fst_zip (by rw [hl]; exact Nat.le_refl _)]
        unfold ik
        rw [List.map_map]
        rfl
      rw [ev]
      exact q p _ S _ (Ext.hid e hp) hp (sub_none e hp) upd_same (RdL.ofInts ns)
theorem evF_listVals {ks : List L2.Key} (h : EvD K te ρ (.dc ks ds)) : EvF K (Ms.tListVals te) ρ ds := fun S H σ e v Q q =>
  h S H σ e v _ fun w S1 H1 x1 r1 => by
    cases r1 with
    | dc ha hl rl =>
      rename_i a xs
      refine ⟨a, _, rfl, x1.sub _ _ ha, fun p hp => ?_⟩
      have ev : ((ks.zip xs).map (·.2)) = xs := List.map_snd_zip (by rw [hl]; exact Nat.le_refl _)
      rw [ev]
      exact q p _ S1 _ (x1.trans (Ext.hid x1.sub hp)) (Evl.fresh_back x1.h hp) (sub_none x1.sub hp) upd_same rl
/-- the pairs of a dict that is walked -/
def pairsD (ns : List Int) (ds : List D) : List D := List.zipWith (fun n d => D.tup [.int n, d]) ns ds
theorem pairsD_get {ns : List Int} {i : Nat} {d : D} (h : (pairsD ns ds)[i]? = some d) : ∃ n x, ns[i]? = some n ∧ ds[i]? = some x ∧ d = .tup [.int n, x] := by
  unfold pairsD at h
  rw [List.getElem?_zipWith] at h
  cases e1 : ns[i]? with
  | none => rw [e1] at h; cases h
  | some n =>
    cases e2 : ds[i]? with
    | none => rw [e1, e2] at h; cases h
    | some x =>
      rw [e1, e2] at h
      cases h
      exact ⟨n, x, rfl, rfl, rfl⟩
theorem ei_items {ns : List Int} (h : EvD K td ρ (.fv (ik ns) ds)) : EvI K (iItems td) ρ (pairsD ns ds) := fun S H σ e v R q =>
  h S H σ e v _ fun w S1 H1 x1 r1 => by
    cases r1 with
    | fv ha hl rl =>
      rename_i p o xs
      have hl2 : ns.length = xs.length := by rw [← hl]; exact (List.length_map _).symm
      have hz : ((ik ns).zip xs).length = (pairsD ns ds).length := by
        unfold pairsD
        rw [List.length_zip, List.length_zipWith, hl, hl2, rl.length]
      refine ⟨p, o, (ik ns).zip xs, rfl, x1.sub _ _ ha, q _ S1 H1 x1 ⟨fun S' H' i e1 e2 hi => ⟨e2 _ _ (e1 _ _ ha), by rw [hz]; exact hi⟩, fun S' H' i x H'' d e1 e2 hd y => ?_, fun S' H' e1 e2 => ⟨e2 _ _ (e1 _ _ ha), by rw [hz]; exact Nat.le_refl _⟩⟩⟩
      obtain ⟨T, key, u, h1, rfl, hT, rfl⟩ := y
      obtain ⟨n, dx, g1, g2, rfl⟩ := pairsD_get hd
      obtain ⟨u', hu, ru⟩ := rl.get g2
      have z1 := congrArg (Option.map Prod.fst) h1
      have z2 := congrArg (Option.map Prod.snd) h1
      rw [← List.getElem?_map] at z1 z2
      have s1 : ((ik ns).zip xs).map Prod.fst = ik ns := List.map_fst_zip (by rw [hl]; exact Nat.le_refl _)
      have s2 : ((ik ns).zip xs).map Prod.snd = xs := List.map_snd_zip (by rw [hl]; exact Nat.le_refl _)
      rw [s1] at z1
      rw [s2, hu] at z2
      unfold ik at z1
      rw [List.getElem?_map, g1] at z1
      have z1 : some (Sum.inl n : L2.Key) = some key := z1
      have z2 : some u' = some u := z2
      cases z1
      cases z2
      exact ⟨upd S' T (.tup [.int n, u]), Ext.new e2 hT, .tup upd_same (.cons (.int n) (.cons ((ru.mono e1).mono (Ex.new (sub_none e2 hT))) .nil))⟩
def blank (n : Nat) : Rho := List.replicate n .u
/-- a comprehension over a dict that an attribute holds -/
theorem evF_lockFld {i : Nat} {ks : List L2.Key} (hi : ρ[i]? = some (.k (.ob C fs os))) (hk : os[k]? = some (.dc ks ds)) (hfl : ∀ (q : Nat) (d : D), q ≠ k → os[q]? = some d → d.flat = true) (hb : ∀ d ∈ ds, d.tf = true)
    (h : EvF K te ((blank ρ.length).set i (.k (.ob C fs (os.set k (.fv ks ds))))) es) (he : ∀ d ∈ es, d.tf = true) : EvF K (tLockE te) ρ es := fun S H σ e v Q q => by
  obtain ⟨w, hw, rw'⟩ := v.val i _ hi
  cases rw' with
  | ob ha hl rl =>
    rename_i a dx xs
    obtain ⟨u, hu, ru⟩ := rl.get hk
    cases ru with
    | dc hp hl2 rl2 =>
      rename_i p ws
      have nap : a ≠ p := fun z => by
        subst z
        rw [ha] at hp
        cases hp
      refine ⟨p, _, e _ _ hp, trivial, fun od => ?_⟩
      have sub2 : Ex (upd S p (.frz od (.dK (ks.zip ws)))) (upd H p (.frz od (.dK (ks.zip ws)))) := fun b o z => by
        by_cases hb : b = p
        · subst hb
          rw [upd_same] at z ⊢
          exact z
        · rw [upd_ne hb] at z ⊢
          exact e b o z
      have hks : k < os.length := (List.getElem?_eq_some_iff.mp hk).1
      have ev2 : Env K (upd S p (.frz od (.dK (ks.zip ws)))) σ ((blank ρ.length).set i (.k (.ob C fs (os.set k (.fv ks ds))))) := by
        have hln : (blank ρ.length).length = ρ.length := List.length_replicate
        have hi' : i < ρ.length := (List.getElem?_eq_some_iff.mp hi).1
        refine ⟨by rw [List.length_set, hln]; exact v.len, fun j d hj => ?_⟩
        by_cases hji : i = j
        · subst hji
          rw [List.getElem?_set_self (by rw [hln]; exact hi')] at hj
          cases hj
          refine ⟨_, hw, .ob (by rw [upd_ne nap]; exact ha) hl (RdL.of_get (by rw [List.length_set]; exact rl.length) fun q x d h1 h2 => ?_)⟩
          by_cases hq : k = q
          · subst hq
            rw [List.getElem?_set_self hks] at h2
            cases h2
            rw [hu] at h1
            cases h1
            exact .fv upd_same hl2 (rl2.swap hp (fun _ z => nomatch z) hb)
          · rw [List.getElem?_set_ne hq] at h2
            obtain ⟨x', e1, e2⟩ := rl.get h2
            rw [h1] at e1
            cases e1
            exact e2.flat (hfl q d (Ne.symm hq) h2)
        · rw [List.getElem?_set_ne hji] at hj
          unfold blank at hj
          have := List.mem_of_getElem? hj
          cases List.eq_of_mem_replicate this
      refine h _ _ σ sub2 ev2 _ fun p' us S4 H4 x hp' sp' h4 r4 => ?_
      have e4 : H4 p = some (.frz od (.dK (ks.zip ws))) := x.h p _ upd_same
      have s4 : S4 p = some (.frz od (.dK (ks.zip ws))) := x.s p _ upd_same
      refine ⟨e4, ?_⟩
      have nq : p' ≠ p := fun z => by rw [z, upd_same] at hp'; cases hp'
      have hp0 : H p' = none := by rw [upd_ne nq] at hp'; exact hp'
      refine q p' us (upd S4 p (.dK (ks.zip ws))) _ ⟨fun b o z => ?_, fun b o z => ?_, fun b o z => ?_, fun b z1 z2 => ?_⟩ hp0 (by rw [upd_ne nq]; exact sp') (by rw [upd_ne nq]; exact h4) (r4.swap s4 (fun _ z => nomatch z) he)
      · by_cases hb : b = p
        · subst hb
          rw [hp] at z
          cases z
          rw [upd_same]
        · rw [upd_ne hb]
          exact x.s b o (by rw [upd_ne hb]; exact z)
      · by_cases hb : b = p
        · subst hb
          rw [e _ _ hp] at z
          cases z
          rw [upd_same]
        · rw [upd_ne hb]
          exact x.h b o (by rw [upd_ne hb]; exact z)
      · by_cases hb : b = p
        · subst hb
          rw [upd_same] at z ⊢
          exact z
        · rw [upd_ne hb] at z ⊢
          exact x.sub b o z
      · have hb : b ≠ p := fun w => by rw [w, hp] at z1; cases z1
        rw [upd_ne hb]
        exact x.dis b (by rw [upd_ne hb]; exact z1) (by rw [upd_ne hb]; exact z2)
end
/-! ### trees -/
section
variable {K : PySem.W.Frag} {S0 H0 S H S' H' : Hp} {σ : L2.St} {ρ ρ' ρ1 ρv : Rho} {g g' g1 g2 gl gr : Gs} {F G : FM} {t u : TS} {ta tb te ti td tx tk tv ty : TE} {tA : TA} {c c' : TT} {d x y z : D} {es ds : List D} {ms : List M} {m m1 m2 mk mv : M} {a C : Addr} {π : List Nat} {Dd : Ends} {i j k : Nat} {b b' : Bool} {r : Rs} {E : XK} {s : Shp} {fs : List Str} {f : Str}
theorem ep_fld (h : EvP K te ρ g a m π) (hc : Cls K C) (hn : NoAttr K C f) (hg : (a, m) ∈ g) (hat : M.at π m = some (.n (.ins C fs) ms)) (h1 : fs[k]? = some f) (h2 : ∀ q : Nat, q < k → fs[q]? ≠ some f) (hk : ms[k]? = some mk) : EvP K (tFld K te f) ρ g a m (π ++ [k]) := fun S0 H0 S H σ st Q q =>
  h S0 H0 S H σ st _ fun u S1 H1 x1 l => by
    have st1 := st.go x1
    obtain ⟨p, o, vs, fq, e1, e2, e3, e4⟩ := st1.at hg l hat
    subst e1
    obtain ⟨hl, dx, eo⟩ := id e3
    have hkl : k < vs.length := by
      rw [e4.length]
      exact (List.getElem?_eq_some_iff.mp hk).1
    obtain ⟨w, hw⟩ : ∃ w, vs[k]? = some w := ⟨_, List.getElem?_eq_getElem hkl⟩
    refine ⟨p, C, dx, fs.zip vs, w, rfl, by rw [e2, eo], hc, hn, by rw [look_zip hl h1 h2, hw], q w S1 H1 x1 (l.snoc hat e2 e3 hw hk)⟩
theorem OwnL.setD : ∀ {vs : List V} {ms : List M} {fp : List Addr} {v : V} {d : D} {k : Nat}, OwnL K S H vs ms fp → Rd K S v d → ∃ fp', OwnL K S H (vs.set k v) (ms.set k (.d d)) fp' ∧ fp'.Sublist fp
  | _, _, _, _, _, _, .nil, _ => ⟨[], .nil, List.Sublist.refl _⟩
  | _, _, _, _, _, 0, .cons (f := f) (g := g) h r, hd => ⟨[] ++ g, .cons (.d hd) r, List.sublist_append_right f g⟩
  | _, _, _, _, _, k + 1, .cons (f := f) (g := g) h r, hd => by
    obtain ⟨fp', o, sb⟩ := OwnL.setD (k := k) r hd
    exact ⟨f ++ fp', .cons h o, (List.Sublist.refl f).append sb⟩
/-- o.f = v, an attribute that stands -/
theorem TM.setA (hv : EvD K tv ρ d) (hp : EvP K ta ρ g a m π) (hc : Cls K C) (hn : NoAttr K C f) (hg : g = gl ++ (a, m) :: gr) (hat : M.at π m = some (.n (.ins C fs) ms)) (h1 : fs[k]? = some f) (h2 : ∀ q : Nat, q < k → fs[q]? ≠ some f) (hl : fs.length < 1000)
    (kk : F.nx ρ (gl ++ (a, M.put (.n (.ins C fs) (ms.set k (.d d))) π m) :: gr)) : TM K (sFld K ta tv f) ρ g F := fun S0 H0 S H σ Dd st ac =>
  hv S H σ st.sub st.env _ fun v S1 H1 x1 r1 => by
    have st1 := st.go x1
    refine hp S0 H0 S1 H1 σ st1 _ fun u S2 H2 x2 l => ?_
    have st2 := st1.go x2
    obtain ⟨p, o, vs, fq, e1, e2, _, e3, e4, e5, wr⟩ := st2.write hg l hat
    obtain ⟨e8, dx, e9⟩ := e3
    subst e1
    subst e9
    refine ⟨p, C, dx, fs.zip vs, rfl, e2, hc, hn, by rw [List.length_zip]; omega, ?_⟩
    have e4' : OwnL K S2 (upd H2 p (.ins C dx (putF f v (fs.zip vs)))) vs ms fq := e4.mono (Ex.refl _) fun b hb => upd_ne fun e => e5 (by rw [← e]; exact hb)
    obtain ⟨fq', ow, sb⟩ := e4'.setD (k := k) (r1.mono x2.s)
    exact ac.nx _ _ S2 _ σ kk (x1.s.trans x2.s) (wr _ (.ins C fs) (vs.set k v) _ fq' ⟨by rw [List.length_set]; exact e8, dx, by rw [putF_old e8 h1 h2]⟩ ow sb)
/-- o.f = v, a new attribute -/
theorem TM.newA (hv : EvD K tv ρ d) (hp : EvP K ta ρ g a m π) (hc : Cls K C) (hn : NoAttr K C f) (hg : g = gl ++ (a, m) :: gr) (hat : M.at π m = some (.n (.ins C fs) ms)) (h1 : f ∉ fs) (hl : fs.length < 1000)
    (kk : F.nx ρ (gl ++ (a, M.put (.n (.ins C (fs ++ [f])) (ms ++ [.d d])) π m) :: gr)) : TM K (sFld K ta tv f) ρ g F := fun S0 H0 S H σ Dd st ac =>
  hv S H σ st.sub st.env _ fun v S1 H1 x1 r1 => by
    have st1 := st.go x1
    refine hp S0 H0 S1 H1 σ st1 _ fun u S2 H2 x2 l => ?_
    have st2 := st1.go x2
    obtain ⟨p, o, vs, fq, e1, e2, _, e3, e4, e5, wr⟩ := st2.write hg l hat
    obtain ⟨e8, dx, e9⟩ := e3
    subst e1
    subst e9
    refine ⟨p, C, dx, fs.zip vs, rfl, e2, hc, hn, by rw [List.length_zip]; omega, ?_⟩
    have e4' : OwnL K S2 (upd H2 p (.ins C dx (putF f v (fs.zip vs)))) vs ms fq := e4.mono (Ex.refl _) fun b hb => upd_ne fun e => e5 (by rw [← e]; exact hb)
    refine ac.nx _ _ S2 _ σ kk (x1.s.trans x2.s) (wr _ (.ins C (fs ++ [f])) (vs ++ [v]) _ (fq ++ ([] ++ [])) ⟨by rw [List.length_append, List.length_append, e8]; rfl, dx, by rw [putF_new e8 h1]⟩ (e4'.append (.cons (.d (r1.mono x2.s)) .nil)) (by simp))
theorem SG.attach {p0 : Addr} (st : SG K S0 H0 ρ [(a, .n s (ms ++ [.d (.adr p0)])), (p0, mv)] S H σ) : SG K S0 H0 ρ [(a, .n s (ms ++ [mv]))] S H σ := by
  obtain ⟨fp, rg, s0⟩ := st
  have o := rg.own
  have o : OwnL K S H [.ref a, .ref p0] [.n s (ms ++ [.d (.adr p0)]), mv] fp := o
  suffices h : OwnL K S H [.ref a] [.n s (ms ++ [mv])] fp from ⟨fp, ⟨h, rg.nd, rg.no⟩, s0⟩
  cases o with
  | cons h r =>
    cases h with
    | n ha ho rl =>
      rename_i o' vs fq
      cases r with
      | cons h2 r2 =>
        cases r2
        rename_i f2
        have hlen := rl.length
        rw [List.length_append] at hlen
        have ev : vs = vs.take ms.length ++ vs.drop ms.length := (List.take_append_drop _ _).symm
        have htk : (vs.take ms.length).length = ms.length := by
          rw [List.length_take]
          simp at hlen
          omega
        rw [ev] at rl
        obtain ⟨f1, f3, e, o1, o2⟩ := rl.split htk
        cases hd : vs.drop ms.length with
        | nil => rw [hd] at o2; cases o2
        | cons w ws =>
          rw [hd] at o2
          cases o2 with
          | cons q1 q2 =>
            cases q2
            cases q1 with
            | d q1 =>
              cases q1
              rw [hd] at ev
              have z : OwnL K S H (vs.take ms.length ++ [.ref p0]) (ms ++ [mv]) (f1 ++ (f2 ++ [])) := o1.append (.cons h2 .nil)
              rw [← ev] at z
              have y : OwnL K S H [.ref a] [.n s (ms ++ [mv])] ((a :: (f1 ++ (f2 ++ []))) ++ []) := .cons (.n ha ho z) .nil
              have ee : (a :: (f1 ++ (f2 ++ []))) ++ [] = (a :: fq) ++ (f2 ++ []) := by
                rw [e]
                simp
              rw [ee] at y
              exact y
/-- o.f = v, a new attribute that holds a new tree -/
theorem TM.newAT (hv : EvX K tv ρ [(a, .n (.ins C fs) ms)] (.t mv) [(a, .n (.ins C fs) ms)]) (hi : ρ[i]? = some (.k (.adr a))) (hc : Cls K C) (hn : NoAttr K C f) (h1 : f ∉ fs) (hl : fs.length < 1000)
    (kk : F.nx ρ [(a, .n (.ins C (fs ++ [f])) (ms ++ [mv]))]) : TM K (sFld K (tVar i) tv f) ρ [(a, .n (.ins C fs) ms)] F := fun S0 H0 S H σ Dd st ac =>
  hv S0 H0 S H σ st _ fun v S1 H1 ex1 w => by
    obtain ⟨p0, ev, st1⟩ := w
    subst ev
    obtain ⟨v0, hv0, rv0⟩ := st1.env.val i _ hi
    cases rv0
    refine ⟨_, hv0, ?_⟩
    obtain ⟨p, o, vs, fq, e1, e2, _, e3, e4, e5, wr⟩ := st1.write (gl := []) (gr := [(p0, mv)]) (a := a) (m := .n (.ins C fs) ms) (π := []) rfl (.nil) rfl
    obtain ⟨e8, dx, e9⟩ := e3
    cases e1
    subst e9
    refine ⟨a, C, dx, fs.zip vs, rfl, e2, hc, hn, by rw [List.length_zip]; omega, ?_⟩
    have e4' : OwnL K S1 (upd H1 a (.ins C dx (putF f (.ref p0) (fs.zip vs)))) vs ms fq := e4.mono (Ex.refl _) fun b hb => upd_ne fun e => e5 (by rw [← e]; exact hb)
    have z := wr _ (.ins C (fs ++ [f])) (vs ++ [.ref p0]) (ms ++ [.d (.adr p0)]) (fq ++ ([] ++ [])) ⟨by rw [List.length_append, List.length_append, e8]; rfl, dx, by rw [putF_new e8 h1]⟩ (e4'.append (.cons (.d (.adr p0)) .nil)) (by simp)
    exact ac.nx _ _ S1 _ σ kk ex1 (SG.attach z)
/-- what a call that takes a part of the region promises -/
theorem SG.callG {Rel : List D → Gs → Rs → Gs → Prop} {vs : List V} {Q : VK} (st0 : SG K S0 H0 ρ (g1 ++ g2) S H σ) (rl : RdL K S vs ds) (hr : Rel ds g1 r g') (q : ∀ v S' H', Ex S S' → Res K S0 H0 ρ (g2 ++ g') S' H' σ v r → Q v H') : spG K Rel vs H Q E := by
  obtain ⟨fp, rg, st⟩ := st0
  have o := rg.own
  rw [gv_app, gm_app] at o
  obtain ⟨fs, f2, e, o1, o2⟩ := o.split gv_len
  subst e
  have n := SG.noS st rg
  have hc : cov (cov H (fun _ => Option.none) fs) H fs = H := funext fun a => by
    by_cases h : a ∈ fs
    · rw [cov_in h]
    · rw [cov_out h, cov_out h]
  refine ⟨S, cov H (fun _ => Option.none) fs, ds, g1, r, g', ⟨fs, ⟨o1, (List.nodup_append.mp rg.nd).1, fun a ha => ⟨cov_in ha, n a (List.mem_append_left _ ha)⟩⟩, ?_⟩, rl, hr, fun v S2 H2 _ z => ?_⟩
  · rw [hc]
    exact (⟨Ext.refl st.ext.sub, ⟨rfl, fun i d h => by simp at h⟩, fun i ds h => by simp at h, fun i j a b p h => by simp at h⟩ : Stt K S H [] S H [])
  · obtain ⟨e, y⟩ := SG.ret st o1 o2 rg.nd rg.no z
    exact q v S2 H2 e y
/-- C(..) -/
theorem EvX.make {Rel : List D → Gs → Rs → Gs → Prop} (ha : EvA K tA ρ ds) (hr : ∀ x, Rel (.adr x :: ds) [(x, .n (.ins C []) [])] (.d .non) [(x, m)]) : EvX K (tMake C (spG K Rel) [] E tA) ρ g (.t m) g := fun S0 H0 S H σ st Q q =>
  ha S H σ st.sub st.env _ fun vs S1 H1 x1 r1 x dx hx hdx ne => by
    have st1 := st.go x1
    have e1 : Ext S1 H1 S1 (upd H1 dx (.own x)) := Ext.hid x1.sub hdx
    have hx2 : (upd H1 dx (.own x)) x = none := by rw [upd_ne (Ne.symm ne)]; exact hx
    have e2 : Ext S1 H1 S1 (upd (upd H1 dx (.own x)) x (.ins C dx [])) := e1.trans (Ext.hid e1.sub hx2)
    have st2 : SG K S0 H0 ρ (g ++ [(x, .n (.ins C []) [])]) S1 (upd (upd H1 dx (.own x)) x (.ins C dx [])) σ := st1.add e2 (f := [x]) (.n (vs := []) (fp := []) upd_same ⟨rfl, dx, rfl⟩ .nil) (by simp) fun a ha => by
      rw [List.mem_singleton.mp ha]
      exact ⟨hx, sub_none x1.sub hx⟩
    refine SG.callG (g1 := [(x, .n (.ins C []) [])]) (g2 := g) (st2.perm List.perm_append_comm) (ds := .adr x :: ds) (by rw [List.append_nil]; exact .cons (.adr x) r1) (hr x) fun v S2 H2 e3 w => ?_
    obtain ⟨w1, w2⟩ := w
    cases w2
    exact ⟨rfl, q _ S2 H2 (x1.s.trans e3) ⟨x, rfl, w1⟩⟩
/-- o.m(..) as m(o, ..) -/
theorem EvX.meth {mn : Str} {sp : Sp} (hi : ρ[i]? = some (.k (.adr a))) (hg : (a, .n (.ins C fs) ms) ∈ g) (hm : mn ∉ fs) (h : EvX K (tCall sp [] E (tCons (tVar i) tA)) ρ g r g') : EvX K (tMeth C mn sp [] E (tVar i) tA) ρ g r g' := fun S0 H0 S H σ st Q q => by
  obtain ⟨v, hv, w⟩ := h S0 H0 S H σ st Q q
  obtain ⟨v', hv', rv⟩ := st.env.val i _ hi
  rw [hv] at hv'
  cases hv'
  cases rv
  obtain ⟨p, o, vs, fq, e1, e2, e3, e4⟩ := st.at hg (π := []) .nil rfl
  cases e1
  obtain ⟨hl, dx, eo⟩ := e3
  subst eo
  exact ⟨_, hv, a, dx, _, rfl, e2, look_out hm, w⟩
theorem EvX.methS {mn : Str} {sp : Sp} {W : L2.St → XK} (hi : ρ[i]? = some (.k (.adr a))) (hg : (a, .n (.ins C fs) ms) ∈ g) (hm : mn ∉ fs) (h : EvX K (tCallS sp W (tCons (tVar i) tA)) ρ g r g') : EvX K (Ms.tMethS C mn sp W (tVar i) tA) ρ g r g' := fun S0 H0 S H σ st Q q => by
  obtain ⟨v, hv, w⟩ := h S0 H0 S H σ st Q q
  obtain ⟨v', hv', rv⟩ := st.env.val i _ hi
  rw [hv] at hv'
  cases hv'
  cases rv
  obtain ⟨p, o, vs, fq, e1, e2, e3, e4⟩ := st.at hg (π := []) .nil rfl
  cases e1
  obtain ⟨hl, dx, eo⟩ := e3
  subst eo
  exact ⟨_, hv, a, dx, _, rfl, e2, look_out hm, w⟩
/-- a call within a suite that goes well -/
theorem ex_callS {Rel : List D → Gs → Rs → Gs → Prop} {sp' : Sp} {W : L2.St → XK} (hp : List.Perm g (g1 ++ g2)) (ha : EvA K tA ρ ds) (hr : Rel ds g1 r g') : EvX K (tCallS (fun vs H Q E => spG K Rel vs H Q E ∨ sp' vs H Q E) W tA) ρ g r (g2 ++ g') := fun S0 H0 S H σ st Q q =>
  ha S H σ st.sub st.env _ fun vs S1 H1 x1 r1 => .inl (((st.go x1).perm hp).callG r1 hr fun v S2 H2 e w => q v S2 H2 (x1.s.trans e) w)
/-- d.pop(k) -/
theorem EvX.popD {ns : List Int} {kk : Int} (hp : EvP K td ρ g a m π) (hk : EvD K ty ρ (.int kk)) (hg : g = gl ++ (a, m) :: gr) (hat : M.at π m = some (.n (.dic (ik ns)) (ds.map M.d))) (h1 : ns[j]? = some kk) (nd : ns.Nodup) (hd : ds[j]? = some d) :
    EvX K (tDPop1 td ty) ρ g (.d d) (gl ++ (a, M.put (.n (.dic (ik (ns.eraseIdx j))) ((ds.eraseIdx j).map M.d)) π m) :: gr) := fun S0 H0 S H σ st Q q =>
  hp S0 H0 S H σ st _ fun u S1 H1 x1 l => by
    have st1 := st.go x1
    obtain ⟨p, o, vs, fq, e1, e2, _, e3, e4, e5, wr0⟩ := st1.write hg l hat
    obtain ⟨e8, e9⟩ := e3
    subst e1
    subst e9
    refine ⟨p, rfl, .inl ⟨_, .inl e2⟩, hk S1 H1 σ st1.sub st1.env _ fun w S2 H2 x2 r2 => ?_⟩
    cases r2
    have st2 := st1.go x2
    obtain ⟨p', o, vs, fq, e1, e2, _, e3, e4, e5, wr⟩ := st2.write hg (l.mono x2.h) hat
    obtain ⟨e6, e7⟩ := e4.toD
    obtain ⟨e8, e9⟩ := e3
    cases e1
    subst e9
    subst e6
    have hl2 : ns.length = vs.length := by rw [← e8]; exact (List.length_map _).symm
    obtain ⟨v, hv, rv⟩ := e7.get hd
    have hfst : ∀ q : Nat, q < j → ns[q]? ≠ some kk := fun q hq e => by
      obtain ⟨hj, ej⟩ := List.getElem?_eq_some_iff.mp h1
      obtain ⟨hq2, eq⟩ := List.getElem?_eq_some_iff.mp e
      exact List.pairwise_iff_getElem.mp nd q j hq2 hj hq (eq.trans ej.symm)
    refine ⟨_, .inl kk, v, e2, rfl, by rw [valV_zip hl2 h1 hfst, hv], q v S2 _ (x1.s.trans x2.s) ⟨wr _ (.dic (ik (ns.eraseIdx j))) (vs.eraseIdx j) _ [] ⟨?_, by rw [dropK_zip hl2 h1 nd]⟩ (OwnL.ofD (e7.eraseIdx j)) (List.Sublist.refl _), rv⟩⟩
    unfold ik
    rw [List.length_map, List.length_eraseIdx, List.length_eraseIdx, hl2]
theorem EvX.op2 {rr : R2} (h : EvX K ta ρ g (.d x) g1) (h2 : EvX K tb ρ g1 (.d y) g2) (hr : RV K rr x y z) : EvX K (tOp rr ta tb) ρ g (.d z) g2 := fun S0 H0 S H σ s Q q => h S0 H0 S H σ s _ fun v S1 H1 e1 ⟨s1, r1⟩ =>
  h2 S0 H0 S1 H1 σ s1 _ fun u S2 H2 e2 ⟨s2, r2⟩ => hr S2 H2 v u s2.sub (r1.mono e2) r2 Q fun w S3 H3 x3 r3 => q w S3 H3 ((e1.trans e2).trans x3.s) ⟨s2.go x3, r3⟩
theorem EvXT.or (h : EvXT K c ρ g b g1) (hb : b = false) (h2 : EvXT K c' ρ g1 b' g2) : EvXT K (tOr c c') ρ g b' g2 := fun S0 H0 S H σ s Q q => h S0 H0 S H σ s _ fun S1 H1 e1 s1 => by
  subst hb
  exact h2 S0 H0 S1 H1 σ s1 Q fun S2 H2 e2 s2 => q S2 H2 (e1.trans e2) s2
end
end Pl

/-! A frame: as data, as a tree. -/
namespace Pl
open PySem PySem.Spec PyProof.Rows L2
open Evl (Ex)
def frF : List Str := ["_count", "_coming", "_standing"]
def frD (C : Addr) (n c : Int) (ks : List Int) (nb : List Fr.Bar) : D := .ob C frF [.int n, .int c, .dc (ik ks) (brs nb)]
def frM (C : Addr) (n c : Int) (ks : List Int) (nb : List Fr.Bar) : M := .n (.ins C frF) [.d (.int n), .d (.int c), .n (.dic (ik ks)) ((brs nb).map M.d)]
theorem frM_see {C : Addr} {n c : Int} {ks : List Int} {nb : List Fr.Bar} : (frM C n c ks nb).see = frD C n c ks nb := by
  show D.ob C frF (seeL [.d (.int n), .d (.int c), .n (.dic (ik ks)) ((brs nb).map M.d)]) = _
  rw [seeL, seeL, seeL, seeL]
  show D.ob C frF [.int n, .int c, .dc (ik ks) (seeL ((brs nb).map M.d))] = _
  rw [seeL_d]
  rfl
theorem frF_first {k : Nat} {f : Str} (h : frF[k]? = some f) : ∀ q : Nat, q < k → frF[q]? ≠ some f := fun q hq e => by
  have nd : frF.Nodup := by decide
  obtain ⟨hj, ej⟩ := List.getElem?_eq_some_iff.mp h
  obtain ⟨hq2, eq⟩ := List.getElem?_eq_some_iff.mp e
  exact List.pairwise_iff_getElem.mp nd q k hq2 hj hq (eq.trans ej.symm)
section
variable {K : PySem.W.Frag} {ρ ρ' ρv : Rho} {ta te td : TE} {tA : TA} {C : Addr} {n c : Int} {ks : List Int} {nb : List Fr.Bar} {d : D} {g : Gs} {a : Addr} {i : Nat}
theorem ev_frC (h : EvD K ta ρ (frD C n c ks nb)) (hc : Cls K C) (ha : NoAttr K C "_count") : EvD K (tFld K ta "_count") ρ (.int n) := ev_fld (k := 0) h hc ha rfl (frF_first rfl) rfl
theorem ev_frN (h : EvD K ta ρ (frD C n c ks nb)) (hc : Cls K C) (ha : NoAttr K C "_coming") : EvD K (tFld K ta "_coming") ρ (.int c) := ev_fld (k := 1) h hc ha rfl (frF_first rfl) rfl
theorem ev_frS (h : EvD K ta ρ (frD C n c ks nb)) (hc : Cls K C) (ha : NoAttr K C "_standing") : EvD K (tFld K ta "_standing") ρ (.dc (ik ks) (brs nb)) := ev_fld (k := 2) h hc ha rfl (frF_first rfl) rfl
/-- the place of the dict of a frame -/
theorem ep_frS (hi : ρ[i]? = some (.k (.adr a))) (hg : (a, frM C n c ks nb) ∈ g) (hc : Cls K C) (ha : NoAttr K C "_standing") : EvP K (tFld K (tVar i) "_standing") ρ g a (frM C n c ks nb) [2] :=
  ep_fld (π := []) (k := 2) (ep_var hi) hc ha hg rfl rfl (frF_first rfl) rfl
end
def barsD (ks : List Int) (nb : List Fr.Bar) : List D := List.zipWith (fun k (b : Fr.Bar) => D.tup [.int k, .int (b.1 : Int), .int (b.2 : Int)]) ks nb
theorem barsD_eq (ks : List Int) (nb : List Fr.Bar) : barsD ks nb = (pairsD ks (brs nb)).map fun d => match d with
    | .tup [i, .tup [a, b]] => .tup [i, a, b]
    | d => d := by
  unfold barsD pairsD brs
  induction ks generalizing nb with
  | nil => rfl
  | cons k ks ih =>
    cases nb with
    | nil => rfl
    | cons b nb =>
      rw [List.zipWith_cons_cons, ih nb]
      rfl
theorem pairs_mem {ks : List Int} {nb : List Fr.Bar} {d : D} (h : d ∈ pairsD ks (brs nb)) : ∃ (k : Int) (b : Fr.Bar), d = .tup [.int k, barD (bI b)] := by
  obtain ⟨i, hi⟩ := List.getElem?_of_mem h
  obtain ⟨k, x, _, h2, rfl⟩ := pairsD_get hi
  obtain ⟨b, _, rfl⟩ := brs_mem (List.mem_of_getElem? h2)
  exact ⟨k, b, rfl⟩
/-- f'{i}..' as an argument -/
theorem ev_fstr2 {K : PySem.W.Frag} {ρ : Rho} {t1 t2 : TE} {y : Str} {i : Int} (h1 : EvD K t1 ρ (.int i)) (h2 : EvD K t2 ρ (.str y)) (hi : i.natAbs.log2 < 1920) (a1 : (Str.empty ++ toString i).length ≤ sizeLine) (a2 : (Str.empty ++ toString i ++ y).length ≤ sizeLine) :
    EvD K (fun σ H Q => tJs [tFmt t1, t2] Str.empty σ H fun out H1 => Q (.str out) H1) ρ (.str (Str.empty ++ toString i ++ y)) := fun S H σ e v Q q =>
  h1 S H σ e v _ fun w1 S1 H1 x1 r1 => by
    cases r1
    refine .inr ⟨i, rfl, hi, toString i, rfl, a1, h2 S1 H1 σ x1.sub (v.mono x1.s) _ fun w2 S2 H2 x2 r2 => ?_⟩
    cases r2
    exact ⟨y, rfl, a2, q _ S2 H2 (x1.trans x2) (.str _)⟩
/-- sorted(d) of a dict whose keys rise -/
theorem rcF_sortD {K : PySem.W.Frag} {ns : List Int} {ds : List D} (h64 : ns.length < 64) (hs : ns.Pairwise (· < ·)) : RCF K Sk.rSortedD [.dc (ik ns) ds] (ns.map D.int) := fun S H vs e r Q q => by
  cases r with
  | cons h t =>
    cases t
    cases h with
    | dc ha hl rl =>
      rename_i a xs
      have ek : ((ik ns).zip xs).map (·.1) = ns.map Sum.inl := by
        show List.map Prod.fst ((ik ns).zip xs) = ik ns
        rw [List.map_fst_zip (by rw [hl]; exact Nat.le_refl _)]
      refine ⟨a, _, ns, rfl, e _ _ ha, ek, ?_, fun ms p h1 h2 hp => ?_⟩
      · rw [List.length_zip]
        unfold ik
        rw [List.length_map]
        omega
      · have em : ms = ns := h2.eq_of_pairwise (fun a b _ _ h1 h2 => by omega) h1 (hs.imp fun h => by omega)
        subst em
        exact q p _ S _ (Ext.hid e hp) hp (sub_none e hp) upd_same (RdL.ofInts ms)
theorem rangeD {α : Type} (ys : List α) (z : α) : (List.range ys.length).map (fun i => ys.getD i z) = ys := by
  refine List.ext_getElem (by simp) fun i h1 h2 => ?_
  rw [List.getElem_map, List.getElem_range]
  simp [List.getD, h2]
theorem first_nd {ns : List Int} (nd : ns.Nodup) {i : Nat} (h : i < ns.length) : ns[i]? = some (ns.getD i 0) ∧ ∀ q : Nat, q < i → ns[q]? ≠ some (ns.getD i 0) := by
  have e : ns[i]? = some (ns.getD i 0) := by
    rw [List.getElem?_eq_getElem h]
    simp [List.getD, h]
  refine ⟨e, fun q hq eq => ?_⟩
  obtain ⟨hj, ej⟩ := List.getElem?_eq_some_iff.mp e
  obtain ⟨hq2, eq2⟩ := List.getElem?_eq_some_iff.mp eq
  exact List.pairwise_iff_getElem.mp nd q i hq2 hj hq (eq2.trans ej.symm)
theorem nodup_of_lt {ns : List Int} (h : ns.Pairwise (· < ·)) : ns.Nodup := h.imp fun h => by omega
theorem barsD_ok {ks : List Int} {nb : List Fr.Bar} : (D.lst (barsD ks nb)).okd 60 = true ∧ (D.lst (barsD ks nb)).sm 60 = true := by
  have z : ∀ d ∈ barsD ks nb, d.okd 59 = true ∧ d.sm 59 = true := fun d hd => by
    rw [barsD_eq] at hd
    obtain ⟨e, he, rfl⟩ := List.mem_map.mp hd
    obtain ⟨k, b, rfl⟩ := pairs_mem he
    exact ⟨rfl, rfl⟩
  exact ⟨List.all_eq_true.mpr fun d hd => (z d hd).1, List.all_eq_true.mpr fun d hd => (z d hd).2⟩
theorem barsD_len {ks : List Int} {nb : List Fr.Bar} (h : ks.length = nb.length) : (barsD ks nb).length = ks.length := by
  unfold barsD
  rw [List.length_zipWith]
  omega
theorem barsD_get {ks : List Int} {nb : List Fr.Bar} {i : Nat} (h : ks.length = nb.length) (hi : i < ks.length) : (barsD ks nb).getD i .non = .tup [.int (ks.getD i 0), .int ((nb.getD i (0, 0)).1 : Int), .int ((nb.getD i (0, 0)).2 : Int)] := by
  unfold barsD
  have hj : i < nb.length := by omega
  rw [List.getD, List.getElem?_zipWith, List.getElem?_eq_getElem hi, List.getElem?_eq_getElem hj]
  simp [List.getD, hi, hj]
/-- a reading, as one word -/
def tId (t : TS) : TS := t
theorem pss_id {X : Cx} {ss : List Stmt} {t : TS} (h : PSs X ss t) : PSs X ss (tId t) := h
end Pl

/-! == of mixed data with empty dicts in it, seen item by item; the call of an item of a list of defs; what may raise within an expression. -/
namespace Gx
open PySem PySem.Spec PyProof.Rows L2
/-- two empty dicts -/
def DEmp : Eqv := fun x y H => ∃ a b, x = .ref a ∧ y = .ref b ∧ H a = some (.dK []) ∧ H b = some (.dK [])
theorem mon_emp : Mon DEmp := fun x y H H' e ⟨a, b, h1, h2, h3, h4⟩ => ⟨a, b, h1, h2, e _ _ h3, e _ _ h4⟩
theorem rcG_emp {X : Cx} {n : Nat} : RcG X n DEmp := by
  intro A pins s σ H x y u v sb I rx ry d
  obtain ⟨a, b, rfl, rfl, ea, eb⟩ := d
  obtain rfl : u = Value.ref a := rx
  obtain rfl : v = Value.ref b := ry
  obtain ⟨_, ya, va, ra, da⟩ := (show ObjOk X.prog X.w H s.heap a (.dK []) from I.hok a _ ea)
  obtain ⟨_, yb, vb, rb, db⟩ := (show ObjOk X.prog X.w H s.heap b (.dK []) from I.hok b _ eb)
  have la : va.length = 0 := ra.length.symm
  have lb : vb.length = 0 := rb.length.symm
  have hl : va.length = vb.length := by rw [la, lb]
  have hu : A.units < cLine := by have := sb.room.un; omega
  have z := PySem.W.keq_eq (prog := X.prog) (w := X.w) (knd := mixKind X.prog X.w) (r := true) (A := A) (E := X.xe) (Q := fun r s' => r = .bool true ∧ ∃ H', Inv X pins σ H' s' ∧ L2.Ext H H') ya yb da db hu (fun _ => hits_all (ks := []) rb ra (fun p hp => by cases hp)) (by
    refine ⟨?_, H, I, Ext.rfl'⟩
    rw [hl]
    simp)
  exact z
theorem eqG_emp {X : Cx} {n : Nat} : EqG X n DEmp := rcG_emp.eqG fun _ _ _ ⟨a, b, h1, h2, _⟩ => ⟨a, b, h1, h2⟩
def DD (K : PySem.W.Frag) : Nat → Eqv
  | 0 => fun x y H => DFlat x y H ∨ DEmp x y H
  | n + 1 => fun x y H => DD K n x y H ∨ (DList (DD K n) x y H ∨ DTup K (DD K n) x y H)
theorem mon_dd {K : PySem.W.Frag} : ∀ n, Mon (DD K n)
  | 0 => mon_flat.or mon_emp
  | n + 1 => (mon_dd n).or ((mon_list (mon_dd n)).or (mon_tup (mon_dd n)))
theorem eqG_dd {X : Cx} : ∀ n, EqG X n (DD X.K n)
  | 0 => eqG_flat.or eqG_emp
  | n + 1 => ((eqG_dd n).mono (Nat.le_succ n)).or ((eqG_list (mon_dd n) (eqG_dd n)).or (eqG_tup (mon_dd n) (eqG_dd n)))
/-- x == y of any kind of data -/
def rEqX (K : PySem.W.Frag) : R2 := fun x y H Q => rEqD K x y H Q ∨ (rEqG (DList (DD K 3)) x y H Q ∨ rEqDA x y H Q)
theorem op_or {X : Cx} {f : Value → Value → Sem Value} {r r' : R2} (h : OpR X f r) (h' : OpR X f r') : OpR X f (fun x y H Q => r x y H Q ∨ r' x y H Q) := by
  intro pins s σ H x y v u Q I rx ry q
  exact q.elim (h pins s σ H x y v u Q I rx ry) (h' pins s σ H x y v u Q I rx ry)
theorem ok_eqX {X : Cx} {K : PySem.W.Frag} {j : Nat} (hK : X.K = K) (hr : Room j X.A) (hj : 4 ≤ j) (hu : X.A.units + 64 < cLine) : OpR X (compareOp .Eq) (rEqX K) := by
  subst hK
  exact op_or (op_eqD hu) (op_or (op_eqG (rcG_list (mon_dd 3) (eqG_dd 3)) (hr.mono hj)) (op_eq_dictA (by omega)))
/-! ### the call of an item -/
def CalV (P : Program) (w : World) (K : PySem.W.Frag) (mg : Str → Option Value) (base : Heap) (CX : CXT) (k : Nat) (f : Addr) (sp : Sp) : Prop :=
  ∃ (fd : FuncData) (ps : List Str), FnOk P w K mg base CX k f fd ps sp ∧ PySem.W.keepIn K (.ref f) = true ∧ Binds K fd ps []
def tCallV (L : List (Addr × Sp)) (E : L2.St → XK) (tf : TE) (t : TA) : TE := fun σ H Q => tf σ H fun v H1 => ∃ p : Addr × Sp, p ∈ L ∧ v = .ref p.1 ∧ t σ H1 fun vs H2 => p.2 vs H2 Q (E σ)
theorem pe_callV {X : Cx} {CX : CXT} {k : Nat} {L : List (Addr × Sp)} {E : L2.St → XK} {fe e : Expr} {es : List Expr} {tf : TE} {t : TA} {pos : Pos} (hL : ∀ p ∈ L, CalV X.prog X.w X.K X.mg X.base CX k p.1 p.2) (hr : Room k X.A) (hx : ∀ σ, PassesAt CX X σ (E σ)) (hf : PE X fe tf) (ha : PA X (e :: es) t)
    (harm : eval (.Call fe (e :: es) [] pos) X.env = (do callWith pos (← eval fe X.env) [] (backTo pos (starEach (e :: es) X.env)) (backToKw pos (keywordEach [] X.env))) := by rfl)
    (he : starEach (e :: es) X.env = (false, eval e X.env) :: starEach es X.env := by rfl) (hpl : (backTo pos (starEach es X.env)).any (·.1) = false := by rfl) :
    PE X (.Call fe (e :: es) [] pos) (tCallV L E tf t) := by
  refine ⟨fun pins s σ H Q I h => ?_⟩
  rw [harm]
  refine wpAny_bind (thn (hf.run pins s σ H _ I h) fun u s1 ⟨v, H1, I1, rv, p, hp, ev, q⟩ => ?_)
  subst ev
  obtain rfl : u = Value.ref p.1 := rv
  obtain ⟨fd, ps, F, kp, b⟩ := hL p hp
  refine PySem.W.callWith_K (h₀ := X.base) I1.ok.mod.kin kp (thn (ha.run pos pins s1 σ H1 _ I1 q) fun us s2 ⟨vs, H2, I2, r, q2⟩ => ⟨I2.kIn, ?_⟩) he hpl
  exact run_fnS F hr b (hx σ) I2 r q2
/-! ### C(..) within a suite -/
def tMakeS (C : Addr) (sp : Sp) (E : L2.St → XK) (t : TA) : TE := fun σ H Q => t σ H fun vs H1 => ∀ x dx, H1 x = none → H1 dx = none → dx ≠ x →
  sp (.ref x :: vs) (upd (upd H1 dx (.own x)) x (.ins C dx [])) (fun v H2 => v = .non ∧ Q (.ref x) H2) (E σ)
theorem pe_makS {X : Cx} {CX : CXT} {k j : Nat} {C : Addr} {x : Str} {ps : List Str} {sp : Sp} {E : L2.St → XK} {p pos : Pos} {e : Expr} {es : List Expr} {t : TA} (c : Ms.MakP X.prog X.w X.K X.mg X.base CX k x C ps sp) (hr : Room j X.A) (hk : k + 1 ≤ j) (hg : Gl X x) (hx : ∀ σ, PassesAt CX X σ (E σ)) (ha : PA X (e :: es) t)
    (hdb : (x == ("__debug__" : Str)) = false := by decide) (he : starEach (e :: es) X.env = (false, eval e X.env) :: starEach es X.env := by rfl) (hpl : (backTo pos (starEach es X.env)).any (·.1) = false := by rfl) :
    PE X (.Call (.Name x p) (e :: es) [] pos) (tMakeS C sp E t) := by
  obtain ⟨f, fd, F, M, hm, b⟩ := c
  have hr' : Room (k + 1) X.A := hr.mono hk
  refine ⟨fun pins s σ H Q I h => ?_⟩
  refine wpAny_Call_Name_kw (ld_glob I hg hm ?_ hdb)
  refine PySem.W.callWith_K (h₀ := X.base) I.ok.mod.kin M.kp (thn (ha.run pos pins s σ H _ I h) fun us s1 ⟨vs, H1, I1, r, q⟩ => ⟨I1.kIn, ?_⟩) he hpl
  have hq := q (s1.heap.objs.size + 1) s1.heap.objs.size (I1.hok.fresh (Nat.le_succ _)) (I1.hok.fresh (Nat.le_refl _)) (Nat.ne_of_lt (Nat.lt_succ_self _))
  have I2 := Inv.made (C := C) I1
  have r2 : Vals (V.ref (s1.heap.objs.size + 1) :: vs) (Value.ref (s1.heap.objs.size + 1) :: us) := .cons rfl r
  have hl : (Value.ref (s1.heap.objs.size + 1) :: us).length = ps.length := by
    have e := r2.length
    rw [F.len _ _ _ _ hq] at e
    exact e.symm
  have b2 := b _ (Value.ref (s1.heap.objs.size + 1) :: us) I2.kIn (by rw [List.append_nil]; exact hl)
  rw [List.append_nil] at b2
  refine wpAny_call (make_map (f := f) I1.kIn M.makes M.init (beq_iff_eq.mp M.fn) (codeAny_mono (F.run _ X.stack _ _ ⟨Value.ref (s1.heap.objs.size + 1) :: us, []⟩ (Value.ref (s1.heap.objs.size + 1) :: us) _ _ (E σ) (hr'.make C us [])
    (I2.env0.make C us []) b2 r2 hq) fun r s' hq' => ?_))
  cases r with
  | error e => exact hx σ pins _ _ e s' I2 hq'
  | ok fl =>
    cases fl with
    | ret u =>
      obtain ⟨v, H', I3, rv, ev, q3⟩ := I2.after hq'
      subst ev
      exact ⟨rv, ⟨V.ref (s1.heap.objs.size + 1), H', I3, rfl, q3⟩⟩
    | next => exact False.elim hq'
    | brk => exact False.elim hq'
    | cont => exact False.elim hq'
end Gx

/-! Mixed data that is equal to itself; what raises within an expression, within a suite. -/
namespace Pl
open PySem PySem.Spec PyProof.Rows L2
open Evl (Ex)
/-- data that == may be asked of, against itself -/
def D.eqd : Nat → D → Bool
  | _, .non => true | _, .bl _ => true | _, .int _ => true | _, .str _ => true
  | _, .dc ks ds => ks.isEmpty && ds.isEmpty
  | n + 1, .lst ds => ds.all (D.eqd n)
  | n + 1, .tup ds => ds.all (D.eqd n)
  | _, _ => false
section
variable {K : PySem.W.Frag} {S H : Hp}
theorem prs_dd {n : Nat} (ih : ∀ (d : D) (v u : V), d.eqd n = true → Rd K S v d → Rd K S u d → Gx.DD K n v u S) : ∀ (xs ys : List V) (ds : List D), (∀ d ∈ ds, d.eqd n = true) → RdL K S xs ds → RdL K S ys ds → Prs (Gx.DD K n) xs ys S
  | _, _, [], _, .nil, .nil => .nil
  | _, _, _ :: _, h, .cons a b, .cons a2 b2 => .cons (ih _ _ _ (h _ List.mem_cons_self) a a2) (prs_dd ih _ _ _ (fun d hd => h d (List.mem_cons_of_mem _ hd)) b b2)
theorem rd_dd : ∀ (n : Nat) (d : D) (v u : V), d.eqd n = true → Rd K S v d → Rd K S u d → Gx.DD K n v u S := fun n => by
  have lift : ∀ (n : Nat) (v u : V), Gx.DD K 0 v u S → Gx.DD K n v u S := fun n v u h => by
    induction n with
    | zero => exact h
    | succ n ih => exact .inl ih
  have flat : ∀ (n : Nat) (v u : V), flatV v = true → flatV u = true → eqV v u = true → Gx.DD K n v u S := fun n v u h1 h2 h3 => lift n v u (.inl ⟨h1, h2, h3⟩)
  have base : ∀ (n : Nat) (d : D) (v u : V), d.eqd n = true → (∀ ds, d ≠ .lst ds) → (∀ ds, d ≠ .tup ds) → Rd K S v d → Rd K S u d → Gx.DD K n v u S := fun n d v u h nl nt r1 r2 => by
    cases r1 with
    | non => cases r2; exact flat n _ _ rfl rfl rfl
    | bl b => cases r2; exact flat n _ _ rfl rfl (by simp [eqV])
    | int i => cases r2; exact flat n _ _ rfl rfl (by simp [eqV])
    | str x => cases r2; exact flat n _ _ rfl rfl (by simp [eqV])
    | adr a => cases n <;> simp [D.eqd] at h
    | ty a => cases n <;> simp [D.eqd] at h
    | ro _ => cases n <;> simp [D.eqd] at h
    | lst _ _ => exact absurd rfl (nl _)
    | tup _ _ => exact absurd rfl (nt _)
    | dc h1 l1 q1 =>
      rename_i a ks xs ds
      have hk : ks = [] ∧ ds = [] := by cases n <;> simpa [D.eqd] using h
      obtain ⟨rfl, rfl⟩ := hk
      cases r2 with
      | dc h2 l2 q2 => exact lift n _ _ (.inr ⟨_, _, rfl, rfl, h1, h2⟩)
    | ob _ _ _ => cases n <;> simp [D.eqd] at h
    | fz _ _ => cases n <;> simp [D.eqd] at h
    | fv _ _ _ => cases n <;> simp [D.eqd] at h
    | er _ _ _ _ => cases n <;> simp [D.eqd] at h
  induction n with
  | zero =>
    intro d v u h r1 r2
    exact base 0 d v u h (fun ds e => by subst e; simp [D.eqd] at h) (fun ds e => by subst e; simp [D.eqd] at h) r1 r2
  | succ n ih =>
    intro d v u h r1 r2
    cases r1 with
    | lst h1 q1 =>
      cases r2 with
      | lst h2 q2 => exact .inr (.inl ⟨_, _, _, _, rfl, rfl, h1, h2, prs_dd ih _ _ _ (by simpa [D.eqd] using h) q1 q2⟩)
    | tup h1 q1 =>
      cases r2 with
      | tup h2 q2 => exact .inr (.inr ⟨_, _, _, _, rfl, rfl, Evl.st_of h1, Evl.st_of h2, prs_dd ih _ _ _ (by simpa [D.eqd] using h) q1 q2⟩)
    | non => exact base _ _ _ _ h (fun ds e => by cases e) (fun ds e => by cases e) .non r2
    | bl b => exact base _ _ _ _ h (fun ds e => by cases e) (fun ds e => by cases e) (.bl b) r2
    | int i => exact base _ _ _ _ h (fun ds e => by cases e) (fun ds e => by cases e) (.int i) r2
    | str x => exact base _ _ _ _ h (fun ds e => by cases e) (fun ds e => by cases e) (.str x) r2
    | adr a => simp [D.eqd] at h
    | ty a => simp [D.eqd] at h
    | ro _ => simp [D.eqd] at h
    | dc h1 l1 q1 => exact base _ _ _ _ h (fun ds e => by cases e) (fun ds e => by cases e) (.dc h1 l1 q1) r2
    | ob _ _ _ => simp [D.eqd] at h
    | fz _ _ => simp [D.eqd] at h
    | fv _ _ _ => simp [D.eqd] at h
    | er _ _ _ _ => simp [D.eqd] at h
theorem ext_grow {H2 : Hp} (e : Ex S H) (g : L2.Ext H H2) : Ext S H S H2 := ⟨Ex.refl S, g, fun a o h => g a o (e a o h), fun _ h _ => h⟩
theorem rv_eqXL {ds : List D} (h : ∀ d ∈ ds, d.eqd 3 = true) : RV K (Gx.rEqX K) (.lst ds) (.lst ds) (.bl true) := fun S H v u e r1 r2 Q q => by
  cases r1 with
  | lst h1 q1 =>
    cases r2 with
    | lst h2 q2 =>
      have p := prs_dd (rd_dd 3) _ _ _ h q1 q2
      refine .inr (.inl ⟨⟨_, _, _, _, rfl, rfl, e _ _ h1, e _ _ h2, p.mon (Gx.mon_dd 3) e⟩, fun H' g => q _ S H' (ext_grow e g) (.bl true)⟩)
theorem rv_eqXE : RV K (Gx.rEqX K) (.dc [] []) (.dc [] []) (.bl true) := fun S H v u e r1 r2 Q q => by
  cases r1 with
  | dc h1 l1 q1 =>
    cases r2 with
    | dc h2 l2 q2 => exact .inr (.inr ⟨_, _, [], [], rfl, rfl, e _ _ h1, e _ _ h2, rfl, (fun p hp => by cases hp), q _ S H (Ext.refl e) (.bl true)⟩)
theorem rv_eqXD {x y z : D} (h : RV K (rEqD K) x y z) : RV K (Gx.rEqX K) x y z := fun S H v u e r1 r2 Q q => .inl (h S H v u e r1 r2 Q q)
end
/-! ### what raises within an expression -/
def UpX (K : PySem.W.Frag) (E : XK) (C : Addr) (te : TE) (ρ : Rho) : Prop := ∀ S0 H0 S H σ Q, Stt K S0 H0 ρ S H σ → (∀ S' H', Ext S0 H0 S' H' → E (.ref C) none H') → te σ H Q
/-- .. within a suite -/
def UpXW (K : PySem.W.Frag) (W : L2.St → XK) (C : Addr) (te : TE) (ρ : Rho) : Prop := ∀ S0 H0 S H σ Q, Stt K S0 H0 ρ S H σ → (∀ S' H', Ext S0 H0 S' H' → W σ (.ref C) none H') → te σ H Q
def UpW (K : PySem.W.Frag) (W : L2.St → XK) (C : Addr) (t : TS) (ρ : Rho) : Prop := ∀ S0 H0 S H σ Dd, Stt K S0 H0 ρ S H σ → (∀ S' H', Ext S0 H0 S' H' → W σ (.ref C) none H') → t Dd σ H
section
variable {K : PySem.W.Frag} {E : XK} {W : L2.St → XK} {C C' : Addr} {te tf : TE} {tA : TA} {t u : TS} {c : TT} {ρ : Rho} {ds es : List D} {d : D} {x : Str} {Rel : List D → Str → Prop} {sp : Sp} {g : TG} {rc : List V → Hp → VK → Prop} {L : List (Addr × Sp)} {p : Addr × Sp}
theorem spY_of {vs : List V} {S H : Hp} {Q : VK} {E : XK} (e : Ex S H) (r : RdL K S vs ds) (h : Rel ds x) (q : ∀ S' H', Ext S H S' H' → E (.ref (He.ga K x)) none H') : spY K Rel vs H Q E := ⟨S, ds, x, e, r, h, q⟩
theorem upx_call (hs : ∀ vs H Q E, spY K Rel vs H Q E → sp vs H Q E) (ha : EvA K tA ρ ds) (h : Rel ds x) : UpX K E (He.ga K x) (tCall sp [] E tA) ρ := fun S0 H0 S H σ Q s q =>
  ha S H σ s.ext.sub s.env _ fun vs S1 H1 x1 r1 => by
    rw [List.append_nil]
    exact hs _ _ _ _ (spY_of x1.sub r1 h fun S' H' x2 => q S' H' ((s.ext.trans x1).trans x2))
theorem upx_cb1 (h : UpX K E C te ρ) : UpX K E C (tCB rc (tCons te tNil)) ρ := fun S0 H0 S H σ Q s q => h S0 H0 S H σ _ s q
theorem Up.asgX (h : UpX K E C te ρ) : Up K E C (tAsg te g) ρ := fun S0 H0 S H σ Dd s q => h S0 H0 S H σ _ s q
theorem Up.dropX (h : UpX K E C te ρ) : Up K E C (tDrop te) ρ := fun S0 H0 S H σ Dd s q => h S0 H0 S H σ _ s q
theorem Up.retX (h : UpX K E C te ρ) : Up K E C (tRet te) ρ := fun S0 H0 S H σ Dd s q => h S0 H0 S H σ _ s q
/-- a call that goes well, of a def that may raise -/
theorem ev_callB {R : List D → D → Prop} (ha : EvA K tA ρ ds) (hr : R ds d) : EvD K (tCall (fun vs H Q E => spD K R vs H Q E ∨ sp vs H Q E) [] E tA) ρ d := fun S H σ e v Q q =>
  ha S H σ e v _ fun ws S1 H1 x1 r1 => .inl ⟨S1, ds, d, x1.sub, by rw [List.append_nil]; exact r1, hr, fun w S2 H2 x2 r2 => q w S2 H2 (x1.trans x2) r2⟩
theorem UpW.ret (h : UpXW K W C te ρ) : UpW K W C (tRet te) ρ := fun S0 H0 S H σ Dd s q => h S0 H0 S H σ _ s q
theorem UpW.drop (h : UpXW K W C te ρ) : UpW K W C (tDrop te) ρ := fun S0 H0 S H σ Dd s q => h S0 H0 S H σ _ s q
theorem UpW.first (h : UpW K W C t ρ) : UpW K W C (tSeq t u) ρ := fun S0 H0 S H σ Dd s q => h S0 H0 S H σ _ s q
theorem UpW.yes (h : EvT K c ρ true) (k : UpW K W C t ρ) : UpW K W C (tIfS c t u) ρ := fun S0 H0 S H σ Dd s q => h S H σ s.ext.sub s.env _ fun S' H' x => by
  show t Dd σ H'
  exact k S0 H0 S' H' σ Dd (s.go x) q
theorem UpW.no (h : EvT K c ρ false) (k : UpW K W C u ρ) : UpW K W C (tIfS c t u) ρ := fun S0 H0 S H σ Dd s q => h S H σ s.ext.sub s.env _ fun S' H' x => by
  show u Dd σ H'
  exact k S0 H0 S' H' σ Dd (s.go x) q
theorem UpW.past (h : EvT K c ρ false) (k : UpW K W C u ρ) : UpW K W C (tSeq (tIfS c t tNext) u) ρ := fun S0 H0 S H σ Dd s q => h S H σ s.ext.sub s.env _ fun S' H' x => by
  show u Dd σ H'
  exact k S0 H0 S' H' σ Dd (s.go x) q
theorem upw_callV (hs : ∀ vs H Q E, spY K Rel vs H Q E → p.2 vs H Q E) (hp : p ∈ L) (hf : EvD K tf ρ (.adr p.1)) (ha : EvA K tA ρ ds) (h : Rel ds x) : UpXW K W (He.ga K x) (Gx.tCallV L W tf tA) ρ := fun S0 H0 S H σ Q s q =>
  hf S H σ s.ext.sub s.env _ fun v S1 H1 x1 r1 => by
    cases r1
    exact ⟨p, hp, rfl, ha S1 H1 σ x1.sub (s.env.mono x1.s) _ fun vs S2 H2 x2 r2 => hs _ _ _ _ (spY_of x2.sub r2 h fun S' H' x3 => q S' H' (((s.ext.trans x1).trans x2).trans x3))⟩
theorem upw_call (hs : ∀ vs H Q E, spY K Rel vs H Q E → sp vs H Q E) (ha : EvA K tA ρ ds) (h : Rel ds x) : UpXW K W (He.ga K x) (tCallS sp W tA) ρ := fun S0 H0 S H σ Q s q =>
  ha S H σ s.ext.sub s.env _ fun vs S1 H1 x1 r1 => hs _ _ _ _ (spY_of x1.sub r1 h fun S' H' x2 => q S' H' ((s.ext.trans x1).trans x2))
theorem upw_make (hs : ∀ vs H Q E, spY K Rel vs H Q E → sp vs H Q E) (ha : EvA K tA ρ ds) (h : ∀ a, Rel (.adr a :: ds) x) : UpXW K W (He.ga K x) (Gx.tMakeS C' sp W tA) ρ := fun S0 H0 S H σ Q s q =>
  ha S H σ s.ext.sub s.env _ fun vs S1 H1 x1 r1 a dx ha1 hdx ne => by
    have e1 : Ext S1 H1 S1 (upd H1 dx (.own a)) := Ext.hid x1.sub hdx
    have e2 : Ext S1 H1 S1 (upd (upd H1 dx (.own a)) a (.ins C' dx [])) := e1.trans (Ext.hid e1.sub (by rw [upd_ne (Ne.symm ne)]; exact ha1))
    exact hs _ _ _ _ (spY_of e2.sub (.cons (.adr a) r1) (h a) fun S' H' x3 => q S' H' (((s.ext.trans x1).trans e2).trans x3))
theorem evF_callV {R : List D → List D → Prop} (hs : ∀ vs H Q E, spF K R vs H Q E → p.2 vs H Q E) (hp : p ∈ L) (hf : EvD K tf ρ (.adr p.1)) (ha : EvA K tA ρ ds) (hr : R ds es) : EvF K (Gx.tCallV L W tf tA) ρ es := fun S H σ e v Q q =>
  hf S H σ e v _ fun w S1 H1 x1 r1 => by
    cases r1
    exact ⟨p, hp, rfl, ha S1 H1 σ x1.sub (v.mono x1.s) _ fun vs S2 H2 x2 r2 => hs _ _ _ _ ⟨S2, ds, es, x2.sub, r2, hr, fun a ws S3 H3 x3 ha3 sa h3 r3 => q a ws S3 H3 ((x1.trans x2).trans x3) (Evl.fresh_back (x1.h.trans x2.h) ha3) sa h3 r3⟩⟩
/-- f'..{i}' as an argument -/
theorem ev_fstr3 {t1 t2 : TE} {y : Str} {i : Int} (h1 : EvD K t1 ρ (.str y)) (h2 : EvD K t2 ρ (.int i)) (hi : i.natAbs.log2 < 1920) (a1 : (Str.empty ++ y).length ≤ sizeLine) (a2 : (Str.empty ++ y ++ toString i).length ≤ sizeLine) :
    EvD K (fun σ H Q => tJs [t1, tFmt t2] Str.empty σ H fun out H1 => Q (.str out) H1) ρ (.str (Str.empty ++ y ++ toString i)) := fun S H σ e v Q q =>
  h1 S H σ e v _ fun w1 S1 H1 x1 r1 => by
    cases r1
    refine ⟨y, rfl, a1, h2 S1 H1 σ x1.sub (v.mono x1.s) _ fun w2 S2 H2 x2 r2 => ?_⟩
    cases r2
    exact .inr ⟨i, rfl, hi, toString i, rfl, a2, q _ S2 H2 (x1.trans x2) (.str _)⟩
end
/-! ### what is never reached -/
def tNv : TS := fun _ _ _ => False
theorem pss_nv {X : Cx} {ss : List Stmt} : PSs X ss tNv := ⟨fun _ _ _ _ _ _ h => h.elim⟩
theorem calV_of {P : Program} {w : World} {K : PySem.W.Frag} {mg : Str → Option Value} {base : Heap} {CX : CXT} {j k : Nat} {x : Str} {ps : List Str} {sp : Sp} {a : Addr} (C : Cal P w K mg base CX j x ps sp) (hj : j ≤ k) (g : mg x = some (.ref a)) : Gx.CalV P w K mg base CX k a sp := by
  obtain ⟨f, fd, F, hm, kp, b⟩ := C
  rw [g] at hm
  cases hm
  exact ⟨fd, ps, F.mono hj, kp, b⟩
theorem pe_calS {X : Cx} {CX : CXT} {k j : Nat} {x : Str} {ps : List Str} {sp : Sp} {E : L2.St → XK} {e : Expr} {es : List Expr} {pos p : Pos} {t : TA} (C : Cal X.prog X.w X.K X.mg X.base CX k x ps sp) (hr : Room j X.A) (hk : k ≤ j) (hx : ∀ σ, PassesAt CX X σ (E σ)) (ha : PA X (e :: es) t)
    (hg : Gl X x := by rfl) (hdb : (x == ("__debug__" : Str)) = false := by decide) (he : starEach (e :: es) X.env = (false, eval e X.env) :: starEach es X.env := by rfl) (hpl : (backTo pos (starEach es X.env)).any (·.1) = false := by rfl) :
    PE X (.Call (.Name x p) (e :: es) [] pos) (tCallS sp E t) := by
  obtain ⟨f, fd, F, hm, kp, hb⟩ := C
  exact pe_callS F (hr.mono hk) hg hm kp hb hx ha hdb he hpl
theorem all4 {α : Type} {P : α → Prop} {a b c d : α} (h1 : P a) (h2 : P b) (h3 : P c) (h4 : P d) : ∀ p ∈ [a, b, c, d], P p := fun p hp => by
  simp only [List.mem_cons, List.not_mem_nil, or_false] at hp
  rcases hp with rfl | rfl | rfl | rfl
  · exact h1
  · exact h2
  · exact h3
  · exact h4
/-- a suite that tells the words of the refusal -/
theorem suite_lst {K : PySem.W.Frag} {Rel : List D → List D → Prop} {a C : Addr} {i : Nat} {ws : List Str} {S0 H0 S H : Hp} {σ : L2.St} {Dd : Ends} (rel : Rel [.er C] (ws.map D.str)) (e : Ext S0 H0 S H) (hs : σ[i]? = some (some (.ref a))) (na : H a = none)
    (q : ∀ v S' H', Ext S0 H0 S' H' → Rd K S' v (.lst (ws.map D.str)) → Dd.rt v H') : tRet (Ex0.tAsk (spF K Rel) a C (.ref C) none (tCons (tVar i) tNil)) Dd σ H :=
  ask_new rfl rfl rel e.sub hs na fun p H' x4 hp h' => by
    have sp : S p = none := sub_none e.sub hp
    exact q (.ref p) _ H' ((e.trans x4).tell sp (Evl.fresh_back e.h hp) h') (.lst upd_same (rd_strs ws))
theorem suite_tup {K : PySem.W.Frag} {Rel : List D → List D → Prop} {a C : Addr} {i : Nat} {ws : List Str} {S0 H0 S H : Hp} {σ : L2.St} {Dd : Ends} {ts : TE} (hts : ∀ Q : VK, Ex0.tAsk (spF K Rel) a C (.ref C) none (tCons (tVar i) tNil) σ H Q → ts σ H Q) (rel : Rel [.er C] (ws.map D.str)) (e : Ext S0 H0 S H) (hs : σ[i]? = some (some (.ref a))) (na : H a = none)
    (q : ∀ v S' H', Ext S0 H0 S' H' → Rd K S' v (.tup [.lst (ws.map D.str)]) → Dd.rt v H') : tRet (tTup (tCons ts tNil)) Dd σ H :=
  hts _ (ask_new rfl rfl rel e.sub hs na fun p H' x4 hp h' => by
    have sp : S p = none := sub_none e.sub hp
    have x5 := (e.trans x4).tell sp (Evl.fresh_back e.h hp) h'
    refine ⟨Evl.sz_of (Nat.le_of_ble_eq_true rfl), fun p2 hp2 => ?_⟩
    exact q (.ref p2) _ _ (x5.trans (Ext.new x5.sub hp2 (o := .tup [.ref p]))) (.tup upd_same (.cons (.lst (by rw [upd_ne (fun z => by rw [← z, h'] at hp2; cases hp2), upd_same]) (rd_strs ws)) .nil)))
end Pl

open PySem PySem.Spec PyProof.Rows L2 Pl
local macro_rules | `(tactic| walk_at "ev") => `(tactic| first
  | exact ev_var rfl | exact ev_int | exact ev_bl | exact ev_non | exact ev_str | exact ev_ty | exact ea_nil | exact et_yes
  | (with_reducible refine' ev_op ?_ ?_ ?_ <;> walk_at "ev")
  | (with_reducible refine' ev_cb ?_ ?_ <;> walk_at "ev")
  | (with_reducible refine' ev_call ?_ ?_ <;> walk_at "ev")
  | (with_reducible refine' ev_neg ?_ <;> walk_at "ev")
  | (with_reducible refine' ev_not ?_ <;> walk_at "ev")
  | (with_reducible refine' ev_tup ?_ (Nat.le_of_ble_eq_true rfl) <;> walk_at "ev")
  | (with_reducible refine' ea_cons ?_ ?_ <;> walk_at "ev")
  | (with_reducible refine' et_test ?_ <;> walk_at "ev")
  | (with_reducible refine' et_B ?_ <;> walk_at "ev")
  | (with_reducible refine' et_not ?_ <;> walk_at "ev")
  | exact rv_plusI | exact rv_sub | exact rv_lt | exact rv_le | exact rv_gt | exact rv_ge | exact rv_eqI | exact rv_neI | exact rv_eqB | exact rv_neB | exact rv_inL | exact rv_inT | exact rv_eqInts | exact rv_neInts | exact rv_eqBars | exact rv_neBars
  | refine' rv_mul ?_ | refine' rv_div ?_ ?_ | refine' rv_mod ?_ ?_ | refine' rv_ixL ?_ | refine' rv_ixT ?_ | refine' rv_ixR ?_ | refine' rv_plusT ?_ ?_
  | exact RCF.data rc_listL | exact RCF.data rc_listT | exact RCF.data rc_listR | exact rc_lenL | exact rc_lenT | exact rc_lenR | exact rc_isiK "int" rfl (by decide +kernel) (by decide) | exact rc_isiK "bool" rfl (by decide +kernel) (by decide) | exact rc_isiK "list" rfl (by decide +kernel) (by decide) | exact rc_isiK "tuple" rfl (by decide +kernel) (by decide) | exact rc_isiK "NoneType" rfl (by decide +kernel) (by decide) | exact rc_isiK "str" rfl (by decide +kernel) (by decide) | exact rc_all
  | (with_reducible refine' ev_lst ?_ (Nat.le_of_ble_eq_true rfl) <;> walk_at "ev")
  | (with_reducible refine' ev_cbF ?_ ?_ <;> walk_at "ev") | exact rc_listL | exact rc_listT | exact rc_listR
  | (with_reducible refine' ev_callF ?_ ?_ <;> walk_at "ev")
  | (with_reducible refine' ev_opF ?_ ?_ (rvF_plus ?_) <;> walk_at "ev")
  | (with_reducible refine' EvF.data ?_ <;> walk_at "ev")
  | refine RVF.data (rvF_plus ?_)
  | skip)
local macro_rules | `(tactic| walk_at "view") => `(tactic| first
  | exact View.nil
  | (refine View.root (by first | exact List.Mem.head _ | exact List.Mem.tail _ (List.Mem.head _) | exact List.Mem.tail _ (List.Mem.tail _ (List.Mem.head _))) ?_; walk_at "view")
  | (refine View.own ?_; walk_at "view")
  | (refine View.same ?_; walk_at "view"))
namespace A
open PySem PySem.Spec PyProof.Rows L2 Pl
open Evl (Ex)
abbrev FnP (K : PySem.W.Frag) (x : Str) (st : Stmt) (f : Addr) (fd : FuncData) : Prop := FunD K x x (defArgs st) (defBody st) (defScope st) [] [] f fd
abbrev FnM (K : PySem.W.Frag) (x q : Str) (st : Stmt) (f : Addr) (fd : FuncData) : Prop := FunD K x q (defArgs st) (defBody st) (defScope st) [] [] f fd
structure Mods (K : PySem.W.Frag) (mg : Str → Option Value) (w : World) : Prop where
  k_LENGTHS : mg "LENGTHS" = some (.ref (He.ga K "LENGTHS"))
  d_LENGTHS : ∃ es n, KDict K w (He.ga K "LENGTHS") es n
  l_LENGTHS : ∀ p ∈ keys_LENGTHS, KGot K w (He.ga K "LENGTHS") p.1 (gotV p.2)
  g_FrameError : mg "FrameError" = some (.ref (He.ga K "FrameError"))
  g_BadCount : mg "BadCount" = some (.ref (He.ga K "BadCount"))
  g_BadBar : mg "BadBar" = some (.ref (He.ga K "BadBar"))
  g_NoBar : mg "NoBar" = some (.ref (He.ga K "NoBar"))
  g_Full : mg "Full" = some (.ref (He.ga K "Full"))
  g_NotLean : mg "NotLean" = some (.ref (He.ga K "NotLean"))
  g_Loose : mg "Loose" = some (.ref (He.ga K "Loose"))
  g_BadStep : mg "BadStep" = some (.ref (He.ga K "BadStep"))
  x_BadCount : PySem.W.excIn K (He.ga K "BadCount") He.veBase "ValueError.__new__" = true ∧ PySem.W.keepIn K (.ref (He.ga K "BadCount")) = true ∧ PySem.W.subIn K (.ref (He.ga K "BadCount")) (.type "BaseException") = some true ∧ PySem.W.typeIn K (.ref (He.ga K "BadCount")) = some (.type "type")
  n_BadCount : PySem.W.exmOne K (.ref (He.ga K "BadCount")) (.ref (He.ga K "FrameError")) = some true
  q_BadCount : Kind "BadCount" (kinds7 "BadCount") K
  x_BadBar : PySem.W.excIn K (He.ga K "BadBar") He.veBase "ValueError.__new__" = true ∧ PySem.W.keepIn K (.ref (He.ga K "BadBar")) = true ∧ PySem.W.subIn K (.ref (He.ga K "BadBar")) (.type "BaseException") = some true ∧ PySem.W.typeIn K (.ref (He.ga K "BadBar")) = some (.type "type")
  n_BadBar : PySem.W.exmOne K (.ref (He.ga K "BadBar")) (.ref (He.ga K "FrameError")) = some true
  q_BadBar : Kind "BadBar" (kinds7 "BadBar") K
  v_checked : mg "checked" = some (.ref (He.ga K "checked"))
  v_crowded : mg "crowded" = some (.ref (He.ga K "crowded"))
  v_chosen : mg "chosen" = some (.ref (He.ga K "chosen"))
  v_worth : mg "worth" = some (.ref (He.ga K "worth"))
  v_too_many : mg "too_many" = some (.ref (He.ga K "too_many"))
  v_parts_parts : mg "parts_parts" = some (.ref (He.ga K "parts_parts"))
  v_is_stiff : mg "is_stiff" = some (.ref (He.ga K "is_stiff"))
  v_steps_building : mg "steps_building" = some (.ref (He.ga K "steps_building"))
  c_Frame : Cls K (He.ga K "Frame")
  h_Frame : mg "Frame" = some (.ref (He.ga K "Frame"))
  a_Frame__count : NoAttr K (He.ga K "Frame") "_count"
  a_Frame__coming : NoAttr K (He.ga K "Frame") "_coming"
  a_Frame__standing : NoAttr K (He.ga K "Frame") "_standing"
  m_ValueError : mg "ValueError" = none
  m_bool : mg "bool" = none
  m_enumerate : mg "enumerate" = none
  m_int : mg "int" = none
  m_isinstance : mg "isinstance" = none
  m_len : mg "len" = none
  m_list : mg "list" = none
  m_range : mg "range" = none
  m_tuple : mg "tuple" = none
  k_MOST_JOINTS : ∃ t, mg "MOST_JOINTS" = some (.int 16 t)
  k_MOST_BARS : ∃ t, mg "MOST_BARS" = some (.int 60 t)
  k_HANDS : ∃ t, mg "HANDS" = some (.int 2 t)
/-! ### is_number -/
abbrev s_is_number : Stmt := top 17
theorem sc_is_number : FnScope ["value"] ["value"] (defScope s_is_number) := ⟨rfl, rfl, rfl, by decide +kernel, rfl, by decide +kernel, by decide +kernel⟩
inductive R_is_number : List D → D → Prop
  | int (i : Int) : R_is_number [.int i] (.bl true)
  | no (d : D) (h : Dull d) : R_is_number [d] (.bl false)

section
variable {P : Program} {w : World} {K : PySem.W.Frag} {mg : Str → Option Value} {base : Heap}
theorem ok_is_number {f : Addr} {fd : FuncData} (F : FnP K "is_number" s_is_number f fd) (g : mg "is_number" = some (.ref f)) (M : Mods K mg w)  : Cal P w K mg base CX0 1 "is_number" ["value"] (spD K R_is_number) := by
  refine ⟨f, fd, F.ok sc_is_number (spD_len fun ds d r => by cases r <;> rfl) (fun cdv A outer s H vs Q E hr h => ?_), g, F.kp, F.bindsN fun _ _ _ _ _ _ us hl => match us, hl with | [_], _ => rfl⟩
  have hu := hr.units
  refine ⟨_, PSs.nox (pss_one (ps_ret (pe_and (pe_callB (ok_isi (K := K) rfl) (by rfl) M.m_isinstance (by decide +kernel) (pa_cons (pv 0) (pa_cons (pe_bltn (v := .ty "int") (by rfl) M.m_int (by decide +kernel) rfl) pa_nil))) (pe_one (pe_not (pe_callB (ok_isi (K := K) rfl) (by rfl) M.m_isinstance (by decide +kernel) (pa_cons (pv 0) (pa_cons (pe_bltn (v := .ty "bool") (by rfl) M.m_bool (by decide +kernel) rfl) pa_nil)))))))), ?_⟩
  refine T.fin (K := K) h fun ds d rel => ?_
  cases rel with
  | int i =>
    refine T.ret (d := .bl (true && !false)) (ev_and (by walk_at "ev") fun _ => ?_) rfl
    walk_at "ev"
  | no d hd =>
    obtain ⟨a, b, h1, h2, h3⟩ := dull_isi (K := K) hd
    refine T.ret (d := .bl (a && !b)) (ev_and (ev_cb (ea_cons (ev_var rfl) (ea_cons ev_ty ea_nil)) h1) fun _ => ev_not (ev_cb (ea_cons (ev_var rfl) (ea_cons ev_ty ea_nil)) h2)) ?_
    rw [h3]
    rfl
end
/-! ### check_count -/
abbrev s_check_count : Stmt := top 14
theorem sc_check_count : FnScope ["count"] ["count"] (defScope s_check_count) := ⟨rfl, rfl, rfl, by decide +kernel, rfl, by decide +kernel, by decide +kernel⟩
inductive R_check_count : List D → D → Prop
  | int (c : Int) (h1 : 1 ≤ c) (h2 : c ≤ 16) : R_check_count [.int c] .non
inductive Rx_check_count : List D → Str → Prop
  | dull (d : D) (h : Dull d) : Rx_check_count [d] "BadCount"
  | out (c : Int) (h : c < 1 ∨ 16 < c) : Rx_check_count [.int c] "BadCount"

section
variable {P : Program} {w : World} {K : PySem.W.Frag} {mg : Str → Option Value} {base : Heap}
theorem fk_check_count {f : Addr} {fd : FuncData} (F : FnP K "check_count" s_check_count f fd) (M : Mods K mg w) (C_is_number : Cal P w K mg base CX0 1 "is_number" ["value"] (spD K R_is_number)) : FnOk P w K mg base CX0 2 f fd ["count"] (spD K R_check_count) := by
  obtain ⟨t_MOST_JOINTS, k_MOST_JOINTS⟩ := M.k_MOST_JOINTS
  refine F.ok sc_check_count (spD_len fun ds d r => by cases r <;> rfl) (fun cdv A outer s H vs Q E hr h => ?_)
  have hu := hr.units
  refine ⟨_, PSs.nox (pss_one (ps_if (PW.pt (pw_or (pt_not (pt_val (pe_cal C_is_number hr (by decide) pass0 (pa_cons (pv 0) pa_nil)))) (pw_or1 (pt_not (pt_chain op_le op_le pe_int (pv 0) (pe_glob (v := .int 16) rfl k_MOST_JOINTS ⟨_, rfl⟩)))))) (pss_one ps_never) pss_nil)), ?_⟩
  refine T.fin (K := K) h fun ds d rel => ?_
  cases rel with | int c h1 h2 =>
  refine T.ifS (b := !true || !(decide (1 ≤ c) && decide (c ≤ 16))) (et_or (et_not (et_B (ev_call (by walk_at "ev") (.int c)))) fun _ => et_not (et_test (ev_chain (by walk_at "ev") (by walk_at "ev") rv_le fun _ => ⟨.int 16, by walk_at "ev", rv_le⟩))) (fun b => ?_) fun _ => T.next rfl
  rw [decide_eq_true h1, decide_eq_true h2] at b
  cases b
theorem fkx_check_count {f : Addr} {fd : FuncData} (F : FnP K "check_count" s_check_count f fd) (M : Mods K mg w) (C_is_number : Cal P w K mg base CX0 1 "is_number" ["value"] (spD K R_is_number)) : FnOk P w K mg base (L2N.CX P w) 2 f fd ["count"] (spY K Rx_check_count) := by
  obtain ⟨t_MOST_JOINTS, k_MOST_JOINTS⟩ := M.k_MOST_JOINTS
  refine F.ok sc_check_count (spY_len fun ds x r => by cases r <;> rfl) (fun cdv A outer s H vs Q E hr h => ?_)
  have hu := hr.units
  refine ⟨_, (pss_one (ps_if (PW.pt (pw_or (pt_not (pt_val (pe_cal C_is_number hr (by decide) pass0 (pa_cons (pv 0) pa_nil)))) (pw_or1 (pt_not (pt_chain op_le op_le pe_int (pv 0) (pe_glob (v := .int 16) rfl k_MOST_JOINTS ⟨_, rfl⟩)))))) (pss_one (L2N.ps_raise rfl (L2N.takes_of rfl rfl rfl rfl) (L2N.pmk_ownE PySem.F.excBase_ValueError M.x_BadCount.1 M.g_BadCount M.x_BadCount.2.1 (raises_own M.x_BadCount.2.2.1 M.x_BadCount.2.2.2) rfl (pe_joined (.cons pe_str (.cons (pe_fmt (pe_glob (v := .int 16) rfl k_MOST_JOINTS ⟨_, rfl⟩)) .nil)))))) pss_nil)), ?_⟩
  refine Up.finY (K := K) h fun ds x rel => ?_
  have say : Up K E (He.ga K "BadCount") (fun _ σ H => tJs [tC (.str "a count of joints is a number from 1 to "), tFmt (tC (.int 16))] Str.empty σ H fun _ H1 => E (.ref (He.ga K "BadCount")) none H1) (startR 1 ds) := Up.raiseE (ev_fstr3 ev_str (ev_int (i := 16)) (by decide +kernel) (by decide +kernel) (by decide +kernel))
  cases rel with
  | dull d h => exact Up.if (et_or (a := true) (et_not (et_B (b := false) (ev_call (ea_cons (ev_var rfl) ea_nil) (.no d h)))) (fun z => by cases z) : EvT K _ _ (true || true)) say
  | out c h =>
    refine Up.if (EvT.to (et_or (et_not (et_B (ev_call (ea_cons (ev_var rfl) ea_nil) (.int c)))) fun _ => et_not (et_test (ev_chain (a := decide (1 ≤ c)) (b := decide (c ≤ 16)) ev_int (ev_var rfl) rv_le fun _ => ⟨.int 16, ev_int, rv_le⟩))) ?_) say
    rcases h with h | h
    · rw [decide_eq_false (by omega)]
      rfl
    · rw [decide_eq_false (show ¬ c ≤ 16 by omega)]
      simp
theorem ok_check_count {f : Addr} {fd : FuncData} (F : FnP K "check_count" s_check_count f fd) (g : mg "check_count" = some (.ref f)) (M : Mods K mg w) (C_is_number : Cal P w K mg base CX0 1 "is_number" ["value"] (spD K R_is_number)) : Cal P w K mg base CX0 2 "check_count" ["count"] (spD K R_check_count) := ⟨f, fd, fk_check_count F M C_is_number, g, F.kp, F.bindsN fun _ _ _ _ _ _ us hl => match us, hl with | [_], _ => rfl⟩
theorem okx_check_count {f : Addr} {fd : FuncData} (F : FnP K "check_count" s_check_count f fd) (g : mg "check_count" = some (.ref f)) (M : Mods K mg w) (C_is_number : Cal P w K mg base CX0 1 "is_number" ["value"] (spD K R_is_number)) : Cal P w K mg base (L2N.CX P w) 2 "check_count" ["count"] (spY K Rx_check_count) := ⟨f, fd, fkx_check_count F M C_is_number, g, F.kp, F.bindsN fun _ _ _ _ _ _ us hl => match us, hl with | [_], _ => rfl⟩
theorem okb_check_count {f : Addr} {fd : FuncData} (F : FnP K "check_count" s_check_count f fd) (g : mg "check_count" = some (.ref f)) (M : Mods K mg w) (C_is_number : Cal P w K mg base CX0 1 "is_number" ["value"] (spD K R_is_number)) : Cal P w K mg base (L2N.CX P w) 2 "check_count" ["count"] (fun vs H Q E => spD K R_check_count vs H Q E ∨ (spY K Rx_check_count) vs H Q E) := ⟨f, fd, Ms.fn_or (Ms.fn_cx (fk_check_count F M C_is_number)) (fkx_check_count F M C_is_number), g, F.kp, F.bindsN fun _ _ _ _ _ _ us hl => match us, hl with | [_], _ => rfl⟩
end
/-! ### is_joint -/
abbrev s_is_joint : Stmt := top 16
theorem sc_is_joint : FnScope ["count", "joint"] ["count", "joint"] (defScope s_is_joint) := ⟨rfl, rfl, rfl, by decide +kernel, rfl, by decide +kernel, by decide +kernel⟩
inductive R_is_joint : List D → D → Prop
  | int (c j : Int) : R_is_joint [.int c, .int j] (.bl (decide (0 ≤ j) && decide (j < c)))
  | no (c : Int) (d : D) (h : Dull d) : R_is_joint [.int c, d] (.bl false)
theorem R_is_joint.of {c : Int} {d : D} {b : Bool} (h : JD c d b) : R_is_joint [.int c, d] (.bl b) := by
  cases h with
  | int j => exact .int c j
  | no h => exact .no c d h

section
variable {P : Program} {w : World} {K : PySem.W.Frag} {mg : Str → Option Value} {base : Heap}
theorem ok_is_joint {f : Addr} {fd : FuncData} (F : FnP K "is_joint" s_is_joint f fd) (g : mg "is_joint" = some (.ref f)) (M : Mods K mg w) (C_is_number : Cal P w K mg base CX0 1 "is_number" ["value"] (spD K R_is_number)) : Cal P w K mg base CX0 2 "is_joint" ["count", "joint"] (spD K R_is_joint) := by
  refine ⟨f, fd, F.ok sc_is_joint (spD_len fun ds d r => by cases r <;> rfl) (fun cdv A outer s H vs Q E hr h => ?_), g, F.kp, F.bindsN fun _ _ _ _ _ _ us hl => match us, hl with | [_, _], _ => rfl⟩
  have hu := hr.units
  refine ⟨_, PSs.nox (pss_one (ps_ret (pe_and (pe_cal C_is_number hr (by decide) pass0 (pa_cons (pv 1) pa_nil)) (pe_one (pe_chain op_le op_lt pe_int (pv 1) (pv 0)))))), ?_⟩
  refine T.fin (K := K) h fun ds d rel => ?_
  cases rel with
  | int c j =>
    refine T.ret (d := .bl (true && (decide (0 ≤ j) && decide (j < c)))) (ev_and (ev_call (by walk_at "ev") (.int j)) fun _ => ?_) rfl
    exact ev_chain (by walk_at "ev") (by walk_at "ev") rv_le fun _ => ⟨.int c, by walk_at "ev", rv_lt⟩
  | no c d hd =>
    exact T.ret (d := .bl (false && false)) (ev_and (ev_call (ea_cons (ev_var rfl) ea_nil) (.no d hd)) fun z => by cases z) rfl
end
/-! ### is_bar -/
abbrev s_is_bar : Stmt := top 15
theorem sc_is_bar : FnScope ["count", "bar", "one", "other"] ["count", "bar"] (defScope s_is_bar) := ⟨rfl, rfl, rfl, by decide +kernel, rfl, by decide +kernel, by decide +kernel⟩
/-- two different joints of so many -/
def Good (c : Int) (b : Int × Int) : Prop := 0 ≤ b.1 ∧ b.1 < c ∧ 0 ≤ b.2 ∧ b.2 < c ∧ b.1 ≠ b.2
inductive R_is_bar : List D → D → Prop
  | good (c : Int) (b : Int × Int) (h : Good c b) : R_is_bar [.int c, barD b] (.bl true)
  | bad (c : Int) (x y : D) (jx jy : Bool) (hx : JD c x jx) (hy : JD c y jy) (h : (jx && jy) = false ∨ ∃ i : Int, x = .int i ∧ y = .int i) : R_is_bar [.int c, .tup [x, y]] (.bl false)
  | noTup (c : Int) (d : D) (h : d.kind = "NoneType" ∨ d.kind = "str" ∨ d.kind = "int" ∨ d.kind = "list") : R_is_bar [.int c, d] (.bl false)
  | len (c : Int) (ds : List D) (h : ds.length ≠ 2) : R_is_bar [.int c, .tup ds] (.bl false)

section
variable {P : Program} {w : World} {K : PySem.W.Frag} {mg : Str → Option Value} {base : Heap}
theorem ok_is_bar {f : Addr} {fd : FuncData} (F : FnP K "is_bar" s_is_bar f fd) (g : mg "is_bar" = some (.ref f)) (M : Mods K mg w) (C_is_joint : Cal P w K mg base CX0 2 "is_joint" ["count", "joint"] (spD K R_is_joint)) : Cal P w K mg base CX0 3 "is_bar" ["count", "bar"] (spD K R_is_bar) := by
  refine ⟨f, fd, F.ok sc_is_bar (spD_len fun ds d r => by cases r <;> rfl) (fun cdv A outer s H vs Q E hr h => ?_), g, F.kp, F.bindsN fun _ _ _ _ _ _ us hl => match us, hl with | [_, _], _ => rfl⟩
  have hu := hr.units
  refine ⟨_, PSs.nox (pss_cons (ps_if (PW.pt (pw_or (pt_not (pt_val (pe_callB (ok_isi (K := K) rfl) (by rfl) M.m_isinstance (by decide +kernel) (pa_cons (pv 1) (pa_cons (pe_bltn (v := .ty "tuple") (by rfl) M.m_tuple (by decide +kernel) rfl) pa_nil))))) (pw_or1 (pt_cmpR (ok_ne (K := K) rfl hu) (pe_callB (ok_len (K := K) rfl) (by rfl) M.m_len (by decide +kernel) (pa_cons (pv 1) pa_nil)) pe_int (nomark _))))) (pss_one (ps_ret pe_bl)) pss_nil)
      (pss_cons (ps_asg (pv 1) (ok_tup (K := K) rfl rfl (pgs_cons (pg_name (i := 2) sc_is_bar.nd rfl (Or.inl rfl)) (pgs_cons (pg_name (i := 3) sc_is_bar.nd rfl (Or.inl rfl)) pgs_nil))))
      (pss_one (ps_ret (pe_and (pe_cal C_is_joint hr (by decide) pass0 (pa_cons (pv 0) (pa_cons (pv 2) pa_nil))) (pe_and (pe_cal C_is_joint hr (by decide) pass0 (pa_cons (pv 0) (pa_cons (pv 3) pa_nil))) (pe_one (pe_cmpR (ok_ne (K := K) rfl hu) (pv 2) (pv 3) (nomark _))))))))), ?_⟩
  refine T.fin (K := K) h fun ds d rel => ?_
  cases rel with
  | good c b h =>
    obtain ⟨h1, h2, h3, h4, h5⟩ := h
    obtain ⟨x, y⟩ := b
    refine T.guard (b := !true || !decide ((2 : Int) = 2)) (et_or (et_not (et_B (by walk_at "ev"))) fun _ => ?_) (fun b => by cases b) fun _ => ?_
    · exact et_test (ev_op (x := .int 2) (y := .int 2) (ev_cb (ds := [.tup [.int x, .int y]]) (by walk_at "ev") rc_lenT) (by walk_at "ev") rv_neI)
    refine T.seq (T.asgG (d := .tup [.int x, .int y]) (ps := [(2, .int x), (3, .int y)]) (by walk_at "ev") (eg_tup (egs_cons eg_name (egs_cons eg_name egs_nil)) rfl) rfl) ?_
    refine T.ret (d := .bl ((decide (0 ≤ x) && decide (x < c)) && ((decide (0 ≤ y) && decide (y < c)) && !decide (x = y)))) (ev_and (ev_call (by walk_at "ev") (.int c x)) fun _ => ev_and (ev_call (by walk_at "ev") (.int c y)) fun _ => (by walk_at "ev")) ?_
    show D.bl _ = D.bl true
    rw [decide_eq_true h1, decide_eq_true h2, decide_eq_true h3, decide_eq_true h4, decide_eq_false h5]
    rfl
  | bad c x y jx jy hx hy h =>
    refine T.guard (b := !true || !decide ((2 : Int) = 2)) (et_or (et_not (et_B (ev_cb (ea_cons (ev_var rfl) (ea_cons ev_ty ea_nil)) (rc_isiK "tuple" rfl (by decide +kernel) (by decide))))) fun _ => ?_) (fun b => by cases b) fun _ => ?_
    · exact et_test (ev_op (x := .int 2) (y := .int 2) (ev_cb (ds := [.tup [x, y]]) (ea_cons (ev_var rfl) ea_nil) rc_lenT) ev_int rv_neI)
    refine T.seq (T.asgG (d := .tup [x, y]) (ps := [(2, x), (3, y)]) (ev_var rfl) (eg_tup (egs_cons eg_name (egs_cons eg_name egs_nil)) rfl) rfl) ?_
    rcases h with h | ⟨i, rfl, rfl⟩
    · refine T.ret (d := .bl (jx && (jy && false))) (ev_and (ev_call (ea_cons (ev_var rfl) (ea_cons (ev_var rfl) ea_nil)) (.of hx)) fun e1 => ev_and (ev_call (ea_cons (ev_var rfl) (ea_cons (ev_var rfl) ea_nil)) (.of hy)) fun e2 => ?_) ?_
      · rw [e1, e2] at h
        cases h
      · cases jx <;> cases jy <;> first | rfl | cases h
    · refine T.ret (d := .bl (jx && (jy && !decide (i = i)))) (ev_and (ev_call (ea_cons (ev_var rfl) (ea_cons (ev_var rfl) ea_nil)) (.of hx)) fun e1 => ev_and (ev_call (ea_cons (ev_var rfl) (ea_cons (ev_var rfl) ea_nil)) (.of hy)) fun e2 => ev_op (ev_var rfl) (ev_var rfl) rv_neI) ?_
      show D.bl _ = D.bl false
      rw [decide_eq_true rfl]
      cases jx <;> cases jy <;> rfl
  | noTup c d h =>
    have r : RC K (rIsi K) [d, .ty "tuple"] (.bl false) := by
      rcases h with h | h | h | h
      · exact rc_isi (by rw [h]; decide +kernel) (by rw [h]; decide)
      · exact rc_isi (by rw [h]; decide +kernel) (by rw [h]; decide)
      · exact rc_isi (by rw [h]; decide +kernel) (by rw [h]; decide)
      · exact rc_isi (by rw [h]; decide +kernel) (by rw [h]; decide)
    exact T.guard (b := !false || true) (et_or (et_not (et_B (ev_cb (ea_cons (ev_var rfl) (ea_cons ev_ty ea_nil)) r))) fun z => by cases z) (fun _ => T.ret ev_bl rfl) fun z => by cases z
  | len c ds h =>
    refine T.guard (b := !true || !decide ((ds.length : Int) = 2)) (et_or (et_not (et_B (ev_cb (ea_cons (ev_var rfl) (ea_cons ev_ty ea_nil)) (rc_isiK "tuple" rfl (by decide +kernel) (by decide))))) fun _ => ?_) (fun _ => T.ret ev_bl rfl) fun z => ?_
    · exact et_test (ev_op (ev_cb (ea_cons (ev_var rfl) ea_nil) rc_lenT) ev_int rv_neI)
    · rw [decide_eq_false (by omega)] at z
      cases z
end
/-! ### checked -/
abbrev s_checked : Stmt := top 13
theorem sc_checked : FnScope ["count", "bars", "number", "bar"] ["count", "bars"] (defScope s_checked) := ⟨rfl, rfl, rfl, by decide +kernel, rfl, by decide +kernel, by decide +kernel⟩
inductive R_checked : List D → List D → Prop
  | good (c : Int) (bs : List (Int × Int)) (h1 : 1 ≤ c) (h2 : c ≤ 16) (h3 : bs.length ≤ 60) (h : ∀ b ∈ bs, Good c b) : R_checked [.int c, .lst (bs.map barD)] (bs.map barD)
/-- bars that are refused -/
inductive BadB (n : Int) : D → Prop
  | noList (d : D) (h : d.kind = "NoneType" ∨ d.kind = "str" ∨ d.kind = "int" ∨ d.kind = "tuple" ∨ d.kind = "dict") : BadB n d
  | long (es : List D) (h : 60 < es.length) : BadB n (.lst es)
  | item (bs : List (Int × Int)) (x : D) (rest : List D) (hb : ∀ b ∈ bs, Good n b) (hx : R_is_bar [.int n, x] (.bl false)) (hl : bs.length + 1 + rest.length ≤ 60) : BadB n (.lst (bs.map barD ++ x :: rest))
inductive Rx_checked : List D → Str → Prop
  | count (c d : D) (h : Rx_check_count [c] "BadCount") : Rx_checked [c, d] "BadCount"
  | bars (n : Int) (d : D) (h1 : 1 ≤ n) (h2 : n ≤ 16) (h : BadB n d) : Rx_checked [.int n, d] "BadBar"
theorem bar_fits (i : Nat) (h : i < 61) : (Str.empty ++ ("bar " : Str)).length ≤ 100 ∧ (Str.empty ++ ("bar " : Str) ++ toString (i : Int)).length ≤ 100 ∧ (Str.empty ++ ("bar " : Str) ++ toString (i : Int) ++ (" is no tuple of two different joints of the frame" : Str)).length ≤ 100 := by
  revert i
  decide +kernel

section
variable {P : Program} {w : World} {K : PySem.W.Frag} {mg : Str → Option Value} {base : Heap}
theorem fk_checked {f : Addr} {fd : FuncData} (F : FnP K "checked" s_checked f fd) (M : Mods K mg w) (C_check_count : Cal P w K mg base CX0 2 "check_count" ["count"] (spD K R_check_count)) (B_check_count : Cal P w K mg base (L2N.CX P w) 2 "check_count" ["count"] (fun vs H Q E => spD K R_check_count vs H Q E ∨ (spY K Rx_check_count) vs H Q E)) (C_is_bar : Cal P w K mg base CX0 3 "is_bar" ["count", "bar"] (spD K R_is_bar)) : FnOk P w K mg base CX0 4 f fd ["count", "bars"] (spF K R_checked) := by
  obtain ⟨t_MOST_BARS, k_MOST_BARS⟩ := M.k_MOST_BARS
  refine F.ok sc_checked (spF_len fun ds d r => by cases r <;> rfl) (fun cdv A outer s H vs Q E hr h => ?_)
  have hu := hr.units
  refine ⟨_, PSs.nox (pss_cons (ps_expr (pe_cal C_check_count hr (by decide) pass0 (pa_cons (pv 0) pa_nil)))
      (pss_cons (ps_if (pt_not (pt_val (pe_callB (ok_isi (K := K) rfl) (by rfl) M.m_isinstance (by decide +kernel) (pa_cons (pv 1) (pa_cons (pe_bltn (v := .ty "list") (by rfl) M.m_list (by decide +kernel) rfl) pa_nil))))) (pss_one ps_never) pss_nil)
      (pss_cons (ps_if (pt_cmpR op_gt (pe_callB (ok_len (K := K) rfl) (by rfl) M.m_len (by decide +kernel) (pa_cons (pv 1) pa_nil)) (pe_glob (v := .int 60) rfl k_MOST_BARS ⟨_, rfl⟩) (nomark _)) (pss_one ps_never) pss_nil)
      (pss_cons (ps_for PassesOwn.never rfl (ok_ienum (K := K) rfl (by rfl) M.m_enumerate (pa_cons (pv 1) pa_nil)) (ok_tup (K := K) rfl rfl (pgs_cons (pg_name (i := 2) sc_checked.nd rfl (Or.inl rfl)) (pgs_cons (pg_name (i := 3) sc_checked.nd rfl (Or.inl rfl)) pgs_nil))) (pss_one (ps_if (pt_not (pt_val (pe_cal C_is_bar hr (by decide) pass0 (pa_cons (pv 0) (pa_cons (pv 3) pa_nil))))) (pss_one ps_never) pss_nil)))
      (pss_one (ps_ret (pe_callTy (ok_list (K := K) rfl) (by rfl) M.m_list (by decide +kernel) (pa_cons (pv 1) pa_nil)))))))), ?_⟩
  refine T.finF (K := K) h fun ds d rel => ?_
  cases rel with | good c bs h1 h2 h3 h =>
  refine T.seq (T.drop (d := .non) (ev_call (by walk_at "ev") (.int c h1 h2)) rfl) ?_
  refine T.guard (b := !true) (by walk_at "ev") (fun b => by cases b) fun _ => ?_
  refine T.guard (b := decide ((60 : Int) < ((bs.map barD).length : Int))) (by walk_at "ev") (fun b => ?_) fun _ => ?_
  · have := of_decide_eq_true b
    rw [List.length_map] at this
    omega
  refine T.seqP (N := fun r => ∃ s2 s3, r = [.k (.int c), .k (.lst (bs.map barD)), s2, s3]) (T.for (ei_enum (by walk_at "ev")) (fun _ r => ∃ s2 s3, r = [.k (.int c), .k (.lst (bs.map barD)), s2, s3]) ⟨_, _, rfl⟩ ?_ fun _ z => z) ?_
  · rintro i d r hd ⟨s2, s3, rfl⟩
    obtain ⟨x, hx, rfl⟩ := enumD_get hd
    rw [List.getElem?_map] at hx
    cases q : bs[i]? with
    | none => rw [q] at hx; cases hx
    | some b =>
      rw [q] at hx
      cases hx
      refine ⟨_, eg_tup (egs_cons eg_name (egs_cons eg_name egs_nil)) rfl, ?_⟩
      refine T.ifS (b := !true) (et_not (et_B (ev_call (by walk_at "ev") (.good c b (h b (List.mem_of_getElem? q)))))) (fun b => by cases b) fun _ => T.next ⟨_, _, rfl⟩
  · rintro r ⟨s2, s3, rfl⟩
    exact T.retF (by walk_at "ev") rfl
theorem fkx_checked {f : Addr} {fd : FuncData} (F : FnP K "checked" s_checked f fd) (M : Mods K mg w) (C_check_count : Cal P w K mg base CX0 2 "check_count" ["count"] (spD K R_check_count)) (B_check_count : Cal P w K mg base (L2N.CX P w) 2 "check_count" ["count"] (fun vs H Q E => spD K R_check_count vs H Q E ∨ (spY K Rx_check_count) vs H Q E)) (C_is_bar : Cal P w K mg base CX0 3 "is_bar" ["count", "bar"] (spD K R_is_bar)) : FnOk P w K mg base (L2N.CX P w) 4 f fd ["count", "bars"] (spY K Rx_checked) := by
  obtain ⟨t_MOST_BARS, k_MOST_BARS⟩ := M.k_MOST_BARS
  refine F.ok sc_checked (spY_len fun ds x r => by cases r <;> rfl) (fun cdv A outer s H vs Q E hr h => ?_)
  have hu := hr.units
  refine ⟨_, (pss_cons (ps_expr (pe_cal B_check_count hr (by decide) (L2N.passes_call (L2N.takes_of rfl rfl rfl rfl) (fun _ _ _ _ h => h)) (pa_cons (pv 0) pa_nil)))
      (pss_cons (ps_if (pt_not (pt_val (pe_callB (ok_isi (K := K) rfl) (by rfl) M.m_isinstance (by decide +kernel) (pa_cons (pv 1) (pa_cons (pe_bltn (v := .ty "list") (by rfl) M.m_list (by decide +kernel) rfl) pa_nil))))) (pss_one (L2N.ps_raise rfl (L2N.takes_of rfl rfl rfl rfl) (L2N.pmk_own PySem.F.excBase_ValueError M.x_BadBar.1 M.g_BadBar M.x_BadBar.2.1 (raises_own M.x_BadBar.2.2.1 M.x_BadBar.2.2.2) rfl))) pss_nil)
      (pss_cons (ps_if (pt_cmpR op_gt (pe_callB (ok_len (K := K) rfl) (by rfl) M.m_len (by decide +kernel) (pa_cons (pv 1) pa_nil)) (pe_glob (v := .int 60) rfl k_MOST_BARS ⟨_, rfl⟩) (nomark _)) (pss_one (L2N.ps_raise rfl (L2N.takes_of rfl rfl rfl rfl) (L2N.pmk_ownE PySem.F.excBase_ValueError M.x_BadBar.1 M.g_BadBar M.x_BadBar.2.1 (raises_own M.x_BadBar.2.2.1 M.x_BadBar.2.2.2) rfl (pe_joined (.cons pe_str (.cons (pe_fmt (pe_glob (v := .int 60) rfl k_MOST_BARS ⟨_, rfl⟩)) (.cons pe_str .nil))))))) pss_nil)
      (pss_cons (ps_for (passes_of rfl) rfl (ok_ienum (K := K) rfl (by rfl) M.m_enumerate (pa_cons (pv 1) pa_nil)) (ok_tup (K := K) rfl rfl (pgs_cons (pg_name (i := 2) sc_checked.nd rfl (Or.inl rfl)) (pgs_cons (pg_name (i := 3) sc_checked.nd rfl (Or.inl rfl)) pgs_nil))) (pss_one (ps_if (pt_not (pt_val (pe_cal C_is_bar hr (by decide) pass0 (pa_cons (pv 0) (pa_cons (pv 3) pa_nil))))) (pss_one (L2N.ps_raise rfl (L2N.takes_of rfl rfl rfl rfl) (L2N.pmk_ownE PySem.F.excBase_ValueError M.x_BadBar.1 M.g_BadBar M.x_BadBar.2.1 (raises_own M.x_BadBar.2.2.1 M.x_BadBar.2.2.2) rfl (pe_joined (.cons pe_str (.cons (pe_fmt (pv 2)) (.cons pe_str .nil))))))) pss_nil)))
      (pss_one (ps_ret (pe_callTy (ok_list (K := K) rfl) (by rfl) M.m_list (by decide +kernel) (pa_cons (pv 1) pa_nil)))))))), ?_⟩
  refine Up.finY (K := K) h fun ds x rel => ?_
  cases rel with
  | count c d h => exact Up.first (Up.dropX (upx_call (fun _ _ _ _ h => .inr h) (ea_cons (ev_var rfl) ea_nil) h))
  | bars n d h1 h2 h =>
    refine Up.seq (ρ1 := startR 4 [.int n, d]) (T.drop (d := .non) (ev_callB (ea_cons (ev_var rfl) ea_nil) (.int n h1 h2)) rfl) ?_
    cases h with
    | noList d h =>
      have r : RC K (rIsi K) [d, .ty "list"] (.bl false) := by
        rcases h with h | h | h | h | h
        · exact rc_isi (by rw [h]; decide +kernel) (by rw [h]; decide)
        · exact rc_isi (by rw [h]; decide +kernel) (by rw [h]; decide)
        · exact rc_isi (by rw [h]; decide +kernel) (by rw [h]; decide)
        · exact rc_isi (by rw [h]; decide +kernel) (by rw [h]; decide)
        · exact rc_isi (by rw [h]; decide +kernel) (by rw [h]; decide)
      exact Up.first (Up.if (et_not (et_B (b := false) (ev_cb (ea_cons (ev_var rfl) (ea_cons ev_ty ea_nil)) r))) Up.raise)
    | long es h =>
      refine Up.seq (ρ1 := startR 4 [.int n, .lst es]) (T.ifS (b := !true) (et_not (et_B (ev_cb (ea_cons (ev_var rfl) (ea_cons ev_ty ea_nil)) (rc_isiK "list" rfl (by decide +kernel) (by decide))))) (fun z => by cases z) fun _ => T.next rfl) ?_
      refine Up.first (Up.if (et_test (EvD.to (ev_op (ev_cb (ea_cons (ev_var rfl) ea_nil) rc_lenL) ev_int rv_gt) (congrArg D.bl (decide_eq_true (by omega))))) ?_)
      exact Up.raiseE (ev_fstr ev_str (ev_int (i := 60)) ev_str (by decide +kernel) (by decide +kernel) (by decide +kernel) (by decide +kernel))
    | item bs x rest hb hx hl =>
      have hlen : (bs.map barD ++ x :: rest).length ≤ 60 := by
        rw [List.length_append, List.length_map, List.length_cons]
        omega
      refine Up.seq (ρ1 := startR 4 [.int n, .lst (bs.map barD ++ x :: rest)]) (T.ifS (b := !true) (et_not (et_B (ev_cb (ea_cons (ev_var rfl) (ea_cons ev_ty ea_nil)) (rc_isiK "list" rfl (by decide +kernel) (by decide))))) (fun z => by cases z) fun _ => T.next rfl) ?_
      refine Up.seq (ρ1 := startR 4 [.int n, .lst (bs.map barD ++ x :: rest)]) (T.ifS (b := decide ((60 : Int) < ((bs.map barD ++ x :: rest).length : Int))) (et_test (ev_op (ev_cb (ea_cons (ev_var rfl) ea_nil) rc_lenL) ev_int rv_gt)) (fun z => by
        have z := of_decide_eq_true z
        omega) fun _ => T.next rfl) ?_
      refine Up.first (Up.for (ei_enum (ea_cons (ev_var rfl) ea_nil)) (fun i r => i ≤ bs.length ∧ ∃ s2 s3, r = [.k (.int n), .k (.lst (bs.map barD ++ x :: rest)), s2, s3]) ⟨Nat.zero_le _, _, _, rfl⟩ ?_ ?_)
      · rintro i d r hd ⟨hi, s2, s3, rfl⟩
        obtain ⟨y, hy, rfl⟩ := enumD_get hd
        have hi2 : i < (bs.map barD ++ x :: rest).length := (List.getElem?_eq_some_iff.mp hy).1
        refine ⟨_, eg_tup (egs_cons eg_name (egs_cons eg_name egs_nil)) rfl, ?_⟩
        by_cases hib : i < bs.length
        · rw [List.getElem?_append_left (by rw [List.length_map]; exact hib), List.getElem?_map, List.getElem?_eq_getElem hib] at hy
          have ey : barD bs[i] = y := Option.some.inj hy
          subst ey
          exact .inl (T.ifS (b := !true) (et_not (et_B (ev_call (ea_cons (ev_var rfl) (ea_cons (ev_var rfl) ea_nil)) (.good n _ (hb _ (List.getElem_mem hib)))))) (fun z => by cases z) fun _ => T.next ⟨hib, _, _, rfl⟩)
        · have ei : i = bs.length := by omega
          rw [List.getElem?_append_right (by rw [List.length_map]; omega), List.length_map, ei, Nat.sub_self] at hy
          have ey : x = y := Option.some.inj hy
          subst ey
          obtain ⟨f1, f2, f3⟩ := bar_fits i (by omega)
          have sz : (100 : Nat) ≤ sizeLine := Evl.sz_of (by decide)
          have hlog : ((i : Int)).natAbs.log2 < 1920 := by
            by_cases z : (i : Int).natAbs = 0
            · rw [z]
              decide +kernel
            · have h5 : (i : Int).natAbs.log2 < 7 := (Nat.log2_lt z).mpr (by omega)
              omega
          exact .inr (Up.if (et_not (et_B (b := false) (ev_call (ea_cons (ev_var rfl) (ea_cons (ev_var rfl) ea_nil)) hx))) (Up.raiseE (ev_fstr ev_str (ev_var (i := 2) rfl) ev_str hlog (Nat.le_trans f1 sz) (Nat.le_trans f2 sz) (Nat.le_trans f3 sz))))
      · rintro r ⟨hi, _⟩
        rw [enumD_len, List.length_append, List.length_map, List.length_cons] at hi
        omega
theorem ok_checked {f : Addr} {fd : FuncData} (F : FnP K "checked" s_checked f fd) (g : mg "checked" = some (.ref f)) (M : Mods K mg w) (C_check_count : Cal P w K mg base CX0 2 "check_count" ["count"] (spD K R_check_count)) (B_check_count : Cal P w K mg base (L2N.CX P w) 2 "check_count" ["count"] (fun vs H Q E => spD K R_check_count vs H Q E ∨ (spY K Rx_check_count) vs H Q E)) (C_is_bar : Cal P w K mg base CX0 3 "is_bar" ["count", "bar"] (spD K R_is_bar)) : Cal P w K mg base CX0 4 "checked" ["count", "bars"] (spF K R_checked) := ⟨f, fd, fk_checked F M C_check_count B_check_count C_is_bar, g, F.kp, F.bindsN fun _ _ _ _ _ _ us hl => match us, hl with | [_, _], _ => rfl⟩
theorem okx_checked {f : Addr} {fd : FuncData} (F : FnP K "checked" s_checked f fd) (g : mg "checked" = some (.ref f)) (M : Mods K mg w) (C_check_count : Cal P w K mg base CX0 2 "check_count" ["count"] (spD K R_check_count)) (B_check_count : Cal P w K mg base (L2N.CX P w) 2 "check_count" ["count"] (fun vs H Q E => spD K R_check_count vs H Q E ∨ (spY K Rx_check_count) vs H Q E)) (C_is_bar : Cal P w K mg base CX0 3 "is_bar" ["count", "bar"] (spD K R_is_bar)) : Cal P w K mg base (L2N.CX P w) 4 "checked" ["count", "bars"] (spY K Rx_checked) := ⟨f, fd, fkx_checked F M C_check_count B_check_count C_is_bar, g, F.kp, F.bindsN fun _ _ _ _ _ _ us hl => match us, hl with | [_, _], _ => rfl⟩
theorem okb_checked {f : Addr} {fd : FuncData} (F : FnP K "checked" s_checked f fd) (g : mg "checked" = some (.ref f)) (M : Mods K mg w) (C_check_count : Cal P w K mg base CX0 2 "check_count" ["count"] (spD K R_check_count)) (B_check_count : Cal P w K mg base (L2N.CX P w) 2 "check_count" ["count"] (fun vs H Q E => spD K R_check_count vs H Q E ∨ (spY K Rx_check_count) vs H Q E)) (C_is_bar : Cal P w K mg base CX0 3 "is_bar" ["count", "bar"] (spD K R_is_bar)) : Cal P w K mg base (L2N.CX P w) 4 "checked" ["count", "bars"] (fun vs H Q E => spF K R_checked vs H Q E ∨ (spY K Rx_checked) vs H Q E) := ⟨f, fd, Ms.fn_or (Ms.fn_cx (fk_checked F M C_check_count B_check_count C_is_bar)) (fkx_checked F M C_check_count B_check_count C_is_bar), g, F.kp, F.bindsN fun _ _ _ _ _ _ us hl => match us, hl with | [_, _], _ => rfl⟩
end
/-! ### crowded -/
abbrev s_crowded : Stmt := top 22
theorem sc_crowded : FnScope ["count", "bars", "rows", "carried", "one", "other", "crowd"] ["count", "bars"] (defScope s_crowded) := ⟨rfl, rfl, rfl, by decide +kernel, rfl, by decide +kernel, by decide +kernel⟩
inductive Rx_crowded : List D → Str → Prop
  | mk (c d : D) (x : Str) (h : Rx_checked [c, d] x) : Rx_crowded [c, d] x

section
variable {P : Program} {w : World} {K : PySem.W.Frag} {mg : Str → Option Value} {base : Heap}
theorem fkx_crowded {f : Addr} {fd : FuncData} (F : FnP K "crowded" s_crowded f fd) (M : Mods K mg w) (X_checked : Cal P w K mg base (L2N.CX P w) 4 "checked" ["count", "bars"] (spY K Rx_checked)) : FnOk P w K mg base (L2N.CX P w) 5 f fd ["count", "bars"] (spY K Rx_crowded) := by
  refine F.ok sc_crowded (spY_len fun ds x r => by cases r <;> rfl) (fun cdv A outer s H vs Q E hr h => ?_)
  have hu := hr.units
  refine ⟨_, (pss_cons (ps_set (i := 2) sc_crowded.nd rfl (Or.inl rfl) (pe_cal X_checked hr (by decide) (L2N.passes_call (L2N.takes_of rfl rfl rfl rfl) (fun _ _ _ _ h => h)) (pa_cons (pv 0) (pa_cons (pv 1) pa_nil))))
      pss_nv), ?_⟩
  refine Up.finY (K := K) h fun ds x rel => ?_
  cases rel with | mk c d  _ h =>
  exact Up.first (Up.asgX (upx_call (fun _ _ _ _ h => h) (ea_cons (ev_var rfl) (ea_cons (ev_var rfl) ea_nil)) h))
theorem okx_crowded {f : Addr} {fd : FuncData} (F : FnP K "crowded" s_crowded f fd) (g : mg "crowded" = some (.ref f)) (M : Mods K mg w) (X_checked : Cal P w K mg base (L2N.CX P w) 4 "checked" ["count", "bars"] (spY K Rx_checked)) : Cal P w K mg base (L2N.CX P w) 5 "crowded" ["count", "bars"] (spY K Rx_crowded) := ⟨f, fd, fkx_crowded F M X_checked, g, F.kp, F.bindsN fun _ _ _ _ _ _ us hl => match us, hl with | [_, _], _ => rfl⟩
end
/-! ### chosen -/
abbrev s_chosen : Stmt := top 31
theorem sc_chosen : FnScope ["count", "bars", "rows", "carried", "numbers", "number", "one", "other"] ["count", "bars"] (defScope s_chosen) := ⟨rfl, rfl, rfl, by decide +kernel, rfl, by decide +kernel, by decide +kernel⟩
inductive Rx_chosen : List D → Str → Prop
  | mk (c d : D) (x : Str) (h : Rx_checked [c, d] x) : Rx_chosen [c, d] x

section
variable {P : Program} {w : World} {K : PySem.W.Frag} {mg : Str → Option Value} {base : Heap}
theorem fkx_chosen {f : Addr} {fd : FuncData} (F : FnP K "chosen" s_chosen f fd) (M : Mods K mg w) (X_checked : Cal P w K mg base (L2N.CX P w) 4 "checked" ["count", "bars"] (spY K Rx_checked)) : FnOk P w K mg base (L2N.CX P w) 5 f fd ["count", "bars"] (spY K Rx_chosen) := by
  refine F.ok sc_chosen (spY_len fun ds x r => by cases r <;> rfl) (fun cdv A outer s H vs Q E hr h => ?_)
  have hu := hr.units
  refine ⟨_, (pss_cons (ps_set (i := 2) sc_chosen.nd rfl (Or.inl rfl) (pe_cal X_checked hr (by decide) (L2N.passes_call (L2N.takes_of rfl rfl rfl rfl) (fun _ _ _ _ h => h)) (pa_cons (pv 0) (pa_cons (pv 1) pa_nil))))
      pss_nv), ?_⟩
  refine Up.finY (K := K) h fun ds x rel => ?_
  cases rel with | mk c d  _ h =>
  exact Up.first (Up.asgX (upx_call (fun _ _ _ _ h => h) (ea_cons (ev_var rfl) (ea_cons (ev_var rfl) ea_nil)) h))
theorem okx_chosen {f : Addr} {fd : FuncData} (F : FnP K "chosen" s_chosen f fd) (g : mg "chosen" = some (.ref f)) (M : Mods K mg w) (X_checked : Cal P w K mg base (L2N.CX P w) 4 "checked" ["count", "bars"] (spY K Rx_checked)) : Cal P w K mg base (L2N.CX P w) 5 "chosen" ["count", "bars"] (spY K Rx_chosen) := ⟨f, fd, fkx_chosen F M X_checked, g, F.kp, F.bindsN fun _ _ _ _ _ _ us hl => match us, hl with | [_, _], _ => rfl⟩
end
/-! ### worth -/
abbrev s_worth : Stmt := top 32
theorem sc_worth : FnScope ["count", "bars"] ["count", "bars"] (defScope s_worth) := ⟨rfl, rfl, rfl, by decide +kernel, rfl, by decide +kernel, by decide +kernel⟩
inductive Rx_worth : List D → Str → Prop
  | mk (c d : D) (x : Str) (h : Rx_chosen [c, d] x) : Rx_worth [c, d] x

section
variable {P : Program} {w : World} {K : PySem.W.Frag} {mg : Str → Option Value} {base : Heap}
theorem fkx_worth {f : Addr} {fd : FuncData} (F : FnP K "worth" s_worth f fd) (M : Mods K mg w) (X_chosen : Cal P w K mg base (L2N.CX P w) 5 "chosen" ["count", "bars"] (spY K Rx_chosen)) : FnOk P w K mg base (L2N.CX P w) 6 f fd ["count", "bars"] (spY K Rx_worth) := by
  refine F.ok sc_worth (spY_len fun ds x r => by cases r <;> rfl) (fun cdv A outer s H vs Q E hr h => ?_)
  have hu := hr.units
  refine ⟨_, (pss_cons (ps_ret (pe_callB (ok_len (K := K) rfl) (by rfl) M.m_len (by decide +kernel) (pa_cons (pe_cal X_chosen hr (by decide) (L2N.passes_call (L2N.takes_of rfl rfl rfl rfl) (fun _ _ _ _ h => h)) (pa_cons (pv 0) (pa_cons (pv 1) pa_nil))) pa_nil)))
      pss_nv), ?_⟩
  refine Up.finY (K := K) h fun ds x rel => ?_
  cases rel with | mk c d _ h =>
  exact Up.first (Up.retX (upx_cb1 (upx_call (fun _ _ _ _ h => h) (ea_cons (ev_var rfl) (ea_cons (ev_var rfl) ea_nil)) h)))
theorem okx_worth {f : Addr} {fd : FuncData} (F : FnP K "worth" s_worth f fd) (g : mg "worth" = some (.ref f)) (M : Mods K mg w) (X_chosen : Cal P w K mg base (L2N.CX P w) 5 "chosen" ["count", "bars"] (spY K Rx_chosen)) : Cal P w K mg base (L2N.CX P w) 6 "worth" ["count", "bars"] (spY K Rx_worth) := ⟨f, fd, fkx_worth F M X_chosen, g, F.kp, F.bindsN fun _ _ _ _ _ _ us hl => match us, hl with | [_, _], _ => rfl⟩
end
/-! ### holds -/
abbrev s_holds : Stmt := top 34
theorem sc_holds : FnScope ["count", "bars", "one", "other", "rows"] ["count", "bars", "one", "other"] (defScope s_holds) := ⟨rfl, rfl, rfl, by decide +kernel, rfl, by decide +kernel, by decide +kernel⟩
inductive Rx_holds : List D → Str → Prop
  | mk (c d e f : D) (x : Str) (h : Rx_checked [c, d] x) : Rx_holds [c, d, e, f] x

section
variable {P : Program} {w : World} {K : PySem.W.Frag} {mg : Str → Option Value} {base : Heap}
theorem fkx_holds {f : Addr} {fd : FuncData} (F : FnP K "holds" s_holds f fd) (M : Mods K mg w) (X_checked : Cal P w K mg base (L2N.CX P w) 4 "checked" ["count", "bars"] (spY K Rx_checked)) : FnOk P w K mg base (L2N.CX P w) 5 f fd ["count", "bars", "one", "other"] (spY K Rx_holds) := by
  refine F.ok sc_holds (spY_len fun ds x r => by cases r <;> rfl) (fun cdv A outer s H vs Q E hr h => ?_)
  have hu := hr.units
  refine ⟨_, (pss_cons (ps_set (i := 4) sc_holds.nd rfl (Or.inl rfl) (pe_cal X_checked hr (by decide) (L2N.passes_call (L2N.takes_of rfl rfl rfl rfl) (fun _ _ _ _ h => h)) (pa_cons (pv 0) (pa_cons (pv 1) pa_nil))))
      pss_nv), ?_⟩
  refine Up.finY (K := K) h fun ds x rel => ?_
  cases rel with | mk c d e f _ h =>
  exact Up.first (Up.asgX (upx_call (fun _ _ _ _ h => h) (ea_cons (ev_var rfl) (ea_cons (ev_var rfl) ea_nil)) h))
theorem okx_holds {f : Addr} {fd : FuncData} (F : FnP K "holds" s_holds f fd) (g : mg "holds" = some (.ref f)) (M : Mods K mg w) (X_checked : Cal P w K mg base (L2N.CX P w) 4 "checked" ["count", "bars"] (spY K Rx_checked)) : Cal P w K mg base (L2N.CX P w) 5 "holds" ["count", "bars", "one", "other"] (spY K Rx_holds) := ⟨f, fd, fkx_holds F M X_checked, g, F.kp, F.bindsN fun _ _ _ _ _ _ us hl => match us, hl with | [_, _, _, _], _ => rfl⟩
end
/-! ### parts -/
abbrev s_parts : Stmt := top 35
theorem sc_parts : FnScope ["count", "bars", "rows", "held", "found", "one", "other", "part", "joint"] ["count", "bars"] (defScope s_parts) := ⟨rfl, rfl, rfl, by decide +kernel, rfl, by decide +kernel, by decide +kernel⟩
inductive Rx_parts : List D → Str → Prop
  | mk (c d : D) (x : Str) (h : Rx_checked [c, d] x) : Rx_parts [c, d] x

section
variable {P : Program} {w : World} {K : PySem.W.Frag} {mg : Str → Option Value} {base : Heap}
theorem fkx_parts {f : Addr} {fd : FuncData} (F : FnP K "parts" s_parts f fd) (M : Mods K mg w) (X_checked : Cal P w K mg base (L2N.CX P w) 4 "checked" ["count", "bars"] (spY K Rx_checked)) : FnOk P w K mg base (L2N.CX P w) 5 f fd ["count", "bars"] (spY K Rx_parts) := by
  refine F.ok sc_parts (spY_len fun ds x r => by cases r <;> rfl) (fun cdv A outer s H vs Q E hr h => ?_)
  have hu := hr.units
  refine ⟨_, (pss_cons (ps_set (i := 2) sc_parts.nd rfl (Or.inl rfl) (pe_cal X_checked hr (by decide) (L2N.passes_call (L2N.takes_of rfl rfl rfl rfl) (fun _ _ _ _ h => h)) (pa_cons (pv 0) (pa_cons (pv 1) pa_nil))))
      pss_nv), ?_⟩
  refine Up.finY (K := K) h fun ds x rel => ?_
  cases rel with | mk c d  _ h =>
  exact Up.first (Up.asgX (upx_call (fun _ _ _ _ h => h) (ea_cons (ev_var rfl) (ea_cons (ev_var rfl) ea_nil)) h))
theorem okx_parts {f : Addr} {fd : FuncData} (F : FnP K "parts" s_parts f fd) (g : mg "parts" = some (.ref f)) (M : Mods K mg w) (X_checked : Cal P w K mg base (L2N.CX P w) 4 "checked" ["count", "bars"] (spY K Rx_checked)) : Cal P w K mg base (L2N.CX P w) 5 "parts" ["count", "bars"] (spY K Rx_parts) := ⟨f, fd, fkx_parts F M X_checked, g, F.kp, F.bindsN fun _ _ _ _ _ _ us hl => match us, hl with | [_, _], _ => rfl⟩
end
/-! ### is_stiff -/
abbrev s_is_stiff : Stmt := top 38
theorem sc_is_stiff : FnScope ["count", "bars", "many"] ["count", "bars"] (defScope s_is_stiff) := ⟨rfl, rfl, rfl, by decide +kernel, rfl, by decide +kernel, by decide +kernel⟩
inductive Rx_is_stiff : List D → Str → Prop
  | mk (c d : D) (x : Str) (h : Rx_worth [c, d] x) : Rx_is_stiff [c, d] x

section
variable {P : Program} {w : World} {K : PySem.W.Frag} {mg : Str → Option Value} {base : Heap}
theorem fkx_is_stiff {f : Addr} {fd : FuncData} (F : FnP K "is_stiff" s_is_stiff f fd) (M : Mods K mg w) (X_worth : Cal P w K mg base (L2N.CX P w) 6 "worth" ["count", "bars"] (spY K Rx_worth)) : FnOk P w K mg base (L2N.CX P w) 7 f fd ["count", "bars"] (spY K Rx_is_stiff) := by
  refine F.ok sc_is_stiff (spY_len fun ds x r => by cases r <;> rfl) (fun cdv A outer s H vs Q E hr h => ?_)
  have hu := hr.units
  refine ⟨_, (pss_cons (ps_set (i := 2) sc_is_stiff.nd rfl (Or.inl rfl) (pe_cal X_worth hr (by decide) (L2N.passes_call (L2N.takes_of rfl rfl rfl rfl) (fun _ _ _ _ h => h)) (pa_cons (pv 0) (pa_cons (pv 1) pa_nil))))
      pss_nv), ?_⟩
  refine Up.finY (K := K) h fun ds x rel => ?_
  cases rel with | mk c d  _ h =>
  exact Up.first (Up.asgX (upx_call (fun _ _ _ _ h => h) (ea_cons (ev_var rfl) (ea_cons (ev_var rfl) ea_nil)) h))
theorem okx_is_stiff {f : Addr} {fd : FuncData} (F : FnP K "is_stiff" s_is_stiff f fd) (g : mg "is_stiff" = some (.ref f)) (M : Mods K mg w) (X_worth : Cal P w K mg base (L2N.CX P w) 6 "worth" ["count", "bars"] (spY K Rx_worth)) : Cal P w K mg base (L2N.CX P w) 7 "is_stiff" ["count", "bars"] (spY K Rx_is_stiff) := ⟨f, fd, fkx_is_stiff F M X_worth, g, F.kp, F.bindsN fun _ _ _ _ _ _ us hl => match us, hl with | [_, _], _ => rfl⟩
end
/-! ### steps -/
abbrev s_steps : Stmt := top 41
theorem sc_steps : FnScope ["count", "bars", "rows", "backwards", "step", "one", "other"] ["count", "bars"] (defScope s_steps) := ⟨rfl, rfl, rfl, by decide +kernel, rfl, by decide +kernel, by decide +kernel⟩
inductive Rx_steps : List D → Str → Prop
  | mk (c d : D) (x : Str) (h : Rx_checked [c, d] x) : Rx_steps [c, d] x

section
variable {P : Program} {w : World} {K : PySem.W.Frag} {mg : Str → Option Value} {base : Heap}
theorem fkx_steps {f : Addr} {fd : FuncData} (F : FnP K "steps" s_steps f fd) (M : Mods K mg w) (X_checked : Cal P w K mg base (L2N.CX P w) 4 "checked" ["count", "bars"] (spY K Rx_checked)) : FnOk P w K mg base (L2N.CX P w) 5 f fd ["count", "bars"] (spY K Rx_steps) := by
  refine F.ok sc_steps (spY_len fun ds x r => by cases r <;> rfl) (fun cdv A outer s H vs Q E hr h => ?_)
  have hu := hr.units
  refine ⟨_, (pss_cons (ps_set (i := 2) sc_steps.nd rfl (Or.inl rfl) (pe_cal X_checked hr (by decide) (L2N.passes_call (L2N.takes_of rfl rfl rfl rfl) (fun _ _ _ _ h => h)) (pa_cons (pv 0) (pa_cons (pv 1) pa_nil))))
      pss_nv), ?_⟩
  refine Up.finY (K := K) h fun ds x rel => ?_
  cases rel with | mk c d  _ h =>
  exact Up.first (Up.asgX (upx_call (fun _ _ _ _ h => h) (ea_cons (ev_var rfl) (ea_cons (ev_var rfl) ea_nil)) h))
theorem okx_steps {f : Addr} {fd : FuncData} (F : FnP K "steps" s_steps f fd) (g : mg "steps" = some (.ref f)) (M : Mods K mg w) (X_checked : Cal P w K mg base (L2N.CX P w) 4 "checked" ["count", "bars"] (spY K Rx_checked)) : Cal P w K mg base (L2N.CX P w) 5 "steps" ["count", "bars"] (spY K Rx_steps) := ⟨f, fd, fkx_steps F M X_checked, g, F.kp, F.bindsN fun _ _ _ _ _ _ us hl => match us, hl with | [_, _], _ => rfl⟩
end
/-! ### built -/
abbrev s_built : Stmt := top 46
theorem sc_built : FnScope ["count", "steps", "rows", "place", "step"] ["count", "steps"] (defScope s_built) := ⟨rfl, rfl, rfl, by decide +kernel, rfl, by decide +kernel, by decide +kernel⟩
inductive Rx_built : List D → Str → Prop
  | mk (c d : D) (x : Str) (h : Rx_check_count [c] x) : Rx_built [c, d] x

section
variable {P : Program} {w : World} {K : PySem.W.Frag} {mg : Str → Option Value} {base : Heap}
theorem fkx_built {f : Addr} {fd : FuncData} (F : FnP K "built" s_built f fd) (M : Mods K mg w) (X_check_count : Cal P w K mg base (L2N.CX P w) 2 "check_count" ["count"] (spY K Rx_check_count)) : FnOk P w K mg base (L2N.CX P w) 3 f fd ["count", "steps"] (spY K Rx_built) := by
  refine F.ok sc_built (spY_len fun ds x r => by cases r <;> rfl) (fun cdv A outer s H vs Q E hr h => ?_)
  have hu := hr.units
  refine ⟨_, (pss_cons (ps_expr (pe_cal X_check_count hr (by decide) (L2N.passes_call (L2N.takes_of rfl rfl rfl rfl) (fun _ _ _ _ h => h)) (pa_cons (pv 0) pa_nil)))
      pss_nv), ?_⟩
  refine Up.finY (K := K) h fun ds x rel => ?_
  cases rel with | mk c d _ h =>
  exact Up.first (Up.dropX (upx_call (fun _ _ _ _ h => h) (ea_cons (ev_var rfl) ea_nil) h))
theorem okx_built {f : Addr} {fd : FuncData} (F : FnP K "built" s_built f fd) (g : mg "built" = some (.ref f)) (M : Mods K mg w) (X_check_count : Cal P w K mg base (L2N.CX P w) 2 "check_count" ["count"] (spY K Rx_check_count)) : Cal P w K mg base (L2N.CX P w) 3 "built" ["count", "steps"] (spY K Rx_built) := ⟨f, fd, fkx_built F M X_check_count, g, F.kp, F.bindsN fun _ _ _ _ _ _ us hl => match us, hl with | [_, _], _ => rfl⟩
end
/-! ### knot -/
abbrev s_knot : Stmt := top 52
theorem sc_knot : FnScope ["count", "bars", "number", "rows", "ahead", "at"] ["count", "bars", "number"] (defScope s_knot) := ⟨rfl, rfl, rfl, by decide +kernel, rfl, by decide +kernel, by decide +kernel⟩
inductive Rx_knot : List D → Str → Prop
  | mk (c d e : D) (x : Str) (h : Rx_checked [c, d] x) : Rx_knot [c, d, e] x

section
variable {P : Program} {w : World} {K : PySem.W.Frag} {mg : Str → Option Value} {base : Heap}
theorem fkx_knot {f : Addr} {fd : FuncData} (F : FnP K "knot" s_knot f fd) (M : Mods K mg w) (X_checked : Cal P w K mg base (L2N.CX P w) 4 "checked" ["count", "bars"] (spY K Rx_checked)) : FnOk P w K mg base (L2N.CX P w) 5 f fd ["count", "bars", "number"] (spY K Rx_knot) := by
  refine F.ok sc_knot (spY_len fun ds x r => by cases r <;> rfl) (fun cdv A outer s H vs Q E hr h => ?_)
  have hu := hr.units
  refine ⟨_, (pss_cons (ps_set (i := 3) sc_knot.nd rfl (Or.inl rfl) (pe_cal X_checked hr (by decide) (L2N.passes_call (L2N.takes_of rfl rfl rfl rfl) (fun _ _ _ _ h => h)) (pa_cons (pv 0) (pa_cons (pv 1) pa_nil))))
      pss_nv), ?_⟩
  refine Up.finY (K := K) h fun ds x rel => ?_
  cases rel with | mk c d e _ h =>
  exact Up.first (Up.asgX (upx_call (fun _ _ _ _ h => h) (ea_cons (ev_var rfl) (ea_cons (ev_var rfl) ea_nil)) h))
theorem okx_knot {f : Addr} {fd : FuncData} (F : FnP K "knot" s_knot f fd) (g : mg "knot" = some (.ref f)) (M : Mods K mg w) (X_checked : Cal P w K mg base (L2N.CX P w) 4 "checked" ["count", "bars"] (spY K Rx_checked)) : Cal P w K mg base (L2N.CX P w) 5 "knot" ["count", "bars", "number"] (spY K Rx_knot) := ⟨f, fd, fkx_knot F M X_checked, g, F.kp, F.bindsN fun _ _ _ _ _ _ us hl => match us, hl with | [_, _, _], _ => rfl⟩
end
/-! ### too_many -/
abbrev s_too_many : Stmt := top 54
theorem sc_too_many : FnScope ["count", "bars", "rows", "knots", "found", "number"] ["count", "bars"] (defScope s_too_many) := ⟨rfl, rfl, rfl, by decide +kernel, rfl, by decide +kernel, by decide +kernel⟩
inductive Rx_too_many : List D → Str → Prop
  | mk (c d : D) (x : Str) (h : Rx_checked [c, d] x) : Rx_too_many [c, d] x

section
variable {P : Program} {w : World} {K : PySem.W.Frag} {mg : Str → Option Value} {base : Heap}
theorem fkx_too_many {f : Addr} {fd : FuncData} (F : FnP K "too_many" s_too_many f fd) (M : Mods K mg w) (X_checked : Cal P w K mg base (L2N.CX P w) 4 "checked" ["count", "bars"] (spY K Rx_checked)) : FnOk P w K mg base (L2N.CX P w) 5 f fd ["count", "bars"] (spY K Rx_too_many) := by
  refine F.ok sc_too_many (spY_len fun ds x r => by cases r <;> rfl) (fun cdv A outer s H vs Q E hr h => ?_)
  have hu := hr.units
  refine ⟨_, (pss_cons (ps_set (i := 2) sc_too_many.nd rfl (Or.inl rfl) (pe_cal X_checked hr (by decide) (L2N.passes_call (L2N.takes_of rfl rfl rfl rfl) (fun _ _ _ _ h => h)) (pa_cons (pv 0) (pa_cons (pv 1) pa_nil))))
      pss_nv), ?_⟩
  refine Up.finY (K := K) h fun ds x rel => ?_
  cases rel with | mk c d  _ h =>
  exact Up.first (Up.asgX (upx_call (fun _ _ _ _ h => h) (ea_cons (ev_var rfl) (ea_cons (ev_var rfl) ea_nil)) h))
theorem okx_too_many {f : Addr} {fd : FuncData} (F : FnP K "too_many" s_too_many f fd) (g : mg "too_many" = some (.ref f)) (M : Mods K mg w) (X_checked : Cal P w K mg base (L2N.CX P w) 4 "checked" ["count", "bars"] (spY K Rx_checked)) : Cal P w K mg base (L2N.CX P w) 5 "too_many" ["count", "bars"] (spY K Rx_too_many) := ⟨f, fd, fkx_too_many F M X_checked, g, F.kp, F.bindsN fun _ _ _ _ _ _ us hl => match us, hl with | [_, _], _ => rfl⟩
end
/-! ### l_cell_at -/
abbrev s_l_cell_at : Stmt := top 59
theorem sc_l_cell_at : FnScope ["_law_script", "_law_k"] ["_law_script", "_law_k"] (defScope s_l_cell_at) := ⟨rfl, rfl, rfl, by decide +kernel, rfl, by decide +kernel, by decide +kernel⟩
def cell (ns : List Int) (k : Int) : Int := ns.getD k.toNat 0
inductive R_l_cell_at : List D → D → Prop
  | mk (ns : List Int) (k : Int) (h : 0 ≤ k) : R_l_cell_at [.ro ns, .int k] (.int (cell ns k))

section
variable {P : Program} {w : World} {K : PySem.W.Frag} {mg : Str → Option Value} {base : Heap}
theorem ok_l_cell_at {f : Addr} {fd : FuncData} (F : FnP K "_law_cell_at" s_l_cell_at f fd) (g : mg "_law_cell_at" = some (.ref f)) (M : Mods K mg w)  : Cal P w K mg base CX0 1 "_law_cell_at" ["_law_script", "_law_k"] (spD K R_l_cell_at) := by
  refine ⟨f, fd, F.ok sc_l_cell_at (spD_len fun ds d r => by cases r <;> rfl) (fun cdv A outer s H vs Q E hr h => ?_), g, F.kp, F.bindsN fun _ _ _ _ _ _ us hl => match us, hl with | [_, _], _ => rfl⟩
  have hu := hr.units
  refine ⟨_, PSs.nox (pss_cons (ps_if (pt_cmpR op_lt (pv 1) (pe_callB (ok_len (K := K) rfl) (by rfl) M.m_len (by decide +kernel) (pa_cons (pv 0) pa_nil)) (nomark _)) (pss_one (ps_ret (pe_ix (ok_ix (K := K) rfl) (pv 0) (pv 1) (fun _ _ => rfl)))) pss_nil)
      (pss_one (ps_ret pe_int))), ?_⟩
  refine T.fin (K := K) h fun ds d rel => ?_
  cases rel with | mk ns k h0 =>
  refine T.guard (b := decide (k < (ns.length : Int))) (by walk_at "ev") (fun b => T.ret (d := .int (cell ns k)) (ev_op (ev_var rfl) (ev_var rfl) (rv_ixR ?_)) rfl) fun b => T.ret (d := .int 0) (by walk_at "ev") ?_
  · have hk : k.toNat < ns.length := by have := of_decide_eq_true b; omega
    refine atI_int h0 ?_
    unfold cell
    simp [List.getD, hk]
  · have hk : ¬ k < (ns.length : Int) := of_decide_eq_false b
    have hk2 : ns.length ≤ k.toNat := by omega
    show D.int 0 = D.int (cell ns k)
    unfold cell
    simp [List.getD, hk2]
end
/-! ### l_mixed -/
abbrev s_l_mixed : Stmt := top 60
theorem sc_l_mixed : FnScope ["_law_cell", "_law_k", "_law_found"] ["_law_cell", "_law_k"] (defScope s_l_mixed) := ⟨rfl, rfl, rfl, by decide +kernel, rfl, by decide +kernel, by decide +kernel⟩
def mixed (c k : Int) : Int :=
  (c % 1000000007 + 7919 * k + 11) * 48271 % 2147483647 * ((c % 1000000007 + 7919 * k + 11) * 48271 % 2147483647 % 65521 + 3) % 2147483629
theorem mixed_nn (c k : Int) : 0 ≤ mixed c k := Int.emod_nonneg _ (by decide)
theorem mixed_lt (c k : Int) : mixed c k < 2147483629 := Int.emod_lt_of_pos _ (by decide)
inductive R_l_mixed : List D → D → Prop
  | mk (c k : Int) : R_l_mixed [.int c, .int k] (.int (mixed c k))

section
variable {P : Program} {w : World} {K : PySem.W.Frag} {mg : Str → Option Value} {base : Heap}
theorem ok_l_mixed {f : Addr} {fd : FuncData} (F : FnP K "_law_mixed" s_l_mixed f fd) (g : mg "_law_mixed" = some (.ref f)) (M : Mods K mg w)  : Cal P w K mg base CX0 1 "_law_mixed" ["_law_cell", "_law_k"] (spD K R_l_mixed) := by
  refine ⟨f, fd, F.ok sc_l_mixed (spD_len fun ds d r => by cases r <;> rfl) (fun cdv A outer s H vs Q E hr h => ?_), g, F.kp, F.bindsN fun _ _ _ _ _ _ us hl => match us, hl with | [_, _], _ => rfl⟩
  have hu := hr.units
  refine ⟨_, PSs.nox (pss_cons (ps_set (i := 2) sc_l_mixed.nd rfl (Or.inl rfl) (pe_op op_modN (pe_op op_mul (pe_op (ok_plus (K := K) rfl) (pe_op (ok_plus (K := K) rfl) (pe_op op_modN (pv 0) pe_int) (pe_op op_mul pe_int (pv 1))) pe_int) pe_int) pe_int))
      (pss_one (ps_ret (pe_op op_modN (pe_op op_mul (pv 2) (pe_op (ok_plus (K := K) rfl) (pe_op op_modN (pv 2) pe_int) pe_int)) pe_int)))), ?_⟩
  refine T.fin (K := K) h fun ds d rel => ?_
  cases rel with | mk c k =>
  refine T.seq (T.asg (d := .int ((c % 1000000007 + 7919 * k + 11) * 48271 % 2147483647)) ?_ rfl) (T.ret (d := .int (mixed c k)) ?_ rfl)
  · walk_at "ev"
    all_goals first | decide | (exact Or.inl ⟨by decide, by decide⟩) | (exact Or.inr ⟨by decide, by decide⟩)
  · unfold mixed
    have f1 : 0 ≤ (c % 1000000007 + 7919 * k + 11) * 48271 % 2147483647 := Int.emod_nonneg _ (by decide)
    have f2 : (c % 1000000007 + 7919 * k + 11) * 48271 % 2147483647 < 2147483647 := Int.emod_lt_of_pos _ (by decide)
    walk_at "ev"
    all_goals first | decide | (refine Or.inl ⟨?_, ?_⟩ <;> omega)
end
/-! ### l_free -/
abbrev s_l_free : Stmt := top 61
theorem sc_l_free : FnScope ["_law_script", "_law_first", "_law_count", "_law_many", "_law_bars", "_law_k", "_law_cell", "_law_one"] ["_law_script", "_law_first", "_law_count", "_law_many"] (defScope s_l_free) := ⟨rfl, rfl, rfl, by decide +kernel, rfl, by decide +kernel, by decide +kernel⟩
def freeC (ns : List Int) (first : Int) (k : Nat) : Int := mixed (cell ns (first + (k : Int) % 5)) (k : Int)
def freeB (ns : List Int) (first count : Int) (k : Nat) : Int × Int :=
  (freeC ns first k % count, (freeC ns first k % count + 1 + freeC ns first k / 97 % (count - 1)) % count)
def freeL (ns : List Int) (first count : Int) (m : Nat) : List (Int × Int) := (List.range m).map (freeB ns first count)
theorem freeL_len (ns : List Int) (first count : Int) (m : Nat) : (freeL ns first count m).length = m := by simp [freeL]
theorem freeL_succ (ns : List Int) (first count : Int) (m : Nat) : freeL ns first count (m + 1) = freeL ns first count m ++ [freeB ns first count m] := by
  unfold freeL
  rw [List.range_succ, List.map_append]
  rfl
inductive R_l_free : List D → List D → Prop
  | mk (ns : List Int) (first count : Int) (m : Nat) (h1 : 0 ≤ first) (h2 : 2 ≤ count) (h3 : count ≤ 16) (h4 : m ≤ 100) : R_l_free [.ro ns, .int first, .int count, .int (m : Int)] ((freeL ns first count m).map barD)
theorem freeB_good {ns : List Int} {first count : Int} {k : Nat} (h : 2 ≤ count) : Good count (freeB ns first count k) := by
  unfold freeB Good
  have a1 := Int.emod_nonneg (freeC ns first k) (show count ≠ 0 by omega)
  have a2 := Int.emod_lt_of_pos (freeC ns first k) (show 0 < count by omega)
  generalize hr : freeC ns first k % count = r at a1 a2 ⊢
  generalize hq : freeC ns first k / 97 = q
  have c1 := Int.emod_nonneg q (show count - 1 ≠ 0 by omega)
  have c2 := Int.emod_lt_of_pos q (show 0 < count - 1 by omega)
  generalize ht : q % (count - 1) = t at c1 c2 ⊢
  have e1 := Int.emod_nonneg (r + 1 + t) (show count ≠ 0 by omega)
  have e2 := Int.emod_lt_of_pos (r + 1 + t) (show 0 < count by omega)
  refine ⟨a1, a2, e1, e2, fun z => ?_⟩
  dsimp only at z e1 e2
  by_cases l : r + 1 + t < count
  · rw [Int.emod_eq_of_lt (by omega) l] at z
    omega
  · have : (r + 1 + t) % count = r + 1 + t - count := by
      rw [← Int.sub_emod_right, Int.emod_eq_of_lt (by omega) (by omega)]
    omega
theorem freeL_good {ns : List Int} {first count : Int} {m : Nat} (h : 2 ≤ count) : ∀ b ∈ freeL ns first count m, Good count b := fun b hb => by
  obtain ⟨k, _, rfl⟩ := List.mem_map.mp hb
  exact freeB_good h
theorem good_nat {n : Nat} {bs : List (Int × Int)} (h : ∀ b ∈ bs, Good (n : Int) b) : (bs.map unB).map bI = bs ∧ Fr.Ok n (bs.map unB) := by
  refine ⟨unB_bI fun b hb => ⟨(h b hb).1, (h b hb).2.2.1⟩, fun c hc => ?_⟩
  obtain ⟨b, hb, rfl⟩ := List.mem_map.mp hc
  obtain ⟨h1, h2, h3, h4, h5⟩ := h b hb
  unfold unB
  exact ⟨by omega, by omega, by omega⟩

section
variable {P : Program} {w : World} {K : PySem.W.Frag} {mg : Str → Option Value} {base : Heap}
theorem ok_l_free {f : Addr} {fd : FuncData} (F : FnP K "_law_free" s_l_free f fd) (g : mg "_law_free" = some (.ref f)) (M : Mods K mg w) (C_l_mixed : Cal P w K mg base CX0 1 "_law_mixed" ["_law_cell", "_law_k"] (spD K R_l_mixed)) (C_l_cell_at : Cal P w K mg base CX0 1 "_law_cell_at" ["_law_script", "_law_k"] (spD K R_l_cell_at)) : Cal P w K mg base CX0 2 "_law_free" ["_law_script", "_law_first", "_law_count", "_law_many"] (spF K R_l_free) := by
  refine ⟨f, fd, F.ok sc_l_free (spF_len fun ds d r => by cases r <;> rfl) (fun cdv A outer s H vs Q E hr h => ?_), g, F.kp, F.bindsN fun _ _ _ _ _ _ us hl => match us, hl with | [_, _, _, _], _ => rfl⟩
  have hu := hr.units
  refine ⟨_, PSs.nox (pss_cons (ps_set (i := 4) sc_l_free.nd rfl (Or.inl rfl) (pe_lst pa_nil))
      (pss_cons (ps_for PassesOwn.never rfl (pi_range1 (by rfl) M.m_range (pa_cons (pv 3) pa_nil)) (pg_name (i := 5) sc_l_free.nd rfl (Or.inl rfl)) (pss_cons (ps_set (i := 6) sc_l_free.nd rfl (Or.inl rfl) (pe_cal C_l_mixed hr (by decide) pass0 (pa_cons (pe_cal C_l_cell_at hr (by decide) pass0 (pa_cons (pv 0) (pa_cons (pe_op (ok_plus (K := K) rfl) (pv 1) (pe_op op_modN (pv 5) pe_int)) pa_nil))) (pa_cons (pv 5) pa_nil))))
      (pss_cons (ps_set (i := 7) sc_l_free.nd rfl (Or.inl rfl) (pe_op op_modN (pv 6) (pv 2)))
      (pss_one (ps_expr (pe_bm PySem.F.plainAttrs_list PySem.F.slot_list_append PySem.F.type_list_append mt_append (pv 4) (pa_cons (pe_tup (pa_cons (pv 7) (pa_cons (pe_op op_modN (pe_op (ok_plus (K := K) rfl) (pe_op (ok_plus (K := K) rfl) (pv 7) pe_int) (pe_op op_modN (pe_op op_fdivN (pv 6) pe_int) (pe_op op_sub (pv 2) pe_int))) (pv 2)) pa_nil))) pa_nil)))))))
      (pss_one (ps_ret (pv 4))))), ?_⟩
  refine T.finF (K := K) h fun ds d rel => ?_
  cases rel with | mk ns first count m h1 h2 h3 h4 =>
  refine T.seq (T.asgF (es := []) (by walk_at "ev") rfl) ?_
  refine T.seqP (N := fun r => ∃ s5 s6 s7, r = [.k (.ro ns), .k (.int first), .k (.int count), .k (.int (m : Int)), .o ((freeL ns first count m).map barD), s5, s6, s7])
    (T.for (ei_rng1 (by walk_at "ev") ⟨by omega, by omega⟩) (fun i r => ∃ s5 s6 s7, r = [.k (.ro ns), .k (.int first), .k (.int count), .k (.int (m : Int)), .o ((freeL ns first count i).map barD), s5, s6, s7]) ⟨_, _, _, rfl⟩ ?_ fun r z => ?_) ?_
  · rintro i d r hd ⟨s5, s6, s7, rfl⟩
    obtain ⟨hi, rfl⟩ := rngD_get0 hd
    refine ⟨_, eg_name, ?_⟩
    refine T.seq (T.asg (d := .int (freeC ns first i)) (ev_call (ea_cons (ev_call (d := .int (cell ns (first + (i : Int) % 5))) (ds := [.ro ns, .int (first + (i : Int) % 5)]) ?_ (.mk ns _ (by omega))) (by walk_at "ev")) (.mk _ _)) rfl) ?_
    · walk_at "ev"
      all_goals decide
    refine T.seq (T.asg (d := .int (freeC ns first i % count)) ?_ rfl) ?_
    · walk_at "ev"
      all_goals omega
    refine T.append (d := .tup [.int (freeC ns first i % count), .int ((freeC ns first i % count + 1 + freeC ns first i / 97 % (count - 1)) % count)]) rfl ?_ ?_ ?_
    · walk_at "ev"
      all_goals first | omega | exact ⟨by omega, by omega⟩
    · rw [List.length_map, freeL_len]
      omega
    · simp only [freeL_succ, List.map_append, List.map_cons, List.map_nil]
      exact ⟨_, _, _, rfl⟩
  · have e : (rngD 0 ((m : Nat) : Int).toNat 1).length = m := by rw [rngD_len]; omega
    rw [e] at z
    exact z
  · rintro r ⟨s5, s6, s7, rfl⟩
    exact T.retO rfl rfl
end
/-! ### l_kind -/
abbrev s_l_kind : Stmt := top 62
theorem sc_l_kind : FnScope ["_law_error", "_law_kinds", "_law_words", "_law_word", "_law_fits"] ["_law_error"] (defScope s_l_kind) := ⟨rfl, rfl, rfl, by decide +kernel, rfl, by decide +kernel, by decide +kernel⟩
inductive R_l_kind (K : PySem.W.Frag) : List D → List D → Prop
  | mk (x : Str) (h : Kind x (kinds7 x) K) : R_l_kind K [.er (He.ga K x)] ((classes7.filter fun p => p.1 == x).map fun p => .str p.2)
def wordD (x : Str) (p : Str × Str) : D := .tup [.str p.2, .bl (p.1 == x)]
def fitD : D → Bool
  | .tup [_, .bl b] => b
  | _ => false
def wrdD : D → D
  | .tup [w, _] => w
  | _ => .non

section
variable {P : Program} {w : World} {K : PySem.W.Frag} {mg : Str → Option Value} {base : Heap}
theorem ok_l_kind {f : Addr} {fd : FuncData} (F : FnP K "_law_kind" s_l_kind f fd) (g : mg "_law_kind" = some (.ref f)) (M : Mods K mg w)  : ∀ base, Ex0.CalE P w K mg base 1 "_law_kind" ["_law_error"] (spF K (R_l_kind K)) := by
  refine fun base => ⟨f, fd, Ex0.fnE_of F sc_l_kind (spF_len fun ds d r => by cases r <;> rfl) (fun cdv A outer s H vs Q p hr hot h => ?_), g, F.kp, F.bindsN fun _ _ _ _ _ _ us hl => match us, hl with | [_], _ => rfl⟩
  have hu := roomH_units hr
  refine ⟨_, PSs.nox (pss_cons (ps_set (i := 1) sc_l_kind.nd rfl (Or.inl rfl) (pe_lst (pa_cons (pe_tup (pa_cons pe_str (pa_cons (pe_callB (ok_isEr (K := K) rfl) (by rfl) M.m_isinstance (by decide +kernel) (pa_cons (pv 0) (pa_cons (pe_glob (v := .ref (He.ga K "BadCount")) rfl M.g_BadCount rfl) pa_nil))) pa_nil))) (pa_cons (pe_tup (pa_cons pe_str (pa_cons (pe_callB (ok_isEr (K := K) rfl) (by rfl) M.m_isinstance (by decide +kernel) (pa_cons (pv 0) (pa_cons (pe_glob (v := .ref (He.ga K "BadBar")) rfl M.g_BadBar rfl) pa_nil))) pa_nil))) pa_nil))))
      (pss_cons (ps_set (i := 1) sc_l_kind.nd rfl (Or.inl rfl) (pe_op (ok_plus (K := K) rfl) (pv 1) (pe_lst (pa_cons (pe_tup (pa_cons pe_str (pa_cons (pe_callB (ok_isEr (K := K) rfl) (by rfl) M.m_isinstance (by decide +kernel) (pa_cons (pv 0) (pa_cons (pe_glob (v := .ref (He.ga K "NoBar")) rfl M.g_NoBar rfl) pa_nil))) pa_nil))) (pa_cons (pe_tup (pa_cons pe_str (pa_cons (pe_callB (ok_isEr (K := K) rfl) (by rfl) M.m_isinstance (by decide +kernel) (pa_cons (pv 0) (pa_cons (pe_glob (v := .ref (He.ga K "Full")) rfl M.g_Full rfl) pa_nil))) pa_nil))) pa_nil)))))
      (pss_cons (ps_set (i := 1) sc_l_kind.nd rfl (Or.inl rfl) (pe_op (ok_plus (K := K) rfl) (pv 1) (pe_lst (pa_cons (pe_tup (pa_cons pe_str (pa_cons (pe_callB (ok_isEr (K := K) rfl) (by rfl) M.m_isinstance (by decide +kernel) (pa_cons (pv 0) (pa_cons (pe_glob (v := .ref (He.ga K "NotLean")) rfl M.g_NotLean rfl) pa_nil))) pa_nil))) (pa_cons (pe_tup (pa_cons pe_str (pa_cons (pe_callB (ok_isEr (K := K) rfl) (by rfl) M.m_isinstance (by decide +kernel) (pa_cons (pv 0) (pa_cons (pe_glob (v := .ref (He.ga K "Loose")) rfl M.g_Loose rfl) pa_nil))) pa_nil))) pa_nil)))))
      (pss_cons (ps_expr (pe_bm PySem.F.plainAttrs_list PySem.F.slot_list_append PySem.F.type_list_append mt_append (pv 1) (pa_cons (pe_tup (pa_cons pe_str (pa_cons (pe_callB (ok_isEr (K := K) rfl) (by rfl) M.m_isinstance (by decide +kernel) (pa_cons (pv 0) (pa_cons (pe_glob (v := .ref (He.ga K "BadStep")) rfl M.g_BadStep rfl) pa_nil))) pa_nil))) pa_nil)))
      (pss_cons (ok_lcHot (K := K) (i := 2) (own := [("_law_word", 3), ("_law_fits", 4)]) (g := (gTup K 2 (gCons (gName 3) (gCons (gName 4) gNil)))) (tt := _) rfl hot sc_l_kind.nd rfl rfl (sw_true rfl rfl rfl (by decide +kernel)) (pv 1) (blkOk_by (N := ["_law_error", "_law_kinds", "_law_words", "_law_word", "_law_fits"]) (sc := defScope s_l_kind) (by decide +kernel)) (fun _ _ _ _ _ hh => (ok_tupX (K := K) rfl hh (pgs_cons (pg_name (i := 3) sc_l_kind.nd rfl (Or.inl rfl)) (pgs_cons (pg_name (i := 4) sc_l_kind.nd rfl (Or.inl rfl)) pgs_nil)))) (fun _ _ _ _ _ => (pts_one (pt_val (pv 4)))) (fun _ _ _ _ _ => (pv 3)))
      (pss_cons (ps_if (pt_not (pt_val (pe_callB (ok_isEr (K := K) rfl) (by rfl) M.m_isinstance (by decide +kernel) (pa_cons (pv 0) (pa_cons (pe_bltn (v := .ty "ValueError") (by rfl) M.m_ValueError (by decide +kernel) rfl) pa_nil))))) (pss_one (ps_expr (pe_bm PySem.F.plainAttrs_list PySem.F.slot_list_append PySem.F.type_list_append mt_append (pv 2) (pa_cons pe_str pa_nil)))) pss_nil)
      (pss_one (ps_ret (pv 2))))))))), ?_⟩
  refine T.finF (K := K) h fun ds d rel => ?_
  cases rel with | mk x k =>
  have isx : ∀ (ρ : Rho) (y z : Str) (hm : (y, z) ∈ classes7), ρ[0]? = some (.k (.er (He.ga K x))) → EvD K (tCB (Ex0.rIsEr K) (tCons (tVar 0) (tCons (tC (.ref (He.ga K y))) tNil))) ρ (.bl (y == x)) := fun ρ y z hm h => ev_cb (ea_cons (ev_var h) (ea_cons ev_adr ea_nil)) (rc_isEr k.exc (k.at hm))
  have pr : ∀ (ρ : Rho) (y z : Str) (hm : (y, z) ∈ classes7), ρ[0]? = some (.k (.er (He.ga K x))) → EvD K (tTup (tCons (tC (.str z)) (tCons (tCB (Ex0.rIsEr K) (tCons (tVar 0) (tCons (tC (.ref (He.ga K y))) tNil))) tNil))) ρ (wordD x (y, z)) := fun ρ y z hm h => ev_tup (ea_cons ev_str (ea_cons (isx ρ y z hm h) ea_nil)) (Nat.le_of_ble_eq_true rfl)
  refine T.seq (ρ1 := [.k (.er (He.ga K x)), .o ((classes7.take 2).map (wordD x)), .u, .u, .u]) (T.asgF (ev_lst (ea_cons (pr _ _ _ (by decide) rfl) (ea_cons (pr _ _ _ (by decide) rfl) ea_nil)) (Nat.le_of_ble_eq_true rfl)) rfl) ?_
  refine T.freeze (i := 1) rfl ?_
  refine T.seq (ρ1 := [.k (.er (He.ga K x)), .o ((classes7.take 4).map (wordD x)), .u, .u, .u]) (T.asgF (EvF.to (ev_opF (ev_var rfl) (EvF.data (ev_lst (ea_cons (pr _ _ _ (by decide) rfl) (ea_cons (pr _ _ _ (by decide) rfl) ea_nil)) (Nat.le_of_ble_eq_true rfl))) (rvF_plus (Nat.le_of_ble_eq_true rfl))) rfl) rfl) ?_
  refine T.freeze (i := 1) rfl ?_
  refine T.seq (ρ1 := [.k (.er (He.ga K x)), .o ((classes7.take 6).map (wordD x)), .u, .u, .u]) (T.asgF (EvF.to (ev_opF (ev_var rfl) (EvF.data (ev_lst (ea_cons (pr _ _ _ (by decide) rfl) (ea_cons (pr _ _ _ (by decide) rfl) ea_nil)) (Nat.le_of_ble_eq_true rfl))) (rvF_plus (Nat.le_of_ble_eq_true rfl))) rfl) rfl) ?_
  refine T.seq (ρ1 := [.k (.er (He.ga K x)), .o (classes7.map (wordD x)), .u, .u, .u]) (T.append (i := 1) rfl (pr _ _ _ (by decide) rfl) (Nat.le_of_ble_eq_true rfl) rfl) ?_
  refine T.freeze (i := 1) rfl ?_
  refine T.seq (ρ1 := [.k (.er (He.ga K x)), .k (.lst (classes7.map (wordD x))), .o ((classes7.filter fun p => p.1 == x).map fun p => .str p.2), .u, .u])
    (T.asgF (EvF.to (evF_lc (ds := classes7.map (wordD x)) (ei_list (ev_var rfl)) (fun d => [(3, wrdD d), (4, .bl (fitD d))]) fitD wrdD (fun d hd => ?_) (fun d _ p hp => ?_) (fun d hd => ?_) (fun d hd _ => ?_) (Nat.le_of_ble_eq_true rfl)) ?_) rfl) ?_
  · obtain ⟨p, _, rfl⟩ := List.mem_map.mp hd
    exact eg_tup (egs_cons eg_name (egs_cons eg_name egs_nil)) rfl
  · rcases List.mem_cons.mp hp with rfl | hp
    · simp
    · rw [List.mem_singleton.mp hp]; simp
  · obtain ⟨p, _, rfl⟩ := List.mem_map.mp hd
    exact et_B (ev_var rfl)
  · obtain ⟨p, _, rfl⟩ := List.mem_map.mp hd
    exact ev_var rfl
  · rw [List.filter_map, List.map_map]
    rfl
  refine T.seq (ρ1 := [.k (.er (He.ga K x)), .k (.lst (classes7.map (wordD x))), .o ((classes7.filter fun p => p.1 == x).map fun p => .str p.2), .u, .u]) (T.ifS (b := !true) (et_not (et_B (ev_cb (ea_cons (ev_var rfl) (ea_cons ev_ty ea_nil)) (rc_isErT k.exc k.ve)))) (fun b => by cases b) fun _ => T.next rfl) ?_
  exact T.retO rfl rfl
end
/-! ### l_asked -/
abbrev s_l_asked : Stmt := top 63
theorem sc_l_asked : FnScope ["_law_way", "_law_count", "_law_bars", "_law_error"] ["_law_way", "_law_count", "_law_bars"] (defScope s_l_asked) := ⟨rfl, rfl, rfl, by decide +kernel, rfl, by decide +kernel, by decide +kernel⟩
abbrev spCh (K : PySem.W.Frag) : Sp := fun vs H Q E => spF K R_checked vs H Q E ∨ spY K Rx_checked vs H Q E
def cals1 (K : PySem.W.Frag) : List (Addr × Sp) := [(He.ga K "checked", spCh K), (He.ga K "crowded", spY K Rx_crowded), (He.ga K "chosen", spY K Rx_chosen), (He.ga K "worth", spY K Rx_worth)]
def cals2 (K : PySem.W.Frag) : List (Addr × Sp) := [(He.ga K "too_many", spY K Rx_too_many), (He.ga K "parts_parts", spY K Rx_parts), (He.ga K "is_stiff", spY K Rx_is_stiff), (He.ga K "steps_building", spY K Rx_steps)]
abbrev ask1 (K : PySem.W.Frag) : TE := tOp (rIx K) (tLst (tCons (tC (.ref (He.ga K "checked"))) (tCons (tC (.ref (He.ga K "crowded"))) (tCons (tC (.ref (He.ga K "chosen"))) (tCons (tC (.ref (He.ga K "worth"))) tNil))))) (tVar 0)
abbrev ask2 (K : PySem.W.Frag) : TE := tOp (rIx K) (tLst (tCons (tC (.ref (He.ga K "too_many"))) (tCons (tC (.ref (He.ga K "parts_parts"))) (tCons (tC (.ref (He.ga K "is_stiff"))) (tCons (tC (.ref (He.ga K "steps_building"))) tNil))))) (tOp (rI0 fun i j => .int (i - j)) (tVar 0) (tC (.int 4)))
abbrev askA : TA := tCons (tVar 1) (tCons (tVar 2) tNil)
def askT (K : PySem.W.Frag) (W : WX) : TS :=
  tSeq (tIfS (tTest (tOp (rI0 fun i j => .bl (decide (i < j))) (tVar 0) (tC (.int 4)))) (tRet (Gx.tCallV (cals1 K) (WE W) (ask1 K) askA)) tNext)
    (tSeq (tIfS (tTest (tOp (rI0 fun i j => .bl (decide (i < j))) (tVar 0) (tC (.int 8)))) (tRet (Gx.tCallV (cals2 K) (WE W) (ask2 K) askA)) tNext)
      (tSeq (tIfS (tTest (tOp (rEqD K) (tVar 0) (tC (.int 8)))) (tRet (tCallS (spY K Rx_knot) (WE W) (tCons (tVar 1) (tCons (tVar 2) (tCons (tC .non) tNil))))) tNext)
        (tRet (tCallS (spY K Rx_holds) (WE W) (tCons (tVar 1) (tCons (tVar 2) (tCons (tC (.int 0)) (tCons (tC (.int 0)) tNil))))))))
section
variable {K : PySem.W.Frag} {W : WX} {c d : D} {x : Str} {s : Sl} {wy : Int}
theorem ev_ask1 {ρ : Rho} {a : Addr} (h : ρ[0]? = some (.k (.int wy))) (hx : atI [D.adr (He.ga K "checked"), .adr (He.ga K "crowded"), .adr (He.ga K "chosen"), .adr (He.ga K "worth")] wy = some (.adr a)) : EvD K (ask1 K) ρ (.adr a) :=
  ev_op (EvF.data (ev_lst (ea_cons ev_adr (ea_cons ev_adr (ea_cons ev_adr (ea_cons ev_adr ea_nil)))) (Nat.le_of_ble_eq_true rfl))) (ev_var h) (rv_ixL hx)
theorem ev_ask2 {ρ : Rho} {a : Addr} (h : ρ[0]? = some (.k (.int wy))) (hx : atI [D.adr (He.ga K "too_many"), .adr (He.ga K "parts_parts"), .adr (He.ga K "is_stiff"), .adr (He.ga K "steps_building")] (wy - 4) = some (.adr a)) : EvD K (ask2 K) ρ (.adr a) :=
  ev_op (EvF.data (ev_lst (ea_cons ev_adr (ea_cons ev_adr (ea_cons ev_adr (ea_cons ev_adr ea_nil)))) (Nat.le_of_ble_eq_true rfl))) (ev_op (ev_var h) ev_int rv_sub) (rv_ixL hx)
theorem ea_ask : EvA K askA [.k (.int wy), .k c, .k d, s] [c, d] := ea_cons (ev_var rfl) (ea_cons (ev_var rfl) ea_nil)
/-- whichever is asked, it refuses -/
theorem asked_up (h0 : 0 ≤ wy) (h9 : wy < 10) (h : Rx_checked [c, d] x) : UpW K (WE W) (He.ga K x) (askT K W) [.k (.int wy), .k c, .k d, s] := by
  by_cases h4 : wy < 4
  · refine UpW.first (UpW.yes (et_test (EvD.to (ev_op (ev_var rfl) ev_int rv_lt) (congrArg D.bl (decide_eq_true h4)))) (UpW.ret ?_))
    rcases (show wy = 0 ∨ wy = 1 ∨ wy = 2 ∨ wy = 3 by omega) with rfl | rfl | rfl | rfl
    · exact upw_callV (p := (He.ga K "checked", spCh K)) (Rel := Rx_checked) (fun _ _ _ _ h => .inr h) (by simp [cals1]) (ev_ask1 rfl rfl) ea_ask h
    · exact upw_callV (p := (He.ga K "crowded", spY K Rx_crowded)) (Rel := Rx_crowded) (fun _ _ _ _ h => h) (by simp [cals1]) (ev_ask1 rfl rfl) ea_ask (.mk _ _ _ h)
    · exact upw_callV (p := (He.ga K "chosen", spY K Rx_chosen)) (Rel := Rx_chosen) (fun _ _ _ _ h => h) (by simp [cals1]) (ev_ask1 rfl rfl) ea_ask (.mk _ _ _ h)
    · exact upw_callV (p := (He.ga K "worth", spY K Rx_worth)) (Rel := Rx_worth) (fun _ _ _ _ h => h) (by simp [cals1]) (ev_ask1 rfl rfl) ea_ask (.mk _ _ _ (.mk _ _ _ h))
  refine UpW.past (et_test (EvD.to (ev_op (ev_var rfl) ev_int rv_lt) (congrArg D.bl (decide_eq_false h4)))) ?_
  by_cases h8 : wy < 8
  · refine UpW.first (UpW.yes (et_test (EvD.to (ev_op (ev_var rfl) ev_int rv_lt) (congrArg D.bl (decide_eq_true h8)))) (UpW.ret ?_))
    rcases (show wy = 4 ∨ wy = 5 ∨ wy = 6 ∨ wy = 7 by omega) with rfl | rfl | rfl | rfl
    · exact upw_callV (p := (He.ga K "too_many", spY K Rx_too_many)) (Rel := Rx_too_many) (fun _ _ _ _ h => h) (by simp [cals2]) (ev_ask2 rfl rfl) ea_ask (.mk _ _ _ h)
    · exact upw_callV (p := (He.ga K "parts_parts", spY K Rx_parts)) (Rel := Rx_parts) (fun _ _ _ _ h => h) (by simp [cals2]) (ev_ask2 rfl rfl) ea_ask (.mk _ _ _ h)
    · exact upw_callV (p := (He.ga K "is_stiff", spY K Rx_is_stiff)) (Rel := Rx_is_stiff) (fun _ _ _ _ h => h) (by simp [cals2]) (ev_ask2 rfl rfl) ea_ask (.mk _ _ _ (.mk _ _ _ (.mk _ _ _ h)))
    · exact upw_callV (p := (He.ga K "steps_building", spY K Rx_steps)) (Rel := Rx_steps) (fun _ _ _ _ h => h) (by simp [cals2]) (ev_ask2 rfl rfl) ea_ask (.mk _ _ _ h)
  refine UpW.past (et_test (EvD.to (ev_op (ev_var rfl) ev_int rv_lt) (congrArg D.bl (decide_eq_false h8)))) ?_
  by_cases h88 : wy = 8
  · exact UpW.first (UpW.yes (et_test (EvD.to (ev_op (ev_var rfl) ev_int rv_eqI) (congrArg D.bl (decide_eq_true h88)))) (UpW.ret (upw_call (Rel := Rx_knot) (fun _ _ _ _ h => h) (ea_cons (ev_var rfl) (ea_cons (ev_var rfl) (ea_cons ev_non ea_nil))) (.mk _ _ _ _ h))))
  exact UpW.past (et_test (EvD.to (ev_op (ev_var rfl) ev_int rv_eqI) (congrArg D.bl (decide_eq_false h88)))) (UpW.ret (upw_call (Rel := Rx_holds) (fun _ _ _ _ h => h) (ea_cons (ev_var rfl) (ea_cons (ev_var rfl) (ea_cons ev_int (ea_cons ev_int ea_nil)))) (.mk _ _ _ _ _ h)))
end
inductive R_l_asked : List D → List D → Prop
  | mk (c d : D) (es : List D) (h : R_checked [c, d] es) : R_l_asked [.int 0, c, d] es
inductive R2_l_asked : List D → D → Prop
  | mk (wy : Int) (c d : D) (x u : Str) (h0 : 0 ≤ wy) (h9 : wy < 10) (h : Rx_checked [c, d] x) (hu : (x, u) ∈ [(("BadCount" : Str), ("count" : Str)), ("BadBar", "bar")]) : R2_l_asked [.int wy, c, d] (.tup [.lst [.str u]])
theorem two_kinds {K : PySem.W.Frag} {x : Str} (h1 : Kind "BadCount" (kinds7 "BadCount") K) (h2 : Kind "BadBar" (kinds7 "BadBar") K) (h : x = "BadCount" ∨ x = "BadBar") : Kind x (kinds7 x) K := by
  rcases h with e | e
  · rw [e]
    exact h1
  · rw [e]
    exact h2

section
variable {P : Program} {w : World} {K : PySem.W.Frag} {mg : Str → Option Value} {base : Heap}
theorem ok_l_asked {f : Addr} {fd : FuncData} (F : FnP K "_law_asked" s_l_asked f fd) (g : mg "_law_asked" = some (.ref f)) (M : Mods K mg w) (X_holds : Cal P w K mg base (L2N.CX P w) 5 "holds" ["count", "bars", "one", "other"] (spY K Rx_holds)) (X_knot_knots : Cal P w K mg base (L2N.CX P w) 5 "knot_knots" ["count", "bars", "number"] (spY K Rx_knot)) (E_l_kind : ∀ base, Ex0.CalE P w K mg base 1 "_law_kind" ["_law_error"] (spF K (R_l_kind K))) (B_checked : Cal P w K mg base (L2N.CX P w) 4 "checked" ["count", "bars"] (fun vs H Q E => spF K R_checked vs H Q E ∨ (spY K Rx_checked) vs H Q E)) (X_crowded : Cal P w K mg base (L2N.CX P w) 5 "crowded" ["count", "bars"] (spY K Rx_crowded)) (X_chosen : Cal P w K mg base (L2N.CX P w) 5 "chosen" ["count", "bars"] (spY K Rx_chosen)) (X_worth : Cal P w K mg base (L2N.CX P w) 6 "worth" ["count", "bars"] (spY K Rx_worth)) (X_too_many : Cal P w K mg base (L2N.CX P w) 5 "too_many" ["count", "bars"] (spY K Rx_too_many)) (X_parts_parts : Cal P w K mg base (L2N.CX P w) 5 "parts_parts" ["count", "bars"] (spY K Rx_parts)) (X_is_stiff : Cal P w K mg base (L2N.CX P w) 7 "is_stiff" ["count", "bars"] (spY K Rx_is_stiff)) (X_steps_building : Cal P w K mg base (L2N.CX P w) 5 "steps_building" ["count", "bars"] (spY K Rx_steps)) : Cal P w K mg base CX0 8 "_law_asked" ["_law_way", "_law_count", "_law_bars"] (spF K R_l_asked) := by
  refine ⟨f, fd, F.ok sc_l_asked (spF_len fun ds d r => by cases r <;> rfl) (fun cdv A outer s H vs Q E hr h => ?_), g, F.kp, F.bindsN fun _ _ _ _ _ _ us hl => match us, hl with | [_, _, _], _ => rfl⟩
  have hu := hr.units
  refine ⟨_, PSs.nox (pss_id (pss_one (L2N.ps_try_as (i := 3) (tb := askT K)
      (ts := fun a cls d => tRet (tTup (tCons (fun σ H Q => ∃ x : Str, (x = "BadCount" ∨ x = "BadBar") ∧ Ex0.tAsk (spF K (R_l_kind K)) a (He.ga K x) cls d (tCons (tVar 3) tNil) σ H Q) tNil))) (Wout := fun _ _ _ _ => False) rfl rfl sc_l_asked.nd rfl rfl ⟨rfl, by decide, .inl M.g_FrameError⟩ takes0N
      (fun W pn xe tk _ => (pss_cons (ps_if (pt_cmpR op_lt (pv 0) pe_int (nomark _)) (pss_one (ps_ret (Gx.pe_callV (L := cals1 K) (all4 (calV_of B_checked (by decide) M.v_checked) (calV_of X_crowded (by decide) M.v_crowded) (calV_of X_chosen (by decide) M.v_chosen) (calV_of X_worth (by decide) M.v_worth)) hr (fun σ => L2N.passAt tk σ) (pe_ix (ok_ix (K := K) rfl) (pe_lst (pa_cons (pe_glob (v := .ref (He.ga K "checked")) rfl M.v_checked rfl) (pa_cons (pe_glob (v := .ref (He.ga K "crowded")) rfl M.v_crowded rfl) (pa_cons (pe_glob (v := .ref (He.ga K "chosen")) rfl M.v_chosen rfl) (pa_cons (pe_glob (v := .ref (He.ga K "worth")) rfl M.v_worth rfl) pa_nil))))) (pv 0) (fun _ _ => rfl)) (pa_cons (pv 1) (pa_cons (pv 2) pa_nil))))) pss_nil)
        (pss_cons (ps_if (pt_cmpR op_lt (pv 0) pe_int (nomark _)) (pss_one (ps_ret (Gx.pe_callV (L := cals2 K) (all4 (calV_of X_too_many (by decide) M.v_too_many) (calV_of X_parts_parts (by decide) M.v_parts_parts) (calV_of X_is_stiff (by decide) M.v_is_stiff) (calV_of X_steps_building (by decide) M.v_steps_building)) hr (fun σ => L2N.passAt tk σ) (pe_ix (ok_ix (K := K) rfl) (pe_lst (pa_cons (pe_glob (v := .ref (He.ga K "too_many")) rfl M.v_too_many rfl) (pa_cons (pe_glob (v := .ref (He.ga K "parts_parts")) rfl M.v_parts_parts rfl) (pa_cons (pe_glob (v := .ref (He.ga K "is_stiff")) rfl M.v_is_stiff rfl) (pa_cons (pe_glob (v := .ref (He.ga K "steps_building")) rfl M.v_steps_building rfl) pa_nil))))) (pe_op op_sub (pv 0) pe_int) (fun _ _ => rfl)) (pa_cons (pv 1) (pa_cons (pv 2) pa_nil))))) pss_nil)
        (pss_cons (ps_if (pt_cmpR (ok_eq (K := K) rfl hu) (pv 0) pe_int (nomark _)) (pss_one (ps_ret (pe_calS X_knot_knots hr (by decide) (fun σ => L2N.passAt tk σ) (pa_cons (pv 1) (pa_cons (pv 2) (pa_cons pe_non pa_nil)))))) pss_nil)
        (pss_one (ps_ret (pe_calS X_holds hr (by decide) (fun σ => L2N.passAt tk σ) (pa_cons (pv 1) (pa_cons (pv 2) (pa_cons pe_int (pa_cons pe_int pa_nil)))))))))))
      (fun a oe cls d pn hz hf => pss_one (ps_ret (pe_tup (pa_cons (pe_any fun x hx => Ex0.pe_ask E_l_kind hz hf (two_kinds M.q_BadCount M.q_BadBar hx).no hr (by decide) (pa_cons (pv 3) pa_nil)) pa_nil))))))), ?_⟩
  refine T.finF (K := K) h fun ds d rel => ?_
  cases rel with | mk c d es h =>
  have hT : ∀ W : WX, T K (askT K W) [.k (.int 0), .k c, .k d, .u] (.own _) := fun W =>
    T.guard (b := decide ((0 : Int) < 4)) (et_test (ev_op (ev_var rfl) ev_int rv_lt)) (fun _ => T.retF (evF_callV (p := (He.ga K "checked", spCh K)) (R := R_checked) (fun _ _ _ _ h => .inl h) (by simp [cals1]) (ev_ask1 rfl rfl) ea_ask h) rfl) (fun z => by simp at z)
  exact fun S0 H0 S H σ Dd st acc => hT _ S0 H0 S H σ Dd st acc
theorem ok2_l_asked {f : Addr} {fd : FuncData} (F : FnP K "_law_asked" s_l_asked f fd) (g : mg "_law_asked" = some (.ref f)) (M : Mods K mg w) (X_holds : Cal P w K mg base (L2N.CX P w) 5 "holds" ["count", "bars", "one", "other"] (spY K Rx_holds)) (X_knot_knots : Cal P w K mg base (L2N.CX P w) 5 "knot_knots" ["count", "bars", "number"] (spY K Rx_knot)) (E_l_kind : ∀ base, Ex0.CalE P w K mg base 1 "_law_kind" ["_law_error"] (spF K (R_l_kind K))) (B_checked : Cal P w K mg base (L2N.CX P w) 4 "checked" ["count", "bars"] (fun vs H Q E => spF K R_checked vs H Q E ∨ (spY K Rx_checked) vs H Q E)) (X_crowded : Cal P w K mg base (L2N.CX P w) 5 "crowded" ["count", "bars"] (spY K Rx_crowded)) (X_chosen : Cal P w K mg base (L2N.CX P w) 5 "chosen" ["count", "bars"] (spY K Rx_chosen)) (X_worth : Cal P w K mg base (L2N.CX P w) 6 "worth" ["count", "bars"] (spY K Rx_worth)) (X_too_many : Cal P w K mg base (L2N.CX P w) 5 "too_many" ["count", "bars"] (spY K Rx_too_many)) (X_parts_parts : Cal P w K mg base (L2N.CX P w) 5 "parts_parts" ["count", "bars"] (spY K Rx_parts)) (X_is_stiff : Cal P w K mg base (L2N.CX P w) 7 "is_stiff" ["count", "bars"] (spY K Rx_is_stiff)) (X_steps_building : Cal P w K mg base (L2N.CX P w) 5 "steps_building" ["count", "bars"] (spY K Rx_steps)) : Cal P w K mg base CX0 8 "_law_asked" ["_law_way", "_law_count", "_law_bars"] (spD K R2_l_asked) := by
  refine ⟨f, fd, F.ok sc_l_asked (spD_len fun ds d r => by cases r <;> rfl) (fun cdv A outer s H vs Q E hr h => ?_), g, F.kp, F.bindsN fun _ _ _ _ _ _ us hl => match us, hl with | [_, _, _], _ => rfl⟩
  have hu := hr.units
  refine ⟨_, PSs.nox (pss_id (pss_one (L2N.ps_try_as (i := 3) (tb := askT K)
      (ts := fun a cls d => tRet (tTup (tCons (fun σ H Q => ∃ x : Str, (x = "BadCount" ∨ x = "BadBar") ∧ Ex0.tAsk (spF K (R_l_kind K)) a (He.ga K x) cls d (tCons (tVar 3) tNil) σ H Q) tNil))) (Wout := fun _ _ _ _ => False) rfl rfl sc_l_asked.nd rfl rfl ⟨rfl, by decide, .inl M.g_FrameError⟩ takes0N
      (fun W pn xe tk _ => (pss_cons (ps_if (pt_cmpR op_lt (pv 0) pe_int (nomark _)) (pss_one (ps_ret (Gx.pe_callV (L := cals1 K) (all4 (calV_of B_checked (by decide) M.v_checked) (calV_of X_crowded (by decide) M.v_crowded) (calV_of X_chosen (by decide) M.v_chosen) (calV_of X_worth (by decide) M.v_worth)) hr (fun σ => L2N.passAt tk σ) (pe_ix (ok_ix (K := K) rfl) (pe_lst (pa_cons (pe_glob (v := .ref (He.ga K "checked")) rfl M.v_checked rfl) (pa_cons (pe_glob (v := .ref (He.ga K "crowded")) rfl M.v_crowded rfl) (pa_cons (pe_glob (v := .ref (He.ga K "chosen")) rfl M.v_chosen rfl) (pa_cons (pe_glob (v := .ref (He.ga K "worth")) rfl M.v_worth rfl) pa_nil))))) (pv 0) (fun _ _ => rfl)) (pa_cons (pv 1) (pa_cons (pv 2) pa_nil))))) pss_nil)
        (pss_cons (ps_if (pt_cmpR op_lt (pv 0) pe_int (nomark _)) (pss_one (ps_ret (Gx.pe_callV (L := cals2 K) (all4 (calV_of X_too_many (by decide) M.v_too_many) (calV_of X_parts_parts (by decide) M.v_parts_parts) (calV_of X_is_stiff (by decide) M.v_is_stiff) (calV_of X_steps_building (by decide) M.v_steps_building)) hr (fun σ => L2N.passAt tk σ) (pe_ix (ok_ix (K := K) rfl) (pe_lst (pa_cons (pe_glob (v := .ref (He.ga K "too_many")) rfl M.v_too_many rfl) (pa_cons (pe_glob (v := .ref (He.ga K "parts_parts")) rfl M.v_parts_parts rfl) (pa_cons (pe_glob (v := .ref (He.ga K "is_stiff")) rfl M.v_is_stiff rfl) (pa_cons (pe_glob (v := .ref (He.ga K "steps_building")) rfl M.v_steps_building rfl) pa_nil))))) (pe_op op_sub (pv 0) pe_int) (fun _ _ => rfl)) (pa_cons (pv 1) (pa_cons (pv 2) pa_nil))))) pss_nil)
        (pss_cons (ps_if (pt_cmpR (ok_eq (K := K) rfl hu) (pv 0) pe_int (nomark _)) (pss_one (ps_ret (pe_calS X_knot_knots hr (by decide) (fun σ => L2N.passAt tk σ) (pa_cons (pv 1) (pa_cons (pv 2) (pa_cons pe_non pa_nil)))))) pss_nil)
        (pss_one (ps_ret (pe_calS X_holds hr (by decide) (fun σ => L2N.passAt tk σ) (pa_cons (pv 1) (pa_cons (pv 2) (pa_cons pe_int (pa_cons pe_int pa_nil)))))))))))
      (fun a oe cls d pn hz hf => pss_one (ps_ret (pe_tup (pa_cons (pe_any fun x hx => Ex0.pe_ask E_l_kind hz hf (two_kinds M.q_BadCount M.q_BadBar hx).no hr (by decide) (pa_cons (pv 3) pa_nil)) pa_nil))))))), ?_⟩
  refine T.fin (K := K) h fun ds d rel => ?_
  cases rel with | mk wy c d x u h0 h9 h hu =>
  have hx2 : x = "BadCount" ∨ x = "BadBar" := by
    rcases List.mem_cons.mp hu with e | hu
    · exact .inl (congrArg Prod.fst e)
    · exact .inr (congrArg Prod.fst (List.mem_singleton.mp hu))
  have hn : PySem.W.exmOne K (.ref (He.ga K x)) (.ref (He.ga K "FrameError")) = some true := by
    rcases hx2 with e | e
    · rw [e]
      exact M.n_BadCount
    · rw [e]
      exact M.n_BadBar
  have hk : R_l_kind K [.er (He.ga K x)] ([u].map D.str) := by
    have q := R_l_kind.mk x (two_kinds M.q_BadCount M.q_BadBar hx2)
    rcases List.mem_cons.mp hu with e | hu
    · obtain ⟨e1, e2⟩ := Prod.mk.inj e
      rw [e1] at q ⊢
      rw [e2]
      exact q
    · obtain ⟨e1, e2⟩ := Prod.mk.inj (List.mem_singleton.mp hu)
      rw [e1] at q ⊢
      rw [e2]
      exact q
  intro S0 H0 S H σ Dd st acc
  refine asked_up h0 h9 h S0 H0 S H σ Dd st fun S2 H2 x2 => ⟨true, hn, fun _ e na => ?_, fun z => by cases z⟩
  refine suite_tup (σ := σ.set 3 (some (V.ref e))) (Dd := { nx := fun σ' H' => Dd.nx (σ'.set 3 none) H', rt := Dd.rt, bk := fun σ' H' => Dd.bk (σ'.set 3 none) H', ct := fun σ' H' => Dd.ct (σ'.set 3 none) H' }) (ts := fun σ H Q => ∃ y : Str, (y = "BadCount" ∨ y = "BadBar") ∧ Ex0.tAsk (spF K (R_l_kind K)) e (He.ga K y) (.ref (He.ga K x)) none (tCons (tVar 3) tNil) σ H Q) (fun Q z => ⟨x, hx2, z⟩) hk x2 ?_ na ?_
  · rw [List.getElem?_set_self]
    rw [st.env.len]
    exact Nat.le_of_ble_eq_true rfl
  · exact fun v S' H' xx r => acc.rt _ v S' H' rfl xx r
end
/-! ### Frame___init__ -/
abbrev s_Frame___init__ : Stmt := mth 57 0
theorem sc_Frame___init__ : FnScope ["self", "count"] ["self", "count"] (defScope s_Frame___init__) := ⟨rfl, rfl, rfl, by decide +kernel, rfl, by decide +kernel, by decide +kernel⟩
inductive Rx_Frame___init__ : List D → Str → Prop
  | mk (a c : D) (x : Str) (h : Rx_check_count [c] x) : Rx_Frame___init__ [a, c] x

section
variable {P : Program} {w : World} {K : PySem.W.Frag} {mg : Str → Option Value} {base : Heap}
theorem fkx_Frame___init__ {f : Addr} {fd : FuncData} (F : FnM K "__init__" "Frame.__init__" s_Frame___init__ f fd) (M : Mods K mg w) (X_check_count : Cal P w K mg base (L2N.CX P w) 2 "check_count" ["count"] (spY K Rx_check_count)) : FnOk P w K mg base (L2N.CX P w) 3 f fd ["self", "count"] (spY K Rx_Frame___init__) := by
  refine F.ok sc_Frame___init__ (spY_len fun ds x r => by cases r <;> rfl) (fun cdv A outer s H vs Q E hr h => ?_)
  have hu := hr.units
  refine ⟨_, (pss_cons (ps_expr (pe_cal X_check_count hr (by decide) (L2N.passes_call (L2N.takes_of rfl rfl rfl rfl) (fun _ _ _ _ h => h)) (pa_cons (pv 1) pa_nil)))
      pss_nv), ?_⟩
  refine Up.finY (K := K) h fun ds x rel => ?_
  cases rel with | mk a c _ h =>
  exact Up.first (Up.dropX (upx_call (fun _ _ _ _ h => h) (ea_cons (ev_var rfl) ea_nil) h))
theorem okx_Frame___init__ {f : Addr} {fd : FuncData} (F : FnM K "__init__" "Frame.__init__" s_Frame___init__ f fd) (g : Mk K (He.ga K "Frame") f) (M : Mods K mg w) (X_check_count : Cal P w K mg base (L2N.CX P w) 2 "check_count" ["count"] (spY K Rx_check_count)) : Ms.MakP P w K mg base (L2N.CX P w) 3 "Frame" (He.ga K "Frame") ["self", "count"] (spY K Rx_Frame___init__) := ⟨f, fd, fkx_Frame___init__ F M X_check_count, g, M.h_Frame, F.bindsN fun _ _ _ _ _ _ us hl => match us, hl with | [_, _], _ => rfl⟩
end
/-! ### l_made -/
abbrev s_l_made : Stmt := top 64
theorem sc_l_made : FnScope ["_law_way", "_law_count", "_law_error"] ["_law_way", "_law_count"] (defScope s_l_made) := ⟨rfl, rfl, rfl, by decide +kernel, rfl, by decide +kernel, by decide +kernel⟩
inductive R_l_made : List D → D → Prop
  | mk (w : Int) (c : D) (h : Rx_check_count [c] "BadCount") : R_l_made [.int w, c] (.lst [.str "count"])
def madeT (K : PySem.W.Frag) (W : WX) : TS := tIfS (tTest (tOp (rEqD K) (tVar 0) (tC (.int 0)))) (tDrop (Gx.tMakeS (He.ga K "Frame") (spY K Rx_Frame___init__) (WE W) (tCons (tVar 1) tNil))) (tDrop (tCallS (spY K Rx_built) (WE W) (tCons (tVar 1) (tCons (tC .non) tNil))))
theorem made_up {K : PySem.W.Frag} {W : WX} {wy : Int} {c : D} {s : Sl} (h : Rx_check_count [c] "BadCount") : UpW K (WE W) (He.ga K "BadCount") (madeT K W) [.k (.int wy), .k c, s] := by
  by_cases hw : wy = 0
  · exact UpW.yes (et_test (EvD.to (ev_op (ev_var rfl) ev_int rv_eqI) (congrArg D.bl (decide_eq_true hw)))) (UpW.drop (upw_make (Rel := Rx_Frame___init__) (x := "BadCount") (fun _ _ _ _ h => h) (ea_cons (ev_var rfl) ea_nil) fun a => .mk _ _ _ h))
  · exact UpW.no (et_test (EvD.to (ev_op (ev_var rfl) ev_int rv_eqI) (congrArg D.bl (decide_eq_false hw)))) (UpW.drop (upw_call (Rel := Rx_built) (x := "BadCount") (fun _ _ _ _ h => h) (ea_cons (ev_var rfl) (ea_cons ev_non ea_nil)) (.mk _ _ _ h)))

section
variable {P : Program} {w : World} {K : PySem.W.Frag} {mg : Str → Option Value} {base : Heap}
theorem ok_l_made {f : Addr} {fd : FuncData} (F : FnP K "_law_made" s_l_made f fd) (g : mg "_law_made" = some (.ref f)) (M : Mods K mg w) (X_Frame___init__ : Ms.MakP P w K mg base (L2N.CX P w) 3 "Frame" (He.ga K "Frame") ["self", "count"] (spY K Rx_Frame___init__)) (X_built : Cal P w K mg base (L2N.CX P w) 3 "built" ["count", "steps"] (spY K Rx_built)) (E_l_kind : ∀ base, Ex0.CalE P w K mg base 1 "_law_kind" ["_law_error"] (spF K (R_l_kind K))) : Cal P w K mg base CX0 5 "_law_made" ["_law_way", "_law_count"] (spD K R_l_made) := by
  refine ⟨f, fd, F.ok sc_l_made (spD_len fun ds d r => by cases r <;> rfl) (fun cdv A outer s H vs Q E hr h => ?_), g, F.kp, F.bindsN fun _ _ _ _ _ _ us hl => match us, hl with | [_, _], _ => rfl⟩
  have hu := hr.units
  refine ⟨_, PSs.nox (pss_cons (L2N.ps_try_as (i := 2) (tb := madeT K) (ts := fun a cls d => tRet (Ex0.tAsk (spF K (R_l_kind K)) a (He.ga K "BadCount") cls d (tCons (tVar 2) tNil))) (Wout := fun _ _ _ _ => False) rfl rfl sc_l_made.nd rfl rfl ⟨rfl, by decide, .inl M.g_FrameError⟩ takes0N
      (fun W pn xe tk _ => pss_one (ps_if (pt_cmpR (ok_eq (K := K) rfl hu) (pv 0) pe_int (nomark _)) (pss_one (ps_expr (Gx.pe_makS X_Frame___init__ hr (by decide) rfl (fun σ => L2N.passAt tk σ) (pa_cons (pv 1) pa_nil)))) (pss_one (ps_expr (pe_calS X_built hr (by decide) (fun σ => L2N.passAt tk σ) (pa_cons (pv 1) (pa_cons pe_non pa_nil)))))))
      (fun a oe cls d pn hz hf => pss_one (ps_ret (Ex0.pe_ask E_l_kind hz hf M.q_BadCount.no hr (by decide) (pa_cons (pv 2) pa_nil)))))
      (pss_one (ps_ret (pe_lst (pa_cons pe_str pa_nil))))), ?_⟩
  refine T.fin (K := K) h fun ds d rel => ?_
  cases rel with | mk wy c h =>
  have hk : R_l_kind K [.er (He.ga K "BadCount")] ([("count" : Str)].map D.str) := R_l_kind.mk "BadCount" M.q_BadCount
  intro S0 H0 S H σ Dd st acc
  refine (UpW.first (made_up h)) S0 H0 S H σ Dd st fun S2 H2 x2 => ⟨true, M.n_BadCount, fun _ e na => ?_, fun z => by cases z⟩
  exact suite_lst hk x2 (by rw [List.getElem?_set_self]; rw [st.env.len]; exact Nat.le_of_ble_eq_true rfl) na fun v S' H' x r => acc.rt _ v S' H' rfl x r
end
/-! ### l_bad_bar -/
abbrev s_l_bad_bar : Stmt := top 65
theorem sc_l_bad_bar : FnScope ["_law_cell", "_law_count", "_law_far", "_law_some"] ["_law_cell", "_law_count"] (defScope s_l_bad_bar) := ⟨rfl, rfl, rfl, by decide +kernel, rfl, by decide +kernel, by decide +kernel⟩
/-- eighteen things that are no bar of a frame with so many joints -/
def weird (n : Nat) (far : Int) : List D :=
  [.tup [.int 0, .int 0], .tup [.int (-1), .int 1], .tup [.int 0, .int (n : Int)], .tup [.int 0, .int 1, .int 1], .lst [.int 0, .int 1], .tup [.int 0], .tup [.bl true, .int 0], .tup [.bl false, .int 1], .tup [.int 0, .str "1"], .non, .tup [.int 0, .non],
    .str "01", .tup [.dc [] [], .int 1], .tup [.lst [.int 0], .int 1], .tup [.int ((n : Int) + far), .int 0], .tup [.int 1, .int (-1 - far)], .tup [], .int 7]
def weirdAt (n : Nat) (c : Int) : D := (weird n (c / 18 % 10 ^ 9)).getD (c % 18).toNat .non
inductive R_l_bad_bar : List D → D → Prop
  | mk (c : Int) (n : Nat) : R_l_bad_bar [.int c, .int (n : Int)] (weirdAt n c)
theorem weirdAt_mem (n : Nat) (c : Int) : weirdAt n c ∈ weird n (c / 18 % 10 ^ 9) := by
  have h1 := Int.emod_nonneg c (show (18 : Int) ≠ 0 by decide)
  have h2 := Int.emod_lt_of_pos c (show (0 : Int) < 18 by decide)
  have hl : (c % 18).toNat < (weird n (c / 18 % 10 ^ 9)).length := by
    show (c % 18).toNat < 18
    omega
  unfold weirdAt
  rw [List.getD, List.getElem?_eq_getElem hl]
  exact List.getElem_mem hl
theorem weird_bad {n : Nat} {far : Int} (hf : 0 ≤ far) {d : D} (h : d ∈ weird n far) : R_is_bar [.int (n : Int), d] (.bl false) ∧ d.eqd 2 = true := by
  have out : ∀ j : Int, (j < 0 ∨ (n : Int) ≤ j) → JD (n : Int) (.int j) false := fun j hj => by
    have z := JD.int (c := (n : Int)) j
    have e : (decide (0 ≤ j) && decide (j < (n : Int))) = false := by
      rw [Bool.and_eq_false_iff, decide_eq_false_iff_not, decide_eq_false_iff_not]
      omega
    rwa [e] at z
  have jd : ∀ j : Int, JD (n : Int) (.int j) (decide (0 ≤ j) && decide (j < (n : Int))) := fun j => .int j
  unfold weird at h
  simp only [List.mem_cons, List.not_mem_nil, or_false] at h
  rcases h with rfl | rfl | rfl | rfl | rfl | rfl | rfl | rfl | rfl | rfl | rfl | rfl | rfl | rfl | rfl | rfl | rfl | rfl
  · exact ⟨.bad _ _ _ _ _ (jd 0) (jd 0) (.inr ⟨0, rfl, rfl⟩), rfl⟩
  · exact ⟨.bad _ _ _ _ _ (out (-1) (by omega)) (jd 1) (.inl (by simp)), rfl⟩
  · exact ⟨.bad _ _ _ _ _ (jd 0) (out (n : Int) (by omega)) (.inl (by simp)), rfl⟩
  · exact ⟨.len _ _ (by decide), rfl⟩
  · exact ⟨.noTup _ _ (.inr (.inr (.inr rfl))), rfl⟩
  · exact ⟨.len _ _ (by decide), rfl⟩
  · exact ⟨.bad _ _ _ _ _ (.no dull_bl) (jd 0) (.inl rfl), rfl⟩
  · exact ⟨.bad _ _ _ _ _ (.no dull_bl) (jd 1) (.inl rfl), rfl⟩
  · exact ⟨.bad _ _ _ _ _ (jd 0) (.no dull_str) (.inl (by simp)), rfl⟩
  · exact ⟨.noTup _ _ (.inl rfl), rfl⟩
  · exact ⟨.bad _ _ _ _ _ (jd 0) (.no dull_non) (.inl (by simp)), rfl⟩
  · exact ⟨.noTup _ _ (.inr (.inl rfl)), rfl⟩
  · exact ⟨.bad _ _ _ _ _ (.no dull_dc) (jd 1) (.inl rfl), rfl⟩
  · exact ⟨.bad _ _ _ _ _ (.no dull_lst) (jd 1) (.inl rfl), rfl⟩
  · exact ⟨.bad _ _ _ _ _ (out _ (by omega)) (jd 0) (.inl rfl), rfl⟩
  · exact ⟨.bad _ _ _ _ _ (jd 1) (out _ (by omega)) (.inl (by simp)), rfl⟩
  · exact ⟨.len _ _ (by decide), rfl⟩
  · exact ⟨.noTup _ _ (.inr (.inr (.inl rfl))), rfl⟩

section
variable {P : Program} {w : World} {K : PySem.W.Frag} {mg : Str → Option Value} {base : Heap}
theorem ok_l_bad_bar {f : Addr} {fd : FuncData} (F : FnP K "_law_bad_bar" s_l_bad_bar f fd) (g : mg "_law_bad_bar" = some (.ref f)) (M : Mods K mg w)  : Cal P w K mg base CX0 1 "_law_bad_bar" ["_law_cell", "_law_count"] (spD K R_l_bad_bar) := by
  refine ⟨f, fd, F.ok sc_l_bad_bar (spD_len fun ds d r => by cases r <;> rfl) (fun cdv A outer s H vs Q E hr h => ?_), g, F.kp, F.bindsN fun _ _ _ _ _ _ us hl => match us, hl with | [_, _], _ => rfl⟩
  have hu := hr.units
  refine ⟨_, PSs.nox (pss_cons (ps_set (i := 2) sc_l_bad_bar.nd rfl (Or.inl rfl) (pe_op op_modN (pe_op op_fdivN (pv 0) pe_int) (pe_op op_pow pe_int pe_int)))
      (pss_cons (ps_set (i := 3) sc_l_bad_bar.nd rfl (Or.inl rfl) (pe_lst (pa_cons (pe_tup (pa_cons pe_int (pa_cons pe_int pa_nil))) (pa_cons (pe_tup (pa_cons (pe_un un_neg pe_int) (pa_cons pe_int pa_nil))) (pa_cons (pe_tup (pa_cons pe_int (pa_cons (pv 1) pa_nil))) (pa_cons (pe_tup (pa_cons pe_int (pa_cons pe_int (pa_cons pe_int pa_nil)))) (pa_cons (pe_lst (pa_cons pe_int (pa_cons pe_int pa_nil))) (pa_cons (pe_tup (pa_cons pe_int pa_nil)) (pa_cons (pe_tup (pa_cons pe_bl (pa_cons pe_int pa_nil))) (pa_cons (pe_tup (pa_cons pe_bl (pa_cons pe_int pa_nil))) (pa_cons (pe_tup (pa_cons pe_int (pa_cons pe_str pa_nil))) (pa_cons pe_non (pa_cons (pe_tup (pa_cons pe_int (pa_cons pe_non pa_nil))) pa_nil)))))))))))))
      (pss_cons (ps_set (i := 3) sc_l_bad_bar.nd rfl (Or.inl rfl) (pe_op (ok_plus (K := K) rfl) (pv 3) (pe_lst (pa_cons pe_str (pa_cons (pe_tup (pa_cons pe_dnewK (pa_cons pe_int pa_nil))) (pa_cons (pe_tup (pa_cons (pe_lst (pa_cons pe_int pa_nil)) (pa_cons pe_int pa_nil))) (pa_cons (pe_tup (pa_cons (pe_op (ok_plus (K := K) rfl) (pv 1) (pv 2)) (pa_cons pe_int pa_nil))) (pa_cons (pe_tup (pa_cons pe_int (pa_cons (pe_op op_sub (pe_un un_neg pe_int) (pv 2)) pa_nil))) (pa_cons (pe_tup pa_nil) (pa_cons pe_int pa_nil))))))))))
      (pss_one (ps_ret (pe_ix (ok_ix (K := K) rfl) (pv 3) (pe_op op_modN (pv 0) pe_int) (fun _ _ => rfl))))))), ?_⟩
  refine T.fin (K := K) h fun ds d rel => ?_
  cases rel with | mk c n =>
  have p9 : ((10 : Int) ^ (9 : Int).toNat) = 10 ^ 9 := rfl
  refine T.seq (ρ1 := [.k (.int c), .k (.int (n : Int)), .k (.int (c / 18 % 10 ^ 9)), .u]) (T.asg (ev_op (ev_op (ev_var rfl) ev_int (rv_div ⟨by decide, by decide⟩ (by decide))) (EvD.to (ev_op ev_int ev_int (rv_pow (i := 10) (j := 9) ⟨by decide, by decide, by decide⟩)) (by rw [p9])) (rv_mod (by decide) (by decide))) rfl) ?_
  refine T.seq (ρ1 := [.k (.int c), .k (.int (n : Int)), .k (.int (c / 18 % 10 ^ 9)), .k (.lst ((weird n (c / 18 % 10 ^ 9)).take 11))]) (T.asg (EvF.data (ev_lst (ds := (weird n (c / 18 % 10 ^ 9)).take 11)
    (ea_cons (ev_tup (ea_cons ev_int (ea_cons ev_int ea_nil)) (Nat.le_of_ble_eq_true rfl)) (ea_cons (ev_tup (ea_cons (ev_neg ev_int) (ea_cons ev_int ea_nil)) (Nat.le_of_ble_eq_true rfl)) (ea_cons (ev_tup (ea_cons ev_int (ea_cons (ev_var rfl) ea_nil)) (Nat.le_of_ble_eq_true rfl)) (ea_cons (ev_tup (ea_cons ev_int (ea_cons ev_int (ea_cons ev_int ea_nil))) (Nat.le_of_ble_eq_true rfl))
      (ea_cons (EvF.data (ev_lst (ea_cons ev_int (ea_cons ev_int ea_nil)) (Nat.le_of_ble_eq_true rfl))) (ea_cons (ev_tup (ea_cons ev_int ea_nil) (Nat.le_of_ble_eq_true rfl)) (ea_cons (ev_tup (ea_cons ev_bl (ea_cons ev_int ea_nil)) (Nat.le_of_ble_eq_true rfl)) (ea_cons (ev_tup (ea_cons ev_bl (ea_cons ev_int ea_nil)) (Nat.le_of_ble_eq_true rfl))
        (ea_cons (ev_tup (ea_cons ev_int (ea_cons ev_str ea_nil)) (Nat.le_of_ble_eq_true rfl)) (ea_cons ev_non (ea_cons (ev_tup (ea_cons ev_int (ea_cons ev_non ea_nil)) (Nat.le_of_ble_eq_true rfl)) ea_nil))))))))))) (Nat.le_of_ble_eq_true rfl))) rfl) ?_
  refine T.seq (ρ1 := [.k (.int c), .k (.int (n : Int)), .k (.int (c / 18 % 10 ^ 9)), .k (.lst (weird n (c / 18 % 10 ^ 9)))]) (T.asg (EvF.data (EvF.to (ev_opF (y := .lst ((weird n (c / 18 % 10 ^ 9)).drop 11)) (ev_var rfl) (EvF.data (ev_lst (ds := (weird n (c / 18 % 10 ^ 9)).drop 11)
    (ea_cons ev_str (ea_cons (ev_tup (ea_cons ev_dnew (ea_cons ev_int ea_nil)) (Nat.le_of_ble_eq_true rfl)) (ea_cons (ev_tup (ea_cons (EvF.data (ev_lst (ea_cons ev_int ea_nil) (Nat.le_of_ble_eq_true rfl))) (ea_cons ev_int ea_nil)) (Nat.le_of_ble_eq_true rfl)) (ea_cons (ev_tup (ea_cons (ev_op (ev_var rfl) (ev_var rfl) rv_plusI) (ea_cons ev_int ea_nil)) (Nat.le_of_ble_eq_true rfl))
      (ea_cons (ev_tup (ea_cons ev_int (ea_cons (ev_op (ev_neg ev_int) (ev_var rfl) rv_sub) ea_nil)) (Nat.le_of_ble_eq_true rfl)) (ea_cons (ev_tup ea_nil (Nat.le_of_ble_eq_true rfl)) (ea_cons ev_int ea_nil))))))) (Nat.le_of_ble_eq_true rfl))) (rvF_plus (Nat.le_of_ble_eq_true rfl))) rfl)) rfl) ?_
  have h1 := Int.emod_nonneg c (show (18 : Int) ≠ 0 by decide)
  have h2 := Int.emod_lt_of_pos c (show (0 : Int) < 18 by decide)
  have hl : (c % 18).toNat < (weird n (c / 18 % 10 ^ 9)).length := by
    show (c % 18).toNat < 18
    omega
  refine T.ret (d := weirdAt n c) (ev_op (ev_var rfl) (ev_op (ev_var rfl) ev_int (rv_mod (by decide) (by decide))) (rv_ixL (atI_int h1 ?_))) rfl
  unfold weirdAt
  rw [List.getD, List.getElem?_eq_getElem hl]
  rfl
end
/-! ### law -/
abbrev s_law : Stmt := top 66
theorem sc_law : FnScope ["_law_script", "_law_count", "_law_many", "_law_bars", "_law_due", "_law_cell", "_law_at", "_law_more", "_law_far", "_law_handed", "_law_way"] ["_law_script"] (defScope s_law) := ⟨rfl, rfl, rfl, by decide +kernel, rfl, by decide +kernel, by decide +kernel⟩
inductive R_law : List D → D → Prop
  | mk (ns : List Int) (h : ns.length ≤ 63) : R_law [.ro ns] (.bl true)
def dN (ns : List Int) : Nat := (2 + cell ns 0 % 15).toNat
theorem dN_eq (ns : List Int) : ((dN ns : Nat) : Int) = 2 + cell ns 0 % 15 ∧ 2 ≤ dN ns ∧ dN ns ≤ 16 := by
  unfold dN
  have := Int.emod_nonneg (cell ns 0) (show (15 : Int) ≠ 0 by decide)
  have := Int.emod_lt_of_pos (cell ns 0) (show (0 : Int) < 15 by decide)
  omega
theorem mod_nat (c : Int) {m : Int} (h : 0 < m) : ∃ k : Nat, c % m = (k : Int) ∧ (k : Int) < m := by
  have a1 := Int.emod_nonneg c (show m ≠ 0 by omega)
  have a2 := Int.emod_lt_of_pos c h
  exact ⟨(c % m).toNat, by omega, by omega⟩
/-- bars, and what is due to them -/
inductive Cas (n : Nat) : D → List D → Prop
  | good (nb : List Fr.Bar) (ok : Fr.Ok n nb) (hl : nb.length ≤ 60) : Cas n (.lst (brs nb)) []
  | bad (d : D) (h : BadB (n : Int) d) : Cas n d [.str "bar"]
inductive Fin2 : D → D → List D → Prop
  | good (n : Nat) (nb : List Fr.Bar) (h1 : 1 ≤ n) (h2 : n ≤ 16) (ok : Fr.Ok n nb) (hl : nb.length ≤ 60) : Fin2 (.int (n : Int)) (.lst (brs nb)) []
  | bad (c d : D) (x u : Str) (h : Rx_checked [c, d] x) (hu : (x, u) ∈ [(("BadCount" : Str), ("count" : Str)), ("BadBar", "bar")]) : Fin2 c d [.str u]
/-- equal to itself; a list or none -/
def Selfd (d : D) : Prop := (∀ K : PySem.W.Frag, RV K (Gx.rEqX K) d d (.bl true)) ∧ ((∃ es, d = .lst es) ∨ d.kind = "NoneType" ∨ d.kind = "str" ∨ d.kind = "int" ∨ d.kind = "tuple" ∨ d.kind = "dict")
theorem self_lst {es : List D} (h : ∀ e ∈ es, e.eqd 3 = true) : Selfd (.lst es) := ⟨fun K => rv_eqXL h, .inl ⟨es, rfl⟩⟩
theorem brs_eqd {nb : List Fr.Bar} : ∀ e ∈ brs nb, e.eqd 3 = true := fun e he => by
  obtain ⟨b, _, rfl⟩ := brs_mem he
  rfl
theorem eqd_mono : ∀ (n : Nat) (d : D), d.eqd n = true → d.eqd (n + 1) = true := fun n => by
  induction n with
  | zero =>
    intro d h
    cases d <;> simp_all [D.eqd]
  | succ n ih =>
    intro d h
    cases d with
    | lst ds => exact List.all_eq_true.mpr fun e he => ih e (List.all_eq_true.mp h e he)
    | tup ds => exact List.all_eq_true.mpr fun e he => ih e (List.all_eq_true.mp h e he)
    | _ => simp_all [D.eqd]
theorem good_okI {n : Nat} {nb : List Fr.Bar} (ok : Fr.Ok n nb) : ∀ x ∈ nb.map bI, Good (n : Int) x := fun x hx => by
  obtain ⟨c, hc, rfl⟩ := List.mem_map.mp hx
  obtain ⟨o1, o2, o3⟩ := ok c hc
  exact ⟨by unfold bI; omega, by unfold bI; omega, by unfold bI; omega, by unfold bI; omega, by unfold bI; omega⟩
theorem R_chk {n : Nat} {nb : List Fr.Bar} (h1 : 1 ≤ n) (h2 : n ≤ 16) (ok : Fr.Ok n nb) (hl : nb.length ≤ 60) : R_checked [.int (n : Int), .lst (brs nb)] (brs nb) :=
  .good (n : Int) (nb.map bI) (by omega) (by omega) (by rw [List.length_map]; exact hl) (good_okI ok)
def sayD (u : Str) : D := .tup [.lst [.str u]]
theorem say_ok {u : Str} (h : PyData.strOk u = true) : (sayD u).okd 60 = true ∧ (D.lst [.str u]).okd 60 = true := by
  constructor
  · unfold sayD
    simp [D.okd, h]
  · simp [D.okd, h]
theorem due_ok {u : Str} {x : Str} (hu : (x, u) ∈ [(("BadCount" : Str), ("count" : Str)), ("BadBar", "bar")]) : PyData.strOk u = true := by
  rcases List.mem_cons.mp hu with e | hu
  · rw [(Prod.mk.inj e).2]
    decide +kernel
  · rw [(Prod.mk.inj (List.mem_singleton.mp hu)).2]
    decide +kernel
/-- counts that are refused -/
def badC (far : Int) : List D := [.int 0, .int 17, .int (-3), .bl true, .non, .str "4", .int far, .bl false, .lst [.int 2], .int (0 - far)]
theorem badC_bad {far : Int} (hf : 17 ≤ far) {d : D} (h : d ∈ badC far) : Rx_check_count [d] "BadCount" := by
  unfold badC at h
  simp only [List.mem_cons, List.not_mem_nil, or_false] at h
  rcases h with rfl | rfl | rfl | rfl | rfl | rfl | rfl | rfl | rfl | rfl
  · exact .out _ (by omega)
  · exact .out _ (by omega)
  · exact .out _ (by omega)
  · exact .dull _ dull_bl
  · exact .dull _ dull_non
  · exact .dull _ dull_str
  · exact .out _ (by omega)
  · exact .dull _ dull_bl
  · exact .dull _ dull_lst
  · exact .out _ (by omega)

section
variable {P : Program} {w : World} {K : PySem.W.Frag} {mg : Str → Option Value} {base : Heap}
theorem ok_law {f : Addr} {fd : FuncData} (F : FnP K "law" s_law f fd) (g : mg "law" = some (.ref f)) (M : Mods K mg w) (C_l_free : Cal P w K mg base CX0 2 "_law_free" ["_law_script", "_law_first", "_law_count", "_law_many"] (spF K R_l_free)) (C_l_cell_at : Cal P w K mg base CX0 1 "_law_cell_at" ["_law_script", "_law_k"] (spD K R_l_cell_at)) (C_l_bad_bar : Cal P w K mg base CX0 1 "_law_bad_bar" ["_law_cell", "_law_count"] (spD K R_l_bad_bar)) (C_l_asked : Cal P w K mg base CX0 8 "_law_asked" ["_law_way", "_law_count", "_law_bars"] (spF K R_l_asked)) (D_l_asked : Cal P w K mg base CX0 8 "_law_asked" ["_law_way", "_law_count", "_law_bars"] (spD K R2_l_asked)) (C_l_made : Cal P w K mg base CX0 5 "_law_made" ["_law_way", "_law_count"] (spD K R_l_made)) : FnOk P w K mg base CX0 9 f fd ["_law_script"] (spD K R_law) := by
  refine F.ok sc_law (spD_len fun ds d r => by cases r <;> rfl) (fun cdv A outer s H vs Q E hr h => ?_)
  have hu := hr.units
  refine ⟨_, PSs.nox (pss_cons (ps_set (i := 1) sc_law.nd rfl (Or.inl rfl) (pe_op (ok_plus (K := K) rfl) pe_int (pe_op op_modN (pe_cal C_l_cell_at hr (by decide) pass0 (pa_cons (pv 0) (pa_cons pe_int pa_nil))) pe_int)))
      (pss_cons (ps_set (i := 2) sc_law.nd rfl (Or.inl rfl) (pe_op op_modN (pe_cal C_l_cell_at hr (by decide) pass0 (pa_cons (pv 0) (pa_cons pe_int pa_nil))) pe_int))
      (pss_cons (ps_if (pt_cmpR (Gx.ok_eqX (K := K) rfl hr (by decide) hu) (pe_op op_modN (pe_op op_fdivN (pe_cal C_l_cell_at hr (by decide) pass0 (pa_cons (pv 0) (pa_cons pe_int pa_nil))) pe_int) pe_int) pe_int (nomark _)) (pss_one (ps_set (i := 2) sc_law.nd rfl (Or.inl rfl) (pe_op (ok_plus (K := K) rfl) pe_int (pe_op op_modN (pe_op op_fdivN (pe_cal C_l_cell_at hr (by decide) pass0 (pa_cons (pv 0) (pa_cons pe_int pa_nil))) pe_int) pe_int)))) pss_nil)
      (pss_cons (ps_set (i := 3) sc_law.nd rfl (Or.inl rfl) (pe_cal C_l_free hr (by decide) pass0 (pa_cons (pv 0) (pa_cons pe_int (pa_cons (pv 1) (pa_cons (pv 2) pa_nil))))))
      (pss_cons (ps_set (i := 4) sc_law.nd rfl (Or.inl rfl) (pe_ix (ok_ix (K := K) rfl) (pe_lst (pa_cons (pe_lst pa_nil) (pa_cons (pe_lst (pa_cons pe_str pa_nil)) pa_nil))) (pe_callTy call_int1 (by rfl) M.m_int (by decide +kernel) (pa_cons (pe_cmpR op_gt (pv 2) pe_int (nomark _)) pa_nil)) (fun _ _ => rfl)))
      (pss_cons (ps_set (i := 5) sc_law.nd rfl (Or.inl rfl) (pe_cal C_l_cell_at hr (by decide) pass0 (pa_cons (pv 0) (pa_cons pe_int pa_nil))))
      (pss_cons (ps_if (pt_cmpR (Gx.ok_eqX (K := K) rfl hr (by decide) hu) (pe_op op_modN (pv 5) pe_int) pe_int (nomark _)) (pss_cons (ps_set (i := 6) sc_law.nd rfl (Or.inl rfl) (pe_op op_modN (pe_op op_fdivN (pv 5) pe_int) (pe_op (ok_plus (K := K) rfl) (pv 2) pe_int)))
      (pss_cons (ps_expr (pe_bm PySem.F.plainAttrs_list PySem.F.slot_list_insert PySem.F.type_list_insert ok_insert (pv 3) (pa_cons (pv 6) (pa_cons (pe_cal C_l_bad_bar hr (by decide) pass0 (pa_cons (pe_op op_fdivN (pv 5) pe_int) (pa_cons (pv 1) pa_nil))) pa_nil))))
      (pss_one (ps_set (i := 4) sc_law.nd rfl (Or.inl rfl) (pe_lst (pa_cons pe_str pa_nil)))))) pss_nil)
      (pss_cons (ps_if (pt_cmpR (Gx.ok_eqX (K := K) rfl hr (by decide) hu) (pe_op op_modN (pv 5) pe_int) pe_int (nomark _)) (pss_cons (ps_set (i := 3) sc_law.nd rfl (Or.inl rfl) (pe_ix (ok_ix (K := K) rfl) (pe_lst (pa_cons (pe_callTy (ok_tupOf (K := K) rfl) (by rfl) M.m_tuple (by decide +kernel) (pa_cons (pv 3) pa_nil)) (pa_cons pe_non (pa_cons pe_str (pa_cons pe_int (pa_cons pe_dnewK (pa_cons (pv 3) pa_nil))))))) (pe_op op_modN (pe_op op_fdivN (pv 5) pe_int) pe_int) (fun _ _ => rfl)))
      (pss_one (ps_set (i := 4) sc_law.nd rfl (Or.inl rfl) (pe_ix (ok_ix (K := K) rfl) (pe_lst (pa_cons (pe_lst (pa_cons pe_str pa_nil)) (pa_cons (pv 4) pa_nil))) (pe_callTy call_int1 (by rfl) M.m_int (by decide +kernel) (pa_cons (pe_cmpR (Gx.ok_eqX (K := K) rfl hr (by decide) hu) (pe_op op_modN (pe_op op_fdivN (pv 5) pe_int) pe_int) pe_int (nomark _)) pa_nil)) (fun _ _ => rfl))))) pss_nil)
      (pss_cons (ps_set (i := 7) sc_law.nd rfl (Or.inl rfl) (pe_cal C_l_cell_at hr (by decide) pass0 (pa_cons (pv 0) (pa_cons pe_int pa_nil))))
      (pss_cons (ps_if (pt_cmpR (Gx.ok_eqX (K := K) rfl hr (by decide) hu) (pe_op op_modN (pv 7) pe_int) pe_int (nomark _)) (pss_cons (ps_set (i := 8) sc_law.nd rfl (Or.inl rfl) (pe_op (ok_plus (K := K) rfl) pe_int (pe_op op_modN (pe_op op_fdivN (pv 7) pe_int) (pe_op op_pow pe_int pe_int))))
      (pss_cons (ps_set (i := 1) sc_law.nd rfl (Or.inl rfl) (pe_ix (ok_ix (K := K) rfl) (pe_lst (pa_cons pe_int (pa_cons pe_int (pa_cons (pe_un un_neg pe_int) (pa_cons pe_bl (pa_cons pe_non (pa_cons pe_str (pa_cons (pv 8) (pa_cons pe_bl (pa_cons (pe_lst (pa_cons pe_int pa_nil)) (pa_cons (pe_op op_sub pe_int (pv 8)) pa_nil))))))))))) (pe_op op_modN (pe_op op_fdivN (pv 7) pe_int) pe_int) (fun _ _ => rfl)))
      (pss_cons (ps_set (i := 4) sc_law.nd rfl (Or.inl rfl) (pe_lst (pa_cons pe_str pa_nil)))
      (pss_one (ps_if (PW.pt (pw_or (pt_cmpR (ok_ne (K := K) rfl hu) (pe_cal C_l_made hr (by decide) pass0 (pa_cons pe_int (pa_cons (pv 1) pa_nil))) (pv 4) (nomark _)) (pw_or1 (pt_cmpR (ok_ne (K := K) rfl hu) (pe_cal C_l_made hr (by decide) pass0 (pa_cons pe_int (pa_cons (pv 1) pa_nil))) (pv 4) (nomark _))))) (pss_one (ps_ret pe_bl)) pss_nil))))) pss_nil)
      (pss_cons (ps_set (i := 9) sc_law.nd rfl (Or.inl rfl) (pe_ifExp (pt_val (pe_callB (ok_isi (K := K) rfl) (by rfl) M.m_isinstance (by decide +kernel) (pa_cons (pv 3) (pa_cons (pe_bltn (v := .ty "list") (by rfl) M.m_list (by decide +kernel) rfl) pa_nil)))) (pe_callTy (ok_list (K := K) rfl) (by rfl) M.m_list (by decide +kernel) (pa_cons (pv 3) pa_nil)) (pv 3)))
      (pss_cons (ps_set (i := 10) sc_law.nd rfl (Or.inl rfl) (pe_op op_modN (pe_op op_fdivN (pv 7) pe_int) pe_int))
      (pss_cons (ps_if (PW.pt (pw_or (pt_cmpR (ok_ne (K := K) rfl hu) (pe_cal D_l_asked hr (by decide) pass0 (pa_cons (pv 10) (pa_cons pe_int (pa_cons (pe_lst (pa_cons (pe_tup (pa_cons pe_int (pa_cons pe_int pa_nil))) pa_nil)) pa_nil)))) (pe_tup (pa_cons (pe_lst (pa_cons pe_str pa_nil)) pa_nil)) (nomark _)) (pw_or1 (pt_cmpR (ok_ne (K := K) rfl hu) (pe_cal C_l_asked hr (by decide) pass0 (pa_cons pe_int (pa_cons pe_int (pa_cons (pe_lst pa_nil) pa_nil)))) (pe_lst pa_nil) (nomark _))))) (pss_one (ps_ret pe_bl)) pss_nil)
      (pss_cons (ps_if (pt_cmpR (ok_ne (K := K) rfl hu) (pv 4) (pe_lst pa_nil) (nomark _)) (pss_one (ps_ret (pe_and (pe_cmpR (Gx.ok_eqX (K := K) rfl hr (by decide) hu) (pe_cal D_l_asked hr (by decide) pass0 (pa_cons (pv 10) (pa_cons (pv 1) (pa_cons (pv 9) pa_nil)))) (pe_tup (pa_cons (pv 4) pa_nil)) (nomark _)) (pe_one (pe_cmpR (Gx.ok_eqX (K := K) rfl hr (by decide) hu) (pv 9) (pv 3) (nomark _)))))) pss_nil)
      (pss_one (ps_ret (pe_and (pe_cmpR (Gx.ok_eqX (K := K) rfl hr (by decide) hu) (pe_cal C_l_asked hr (by decide) pass0 (pa_cons pe_int (pa_cons (pv 1) (pa_cons (pv 9) pa_nil)))) (pv 3) (nomark _)) (pe_one (pe_cmpR (Gx.ok_eqX (K := K) rfl hr (by decide) hu) (pv 9) (pv 3) (nomark _)))))))))))))))))))), ?_⟩
  refine T.fin (K := K) h fun ds d rel => ?_
  cases rel with | mk ns hns =>
  obtain ⟨e1, lo, hi⟩ := dN_eq ns
  have rc : ∀ (ρ : Rho) (k : Int), 0 ≤ k → ρ[0]? = some (.k (.ro ns)) → ∀ E : XK, EvD K (tCall (spD K R_l_cell_at) [] E (tCons (tVar 0) (tCons (tC (.int k)) tNil))) ρ (.int (cell ns k)) := fun ρ k hk h0 E => ev_call (ea_cons (ev_var h0) (ea_cons ev_int ea_nil)) (.mk ns k hk)
  refine T.seq (ρ1 := [.k (.ro ns), .k (.int (dN ns : Int)), .u, .u, .u, .u, .u, .u, .u, .u, .u]) (T.asg (d := .int (dN ns : Int)) ?_ rfl) ?_
  · rw [e1]
    exact ev_op ev_int (ev_op (rc _ 0 (by decide) rfl _) ev_int (rv_mod (by decide) (by decide))) rv_plusI
  generalize hn : dN ns = n at lo hi
  clear e1
  -- how many
  obtain ⟨m0, hm0, lm0⟩ := mod_nat (cell ns 1) (show (0 : Int) < 7 by decide)
  refine T.seq (ρ1 := [.k (.ro ns), .k (.int (n : Int)), .k (.int (m0 : Int)), .u, .u, .u, .u, .u, .u, .u, .u]) (T.asg (EvD.to (ev_op (rc _ 1 (by decide) rfl _) ev_int (rv_mod (by decide) (by decide))) (by rw [hm0])) rfl) ?_
  refine T.seqP (N := fun r => ∃ m : Nat, m ≤ 61 ∧ r = [.k (.ro ns), .k (.int (n : Int)), .k (.int (m : Int)), .u, .u, .u, .u, .u, .u, .u, .u])
    (T.ifS (b := decide (cell ns 1 / 7 % 6 = 1)) (et_test (ev_op (ev_op (ev_op (rc _ 1 (by decide) rfl _) ev_int (rv_div ⟨by decide, by decide⟩ (by decide))) ev_int (rv_mod (by decide) (by decide))) ev_int (rv_eqXD rv_eqI))) (fun _ => ?_) fun _ => T.next ⟨m0, by omega, rfl⟩) ?_
  · obtain ⟨m1, hm1, lm1⟩ := mod_nat (cell ns 1 / 42) (show (0 : Int) < 3 by decide)
    exact T.asg (d := .int ((59 + m1 : Nat) : Int)) (EvD.to (ev_op ev_int (ev_op (ev_op (rc _ 1 (by decide) rfl _) ev_int (rv_div ⟨by decide, by decide⟩ (by decide))) ev_int (rv_mod (by decide) (by decide))) rv_plusI) (by rw [hm1]; exact congrArg D.int (by omega))) ⟨59 + m1, by omega, rfl⟩
  rintro r ⟨m, hm, rfl⟩
  -- the bars
  obtain ⟨ef, okf, lf⟩ : ((freeL ns 4 (n : Int) m).map barD) = brs ((freeL ns 4 (n : Int) m).map unB) ∧ Fr.Ok n ((freeL ns 4 (n : Int) m).map unB) ∧ ((freeL ns 4 (n : Int) m).map unB).length = m := by
    obtain ⟨g1, g2⟩ := good_nat (freeL_good (ns := ns) (first := 4) (count := (n : Int)) (m := m) (by omega))
    exact ⟨by unfold brs; rw [g1], g2, by rw [List.length_map, freeL_len]⟩
  refine T.seq (ρ1 := [.k (.ro ns), .k (.int (n : Int)), .k (.int (m : Int)), .o (brs ((freeL ns 4 (n : Int) m).map unB)), .u, .u, .u, .u, .u, .u, .u]) (T.asgF (es := brs ((freeL ns 4 (n : Int) m).map unB)) ?_ rfl) ?_
  · rw [← ef]
    exact ev_callF (ea_cons (ev_var rfl) (ea_cons ev_int (ea_cons (ev_var rfl) (ea_cons (ev_var rfl) ea_nil)))) (.mk ns 4 (n : Int) m (by decide) (by omega) (by omega) (by omega))
  generalize (freeL ns 4 (n : Int) m).map unB = nb at okf lf
  clear ef
  refine T.seq (ρ1 := [.k (.ro ns), .k (.int (n : Int)), .k (.int (m : Int)), .o (brs nb), .k (.lst (if 60 < m then [.str "bar"] else [])), .u, .u, .u, .u, .u, .u]) (T.asg (ev_op (x := .lst [.lst [], .lst [.str "bar"]]) (y := .int (if decide ((60 : Int) < (m : Int)) then 1 else 0)) (EvF.data (ev_lst (ea_cons (EvF.data (ev_lst ea_nil (Nat.zero_le _))) (ea_cons (EvF.data (ev_lst (ea_cons ev_str ea_nil) (Nat.le_of_ble_eq_true rfl))) ea_nil)) (Nat.le_of_ble_eq_true rfl))) (ev_cb (ea_cons (ev_op (ev_var rfl) ev_int rv_gt) ea_nil) rc_int1) (rv_ixL ?_)) rfl) ?_
  · by_cases h : 60 < m
    · rw [if_pos h, decide_eq_true (show (60 : Int) < (m : Int) by omega)]
      rfl
    · rw [if_neg h, decide_eq_false (show ¬ (60 : Int) < (m : Int) by omega)]
      rfl
  have c0 : Cas n (.lst (brs nb)) (if 60 < m then [.str "bar"] else []) := by
    by_cases h : 60 < m
    · rw [if_pos h]
      exact .bad _ (.long _ (by rw [brs_len]; omega))
    · rw [if_neg h]
      exact .good nb okf (by omega)
  generalize (if 60 < m then [D.str "bar"] else []) = du at c0
  generalize hc2 : cell ns 2 = c2
  refine T.seq (ρ1 := [.k (.ro ns), .k (.int (n : Int)), .k (.int (m : Int)), .o (brs nb), .k (.lst du), .k (.int c2), .u, .u, .u, .u, .u]) (T.asg (EvD.to (rc _ 2 (by decide) rfl _) (by rw [hc2])) rfl) ?_
  refine T.seqP (N := fun r => ∃ (es du : List D) (s6 : Sl), r = [.k (.ro ns), .k (.int (n : Int)), .k (.int (m : Int)), .o es, .k (.lst du), .k (.int c2), s6, .u, .u, .u, .u] ∧ Cas n (.lst es) du ∧ (∀ e ∈ es, e.eqd 3 = true) ∧ (c2 % 3 = 1 ∨ es = brs nb))
    (T.ifS (b := decide (c2 % 3 = 1)) (et_test (ev_op (ev_op (ev_var rfl) ev_int (rv_mod (by decide) (by decide))) ev_int (rv_eqXD rv_eqI))) (fun h3 => ?_) fun _ => T.next ⟨_, _, _, rfl, c0, brs_eqd, .inr rfl⟩) ?_
  · have h3 := of_decide_eq_true h3
    obtain ⟨k, hk, lk⟩ := mod_nat (c2 / 3) (show (0 : Int) < (m : Int) + 1 by omega)
    refine T.seq (ρ1 := [.k (.ro ns), .k (.int (n : Int)), .k (.int (m : Int)), .o (brs nb), .k (.lst du), .k (.int c2), .k (.int (k : Int)), .u, .u, .u, .u]) (T.asg (EvD.to (ev_op (ev_op (ev_var rfl) ev_int (rv_div ⟨by decide, by decide⟩ (by decide))) (ev_op (ev_var rfl) ev_int rv_plusI) (rv_mod (by omega) (by omega))) (by rw [hk])) rfl) ?_
    have far0 := Int.emod_nonneg (c2 / 200 / 18) (show (10 : Int) ^ 9 ≠ 0 by decide)
    obtain ⟨wb, we⟩ := weird_bad (n := n) far0 (weirdAt_mem n (c2 / 200))
    have Rb := R_l_bad_bar.mk (c2 / 200) n
    generalize weirdAt n (c2 / 200) = x at wb we Rb
    have lt : ((brs nb).take k ++ [x] ++ (brs nb).drop k).length = m + 1 := by
      rw [List.length_append, List.length_append, List.length_take, List.length_drop, brs_len, lf, List.length_singleton]
      omega
    refine T.seq (ρ1 := [.k (.ro ns), .k (.int (n : Int)), .k (.int (m : Int)), .o ((brs nb).take k ++ [x] ++ (brs nb).drop k), .k (.lst du), .k (.int c2), .k (.int (k : Int)), .u, .u, .u, .u]) (T.insert (k := k) (d := x) rfl (ev_var rfl) (ev_call (ea_cons (ev_op (ev_var rfl) ev_int (rv_div ⟨by decide, by decide⟩ (by decide))) (ea_cons (ev_var rfl) ea_nil)) Rb) (by rw [brs_len]; omega) (by rw [brs_len]; omega) rfl) ?_
    refine T.asg (EvF.data (ev_lst (ea_cons ev_str ea_nil) (Nat.le_of_ble_eq_true rfl))) ⟨_, [.str "bar"], _, rfl, .bad _ ?_, fun e he => ?_, .inl h3⟩
    · by_cases h60 : 60 < m + 1
      · exact .long _ (by rw [lt]; exact h60)
      · have z := BadB.item (n := (n : Int)) ((nb.take k).map bI) x (brs (nb.drop k)) (good_okI fun b hb => okf b (List.mem_of_mem_take hb)) wb (by rw [List.length_map, List.length_take, brs_len, List.length_drop]; omega)
        have e : ((nb.take k).map bI).map barD ++ x :: brs (nb.drop k) = (brs nb).take k ++ [x] ++ (brs nb).drop k := by
          rw [brs_take, brs_drop, List.append_assoc]
          rfl
        rwa [e] at z
    · rcases List.mem_append.mp he with he | he
      · rcases List.mem_append.mp he with he | he
        · exact brs_eqd e (List.mem_of_mem_take he)
        · rw [List.mem_singleton.mp he]
          exact eqd_mono 2 x we
      · exact brs_eqd e (List.mem_of_mem_drop he)
  clear c0
  rintro r ⟨es, du, s6, rfl, cas, eqs, alt⟩
  refine T.freeze (i := 3) rfl ?_
  -- or no list at all
  refine T.seqP (N := fun r => ∃ (d : D) (du : List D) (s6 : Sl), r = [.k (.ro ns), .k (.int (n : Int)), .k (.int (m : Int)), .k d, .k (.lst du), .k (.int c2), s6, .u, .u, .u, .u] ∧ Cas n d du ∧ Selfd d)
    (T.ifS (b := decide (c2 % 3 = 2)) (et_test (ev_op (ev_op (ev_var rfl) ev_int (rv_mod (by decide) (by decide))) ev_int (rv_eqXD rv_eqI))) (fun h3 => ?_) fun _ => T.next ⟨_, _, _, rfl, cas, self_lst eqs⟩) ?_
  · have h3 := of_decide_eq_true h3
    have ees : es = brs nb := alt.elim (fun z => absurd z (by omega)) id
    subst ees
    obtain ⟨j, hj, lj⟩ := mod_nat (c2 / 3) (show (0 : Int) < 6 by decide)
    have pick : ∃ d, atI [D.tup (brs nb), .non, .str "", .int 5, .dc [] [], .lst (brs nb)] (j : Int) = some d ∧ Selfd d ∧ Cas n d (if j = 5 then du else [.str "bar"]) := by
      have so : (D.tup (brs nb)).okd 60 = true := List.all_eq_true.mpr brs_okd
      have ss : (D.tup (brs nb)).sm 60 = true := List.all_eq_true.mpr fun d hd => by
        obtain ⟨b, _, rfl⟩ := brs_mem hd
        rfl
      rcases (show j = 0 ∨ j = 1 ∨ j = 2 ∨ j = 3 ∨ j = 4 ∨ j = 5 by omega) with rfl | rfl | rfl | rfl | rfl | rfl
      · exact ⟨_, rfl, ⟨fun K => rv_eqXD (rv_eqS so so ss ss (by simp)), .inr (.inr (.inr (.inr (.inl rfl))))⟩, .bad _ (.noList _ (.inr (.inr (.inr (.inl rfl)))))⟩
      · exact ⟨_, rfl, ⟨fun K => rv_eqXD (rv_eqS rfl rfl rfl rfl (by simp)), .inr (.inl rfl)⟩, .bad _ (.noList _ (.inl rfl))⟩
      · exact ⟨_, rfl, ⟨fun K => rv_eqXD (rv_eqS (by decide +kernel) (by decide +kernel) rfl rfl (by simp)), .inr (.inr (.inl rfl))⟩, .bad _ (.noList _ (.inr (.inl rfl)))⟩
      · exact ⟨_, rfl, ⟨fun K => rv_eqXD (rv_eqS rfl rfl rfl rfl (by simp)), .inr (.inr (.inr (.inl rfl)))⟩, .bad _ (.noList _ (.inr (.inr (.inl rfl))))⟩
      · exact ⟨_, rfl, ⟨fun K => rv_eqXE, .inr (.inr (.inr (.inr (.inr rfl))))⟩, .bad _ (.noList _ (.inr (.inr (.inr (.inr rfl)))))⟩
      · exact ⟨_, rfl, self_lst brs_eqd, cas⟩
    obtain ⟨d, pd, sd, cd⟩ := pick
    refine T.seq (ρ1 := [.k (.ro ns), .k (.int (n : Int)), .k (.int (m : Int)), .k d, .k (.lst du), .k (.int c2), s6, .u, .u, .u, .u]) (T.asg (ev_op (EvF.data (ev_lst (ds := [D.tup (brs nb), .non, .str "", .int 5, .dc [] [], .lst (brs nb)]) (ea_cons (ev_cb (ea_cons (ev_var rfl) ea_nil) rc_tupL) (ea_cons ev_non (ea_cons ev_str (ea_cons ev_int (ea_cons ev_dnew (ea_cons (ev_var rfl) ea_nil)))))) (Nat.le_of_ble_eq_true rfl))) (EvD.to (ev_op (ev_op (ev_var rfl) ev_int (rv_div ⟨by decide, by decide⟩ (by decide))) ev_int (rv_mod (by decide) (by decide))) (by rw [hj])) (rv_ixL pd)) rfl) ?_
    refine T.asg (d := .lst (if j = 5 then du else [.str "bar"])) (ev_op (x := .lst [.lst [.str "bar"], .lst du]) (y := .int (if decide ((j : Int) = 5) then 1 else 0)) (EvF.data (ev_lst (ea_cons (EvF.data (ev_lst (ea_cons ev_str ea_nil) (Nat.le_of_ble_eq_true rfl))) (ea_cons (ev_var rfl) ea_nil)) (Nat.le_of_ble_eq_true rfl))) (ev_cb (ea_cons (ev_op (EvD.to (ev_op (ev_op (ev_var rfl) ev_int (rv_div ⟨by decide, by decide⟩ (by decide))) ev_int (rv_mod (by decide) (by decide))) (by rw [hj])) ev_int (rv_eqXD rv_eqI)) ea_nil) rc_int1) (rv_ixL ?_)) ⟨d, _, _, rfl, cd, sd⟩
    by_cases h : j = 5
    · rw [if_pos h, decide_eq_true (show (j : Int) = 5 by omega)]
      rfl
    · rw [if_neg h, decide_eq_false (show ¬ (j : Int) = 5 by omega)]
      rfl
  clear cas eqs alt
  rintro r ⟨d, du, s6', rfl, cas, sd⟩
  generalize hc3 : cell ns 3 = c3
  refine T.seq (ρ1 := [.k (.ro ns), .k (.int (n : Int)), .k (.int (m : Int)), .k d, .k (.lst du), .k (.int c2), s6', .k (.int c3), .u, .u, .u]) (T.asg (EvD.to (rc _ 3 (by decide) rfl _) (by rw [hc3])) rfl) ?_
  have ok1 := say_ok (u := "count") (by decide +kernel)
  refine T.seqP (N := fun r => ∃ (c : D) (du : List D) (s8 : Sl), r = [.k (.ro ns), .k c, .k (.int (m : Int)), .k d, .k (.lst du), .k (.int c2), s6', .k (.int c3), s8, .u, .u] ∧ Fin2 c d du)
    (T.ifS (b := decide (c3 % 3 = 1)) (et_test (ev_op (ev_op (ev_var rfl) ev_int (rv_mod (by decide) (by decide))) ev_int (rv_eqXD rv_eqI))) (fun _ => ?_) fun _ => T.next ⟨_, _, _, rfl, ?_⟩) ?_
  · have f0 := Int.emod_nonneg (c3 / 30) (show (10 : Int) ^ 9 ≠ 0 by decide)
    have p9 : ((10 : Int) ^ (9 : Int).toNat) = 10 ^ 9 := rfl
    refine T.seq (ρ1 := [.k (.ro ns), .k (.int (n : Int)), .k (.int (m : Int)), .k d, .k (.lst du), .k (.int c2), s6', .k (.int c3), .k (.int (17 + c3 / 30 % 10 ^ 9)), .u, .u]) (T.asg (ev_op ev_int (ev_op (ev_op (ev_var rfl) ev_int (rv_div ⟨by decide, by decide⟩ (by decide))) (EvD.to (ev_op ev_int ev_int (rv_pow (i := 10) (j := 9) ⟨by decide, by decide, by decide⟩)) (by rw [p9])) (rv_mod (by decide) (by decide))) rv_plusI) rfl) ?_
    generalize hfar : 17 + c3 / 30 % 10 ^ 9 = far
    have far17 : 17 ≤ far := by omega
    obtain ⟨c, hc, rcc⟩ := rv_pickL (K := K) (ds := badC far) (c := c3 / 3) (m := 10) rfl (by decide)
    have bc := badC_bad far17 hc
    refine T.seq (ρ1 := [.k (.ro ns), .k c, .k (.int (m : Int)), .k d, .k (.lst du), .k (.int c2), s6', .k (.int c3), .k (.int far), .u, .u]) (T.asg (ev_op (EvF.data (ev_lst (ds := badC far) (ea_cons ev_int (ea_cons ev_int (ea_cons (ev_neg ev_int) (ea_cons ev_bl (ea_cons ev_non (ea_cons ev_str (ea_cons (ev_var rfl) (ea_cons ev_bl (ea_cons (EvF.data (ev_lst (ea_cons ev_int ea_nil) (Nat.le_of_ble_eq_true rfl))) (ea_cons (ev_op ev_int (ev_var rfl) rv_sub) ea_nil)))))))))) (Nat.le_of_ble_eq_true rfl))) (ev_op (ev_op (ev_var rfl) ev_int (rv_div ⟨by decide, by decide⟩ (by decide))) ev_int (rv_mod (by decide) (by decide))) rcc) rfl) ?_
    refine T.seq (ρ1 := [.k (.ro ns), .k c, .k (.int (m : Int)), .k d, .k (.lst [.str "count"]), .k (.int c2), s6', .k (.int c3), .k (.int far), .u, .u]) (T.asg (EvF.data (ev_lst (ea_cons ev_str ea_nil) (Nat.le_of_ble_eq_true rfl))) rfl) ?_
    have ne : RV K (rNeD K) (.lst [.str "count"]) (.lst [.str "count"]) (.bl (!true)) := rv_neS ok1.2 ok1.2 rfl rfl (by simp)
    exact T.ifS (b := !true || !true) (et_or (et_test (ev_op (ev_call (ea_cons ev_int (ea_cons (ev_var rfl) ea_nil)) (.mk 0 c bc)) (ev_var rfl) ne)) fun _ => et_test (ev_op (ev_call (ea_cons ev_int (ea_cons (ev_var rfl) ea_nil)) (.mk 1 c bc)) (ev_var rfl) ne)) (fun z => by cases z) fun _ => T.next ⟨c, _, _, rfl, .bad c d "BadCount" "count" (.count c d bc) (by decide)⟩
  · cases cas with
    | good nb ok hl => exact .good n nb (by omega) hi ok hl
    | bad d h => exact .bad _ _ "BadBar" "bar" (.bars (n : Int) d (by omega) (by omega) h) (by decide)
  rintro r ⟨c, du, s8, rfl, fin⟩
  refine T.seq (ρ1 := [.k (.ro ns), .k c, .k (.int (m : Int)), .k d, .k (.lst du), .k (.int c2), s6', .k (.int c3), s8, .k d, .u]) (T.asg ?_ rfl) ?_
  · rcases sd.2 with ⟨es, rfl⟩ | h
    · exact ev_if (b := true) (et_B (ev_cb (ea_cons (ev_var rfl) (ea_cons ev_ty ea_nil)) (rc_isiK "list" rfl (by decide +kernel) (by decide)))) (fun _ => EvF.data (ev_cbF (ea_cons (ev_var rfl) ea_nil) rc_listL)) fun z => by cases z
    · have r : RC K (rIsi K) [d, .ty "list"] (.bl false) := by
        rcases h with h | h | h | h | h
        · exact rc_isi (by rw [h]; decide +kernel) (by rw [h]; decide)
        · exact rc_isi (by rw [h]; decide +kernel) (by rw [h]; decide)
        · exact rc_isi (by rw [h]; decide +kernel) (by rw [h]; decide)
        · exact rc_isi (by rw [h]; decide +kernel) (by rw [h]; decide)
        · exact rc_isi (by rw [h]; decide +kernel) (by rw [h]; decide)
      exact ev_if (b := false) (et_B (ev_cb (ea_cons (ev_var rfl) (ea_cons ev_ty ea_nil)) r)) (fun z => by cases z) fun _ => ev_var rfl
  have w0 := Int.emod_nonneg (c3 / 90) (show (10 : Int) ≠ 0 by decide)
  have w9 := Int.emod_lt_of_pos (c3 / 90) (show (0 : Int) < 10 by decide)
  refine T.seq (ρ1 := [.k (.ro ns), .k c, .k (.int (m : Int)), .k d, .k (.lst du), .k (.int c2), s6', .k (.int c3), s8, .k d, .k (.int (c3 / 90 % 10))]) (T.asg (ev_op (ev_op (ev_var rfl) ev_int (rv_div ⟨by decide, by decide⟩ (by decide))) ev_int (rv_mod (by decide) (by decide))) rfl) ?_
  generalize c3 / 90 % 10 = wy at w0 w9
  have ok2 := say_ok (u := "bar") (by decide +kernel)
  have b1 : Rx_checked [.int 1, .lst [.tup [.int 0, .int 1]]] "BadBar" := .bars 1 _ (by decide) (by decide) (.item [] (.tup [.int 0, .int 1]) [] (fun b hb => by cases hb) (.bad 1 _ _ _ _ (JD.int 0) (JD.int 1) (.inl rfl)) (by decide))
  have g1 : R_checked [.int 1, .lst []] [] := .good 1 [] (by decide) (by decide) (by decide) fun b hb => by cases hb
  have say : ∀ u : Str, EvD K (tTup (tCons (tLst (tCons (tC (.str u)) tNil)) tNil)) [.k (.ro ns), .k c, .k (.int (m : Int)), .k d, .k (.lst du), .k (.int c2), s6', .k (.int c3), s8, .k d, .k (.int wy)] (sayD u) := fun u => ev_tup (ea_cons (EvF.data (ev_lst (ea_cons ev_str ea_nil) (Nat.le_of_ble_eq_true rfl))) ea_nil) (Nat.le_of_ble_eq_true rfl)
  refine T.guard (b := !true || !true) (et_or (et_test (ev_op (x := sayD "bar") (y := sayD "bar") (ev_call (ea_cons (ev_var rfl) (ea_cons ev_int (ea_cons (EvF.data (ev_lst (ea_cons (ev_tup (ea_cons ev_int (ea_cons ev_int ea_nil)) (Nat.le_of_ble_eq_true rfl)) ea_nil) (Nat.le_of_ble_eq_true rfl))) ea_nil))) (.mk wy _ _ "BadBar" "bar" w0 w9 b1 (by decide))) (say "bar") (rv_neS ok2.1 ok2.1 rfl rfl (by simp)))) fun _ =>
    et_test (ev_op (x := .lst []) (y := .lst []) (EvF.data (ev_callF (ea_cons ev_int (ea_cons ev_int (ea_cons (EvF.data (ev_lst ea_nil (Nat.zero_le _))) ea_nil))) (.mk _ _ _ g1))) (EvF.data (ev_lst ea_nil (Nat.zero_le _))) (rv_neS rfl rfl rfl rfl (by simp)))) (fun z => by cases z) fun _ => ?_
  cases fin with
  | good n' nb' h1 h2 ok hl =>
    refine T.guard (b := !true) (et_test (ev_op (x := .lst []) (y := .lst []) (ev_var rfl) (EvF.data (ev_lst ea_nil (Nat.zero_le _))) (rv_neS rfl rfl rfl rfl (by simp)))) (fun z => by cases z) fun _ => ?_
    exact T.ret (d := .bl (decide (nb'.map bI = nb'.map bI) && true)) (ev_and (ev_op (x := .lst (brs nb')) (y := .lst (brs nb')) (EvF.data (ev_callF (ea_cons ev_int (ea_cons (ev_var rfl) (ea_cons (ev_var rfl) ea_nil))) (.mk _ _ _ (R_chk h1 h2 ok hl)))) (ev_var rfl) (rv_eqXD rv_eqBars)) fun _ => ev_op (ev_var rfl) (ev_var rfl) (sd.1 K)) (by rw [decide_eq_true rfl]; rfl)
  | bad _ _ x u h hu =>
    have ok3 := say_ok (due_ok hu)
    refine T.guard (b := !false) (et_test (ev_op (x := .lst [.str u]) (y := .lst []) (ev_var rfl) (EvF.data (ev_lst ea_nil (Nat.zero_le _))) (rv_neS ok3.2 rfl rfl rfl (by simp)))) (fun _ => ?_) fun z => by cases z
    exact T.ret (d := .bl (true && true)) (ev_and (ev_op (x := sayD u) (y := sayD u) (ev_call (ea_cons (ev_var rfl) (ea_cons (ev_var rfl) (ea_cons (ev_var rfl) ea_nil))) (.mk wy _ _ x u w0 w9 h hu)) (ev_tup (ea_cons (ev_var rfl) ea_nil) (Nat.le_of_ble_eq_true rfl)) (rv_eqXD (rv_eqS ok3.1 ok3.1 rfl rfl (by simp)))) fun _ => ev_op (ev_var rfl) (ev_var rfl) (sd.1 K)) rfl
end
theorem facts {P : Program} {w : World} {K : PySem.W.Frag} {h : Heap} {mg : Str → Option Value} {f : Addr} (X : K.In h) (G : h.Ns mainGlobals mg) (hfa : mg "law" = some (.ref f)) (c : He.SaysD fa fn K) (hx : exK K = true) (ht_LENGTHS : ∃ es n, KDict K w (He.ga K "LENGTHS") es n) :
    ∃ fd : FuncData, (∀ (s : Shared) (v : Value), BindsTo s fd ⟨[v], []⟩ [("_law_script", v)]) ∧ ∀ base : Heap, K.In base → base.Ns mainGlobals mg → FnOk P w K mg base CX0 9 f fd ["_law_script"] (spD K R_law) := by
  have M : Mods K mg w := {
    m_ValueError := He.free_ok X G (c.fact 24 (f := .free "ValueError") rfl),
    m_bool := He.free_ok X G (c.fact 25 (f := .free "bool") rfl),
    m_enumerate := He.free_ok X G (c.fact 26 (f := .free "enumerate") rfl),
    m_int := He.free_ok X G (c.fact 27 (f := .free "int") rfl),
    m_isinstance := He.free_ok X G (c.fact 28 (f := .free "isinstance") rfl),
    m_len := He.free_ok X G (c.fact 29 (f := .free "len") rfl),
    m_list := He.free_ok X G (c.fact 30 (f := .free "list") rfl),
    m_range := He.free_ok X G (c.fact 31 (f := .free "range") rfl),
    m_tuple := He.free_ok X G (c.fact 32 (f := .free "tuple") rfl),
    k_MOST_JOINTS := He.int_ok X G (c.fact 33 (f := .int "MOST_JOINTS" 16) rfl),
    k_MOST_BARS := He.int_ok X G (c.fact 34 (f := .int "MOST_BARS" 60) rfl),
    k_HANDS := He.int_ok X G (c.fact 35 (f := .int "HANDS" 2) rfl),
    g_FrameError := He.glo_ok X G (c.fact 36 (f := .glo "FrameError") rfl),
    g_BadCount := He.glo_ok X G (c.fact 37 (f := .glo "BadCount") rfl),
    g_BadBar := He.glo_ok X G (c.fact 38 (f := .glo "BadBar") rfl),
    g_NoBar := He.glo_ok X G (c.fact 39 (f := .glo "NoBar") rfl),
    g_Full := He.glo_ok X G (c.fact 40 (f := .glo "Full") rfl),
    g_NotLean := He.glo_ok X G (c.fact 41 (f := .glo "NotLean") rfl),
    g_Loose := He.glo_ok X G (c.fact 42 (f := .glo "Loose") rfl),
    g_BadStep := He.glo_ok X G (c.fact 43 (f := .glo "BadStep") rfl),
    x_BadCount := He.exc_ok (c.fact 44 (f := .exc "BadCount") rfl),
    n_BadCount := He.exm_ok (c.fact 45 (f := .exm "BadCount" "FrameError" true) rfl),
    q_BadCount := kindB_ok (by have hx := hx; unfold exK at hx; simp only [Bool.and_eq_true] at hx; exact hx.1.1.1.1.1),
    x_BadBar := He.exc_ok (c.fact 46 (f := .exc "BadBar") rfl),
    n_BadBar := He.exm_ok (c.fact 47 (f := .exm "BadBar" "FrameError" true) rfl),
    q_BadBar := kindB_ok (by have hx := hx; unfold exK at hx; simp only [Bool.and_eq_true] at hx; exact hx.1.1.1.1.2),
    k_LENGTHS := He.glo_ok X G (c.fact 48 (f := .glo "LENGTHS") rfl),
    d_LENGTHS := ht_LENGTHS,
    l_LENGTHS := gotB_ok (by have hx := hx; unfold exK at hx; simp only [Bool.and_eq_true] at hx; exact hx.1.1.1.2) ht_LENGTHS,
    v_checked := He.glo_ok X G (c.fact 4 (f := .glo "checked") rfl),
    v_crowded := He.glo_ok X G (c.fact 5 (f := .glo "crowded") rfl),
    v_chosen := He.glo_ok X G (c.fact 6 (f := .glo "chosen") rfl),
    v_worth := He.glo_ok X G (c.fact 7 (f := .glo "worth") rfl),
    v_too_many := He.glo_ok X G (c.fact 14 (f := .glo "too_many") rfl),
    v_parts_parts := He.glo_ok X G (c.fact 50 (f := .glo "parts_parts") rfl),
    v_is_stiff := He.glo_ok X G (c.fact 10 (f := .glo "is_stiff") rfl),
    v_steps_building := He.glo_ok X G (c.fact 51 (f := .glo "steps_building") rfl),
    c_Frame := He.cls_ok (c.fact 52 (f := .cls "Frame") rfl),
    h_Frame := He.glo_ok X G (c.fact 53 (f := .glo "Frame") rfl),
    a_Frame__count := He.noat_ok (c.fact 54 (f := .noat "Frame" "_count") rfl),
    a_Frame__coming := He.noat_ok (c.fact 55 (f := .noat "Frame" "_coming") rfl),
    a_Frame__standing := He.noat_ok (c.fact 56 (f := .noat "Frame" "_standing") rfl) }
  obtain ⟨fd_is_number, F_is_number⟩ := c.def_ 0 (d := dd 17 "is_number") rfl
  have g_is_number : mg "is_number" = some (.ref (He.ga K "is_number")) := He.glo_ok X G (c.fact 0 (f := .glo "is_number") rfl)
  obtain ⟨fd_check_count, F_check_count⟩ := c.def_ 1 (d := dd 14 "check_count") rfl
  have g_check_count : mg "check_count" = some (.ref (He.ga K "check_count")) := He.glo_ok X G (c.fact 1 (f := .glo "check_count") rfl)
  obtain ⟨fd_is_joint, F_is_joint⟩ := c.def_ 2 (d := dd 16 "is_joint") rfl
  have g_is_joint : mg "is_joint" = some (.ref (He.ga K "is_joint")) := He.glo_ok X G (c.fact 2 (f := .glo "is_joint") rfl)
  obtain ⟨fd_is_bar, F_is_bar⟩ := c.def_ 3 (d := dd 15 "is_bar") rfl
  have g_is_bar : mg "is_bar" = some (.ref (He.ga K "is_bar")) := He.glo_ok X G (c.fact 3 (f := .glo "is_bar") rfl)
  obtain ⟨fd_checked, F_checked⟩ := c.def_ 4 (d := dd 13 "checked") rfl
  have g_checked : mg "checked" = some (.ref (He.ga K "checked")) := He.glo_ok X G (c.fact 4 (f := .glo "checked") rfl)
  obtain ⟨fd_crowded, F_crowded⟩ := c.def_ 5 (d := dd 22 "crowded") rfl
  have g_crowded : mg "crowded" = some (.ref (He.ga K "crowded")) := He.glo_ok X G (c.fact 5 (f := .glo "crowded") rfl)
  obtain ⟨fd_chosen, F_chosen⟩ := c.def_ 6 (d := dd 31 "chosen") rfl
  have g_chosen : mg "chosen" = some (.ref (He.ga K "chosen")) := He.glo_ok X G (c.fact 6 (f := .glo "chosen") rfl)
  obtain ⟨fd_worth, F_worth⟩ := c.def_ 7 (d := dd 32 "worth") rfl
  have g_worth : mg "worth" = some (.ref (He.ga K "worth")) := He.glo_ok X G (c.fact 7 (f := .glo "worth") rfl)
  obtain ⟨fd_holds, F_holds⟩ := c.def_ 8 (d := dd 34 "holds") rfl
  have g_holds : mg "holds" = some (.ref (He.ga K "holds")) := He.glo_ok X G (c.fact 8 (f := .glo "holds") rfl)
  obtain ⟨fd_parts, F_parts⟩ := c.def_ 9 (d := dd 35 "parts") rfl
  have g_parts : mg "parts" = some (.ref (He.ga K "parts")) := He.glo_ok X G (c.fact 9 (f := .glo "parts") rfl)
  obtain ⟨fd_is_stiff, F_is_stiff⟩ := c.def_ 10 (d := dd 38 "is_stiff") rfl
  have g_is_stiff : mg "is_stiff" = some (.ref (He.ga K "is_stiff")) := He.glo_ok X G (c.fact 10 (f := .glo "is_stiff") rfl)
  obtain ⟨fd_steps, F_steps⟩ := c.def_ 11 (d := dd 41 "steps") rfl
  have g_steps : mg "steps" = some (.ref (He.ga K "steps")) := He.glo_ok X G (c.fact 11 (f := .glo "steps") rfl)
  obtain ⟨fd_built, F_built⟩ := c.def_ 12 (d := dd 46 "built") rfl
  have g_built : mg "built" = some (.ref (He.ga K "built")) := He.glo_ok X G (c.fact 12 (f := .glo "built") rfl)
  obtain ⟨fd_knot, F_knot⟩ := c.def_ 13 (d := dd 52 "knot") rfl
  have g_knot : mg "knot" = some (.ref (He.ga K "knot")) := He.glo_ok X G (c.fact 13 (f := .glo "knot") rfl)
  obtain ⟨fd_too_many, F_too_many⟩ := c.def_ 14 (d := dd 54 "too_many") rfl
  have g_too_many : mg "too_many" = some (.ref (He.ga K "too_many")) := He.glo_ok X G (c.fact 14 (f := .glo "too_many") rfl)
  obtain ⟨fd_l_cell_at, F_l_cell_at⟩ := c.def_ 15 (d := dd 59 "_law_cell_at") rfl
  have g_l_cell_at : mg "_law_cell_at" = some (.ref (He.ga K "_law_cell_at")) := He.glo_ok X G (c.fact 15 (f := .glo "_law_cell_at") rfl)
  obtain ⟨fd_l_mixed, F_l_mixed⟩ := c.def_ 16 (d := dd 60 "_law_mixed") rfl
  have g_l_mixed : mg "_law_mixed" = some (.ref (He.ga K "_law_mixed")) := He.glo_ok X G (c.fact 16 (f := .glo "_law_mixed") rfl)
  obtain ⟨fd_l_free, F_l_free⟩ := c.def_ 17 (d := dd 61 "_law_free") rfl
  have g_l_free : mg "_law_free" = some (.ref (He.ga K "_law_free")) := He.glo_ok X G (c.fact 17 (f := .glo "_law_free") rfl)
  obtain ⟨fd_l_kind, F_l_kind⟩ := c.def_ 18 (d := dd 62 "_law_kind") rfl
  have g_l_kind : mg "_law_kind" = some (.ref (He.ga K "_law_kind")) := He.glo_ok X G (c.fact 18 (f := .glo "_law_kind") rfl)
  obtain ⟨fd_l_asked, F_l_asked⟩ := c.def_ 19 (d := dd 63 "_law_asked") rfl
  have g_l_asked : mg "_law_asked" = some (.ref (He.ga K "_law_asked")) := He.glo_ok X G (c.fact 19 (f := .glo "_law_asked") rfl)
  obtain ⟨fd_Frame___init__, F_Frame___init__⟩ := c.def_ 20 (d := dm 57 0 "Frame" "__init__" "Frame.__init__") rfl
  have g_Frame___init__ := He.mkr_ok (c.fact 20 (f := .mkr "Frame") rfl)
  obtain ⟨fd_l_made, F_l_made⟩ := c.def_ 21 (d := dd 64 "_law_made") rfl
  have g_l_made : mg "_law_made" = some (.ref (He.ga K "_law_made")) := He.glo_ok X G (c.fact 21 (f := .glo "_law_made") rfl)
  obtain ⟨fd_l_bad_bar, F_l_bad_bar⟩ := c.def_ 22 (d := dd 65 "_law_bad_bar") rfl
  have g_l_bad_bar : mg "_law_bad_bar" = some (.ref (He.ga K "_law_bad_bar")) := He.glo_ok X G (c.fact 22 (f := .glo "_law_bad_bar") rfl)
  obtain ⟨fd_law, F_law⟩ := c.def_ 23 (d := dd 66 "law") rfl
  have g_law : mg "law" = some (.ref (He.ga K "law")) := He.glo_ok X G (c.fact 23 (f := .glo "law") rfl)
  have e := hfa.symm.trans g_law
  cases e
  refine ⟨fd_law, fun s v => FunD.bindsA (ps := ["_law_script"]) F_law (fun _ _ _ _ _ _ us hl => match us, hl with | [_], _ => rfl) s [v] rfl, fun base _ _ => ?_⟩
  have C_is_number := ok_is_number (P := P) (w := w) (base := base) F_is_number g_is_number M 
  have C_check_count := ok_check_count (P := P) (w := w) (base := base) F_check_count g_check_count M C_is_number
  have B_check_count := okb_check_count (P := P) (w := w) (base := base) F_check_count g_check_count M C_is_number
  have X_check_count := okx_check_count (P := P) (w := w) (base := base) F_check_count g_check_count M C_is_number
  have C_is_joint := ok_is_joint (P := P) (w := w) (base := base) F_is_joint g_is_joint M C_is_number
  have C_is_bar := ok_is_bar (P := P) (w := w) (base := base) F_is_bar g_is_bar M C_is_joint
  have C_checked := ok_checked (P := P) (w := w) (base := base) F_checked g_checked M C_check_count B_check_count C_is_bar
  have B_checked := okb_checked (P := P) (w := w) (base := base) F_checked g_checked M C_check_count B_check_count C_is_bar
  have X_checked := okx_checked (P := P) (w := w) (base := base) F_checked g_checked M C_check_count B_check_count C_is_bar
  have X_crowded := okx_crowded (P := P) (w := w) (base := base) F_crowded g_crowded M X_checked
  have X_chosen := okx_chosen (P := P) (w := w) (base := base) F_chosen g_chosen M X_checked
  have X_worth := okx_worth (P := P) (w := w) (base := base) F_worth g_worth M X_chosen
  have X_holds := okx_holds (P := P) (w := w) (base := base) F_holds g_holds M X_checked
  have X_parts := okx_parts (P := P) (w := w) (base := base) F_parts g_parts M X_checked
  have e_parts_parts : He.ga K "parts_parts" = He.ga K "parts" := of_decide_eq_true (by have hx := hx; unfold exK at hx; simp only [Bool.and_eq_true] at hx; exact hx.1.2)
  have X_parts_parts : Cal P w K mg base (L2N.CX P w) 5 "parts_parts" ["count", "bars"] (spY K Rx_parts) := by
    obtain ⟨fz, fdz, Fz, gz, kz, bz⟩ := X_parts
    exact ⟨fz, fdz, Fz, by rw [He.glo_ok X G (c.fact 50 (f := .glo "parts_parts") rfl), e_parts_parts, ← g_parts]; exact gz, kz, bz⟩
  have X_is_stiff := okx_is_stiff (P := P) (w := w) (base := base) F_is_stiff g_is_stiff M X_worth
  have X_steps := okx_steps (P := P) (w := w) (base := base) F_steps g_steps M X_checked
  have e_steps_building : He.ga K "steps_building" = He.ga K "steps" := of_decide_eq_true (by have hx := hx; unfold exK at hx; simp only [Bool.and_eq_true] at hx; exact hx.2)
  have X_steps_building : Cal P w K mg base (L2N.CX P w) 5 "steps_building" ["count", "bars"] (spY K Rx_steps) := by
    obtain ⟨fz, fdz, Fz, gz, kz, bz⟩ := X_steps
    exact ⟨fz, fdz, Fz, by rw [He.glo_ok X G (c.fact 51 (f := .glo "steps_building") rfl), e_steps_building, ← g_steps]; exact gz, kz, bz⟩
  have X_built := okx_built (P := P) (w := w) (base := base) F_built g_built M X_check_count
  have X_knot := okx_knot (P := P) (w := w) (base := base) F_knot g_knot M X_checked
  have e_knot_knots : He.ga K "knot_knots" = He.ga K "knot" := of_decide_eq_true (by have hx := hx; unfold exK at hx; simp only [Bool.and_eq_true] at hx; exact hx.1.1.2)
  have X_knot_knots : Cal P w K mg base (L2N.CX P w) 5 "knot_knots" ["count", "bars", "number"] (spY K Rx_knot) := by
    obtain ⟨fz, fdz, Fz, gz, kz, bz⟩ := X_knot
    exact ⟨fz, fdz, Fz, by rw [He.glo_ok X G (c.fact 49 (f := .glo "knot_knots") rfl), e_knot_knots, ← g_knot]; exact gz, kz, bz⟩
  have X_too_many := okx_too_many (P := P) (w := w) (base := base) F_too_many g_too_many M X_checked
  have C_l_cell_at := ok_l_cell_at (P := P) (w := w) (base := base) F_l_cell_at g_l_cell_at M 
  have C_l_mixed := ok_l_mixed (P := P) (w := w) (base := base) F_l_mixed g_l_mixed M 
  have C_l_free := ok_l_free (P := P) (w := w) (base := base) F_l_free g_l_free M C_l_mixed C_l_cell_at
  have E_l_kind := ok_l_kind (P := P) (w := w) F_l_kind g_l_kind M 
  have C_l_asked := ok_l_asked (P := P) (w := w) (base := base) F_l_asked g_l_asked M X_holds X_knot_knots E_l_kind B_checked X_crowded X_chosen X_worth X_too_many X_parts_parts X_is_stiff X_steps_building
  have D_l_asked := ok2_l_asked (P := P) (w := w) (base := base) F_l_asked g_l_asked M X_holds X_knot_knots E_l_kind B_checked X_crowded X_chosen X_worth X_too_many X_parts_parts X_is_stiff X_steps_building
  have X_Frame___init__ := okx_Frame___init__ (P := P) (w := w) (base := base) F_Frame___init__ g_Frame___init__ M X_check_count
  have C_l_made := ok_l_made (P := P) (w := w) (base := base) F_l_made g_l_made M X_Frame___init__ X_built E_l_kind
  have C_l_bad_bar := ok_l_bad_bar (P := P) (w := w) (base := base) F_l_bad_bar g_l_bad_bar M 
  exact ok_law F_law g_law M C_l_free C_l_cell_at C_l_bad_bar C_l_asked D_l_asked C_l_made
end A
open PySem PySem.W PySem.Calls PyProof.Rows
set_option maxHeartbeats 0 in
theorem PySem.Challenge.cw_stiffbars_k02_frames_refused_holds : PySem.Challenge.rw_stiffbars_k02_frames_refused.Holds := by
  w_on; o_law
  refine HandSHeadRun.head_any (r := A.R) (q := view A.R.prog [66]) (H := A.hk) (ob := A.ob) (M := 8000) (loose := A.loose) (d := HandSHeadRun.topDef A.R.prog 66) (kwd := []) A.ob_eq
    (by kernel_rfl) (fun s => by kernel_rfl) A.run (by kernel_rfl) (by kernel_rfl) (by kernel_rfl) (by rfl) (by first | assumption | decide +kernel) (by decide +kernel) ⟨rfl, rfl, rfl, rfl, rfl, by decide +kernel⟩ ?hw ?hc
  case hw => w_witness2
  case hc =>
    refine L2.walk_ofE (l := PySem.Challenge.rw_stiffbars_k02_frames_refused) (n := 63) (k := 9) (x := "_law_script") (CX := L2.CX0) rfl (by decide) (by kernel_rfl) ⟨rfl, by decide, by decide⟩ ?F (fun _ _ _ _ z => z)
    intro w mg fa h Y G hmg0
    obtain ⟨K, KX, c⟩ := Y
    have hxx := c.more
    have ht0 := c.t.tab 0
    have c := c.t.d
    have hmg : mg ("law" : PySem.Str) = some (.ref fa) := by
      have e : (HandSHeadRun.topDef A.R.prog 66).name = ("law" : PySem.Str) := by kernel_rfl
      rw [← e]
      exact hmg0
    obtain ⟨fd, hb, hF⟩ := A.facts (P := (PySem.Challenge.rw_stiffbars_k02_frames_refused).prog) (w := w) KX G hmg c hxx ht0
    exact ⟨K, fd, Pl.spD K A.R_law, KX, hb, fun H a ns hl _ hS => ⟨H, [.ro ns], .bl true, Evl.Ex.refl H, .cons (.ro hS) .nil, .mk ns hl, fun v _ _ _ r => by cases r; rfl⟩, hF⟩

