import PyProof.Rows.All
import Wide.All
import OpenK.AllK
import Wide.FinOn
import HandS.ForMost
import HandS.Evl
import HandS.IsInst
import HandS.Strs
import HandS.Defaults
import HandS.SortInts
import HandS.HeadEnd
import HandS.HeadHook1
import HandS.HeadHook2
import HandS.SetBool
import KE.KStateDown
import HandS.Exc
import HandS.ExcOwn
import HandS.WordsExc
import HandS.Head0
import HandS.Head1
import HandS.Head2
import PySem.Challenge.RW_stiffbars_k01_among
set_option Elab.async false
set_option linter.all false
set_option maxRecDepth 100000
set_option maxHeartbeats 8000000
/-! Values as plain data, apart from where they stand: what an expression evaluates to, given the data in the slots. -/
namespace Pl
open PySem PySem.Spec PyProof.Rows L2
open Evl (Ex)

inductive D where
  | non | bl (b : Bool) | int (i : Int) | str (s : Str) | adr (a : Addr) | ty (n : String) | ro (ns : List Int) | lst (ds : List D) | tup (ds : List D)

mutual
/-- v stands for the data d, by what the part S of the heap holds -/
inductive Rd (K : PySem.W.Frag) (S : Hp) : V → D → Prop
  | non : Rd K S .non .non
  | bl (b : Bool) : Rd K S (.bl b) (.bl b)
  | int (i : Int) : Rd K S (.int i) (.int i)
  | str (x : Str) : Rd K S (.str x) (.str x)
  | adr (a : Addr) : Rd K S (.ref a) (.adr a)
  | ty (n : String) : Rd K S (.ty n) (.ty n)
  | ro {a : Addr} {ns : List Int} : SqL K S a (ns.map V.int) → Rd K S (.ref a) (.ro ns)
  | lst {a : Addr} {xs : List V} {ds : List D} : S a = some (.lst xs) → RdL K S xs ds → Rd K S (.ref a) (.lst ds)
  | tup {a : Addr} {xs : List V} {ds : List D} : S a = some (.tup xs) → RdL K S xs ds → Rd K S (.ref a) (.tup ds)
inductive RdL (K : PySem.W.Frag) (S : Hp) : List V → List D → Prop
  | nil : RdL K S [] []
  | cons {v : V} {vs : List V} {d : D} {ds : List D} : Rd K S v d → RdL K S vs ds → RdL K S (v :: vs) (d :: ds)
end

section
variable {K : PySem.W.Frag} {S S' S2 H H' H2 : Hp}
mutual
theorem Rd.mono (e : Ex S S') : ∀ {v : V} {d : D}, Rd K S v d → Rd K S' v d
  | _, _, .non => .non
  | _, _, .bl b => .bl b
  | _, _, .int i => .int i
  | _, _, .str x => .str x
  | _, _, .adr a => .adr a
  | _, _, .ty n => .ty n
  | _, _, .ro h => .ro (Evl.ex_l e h)
  | _, _, .lst h r => .lst (e _ _ h) (RdL.mono e r)
  | _, _, .tup h r => .tup (e _ _ h) (RdL.mono e r)
theorem RdL.mono (e : Ex S S') : ∀ {vs : List V} {ds : List D}, RdL K S vs ds → RdL K S' vs ds
  | _, _, .nil => .nil
  | _, _, .cons h r => .cons (Rd.mono e h) (RdL.mono e r)
end
theorem RdL.length : ∀ {vs : List V} {ds : List D}, RdL K S vs ds → vs.length = ds.length
  | _, _, .nil => rfl
  | _, _, .cons _ r => congrArg (· + 1) r.length
theorem RdL.append : ∀ {vs ws : List V} {ds es : List D}, RdL K S vs ds → RdL K S ws es → RdL K S (vs ++ ws) (ds ++ es)
  | _, _, _, _, .nil, s => s
  | _, _, _, _, .cons h r, s => .cons h (RdL.append r s)
theorem RdL.get : ∀ {vs : List V} {ds : List D} {i : Nat} {d : D}, RdL K S vs ds → ds[i]? = some d → ∃ v, vs[i]? = some v ∧ Rd K S v d
  | _, _, _, _, .nil, e => by simp at e
  | _, _, 0, _, .cons h _, e => by simp at e; subst e; exact ⟨_, rfl, h⟩
  | _, _, i + 1, _, .cons _ r, e => by
    obtain ⟨v, h1, h2⟩ := RdL.get (i := i) r (by simpa using e)
    exact ⟨v, by simpa using h1, h2⟩
theorem RdL.getV : ∀ {vs : List V} {ds : List D} {i : Nat} {v : V}, RdL K S vs ds → vs[i]? = some v → ∃ d, ds[i]? = some d ∧ Rd K S v d
  | _, _, _, _, .nil, e => by simp at e
  | _, _, 0, _, .cons h _, e => by simp at e; subst e; exact ⟨_, rfl, h⟩
  | _, _, i + 1, _, .cons _ r, e => by
    obtain ⟨v, h1, h2⟩ := RdL.getV (i := i) r (by simpa using e)
    exact ⟨v, by simpa using h1, h2⟩
theorem RdL.take : ∀ {vs : List V} {ds : List D} (n : Nat), RdL K S vs ds → RdL K S (vs.take n) (ds.take n)
  | _, _, 0, _ => .nil
  | _, _, _ + 1, .nil => .nil
  | _, _, n + 1, .cons h r => .cons h (RdL.take n r)
theorem RdL.drop : ∀ {vs : List V} {ds : List D} (n : Nat), RdL K S vs ds → RdL K S (vs.drop n) (ds.drop n)
  | _, _, 0, r => r
  | _, _, _ + 1, .nil => .nil
  | _, _, n + 1, .cons _ r => RdL.drop n r
theorem RdL.eraseIdx : ∀ {vs : List V} {ds : List D} (n : Nat), RdL K S vs ds → RdL K S (vs.eraseIdx n) (ds.eraseIdx n)
  | _, _, _, .nil => .nil
  | _, _, 0, .cons _ r => r
  | _, _, n + 1, .cons h r => .cons h (RdL.eraseIdx n r)
theorem RdL.set {v : V} {d : D} (h : Rd K S v d) : ∀ {vs : List V} {ds : List D} (n : Nat), RdL K S vs ds → RdL K S (vs.set n v) (ds.set n d)
  | _, _, _, .nil => .nil
  | _, _, 0, .cons _ r => .cons h r
  | _, _, n + 1, .cons h' r => .cons h' (RdL.set h n r)
theorem RdL.ints : ∀ {vs : List V} {ns : List Int}, RdL K S vs (ns.map D.int) → vs = ns.map V.int
  | _, [], .nil => rfl
  | _, _ :: _, .cons h r => by cases h; rw [RdL.ints r]; rfl
theorem RdL.ofInts : ∀ (ns : List Int), RdL K S (ns.map V.int) (ns.map D.int)
  | [] => .nil
  | n :: ns => .cons (.int n) (RdL.ofInts ns)
theorem RdL.bools : ∀ {vs : List V} {ns : List Bool}, RdL K S vs (ns.map D.bl) → vs = ns.map V.bl
  | _, [], .nil => rfl
  | _, _ :: _, .cons h r => by cases h; rw [RdL.bools r]; rfl

/-- from the stable part S of the heap H to S' of H': all stands, and what of H was not of S does not come into S' -/
structure Ext (S H S' H' : Hp) : Prop where
  s : Ex S S'
  h : Ex H H'
  sub : Ex S' H'
  dis : ∀ a, S a = none → H a ≠ none → S' a = none
theorem Ext.refl (e : Ex S H) : Ext S H S H := ⟨Ex.refl S, Ex.refl H, e, fun _ h _ => h⟩
theorem Ext.trans (a : Ext S H S' H') (b : Ext S' H' S2 H2) : Ext S H S2 H2 where
  s := a.s.trans b.s
  h := a.h.trans b.h
  sub := b.sub
  dis := fun p h1 h2 => b.dis p (a.dis p h1 h2) fun z => by
    cases q : H p with
    | none => exact h2 q
    | some o => rw [a.h p o q] at z; cases z
theorem sub_none (e : Ex S H) {p : Addr} (h : H p = none) : S p = none := Evl.fresh_back e h
/-- a new object that is told -/
theorem Ext.new (e : Ex S H) {p : Addr} {o : HO} (h : H p = none) : Ext S H (upd S p o) (upd H p o) where
  s := Ex.new (sub_none e h)
  h := Ex.new h
  sub := fun a u q => by
    by_cases ha : a = p
    · subst ha; rw [upd_same] at q ⊢; exact q
    · rw [upd_ne ha] at q ⊢; exact e a u q
  dis := fun a h1 h2 => by
    have ha : a ≠ p := fun z => h2 (z ▸ h)
    rw [upd_ne ha]; exact h1
/-- a new object that is not told -/
theorem Ext.hid (e : Ex S H) {p : Addr} {o : HO} (h : H p = none) : Ext S H S (upd H p o) where
  s := Ex.refl S
  h := Ex.new h
  sub := fun a u q => by
    have ha : a ≠ p := fun z => by subst z; rw [sub_none e h] at q; cases q
    rw [upd_ne ha]; exact e a u q
  dis := fun _ h1 _ => h1
/-- an object that was not of S, and stands, is told -/
theorem Ext.tell (a : Ext S H S' H') {p : Addr} {o : HO} (n : S' p = none) (h : H p = none) (q : H' p = some o) : Ext S H (upd S' p o) H' where
  s := a.s.trans (Ex.new n)
  h := a.h
  sub := fun b u z => by
    by_cases hb : b = p
    · subst hb; rw [upd_same] at z; rw [q]; exact z
    · rw [upd_ne hb] at z; exact a.sub b u z
  dis := fun b h1 h2 => by
    have hb : b ≠ p := fun z => h2 (z ▸ h)
    rw [upd_ne hb]; exact a.dis b h1 h2
end

/-! ### slots -/
inductive Sl where
  | u | k (d : D) | o (ds : List D)
abbrev Rho := List Sl
section
variable (K : PySem.W.Frag)
structure Env (S : Hp) (σ : L2.St) (ρ : Rho) : Prop where
  len : σ.length = ρ.length
  val : ∀ (i : Nat) (d : D), ρ[i]? = some (.k d) → ∃ v, σ[i]? = some (some v) ∧ Rd K S v d
def EvD (te : TE) (ρ : Rho) (d : D) : Prop := ∀ S H σ, Ex S H → Env K S σ ρ → ∀ Q : VK, (∀ v S' H', Ext S H S' H' → Rd K S' v d → Q v H') → te σ H Q
/-- a list that is made on the way, and no one else's -/
def EvF (te : TE) (ρ : Rho) (es : List D) : Prop := ∀ S H σ, Ex S H → Env K S σ ρ → ∀ Q : VK, (∀ p vs S' H', Ext S H S' H' → H p = none → S' p = none → H' p = some (.lst vs) → RdL K S' vs es → Q (.ref p) H') → te σ H Q
def EvT (tt : TT) (ρ : Rho) (b : Bool) : Prop := ∀ S H σ, Ex S H → Env K S σ ρ → ∀ Q : Bool → Hp → Prop, (∀ S' H', Ext S H S' H' → Q b H') → tt σ H Q
def EvA (ta : TA) (ρ : Rho) (ds : List D) : Prop := ∀ S H σ, Ex S H → Env K S σ ρ → ∀ Q : List V → Hp → Prop, (∀ vs S' H', Ext S H S' H' → RdL K S' vs ds → Q vs H') → ta σ H Q
def EvO (to : TO) (ρ : Rho) (o : Option Int) : Prop := ∀ S H σ, Ex S H → Env K S σ ρ → ∀ Q : Option Int → Hp → Prop, (∀ S' H', Ext S H S' H' → Q o H') → to σ H Q
/-- a two-place operation, a call by values -/
def RV (r : R2) (x y z : D) : Prop := ∀ S H v u, Ex S H → Rd K S v x → Rd K S u y → ∀ Q : VK, (∀ w S' H', Ext S H S' H' → Rd K S' w z → Q w H') → r v u H Q
def RVF (r : R2) (x y : D) (es : List D) : Prop := ∀ S H v u, Ex S H → Rd K S v x → Rd K S u y → ∀ Q : VK, (∀ p vs S' H', Ext S H S' H' → H p = none → S' p = none → H' p = some (.lst vs) → RdL K S' vs es → Q (.ref p) H') → r v u H Q
def RC (r : List V → Hp → VK → Prop) (xs : List D) (z : D) : Prop := ∀ S H vs, Ex S H → RdL K S vs xs → ∀ Q : VK, (∀ w S' H', Ext S H S' H' → Rd K S' w z → Q w H') → r vs H Q
def RCF (r : List V → Hp → VK → Prop) (xs : List D) (es : List D) : Prop := ∀ S H vs, Ex S H → RdL K S vs xs → ∀ Q : VK, (∀ p ws S' H', Ext S H S' H' → H p = none → S' p = none → H' p = some (.lst ws) → RdL K S' ws es → Q (.ref p) H') → r vs H Q
end

section
variable {K : PySem.W.Frag} {ρ : Rho} {ta tb te tx : TE} {t u : TT} {tA tR : TA} {x y z d e : D} {r : R2}
theorem Env.mono {S S' : Hp} {σ : L2.St} (e : Ex S S') (h : Env K S σ ρ) : Env K S' σ ρ := ⟨h.len, fun i d q => by
  obtain ⟨v, h1, h2⟩ := h.val i d q
  exact ⟨v, h1, h2.mono e⟩⟩
theorem EvF.data {es : List D} (h : EvF K te ρ es) : EvD K te ρ (.lst es) := fun S H σ e v Q q => h S H σ e v Q fun p vs S' H' x hp sp h' rl =>
  q (.ref p) (upd S' p (.lst vs)) H' (x.tell sp hp h') (.lst upd_same (rl.mono (Ex.new sp)))
theorem EvD.to (h : EvD K te ρ d) (e : d = x) : EvD K te ρ x := e ▸ h
theorem EvF.to {es fs : List D} (h : EvF K te ρ es) (e : es = fs) : EvF K te ρ fs := e ▸ h
theorem EvT.to {b c : Bool} (h : EvT K t ρ b) (e : b = c) : EvT K t ρ c := e ▸ h
theorem ev_var {i : Nat} (h : ρ[i]? = some (.k d)) : EvD K (tVar i) ρ d := fun S H σ e v Q q => by
  obtain ⟨w, h1, h2⟩ := v.val i d h
  exact ⟨w, h1, q w S H (Ext.refl e) h2⟩
theorem ev_int {i : Int} : EvD K (tC (.int i)) ρ (.int i) := fun S H σ e _ Q q => q _ S H (Ext.refl e) (.int i)
theorem ev_bl {b : Bool} : EvD K (tC (.bl b)) ρ (.bl b) := fun S H σ e _ Q q => q _ S H (Ext.refl e) (.bl b)
theorem ev_non : EvD K (tC .non) ρ .non := fun S H σ e _ Q q => q _ S H (Ext.refl e) .non
theorem ev_str {s : Str} : EvD K (tC (.str s)) ρ (.str s) := fun S H σ e _ Q q => q _ S H (Ext.refl e) (.str s)
theorem ev_adr {a : Addr} : EvD K (tC (.ref a)) ρ (.adr a) := fun S H σ e _ Q q => q _ S H (Ext.refl e) (.adr a)
theorem ev_ty {n : String} : EvD K (tC (.ty n)) ρ (.ty n) := fun S H σ e _ Q q => q _ S H (Ext.refl e) (.ty n)
theorem ev_op (ha : EvD K ta ρ x) (hb : EvD K tb ρ y) (hr : RV K r x y z) : EvD K (tOp r ta tb) ρ z := fun S H σ e v Q q =>
  ha S H σ e v _ fun w1 S1 H1 x1 r1 => hb S1 H1 σ x1.sub (v.mono x1.s) _ fun w2 S2 H2 x2 r2 => hr S2 H2 w1 w2 x2.sub (r1.mono x2.s) r2 Q fun w S3 H3 x3 r3 => q w S3 H3 ((x1.trans x2).trans x3) r3
theorem ev_opF {es : List D} (ha : EvD K ta ρ x) (hb : EvD K tb ρ y) (hr : RVF K r x y es) : EvF K (tOp r ta tb) ρ es := fun S H σ e v Q q =>
  ha S H σ e v _ fun w1 S1 H1 x1 r1 => hb S1 H1 σ x1.sub (v.mono x1.s) _ fun w2 S2 H2 x2 r2 => hr S2 H2 w1 w2 x2.sub (r1.mono x2.s) r2 Q fun p vs S3 H3 x3 hp sp h3 r3 =>
    q p vs S3 H3 ((x1.trans x2).trans x3) (Evl.fresh_back (x1.h.trans x2.h) hp) sp h3 r3
theorem ea_nil : EvA K tNil ρ [] := fun S H σ e _ Q q => q [] S H (Ext.refl e) .nil
theorem ea_cons {ds : List D} (h : EvD K ta ρ d) (hr : EvA K tR ρ ds) : EvA K (tCons ta tR) ρ (d :: ds) := fun S H σ e v Q q =>
  h S H σ e v _ fun w1 S1 H1 x1 r1 => hr S1 H1 σ x1.sub (v.mono x1.s) _ fun ws S2 H2 x2 r2 => q (w1 :: ws) S2 H2 (x1.trans x2) (.cons (r1.mono x2.s) r2)
theorem ev_cb {rc : List V → Hp → VK → Prop} {ds : List D} (ha : EvA K tA ρ ds) (hr : RC K rc ds z) : EvD K (tCB rc tA) ρ z := fun S H σ e v Q q =>
  ha S H σ e v _ fun ws S1 H1 x1 r1 => hr S1 H1 ws x1.sub r1 Q fun w S2 H2 x2 r2 => q w S2 H2 (x1.trans x2) r2
theorem ev_cbF {rc : List V → Hp → VK → Prop} {ds es : List D} (ha : EvA K tA ρ ds) (hr : RCF K rc ds es) : EvF K (tCB rc tA) ρ es := fun S H σ e v Q q =>
  ha S H σ e v _ fun ws S1 H1 x1 r1 => hr S1 H1 ws x1.sub r1 Q fun p us S2 H2 x2 hp sp h2 r2 => q p us S2 H2 (x1.trans x2) (Evl.fresh_back x1.h hp) sp h2 r2
theorem ev_lst {ds : List D} (ha : EvA K tA ρ ds) (hl : ds.length ≤ 100000) : EvF K (tLst tA) ρ ds := fun S H σ e v Q q =>
  ha S H σ e v _ fun ws S1 H1 x1 r1 => ⟨Evl.sz_of (by rw [r1.length]; exact hl), fun p hp => q p ws S1 (upd H1 p (.lst ws)) (x1.trans (Ext.hid x1.sub hp)) (Evl.fresh_back x1.h hp) (sub_none x1.sub hp) upd_same r1⟩
theorem ev_tup {ds : List D} (ha : EvA K tA ρ ds) (hl : ds.length ≤ 100000) : EvD K (tTup tA) ρ (.tup ds) := fun S H σ e v Q q =>
  ha S H σ e v _ fun ws S1 H1 x1 r1 => ⟨Evl.sz_of (by rw [r1.length]; exact hl), fun p hp => q (.ref p) (upd S1 p (.tup ws)) (upd H1 p (.tup ws)) (x1.trans (Ext.new x1.sub hp)) (.tup upd_same (r1.mono (Ex.new (sub_none x1.sub hp))))⟩
theorem et_test {b : Bool} (h : EvD K te ρ (.bl b)) : EvT K (tTest te) ρ b := fun S H σ e v Q q =>
  h S H σ e v _ fun w S1 H1 x1 r1 => by cases r1; exact ⟨b, rfl, q S1 H1 x1⟩
theorem et_B {b : Bool} (h : EvD K te ρ (.bl b)) : EvT K (tB te) ρ b := fun S H σ e v Q q =>
  h S H σ e v _ fun w S1 H1 x1 r1 => by cases r1; exact ⟨b, rfl, q S1 H1 x1⟩
theorem et_not {b : Bool} (h : EvT K t ρ b) : EvT K (tNot t) ρ (!b) := fun S H σ e v Q q => h S H σ e v _ fun S1 H1 x1 => q S1 H1 x1
theorem et_and {a b : Bool} (h1 : EvT K t ρ a) (h2 : a = true → EvT K u ρ b) : EvT K (tAnd t u) ρ (a && b) := fun S H σ e v Q q => h1 S H σ e v _ fun S1 H1 x1 => by
  cases a with
  | true =>
    show u σ H1 Q
    exact h2 rfl S1 H1 σ x1.sub (v.mono x1.s) Q fun S2 H2 x2 => q S2 H2 (x1.trans x2)
  | false =>
    show Q false H1
    exact q S1 H1 x1
theorem et_or {a b : Bool} (h1 : EvT K t ρ a) (h2 : a = false → EvT K u ρ b) : EvT K (tOr t u) ρ (a || b) := fun S H σ e v Q q => h1 S H σ e v _ fun S1 H1 x1 => by
  cases a with
  | true =>
    show Q true H1
    exact q S1 H1 x1
  | false =>
    show u σ H1 Q
    exact h2 rfl S1 H1 σ x1.sub (v.mono x1.s) Q fun S2 H2 x2 => q S2 H2 (x1.trans x2)
theorem et_yes : EvT K tYes ρ true := fun S H σ e v Q q => q S H (Ext.refl e)
theorem ev_andV {a : Bool} {z : D} (h1 : EvD K ta ρ (.bl a)) (h2 : a = true → EvD K tb ρ z) (h3 : a = false → z = .bl false) : EvD K (tAndV ta tb) ρ z := fun S H σ e v Q q => h1 S H σ e v _ fun w S1 H1 x1 r1 => by
  cases r1
  refine ⟨a, rfl, ?_⟩
  cases a with
  | true =>
    show tb σ H1 Q
    exact h2 rfl S1 H1 σ x1.sub (v.mono x1.s) Q fun w S2 H2 x2 r2 => q w S2 H2 (x1.trans x2) r2
  | false =>
    show Q (.bl false) H1
    rw [h3 rfl] at q
    exact q _ S1 H1 x1 (.bl false)
theorem ev_and {a b : Bool} (h1 : EvD K ta ρ (.bl a)) (h2 : a = true → EvD K tb ρ (.bl b)) : EvD K (tAndV ta tb) ρ (.bl (a && b)) :=
  ev_andV h1 (fun e => by subst e; exact h2 rfl) fun e => by subst e; rfl
theorem ev_or {a b : Bool} (h1 : EvD K ta ρ (.bl a)) (h2 : a = false → EvD K tb ρ (.bl b)) : EvD K (tOrV ta tb) ρ (.bl (a || b)) := fun S H σ e v Q q => h1 S H σ e v _ fun w S1 H1 x1 r1 => by
  cases r1
  refine ⟨a, rfl, ?_⟩
  cases a with
  | true =>
    show Q (.bl true) H1
    exact q _ S1 H1 x1 (.bl true)
  | false =>
    show tb σ H1 Q
    exact h2 rfl S1 H1 σ x1.sub (v.mono x1.s) Q fun w S2 H2 x2 r2 => q w S2 H2 (x1.trans x2) r2
theorem ev_not {a : Bool} (h1 : EvD K ta ρ (.bl a)) : EvD K (tNotV ta) ρ (.bl (!a)) := fun S H σ e v Q q => h1 S H σ e v _ fun w S1 H1 x1 r1 => by
  cases r1
  exact ⟨a, rfl, q _ S1 H1 x1 (.bl _)⟩
theorem ev_if {b : Bool} (h : EvT K t ρ b) (h1 : b = true → EvD K ta ρ d) (h2 : b = false → EvD K tb ρ d) : EvD K (tIf t ta tb) ρ d := fun S H σ e v Q q => h S H σ e v _ fun S1 H1 x1 => by
  cases b with
  | true =>
    show ta σ H1 Q
    exact h1 rfl S1 H1 σ x1.sub (v.mono x1.s) Q fun w S2 H2 x2 r2 => q w S2 H2 (x1.trans x2) r2
  | false =>
    show tb σ H1 Q
    exact h2 rfl S1 H1 σ x1.sub (v.mono x1.s) Q fun w S2 H2 x2 r2 => q w S2 H2 (x1.trans x2) r2

/-! ### operations by values -/
theorem rv_I0 {g : Int → Int → V} {i j : Int} {z : D} (h : ∀ S, Rd K S (g i j) z) : RV K (rI0 g) (.int i) (.int j) z := fun S H v u e r1 r2 Q q => by
  cases r1; cases r2
  exact ⟨i, j, rfl, rfl, q _ S H (Ext.refl e) (h S)⟩
theorem rv_I {C : Int → Int → Prop} {g : Int → Int → V} {i j : Int} {z : D} (hc : C i j) (h : ∀ S, Rd K S (g i j) z) : RV K (rI C g) (.int i) (.int j) z := fun S H v u e r1 r2 Q q => by
  cases r1; cases r2
  exact ⟨i, j, rfl, rfl, hc, q _ S H (Ext.refl e) (h S)⟩
theorem atI_get {α : Type} {xs : List α} {i : Int} {x : α} (h : atI xs i = some x) : ∃ j, ixN xs.length i = some j ∧ xs[j]? = some x := by
  unfold atI at h
  cases e : ixN xs.length i with
  | none => rw [e] at h; cases h
  | some j => rw [e] at h; exact ⟨j, rfl, h⟩
theorem atI_of {α : Type} {xs : List α} {i : Int} {j : Nat} {x : α} (h : ixN xs.length i = some j) (e : xs[j]? = some x) : atI xs i = some x := by
  unfold atI
  rw [h]
  exact e
theorem RdL.at {S : Hp} {vs : List V} {ds : List D} {i : Int} {d : D} (h : RdL K S vs ds) (e : atI ds i = some d) : ∃ v, atI vs i = some v ∧ Rd K S v d := by
  obtain ⟨j, h1, h2⟩ := atI_get e
  obtain ⟨v, h3, h4⟩ := h.get h2
  exact ⟨v, atI_of (by rw [h.length]; exact h1) h3, h4⟩
theorem rv_ixL {ds : List D} {i : Int} {d : D} (h : atI ds i = some d) : RV K (rIx K) (.lst ds) (.int i) d := fun S H v u e r1 r2 Q q => by
  cases r1 with
  | lst ha rl =>
    cases r2
    obtain ⟨w, h1, h2⟩ := rl.at h
    exact .inl ⟨_, _, i, w, rfl, rfl, Evl.sq_of (e _ _ ha), h1, q w S H (Ext.refl e) h2⟩
theorem rv_ixT {ds : List D} {i : Int} {d : D} (h : atI ds i = some d) : RV K (rIx K) (.tup ds) (.int i) d := fun S H v u e r1 r2 Q q => by
  cases r1 with
  | tup ha rl =>
    cases r2
    obtain ⟨w, h1, h2⟩ := rl.at h
    exact .inr (.inl ⟨_, _, i, w, rfl, rfl, Evl.st_of (e _ _ ha), h1, q w S H (Ext.refl e) h2⟩)
theorem rv_ixR {ns : List Int} {i n : Int} (h : atI ns i = some n) : RV K (rIx K) (.ro ns) (.int i) (.int n) := fun S H v u e r1 r2 Q q => by
  cases r1 with
  | ro ha =>
    cases r2
    obtain ⟨j, h1, h2⟩ := atI_get h
    exact .inl ⟨_, _, i, .int n, rfl, rfl, Evl.ex_l e ha, atI_of (by rw [List.length_map]; exact h1) (by rw [List.getElem?_map, h2]; rfl), q _ S H (Ext.refl e) (.int n)⟩
/-- `+` of ints, lists, tuples -/
def rPlus (K : PySem.W.Frag) : R2 := fun x y H Q => rI0 (fun i j => .int (i + j)) x y H Q ∨ rCat x y H Q ∨ rCatT K x y H Q
theorem op_plus {X : Cx} : OpR X (binaryOp .Add) (rPlus X.K) := fun pins s σ H x y v u Q I rx ry h => by
  rcases h with h | h | h
  · exact op_add pins s σ H x y v u Q I rx ry h
  · exact op_cat pins s σ H x y v u Q I rx ry h
  · exact op_catT pins s σ H x y v u Q I rx ry h
theorem rv_plusI {i j : Int} : RV K (rPlus K) (.int i) (.int j) (.int (i + j)) := fun S H v u e r1 r2 Q q => .inl (rv_I0 (fun S => .int _) S H v u e r1 r2 Q q)
theorem rvF_plus {xs ys : List D} (hl : xs.length + ys.length ≤ 100000) : RVF K (rPlus K) (.lst xs) (.lst ys) (xs ++ ys) := fun S H v u e r1 r2 Q q => by
  cases r1 with
  | lst ha rl =>
    cases r2 with
    | lst hb rl2 =>
      exact .inr (.inl ⟨_, _, _, _, rfl, rfl, e _ _ ha, e _ _ hb, Evl.sz_of (by rw [rl.length, rl2.length]; exact hl), fun p hp => q p _ S _ (Ext.hid e hp) hp (sub_none e hp) upd_same (rl.append rl2)⟩)
theorem rv_plusT {xs ys : List D} (hn : xs ≠ []) (hl : xs.length + ys.length ≤ 100000) : RV K (rPlus K) (.tup xs) (.tup ys) (.tup (xs ++ ys)) := fun S H v u e r1 r2 Q q => by
  cases r1 with
  | tup ha rl =>
    cases r2 with
    | tup hb rl2 =>
      refine .inr (.inr ⟨_, _, _, _, rfl, rfl, Evl.st_of (e _ _ ha), Evl.st_of (e _ _ hb), fun z => ?_, Evl.sz_of (by rw [rl.length, rl2.length]; exact hl), fun z => ?_, fun z p hp => ?_⟩)
      · subst z; cases rl; exact hn rfl
      · subst z
        cases rl2
        rw [List.append_nil] at q
        exact q _ S H (Ext.refl e) (.tup ha rl)
      · exact q _ _ _ (Ext.new e hp) (.tup upd_same ((rl.append rl2).mono (Ex.new (sub_none e hp))))
/-! ### calls by values -/
def rLen (K : PySem.W.Frag) : List V → Hp → VK → Prop := fun xs H Q => ∃ p ys, xs = [.ref p] ∧ (SqL K H p ys ∨ SqT K H p ys) ∧ Q (.int ys.length) H
theorem cr_len {X : Cx} : CallR X (.builtin "len") (rLen X.K) := call_len_seq
theorem rc_lenL {ds : List D} : RC K (rLen K) [.lst ds] (.int (ds.length : Int)) := fun S H vs e r Q q => by
  cases r with
  | cons h t =>
    cases t
    cases h with
    | lst ha rl => exact ⟨_, _, rfl, .inl (Evl.sq_of (e _ _ ha)), by rw [rl.length]; exact q _ S H (Ext.refl e) (.int _)⟩
theorem rc_lenT {ds : List D} : RC K (rLen K) [.tup ds] (.int (ds.length : Int)) := fun S H vs e r Q q => by
  cases r with
  | cons h t =>
    cases t
    cases h with
    | tup ha rl => exact ⟨_, _, rfl, .inr (Evl.st_of (e _ _ ha)), by rw [rl.length]; exact q _ S H (Ext.refl e) (.int _)⟩
theorem rc_lenR {ns : List Int} : RC K (rLen K) [.ro ns] (.int (ns.length : Int)) := fun S H vs e r Q q => by
  cases r with
  | cons h t =>
    cases t
    cases h with
    | ro ha => exact ⟨_, _, rfl, .inl (Evl.ex_l e ha), by rw [List.length_map]; exact q _ S H (Ext.refl e) (.int _)⟩
def rListOf (K : PySem.W.Frag) : List V → Hp → VK → Prop := fun xs H Q => ∃ p ys, xs = [.ref p] ∧ (SqL K H p ys ∨ SqT K H p ys) ∧ ∀ l, H l = none → Q (.ref l) (upd H l (.lst ys))
theorem cr_listOf {X : Cx} : CallR X (.type "list") (rListOf X.K) := call_list_of
theorem rc_listL {ds : List D} : RCF K (rListOf K) [.lst ds] ds := fun S H vs e r Q q => by
  cases r with
  | cons h t =>
    cases t
    cases h with
    | lst ha rl => exact ⟨_, _, rfl, .inl (Evl.sq_of (e _ _ ha)), fun p hp => q p _ S _ (Ext.hid e hp) hp (sub_none e hp) upd_same rl⟩
theorem rc_listT {ds : List D} : RCF K (rListOf K) [.tup ds] ds := fun S H vs e r Q q => by
  cases r with
  | cons h t =>
    cases t
    cases h with
    | tup ha rl => exact ⟨_, _, rfl, .inr (Evl.st_of (e _ _ ha)), fun p hp => q p _ S _ (Ext.hid e hp) hp (sub_none e hp) upd_same rl⟩
theorem rc_listR {ns : List Int} : RCF K (rListOf K) [.ro ns] (ns.map D.int) := fun S H vs e r Q q => by
  cases r with
  | cons h t =>
    cases t
    cases h with
    | ro ha => exact ⟨_, _, rfl, .inl (Evl.ex_l e ha), fun p hp => q p _ S _ (Ext.hid e hp) hp (sub_none e hp) upd_same (RdL.ofInts ns)⟩
/-- all(..) of a list of truth values -/
theorem rc_all {bs : List Bool} : RC K (rAll K) [.lst (bs.map D.bl)] (.bl (bs.all id)) := fun S H vs e r Q q => by
  cases r with
  | cons h t =>
    cases t
    cases h with
    | lst ha rl =>
      have z := rl.bools
      subst z
      exact ⟨_, bs, rfl, Evl.sq_of (e _ _ ha), q _ S H (Ext.refl e) (.bl _)⟩
end

/-! ### a def's promise by data -/
section
variable (K : PySem.W.Frag)
def spD (Rel : List D → D → Prop) : Sp := fun vs H Q _ => ∃ S ds d, Ex S H ∧ RdL K S vs ds ∧ Rel ds d ∧ ∀ v S' H', Ext S H S' H' → Rd K S' v d → Q v H'
/-- it hands back a list that is no one else's -/
def spF (Rel : List D → List D → Prop) : Sp := fun vs H Q _ => ∃ S ds es, Ex S H ∧ RdL K S vs ds ∧ Rel ds es ∧ ∀ p ws S' H', Ext S H S' H' → H p = none → S' p = none → H' p = some (.lst ws) → RdL K S' ws es → Q (.ref p) H'
end
section
variable {K : PySem.W.Frag} {ρ : Rho} {tA : TA} {E : XK}
theorem ev_call {Rel : List D → D → Prop} {ds : List D} {d : D} (ha : EvA K tA ρ ds) (hr : Rel ds d) : EvD K (tCall (spD K Rel) [] E tA) ρ d := fun S H σ e v Q q =>
  ha S H σ e v _ fun ws S1 H1 x1 r1 => ⟨S1, ds, d, x1.sub, by rw [List.append_nil]; exact r1, hr, fun w S2 H2 x2 r2 => q w S2 H2 (x1.trans x2) r2⟩
theorem ev_callF {Rel : List D → List D → Prop} {ds es : List D} (ha : EvA K tA ρ ds) (hr : Rel ds es) : EvF K (tCall (spF K Rel) [] E tA) ρ es := fun S H σ e v Q q =>
  ha S H σ e v _ fun ws S1 H1 x1 r1 => ⟨S1, ds, es, x1.sub, by rw [List.append_nil]; exact r1, hr, fun p us S2 H2 x2 hp sp h2 r2 => q p us S2 H2 (x1.trans x2) (Evl.fresh_back x1.h hp) sp h2 r2⟩
end
end Pl

/-! Values as plain data: kinds, ==, in, slices, walks, comprehensions. -/
namespace Pl
open PySem PySem.Spec PyProof.Rows L2
open Evl (Ex)

/-! ### kinds -/
def D.kind : D → String
  | .non => "NoneType" | .bl _ => "bool" | .int _ => "int" | .str _ => "str" | .adr _ => "?" | .ty _ => "?" | .ro _ => "list" | .lst _ => "list" | .tup _ => "tuple"
section
variable {K : PySem.W.Frag} {ρ : Rho}
theorem Rd.ty_of {S H : Hp} {v : V} {d : D} (e : Ex S H) (h : Rd K S v d) (hk : d.kind ≠ "?") : TyX K H v (.type d.kind) := by
  cases h with
  | non => exact .base .non
  | bl b => exact .base (.bl b)
  | int i => exact .base (.int i)
  | str x => exact .base (.str x)
  | adr a => exact absurd rfl hk
  | ty a => exact absurd rfl hk
  | ro h =>
    rcases Evl.ex_l e h with (h | ⟨o, h⟩) | ⟨o, its, n, h1, h2, _⟩
    · exact .base (.lst h)
    · exact .base (.frz h)
    · exact .kList h1 h2
  | lst h _ => exact .base (.lst (e _ _ h))
  | tup h _ => exact .base (.tup (e _ _ h))
theorem rc_isi {x : D} {T : String} {b : Bool} (h : kitB x.kind T = some b) (hk : x.kind ≠ "?") : RC K (rIsi K) [x, .ty T] (.bl b) := fun S H vs e r Q q => by
  cases r with
  | cons h1 t1 =>
    cases t1 with
    | cons h2 t2 =>
      cases t2
      cases h2
      exact ⟨_, _, _, _, b, rfl, .ty T, h1.ty_of e hk, kit_ty h, q _ S H (Ext.refl e) (.bl b)⟩

/-! ### equality -/
mutual
def D.py : D → PyData
  | .non => .none | .bl b => .bool b | .int i => .int i | .str s => .str s | .adr _ => .none | .ty _ => .none | .ro ns => .list (ns.map PyData.int)
  | .lst ds => .list (pyL ds) | .tup ds => .tuple (pyL ds)
def pyL : List D → List PyData
  | [] => []
  | d :: ds => d.py :: pyL ds
end
theorem pyL_map (ds : List D) : pyL ds = ds.map D.py := by
  induction ds with
  | nil => rfl
  | cons d ds ih => rw [pyL, ih]; rfl
/-- data that == may be asked of: at most n deep -/
def D.okd : Nat → D → Bool
  | _, .non => true | _, .bl _ => true | _, .int _ => true | _, .str s => PyData.strOk s | _, .adr _ => false | _, .ty _ => false
  | 0, _ => false
  | _ + 1, .ro _ => true
  | n + 1, .lst ds => ds.all (D.okd n)
  | n + 1, .tup ds => ds.all (D.okd n)
theorem depthAll_le : ∀ (xs : List PyData) (n : Nat), (∀ x ∈ xs, x.depth ≤ n) → PyData.depthAll xs ≤ n
  | [], n, _ => by simp [PyData.depthAll]
  | x :: xs, n, h => by
    have h1 := h x List.mem_cons_self
    have h2 := depthAll_le xs n fun y hy => h y (List.mem_cons_of_mem _ hy)
    simp only [PyData.depthAll]
    omega
theorem canLayAll_of : ∀ (xs : List PyData), (∀ x ∈ xs, x.canLay0 = true) → PyData.canLayAll0 xs = true
  | [], _ => by simp [PyData.canLayAll0]
  | x :: xs, h => by
    simp only [PyData.canLayAll0, Bool.and_eq_true]
    exact ⟨h x List.mem_cons_self, canLayAll_of xs fun y hy => h y (List.mem_cons_of_mem _ hy)⟩
theorem okd_shape : ∀ (n : Nat) (d : D), d.okd n = true → d.py.canLay0 = true ∧ d.py.depth ≤ n
  | n, .non, _ => ⟨by simp [D.py, PyData.canLay0], by simp [D.py, PyData.depth]⟩
  | n, .bl _, _ => ⟨by simp [D.py, PyData.canLay0], by simp [D.py, PyData.depth]⟩
  | n, .int _, _ => ⟨by simp [D.py, PyData.canLay0], by simp [D.py, PyData.depth]⟩
  | n, .str s, h => ⟨by cases n <;> simpa [D.py, PyData.canLay0, D.okd] using h, by simp [D.py, PyData.depth]⟩
  | n, .adr _, h => by cases n <;> simp [D.okd] at h
  | n, .ty _, h => by cases n <;> simp [D.okd] at h
  | 0, .ro _, h => by simp [D.okd] at h
  | 0, .lst _, h => by simp [D.okd] at h
  | 0, .tup _, h => by simp [D.okd] at h
  | n + 1, .ro ns, _ => by
    refine ⟨?_, ?_⟩
    · simp only [D.py, PyData.canLay0]
      exact canLayAll_of _ fun x hx => by
        obtain ⟨i, _, rfl⟩ := List.mem_map.mp hx
        simp [PyData.canLay0]
    · simp only [D.py, PyData.depth]
      have := depthAll_le (ns.map PyData.int) 0 fun x hx => by
        obtain ⟨i, _, rfl⟩ := List.mem_map.mp hx
        simp [PyData.depth]
      omega
  | n + 1, .lst ds, h => by
    have hh : ∀ d ∈ ds, d.okd n = true := by simpa [D.okd] using h
    have ih := fun d hd => okd_shape n d (hh d hd)
    refine ⟨?_, ?_⟩
    · simp only [D.py, PyData.canLay0, pyL_map]
      exact canLayAll_of _ fun x hx => by
        obtain ⟨d, hd, rfl⟩ := List.mem_map.mp hx
        exact (ih d hd).1
    · simp only [D.py, PyData.depth, pyL_map]
      have := depthAll_le (ds.map D.py) n fun x hx => by
        obtain ⟨d, hd, rfl⟩ := List.mem_map.mp hx
        exact (ih d hd).2
      omega
  | n + 1, .tup ds, h => by
    have hh : ∀ d ∈ ds, d.okd n = true := by simpa [D.okd] using h
    have ih := fun d hd => okd_shape n d (hh d hd)
    refine ⟨?_, ?_⟩
    · simp only [D.py, PyData.canLay0, pyL_map]
      exact canLayAll_of _ fun x hx => by
        obtain ⟨d, hd, rfl⟩ := List.mem_map.mp hx
        exact (ih d hd).1
    · simp only [D.py, PyData.depth, pyL_map]
      have := depthAll_le (ds.map D.py) n fun x hx => by
        obtain ⟨d, hd, rfl⟩ := List.mem_map.mp hx
        exact (ih d hd).2
      omega
theorem okd_shaped {d : D} (h : d.okd 60 = true) : SeqAt.shaped d.py = true := by
  obtain ⟨h1, h2⟩ := okd_shape 60 d h
  unfold SeqAt.shaped
  rw [h1, decide_eq_true (by omega : d.py.depth ≤ 64)]
  rfl
theorem dpAll_ints {H : Hp} : ∀ (ns : List Int), DpAll K H (ns.map V.int) (ns.map PyData.int)
  | [] => .nil
  | n :: ns => .cons (.int n) (dpAll_ints ns)
theorem dpL {S : Hp} {n : Nat} (ih : ∀ (v : V) (d : D), d.okd n = true → Rd K S v d → Dp K S v d.py) : ∀ (vs : List V) (ds : List D), (∀ d ∈ ds, d.okd n = true) → RdL K S vs ds → DpAll K S vs (pyL ds)
  | _, [], _, .nil => .nil
  | _, _ :: ds, h, .cons (vs := vs) hd r => .cons (ih _ _ (h _ List.mem_cons_self) hd) (dpL ih vs ds (fun d hd => h d (List.mem_cons_of_mem _ hd)) r)
theorem Rd.dp {S : Hp} (n : Nat) : ∀ (v : V) (d : D), d.okd n = true → Rd K S v d → Dp K S v d.py := by
  induction n with
  | zero =>
    intro v d h r
    cases r with
    | non => exact .non
    | bl b => exact .bl b
    | int i => exact .int i
    | str x => exact .str x
    | adr a => simp [D.okd] at h
    | ty a => simp [D.okd] at h
    | ro h' => simp [D.okd] at h
    | lst _ _ => simp [D.okd] at h
    | tup _ _ => simp [D.okd] at h
  | succ n ih =>
    intro v d h r
    cases r with
    | non => exact .non
    | bl b => exact .bl b
    | int i => exact .int i
    | str x => exact .str x
    | adr a => simp [D.okd] at h
    | ty a => simp [D.okd] at h
    | ro h' => exact .lst h' (dpAll_ints _)
    | lst ha r => exact .lst (Evl.sq_of ha) (dpL ih _ _ (by simpa [D.okd] using h) r)
    | tup ha r => exact .tup (Evl.st_of ha) (dpL ih _ _ (by simpa [D.okd] using h) r)
/-- no truth values in it: then == is equality -/
def D.sm : Nat → D → Bool
  | _, .non => true | _, .bl _ => false | _, .int _ => true | _, .str _ => true | _, .adr _ => false | _, .ty _ => false
  | 0, _ => false
  | _ + 1, .ro _ => false
  | n + 1, .lst ds => ds.all (D.sm n)
  | n + 1, .tup ds => ds.all (D.sm n)
theorem eqvAll_iff {n : Nat} (ih : ∀ x y : D, x.sm n = true → y.sm n = true → (PyData.eqv x.py y.py = true ↔ x = y)) : ∀ (xs ys : List D), (∀ x ∈ xs, x.sm n = true) → (∀ y ∈ ys, y.sm n = true) → (PyData.eqvAll (pyL xs) (pyL ys) = true ↔ xs = ys)
  | [], [], _, _ => by simp [pyL, PyData.eqvAll]
  | [], _ :: _, _, _ => by simp [pyL, PyData.eqvAll]
  | _ :: _, [], _, _ => by simp [pyL, PyData.eqvAll]
  | x :: xs, y :: ys, hx, hy => by
    have h1 := ih x y (hx x List.mem_cons_self) (hy y List.mem_cons_self)
    have h2 := eqvAll_iff ih xs ys (fun z hz => hx z (List.mem_cons_of_mem _ hz)) (fun z hz => hy z (List.mem_cons_of_mem _ hz))
    simp only [pyL, PyData.eqvAll, Bool.and_eq_true, h1, h2, List.cons.injEq]
theorem eqv_iff : ∀ (n : Nat) (x y : D), x.sm n = true → y.sm n = true → (PyData.eqv x.py y.py = true ↔ x = y)
  | 0, x, y, hx, hy => by
    cases x <;> simp [D.sm] at hx <;> cases y <;> simp [D.sm] at hy <;> simp [D.py, PyData.eqv]
  | n + 1, x, y, hx, hy => by
    have ih := eqv_iff n
    cases x <;> simp [D.sm] at hx <;> cases y <;> simp [D.sm] at hy <;> simp [D.py, PyData.eqv]
    · exact eqvAll_iff ih _ _ hx hy
    · exact eqvAll_iff ih _ _ hx hy
theorem eqv_dec {x y : D} {b : Bool} (hx : x.sm 60 = true) (hy : y.sm 60 = true) (h : b = true ↔ x = y) : PyData.eqv x.py y.py = b := by
  have e := eqv_iff 60 x y hx hy
  cases b with
  | true => exact e.mpr (h.mp rfl)
  | false =>
    cases q : PyData.eqv x.py y.py with
    | false => rfl
    | true => exact absurd (h.mpr (e.mp q)) (by decide)
theorem rv_eq {x y : D} (hx : x.okd 60 = true) (hy : y.okd 60 = true) : RV K (rEqD K) x y (.bl (PyData.eqv x.py y.py)) := fun S H v u e r1 r2 Q q =>
  ⟨x.py, y.py, Rd.dp 60 _ _ hx (r1.mono e), Rd.dp 60 _ _ hy (r2.mono e), okd_shaped hx, okd_shaped hy, q _ S H (Ext.refl e) (.bl _)⟩
theorem rv_ne {x y : D} (hx : x.okd 60 = true) (hy : y.okd 60 = true) : RV K (rNeD K) x y (.bl (!PyData.eqv x.py y.py)) := fun S H v u e r1 r2 Q q =>
  ⟨x.py, y.py, Rd.dp 60 _ _ hx (r1.mono e), Rd.dp 60 _ _ hy (r2.mono e), okd_shaped hx, okd_shaped hy, q _ S H (Ext.refl e) (.bl _)⟩
/-- == and != where no truth values are in it -/
theorem rv_eqS {x y : D} {b : Bool} (hx : x.okd 60 = true) (hy : y.okd 60 = true) (sx : x.sm 60 = true) (sy : y.sm 60 = true) (h : b = true ↔ x = y) : RV K (rEqD K) x y (.bl b) := by
  rw [← eqv_dec sx sy h]
  exact rv_eq hx hy
theorem rv_neS {x y : D} {b : Bool} (hx : x.okd 60 = true) (hy : y.okd 60 = true) (sx : x.sm 60 = true) (sy : y.sm 60 = true) (h : b = true ↔ x = y) : RV K (rNeD K) x y (.bl (!b)) := by
  rw [← eqv_dec sx sy h]
  exact rv_ne hx hy
theorem rv_eqI {i j : Int} : RV K (rEqD K) (.int i) (.int j) (.bl (decide (i = j))) := rv_eqS rfl rfl rfl rfl (by rw [decide_eq_true_eq]; exact ⟨congrArg D.int, fun e => D.int.inj e⟩)
theorem rv_neI {i j : Int} : RV K (rNeD K) (.int i) (.int j) (.bl (!decide (i = j))) := rv_neS rfl rfl rfl rfl (by rw [decide_eq_true_eq]; exact ⟨congrArg D.int, fun e => D.int.inj e⟩)
theorem rv_eqB {a b : Bool} : RV K (rEqD K) (.bl a) (.bl b) (.bl (a == b)) := rv_eq rfl rfl
theorem rv_neB {a b : Bool} : RV K (rNeD K) (.bl a) (.bl b) (.bl (!(a == b))) := rv_ne rfl rfl
theorem map_int_inj {ns ms : List Int} : ns.map D.int = ms.map D.int ↔ ns = ms :=
  ⟨fun h => (List.map_inj_right (fun a b e => D.int.inj e)).mp h, fun h => h ▸ rfl⟩
theorem okd_ints {ns : List Int} : (D.lst (ns.map D.int)).okd 60 = true := by
  simp [D.okd]
theorem sm_ints {ns : List Int} : (D.lst (ns.map D.int)).sm 60 = true := by
  simp [D.sm]
theorem rv_eqInts {ns ms : List Int} : RV K (rEqD K) (.lst (ns.map D.int)) (.lst (ms.map D.int)) (.bl (decide (ns = ms))) :=
  rv_eqS okd_ints okd_ints sm_ints sm_ints (by rw [decide_eq_true_eq, D.lst.injEq, map_int_inj])
theorem rv_neInts {ns ms : List Int} : RV K (rNeD K) (.lst (ns.map D.int)) (.lst (ms.map D.int)) (.bl (!decide (ns = ms))) :=
  rv_neS okd_ints okd_ints sm_ints sm_ints (by rw [decide_eq_true_eq, D.lst.injEq, map_int_inj])

/-! ### in, of ints -/
theorem inV_ints (i : Int) (ns : List Int) : inV (.int i) (ns.map V.int) = decide (i ∈ ns) := by
  unfold inV
  induction ns with
  | nil => rfl
  | cons n ns ih =>
    rw [List.map_cons, List.any_cons, ih]
    show ((n == i) || decide (i ∈ ns)) = decide (i ∈ n :: ns)
    by_cases e : n = i
    · subst e; simp
    · have e2 : ¬ i = n := fun z => e z.symm
      simp [e, e2]
theorem flat_ints (ns : List Int) : (ns.map V.int).all flatV = true := by
  rw [List.all_map]
  exact List.all_eq_true.mpr fun _ _ => rfl
theorem rv_inL {neg : Bool} {i : Int} {ns : List Int} : RV K (rIn K neg) (.int i) (.lst (ns.map D.int)) (.bl (if neg then !decide (i ∈ ns) else decide (i ∈ ns))) := fun S H v u e r1 r2 Q q => by
  cases r1
  cases r2 with
  | lst ha rl =>
    have z := rl.ints
    subst z
    exact ⟨_, _, rfl, .inl (Evl.sq_of (e _ _ ha)), rfl, flat_ints ns, by rw [inV_ints]; exact q _ S H (Ext.refl e) (.bl _)⟩
theorem rv_inT {neg : Bool} {i : Int} {ns : List Int} : RV K (rIn K neg) (.int i) (.tup (ns.map D.int)) (.bl (if neg then !decide (i ∈ ns) else decide (i ∈ ns))) := fun S H v u e r1 r2 Q q => by
  cases r1
  cases r2 with
  | tup ha rl =>
    have z := rl.ints
    subst z
    exact ⟨_, _, rfl, .inr (Evl.st_of (e _ _ ha)), rfl, flat_ints ns, by rw [inV_ints]; exact q _ S H (Ext.refl e) (.bl _)⟩
/-- is None -/
theorem rv_isN {x : D} {b : Bool} (h : b = true ↔ x = .non) : RV K (fun x y H Q => y = .non ∧ Q (.bl (decide (x = .non))) H) x .non (.bl b) := fun S H v u e r1 r2 Q q => by
  cases r2
  refine ⟨rfl, ?_⟩
  have : decide (v = .non) = b := by
    cases r1 <;> cases b <;> simp at h ⊢
  rw [this]
  exact q _ S H (Ext.refl e) (.bl b)
theorem rv_notN {x : D} {b : Bool} (h : b = true ↔ x = .non) : RV K (fun x y H Q => y = .non ∧ Q (.bl (!decide (x = .non))) H) x .non (.bl (!b)) := fun S H v u e r1 r2 Q q => by
  cases r2
  refine ⟨rfl, ?_⟩
  have : decide (v = .non) = b := by
    cases r1 <;> cases b <;> simp at h ⊢
  rw [this]
  exact q _ S H (Ext.refl e) (.bl _)

/-! ### slices -/
def cutD (xs : List D) (lo hi : Option Int) : List D := (xs.drop (HT.sIx xs.length 0 lo)).take (HT.sIx xs.length xs.length hi - HT.sIx xs.length 0 lo)
theorem RdL.cut {S : Hp} {vs : List V} {ds : List D} (h : RdL K S vs ds) (lo hi : Option Int) : RdL K S (cutV vs lo hi) (cutD ds lo hi) := by
  unfold cutV cutD
  rw [h.length]
  exact (h.drop _).take _
def rSl (K : PySem.W.Frag) : V → Option Int → Option Int → Hp → VK → Prop := fun x lo hi H Q => rSlL K x lo hi H Q ∨ rSlT K x lo hi H Q
theorem sl_any {X : Cx} : SlR X (rSl X.K) := SlR.or sl_list sl_tup
theorem eo_no : EvO K tNoPart ρ none := fun S H σ e v Q q => q S H (Ext.refl e)
theorem eo_some {te : TE} {i : Int} (h : EvD K te ρ (.int i)) : EvO K (tPart te) ρ (some i) := fun S H σ e v Q q =>
  h S H σ e v _ fun w S1 H1 x1 r1 => by cases r1; exact ⟨i, rfl, q S1 H1 x1⟩
theorem ev_slL {te : TE} {tl th : TO} {ds : List D} {lo hi : Option Int} (h : EvD K te ρ (.lst ds)) (h1 : EvO K tl ρ lo) (h2 : EvO K th ρ hi) : EvF K (tSl (rSl K) te tl th) ρ (cutD ds lo hi) := fun S H σ e v Q q =>
  h S H σ e v _ fun w S1 H1 x1 r1 => h1 S1 H1 σ x1.sub (v.mono x1.s) _ fun S2 H2 x2 => h2 S2 H2 σ x2.sub (v.mono (x1.s.trans x2.s)) _ fun S3 H3 x3 => by
    cases r1 with
    | lst ha rl =>
      refine .inl ⟨_, _, rfl, Evl.sq_of (x3.sub _ _ (x3.s _ _ (x2.s _ _ ha))), fun p hp => ?_⟩
      exact q p _ S3 _ (((x1.trans x2).trans x3).trans (Ext.hid x3.sub hp)) (Evl.fresh_back ((x1.trans x2).trans x3).h hp) (sub_none x3.sub hp) upd_same ((rl.cut lo hi).mono (x2.s.trans x3.s))
theorem ev_slR {te : TE} {tl th : TO} {ns : List Int} {lo hi : Option Int} (h : EvD K te ρ (.ro ns)) (h1 : EvO K tl ρ lo) (h2 : EvO K th ρ hi) : EvF K (tSl (rSl K) te tl th) ρ (cutD (ns.map D.int) lo hi) := fun S H σ e v Q q =>
  h S H σ e v _ fun w S1 H1 x1 r1 => h1 S1 H1 σ x1.sub (v.mono x1.s) _ fun S2 H2 x2 => h2 S2 H2 σ x2.sub (v.mono (x1.s.trans x2.s)) _ fun S3 H3 x3 => by
    cases r1 with
    | ro ha =>
      refine .inl ⟨_, _, rfl, Evl.ex_l ((x2.s.trans x3.s).trans x3.sub) ha, fun p hp => ?_⟩
      exact q p _ S3 _ (((x1.trans x2).trans x3).trans (Ext.hid x3.sub hp)) (Evl.fresh_back ((x1.trans x2).trans x3).h hp) (sub_none x3.sub hp) upd_same ((RdL.ofInts ns).cut lo hi)
theorem ev_slT {te : TE} {tl th : TO} {ds : List D} {lo hi : Option Int} (h : EvD K te ρ (.tup ds)) (h1 : EvO K tl ρ lo) (h2 : EvO K th ρ hi) (hn : ¬ (HT.sIx ds.length 0 lo = 0 ∧ HT.sIx ds.length ds.length hi = ds.length)) : EvD K (tSl (rSl K) te tl th) ρ (.tup (cutD ds lo hi)) := fun S H σ e v Q q =>
  h S H σ e v _ fun w S1 H1 x1 r1 => h1 S1 H1 σ x1.sub (v.mono x1.s) _ fun S2 H2 x2 => h2 S2 H2 σ x2.sub (v.mono (x1.s.trans x2.s)) _ fun S3 H3 x3 => by
    cases r1 with
    | tup ha rl =>
      refine .inr ⟨_, _, rfl, Evl.st_of (x3.sub _ _ (x3.s _ _ (x2.s _ _ ha))), by rw [rl.length]; exact hn, fun p hp => ?_⟩
      exact q _ _ _ (((x1.trans x2).trans x3).trans (Ext.new x3.sub hp)) (.tup upd_same ((rl.cut lo hi).mono ((x2.s.trans x3.s).trans (Ex.new (sub_none x3.sub hp)))))
end
end Pl

/-! Values as plain data: walks, targets, list comprehensions. -/
namespace Pl
open PySem PySem.Spec PyProof.Rows L2
open Evl (Ex)

/-! ### slots, more -/
def setV : L2.St → List Nat → List V → L2.St
  | σ, i :: is, v :: vs => setV (σ.set i (some v)) is vs
  | σ, _, _ => σ
def setR : Rho → List (Nat × D) → Rho
  | ρ, p :: ps => setR (ρ.set p.1 (.k p.2)) ps
  | ρ, [] => ρ
def wipeR : Rho → List Nat → Rho
  | ρ, [] => ρ
  | ρ, v :: vs => (wipeR ρ vs).set v .u
section
variable {K : PySem.W.Frag} {S S' H H' : Hp} {σ : L2.St} {ρ : Rho}
theorem Env.set {i : Nat} {v : V} {d : D} (e : Env K S σ ρ) (r : Rd K S v d) : Env K S (σ.set i (some v)) (ρ.set i (.k d)) where
  len := by rw [List.length_set, List.length_set, e.len]
  val := fun j x h => by
    by_cases hj : i = j
    · subst hj
      by_cases hl : i < ρ.length
      · rw [List.getElem?_set_self hl] at h
        cases h
        exact ⟨v, List.getElem?_set_self (by rw [e.len]; exact hl), r⟩
      · rw [List.getElem?_eq_none (by rw [List.length_set]; omega)] at h
        cases h
    · rw [List.getElem?_set_ne hj] at h ⊢
      exact e.val j x h
theorem Env.setU {i : Nat} {v : Option V} (e : Env K S σ ρ) : Env K S (σ.set i v) (ρ.set i .u) where
  len := by rw [List.length_set, List.length_set, e.len]
  val := fun j x h => by
    by_cases hj : i = j
    · subst hj
      by_cases hl : i < ρ.length
      · rw [List.getElem?_set_self hl] at h
        cases h
      · rw [List.getElem?_eq_none (by rw [List.length_set]; omega)] at h
        cases h
    · rw [List.getElem?_set_ne hj] at h ⊢
      exact e.val j x h
theorem Env.setV : ∀ {ps : List (Nat × D)} {vs : List V} {σ : L2.St} {ρ : Rho}, Env K S σ ρ → RdL K S vs (ps.map (·.2)) → Env K S (Pl.setV σ (ps.map (·.1)) vs) (setR ρ ps)
  | [], _, _, _, e, .nil => e
  | p :: ps, _, _, _, e, .cons h r => Env.setV (ps := ps) (e.set h) r
theorem Env.wipe (e : Env K S σ ρ) : ∀ (vs : List Nat), Env K S (L2.wipe σ vs) (wipeR ρ vs)
  | [] => e
  | _ :: vs => (Env.wipe e vs).setU
theorem set_comm_none {σ : L2.St} {i j : Nat} {x : Option V} : (σ.set i x).set j none = if i = j then σ.set j none else (σ.set j none).set i x := by
  by_cases h : i = j
  · subst h
    rw [if_pos rfl, List.set_set]
  · rw [if_neg h, List.set_comm _ _ h]
theorem wipe_set {i : Nat} {x : Option V} : ∀ {vs : List Nat} {σ : L2.St}, i ∈ vs → L2.wipe (σ.set i x) vs = L2.wipe σ vs
  | v :: vs, σ, h => by
    show (L2.wipe (σ.set i x) vs).set v none = (L2.wipe σ vs).set v none
    by_cases hv : i ∈ vs
    · rw [wipe_set hv]
    · have e : i = v := by
        rcases List.mem_cons.mp h with h | h
        · exact h
        · exact absurd h hv
      subst e
      have z : ∀ (ws : List Nat) (σ : L2.St), i ∉ ws → L2.wipe (σ.set i x) ws = (L2.wipe σ ws).set i x := fun ws => by
        induction ws with
        | nil => intro σ _; rfl
        | cons w ws ih =>
          intro σ hw
          show (L2.wipe (σ.set i x) ws).set w none = ((L2.wipe σ ws).set w none).set i x
          have nw : i ≠ w := fun q => hw (by rw [q]; exact List.mem_cons_self)
          rw [ih σ fun h => hw (List.mem_cons_of_mem _ h), List.set_comm _ _ nw]
      rw [z vs σ hv, List.set_set]
theorem wipe_wipe (vs : List Nat) (σ : L2.St) : L2.wipe (L2.wipe σ vs) vs = L2.wipe σ vs := by
  have z : ∀ (ws : List Nat) (σ : L2.St), (∀ w ∈ ws, w ∈ vs) → L2.wipe (L2.wipe σ ws) vs = L2.wipe σ vs := fun ws => by
    induction ws with
    | nil => intro σ _; rfl
    | cons w ws ih =>
      intro σ h
      show L2.wipe ((L2.wipe σ ws).set w none) vs = L2.wipe σ vs
      rw [wipe_set (h w List.mem_cons_self), ih σ fun x hx => h x (List.mem_cons_of_mem _ hx)]
  exact z vs σ fun _ h => h
theorem wipe_setV {vs : List Nat} : ∀ {is : List Nat} {xs : List V} {σ : L2.St}, (∀ i ∈ is, i ∈ vs) → L2.wipe (Pl.setV σ is xs) vs = L2.wipe σ vs
  | [], _, _, _ => by rw [Pl.setV.eq_def]
  | _ :: _, [], _, _ => by rw [Pl.setV.eq_def]
  | i :: is, x :: xs, σ, h => by
    rw [Pl.setV.eq_def]
    dsimp only
    rw [wipe_setV fun j hj => h j (List.mem_cons_of_mem _ hj), wipe_set (h i List.mem_cons_self)]
end

/-! ### walks -/
section
variable (K : PySem.W.Frag)
structure Walks (J : It) (S : Hp) (ds : List D) : Prop where
  go : ∀ S' H' i, Ex S S' → Ex S' H' → i < ds.length → J.go i H'
  yld : ∀ S' H' i x H'' d, Ex S S' → Ex S' H' → ds[i]? = some d → J.yld i H' x H'' → ∃ S'', Ext S' H' S'' H'' ∧ Rd K S'' x d
  stop : ∀ S' H', Ex S S' → Ex S' H' → J.stop ds.length H'
def EvI (wi : TI) (ρ : Rho) (ds : List D) : Prop := ∀ S H σ, Ex S H → Env K S σ ρ → ∀ R : It → Hp → Prop, (∀ J S' H', Ext S H S' H' → Walks K J S' ds → R J H') → wi σ H R
/-- a target takes a datum apart: which slots it sets -/
def EvG (g : TG) (d : D) (ps : List (Nat × D)) : Prop := ∀ S H σ v, Ex S H → Rd K S v d → ∀ Q : L2.St → Hp → Prop, (∀ vs, RdL K S vs (ps.map (·.2)) → Q (setV σ (ps.map (·.1)) vs) H) → g v σ H Q
def EvGs (g : TGs) (ds : List D) (ps : List (Nat × D)) : Prop := ∀ S H σ vs, Ex S H → RdL K S vs ds → ∀ Q : L2.St → Hp → Prop, (∀ ws, RdL K S ws (ps.map (·.2)) → Q (setV σ (ps.map (·.1)) ws) H) → g vs σ H Q
end
section
variable {K : PySem.W.Frag} {ρ : Rho} {te : TE} {tA : TA}
theorem walks_list {S : Hp} {a : Addr} {xs : List V} {ds : List D} (h : S a = some (.lst xs)) (r : RdL K S xs ds) : Walks K (Itl K a) S ds where
  go := fun S' H' i e1 e2 hi => by
    have hx : i < xs.length := by rw [r.length]; exact hi
    exact ⟨xs, xs[i], Evl.sq_of (e2 _ _ (e1 _ _ h)), List.getElem?_eq_getElem hx⟩
  yld := fun S' H' i x H'' d e1 e2 hd y => by
    obtain ⟨rfl, y⟩ := y
    obtain ⟨v, h1, h2⟩ := r.get hd
    have := y xs (Evl.sq_of (e2 _ _ (e1 _ _ h)))
    rw [h1] at this
    cases this
    exact ⟨S', Ext.refl e2, h2.mono e1⟩
  stop := fun S' H' e1 e2 => ⟨xs, Evl.sq_of (e2 _ _ (e1 _ _ h)), by rw [r.length]; exact Nat.le_refl _⟩
theorem ei_list {tl : TE} {ds : List D} (h : EvD K tl ρ (.lst ds)) : EvI K (iList K tl) ρ ds := fun S H σ e v R q =>
  h S H σ e v _ fun w S1 H1 x1 r1 => by
    cases r1 with
    | lst ha rl => exact ⟨_, rfl, ⟨_, Evl.sq_of (x1.sub _ _ ha)⟩, q _ S1 H1 x1 (walks_list ha rl)⟩
theorem walks_ro {S : Hp} {a : Addr} {ns : List Int} (h : SqL K S a (ns.map V.int)) : Walks K (Itl K a) S (ns.map D.int) where
  go := fun S' H' i e1 e2 hi => by
    have hx : i < (ns.map V.int).length := by rw [List.length_map] at hi ⊢; exact hi
    exact ⟨_, (ns.map V.int)[i], Evl.ex_l (e1.trans e2) h, List.getElem?_eq_getElem hx⟩
  yld := fun S' H' i x H'' d e1 e2 hd y => by
    obtain ⟨rfl, y⟩ := y
    obtain ⟨v, h1, h2⟩ := (RdL.ofInts (K := K) (S := S') ns).get hd
    have := y _ (Evl.ex_l (e1.trans e2) h)
    rw [h1] at this
    cases this
    exact ⟨S', Ext.refl e2, h2⟩
  stop := fun S' H' e1 e2 => ⟨_, Evl.ex_l (e1.trans e2) h, by rw [List.length_map, List.length_map]; exact Nat.le_refl _⟩
theorem ei_ro {tl : TE} {ns : List Int} (h : EvD K tl ρ (.ro ns)) : EvI K (iList K tl) ρ (ns.map D.int) := fun S H σ e v R q =>
  h S H σ e v _ fun w S1 H1 x1 r1 => by
    cases r1 with
    | ro ha => exact ⟨_, rfl, ⟨_, Evl.ex_l x1.sub ha⟩, q _ S1 H1 x1 (walks_ro ha)⟩
theorem walks_tup {S : Hp} {a : Addr} {xs : List V} {ds : List D} (h : S a = some (.tup xs)) (r : RdL K S xs ds) : Walks K (Itt K a) S ds where
  go := fun S' H' i e1 e2 hi => by
    have hx : i < xs.length := by rw [r.length]; exact hi
    exact ⟨xs, xs[i], Evl.st_of (e2 _ _ (e1 _ _ h)), List.getElem?_eq_getElem hx⟩
  yld := fun S' H' i x H'' d e1 e2 hd y => by
    obtain ⟨rfl, y⟩ := y
    obtain ⟨v, h1, h2⟩ := r.get hd
    have := y xs (Evl.st_of (e2 _ _ (e1 _ _ h)))
    rw [h1] at this
    cases this
    exact ⟨S', Ext.refl e2, h2.mono e1⟩
  stop := fun S' H' e1 e2 => ⟨xs, Evl.st_of (e2 _ _ (e1 _ _ h)), by rw [r.length]; exact Nat.le_refl _⟩
theorem ei_tup {tl : TE} {ds : List D} (h : EvD K tl ρ (.tup ds)) : EvI K (iTup K tl) ρ ds := fun S H σ e v R q =>
  h S H σ e v _ fun w S1 H1 x1 r1 => by
    cases r1 with
    | tup ha rl => exact ⟨_, rfl, ⟨_, Evl.st_of (x1.sub _ _ ha)⟩, q _ S1 H1 x1 (walks_tup ha rl)⟩
/-- lo, lo + c, .. -/
def rngD (lo : Int) (n : Nat) (c : Int) : List D := (List.range n).map fun i : Nat => .int (lo + (i : Int) * c)
theorem rngD_len (lo : Int) (n : Nat) (c : Int) : (rngD lo n c).length = n := by simp [rngD]
theorem rngD_get {lo : Int} {n : Nat} {c : Int} {i : Nat} {d : D} (h : (rngD lo n c)[i]? = some d) : i < n ∧ d = .int (lo + (i : Int) * c) := by
  have hi : i < n := by
    have := (List.getElem?_eq_some_iff.mp h).1
    rw [rngD_len] at this
    exact this
  refine ⟨hi, ?_⟩
  unfold rngD at h
  rw [List.getElem?_map, List.getElem?_range hi] at h
  exact (Option.some.inj h).symm
theorem walks_rng {S : Hp} {lo : Int} {n : Nat} : Walks K (Itr lo n) S (rngD lo n 1) where
  go := fun S' H' i _ _ hi => by rw [rngD_len] at hi; exact hi
  yld := fun S' H' i x H'' d e1 e2 hd y => by
    obtain ⟨rfl, rfl⟩ := y
    obtain ⟨_, rfl⟩ := rngD_get hd
    rw [Int.mul_one]
    exact ⟨S', Ext.refl e2, .int _⟩
  stop := fun S' H' _ _ => by rw [rngD_len]; exact Nat.le_refl _
theorem ei_rng1 {j : Int} (h : EvA K tA ρ [.int j]) (hj : -100000 ≤ j ∧ j ≤ 100000) : EvI K (iRng1 tA) ρ (rngD 0 j.toNat 1) := fun S H σ e v R q =>
  h S H σ e v _ fun ws S1 H1 x1 r1 => by
    cases r1 with
    | cons h1 t1 =>
      cases t1
      cases h1
      exact ⟨j, rfl, by omega, by omega, q _ S1 H1 x1 walks_rng⟩
theorem ei_rng2 {i j : Int} (h : EvA K tA ρ [.int i, .int j]) (hj : -100000 ≤ i ∧ i ≤ 100000 ∧ -100000 ≤ j ∧ j ≤ 100000) : EvI K (iRng2 tA) ρ (rngD i (j - i).toNat 1) := fun S H σ e v R q =>
  h S H σ e v _ fun ws S1 H1 x1 r1 => by
    cases r1 with
    | cons h1 t1 =>
      cases t1 with
      | cons h2 t2 =>
        cases t2
        cases h1
        cases h2
        exact ⟨i, j, rfl, by omega, q _ S1 H1 x1 walks_rng⟩
theorem walks_rngC {S : Hp} {lo c : Int} {n : Nat} : Walks K (Itc lo c n) S (rngD lo n c) where
  go := fun S' H' i _ _ hi => by rw [rngD_len] at hi; exact hi
  yld := fun S' H' i x H'' d e1 e2 hd y => by
    obtain ⟨rfl, rfl⟩ := y
    obtain ⟨_, rfl⟩ := rngD_get hd
    exact ⟨S', Ext.refl e2, .int _⟩
  stop := fun S' H' _ _ => by rw [rngD_len]; exact Nat.le_refl _
theorem ei_rng3 {i j c : Int} {n : Nat} (h : EvA K tA ρ [.int i, .int j, .int c]) (hj : RgC i j c n) : EvI K (iRng3 tA) ρ (rngD i n c) := fun S H σ e v R q =>
  h S H σ e v _ fun ws S1 H1 x1 r1 => by
    cases r1 with
    | cons h1 t1 =>
      cases t1 with
      | cons h2 t2 =>
        cases t2 with
        | cons h3 t3 =>
          cases t3
          cases h1
          cases h2
          cases h3
          exact ⟨i, j, c, n, rfl, hj, q _ S1 H1 x1 walks_rngC⟩
/-- enumerate -/
def enumD (ds : List D) : List D := (List.range ds.length).map fun i : Nat => .tup [.int (i : Int), ds.getD i .non]
theorem enumD_len (ds : List D) : (enumD ds).length = ds.length := by simp [enumD]
theorem enumD_get {ds : List D} {i : Nat} {d : D} (h : (enumD ds)[i]? = some d) : ∃ x, ds[i]? = some x ∧ d = .tup [.int (i : Int), x] := by
  have hi : i < ds.length := by
    have := (List.getElem?_eq_some_iff.mp h).1
    rw [enumD_len] at this
    exact this
  refine ⟨ds[i], List.getElem?_eq_getElem hi, ?_⟩
  unfold enumD at h
  rw [List.getElem?_map, List.getElem?_range hi] at h
  have := (Option.some.inj h).symm
  rw [this]
  simp [hi]
theorem walks_enum {S : Hp} {a : Addr} {xs : List V} {ds : List D} (h : S a = some (.lst xs)) (r : RdL K S xs ds) : Walks K (Ite K a) S (enumD ds) where
  go := fun S' H' i e1 e2 hi => by
    have hx : i < xs.length := by rw [r.length]; rw [enumD_len] at hi; exact hi
    exact ⟨xs, xs[i], Evl.sq_of (e2 _ _ (e1 _ _ h)), List.getElem?_eq_getElem hx⟩
  yld := fun S' H' i x H'' d e1 e2 hd y => by
    obtain ⟨T, w, rfl, hT, rfl, y⟩ := y
    obtain ⟨z, hz, rfl⟩ := enumD_get hd
    obtain ⟨v, h1, h2⟩ := r.get hz
    have := y xs (Evl.sq_of (e2 _ _ (e1 _ _ h)))
    rw [h1] at this
    cases this
    exact ⟨_, Ext.new e2 hT, .tup upd_same (.cons (.int _) (.cons (h2.mono (e1.trans (Ex.new (sub_none e2 hT)))) .nil))⟩
  stop := fun S' H' e1 e2 => ⟨xs, Evl.sq_of (e2 _ _ (e1 _ _ h)), by rw [enumD_len, r.length]; exact Nat.le_refl _⟩
theorem ei_enum {ds : List D} (h : EvA K tA ρ [.lst ds]) : EvI K (iEnum K tA) ρ (enumD ds) := fun S H σ e v R q =>
  h S H σ e v _ fun ws S1 H1 x1 r1 => by
    cases r1 with
    | cons h1 t1 =>
      cases t1
      cases h1 with
      | lst ha rl => exact ⟨_, _, rfl, Evl.sq_of (x1.sub _ _ ha), q _ S1 H1 x1 (walks_enum ha rl)⟩
/-! ### targets -/
theorem eg_name {i : Nat} {d : D} : EvG K (gName i) d [(i, d)] := fun S H σ v e r Q q => q [v] (.cons r .nil)
theorem setV_append : ∀ {is js : List Nat} {vs ws : List V} {σ : L2.St}, vs.length = is.length → setV (setV σ is vs) js ws = setV σ (is ++ js) (vs ++ ws)
  | [], _, [], _, _, _ => by simp [setV]
  | i :: is, js, v :: vs, ws, σ, h => by
    show setV (setV (σ.set i (some v)) is vs) js ws = setV (σ.set i (some v)) (is ++ js) (vs ++ ws)
    exact setV_append (by simpa using h)
theorem egs_nil : EvGs K gNil [] [] := fun S H σ vs e r Q q => by
  cases r
  exact ⟨rfl, q [] .nil⟩
theorem egs_cons {g : TG} {gs : TGs} {d : D} {ds : List D} {ps qs : List (Nat × D)} (h : EvG K g d ps) (hs : EvGs K gs ds qs) : EvGs K (gCons g gs) (d :: ds) (ps ++ qs) := fun S H σ vs e r Q q => by
  cases r with
  | cons r1 r2 =>
    refine ⟨_, _, rfl, h S H σ _ e r1 _ fun ws rw1 => hs S H _ _ e r2 _ fun us ru => ?_⟩
    have := q (ws ++ us) (by rw [List.map_append]; exact rw1.append ru)
    rw [setV_append (by rw [rw1.length, List.length_map, List.length_map]), ← List.map_append]
    exact this
theorem eg_tup {n : Nat} {gs : TGs} {ds : List D} {ps : List (Nat × D)} (h : EvGs K gs ds ps) (hn : ds.length = n) : EvG K (gTup K n gs) (.tup ds) ps := fun S H σ v e r Q q => by
  cases r with
  | tup ha rl => exact ⟨_, _, rfl, Evl.st_of (e _ _ ha), by rw [rl.length]; exact hn, h S H σ _ e rl Q q⟩
theorem EvG.to {g : TG} {d : D} {ps qs : List (Nat × D)} (h : EvG K g d ps) (e : ps = qs) : EvG K g d qs := e ▸ h

/-! ### list comprehensions -/
theorem evF_lc {wi : TI} {g : TG} {tt : TT} {te : TE} {vs : List Nat} {ds : List D} (hi : EvI K wi ρ ds) (ps : D → List (Nat × D)) (f : D → Bool) (e : D → D) (hg : ∀ d ∈ ds, EvG K g d (ps d)) (hs : ∀ d ∈ ds, ∀ p ∈ ps d, p.1 ∈ vs)
    (ht : ∀ d ∈ ds, EvT K tt (setR (wipeR ρ vs) (ps d)) (f d)) (he : ∀ d ∈ ds, f d = true → EvD K te (setR (wipeR ρ vs) (ps d)) (e d)) (hl : ds.length ≤ 50000) : EvF K (tLc wi g tt te vs) ρ ((ds.filter f).map e) := fun S H σ ee v Q q =>
  hi S H σ ee v _ fun J S1 H1 x1 wk => fun Dl hD => by
    refine ⟨fun i m H' => m = ds.length - i ∧ i ≤ ds.length ∧ ∃ S' us, Ext S1 H1 S' H' ∧ S' Dl = none ∧ H' Dl = some (.lst us) ∧ RdL K S' us (((ds.take i).filter f).map e),
      ⟨ds.length, by simp, Nat.zero_le _, S1, [], Ext.hid x1.sub hD, sub_none x1.sub hD, upd_same, .nil⟩, ?_⟩
    rintro i m H' ⟨rfl, hi, S', us, x, nS, hus, rl⟩
    by_cases hlt : i < ds.length
    · refine .inr ⟨wk.go S' H' i x.s x.sub hlt, fun H2 => ∃ S2 us2, Ext S1 H1 S2 H2 ∧ S2 Dl = none ∧ H2 Dl = some (.lst us2) ∧ RdL K S2 us2 (((ds.take (i + 1)).filter f).map e), fun H2 z => ⟨ds.length - (i + 1), by omega, rfl, hlt, z⟩, fun xv H'' y => ?_⟩
      have hd : ds[i]? = some ds[i] := List.getElem?_eq_getElem hlt
      have hm : ds[i] ∈ ds := List.getElem_mem hlt
      obtain ⟨S2, x2, r2⟩ := wk.yld S' H' i xv H'' ds[i] x.s x.sub hd y
      have tk : ds.take (i + 1) = ds.take i ++ [ds[i]] := (List.take_append_getElem hlt).symm
      refine hg _ hm S2 H'' _ xv x2.sub r2 _ fun ws rws => ⟨?_, ?_⟩
      · rw [wipe_setV fun j hj => by
          obtain ⟨p, hp, rfl⟩ := List.mem_map.mp hj
          exact hs _ hm p hp, wipe_wipe]
      · have ev : Env K S2 (setV (L2.wipe σ vs) ((ps ds[i]).map (·.1)) ws) (setR (wipeR ρ vs) (ps ds[i])) := (((v.mono ((x1.s.trans x.s).trans x2.s)).wipe vs)).setV rws
        have nl : ∀ {S3 H3 : Hp}, Ext S2 H'' S3 H3 → S3 Dl = none := fun x3 => x3.dis Dl (x2.dis Dl nS (by rw [hus]; exact fun z => nomatch z)) (by rw [x2.h Dl _ hus]; exact fun z => nomatch z)
        refine ht _ hm S2 H'' _ x2.sub ev _ fun S3 H3 x3 => ?_
        cases hf : f ds[i] with
        | false =>
          refine ⟨S3, us, (x.trans x2).trans x3, nl x3, (x2.trans x3).h _ _ hus, ?_⟩
          rw [tk, List.filter_append, List.filter_cons, hf]
          simp only [Bool.false_eq_true, if_false, List.filter_nil, List.append_nil]
          exact rl.mono (x2.trans x3).s
        | true =>
          refine he _ hm hf S3 H3 _ x3.sub (ev.mono x3.s) _ fun yv S4 H4 x4 r4 => ?_
          have hu4 := (x2.trans (x3.trans x4)).h _ _ hus
          have n4 := nl (x3.trans x4)
          have ul : us.length ≤ ds.length := by
            rw [rl.length, List.length_map]
            exact Nat.le_trans (List.length_filter_le _ _) (by rw [List.length_take]; omega)
          refine ⟨us, hu4, Evl.sz_lt (by omega), S4, us ++ [yv], ?_, n4, upd_same, ?_⟩
          · have xx := (x.trans x2).trans (x3.trans x4)
            refine ⟨xx.s, fun a o ha => ?_, fun a o ha => ?_, xx.dis⟩
            · rw [upd_ne (ne_of_none ha hD)]
              exact xx.h a o ha
            · rw [upd_ne (fun z => by rw [z, n4] at ha; cases ha)]
              exact xx.sub a o ha
          · rw [tk, List.filter_append, List.filter_cons, hf]
            simp only [if_true, List.filter_nil]
            rw [List.map_append]
            exact (rl.mono (x2.trans (x3.trans x4)).s).append (.cons r4 .nil)
    · have e0 : i = ds.length := by omega
      subst e0
      rw [List.take_length] at rl
      exact .inl ⟨wk.stop S' H' x.s x.sub, q Dl us S' H' (x1.trans x) (Evl.fresh_back x1.h hD) nS hus rl⟩
end
end Pl

/-! Values as plain data: statements. A slot holds a datum (k), a list that is this def's own and may grow (o), or nothing that is known (u). -/
namespace Pl
open PySem PySem.Spec PyProof.Rows L2
open Evl (Ex)

section
variable (K : PySem.W.Frag)
structure Stt (S0 H0 : Hp) (ρ : Rho) (S H : Hp) (σ : L2.St) : Prop where
  ext : Ext S0 H0 S H
  env : Env K S σ ρ
  own : ∀ (i : Nat) (ds : List D), ρ[i]? = some (.o ds) → ∃ p vs, σ[i]? = some (some (.ref p)) ∧ H0 p = none ∧ S p = none ∧ H p = some (.lst vs) ∧ RdL K S vs ds
  apart : ∀ (i j : Nat) (ds es : List D) (p : Addr), ρ[i]? = some (.o ds) → ρ[j]? = some (.o es) → σ[i]? = some (some (.ref p)) → σ[j]? = some (some (.ref p)) → i = j
structure FE where
  nx : Rho → Prop := fun _ => False
  rt : D → Prop := fun _ => False
  rf : List D → Prop := fun _ => False
  bk : Rho → Prop := fun _ => False
  ct : Rho → Prop := fun _ => False
structure Acc (S0 H0 S : Hp) (F : FE) (Dd : Ends) : Prop where
  nx : ∀ ρ S' H' σ, F.nx ρ → Ex S S' → Stt K S0 H0 ρ S' H' σ → Dd.nx σ H'
  bk : ∀ ρ S' H' σ, F.bk ρ → Ex S S' → Stt K S0 H0 ρ S' H' σ → Dd.bk σ H'
  ct : ∀ ρ S' H' σ, F.ct ρ → Ex S S' → Stt K S0 H0 ρ S' H' σ → Dd.ct σ H'
  rt : ∀ d v S' H', F.rt d → Ext S0 H0 S' H' → Rd K S' v d → Dd.rt v H'
  rf : ∀ es p vs S' H', F.rf es → Ext S0 H0 S' H' → H0 p = none → S' p = none → H' p = some (.lst vs) → RdL K S' vs es → Dd.rt (.ref p) H'
/-- from slots ρ the statement comes to one of the ends F -/
def T (t : TS) (ρ : Rho) (F : FE) : Prop := ∀ S0 H0 S H σ Dd, Stt K S0 H0 ρ S H σ → Acc K S0 H0 S F Dd → t Dd σ H
end

section
variable {K : PySem.W.Frag} {S0 H0 S H S' H' : Hp} {σ : L2.St} {ρ ρ' : Rho} {F G : FE} {t u : TS} {te : TE} {d : D} {es ds : List D} {Dd : Ends} {i : Nat}
theorem Acc.mono (e : Ex S S') (a : Acc K S0 H0 S F Dd) : Acc K S0 H0 S' F Dd :=
  ⟨fun ρ S2 H2 σ h x s => a.nx ρ S2 H2 σ h (e.trans x) s, fun ρ S2 H2 σ h x s => a.bk ρ S2 H2 σ h (e.trans x) s, fun ρ S2 H2 σ h x s => a.ct ρ S2 H2 σ h (e.trans x) s, a.rt, a.rf⟩
/-- further on, all slots as they are -/
theorem Stt.go (s : Stt K S0 H0 ρ S H σ) (x : Ext S H S' H') : Stt K S0 H0 ρ S' H' σ where
  ext := s.ext.trans x
  env := s.env.mono x.s
  own := fun i ds h => by
    obtain ⟨p, vs, h1, h2, h3, h4, h5⟩ := s.own i ds h
    exact ⟨p, vs, h1, h2, x.dis p h3 (by rw [h4]; exact fun z => nomatch z), x.h _ _ h4, h5.mono x.s⟩
  apart := s.apart
theorem get_set {α : Type} {l : List α} {i j : Nat} {a b : α} (h : (l.set i a)[j]? = some b) : (i = j ∧ i < l.length ∧ a = b) ∨ (i ≠ j ∧ l[j]? = some b) := by
  by_cases hj : i = j
  · subst hj
    by_cases hl : i < l.length
    · rw [List.getElem?_set_self hl] at h
      exact .inl ⟨rfl, hl, Option.some.inj h⟩
    · rw [List.getElem?_eq_none (by rw [List.length_set]; omega)] at h
      cases h
  · rw [List.getElem?_set_ne hj] at h
    exact .inr ⟨hj, h⟩
theorem Stt.set {v : V} (s : Stt K S0 H0 ρ S H σ) (r : Rd K S v d) : Stt K S0 H0 (ρ.set i (.k d)) S H (σ.set i (some v)) where
  ext := s.ext
  env := s.env.set r
  own := fun j ds h => by
    rcases get_set h with ⟨_, _, e⟩ | ⟨hj, h⟩
    · cases e
    · rw [List.getElem?_set_ne hj]
      exact s.own j ds h
  apart := fun j k ds es p h1 h2 e1 e2 => by
    rcases get_set h1 with ⟨_, _, e⟩ | ⟨hj, h1⟩
    · cases e
    · rcases get_set h2 with ⟨_, _, e⟩ | ⟨hk, h2⟩
      · cases e
      · rw [List.getElem?_set_ne hj] at e1
        rw [List.getElem?_set_ne hk] at e2
        exact s.apart j k ds es p h1 h2 e1 e2
theorem Stt.setV : ∀ {ps : List (Nat × D)} {vs : List V} {σ : L2.St} {ρ : Rho}, Stt K S0 H0 ρ S H σ → RdL K S vs (ps.map (·.2)) → Stt K S0 H0 (setR ρ ps) S H (Pl.setV σ (ps.map (·.1)) vs)
  | [], _, _, _, s, .nil => s
  | p :: ps, _, _, _, s, .cons h r => Stt.setV (ps := ps) (s.set h) r
theorem Stt.setO {p : Addr} {vs : List V} (s : Stt K S0 H0 ρ S H σ) (h0 : H0 p = none) (n : S p = none) (h : H p = some (.lst vs)) (r : RdL K S vs es)
    (new : ∀ j ds, j ≠ i → ρ[j]? = some (.o ds) → σ[j]? ≠ some (some (.ref p))) : Stt K S0 H0 (ρ.set i (.o es)) S H (σ.set i (some (.ref p))) where
  ext := s.ext
  env := ⟨by rw [List.length_set, List.length_set, s.env.len], fun j x h => by
    rcases get_set h with ⟨_, _, e⟩ | ⟨hj, h⟩
    · cases e
    · rw [List.getElem?_set_ne hj]
      exact s.env.val j x h⟩
  own := fun j ds hh => by
    rcases get_set hh with ⟨rfl, hl, e⟩ | ⟨hj, hh⟩
    · cases e
      exact ⟨p, vs, List.getElem?_set_self (by rw [s.env.len]; exact hl), h0, n, h, r⟩
    · rw [List.getElem?_set_ne hj]
      exact s.own j ds hh
  apart := fun j k ds es' q h1 h2 e1 e2 => by
    rcases get_set h1 with ⟨rfl, hl, e⟩ | ⟨hj, h1⟩
    · rcases get_set h2 with ⟨rfl, _, _⟩ | ⟨hk, h2⟩
      · rfl
      · rw [List.getElem?_set_self (by rw [s.env.len]; exact hl)] at e1
        cases e1
        rw [List.getElem?_set_ne hk] at e2
        exact absurd e2 (new k _ (Ne.symm hk) h2)
    · rw [List.getElem?_set_ne hj] at e1
      rcases get_set h2 with ⟨rfl, hl, e⟩ | ⟨hk, h2⟩
      · rw [List.getElem?_set_self (by rw [s.env.len]; exact hl)] at e2
        cases e2
        exact absurd e1 (new j _ (Ne.symm hj) h1)
      · rw [List.getElem?_set_ne hk] at e2
        exact s.apart j k ds es' q h1 h2 e1 e2
/-- a list that is no more changed -/
theorem Stt.freeze (s : Stt K S0 H0 ρ S H σ) (h : ρ[i]? = some (.o ds)) : ∃ S', Ex S S' ∧ Stt K S0 H0 (ρ.set i (.k (.lst ds))) S' H σ := by
  obtain ⟨p, vs, h1, h2, h3, h4, h5⟩ := s.own i ds h
  have x : Ext S0 H0 (upd S p (.lst vs)) H := s.ext.tell h3 h2 h4
  have e : Ex S (upd S p (.lst vs)) := Ex.new h3
  refine ⟨_, e, x, ⟨by rw [List.length_set, s.env.len], fun j y hh => ?_⟩, fun j es hh => ?_, fun j k a b q e1 e2 e3 e4 => ?_⟩
  · rcases get_set hh with ⟨rfl, _, e'⟩ | ⟨_, hh⟩
    · cases e'
      exact ⟨_, h1, .lst upd_same (h5.mono e)⟩
    · obtain ⟨w, w1, w2⟩ := s.env.val j y hh
      exact ⟨w, w1, w2.mono e⟩
  · rcases get_set hh with ⟨_, _, e'⟩ | ⟨hj, hh⟩
    · cases e'
    · obtain ⟨q, us, g1, g2, g3, g4, g5⟩ := s.own j es hh
      refine ⟨q, us, g1, g2, ?_, g4, g5.mono e⟩
      have nq : q ≠ p := fun z => hj (s.apart i j ds es p h hh h1 (by rw [← z]; exact g1))
      rw [upd_ne nq]
      exact g3
  · rcases get_set e1 with ⟨_, _, e'⟩ | ⟨_, e1⟩
    · cases e'
    · rcases get_set e2 with ⟨_, _, e'⟩ | ⟨_, e2⟩
      · cases e'
      · exact s.apart j k a b q e1 e2 e3 e4
/-! ### rules -/
theorem T.freeze (h : ρ[i]? = some (.o ds)) (k : T K t (ρ.set i (.k (.lst ds))) F) : T K t ρ F := fun S0 H0 S H σ Dd s a => by
  obtain ⟨S', e, s'⟩ := s.freeze h
  exact k S0 H0 S' H σ Dd s' (a.mono e)
theorem T.weak (k : T K t ρ F) (n : ∀ ρ, F.nx ρ → G.nx ρ) (r : ∀ d, F.rt d → G.rt d) (f : ∀ d, F.rf d → G.rf d) (b : ∀ ρ, F.bk ρ → G.bk ρ) (c : ∀ ρ, F.ct ρ → G.ct ρ) : T K t ρ G := fun S0 H0 S H σ Dd s a =>
  k S0 H0 S H σ Dd s ⟨fun ρ S' H' σ h => a.nx ρ S' H' σ (n ρ h), fun ρ S' H' σ h => a.bk ρ S' H' σ (b ρ h), fun ρ S' H' σ h => a.ct ρ S' H' σ (c ρ h), fun d v S' H' h => a.rt d v S' H' (r d h), fun es p vs S' H' h => a.rf es p vs S' H' (f es h)⟩
theorem T.seqP {N : Rho → Prop} (h : T K t ρ { F with nx := N }) (k : ∀ ρ', N ρ' → T K u ρ' F) : T K (tSeq t u) ρ F := fun S0 H0 S H σ Dd s a =>
  h S0 H0 S H σ { Dd with nx := u Dd } s ⟨fun ρ' S' H' σ' n e s' => k ρ' n S0 H0 S' H' σ' Dd s' (a.mono e), a.bk, a.ct, a.rt, a.rf⟩
theorem T.seq {ρ1 : Rho} (h : T K t ρ { F with nx := fun r => r = ρ1 }) (k : T K u ρ1 F) : T K (tSeq t u) ρ F := T.seqP h fun _ e => e ▸ k
theorem T.next (h : F.nx ρ) : T K tNext ρ F := fun S0 H0 S H σ Dd s a => a.nx ρ S H σ h (Ex.refl S) s
theorem T.brk (h : F.bk ρ) : T K tBreak ρ F := fun S0 H0 S H σ Dd s a => a.bk ρ S H σ h (Ex.refl S) s
theorem T.cont (h : F.ct ρ) : T K tCont ρ F := fun S0 H0 S H σ Dd s a => a.ct ρ S H σ h (Ex.refl S) s
theorem T.asgG {g : TG} {ps : List (Nat × D)} (h : EvD K te ρ d) (hg : EvG K g d ps) (k : F.nx (setR ρ ps)) : T K (tAsg te g) ρ F := fun S0 H0 S H σ Dd s a =>
  h S H σ s.ext.sub s.env _ fun v S' H' x r => hg S' H' σ v x.sub r _ fun vs rv => a.nx _ S' H' _ k x.s ((s.go x).setV rv)
theorem T.asg (h : EvD K te ρ d) (k : F.nx (ρ.set i (.k d))) : T K (tAsg te (gName i)) ρ F := T.asgG h eg_name k
theorem T.asgF (h : EvF K te ρ es) (k : F.nx (ρ.set i (.o es))) : T K (tAsg te (gName i)) ρ F := fun S0 H0 S H σ Dd s a =>
  h S H σ s.ext.sub s.env _ fun p vs S' H' x hp sp h' r => a.nx _ S' H' _ k x.s ((s.go x).setO (Evl.fresh_back s.ext.h hp) sp h' r fun j ds _ hh e => by
    obtain ⟨q, us, g1, g2, g3, g4, g5⟩ := s.own j ds hh
    rw [g1] at e
    cases e
    rw [hp] at g4
    cases g4)
theorem T.drop (h : EvD K te ρ d) (k : F.nx ρ) : T K (tDrop te) ρ F := fun S0 H0 S H σ Dd s a =>
  h S H σ s.ext.sub s.env _ fun v S' H' x r => a.nx _ S' H' _ k x.s (s.go x)
theorem T.ret (h : EvD K te ρ d) (k : F.rt d) : T K (tRet te) ρ F := fun S0 H0 S H σ Dd s a =>
  h S H σ s.ext.sub s.env _ fun v S' H' x r => a.rt d v S' H' k (s.ext.trans x) r
theorem T.retN (k : F.rt .non) : T K tRetN ρ F := fun S0 H0 S H σ Dd s a => a.rt .non .non S H k s.ext .non
theorem T.retF (h : EvF K te ρ es) (k : F.rf es) : T K (tRet te) ρ F := fun S0 H0 S H σ Dd s a =>
  h S H σ s.ext.sub s.env _ fun p vs S' H' x hp sp h' r => a.rf es p vs S' H' k (s.ext.trans x) (Evl.fresh_back s.ext.h hp) sp h' r
theorem T.retO (h : ρ[i]? = some (.o es)) (k : F.rf es) : T K (tRet (tVar i)) ρ F := fun S0 H0 S H σ Dd s a => by
  obtain ⟨p, vs, h1, h2, h3, h4, h5⟩ := s.own i es h
  exact ⟨_, h1, a.rf es p vs S H k s.ext h2 h3 h4 h5⟩
theorem T.ifS {c : TT} {b : Bool} (h : EvT K c ρ b) (h1 : b = true → T K t ρ F) (h2 : b = false → T K u ρ F) : T K (tIfS c t u) ρ F := fun S0 H0 S H σ Dd s a =>
  h S H σ s.ext.sub s.env _ fun S' H' x => by
    cases b with
    | true =>
      show t Dd σ H'
      exact h1 rfl S0 H0 S' H' σ Dd (s.go x) (a.mono x.s)
    | false =>
      show u Dd σ H'
      exact h2 rfl S0 H0 S' H' σ Dd (s.go x) (a.mono x.s)
/-- for: the word by the turn and the slots -/
theorem T.for {wi : TI} {g : TG} (hi : EvI K wi ρ ds) (Pv : Nat → Rho → Prop) (h0 : Pv 0 ρ) (hs : ∀ (i : Nat) (d : D) (ρ' : Rho), ds[i]? = some d → Pv i ρ' → ∃ ps, EvG K g d ps ∧ T K t (setR ρ' ps) { F with nx := Pv (i + 1), ct := Pv (i + 1), bk := F.nx })
    (hd : ∀ ρ', Pv ds.length ρ' → F.nx ρ') : T K (tFor wi g t) ρ F := fun S0 H0 S H σ Dd s a =>
  hi S H σ s.ext.sub s.env _ fun J S1 H1 x1 wk => by
    refine ⟨fun i m σ' H' => m = ds.length - i ∧ i ≤ ds.length ∧ ∃ ρ' S', Pv i ρ' ∧ Ex S1 S' ∧ Stt K S0 H0 ρ' S' H' σ', ⟨ds.length, by simp, Nat.zero_le _, ρ, S1, h0, Ex.refl S1, s.go x1⟩, ?_⟩
    rintro i m σ' H' ⟨rfl, hi, ρ', S', p, e, s'⟩
    by_cases hlt : i < ds.length
    · have hdd : ds[i]? = some ds[i] := List.getElem?_eq_getElem hlt
      obtain ⟨ps, hg, ht⟩ := hs i ds[i] ρ' hdd p
      refine .inr ⟨wk.go S' H' i e s'.ext.sub hlt, fun σ2 H2 => ∃ ρ2 S2, Pv (i + 1) ρ2 ∧ Ex S1 S2 ∧ Stt K S0 H0 ρ2 S2 H2 σ2, fun σ2 H2 z => ⟨ds.length - (i + 1), by omega, rfl, hlt, z⟩, fun xv H'' y => ?_⟩
      obtain ⟨S2, x2, r2⟩ := wk.yld S' H' i xv H'' ds[i] e s'.ext.sub hdd y
      refine hg S2 H'' σ' xv x2.sub r2 _ fun ws rw => ?_
      have e2 : Ex S1 S2 := e.trans x2.s
      refine ht S0 H0 S2 H'' _ _ ((s'.go x2).setV rw) ⟨fun ρ3 S3 H3 σ3 n e3 s3 => ⟨ρ3, S3, n, e2.trans e3, s3⟩, fun ρ3 S3 H3 σ3 n e3 s3 => a.nx ρ3 S3 H3 σ3 n ((x1.s.trans e2).trans e3) s3, fun ρ3 S3 H3 σ3 n e3 s3 => ⟨ρ3, S3, n, e2.trans e3, s3⟩, a.rt, a.rf⟩
    · have e0 : i = ds.length := by omega
      subst e0
      exact .inl ⟨wk.stop S' H' e s'.ext.sub, a.nx ρ' S' H' σ' (hd ρ' p) (x1.s.trans e) s'⟩
theorem T.while {c : TT} (Pv : Nat → Rho → Prop) {m0 : Nat} (h0 : Pv m0 ρ) (hs : ∀ (m : Nat) (ρ' : Rho), Pv m ρ' → ∃ b, EvT K c ρ' b ∧ (b = true → T K t ρ' { F with nx := fun r => ∃ m', m' < m ∧ Pv m' r, ct := fun r => ∃ m', m' < m ∧ Pv m' r, bk := F.nx }) ∧ (b = false → F.nx ρ')) :
    T K (tWhile c t) ρ F := fun S0 H0 S H σ Dd s a => by
  refine ⟨fun m σ' H' => ∃ ρ' S', Pv m ρ' ∧ Ex S S' ∧ Stt K S0 H0 ρ' S' H' σ', ⟨m0, ρ, S, h0, Ex.refl S, s⟩, ?_⟩
  rintro m σ' H' ⟨ρ', S', p, e, s'⟩
  obtain ⟨b, hb, h1, h2⟩ := hs m ρ' p
  refine hb S' H' σ' s'.ext.sub s'.env _ fun S2 H2 x2 => ?_
  cases b with
  | true =>
    refine ⟨fun σ3 H3 => ∃ m', m' < m ∧ ∃ ρ3 S3, Pv m' ρ3 ∧ Ex S S3 ∧ Stt K S0 H0 ρ3 S3 H3 σ3, fun σ3 H3 z => z, ?_⟩
    have e2 := e.trans x2.s
    exact h1 rfl S0 H0 S2 H2 σ' _ (s'.go x2) ⟨fun ρ3 S3 H3 σ3 ⟨m', l, n⟩ e3 s3 => ⟨m', l, ρ3, S3, n, e2.trans e3, s3⟩, fun ρ3 S3 H3 σ3 n e3 s3 => a.nx ρ3 S3 H3 σ3 n (e2.trans e3) s3, fun ρ3 S3 H3 σ3 ⟨m', l, n⟩ e3 s3 => ⟨m', l, ρ3, S3, n, e2.trans e3, s3⟩, a.rt, a.rf⟩
  | false => exact a.nx ρ' S2 H2 σ' (h2 rfl) (e.trans x2.s) (s'.go x2)
/-! ### own lists -/
/-- own list at slot i gets the content es -/
theorem Stt.put {p : Addr} {vs ws : List V} (s : Stt K S0 H0 ρ S H σ) (h : ρ[i]? = some (.o ds)) (hp : σ[i]? = some (some (.ref p))) (r : RdL K S ws es) : Stt K S0 H0 (ρ.set i (.o es)) S (upd H p (.lst ws)) σ := by
  obtain ⟨q, us, h1, h2, h3, h4, h5⟩ := s.own i ds h
  rw [hp] at h1
  cases h1
  have hi : i < ρ.length := (List.getElem?_eq_some_iff.mp h).1
  have nx : ∀ {a : Addr} {o : HO}, S a = some o → a ≠ p := fun e z => by rw [z, h3] at e; cases e
  refine ⟨⟨s.ext.s, fun a o e => ?_, fun a o e => ?_, s.ext.dis⟩, ⟨by rw [List.length_set, s.env.len], fun j y hh => ?_⟩, fun j fs hh => ?_, fun j k a b q e1 e2 e3 e4 => ?_⟩
  · rw [upd_ne fun z => by rw [z, h2] at e; cases e]
    exact s.ext.h a o e
  · rw [upd_ne (nx e)]
    exact s.ext.sub a o e
  · rcases get_set hh with ⟨_, _, e'⟩ | ⟨_, hh⟩
    · cases e'
    · exact s.env.val j y hh
  · rcases get_set hh with ⟨rfl, _, e'⟩ | ⟨hj, hh⟩
    · cases e'
      exact ⟨p, ws, hp, h2, h3, upd_same, r⟩
    · obtain ⟨q, us', g1, g2, g3, g4, g5⟩ := s.own j fs hh
      refine ⟨q, us', g1, g2, g3, ?_, g5⟩
      have nq : q ≠ p := fun z => hj (s.apart i j ds fs p h hh hp (by rw [← z]; exact g1))
      rw [upd_ne nq]
      exact g4
  · have z : ∀ {j : Nat} {a : List D}, (ρ.set i (.o es))[j]? = some (.o a) → ∃ a', ρ[j]? = some (.o a') := fun {j a} e => by
      rcases get_set e with ⟨rfl, _, _⟩ | ⟨_, e⟩
      · exact ⟨ds, h⟩
      · exact ⟨a, e⟩
    obtain ⟨a', e1'⟩ := z e1
    obtain ⟨b', e2'⟩ := z e2
    exact s.apart j k a' b' q e1' e2' e3 e4
theorem T.append (h : ρ[i]? = some (.o ds)) (he : EvD K te ρ d) (hl : ds.length < 100000) (k : F.nx (ρ.set i (.o (ds ++ [d])))) : T K (tDrop (tBM K "list" rAppend (tVar i) (tCons te tNil))) ρ F := fun S0 H0 S H σ Dd s a => by
  obtain ⟨p, vs, h1, h2, h3, h4, h5⟩ := s.own i ds h
  refine ⟨_, h1, .inl ⟨rfl, _, Evl.sq_of h4⟩, ?_⟩
  refine he S H σ s.ext.sub s.env _ fun v S' H' x r => ?_
  have s' := s.go x
  refine ⟨p, vs, v, rfl, rfl, x.h _ _ h4, Evl.sz_lt (by rw [h5.length]; exact hl), ?_⟩
  exact a.nx _ S' _ σ k x.s (s'.put (vs := vs) h h1 ((h5.mono x.s).append (.cons r .nil)))
/-! ### a look at own lists: all that is told is flat -/
def Sl.see : Sl → Sl
  | .o ds => .k (.lst ds)
  | s => s
def see (ρ : Rho) : Rho := ρ.map Sl.see
def D.flat : D → Bool
  | .non => true | .bl _ => true | .int _ => true | .str _ => true | .adr _ => true | .ty _ => true
  | _ => false
theorem Rd.flat {v : V} {S2 : Hp} (h : Rd K S v d) (f : d.flat = true) : Rd K S2 v d := by
  cases h <;> first | (simp [D.flat] at f; done) | constructor
theorem RdL.flat {S2 : Hp} : ∀ {vs : List V} {ds : List D}, RdL K S vs ds → (∀ d ∈ ds, d.flat = true) → RdL K S2 vs ds
  | _, _, .nil, _ => .nil
  | _, _, .cons h r, f => .cons (h.flat (f _ List.mem_cons_self)) (RdL.flat r fun d hd => f d (List.mem_cons_of_mem _ hd))
def Owns (ρ : Rho) (σ : L2.St) (p : Addr) : Prop := ∃ (i : Nat) (ds : List D), ρ[i]? = some (.o ds) ∧ σ[i]? = some (some (.ref p))
open Classical in
noncomputable def withOwn (ρ : Rho) (σ : L2.St) (S H : Hp) : Hp := fun a => match S a with
  | some o => some o
  | none => if Owns ρ σ a then H a else none
open Classical in
noncomputable def woOwn (ρ : Rho) (σ : L2.St) (S : Hp) : Hp := fun a => if Owns ρ σ a then none else S a
theorem Stt.see (s : Stt K S0 H0 ρ S H σ) : Ex (withOwn ρ σ S H) H ∧ Env K (withOwn ρ σ S H) σ (see ρ) ∧ ∀ S' H', Ext (withOwn ρ σ S H) H S' H' → Ex S (woOwn ρ σ S') ∧ Stt K S0 H0 ρ (woOwn ρ σ S') H' σ := by
  have e1 : Ex S (withOwn ρ σ S H) := fun a o e => by unfold withOwn; rw [e]
  have e2 : Ex (withOwn ρ σ S H) H := fun a o e => by
    unfold withOwn at e
    cases q : S a with
    | some w => rw [q] at e; cases e; exact s.ext.sub a _ q
    | none =>
      rw [q] at e
      dsimp only at e
      split at e
      · exact e
      · cases e
  have no : ∀ a, Owns ρ σ a → S a = none := fun a ⟨i, ds, h1, h2⟩ => by
    obtain ⟨p, vs, g1, g2, g3, g4, g5⟩ := s.own i ds h1
    rw [g1] at h2
    cases h2
    exact g3
  refine ⟨e2, ⟨?_, fun i d h => ?_⟩, fun S' H' x => ?_⟩
  · unfold Pl.see; rw [List.length_map]; exact s.env.len
  · unfold Pl.see at h
    rw [List.getElem?_map] at h
    cases q : ρ[i]? with
    | none => rw [q] at h; cases h
    | some z =>
      rw [q] at h
      cases z with
      | u => cases h
      | k d' =>
        cases h
        obtain ⟨v, h1, h2⟩ := s.env.val i _ q
        exact ⟨v, h1, h2.mono e1⟩
      | o ds =>
        cases h
        obtain ⟨p, vs, g1, g2, g3, g4, g5⟩ := s.own i ds q
        refine ⟨_, g1, .lst ?_ (g5.mono e1)⟩
        unfold withOwn
        rw [g3]
        dsimp only
        rw [if_pos ⟨i, ds, q, g1⟩]
        exact g4
  · have eS : Ex S (woOwn ρ σ S') := fun a o e => by
      unfold woOwn
      rw [if_neg fun z => by rw [no a z] at e; cases e]
      exact x.s a o (e1 a o e)
    refine ⟨eS, ⟨s.ext.s.trans eS, s.ext.h.trans x.h, fun a o e => ?_, fun a h1 h2 => ?_⟩, s.env.mono eS, fun i ds h => ?_, s.apart⟩
    · unfold woOwn at e
      split at e
      · cases e
      · exact x.sub a o e
    · unfold woOwn
      split
      · rfl
      · rename_i hn
        refine x.dis a ?_ fun z => ?_
        · unfold withOwn
          rw [s.ext.dis a h1 h2]
          dsimp only
          rw [if_neg hn]
        · cases q : H0 a with
          | none => exact h2 q
          | some o => rw [s.ext.h a o q] at z; cases z
    · obtain ⟨p, vs, g1, g2, g3, g4, g5⟩ := s.own i ds h
      refine ⟨p, vs, g1, g2, ?_, x.h _ _ g4, g5.mono eS⟩
      unfold woOwn
      rw [if_pos ⟨i, ds, h, g1⟩]
theorem T.ifV {c : TT} {b : Bool} (h : EvT K c (see ρ) b) (h1 : b = true → T K t ρ F) (h2 : b = false → T K u ρ F) : T K (tIfS c t u) ρ F := fun S0 H0 S H σ Dd s a => by
  obtain ⟨e, v, w⟩ := s.see
  refine h _ H σ e v _ fun S' H' x => ?_
  obtain ⟨eS, s'⟩ := w S' H' x
  cases b with
  | true =>
    show t Dd σ H'
    exact h1 rfl S0 H0 _ H' σ Dd s' (a.mono eS)
  | false =>
    show u Dd σ H'
    exact h2 rfl S0 H0 _ H' σ Dd s' (a.mono eS)
theorem T.asgV {g : TG} {ps : List (Nat × D)} (h : EvD K te (see ρ) d) (hg : EvG K g d ps) (hf : ∀ p ∈ ps, p.2.flat = true) (k : F.nx (setR ρ ps)) : T K (tAsg te g) ρ F := fun S0 H0 S H σ Dd s a => by
  obtain ⟨e, v, w⟩ := s.see
  refine h _ H σ e v _ fun x S' H' xx r => hg S' H' σ x xx.sub r _ fun vs rv => ?_
  obtain ⟨eS, s'⟩ := w S' H' xx
  exact a.nx _ _ H' _ k eS (s'.setV (rv.flat fun d hd => by
    obtain ⟨p, hp, rfl⟩ := List.mem_map.mp hd
    exact hf p hp))
theorem T.retV (h : EvD K te (see ρ) d) (hf : d.flat = true) (k : F.rt d) : T K (tRet te) ρ F := fun S0 H0 S H σ Dd s a => by
  obtain ⟨e, v, w⟩ := s.see
  refine h _ H σ e v _ fun x S' H' xx r => ?_
  obtain ⟨eS, s'⟩ := w S' H' xx
  exact a.rt d x _ H' k s'.ext (r.flat hf)
theorem T.appendV (h : ρ[i]? = some (.o ds)) (he : EvD K te (see ρ) d) (hf : d.flat = true) (hl : ds.length < 100000) (k : F.nx (ρ.set i (.o (ds ++ [d])))) : T K (tDrop (tBM K "list" rAppend (tVar i) (tCons te tNil))) ρ F := fun S0 H0 S H σ Dd s a => by
  obtain ⟨e, v, w⟩ := s.see
  obtain ⟨p, vs, h1, h2, h3, h4, h5⟩ := s.own i ds h
  refine ⟨_, h1, .inl ⟨rfl, _, Evl.sq_of h4⟩, ?_⟩
  refine he _ H σ e v _ fun x S' H' xx r => ?_
  obtain ⟨eS, s'⟩ := w S' H' xx
  refine ⟨p, vs, x, rfl, rfl, xx.h _ _ h4, Evl.sz_lt (by rw [h5.length]; exact hl), ?_⟩
  exact a.nx _ _ _ σ k eS (s'.put (vs := vs) h h1 ((h5.mono eS).append (.cons (r.flat hf) .nil)))
/-- xs[k] = e -/
theorem T.setV {ti : TE} {k j : Nat} (h : ρ[i]? = some (.o ds)) (he : EvD K te (see ρ) d) (hf : d.flat = true) (hi : EvD K ti (see ρ) (.int (j : Int))) (hj : j < ds.length) (k : F.nx (ρ.set i (.o (ds.set j d)))) : T K (tAsg te (gSub (tVar i) ti rSetL)) ρ F := fun S0 H0 S H σ Dd s a => by
  obtain ⟨e, v, w⟩ := s.see
  obtain ⟨p, vs, h1, h2, h3, h4, h5⟩ := s.own i ds h
  refine he _ H σ e v _ fun x S1 H1 x1 r1 => ⟨_, h1, ?_⟩
  refine hi S1 H1 σ x1.sub (v.mono x1.s) _ fun y S2 H2 x2 r2 => ?_
  cases r2
  obtain ⟨eS, s'⟩ := w S2 H2 (x1.trans x2)
  refine ⟨p, vs, _, j, rfl, rfl, (x1.trans x2).h _ _ h4, ?_, ?_⟩
  · unfold ixN
    rw [h5.length]
    have hz : ¬ ((j : Int) < 0) := by omega
    first
      | (rw [if_neg hz]; simp [hj]; done)
      | (simp [hj]; done)
      | (simp [hz, hj]; omega)
  · exact a.nx _ _ _ σ k eS (s'.put (vs := vs) h h1 (RdL.set (r1.flat hf) _ (h5.mono eS)))
end

/-! ### a def -/
def startR (n : Nat) (ds : List D) : Rho := ds.map Sl.k ++ List.replicate (n - ds.length) .u
section
variable {K : PySem.W.Frag} {t : TS} {N : List Str}
theorem stt_start {S H : Hp} {vs : List V} {ds : List D} (e : Ex S H) (r : RdL K S vs ds) : Stt K S H (startR N.length ds) S H (L2.start N vs) where
  ext := Ext.refl e
  env := ⟨by unfold L2.start startR; rw [List.length_append, List.length_append, List.length_map, List.length_map, List.length_replicate, List.length_replicate, r.length], fun i d h => by
    unfold startR at h
    unfold L2.start
    by_cases hi : i < ds.length
    · rw [List.getElem?_append_left (by rw [List.length_map]; exact hi), List.getElem?_map, List.getElem?_eq_getElem hi] at h
      cases h
      obtain ⟨v, h1, h2⟩ := r.get (List.getElem?_eq_getElem hi)
      exact ⟨v, by rw [List.getElem?_append_left (by rw [List.length_map, r.length]; exact hi), List.getElem?_map, h1]; rfl, h2⟩
    · rw [List.getElem?_append_right (by rw [List.length_map]; omega), List.getElem?_replicate] at h
      split at h <;> cases h⟩
  own := fun i ds' h => by
    unfold startR at h
    by_cases hi : i < ds.length
    · rw [List.getElem?_append_left (by rw [List.length_map]; exact hi), List.getElem?_map, List.getElem?_eq_getElem hi] at h
      cases h
    · rw [List.getElem?_append_right (by rw [List.length_map]; omega), List.getElem?_replicate] at h
      split at h <;> cases h
  apart := fun i j a b p h => by
    unfold startR at h
    by_cases hi : i < ds.length
    · rw [List.getElem?_append_left (by rw [List.length_map]; exact hi), List.getElem?_map, List.getElem?_eq_getElem hi] at h
      cases h
    · rw [List.getElem?_append_right (by rw [List.length_map]; omega), List.getElem?_replicate] at h
      split at h <;> cases h
/-- a def that hands back the datum d -/
def FE.tell (d : D) : FE := { nx := fun _ => d = .non, rt := fun x => x = d, rf := fun es => .lst es = d }
def FE.own (es : List D) : FE := { rf := fun x => x = es }
theorem T.fin {Rel : List D → D → Prop} {vs : List V} {H : Hp} {Q : VK} {E : XK} (h : spD K Rel vs H Q E) (k : ∀ ds d, Rel ds d → T K t (startR N.length ds) (.tell d)) : t { nx := fun _ H' => Q .non H', rt := Q } (L2.start N vs) H := by
  obtain ⟨S, ds, d, e, r, rel, q⟩ := h
  refine k ds d rel S H S H _ _ (stt_start e r) ⟨fun ρ S' H' σ n _ s => ?_, fun _ _ _ _ z => z.elim, fun _ _ _ _ z => z.elim, fun x v S' H' n x' r' => ?_, fun es p ws S' H' n x' h0 sp hp r' => ?_⟩
  · have n : d = .non := n
    subst n
    exact q .non S' H' s.ext .non
  · have n : x = d := n
    subst n
    exact q v S' H' x' r'
  · have n : D.lst es = d := n
    subst n
    exact q (.ref p) (upd S' p (.lst ws)) H' (x'.tell sp h0 hp) (.lst upd_same (r'.mono (Ex.new sp)))
theorem T.finF {Rel : List D → List D → Prop} {vs : List V} {H : Hp} {Q : VK} {E : XK} (h : spF K Rel vs H Q E) (k : ∀ ds es, Rel ds es → T K t (startR N.length ds) (.own es)) : t { nx := fun _ H' => Q .non H', rt := Q } (L2.start N vs) H := by
  obtain ⟨S, ds, es, e, r, rel, q⟩ := h
  refine k ds es rel S H S H _ _ (stt_start e r) ⟨fun _ _ _ _ z => z.elim, fun _ _ _ _ z => z.elim, fun _ _ _ _ z => z.elim, fun _ _ _ _ z => z.elim, fun fs p ws S' H' n x' h0 sp hp r' => ?_⟩
  have n : fs = es := n
  subst n
  exact q p ws S' H' x' h0 sp hp r'
theorem spD_len {Rel : List D → D → Prop} {n : Nat} (h : ∀ ds d, Rel ds d → ds.length = n) : ∀ vs H Q E, spD K Rel vs H Q E → vs.length = n := fun vs H Q E ⟨S, ds, d, _, r, rel, _⟩ => r.length.trans (h ds d rel)
theorem spF_len {Rel : List D → List D → Prop} {n : Nat} (h : ∀ ds d, Rel ds d → ds.length = n) : ∀ vs H Q E, spF K Rel vs H Q E → vs.length = n := fun vs H Q E ⟨S, ds, d, _, r, rel, _⟩ => r.length.trans (h ds d rel)
end
end Pl

/-! set(xs) of whole numbers, sorted(set(xs)). -/
namespace Sx
open PySem PySem.Spec PyProof.Rows L2

theorem int_of : ∀ {us : List Value} {ns : List Int}, IntsAre us ns → ∀ (j : Nat) (u : Value), us[j]? = some u → ∃ tk, u = .int (ns.getD j 0) tk := fun h j u e => IntsAre.int_at h j u e
theorem ints_len : ∀ {us : List Value} {ns : List Int}, IntsAre us ns → us.length = ns.length
  | _, _, .nil => rfl
  | _, _, .cons _ _ h => congrArg (· + 1) (ints_len h)
section
variable {prog : Program} {w : World} {A : Around} {R : Result → Shared → Prop} {I : Addr} {fp wr : List Addr} {G : Array GenState → Array GenState → Prop} {n : Nat} {P : Nat → Value → Prop} {St : Nat → Shared → Prop}
/-- what is in the set behind j turns -/
def Got (w : World) (h : Heap) (S : Addr) (ns : List Int) (j : Nat) : Prop := ∃ (T : Int → Bool) (m : Nat), SetR w h S T m ∧ m ≤ j ∧ ∀ k, T k = true ↔ k ∈ ns.take j
theorem Got.at {h h' : Heap} {S : Addr} {ns : List Int} {j : Nat} (g : Got w h S ns j) (k : ∀ o, h.get? S = some o → h'.get? S = some o) : Got w h' S ns j := by
  obtain ⟨T, m, r, x⟩ := g
  exact ⟨T, m, r.at k, x⟩
theorem fill (W : WalksS prog w A.in1 I fp wr G n P St) (S : Addr) (hS : S ∉ fp) (ns : List Int) (hz : ns.length = n) (hr : n + 2 < scanBound) (hv : ∀ j u, P j u → ∃ tk, u = .int (ns.getD j 0) tk) :
    ∀ (left j : Nat) (s : Shared), n - j = left → j ≤ n → St j s → Got w s.heap S ns j → (∀ s2, Moved (S :: wr) G s s2 → Got w s2.heap S ns n → R (.ok (.ret .none)) s2) →
      codeAny (model prog w) A (.builtin "set.update.loop" ⟨[.ref S, .ref I], []⟩) R s := by
  have nw : S ∉ wr := fun q => hS (W.sub _ q)
  have up : ∀ b ∈ wr, b ∈ S :: wr := fun b q => List.mem_cons_of_mem _ q
  intro left
  induction left with
  | zero =>
    intro j s hk hj st g k
    obtain rfl : j = n := by omega
    refine codeAny_builtin PyProof.Rows.F.entry_set_update_loop ?_
    rw [Around.under_plainId PyProof.Rows.F.plain_set_update_loop _]
    show wpAny _ A.in1 (pyNext (.ref I) >>= _) _ _ s
    refine wpAny_bind (W.done s _ _ st fun s2 mv => ?_)
    show wpAny _ A.in1 (ret Value.none) _ _ s2
    exact wpAny_pure (k s2 (mv.mono up) (g.at fun o q => mv.heap S _ nw q))
  | succ left ih =>
    intro j s hk hj st g k
    have lt : j < n := by omega
    refine codeAny_builtin PyProof.Rows.F.entry_set_update_loop ?_
    rw [Around.under_plainId PyProof.Rows.F.plain_set_update_loop _]
    show wpAny _ A.in1 (pyNext (.ref I) >>= _) _ _ s
    refine wpAny_bind (W.item j s _ _ lt st fun u s2 pu st2 mv => ?_)
    obtain ⟨tk, rfl⟩ := hv j u pu
    have g2 : Got w s2.heap S ns j := g.at fun o q => mv.heap S _ nw q
    obtain ⟨T, m, r, hm, hT⟩ := g2
    show wpAny _ A.in1 (holding [Value.int (ns.getD j 0) tk] (setAdd S (.int (ns.getD j 0) tk)) >>= _) _ _ s2
    refine wpAny_bind (wpAny_holding ?_)
    unfold setAdd
    refine wpAny_holding (wpAny_bind ((intKind prog w).pyHash (k := ns.getD j 0) (intKind_is prog w _ tk) ?_))
    refine setR_add_hashed (P := prog) (s := { s2 with toks := s2.toks + 1 }) r (by omega) fun h3 sb r3 => ?_
    have g3 : Got w h3 S ns (j + 1) := by
      refine ⟨_, _, r3, ?_, fun q => ?_⟩
      · split <;> omega
      · have e1 : ns.take (j + 1) = ns.take j ++ [ns.getD j 0] := by
          have hl : j < ns.length := by omega
          rw [← List.take_append_getElem hl]
          simp [List.getD, hl]
        rw [Bool.or_eq_true, hT q, decide_eq_true_eq, e1, List.mem_append, List.mem_singleton]
    refine wpAny_pure ⟨plainId_quiet PyProof.Rows.F.plain_set_update_loop _, ih (j + 1) _ (by omega) lt (W.frame _ s2 _ _ st2 (Nat.le_succ _) fun b hb o q => ?_) g3 fun s4 mv4 g4 => ?_⟩
    · rw [sb.2 b fun z : b = S => hS (z ▸ hb)]
      exact q
    · refine k s4 (Moved.trans W.gtrans ((mv.mono up).then_heap (Nat.le_succ _) fun b o hb q => ?_) mv4) g4
      rw [sb.2 b fun z : b = S => hb (by rw [z]; exact List.mem_cons_self)]
      exact q
end
section
variable {P : Program} {w : World} {A : Around} {E : Value → Shared → Prop} {s : Shared}
abbrev freshSet (w : World) : Obj := { cls := .type "set", dict := none, data := .set #[] 0 (.fresh 0 0 (!w.params.followText "set-order")) }
theorem new_one (a : Value) {Q : Value → Shared → Prop} (h : Q (.ref s.heap.objs.size) { s with heap := s.heap.push (freshSet w) }) : codeAny (model P w) A (.call (.builtin "set.__new__") ⟨[.type "set", a], []⟩) (wants Q E) s := by
  refine codeAny_of_tree ?_
  show wpAny _ A.in1 (do checkBuiltinCall "set.__new__" ⟨[.type "set", a], []⟩; again (.builtin "set.__new__" ⟨[.type "set", a], []⟩)) _ _ s
  refine wpAny_bind (wpAny_of_eq (F.newCall_set_1 a) (wpAny_pure ⟨plainId_quiet F.plain_set_new _, codeAny_builtin F.entry_set_new ?_⟩))
  rw [Around.under_plainId F.plain_set_new _]
  unfold Builtin.«set.__new__» Builtin.Frozenset.newClass
  have sub := sub_set_self
  obtain ⟨hp, g, d, tk, os⟩ := s
  dsimp only
  wp_walk
  refine wpAny_askSetting (wpAny_pure ?_)
  dsimp only
  simp only [newObj]
  exact wpAny_bind (wpAny_alloc (wpAny_pure (wpAny_pure h)))
set_option maxHeartbeats 8000000 in
theorem set_of {l : Addr} {items : Array Value} {ns : List Int} {Q : Value → Shared → Prop} (hh : A.handled = none) (hl : s.heap.IsList l items) (hi : IntsAre items.toList ns) (hn : ns.length ≤ 1000)
    (h : ∀ (h2 : Heap) (tk : Nat), Got w h2 s.heap.objs.size ns ns.length → (∀ b o, b < s.heap.objs.size → s.heap.get? b = some o → h2.get? b = some o) → Q (.ref s.heap.objs.size) { s with heap := h2, toks := tk }) :
    wpAny (model P w) A (call (.type "set") [.ref l]) Q E s := by
  obtain ⟨c, tl, hmro⟩ := PySem.F.called_set.mro
  have made := PySem.F.called_set.made
  have sub := PySem.F.called_set.sub
  refine wpAny_call (codeAny_of_tree ?_)
  show wpAny _ _ (callAny (.type "set") _) _ _ _
  refine wpAny_pure ⟨Code.quiet_builtin _ (by decide +kernel), codeAny_builtin PySem.F.entry_type_call ?_⟩
  rw [Around.under_plain (weight_type_call_type "set" [.ref l] []) rfl]
  have y1 := PySem.F.called_set.notType
  have y2 := PySem.F.called_set.canCreate
  have y3 := PySem.F.typeCall_set_1 (.ref l)
  repeat (any_goals (first | assumption | wp_step))
  refine codeAny_mono (new_one (.ref l) (E := E) (Q := fun obj s₁ => obj = .ref s.heap.objs.size ∧ s₁ = { s with heap := s.heap.push (freshSet w) }) ⟨rfl, rfl⟩) fun r s₁ hr => ?_
  cases r with
  | error e => exact hr
  | ok fl =>
    cases fl with
    | ret obj =>
      obtain ⟨rfl, rfl⟩ := hr
      have gS : (s.heap.push (freshSet w)).get? s.heap.objs.size = some (freshSet w) := Heap.get?_push_size _ rfl
      have hT : Shared.TypeIs { s with heap := s.heap.push (freshSet w) } (.ref s.heap.objs.size) "set" := ⟨_, gS, rfl⟩
      have z1 := PySem.F.called_set.init.lookup
      have z2 := PySem.F.called_set.init.bind (.ref s.heap.objs.size)
      repeat (any_goals (first | assumption | wp_step))
      refine codeAny_mono (codeAny_call_builtin (R := wants (fun r s₂ => r = .none ∧ ∃ h2 tk, s₂ = { s with heap := h2, toks := tk } ∧ Got w h2 s.heap.objs.size ns ns.length ∧
          (∀ b o, b < s.heap.objs.size → s.heap.get? b = some o → h2.get? b = some o)) E) PySem.F.called_set.init.plain PySem.F.entry_set_init (check_set_init_1 hT ?_)) fun r₂ s₂ hr₂ => ?_
      · obtain ⟨ol, hol, hcl, nl, hdl⟩ := hl
        obtain ⟨ocls, odict, odata, oslots⟩ := ol
        simp only at hcl hdl
        subst hcl
        subst hdl
        have hol2 : (s.heap.push (freshSet w)).get? l = some { cls := .type "list", dict := odict, data := .seq items nl, slots := oslots } := Heap.get?_push_of_some _ hol
        have n1 := PySem.F.sub_list_set
        have n2 := PySem.F.sub_list_frozenset
        have n3 : (Value.type "list" == Value.type "dict") = false := by decide
        have hl2 : (s.heap.push (freshSet w)).IsList l items := ⟨_, hol2, rfl, nl, rfl⟩
        unfold Builtin.«set.__init__» noKeywords Builtin.Frozenset.updateFrom
        generalize gPI : pyIter = PI
        wp_walk
        subst gPI
        refine wpAny_pyIter_list hl2 (wpAny_bind (wpAny_runValue ?_))
        have lS : l < s.heap.objs.size := Heap.lt_size hol
        have hd3 : A.in1.in1.in1.handled = none := by simp [hh]
        have nI : l ≠ (s.heap.push (freshSet w)).objs.size := by rw [Heap.size_push]; exact Nat.ne_of_lt (Nat.lt_succ_of_lt lS)
        have nF : s.heap.objs.size ∉ [(s.heap.push (freshSet w)).objs.size, l] := by
          rw [Heap.size_push]
          simp only [List.mem_cons, List.mem_singleton, List.not_mem_nil, or_false, not_or]
          exact ⟨Nat.ne_of_lt (Nat.lt_succ_self _), Nat.ne_of_gt lS⟩
        have hsz : ns.length = items.size := by rw [← ints_len hi, Array.length_toList]
        have hval : ∀ (j : Nat) (u : Value), items[j]? = some u → ∃ tk, u = .int (ns.getD j 0) tk := fun j u q => int_of hi j u (by rw [Array.getElem?_toList]; exact q)
        refine fill ((Walks.list hd3 _ l nI items).toS) s.heap.objs.size nF ns hsz (by unfold scanBound; omega) hval (items.size - 0) 0 _ (by omega) (Nat.zero_le _) ⟨⟨_, Heap.get?_push_size _ rfl, rfl, rfl⟩, (hl2.push _)⟩ ?g0 ?gR
        case g0 =>
          refine ⟨fun _ => false, 0, (setR_fresh w).at fun o q => Heap.get?_push_of_some _ q, Nat.le_refl _, fun k => ?_⟩
          simp
        case gR =>
          intro s2 mv g2
          obtain ⟨h2, gg, dd, tk2, os2⟩ := s2
          have eg : gg = s.gens := mv.gens
          have ed : dd = s.drawn := mv.drawn
          have eo : os2 = s.os := mv.os
          subst eg
          subst ed
          subst eo
          show wpAny _ _ _ _ _ _
          refine wpAny_pure ?_
          show wpAny _ _ (ret Value.none) _ _ _
          refine wpAny_pure ⟨rfl, h2, tk2, rfl, by rw [hsz]; exact g2, fun b o hb q => ?_⟩
          have b1 : b ≠ s.heap.objs.size := Nat.ne_of_lt hb
          have b2 : b ≠ (s.heap.push (freshSet w)).objs.size := by rw [Heap.size_push]; exact Nat.ne_of_lt (Nat.lt_succ_of_lt hb)
          refine mv.heap b o ?_ (Heap.get?_push_of_some _ (Heap.get?_push_of_some _ q))
          simp only [List.mem_cons, List.mem_singleton, List.not_mem_nil, or_false, not_or]
          exact ⟨b1, b2⟩
      · cases r₂ with
        | error e => exact hr₂
        | ok fl₂ =>
          cases fl₂ with
          | ret r =>
            obtain ⟨rfl, h2, tk, rfl, g2, k2⟩ := hr₂
            repeat (any_goals (first | assumption | wp_step))
            exact h _ _ g2 k2
          | _ => exact hr₂.elim
    | _ => exact hr.elim
end
/-- strictly rising lists with the same members are one -/
theorem rise_one : ∀ {xs ys : List Int}, xs.Pairwise (· < ·) → ys.Pairwise (· < ·) → (∀ k, k ∈ xs ↔ k ∈ ys) → xs = ys
  | [], [], _, _, _ => rfl
  | [], y :: ys, _, _, h => absurd ((h y).mpr List.mem_cons_self) (by simp)
  | x :: xs, [], _, _, h => absurd ((h x).mp List.mem_cons_self) (by simp)
  | x :: xs, y :: ys, hx, hy, h => by
    rw [List.pairwise_cons] at hx hy
    have e : x = y := by
      have h1 := (h x).mp List.mem_cons_self
      have h2 := (h y).mpr List.mem_cons_self
      rcases List.mem_cons.mp h1 with q | q
      · exact q
      · rcases List.mem_cons.mp h2 with q2 | q2
        · exact q2.symm
        · have := hy.1 x q
          have := hx.1 y q2
          omega
    subst e
    rw [rise_one hx.2 hy.2 fun k => ⟨fun q => ?_, fun q => ?_⟩]
    · rcases List.mem_cons.mp ((h k).mp (List.mem_cons_of_mem _ q)) with z | z
      · subst z
        exact absurd (hx.1 k q) (by omega)
      · exact z
    · rcases List.mem_cons.mp ((h k).mpr (List.mem_cons_of_mem _ q)) with z | z
      · subst z
        exact absurd (hy.1 k q) (by omega)
      · exact z
end Sx

/-! The rules for set(xs), sorted(set(xs)) over the data. -/
namespace Sx
open PySem PySem.Spec PyProof.Rows L2
/-- set(xs), xs a list of whole numbers: its members, their number -/
def rSetOf (K : PySem.W.Frag) (w : World) : List V → Hp → VK → Prop := fun vs H Q => ∃ (a : Addr) (ns : List Int), vs = [V.ref a] ∧ SqL K H a (ns.map V.int) ∧ ns.length ≤ 1000 ∧
  ∀ (T : Int → Bool) (ks : List Int) (p : Addr), H p = none → ks.Nodup → (∀ k, T k = true ↔ k ∈ ks) → (∀ k, k ∈ ks ↔ k ∈ ns) → Q (.ref p) (upd H p (SetO w p T ks.length))
theorem cr_setOf {X : Cx} (hc : X.calm = true) : CallR X (.type "set") (rSetOf X.K X.w) := by
  intro pins s σ H vs us Q I r h
  obtain ⟨a, ns, rfl, hq, hl, q⟩ := h
  rw [Vals.ref1 r]
  obtain ⟨its, rv, pl, hz⟩ := I.list hq
  refine set_of (I.ok.hd hc) pl.isList (by simpa using intsAre_of rv) hl fun h2 tk g k => ?_
  obtain ⟨T, m, R, _, hT⟩ := g
  have hn : H s.heap.objs.size = none := I.hok.fresh (Nat.le_refl _)
  have R2 := R
  obtain ⟨o, es, ep, t, ho, hx, hd, ge, nd, hm, hb, hf, hsz, rest⟩ := R2
  have em : (es.toList.map keyOf).length = m := by rw [List.length_map, Array.length_toList]; exact hsz
  have J : Inv X pins σ (upd H s.heap.objs.size (SetO X.w s.heap.objs.size T m)) { s with heap := h2, toks := tk } := I.laid (fun b o e => k b o (Heap.lt_size e) e) (Nat.le_refl _) (setO_new R)
  rw [← em] at J
  refine ⟨.ref s.heap.objs.size, _, J, rfl, q T (es.toList.map keyOf) _ hn nd hm fun k => ?_⟩
  rw [← hm k, hT k, List.take_length]
end Sx
namespace Pl
open PySem PySem.Spec PyProof.Rows L2
open Evl (Ex)
variable {K : PySem.W.Frag} {ρ : Rho} {te : TE}
/-- sorted(set(xs)): ms, which rises and has the same members -/
theorem evF_sortedSet {w : World} {ns ms : List Int} (h : EvD K te ρ (.lst (ns.map D.int))) (hl : ns.length ≤ 1000) (hp : ms.Pairwise (· < ·)) (hm : ∀ k, k ∈ ms ↔ k ∈ ns) (h64 : ms.length < 64) :
    EvF K (tCB (rSortedSet w) (tCons (tCB (Sx.rSetOf K w) (tCons te tNil)) tNil)) ρ (ms.map D.int) := fun S H σ e v Q q =>
  h S H σ e v _ fun u S1 H1 x1 r1 => by
    cases r1 with
    | lst ha rl =>
      have z := rl.ints
      subst z
      refine ⟨_, ns, rfl, Evl.sq_of (x1.sub _ _ ha), hl, fun T ks p hp' nd hT hk => ?_⟩
      have nm : ms.Nodup := hp.imp fun a => by omega
      have el : ks.length = ms.length := Nat.le_antisymm (List.Nodup.length_le_of_subset nd fun k hk' => (hm k).mpr ((hk k).mp hk')) (List.Nodup.length_le_of_subset nm fun k hk' => (hk k).mpr ((hm k).mp hk'))
      refine ⟨p, T, ks.length, rfl, upd_same, by omega, fun ys p2 py my ly hp2 => ?_⟩
      have ey : ys = ms := Sx.rise_one py hp fun k => by rw [my k, hT k, hk k, hm k]
      subst ey
      have x2 : Ext S H S1 (upd H1 p (SetO w p T ks.length)) := x1.trans (Ext.hid x1.sub hp')
      exact q p2 _ S1 _ (x2.trans (Ext.hid x2.sub hp2)) (Evl.fresh_back x2.h hp2) (sub_none x2.sub hp2) upd_same (RdL.ofInts ys)
end Pl

/-! Rules with the written part named; a def by its promise; more of what expressions tell. -/
namespace Pl
open PySem PySem.Spec PyProof.Rows L2
open Evl (Ex)

/-! ### the written part by name -/
section
variable {X : Cx} {K : PySem.W.Frag} {a b e : Expr} {ta tb te : TE} {pos : Pos}
theorem ok_plus (h : X.K = K) : OpR X (binaryOp .Add) (rPlus K) := by subst h; exact op_plus
theorem ok_ix (h : X.K = K) : IxR X (rIx K) := by subst h; exact ix_seq
theorem ok_sl (h : X.K = K) : SlR X (rSl K) := by subst h; exact sl_any
theorem ok_eq (h : X.K = K) (hu : X.A.units + 64 < cLine) : OpR X (compareOp .Eq) (rEqD K) := by subst h; exact op_eqD hu
theorem ok_ne (h : X.K = K) (hu : X.A.units + 64 < cLine) : OpR X (compareOp .NotEq) (rNeD K) := by subst h; exact op_neD hu
theorem ok_in (h : X.K = K) : OpR X (compareOp .In) (rIn K false) := by subst h; exact op_in_seq
theorem ok_ni (h : X.K = K) : OpR X (compareOp .NotIn) (rIn K true) := by subst h; exact op_notIn_seq
theorem ok_len (h : X.K = K) : CallR X (.builtin "len") (rLen K) := by subst h; exact cr_len
theorem ok_list (h : X.K = K) : CallR X (.type "list") (rListOf K) := by subst h; exact cr_listOf
theorem ok_all (h : X.K = K) (hc : X.calm = true) : CallR X (.builtin "all") (rAll K) := by subst h; exact cr_all hc
theorem ok_isi (h : X.K = K) : CallR X (.builtin "isinstance") (rIsi K) := by subst h; exact call_isi
theorem ok_set {w : World} (h : X.K = K) (hw : X.w = w) (hc : X.calm = true) : CallR X (.type "set") (Sx.rSetOf K w) := by subst h; subst hw; exact Sx.cr_setOf hc
theorem ok_sset {w : World} (hw : X.w = w) (hc : X.calm = true) : CallR X (.builtin "sorted") (rSortedSet w) := by subst hw; exact cr_sortedSet hc
theorem ok_tup {es : List Expr} {k n : Nat} {t : TGs} (hK : X.K = K) (hc : X.calm = true) (h : PGs X es t) (hn : (assignEach es X.env).length = n := by rfl) (hst : (assignEach es X.env).findIdx? (·.1) = none := by rfl) : PG X (.Tuple es k pos) (gTup K n t) := by
  subst hK
  exact pg_tup hc h hn hst
theorem ok_ilist {tg : Expr} (hK : X.K = K) (h : PE X e te) : PI X tg e (iList K te) := by subst hK; exact pi_list h
theorem ok_itup {tg : Expr} (hK : X.K = K) (h : PE X e te) : PI X tg e (iTup K te) := by subst hK; exact pi_tup h
theorem ok_ienum {p pos tpos : Pos} {elts : List Expr} {kk : Nat} {tA : TA} (hK : X.K = K) (hg : Gl X "enumerate") (hm : X.mg "enumerate" = none) (ha : PA X [e] tA) (hs : starEach [e] X.env = [(false, eval e X.env)] := by rfl) :
    PI X (.Tuple elts kk tpos) (.Call (.Name "enumerate" p) [e] [] pos) (iEnum K tA) := by subst hK; exact pi_enum hg hm ha hs
end
/-! ### a def by its promise -/
section
variable (P : Program) (w : World) (K : PySem.W.Frag) (mg : Str → Option Value) (base : Heap) (CX : CXT)
def Cal (k : Nat) (x : Str) (ps : List Str) (sp : Sp) : Prop := ∃ f fd, FnOk P w K mg base CX k f fd ps sp ∧ mg x = some (.ref f) ∧ PySem.W.keepIn K (.ref f) = true ∧ Binds K fd ps []
end
theorem pe_cal {X : Cx} {CX : CXT} {k j : Nat} {x : Str} {ps : List Str} {sp : Sp} {E : XK} {e : Expr} {es : List Expr} {pos p : Pos} {t : TA} (C : Cal X.prog X.w X.K X.mg X.base CX k x ps sp) (hr : Room j X.A) (hk : k ≤ j) (hx : Passes CX X E) (ha : PA X (e :: es) t)
    (hg : Gl X x := by rfl) (hdb : (x == ("__debug__" : Str)) = false := by decide) (he : starEach (e :: es) X.env = (false, eval e X.env) :: starEach es X.env := by rfl) (hpl : (backTo pos (starEach es X.env)).any (·.1) = false := by rfl) :
    PE X (.Call (.Name x p) (e :: es) [] pos) (tCall sp [] E t) := by
  obtain ⟨f, fd, F, hm, kp, hb⟩ := C
  exact pe_call F (hr.mono hk) hg hm kp hb .nil hx ha hdb he hpl
section
variable {K : PySem.W.Frag} {ρ : Rho} {ta tb tc te : TE} {x y z : D} {r r' : R2}
theorem ev_chain {a b : Bool} (ha : EvD K ta ρ x) (hb : EvD K tb ρ y) (hr : RV K r x y (.bl a)) (hc : a = true → ∃ z, EvD K tc ρ z ∧ RV K r' y z (.bl b)) : EvD K (tChain r r' ta tb tc) ρ (.bl (a && b)) := fun S H σ e v Q q =>
  ha S H σ e v _ fun w1 S1 H1 x1 r1 => hb S1 H1 σ x1.sub (v.mono x1.s) _ fun w2 S2 H2 x2 r2 => hr S2 H2 w1 w2 x2.sub (r1.mono x2.s) r2 _ fun w3 S3 H3 x3 r3 => by
    cases r3
    refine ⟨a, rfl, ?_⟩
    cases a with
    | true =>
      obtain ⟨z, h1, h2⟩ := hc rfl
      show tc σ H3 _
      exact h1 S3 H3 σ x3.sub (v.mono ((x1.s.trans x2.s).trans x3.s)) _ fun w4 S4 H4 x4 r4 => h2 S4 H4 w2 w4 x4.sub (r2.mono (x3.s.trans x4.s)) r4 Q fun w5 S5 H5 x5 r5 => q w5 S5 H5 ((((x1.trans x2).trans x3).trans x4).trans x5) r5
    | false =>
      show Q (.bl false) H3
      exact q _ S3 H3 ((x1.trans x2).trans x3) (.bl false)
theorem et_truL {ds : List D} (h : EvD K te ρ (.lst ds)) : EvT K (fun σ H Q => te σ H fun x H' => ∃ k, TruV K x H' k ∧ Q k H') ρ (!ds.isEmpty) := fun S H σ e v Q q =>
  h S H σ e v _ fun w S1 H1 x1 r1 => by
    cases r1 with
    | lst ha rl =>
      refine ⟨!ds.isEmpty, .inl ⟨_, Evl.sq_of (x1.sub _ _ ha), ?_⟩, q S1 H1 x1⟩
      cases rl <;> rfl
theorem rc_isiK {T : String} {b : Bool} (k : String) (hk : x.kind = k) (h : kitB k T = some b) (hn : k ≠ "?") : RC K (rIsi K) [x, .ty T] (.bl b) := rc_isi (by rw [hk]; exact h) (by rw [hk]; exact hn)
theorem T.never {F : FE} (h : False) : T K tNever ρ F := h.elim
/-! ### comparisons, arithmetic -/
theorem rv_lt {i j : Int} : RV K (rI0 fun i j => .bl (decide (i < j))) (.int i) (.int j) (.bl (decide (i < j))) := rv_I0 fun _ => .bl _
theorem rv_le {i j : Int} : RV K (rI0 fun i j => .bl (decide (i ≤ j))) (.int i) (.int j) (.bl (decide (i ≤ j))) := rv_I0 fun _ => .bl _
theorem rv_gt {i j : Int} : RV K (rI0 fun i j => .bl (decide (j < i))) (.int i) (.int j) (.bl (decide (j < i))) := rv_I0 fun _ => .bl _
theorem rv_ge {i j : Int} : RV K (rI0 fun i j => .bl (decide (j ≤ i))) (.int i) (.int j) (.bl (decide (j ≤ i))) := rv_I0 fun _ => .bl _
theorem rv_sub {i j : Int} : RV K (rI0 fun i j => .int (i - j)) (.int i) (.int j) (.int (i - j)) := rv_I0 fun _ => .int _
theorem rv_mul {i j : Int} (h : CMul i j) : RV K (rI CMul fun i j => .int (i * j)) (.int i) (.int j) (.int (i * j)) := rv_I h fun _ => .int _
theorem rv_div {i j : Int} (h : CDivN i j) (hj : 0 ≤ j) : RV K (rI CDivN fun i j => .int (i.fdiv j)) (.int i) (.int j) (.int (i / j)) := by
  rw [← Int.fdiv_eq_ediv_of_nonneg i hj]
  exact rv_I h fun _ => .int _
theorem rv_mod {i j : Int} (h : j ≠ 0) (hj : 0 ≤ j) : RV K (rI (fun _ j => j ≠ 0) fun i j => .int (i.fmod j)) (.int i) (.int j) (.int (i % j)) := by
  rw [← Int.fmod_eq_emod_of_nonneg i hj]
  exact rv_I h fun _ => .int _
theorem ev_neg {i : Int} (h : EvD K te ρ (.int i)) : EvD K (tUn (rU fun i => .int (-i)) te) ρ (.int (-i)) := fun S H σ e v Q q =>
  h S H σ e v _ fun w S1 H1 x1 r1 => by
    cases r1
    exact ⟨i, rfl, q _ S1 H1 x1 (.int _)⟩
end
end Pl
namespace Pl
open PySem PySem.Spec PyProof.Rows L2
theorem rngD_get0 {n : Nat} {i : Nat} {d : D} (h : (rngD 0 n 1)[i]? = some d) : i < n ∧ d = .int (i : Int) := by
  obtain ⟨h1, h2⟩ := rngD_get h
  refine ⟨h1, h2.trans ?_⟩
  rw [Int.mul_one, Int.zero_add]
theorem rngD_mem0 {n : Nat} {d : D} (h : d ∈ rngD 0 n 1) : ∃ i : Nat, i < n ∧ d = .int (i : Int) := by
  obtain ⟨i, hi⟩ := List.getElem?_of_mem h
  exact ⟨i, rngD_get0 hi⟩
theorem atI_int {α : Type} {xs : List α} {k : Int} {x : α} (h0 : 0 ≤ k) (h : xs[k.toNat]? = some x) : atI xs k = some x := by
  have e : k = ((k.toNat : Nat) : Int) := by omega
  rw [e]
  exact atI_nat h
def barD (b : Int × Int) : D := .tup [.int b.1, .int b.2]
theorem barD_inj {a b : Int × Int} (h : barD a = barD b) : a = b := by
  cases a
  cases b
  unfold barD at h
  simp only [D.tup.injEq, List.cons.injEq, D.int.injEq, and_true] at h
  rw [h.1, h.2]
theorem bars_inj {as bs : List (Int × Int)} : as.map barD = bs.map barD ↔ as = bs := ⟨fun h => (List.map_inj_right fun _ _ e => barD_inj e).mp h, fun h => h ▸ rfl⟩
theorem okd_bars {bs : List (Int × Int)} : (D.lst (bs.map barD)).okd 60 = true := by
  simp [D.okd, barD]
theorem sm_bars {bs : List (Int × Int)} : (D.lst (bs.map barD)).sm 60 = true := by
  simp [D.sm, barD]
section
variable {K : PySem.W.Frag}
theorem rv_eqBars {as bs : List (Int × Int)} : RV K (rEqD K) (.lst (as.map barD)) (.lst (bs.map barD)) (.bl (decide (as = bs))) := rv_eqS okd_bars okd_bars sm_bars sm_bars (by rw [decide_eq_true_eq, D.lst.injEq, bars_inj])
theorem rv_neBars {as bs : List (Int × Int)} : RV K (rNeD K) (.lst (as.map barD)) (.lst (bs.map barD)) (.bl (!decide (as = bs))) := rv_neS okd_bars okd_bars sm_bars sm_bars (by rw [decide_eq_true_eq, D.lst.injEq, bars_inj])
end
end Pl
namespace Pl
open PySem PySem.Spec PyProof.Rows L2
section
variable {K : PySem.W.Frag} {ρ : Rho} {F : FE} {t u : TS} {c : TT} {b : Bool}
/-- if c: (what does not go on); then the rest -/
theorem T.guard (h : EvT K c ρ b) (h1 : b = true → T K t ρ { F with nx := fun _ => False }) (h2 : b = false → T K u ρ F) : T K (tSeq (tIfS c t tNext) u) ρ F :=
  T.seqP (N := fun r => r = ρ ∧ b = false) (T.ifS h (fun e => (h1 e).weak (fun _ z => z.elim) (fun _ z => z) (fun _ z => z) (fun _ z => z) fun _ z => z) fun e => T.next ⟨rfl, e⟩) fun r z => by
    obtain ⟨e1, e2⟩ := z
    subst e1
    exact h2 e2
theorem T.guardV (h : EvT K c (see ρ) b) (h1 : b = true → T K t ρ { F with nx := fun _ => False }) (h2 : b = false → T K u ρ F) : T K (tSeq (tIfS c t tNext) u) ρ F :=
  T.seqP (N := fun r => r = ρ ∧ b = false) (T.ifV h (fun e => (h1 e).weak (fun _ z => z.elim) (fun _ z => z) (fun _ z => z) (fun _ z => z) fun _ z => z) fun e => T.next ⟨rfl, e⟩) fun r z => by
    obtain ⟨e1, e2⟩ := z
    subst e1
    exact h2 e2
end
end Pl
namespace Pl
open PySem PySem.Spec PyProof.Rows L2
open Evl (Ex)
section
variable {K : PySem.W.Frag}
theorem RCF.data {r : List V → Hp → VK → Prop} {xs es : List D} (h : RCF K r xs es) : RC K r xs (.lst es) := fun S H vs e rl Q q => h S H vs e rl Q fun p ws S' H' x hp sp h' r' => q (.ref p) (upd S' p (.lst ws)) H' (x.tell sp hp h') (.lst upd_same (r'.mono (Ex.new sp)))
theorem RVF.data {r : R2} {x y : D} {es : List D} (h : RVF K r x y es) : RV K r x y (.lst es) := fun S H v u e r1 r2 Q q => h S H v u e r1 r2 Q fun p ws S' H' x hp sp h' r' => q (.ref p) (upd S' p (.lst ws)) H' (x.tell sp hp h') (.lst upd_same (r'.mono (Ex.new sp)))
end
end Pl

/-! {x for a in xs for x in a}: a set of whole numbers by two clauses without tests. -/
namespace Sc
open PySem PySem.Spec PyProof.Rows L2
abbrev two (elt t0 i0 t1 i1 : Expr) (scope : Scope) (pos : Pos) : Expr := .SetComp elt [⟨t0, i0, [], 0⟩, ⟨t1, i1, [], 0⟩] scope pos
section
variable {prog : Program} {w : World} {A : Around} {R : Result → Shared → Prop} {s : Shared} {elt t0 i0 t1 i1 : Expr} {scope : Scope} {pos : Pos} {it acc : Value} {env : Env}
theorem turn0 : compTurn (two elt t0 i0 t1 i1 scope pos) 0 it acc env = (do
    standAt i0.pos
    let r ← pyNext it
    match r with
    | none => pure (.done .next)
    | some u =>
      letOwnedTupleGo t0 it u
      assign t0 env u
      let x ← eval i1 env
      standAt i1.pos
      let y ← foldedSetIterable i1 env x
      let z ← holding [y] (pyIter y)
      let _ ← runOwn (.compStart (two elt t0 i0 t1 i1 scope pos) 1 z acc env) env
      again (.compLoop (two elt t0 i0 t1 i1 scope pos) 0 it acc env)) := by rfl
theorem turn1 : compTurn (two elt t0 i0 t1 i1 scope pos) 1 it acc env = (do
    standAt i1.pos
    let r ← pyNext it
    match r with
    | none => pure (.done .next)
    | some u =>
      letOwnedTupleGo t1 it u
      assign t1 env u
      (do
        let v ← eval elt env
        standAt elt.pos
        let _ ← call (.builtin "set.add") [acc, v])
      again (.compLoop (two elt t0 i0 t1 i1 scope pos) 1 it acc env)) := by rfl
abbrev Nb (w : World) (prog : Program) (A : Around) (env : Env) (R : Result → Shared → Prop) : Value → Shared → Prop := notedBy (model prog w) A env fun e u => R (.error e) u
theorem loop0 (hf : ∀ x, foldedSetIterable i1 env x = pure x) (J : Nat → Shared → Prop)
    (turn : ∀ n u, J n u → wpAny (model prog w) A (pyNext it) (fun r u1 => match r with
      | none => R (.ok .next) u1
      | some v => wpAny (model prog w) A (letOwnedTupleGo t0 it v) (fun _ u2 => wpAny (model prog w) A (assign t0 env v) (fun _ u3 => wpAny (model prog w) A (eval i1 env) (fun x u4 => wpAny (model prog w) A (pyIter x) (fun z u5 =>
          codeAny (model prog w) A (.compStart (two elt t0 i0 t1 i1 scope pos) 1 z acc env) (fun r u6 => match r with
            | .ok _ => ∃ m, m < n ∧ J m u6
            | .error _ => False) u5) (Nb w prog A env R) u4) (Nb w prog A env R) u3) (Nb w prog A env R) u2) (Nb w prog A env R) u1) (Nb w prog A env R) u)
    (n : Nat) (h : J n s) : codeAny (model prog w) A (.compLoop (two elt t0 i0 t1 i1 scope pos) 0 it acc env) R s := by
  refine codeAny_loop rfl J (fun n u hJ => ?_) n h
  show wpAny _ A ((compTurn (two elt t0 i0 t1 i1 scope pos) 0 it acc env).onRaise (fun x => do noteFrame x env; theTreesLotGoes x)) _ _ u
  refine wpAny_noted ?_
  rw [turn0]
  refine wpAny_bind (wpAny_standAt (wpAny_bind (wpAny_mono (turn n u hJ) (fun r u1 k1 => ?_) fun _ _ q => q)))
  cases r with
  | none => exact wpAny_pure k1
  | some v =>
    refine wpAny_bind (wpAny_mono k1 (fun _ u2 k2 => wpAny_bind (wpAny_mono k2 (fun _ u3 k3 => wpAny_bind (wpAny_mono k3 (fun x u4 k4 => ?_) fun _ _ q => q)) fun _ _ q => q)) fun _ _ q => q)
    refine wpAny_bind (wpAny_standAt (wpAny_bind (wpAny_of_eq (hf x) (wpAny_bind (wpAny_holding (wpAny_mono k4 (fun z u5 k5 => ?_) fun _ _ q => q))))))
    refine wpAny_bind (wpAny_runOwn ?_)
    rw [Around.mark_none]
    refine codeAny_mono k5 fun r u6 k6 => ?_
    cases r with
    | ok f => first | exact wpAny_pure ⟨rfl, k6⟩ | exact wpAny_bind (wpAny_pure (wpAny_pure ⟨rfl, k6⟩))
    | error e => exact k6.elim
theorem loop1 (J : Nat → Shared → Prop)
    (turn : ∀ n u, J n u → wpAny (model prog w) A (pyNext it) (fun r u1 => match r with
      | none => R (.ok .next) u1
      | some v => wpAny (model prog w) A (letOwnedTupleGo t1 it v) (fun _ u2 => wpAny (model prog w) A (assign t1 env v) (fun _ u3 => wpAny (model prog w) A (eval elt env) (fun x u4 =>
          wpAny (model prog w) A (call (.builtin "set.add") [acc, x]) (fun _ u5 => ∃ m, m < n ∧ J m u5) (Nb w prog A env R) u4) (Nb w prog A env R) u3) (Nb w prog A env R) u2) (Nb w prog A env R) u1) (Nb w prog A env R) u)
    (n : Nat) (h : J n s) : codeAny (model prog w) A (.compLoop (two elt t0 i0 t1 i1 scope pos) 1 it acc env) R s := by
  refine codeAny_loop rfl J (fun n u hJ => ?_) n h
  show wpAny _ A ((compTurn (two elt t0 i0 t1 i1 scope pos) 1 it acc env).onRaise (fun x => do noteFrame x env; theTreesLotGoes x)) _ _ u
  refine wpAny_noted ?_
  rw [turn1]
  refine wpAny_bind (wpAny_standAt (wpAny_bind (wpAny_mono (turn n u hJ) (fun r u1 k1 => ?_) fun _ _ q => q)))
  cases r with
  | none => exact wpAny_pure k1
  | some v =>
    refine wpAny_bind (wpAny_mono k1 (fun _ u2 k2 => wpAny_bind (wpAny_mono k2 (fun _ u3 k3 => wpAny_bind (wpAny_bind (wpAny_mono k3 (fun x u4 k4 => ?_) fun _ _ q => q))) fun _ _ q => q)) fun _ _ q => q)
    refine wpAny_bind (wpAny_standAt (wpAny_bind (wpAny_mono k4 (fun _ u5 k5 => ?_) fun _ _ q => q)))
    first | exact wpAny_pure (wpAny_pure ⟨rfl, k5⟩) | exact wpAny_pure ⟨rfl, k5⟩
theorem start1 (h0 : codeAny (model prog w) A (.compLoop (two elt t0 i0 t1 i1 scope pos) 1 it acc env) R s)
    (h : wpAny (model prog w) A (pyIter it) (fun z u => codeAny (model prog w) A (.compLoop (two elt t0 i0 t1 i1 scope pos) 1 z acc env) R u) (Nb w prog A env R) s) :
    codeAny (model prog w) A (.compStart (two elt t0 i0 t1 i1 scope pos) 1 it acc env) R s := by
  refine codeAny_of_tree ?_
  show wpAny _ _ ((compStart (two elt t0 i0 t1 i1 scope pos) 1 it acc env).onRaise (fun x => do noteFrame x env; standAt theWindowsPlace)) _ _ s
  refine wpAny_notedAt ?_
  unfold compStart
  show wpAny _ _ (ask >>= _) _ _ s
  refine wpAny_bind (wpAny_askSetting (wpAny_ite ?_))
  split
  · first | exact wpAny_bind (wpAny_pure (wpAny_pure (And.intro rfl h0))) | exact wpAny_pure (And.intro rfl h0)
  · first
      | exact wpAny_bind (wpAny_rule (wpAny_bind (wpAny_standAt (wpAny_bind (wpAny_mono h (fun z u q => wpAny_pure (And.intro rfl q)) fun _ _ x => x)))))
      | (refine wpAny_bind (wpAny_rule ?_)
         show wpAny _ _ (standAt i1.pos >>= _) _ _ s
         exact wpAny_bind (wpAny_standAt (wpAny_bind (wpAny_mono h (fun z u q => wpAny_pure (And.intro rfl q)) fun _ _ x => x))))
end
section
variable {X : Cx}
theorem add_ok {pins : List (Addr × Obj)} {σ : L2.St} {H : Hp} {s : Shared} {E : Value → Shared → Prop} {p : Addr} {T : Int → Bool} {n : Nat} {k : Int} {tk : Tok} {Q : Value → Shared → Prop} (I : Inv X pins σ H s) (hp : H p = some (SetO X.w p T n)) (room : n + 1 < scanBound)
    (h : ∀ u, Inv X pins σ (upd H p (SetO X.w p (fun j => T j || decide (j = k)) (if T k = true then n else n + 1))) u → Q .none u) : wpAny (model X.prog X.w) X.A (call (.builtin "set.add") [.ref p, .int k tk]) Q E s := by
  have R := setO_get I hp
  refine setR_add R room fun h2 sb new => ?_
  have ex : ∃ o, h2.get? p = some o := by
    have ⟨o, _, _, _, ho, _⟩ := new
    exact ⟨o, ho⟩
  exact h _ (I.write (e := p) (t' := s.toks + 1) (by rw [hp]; trivial) (.inl rfl) (fun b o hb ho => (sb.2 b hb).trans ho) ex (setO_new new))
/-- p the new set; the outer clause's word W, the inner one's W1 -/
def tSc2 (w : World) (wi : TI) (g : TG) (wi1 : TI) (g1 : TG) (te : TE) (vs vs1 : List Nat) : TE := fun σ H Q => wi σ H fun J H1 => ∀ p, H1 p = none → ∃ W : Nat → Nat → Hp → Prop, (∃ m, W 0 m (upd H1 p (SetO w p (fun _ => false) 0))) ∧ ∀ i m H, W i m H →
  (J.stop i H ∧ Q (.ref p) H) ∨ (J.go i H ∧ ∃ Nx : Hp → Prop, (∀ H', Nx H' → ∃ m', m' < m ∧ W (i + 1) m' H') ∧ ∀ x H', J.yld i H x H' → g x (wipe σ vs) H' fun σ2 H2 => wipe σ2 vs = wipe σ vs ∧
    wi1 σ2 H2 fun J1 H4 => ∃ W1 : Nat → Nat → Hp → Prop, (∃ m, W1 0 m H4) ∧ ∀ j k H, W1 j k H →
      (J1.stop j H ∧ Nx H) ∨ (J1.go j H ∧ ∃ N1 : Hp → Prop, (∀ H', N1 H' → ∃ k', k' < k ∧ W1 (j + 1) k' H') ∧ ∀ x H', J1.yld j H x H' → g1 x (wipe σ2 vs1) H' fun σ3 H5 => wipe σ3 vs1 = wipe σ2 vs1 ∧
        te σ3 H5 fun y H7 => ∃ (c : Int) (T : Int → Bool) (n : Nat), y = .int c ∧ H7 p = some (SetO w p T n) ∧ n + 1 < scanBound ∧ N1 (upd H7 p (SetO w p (fun j => T j || decide (j = c)) (if T c = true then n else n + 1)))))
theorem sc2_core {pins : List (Addr × Obj)} {s : Shared} {σ : L2.St} {H : Hp} {Q : VK} {elt tg iter tg1 iter1 : Expr} {scope : Scope} {own : List (Str × Nat)} {vs1 : List Nat} {pos pos' : Pos} {wi wi1 : TI} {g g1 : TG} {te : TE} {Qf : Value → Shared → Prop}
    (hc : X.calm = true) (hN : X.N.Nodup) (I : Inv X pins σ H s) (hi : PI X tg iter wi) (ok : BlkOk X.N X.env.scope scope own) (hv : ∀ i ∈ vs1, i ∈ own.map (·.2))
    (hg : ∀ (s : Shared) (H : Hp) (C : Addr) (cl : List (Str × Addr)) (fp : List Addr), PG (X.blk s H scope (compEnvC scope cl C X.env) fp) tg g)
    (he : ∀ (s : Shared) (H : Hp) (C : Addr) (cl : List (Str × Addr)) (fp : List Addr), PE (X.blk s H scope (compEnvC scope cl C X.env) fp) elt te) (hs : ∀ x, foldedSetIterable iter X.env x = pure x)
    (hi1 : ∀ (s : Shared) (H : Hp) (C : Addr) (cl : List (Str × Addr)) (fp : List Addr), PI (X.blk s H scope (compEnvC scope cl C X.env) fp) tg1 iter1 wi1)
    (hg1 : ∀ (s : Shared) (H : Hp) (C : Addr) (cl : List (Str × Addr)) (fp : List Addr), PG (X.blk s H scope (compEnvC scope cl C X.env) fp) tg1 g1)
    (hs1 : ∀ env x, foldedSetIterable iter1 env x = pure x) (h : tSc2 X.w wi g wi1 g1 te (own.map (·.2)) vs1 σ H Q)
    (fin : ∀ p C u m H', Inv X pins σ H' u → Q (.ref p) H' → u.heap.Ns C m → FpOk X pins H' C → compPost (model X.prog X.w) X.A X.xe none Qf (.ref p) C (.ok .next) u) :
    wpAny (model X.prog X.w) X.A (comprehension (two elt tg iter tg1 iter1 scope pos) scope X.env pos' (newSet (.type "set")) false (eval iter X.env) none) Qf X.xe s := by
  have fr : ∀ y ∈ scope.names, y.2 = .free → ∃ c, X.env.cells.lookup y.1 = some c := fun y hy e => (ok.free y hy e).elim (fun k => I.ok.has _ (.inl k)) fun k => I.ok.has _ (.inr k)
  refine wpAny_comprehension_free (use := none) rfl hs (closure_ok fr) ok.kind (fun y hy e => by rw [ok.uniq y hy, e]) (thn (hi.run pins s σ H _ I h) fun xv s1 hx => thn hx fun zv s2 h2 => ?_)
  obtain ⟨it, fp, tn, J, H2, e, I2, T, st2, f2, q⟩ := h2
  subst e
  refine PpSet.newSet_ok (newEnv_comp ?_)
  generalize hp : s2.heap.objs.size = p
  have hpn : H2 p = none := I2.hok.fresh (Nat.le_of_eq hp)
  obtain ⟨W, ⟨m0, w0⟩, turn⟩ := q p hpn
  generalize e3 : ({ s2 with heap := s2.heap.push { cls := .type "set", dict := none, data := .set #[] 0 (.fresh 0 0 (!X.w.params.followText "set-order")) } } : Shared) = s3
  have I3 : Inv X pins σ (upd H2 p (SetO X.w p (fun _ => false) 0)) s3 := by
    rw [← e3]
    refine I2.laid (t' := s2.toks) (fun b o z => Heap.get?_push_of_some _ z) (Nat.le_of_eq hp) ?_
    rw [← hp]
    exact setO_new (setR_fresh X.w)
  have h3 : s3.heap = s2.heap.push { cls := .type "set", dict := none, data := .set #[] 0 (.fresh 0 0 (!X.w.params.followText "set-order")) } := by rw [← e3]
  have f3 : ∀ b ∈ fp, FpOk X pins (upd H2 p (SetO X.w p (fun _ => false) 0)) b ∧ b < s3.heap.objs.size := fun b hb => by
    have lt : b < s2.heap.objs.size := by
      obtain ⟨o, z, _⟩ := T.obj _ _ st2 b hb
      exact Heap.lt_size z
    refine ⟨⟨?_, (f2 b hb).2⟩, by rw [h3, Heap.size_push]; exact Nat.lt_succ_of_lt lt⟩
    rw [upd_ne (by rw [← hp]; exact Nat.ne_of_lt lt)]
    exact (f2 b hb).1
  have st3 : tn 0 s3.heap := T.keep _ _ _ st2 fun b _ o z => by rw [h3]; exact Heap.get?_push_of_some _ z
  have I4 := block_start I3 ok hN f3
  generalize hH3 : upd H2 p (SetO X.w p (fun _ => false) 0) = H3 at I3 I4 w0 f3
  generalize hcl : cellsFrom (s3.heap.objs.size + 1) scope.names (cloFrom X.env.cells scope.names []) = cl at I4 ⊢
  have pg := hg s3 H3 s3.heap.objs.size cl fp
  have pe := he s3 H3 s3.heap.objs.size cl fp
  have pi1 := hi1 s3 H3 s3.heap.objs.size cl fp
  have pg1 := hg1 s3 H3 s3.heap.objs.size cl fp
  have nfp : ∀ b ∈ fp, H3 b = none := fun b hb => (f3 b hb).1.1
  show codeAny _ _ (.compStart (two elt tg iter tg1 iter1 scope pos) 0 (.ref it) (.ref p) (compEnvC scope cl s3.heap.objs.size X.env)) (compPost (model X.prog X.w) X.A X.xe none Qf (.ref p) s3.heap.objs.size) { s3 with heap := pushCells (s3.heap.push { cls := .type "dict", data := .dict #[] }) scope.names }
  generalize hce : compEnvC scope cl s3.heap.objs.size X.env = ce at I4 pg pe pi1 pg1 ⊢
  have cL : ce.locals = s3.heap.objs.size := by subst hce; rfl
  generalize e4 : ({ s3 with heap := pushCells (s3.heap.push { cls := .type "dict", data := .dict #[] }) scope.names } : Shared) = s4 at I4 ⊢
  have st4 : tn 0 s4.heap := T.keep _ _ _ st3 fun b _ o z => by rw [← e4]; exact pushCells_keeps _ _ _ _ (Heap.get?_push_of_some _ z)
  have stat : ∀ {σ' : L2.St} {H' : Hp} {u : Shared}, Inv (X.blk s3 H3 scope ce fp) [] σ' H' u → (∀ b ∈ fp, H' b = none) → ∀ b ∈ fp, FpOk (X.blk s3 H3 scope ce fp) [] H' b := fun {σ' H' u} I' hn b hb =>
    ⟨hn b hb, (I'.ok.exf b hb).1, I'.ok.exfs b hb, .inl hb, fun x c z => (I'.ok.exf b hb).2 x c z, fun r hr => absurd (show r ∈ ([] : List (Addr × Obj)) ++ [] from hr) (by simp)⟩
  have loop : codeAny (model X.prog X.w) X.A (.compLoop (two elt tg iter tg1 iter1 scope pos) 0 (.ref it) (.ref p) ce) (compPost (model X.prog X.w) X.A X.xe none Qf (.ref p) s3.heap.objs.size) s4 := by
    refine loop0 (hs1 ce) (fun n u => ∃ i H', Inv (X.blk s3 H3 scope ce fp) [] (wipe σ (own.map (·.2))) H' u ∧ tn i u.heap ∧ (∀ b ∈ fp, H' b = none) ∧ W i n H') ?_ m0 ⟨0, H3, I4, st4, nfp, w0⟩
    rintro n s5 ⟨i, H5, I5, st5, n5, w5⟩
    rcases turn i n H5 w5 with ⟨stop, qq⟩ | ⟨go, Nx, hNx, step⟩
    · refine thnF (T.done (X.blk s3 H3 scope ce fp) rfl rfl rfl hc i [] s5 _ H5 (fun _ _ => False) I5 (stat I5 n5) st5 stop) fun r s6 ⟨hr, I6⟩ => ?_
      subst hr
      have I7 : Inv X pins σ H5 s6 := I3.call' (ch := fp) I6.os I6.base I6.hok I6.bare fun b hb => ⟨(f3 b hb).1.2.2.2.1, (f3 b hb).1.2.1, (f3 b hb).1.2.2.2.2.1, (f3 b hb).1.2.2.2.2.2⟩
      have nC : H5 s3.heap.objs.size = none := by
        rw [← cL]
        exact I6.free
      obtain ⟨m, hn, _⟩ := I6.loc
      have hn2 : s6.heap.Ns ce.locals m := hn
      rw [cL] at hn2
      exact fin p s3.heap.objs.size s6 m H5 I7 qq hn2 (I3.fpOk (Nat.le_refl _) nC)
    · refine thnF (T.item (X.blk s3 H3 scope ce fp) rfl rfl rfl hc i [] s5 _ H5 (fun _ _ => False) I5 (stat I5 n5) st5 go) fun r s6 ⟨u, hr, h6⟩ => ?_
      subst hr
      refine thnF h6 fun _ s7 ⟨x, H7, I7, r7, y7, st7, n7⟩ => ?_
      have I7' := I7.pinned (stat I7 n7) (T.obj _ _ st7)
      refine thnF (pg.run _ s7 _ H7 x u _ I7' r7 (step x H7 y7)) fun _ s8 ⟨σ8, H8, I8, hw8, q8⟩ => ?_
      have done : ∀ {σ9 : L2.St} {u : Shared} {H' : Hp}, Inv (X.blk s3 H3 scope ce fp) ([] ++ pinsAt fp s7.heap) σ9 H' u → (wipe σ (own.map (·.2))).length = σ9.length → (∀ (j : Nat) v, (wipe σ (own.map (·.2)))[j]? = some (some v) → σ9[j]? = some (some v)) → Nx H' →
          ∃ m, m < n ∧ ∃ i H', Inv (X.blk s3 H3 scope ce fp) [] (wipe σ (own.map (·.2))) H' u ∧ tn i u.heap ∧ (∀ b ∈ fp, H' b = none) ∧ W i m H' := fun {σ9 u H'} I' hl hk nx => by
        obtain ⟨m', hm, w'⟩ := hNx H' nx
        have pin : ∀ b ∈ fp, ∀ o, s7.heap.get? b = some o → u.heap.get? b = some o ∧ H' b = none := fun b hb o z =>
          ⟨(I'.pin (b, o) (List.mem_append_right _ (List.mem_append_right _ (mem_pinsAt hb z)))).1, (I'.pin (b, o) (List.mem_append_right _ (List.mem_append_right _ (mem_pinsAt hb z)))).2.1⟩
        refine ⟨m', hm, i + 1, H', (I'.unpinned (pins := [])).weak hl hk, T.keep _ _ _ st7 fun b hb o z => (pin b hb o z).1, fun b hb => ?_, w'⟩
        obtain ⟨o, z, _⟩ := T.obj _ _ st7 b hb
        exact (pin b hb o z).2
      have hl8 : (wipe σ (own.map (·.2))).length = σ8.length := by rw [← hw8, wipe_length]
      have hk9 : ∀ (j : Nat) v, (wipe σ (own.map (·.2)))[j]? = some (some v) → (wipe σ8 vs1)[j]? = some (some v) := fun j v z => by
        rw [← hw8] at z
        obtain ⟨z1, z2⟩ := wipe_some z
        rw [wipe_out fun k => z2 (hv j k)]
        exact z1
      refine thnF (pi1.run _ s8 σ8 H8 _ I8 q8) fun xv s10 hx => thnF hx fun zv s11 h11 => ?_
      obtain ⟨it1, fp1, tn1, J1, H11, e1, I11, T1, st11, f11, W1, ⟨m1, w1⟩, turn1⟩ := h11
      subst e1
      have stat1 : ∀ {H' : Hp}, (∀ b ∈ fp1, H' b = none) → ∀ b ∈ fp1, FpOk (X.blk s3 H3 scope ce fp) ([] ++ pinsAt fp s7.heap) H' b := fun hn b hb => ⟨hn b hb, (f11 b hb).2⟩
      have inner : codeAny (model X.prog X.w) X.A (.compLoop (two elt tg iter tg1 iter1 scope pos) 1 (.ref it1) (.ref p) ce) (fun r u => match r with
          | .ok _ => ∃ m, m < n ∧ ∃ i H', Inv (X.blk s3 H3 scope ce fp) [] (wipe σ (own.map (·.2))) H' u ∧ tn i u.heap ∧ (∀ b ∈ fp, H' b = none) ∧ W i m H'
          | .error _ => False) s11 := by
        refine loop1 (fun k u => ∃ j H', Inv (X.blk s3 H3 scope ce fp) ([] ++ pinsAt fp s7.heap) (wipe σ8 vs1) H' u ∧ tn1 j u.heap ∧ (∀ b ∈ fp1, H' b = none) ∧ W1 j k H') ?_ m1 ⟨0, H11, I11.weak (wipe_length _ _) (fun j v z => (wipe_some z).1), st11, fun b hb => (f11 b hb).1, w1⟩
        rintro k s12 ⟨j, H12, I12, st12, n12, w12⟩
        rcases turn1 j k H12 w12 with ⟨stop1, nx1⟩ | ⟨go1, N1, hN1, step1⟩
        · refine thnF (T1.done (X.blk s3 H3 scope ce fp) rfl rfl rfl hc j _ s12 (wipe σ8 vs1) H12 (fun _ _ => False) I12 (stat1 n12) st12 stop1) fun r s13 ⟨hr, I13⟩ => ?_
          subst hr
          exact done I13 (hl8.trans (wipe_length σ8 vs1).symm) hk9 nx1
        · refine thnF (T1.item (X.blk s3 H3 scope ce fp) rfl rfl rfl hc j _ s12 (wipe σ8 vs1) H12 (fun _ _ => False) I12 (stat1 n12) st12 go1) fun r s13 ⟨u1, hr, h13⟩ => ?_
          subst hr
          refine thnF h13 fun _ s14 ⟨x1, H14, I14, r14, y14, st14, n14⟩ => ?_
          have I14' := I14.pinned (stat1 n14) (T1.obj _ _ st14)
          refine thnF (pg1.run _ s14 (wipe σ8 vs1) H14 x1 u1 _ I14' r14 (step1 x1 H14 y14)) fun _ s15 ⟨σ15, H15, I15, hw15, q15⟩ => ?_
          refine thnF (pe.run _ s15 σ15 H15 _ I15 q15) fun z s17 ⟨yv, H17, I17, r17, c0, T0, n0, ey, hD17, hz17, nx⟩ => ?_
          subst ey
          obtain ⟨tk, rfl⟩ := r17
          refine add_ok (X := X.blk s3 H3 scope ce fp) I17 hD17 hz17 fun s18 I18 => ?_
          obtain ⟨k', lk, w'⟩ := hN1 _ nx
          have pin : ∀ b ∈ fp1, ∀ o, s14.heap.get? b = some o → s18.heap.get? b = some o ∧ upd H17 p (SetO X.w p (fun j => T0 j || decide (j = c0)) (if T0 c0 = true then n0 else n0 + 1)) b = none := fun b hb o z =>
            ⟨(I18.pin (b, o) (List.mem_append_right _ (List.mem_append_right _ (mem_pinsAt hb z)))).1, (I18.pin (b, o) (List.mem_append_right _ (List.mem_append_right _ (mem_pinsAt hb z)))).2.1⟩
          refine ⟨k', lk, j + 1, _, I18.unpinned.weak (by rw [← hw15, wipe_length]) (fun j v z => by rw [← hw15] at z; exact (wipe_some z).1), T1.keep _ _ _ st14 fun b hb o z => (pin b hb o z).1, fun b hb => ?_, w'⟩
          obtain ⟨o, z, _⟩ := T1.obj _ _ st14 b hb
          exact (pin b hb o z).2
      exact start1 inner (T1.self X.A 0 _ _ _ st11 inner)
  exact PpSet.codeAny_compStart_set loop (T.self X.A 0 _ _ _ st4 loop)
theorem pe_sc2 {elt tg iter tg1 iter1 : Expr} {scope : Scope} {own : List (Str × Nat)} {vs1 : List Nat} {pos : Pos} {wi wi1 : TI} {g g1 : TG} {te : TE} {w : World} (hw : X.w = w) (hc : X.calm = true) (hN : X.N.Nodup) (hi : PI X tg iter wi) (ok : BlkOk X.N X.env.scope scope own) (hv : ∀ i ∈ vs1, i ∈ own.map (·.2))
    (hg : ∀ (s : Shared) (H : Hp) (C : Addr) (cl : List (Str × Addr)) (fp : List Addr), PG (X.blk s H scope (compEnvC scope cl C X.env) fp) tg g)
    (hi1 : ∀ (s : Shared) (H : Hp) (C : Addr) (cl : List (Str × Addr)) (fp : List Addr), PI (X.blk s H scope (compEnvC scope cl C X.env) fp) tg1 iter1 wi1)
    (hg1 : ∀ (s : Shared) (H : Hp) (C : Addr) (cl : List (Str × Addr)) (fp : List Addr), PG (X.blk s H scope (compEnvC scope cl C X.env) fp) tg1 g1)
    (he : ∀ (s : Shared) (H : Hp) (C : Addr) (cl : List (Str × Addr)) (fp : List Addr), PE (X.blk s H scope (compEnvC scope cl C X.env) fp) elt te) (hs : ∀ x, foldedSetIterable iter X.env x = pure x := by intro _; rfl) (hs1 : ∀ env x, foldedSetIterable iter1 env x = pure x := by intro _ _; rfl) :
    PE X (two elt tg iter tg1 iter1 scope pos) (tSc2 w wi g wi1 g1 te (own.map (·.2)) vs1) := by
  subst hw
  refine ⟨fun pins s σ H Q I h => ?_⟩
  rw [PpSet.eval_SetComp]
  refine sc2_core hc hN I hi ok hv hg he hs hi1 hg1 hs1 h fun p C u m H' I' q hn f => ⟨m, hn, fun h2 sb => ?_⟩
  obtain ⟨f0, f1, f2, f3, f4, f5⟩ := f
  exact ⟨.ref p, H', I'.turned (t' := u.toks) (fun b o hb e => (sb.2 b hb).trans e) f0 f1 f3 f4 f5, rfl, q⟩
end
end Sc

/-! sorted({.. for .. for ..}) over the data. -/
namespace Pl
open PySem PySem.Spec PyProof.Rows L2
open Evl (Ex)
variable {K : PySem.W.Frag} {ρ : Rho}
/-- at p the set of ks, which are of ms -/
def Held (w : World) (H : Hp) (p : Addr) (ms ks : List Int) : Prop := ∃ T : Int → Bool, H p = some (SetO w p T ks.length) ∧ ks.Nodup ∧ (∀ k, T k = true ↔ k ∈ ks) ∧ ∀ k ∈ ks, k ∈ ms
theorem Held.small {w : World} {H : Hp} {p : Addr} {ms ks : List Int} (h : Held w H p ms ks) : ks.length ≤ ms.length := by
  obtain ⟨T, _, nd, _, hs⟩ := h
  exact List.Nodup.length_le_of_subset nd fun k hk => hs k hk
theorem Held.add {w : World} {H : Hp} {p : Addr} {ms ks : List Int} {c : Int} {T : Int → Bool} (nd : ks.Nodup) (hT : ∀ k, T k = true ↔ k ∈ ks) (hs : ∀ k ∈ ks, k ∈ ms) (hc : c ∈ ms) :
    ∃ ks', Held w (upd H p (SetO w p (fun j => T j || decide (j = c)) (if T c = true then ks.length else ks.length + 1))) p ms ks' ∧ ∀ k, k ∈ ks' ↔ k ∈ ks ∨ k = c := by
  by_cases h : T c = true
  · refine ⟨ks, ⟨fun j => T j || decide (j = c), ?_, nd, fun k => ?_, hs⟩, fun k => ⟨.inl, fun z => ?_⟩⟩
    · rw [if_pos h]
      exact upd_same
    · rw [Bool.or_eq_true, decide_eq_true_eq, hT k]
      exact ⟨fun z => z.elim id fun e => by rw [e]; exact (hT c).mp h, .inl⟩
    · rcases z with z | z
      · exact z
      · rw [z]
        exact (hT c).mp h
  · have hn : c ∉ ks := fun z => h ((hT c).mpr z)
    refine ⟨c :: ks, ⟨fun j => T j || decide (j = c), ?_, List.nodup_cons.mpr ⟨hn, nd⟩, fun k => ?_, fun k hk => ?_⟩, fun k => ?_⟩
    · rw [if_neg h]
      exact upd_same
    · rw [Bool.or_eq_true, decide_eq_true_eq, hT k, List.mem_cons]
      exact Or.comm
    · rcases List.mem_cons.mp hk with z | z
      · rw [z]
        exact hc
      · exact hs k z
    · rw [List.mem_cons]
      exact Or.comm
theorem evF_sortedSc2 {w : World} {wi wi1 : TI} {g g1 : TG} {te : TE} {vs vs1 : List Nat} {ds : List D} (hi : EvI K wi ρ ds) (ps : D → List (Nat × D)) (es : D → List D) (ps1 : D → D → List (Nat × D)) (num : D → D → Int) (ms : List Int)
    (hg : ∀ d ∈ ds, EvG K g d (ps d)) (hs : ∀ d ∈ ds, ∀ p ∈ ps d, p.1 ∈ vs) (hi1 : ∀ d ∈ ds, EvI K wi1 (setR (wipeR ρ vs) (ps d)) (es d))
    (hg1 : ∀ d ∈ ds, ∀ e ∈ es d, EvG K g1 e (ps1 d e)) (hs1 : ∀ d ∈ ds, ∀ e ∈ es d, ∀ p ∈ ps1 d e, p.1 ∈ vs1) (he : ∀ d ∈ ds, ∀ e ∈ es d, EvD K te (setR (wipeR (setR (wipeR ρ vs) (ps d)) vs1) (ps1 d e)) (.int (num d e)))
    (hp : ms.Pairwise (· < ·)) (h64 : ms.length < 64) (hm : ∀ k, k ∈ ms ↔ ∃ d ∈ ds, ∃ e ∈ es d, num d e = k) :
    EvF K (tCB (rSortedSet w) (tCons (Sc.tSc2 w wi g wi1 g1 te vs vs1) tNil)) ρ (ms.map D.int) := fun S H σ ee v Q q =>
  hi S H σ ee v _ fun J S1 H1 x1 wk => fun p hpn => by
    refine ⟨fun i m H' => m = ds.length - i ∧ i ≤ ds.length ∧ ∃ S' ks, Ext S1 H1 S' H' ∧ S' p = none ∧ Held w H' p ms ks ∧ ∀ k, k ∈ ks ↔ ∃ d ∈ ds.take i, ∃ e ∈ es d, num d e = k,
      ⟨ds.length, by simp, Nat.zero_le _, S1, [], Ext.hid x1.sub hpn, sub_none x1.sub hpn, ⟨fun _ => false, upd_same, List.nodup_nil, fun k => by simp, fun k hk => by cases hk⟩, fun k => by simp⟩, ?_⟩
    rintro i m H' ⟨rfl, hi', S', ks, x, nS, hh, hk⟩
    by_cases hlt : i < ds.length
    · have hd : ds[i]? = some ds[i] := List.getElem?_eq_getElem hlt
      have hmem : ds[i] ∈ ds := List.getElem_mem hlt
      refine .inr ⟨wk.go S' H' i x.s x.sub hlt, fun H2 => ∃ S2 ks2, Ext S1 H1 S2 H2 ∧ S2 p = none ∧ Held w H2 p ms ks2 ∧ ∀ k, k ∈ ks2 ↔ ∃ d ∈ ds.take (i + 1), ∃ e ∈ es d, num d e = k, fun H2 z => ⟨ds.length - (i + 1), by omega, rfl, hlt, z⟩, fun xv H'' y => ?_⟩
      obtain ⟨S2, x2, r2⟩ := wk.yld S' H' i xv H'' ds[i] x.s x.sub hd y
      obtain ⟨T, hT1, nd, hT2, hT3⟩ := hh
      have nl : ∀ {S3 H3 : Hp}, Ext S2 H'' S3 H3 → S3 p = none := fun x3 => x3.dis p (x2.dis p nS (by rw [hT1]; exact fun z => nomatch z)) (by rw [x2.h p _ hT1]; exact fun z => nomatch z)
      refine hg _ hmem S2 H'' _ xv x2.sub r2 _ fun ws rws => ⟨?_, ?_⟩
      · rw [wipe_setV fun j hj => by
          obtain ⟨r, hr, rfl⟩ := List.mem_map.mp hj
          exact hs _ hmem r hr, wipe_wipe]
      have ev : Env K S2 (setV (L2.wipe σ vs) ((ps ds[i]).map (·.1)) ws) (setR (wipeR ρ vs) (ps ds[i])) := (((v.mono ((x1.s.trans x.s).trans x2.s)).wipe vs)).setV rws
      refine hi1 _ hmem S2 H'' _ x2.sub ev _ fun J1 S4 H4 x4 wk1 => ?_
      refine ⟨fun j n H5 => n = (es ds[i]).length - j ∧ j ≤ (es ds[i]).length ∧ ∃ S5 ks5, Ext S1 H1 S5 H5 ∧ Ex S4 S5 ∧ S5 p = none ∧ Held w H5 p ms ks5 ∧ ∀ k, k ∈ ks5 ↔ (∃ d ∈ ds.take i, ∃ e ∈ es d, num d e = k) ∨ ∃ e ∈ (es ds[i]).take j, num ds[i] e = k,
        ⟨_, rfl, Nat.zero_le _, S4, ks, (x.trans x2).trans x4, Ex.refl S4, nl x4, ⟨T, x4.h _ _ (x2.h _ _ hT1), nd, hT2, hT3⟩, fun k => by rw [hk k]; simp⟩, ?_⟩
      rintro j n H5 ⟨rfl, hj, S5, ks5, x5, e5, n5, hh5, hk5⟩
      by_cases hjl : j < (es ds[i]).length
      · have hje : (es ds[i])[j]? = some (es ds[i])[j] := List.getElem?_eq_getElem hjl
        have hjm : (es ds[i])[j] ∈ es ds[i] := List.getElem_mem hjl
        refine .inr ⟨wk1.go S5 H5 j e5 x5.sub hjl, fun H6 => ∃ S6 ks6, Ext S1 H1 S6 H6 ∧ Ex S4 S6 ∧ S6 p = none ∧ Held w H6 p ms ks6 ∧ ∀ k, k ∈ ks6 ↔ (∃ d ∈ ds.take i, ∃ e ∈ es d, num d e = k) ∨ ∃ e ∈ (es ds[i]).take (j + 1), num ds[i] e = k, fun H6 z => ⟨(es ds[i]).length - (j + 1), by omega, rfl, hjl, z⟩, fun yv H6 y1 => ?_⟩
        obtain ⟨S6, x6, r6⟩ := wk1.yld S5 H5 j yv H6 _ e5 x5.sub hje y1
        refine hg1 _ hmem _ hjm S6 H6 _ yv x6.sub r6 _ fun us rus => ⟨?_, ?_⟩
        · rw [wipe_setV fun a ha => by
            obtain ⟨r, hr, rfl⟩ := List.mem_map.mp ha
            exact hs1 _ hmem _ hjm r hr, wipe_wipe]
        have ev2 : Env K S6 _ (setR (wipeR (setR (wipeR ρ vs) (ps ds[i])) vs1) (ps1 ds[i] (es ds[i])[j])) := ((ev.mono ((x4.s.trans e5).trans x6.s)).wipe vs1).setV rus
        refine he _ hmem _ hjm S6 H6 _ x6.sub ev2 _ fun zv S7 H7 x7 r7 => ?_
        cases r7
        obtain ⟨T5, g1', g2, g3, g4⟩ := hh5
        have small : ks5.length ≤ ms.length := List.Nodup.length_le_of_subset g2 fun k hk => g4 k hk
        have x67 := x6.trans x7
        have hp7 : H7 p = some (SetO w p T5 ks5.length) := x67.h _ _ g1'
        have n7 : S7 p = none := x67.dis p n5 (by rw [g1']; exact fun z => nomatch z)
        have hcm : num ds[i] (es ds[i])[j] ∈ ms := (hm _).mpr ⟨_, hmem, _, hjm, rfl⟩
        obtain ⟨ks7, hh7, hk7⟩ := Held.add (w := w) (H := H7) (p := p) g2 g3 g4 hcm
        refine ⟨_, T5, ks5.length, rfl, hp7, by unfold scanBound; omega, S7, ks7, ?_, e5.trans x67.s, n7, hh7, fun k => ?_⟩
        · have xx := x5.trans x67
          refine ⟨xx.s, fun a o ha => ?_, fun a o ha => ?_, xx.dis⟩
          · rw [upd_ne (ne_of_none ha hpn)]
            exact xx.h a o ha
          · rw [upd_ne fun z => by rw [z, n7] at ha; cases ha]
            exact xx.sub a o ha
        · rw [hk7 k, hk5 k, ← List.take_append_getElem hjl]
          constructor
          · rintro ((h | ⟨e, he', h⟩) | h)
            · exact .inl h
            · exact .inr ⟨e, List.mem_append_left _ he', h⟩
            · exact .inr ⟨_, List.mem_append_right _ (List.mem_singleton.mpr rfl), h.symm⟩
          · rintro (h | ⟨e, he', h⟩)
            · exact .inl (.inl h)
            · rcases List.mem_append.mp he' with z | z
              · exact .inl (.inr ⟨e, z, h⟩)
              · rw [List.mem_singleton.mp z] at h
                exact .inr h.symm
      · have e0 : j = (es ds[i]).length := by omega
        subst e0
        refine .inl ⟨wk1.stop S5 H5 e5 x5.sub, S5, ks5, x5, n5, hh5, fun k => ?_⟩
        rw [hk5 k, List.take_length, ← List.take_append_getElem hlt]
        constructor
        · rintro (⟨d, hd', h⟩ | h)
          · exact ⟨d, List.mem_append_left _ hd', h⟩
          · exact ⟨_, List.mem_append_right _ (List.mem_singleton.mpr rfl), h⟩
        · rintro ⟨d, hd', h⟩
          rcases List.mem_append.mp hd' with z | z
          · exact .inl ⟨d, z, h⟩
          · rw [List.mem_singleton.mp z] at h
            exact .inr h
    · have e0 : i = ds.length := by omega
      subst e0
      obtain ⟨T, hT1, nd, hT2, hT3⟩ := hh
      have kk : ∀ k, k ∈ ks ↔ k ∈ ms := fun k => by rw [hk k, hm k, List.take_length]
      have small : ks.length ≤ ms.length := List.Nodup.length_le_of_subset nd fun k hk' => hT3 k hk'
      refine .inl ⟨wk.stop S' H' x.s x.sub, p, T, ks.length, rfl, hT1, by omega, fun ys p2 py my ly hp2 => ?_⟩
      have ey : ys = ms := Sx.rise_one py hp fun k => by rw [my k, hT2 k, kk k]
      subst ey
      have x2 := x1.trans x
      exact q p2 _ S' _ (x2.trans (Ext.hid x2.sub hp2)) (Evl.fresh_back x2.h hp2) (sub_none x2.sub hp2) upd_same (RdL.ofInts ys)
end Pl

open PySem PySem.Spec PyProof.Rows L2 Pl
local macro_rules | `(tactic| walk_at "ev") => `(tactic| first
  | exact ev_var rfl | exact ev_int | exact ev_bl | exact ev_non | exact ev_str | exact ev_ty | exact ea_nil | exact et_yes
  | (with_reducible refine' ev_op ?_ ?_ ?_ <;> walk_at "ev")
  | (with_reducible refine' ev_cb ?_ ?_ <;> walk_at "ev")
  | (with_reducible refine' ev_call ?_ ?_ <;> walk_at "ev")
  | (with_reducible refine' ev_neg ?_ <;> walk_at "ev")
  | (with_reducible refine' ev_not ?_ <;> walk_at "ev")
  | (with_reducible refine' ev_tup ?_ (Nat.le_of_ble_eq_true rfl) <;> walk_at "ev")
  | (with_reducible refine' ea_cons ?_ ?_ <;> walk_at "ev")
  | (with_reducible refine' et_test ?_ <;> walk_at "ev")
  | (with_reducible refine' et_B ?_ <;> walk_at "ev")
  | (with_reducible refine' et_not ?_ <;> walk_at "ev")
  | exact rv_plusI | exact rv_sub | exact rv_lt | exact rv_le | exact rv_gt | exact rv_ge | exact rv_eqI | exact rv_neI | exact rv_eqB | exact rv_neB | exact rv_inL | exact rv_inT | exact rv_eqInts | exact rv_neInts | exact rv_eqBars | exact rv_neBars
  | refine' rv_mul ?_ | refine' rv_div ?_ ?_ | refine' rv_mod ?_ ?_ | refine' rv_ixL ?_ | refine' rv_ixT ?_ | refine' rv_ixR ?_ | refine' rv_plusT ?_ ?_
  | exact RCF.data rc_listL | exact RCF.data rc_listT | exact RCF.data rc_listR | exact rc_lenL | exact rc_lenT | exact rc_lenR | exact rc_isiK "int" rfl (by decide +kernel) (by decide) | exact rc_isiK "bool" rfl (by decide +kernel) (by decide) | exact rc_isiK "list" rfl (by decide +kernel) (by decide) | exact rc_isiK "tuple" rfl (by decide +kernel) (by decide) | exact rc_isiK "NoneType" rfl (by decide +kernel) (by decide) | exact rc_isiK "str" rfl (by decide +kernel) (by decide) | exact rc_all
  | (with_reducible refine' ev_lst ?_ (Nat.le_of_ble_eq_true rfl) <;> walk_at "ev")
  | (with_reducible refine' ev_cbF ?_ ?_ <;> walk_at "ev") | exact rc_listL | exact rc_listT | exact rc_listR
  | (with_reducible refine' ev_callF ?_ ?_ <;> walk_at "ev")
  | (with_reducible refine' ev_opF ?_ ?_ (rvF_plus ?_) <;> walk_at "ev")
  | (with_reducible refine' EvF.data ?_ <;> walk_at "ev")
  | refine RVF.data (rvF_plus ?_)
  | skip)
namespace A
open PySem PySem.Spec PyProof.Rows L2 Pl
open Evl (Ex)
def top (i : Nat) : Stmt := PySem.Challenge.pw_stiffbars_k01_among.main.body.getD i (.Pass ⟨0, 0, 0, 0⟩)
abbrev FnP (K : PySem.W.Frag) (x : Str) (st : Stmt) (f : Addr) (fd : FuncData) : Prop := FunD K x x (defArgs st) (defBody st) (defScope st) [] [] f fd
structure Mods (mg : Str → Option Value) : Prop where
  m_all : mg "all" = none
  m_bool : mg "bool" = none
  m_enumerate : mg "enumerate" = none
  m_int : mg "int" = none
  m_isinstance : mg "isinstance" = none
  m_len : mg "len" = none
  m_list : mg "list" = none
  m_range : mg "range" = none
  m_set : mg "set" = none
  m_sorted : mg "sorted" = none
  m_tuple : mg "tuple" = none
  k_MOST_JOINTS : ∃ t, mg "MOST_JOINTS" = some (.int 16 t)
  k_MOST_BARS : ∃ t, mg "MOST_BARS" = some (.int 60 t)
/-! ### is_number -/
abbrev s_is_number : Stmt := top 11
theorem sc_is_number : FnScope ["value"] ["value"] (defScope s_is_number) := ⟨rfl, rfl, rfl, by decide +kernel, rfl, by decide +kernel, by decide +kernel⟩
inductive R_is_number : List D → D → Prop
  | int (i : Int) : R_is_number [.int i] (.bl true)

section
variable {P : Program} {w : World} {K : PySem.W.Frag} {mg : Str → Option Value} {base : Heap}
theorem ok_is_number {f : Addr} {fd : FuncData} (F : FnP K "is_number" s_is_number f fd) (g : mg "is_number" = some (.ref f)) (M : Mods mg)  : Cal P w K mg base CX0 1 "is_number" ["value"] (spD K R_is_number) := by
  refine ⟨f, fd, F.ok sc_is_number (spD_len fun ds d r => by cases r <;> rfl) (fun cdv A outer s H vs Q E hr h => ?_), g, F.kp, F.bindsN fun _ _ _ _ _ _ us hl => match us, hl with | [_], _ => rfl⟩
  have hu := hr.units
  refine ⟨_, PSs.nox (pss_one (ps_ret (pe_and (pe_callB (ok_isi (K := K) rfl) (by rfl) M.m_isinstance (by decide +kernel) (pa_cons (pv 0) (pa_cons (pe_bltn (v := .ty "int") (by rfl) M.m_int (by decide +kernel) rfl) pa_nil))) (pe_one (pe_not (pe_callB (ok_isi (K := K) rfl) (by rfl) M.m_isinstance (by decide +kernel) (pa_cons (pv 0) (pa_cons (pe_bltn (v := .ty "bool") (by rfl) M.m_bool (by decide +kernel) rfl) pa_nil)))))))), ?_⟩
  refine T.fin (K := K) h fun ds d rel => ?_
  cases rel with | int i =>
  refine T.ret (d := .bl (true && !false)) (ev_and (by walk_at "ev") fun _ => ?_) rfl
  walk_at "ev"
end
/-! ### check_count -/
abbrev s_check_count : Stmt := top 8
theorem sc_check_count : FnScope ["count"] ["count"] (defScope s_check_count) := ⟨rfl, rfl, rfl, by decide +kernel, rfl, by decide +kernel, by decide +kernel⟩
inductive R_check_count : List D → D → Prop
  | int (c : Int) (h1 : 1 ≤ c) (h2 : c ≤ 16) : R_check_count [.int c] .non

section
variable {P : Program} {w : World} {K : PySem.W.Frag} {mg : Str → Option Value} {base : Heap}
theorem ok_check_count {f : Addr} {fd : FuncData} (F : FnP K "check_count" s_check_count f fd) (g : mg "check_count" = some (.ref f)) (M : Mods mg) (C_is_number : Cal P w K mg base CX0 1 "is_number" ["value"] (spD K R_is_number)) : Cal P w K mg base CX0 2 "check_count" ["count"] (spD K R_check_count) := by
  obtain ⟨t_MOST_JOINTS, k_MOST_JOINTS⟩ := M.k_MOST_JOINTS
  refine ⟨f, fd, F.ok sc_check_count (spD_len fun ds d r => by cases r <;> rfl) (fun cdv A outer s H vs Q E hr h => ?_), g, F.kp, F.bindsN fun _ _ _ _ _ _ us hl => match us, hl with | [_], _ => rfl⟩
  have hu := hr.units
  refine ⟨_, PSs.nox (pss_one (ps_if (PW.pt (pw_or (pt_not (pt_val (pe_cal C_is_number hr (by decide) pass0 (pa_cons (pv 0) pa_nil)))) (pw_or1 (pt_not (pt_chain op_le op_le pe_int (pv 0) (pe_glob (v := .int 16) rfl k_MOST_JOINTS ⟨_, rfl⟩)))))) (pss_one ps_never) pss_nil)), ?_⟩
  refine T.fin (K := K) h fun ds d rel => ?_
  cases rel with | int c h1 h2 =>
  refine T.ifS (b := !true || !(decide (1 ≤ c) && decide (c ≤ 16))) (et_or (et_not (et_B (ev_call (by walk_at "ev") (.int c)))) fun _ => et_not (et_test (ev_chain (by walk_at "ev") (by walk_at "ev") rv_le fun _ => ⟨.int 16, by walk_at "ev", rv_le⟩))) (fun b => ?_) fun _ => T.next rfl
  rw [decide_eq_true h1, decide_eq_true h2] at b
  cases b
end
/-! ### is_joint -/
abbrev s_is_joint : Stmt := top 10
theorem sc_is_joint : FnScope ["count", "joint"] ["count", "joint"] (defScope s_is_joint) := ⟨rfl, rfl, rfl, by decide +kernel, rfl, by decide +kernel, by decide +kernel⟩
inductive R_is_joint : List D → D → Prop
  | int (c j : Int) : R_is_joint [.int c, .int j] (.bl (decide (0 ≤ j) && decide (j < c)))

section
variable {P : Program} {w : World} {K : PySem.W.Frag} {mg : Str → Option Value} {base : Heap}
theorem ok_is_joint {f : Addr} {fd : FuncData} (F : FnP K "is_joint" s_is_joint f fd) (g : mg "is_joint" = some (.ref f)) (M : Mods mg) (C_is_number : Cal P w K mg base CX0 1 "is_number" ["value"] (spD K R_is_number)) : Cal P w K mg base CX0 2 "is_joint" ["count", "joint"] (spD K R_is_joint) := by
  refine ⟨f, fd, F.ok sc_is_joint (spD_len fun ds d r => by cases r <;> rfl) (fun cdv A outer s H vs Q E hr h => ?_), g, F.kp, F.bindsN fun _ _ _ _ _ _ us hl => match us, hl with | [_, _], _ => rfl⟩
  have hu := hr.units
  refine ⟨_, PSs.nox (pss_one (ps_ret (pe_and (pe_cal C_is_number hr (by decide) pass0 (pa_cons (pv 1) pa_nil)) (pe_one (pe_chain op_le op_lt pe_int (pv 1) (pv 0)))))), ?_⟩
  refine T.fin (K := K) h fun ds d rel => ?_
  cases rel with | int c j =>
  refine T.ret (d := .bl (true && (decide (0 ≤ j) && decide (j < c)))) (ev_and (ev_call (by walk_at "ev") (.int j)) fun _ => ?_) rfl
  exact ev_chain (by walk_at "ev") (by walk_at "ev") rv_le fun _ => ⟨.int c, by walk_at "ev", rv_lt⟩
end
/-! ### is_bar -/
abbrev s_is_bar : Stmt := top 9
theorem sc_is_bar : FnScope ["count", "bar", "one", "other"] ["count", "bar"] (defScope s_is_bar) := ⟨rfl, rfl, rfl, by decide +kernel, rfl, by decide +kernel, by decide +kernel⟩
/-- two different joints of so many -/
def Good (c : Int) (b : Int × Int) : Prop := 0 ≤ b.1 ∧ b.1 < c ∧ 0 ≤ b.2 ∧ b.2 < c ∧ b.1 ≠ b.2
inductive R_is_bar : List D → D → Prop
  | good (c : Int) (b : Int × Int) (h : Good c b) : R_is_bar [.int c, barD b] (.bl true)

section
variable {P : Program} {w : World} {K : PySem.W.Frag} {mg : Str → Option Value} {base : Heap}
theorem ok_is_bar {f : Addr} {fd : FuncData} (F : FnP K "is_bar" s_is_bar f fd) (g : mg "is_bar" = some (.ref f)) (M : Mods mg) (C_is_joint : Cal P w K mg base CX0 2 "is_joint" ["count", "joint"] (spD K R_is_joint)) : Cal P w K mg base CX0 3 "is_bar" ["count", "bar"] (spD K R_is_bar) := by
  refine ⟨f, fd, F.ok sc_is_bar (spD_len fun ds d r => by cases r <;> rfl) (fun cdv A outer s H vs Q E hr h => ?_), g, F.kp, F.bindsN fun _ _ _ _ _ _ us hl => match us, hl with | [_, _], _ => rfl⟩
  have hu := hr.units
  refine ⟨_, PSs.nox (pss_cons (ps_if (PW.pt (pw_or (pt_not (pt_val (pe_callB (ok_isi (K := K) rfl) (by rfl) M.m_isinstance (by decide +kernel) (pa_cons (pv 1) (pa_cons (pe_bltn (v := .ty "tuple") (by rfl) M.m_tuple (by decide +kernel) rfl) pa_nil))))) (pw_or1 (pt_cmpR (ok_ne (K := K) rfl hu) (pe_callB (ok_len (K := K) rfl) (by rfl) M.m_len (by decide +kernel) (pa_cons (pv 1) pa_nil)) pe_int (nomark _))))) (pss_one (ps_ret pe_bl)) pss_nil)
      (pss_cons (ps_asg (pv 1) (ok_tup (K := K) rfl rfl (pgs_cons (pg_name (i := 2) sc_is_bar.nd rfl (Or.inl rfl)) (pgs_cons (pg_name (i := 3) sc_is_bar.nd rfl (Or.inl rfl)) pgs_nil))))
      (pss_one (ps_ret (pe_and (pe_cal C_is_joint hr (by decide) pass0 (pa_cons (pv 0) (pa_cons (pv 2) pa_nil))) (pe_and (pe_cal C_is_joint hr (by decide) pass0 (pa_cons (pv 0) (pa_cons (pv 3) pa_nil))) (pe_one (pe_cmpR (ok_ne (K := K) rfl hu) (pv 2) (pv 3) (nomark _))))))))), ?_⟩
  refine T.fin (K := K) h fun ds d rel => ?_
  cases rel with | good c b h =>
  obtain ⟨h1, h2, h3, h4, h5⟩ := h
  obtain ⟨x, y⟩ := b
  refine T.guard (b := !true || !decide ((2 : Int) = 2)) (et_or (et_not (et_B (by walk_at "ev"))) fun _ => ?_) (fun b => by cases b) fun _ => ?_
  · exact et_test (ev_op (x := .int 2) (y := .int 2) (ev_cb (ds := [.tup [.int x, .int y]]) (by walk_at "ev") rc_lenT) (by walk_at "ev") rv_neI)
  refine T.seq (T.asgG (d := .tup [.int x, .int y]) (ps := [(2, .int x), (3, .int y)]) (by walk_at "ev") (eg_tup (egs_cons eg_name (egs_cons eg_name egs_nil)) rfl) rfl) ?_
  refine T.ret (d := .bl ((decide (0 ≤ x) && decide (x < c)) && ((decide (0 ≤ y) && decide (y < c)) && !decide (x = y)))) (ev_and (ev_call (by walk_at "ev") (.int c x)) fun _ => ev_and (ev_call (by walk_at "ev") (.int c y)) fun _ => (by walk_at "ev")) ?_
  show D.bl _ = D.bl true
  rw [decide_eq_true h1, decide_eq_true h2, decide_eq_true h3, decide_eq_true h4, decide_eq_false h5]
  rfl
end
/-! ### checked -/
abbrev s_checked : Stmt := top 7
theorem sc_checked : FnScope ["count", "bars", "number", "bar"] ["count", "bars"] (defScope s_checked) := ⟨rfl, rfl, rfl, by decide +kernel, rfl, by decide +kernel, by decide +kernel⟩
inductive R_checked : List D → List D → Prop
  | good (c : Int) (bs : List (Int × Int)) (h1 : 1 ≤ c) (h2 : c ≤ 16) (h3 : bs.length ≤ 60) (h : ∀ b ∈ bs, Good c b) : R_checked [.int c, .lst (bs.map barD)] (bs.map barD)

section
variable {P : Program} {w : World} {K : PySem.W.Frag} {mg : Str → Option Value} {base : Heap}
theorem ok_checked {f : Addr} {fd : FuncData} (F : FnP K "checked" s_checked f fd) (g : mg "checked" = some (.ref f)) (M : Mods mg) (C_check_count : Cal P w K mg base CX0 2 "check_count" ["count"] (spD K R_check_count)) (C_is_bar : Cal P w K mg base CX0 3 "is_bar" ["count", "bar"] (spD K R_is_bar)) : Cal P w K mg base CX0 4 "checked" ["count", "bars"] (spF K R_checked) := by
  obtain ⟨t_MOST_BARS, k_MOST_BARS⟩ := M.k_MOST_BARS
  refine ⟨f, fd, F.ok sc_checked (spF_len fun ds d r => by cases r <;> rfl) (fun cdv A outer s H vs Q E hr h => ?_), g, F.kp, F.bindsN fun _ _ _ _ _ _ us hl => match us, hl with | [_, _], _ => rfl⟩
  have hu := hr.units
  refine ⟨_, PSs.nox (pss_cons (ps_expr (pe_cal C_check_count hr (by decide) pass0 (pa_cons (pv 0) pa_nil)))
      (pss_cons (ps_if (pt_not (pt_val (pe_callB (ok_isi (K := K) rfl) (by rfl) M.m_isinstance (by decide +kernel) (pa_cons (pv 1) (pa_cons (pe_bltn (v := .ty "list") (by rfl) M.m_list (by decide +kernel) rfl) pa_nil))))) (pss_one ps_never) pss_nil)
      (pss_cons (ps_if (pt_cmpR op_gt (pe_callB (ok_len (K := K) rfl) (by rfl) M.m_len (by decide +kernel) (pa_cons (pv 1) pa_nil)) (pe_glob (v := .int 60) rfl k_MOST_BARS ⟨_, rfl⟩) (nomark _)) (pss_one ps_never) pss_nil)
      (pss_cons (ps_for PassesOwn.never rfl (ok_ienum (K := K) rfl (by rfl) M.m_enumerate (pa_cons (pv 1) pa_nil)) (ok_tup (K := K) rfl rfl (pgs_cons (pg_name (i := 2) sc_checked.nd rfl (Or.inl rfl)) (pgs_cons (pg_name (i := 3) sc_checked.nd rfl (Or.inl rfl)) pgs_nil))) (pss_one (ps_if (pt_not (pt_val (pe_cal C_is_bar hr (by decide) pass0 (pa_cons (pv 0) (pa_cons (pv 3) pa_nil))))) (pss_one ps_never) pss_nil)))
      (pss_one (ps_ret (pe_callTy (ok_list (K := K) rfl) (by rfl) M.m_list (by decide +kernel) (pa_cons (pv 1) pa_nil)))))))), ?_⟩
  refine T.finF (K := K) h fun ds d rel => ?_
  cases rel with | good c bs h1 h2 h3 h =>
  refine T.seq (T.drop (d := .non) (ev_call (by walk_at "ev") (.int c h1 h2)) rfl) ?_
  refine T.guard (b := !true) (by walk_at "ev") (fun b => by cases b) fun _ => ?_
  refine T.guard (b := decide ((60 : Int) < ((bs.map barD).length : Int))) (by walk_at "ev") (fun b => ?_) fun _ => ?_
  · have := of_decide_eq_true b
    rw [List.length_map] at this
    omega
  refine T.seqP (N := fun r => ∃ s2 s3, r = [.k (.int c), .k (.lst (bs.map barD)), s2, s3]) (T.for (ei_enum (by walk_at "ev")) (fun _ r => ∃ s2 s3, r = [.k (.int c), .k (.lst (bs.map barD)), s2, s3]) ⟨_, _, rfl⟩ ?_ fun _ z => z) ?_
  · rintro i d r hd ⟨s2, s3, rfl⟩
    obtain ⟨x, hx, rfl⟩ := enumD_get hd
    rw [List.getElem?_map] at hx
    cases q : bs[i]? with
    | none => rw [q] at hx; cases hx
    | some b =>
      rw [q] at hx
      cases hx
      refine ⟨_, eg_tup (egs_cons eg_name (egs_cons eg_name egs_nil)) rfl, ?_⟩
      refine T.ifS (b := !true) (et_not (et_B (ev_call (by walk_at "ev") (.good c b (h b (List.mem_of_getElem? q)))))) (fun b => by cases b) fun _ => T.next ⟨_, _, rfl⟩
  · rintro r ⟨s2, s3, rfl⟩
    exact T.retF (by walk_at "ev") rfl
end
/-! ### joints_of -/
abbrev s_joints_of : Stmt := top 12
theorem sc_joints_of : FnScope ["bars", "bar", "joint"] ["bars"] (defScope s_joints_of) := ⟨rfl, rfl, rfl, by decide +kernel, rfl, by decide +kernel, by decide +kernel⟩
inductive R_joints_of : List D → List D → Prop
  | mk (bs : List (Int × Int)) (ms : List Int) (hp : ms.Pairwise (· < ·)) (hl : ms.length < 64) (hm : ∀ k, k ∈ ms ↔ ∃ b ∈ bs, k ∈ [b.1, b.2]) : R_joints_of [.lst (bs.map barD)] (ms.map D.int)
def tupL : D → List D
  | .tup ds => ds
  | _ => []
def numI : D → Int
  | .int i => i
  | _ => 0

section
variable {P : Program} {w : World} {K : PySem.W.Frag} {mg : Str → Option Value} {base : Heap}
theorem ok_joints_of {f : Addr} {fd : FuncData} (F : FnP K "joints_of" s_joints_of f fd) (g : mg "joints_of" = some (.ref f)) (M : Mods mg)  : Cal P w K mg base CX0 1 "joints_of" ["bars"] (spF K R_joints_of) := by
  refine ⟨f, fd, F.ok sc_joints_of (spF_len fun ds d r => by cases r <;> rfl) (fun cdv A outer s H vs Q E hr h => ?_), g, F.kp, F.bindsN fun _ _ _ _ _ _ us hl => match us, hl with | [_], _ => rfl⟩
  have hu := hr.units
  refine ⟨_, PSs.nox (pss_one (ps_ret (pe_callB (ok_sset (w := w) rfl rfl) (by rfl) M.m_sorted (by decide +kernel) (pa_cons (Sc.pe_sc2 (w := w) (own := [("bar", 1), ("joint", 2)]) (vs1 := [2]) (g := (gName 1)) (g1 := (gName 2)) rfl rfl sc_joints_of.nd (ok_ilist (K := K) rfl (pv 0)) (blkOk_by (N := ["bars", "bar", "joint"]) (sc := defScope s_joints_of) (by decide +kernel)) (by decide) (fun _ _ _ _ _ => (pg_name (i := 1) sc_joints_of.nd rfl (Or.inl rfl))) (fun _ _ _ _ _ => (ok_itup (K := K) rfl (pv 1))) (fun _ _ _ _ _ => (pg_name (i := 2) sc_joints_of.nd rfl (Or.inl rfl))) (fun _ _ _ _ _ => (pv 2))) pa_nil)))), ?_⟩
  refine T.finF (K := K) h fun ds d rel => ?_
  cases rel with | mk bs ms hp hl hm =>
  refine T.retF (evF_sortedSc2 (ei_list (by walk_at "ev")) (fun d => [(1, d)]) tupL (fun _ e => [(2, e)]) (fun _ e => numI e) ms (fun d _ => eg_name) (fun d _ p hp => ?_) (fun d hd => ?_) (fun d _ e _ => eg_name) (fun d _ e _ p hp => ?_) (fun d hd e he => ?_) hp hl fun k => ?_) rfl
  · rw [List.mem_singleton.mp hp]
    simp
  · obtain ⟨b, _, rfl⟩ := List.mem_map.mp hd
    exact ei_tup (ds := [.int b.1, .int b.2]) (ev_var rfl)
  · rw [List.mem_singleton.mp hp]
    simp
  · obtain ⟨b, _, rfl⟩ := List.mem_map.mp hd
    have he : e ∈ [D.int b.1, D.int b.2] := he
    rcases List.mem_cons.mp he with rfl | he
    · exact ev_var rfl
    · rw [List.mem_singleton.mp he]
      exact ev_var rfl
  · rw [hm k]
    constructor
    · rintro ⟨b, hb, hk⟩
      refine ⟨barD b, List.mem_map_of_mem hb, ?_⟩
      rcases List.mem_cons.mp hk with h | h
      · exact ⟨.int b.1, List.mem_cons_self, h.symm⟩
      · exact ⟨.int b.2, List.mem_cons_of_mem _ List.mem_cons_self, (List.mem_singleton.mp h).symm⟩
    · rintro ⟨d, hd, e, he, hk⟩
      obtain ⟨b, hb, rfl⟩ := List.mem_map.mp hd
      have he : e ∈ [D.int b.1, D.int b.2] := he
      refine ⟨b, hb, ?_⟩
      rcases List.mem_cons.mp he with rfl | he
      · rw [← hk]
        exact List.mem_cons_self
      · rw [List.mem_singleton.mp he] at hk
        rw [← hk]
        exact List.mem_cons_of_mem _ List.mem_cons_self
end
/-! ### among -/
abbrev s_among : Stmt := top 13
theorem sc_among : FnScope ["bars", "joints", "number", "one", "other"] ["bars", "joints"] (defScope s_among) := ⟨rfl, rfl, rfl, by decide +kernel, rfl, by decide +kernel, by decide +kernel⟩
def amongL (bs : List (Int × Int)) (js : List Int) : List Int :=
  ((List.range bs.length).filter fun k => decide ((bs.getD k (0, 0)).1 ∈ js) && decide ((bs.getD k (0, 0)).2 ∈ js)).map fun k : Nat => (k : Int)
inductive R_among : List D → List D → Prop
  | mk (bs : List (Int × Int)) (js : List Int) (h : bs.length ≤ 100) : R_among [.lst (bs.map barD), .lst (js.map D.int)] ((amongL bs js).map D.int)
theorem enum_bars (bs : List (Int × Int)) : enumD (bs.map barD) = (List.range bs.length).map fun i : Nat => .tup [.int (i : Int), barD (bs.getD i (0, 0))] := by
  unfold enumD
  rw [List.length_map]
  refine List.map_congr_left fun i hi => ?_
  have h := List.mem_range.mp hi
  simp [List.getD, h]
theorem enum_bar {bs : List (Int × Int)} {d : D} (h : d ∈ enumD (bs.map barD)) : ∃ i : Nat, i < bs.length ∧ d = .tup [.int (i : Int), barD (bs.getD i (0, 0))] := by
  rw [enum_bars] at h
  obtain ⟨i, hi, rfl⟩ := List.mem_map.mp h
  exact ⟨i, List.mem_range.mp hi, rfl⟩
def amP : D → List (Nat × D)
  | .tup [i, .tup [a, b]] => [(2, i), (3, a), (4, b)]
  | _ => []
def amF (js : List Int) : D → Bool
  | .tup [_, .tup [.int a, .int b]] => decide (a ∈ js) && decide (b ∈ js)
  | _ => false
def amE : D → D
  | .tup [i, _] => i
  | d => d

section
variable {P : Program} {w : World} {K : PySem.W.Frag} {mg : Str → Option Value} {base : Heap}
theorem ok_among {f : Addr} {fd : FuncData} (F : FnP K "among" s_among f fd) (g : mg "among" = some (.ref f)) (M : Mods mg)  : Cal P w K mg base CX0 1 "among" ["bars", "joints"] (spF K R_among) := by
  refine ⟨f, fd, F.ok sc_among (spF_len fun ds d r => by cases r <;> rfl) (fun cdv A outer s H vs Q E hr h => ?_), g, F.kp, F.bindsN fun _ _ _ _ _ _ us hl => match us, hl with | [_, _], _ => rfl⟩
  have hu := hr.units
  refine ⟨_, PSs.nox (pss_one (ps_ret (pe_lc (own := [("number", 2), ("one", 3), ("other", 4)]) (g := (gTup K 2 (gCons (gName 2) (gCons (gTup K 2 (gCons (gName 3) (gCons (gName 4) gNil))) gNil)))) (tt := _) rfl sc_among.nd (ok_ienum (K := K) rfl (by rfl) M.m_enumerate (pa_cons (pv 0) pa_nil)) (blkOk_by (N := ["bars", "joints", "number", "one", "other"]) (sc := defScope s_among) (by decide +kernel)) (fun _ _ _ _ _ => (ok_tup (K := K) rfl rfl (pgs_cons (pg_name (i := 2) sc_among.nd rfl (Or.inl rfl)) (pgs_cons (ok_tup (K := K) rfl rfl (pgs_cons (pg_name (i := 3) sc_among.nd rfl (Or.inl rfl)) (pgs_cons (pg_name (i := 4) sc_among.nd rfl (Or.inl rfl)) pgs_nil))) pgs_nil)))) (fun _ _ _ _ _ => (pts_one (PW.pt (pw_and (pt_cmpR (ok_in (K := K) rfl) (pv 3) (pv 1) (by with_unfolding_all rfl)) (pw_and1 (pt_cmpR (ok_in (K := K) rfl) (pv 4) (pv 1) (by with_unfolding_all rfl))))))) (fun _ _ _ _ _ => (pv 2))))), ?_⟩
  refine T.finF (K := K) h fun ds d rel => ?_
  cases rel with | mk bs js h =>
  refine T.retF (EvF.to (evF_lc (ei_enum (by walk_at "ev")) amP (amF js) amE (fun d hd => ?_) (fun d hd p hp => ?_) (fun d hd => ?_) (fun d hd _ => ?_) ?_) ?_) rfl
  · obtain ⟨i, hi, rfl⟩ := enum_bar hd
    exact eg_tup (egs_cons eg_name (egs_cons (eg_tup (egs_cons eg_name (egs_cons eg_name egs_nil)) rfl) egs_nil)) rfl
  · obtain ⟨i, hi, rfl⟩ := enum_bar hd
    have hp : p ∈ [(2, D.int (i : Int)), (3, D.int (bs.getD i (0, 0)).1), (4, D.int (bs.getD i (0, 0)).2)] := hp
    simp only [List.mem_cons, List.not_mem_nil, or_false] at hp
    rcases hp with rfl | rfl | rfl <;> simp
  · obtain ⟨i, hi, rfl⟩ := enum_bar hd
    exact et_and (et_test (ev_op (ev_var rfl) (ev_var rfl) rv_inL)) fun _ => et_test (ev_op (ev_var rfl) (ev_var rfl) rv_inL)
  · obtain ⟨i, hi, rfl⟩ := enum_bar hd
    exact ev_var rfl
  · rw [enumD_len, List.length_map]
    omega
  · rw [enum_bars, List.filter_map, List.map_map]
    unfold amongL
    rw [List.map_map]
    rfl
end
/-! ### l_cell_at -/
abbrev s_l_cell_at : Stmt := top 15
theorem sc_l_cell_at : FnScope ["_law_script", "_law_k"] ["_law_script", "_law_k"] (defScope s_l_cell_at) := ⟨rfl, rfl, rfl, by decide +kernel, rfl, by decide +kernel, by decide +kernel⟩
def cell (ns : List Int) (k : Int) : Int := ns.getD k.toNat 0
inductive R_l_cell_at : List D → D → Prop
  | mk (ns : List Int) (k : Int) (h : 0 ≤ k) : R_l_cell_at [.ro ns, .int k] (.int (cell ns k))

section
variable {P : Program} {w : World} {K : PySem.W.Frag} {mg : Str → Option Value} {base : Heap}
theorem ok_l_cell_at {f : Addr} {fd : FuncData} (F : FnP K "_law_cell_at" s_l_cell_at f fd) (g : mg "_law_cell_at" = some (.ref f)) (M : Mods mg)  : Cal P w K mg base CX0 1 "_law_cell_at" ["_law_script", "_law_k"] (spD K R_l_cell_at) := by
  refine ⟨f, fd, F.ok sc_l_cell_at (spD_len fun ds d r => by cases r <;> rfl) (fun cdv A outer s H vs Q E hr h => ?_), g, F.kp, F.bindsN fun _ _ _ _ _ _ us hl => match us, hl with | [_, _], _ => rfl⟩
  have hu := hr.units
  refine ⟨_, PSs.nox (pss_cons (ps_if (pt_cmpR op_lt (pv 1) (pe_callB (ok_len (K := K) rfl) (by rfl) M.m_len (by decide +kernel) (pa_cons (pv 0) pa_nil)) (nomark _)) (pss_one (ps_ret (pe_ix (ok_ix (K := K) rfl) (pv 0) (pv 1) (fun _ _ => rfl)))) pss_nil)
      (pss_one (ps_ret pe_int))), ?_⟩
  refine T.fin (K := K) h fun ds d rel => ?_
  cases rel with | mk ns k h0 =>
  refine T.guard (b := decide (k < (ns.length : Int))) (by walk_at "ev") (fun b => T.ret (d := .int (cell ns k)) (ev_op (ev_var rfl) (ev_var rfl) (rv_ixR ?_)) rfl) fun b => T.ret (d := .int 0) (by walk_at "ev") ?_
  · have hk : k.toNat < ns.length := by have := of_decide_eq_true b; omega
    refine atI_int h0 ?_
    unfold cell
    simp [List.getD, hk]
  · have hk : ¬ k < (ns.length : Int) := of_decide_eq_false b
    have hk2 : ns.length ≤ k.toNat := by omega
    show D.int 0 = D.int (cell ns k)
    unfold cell
    simp [List.getD, hk2]
end
/-! ### l_whole -/
abbrev s_l_whole : Stmt := top 16
theorem sc_l_whole : FnScope ["_law_found"] ["_law_found"] (defScope s_l_whole) := ⟨rfl, rfl, rfl, by decide +kernel, rfl, by decide +kernel, by decide +kernel⟩
inductive R_l_whole : List D → D → Prop
  | int (i : Int) : R_l_whole [.int i] (.bl true)

section
variable {P : Program} {w : World} {K : PySem.W.Frag} {mg : Str → Option Value} {base : Heap}
theorem ok_l_whole {f : Addr} {fd : FuncData} (F : FnP K "_law_whole" s_l_whole f fd) (g : mg "_law_whole" = some (.ref f)) (M : Mods mg)  : Cal P w K mg base CX0 1 "_law_whole" ["_law_found"] (spD K R_l_whole) := by
  refine ⟨f, fd, F.ok sc_l_whole (spD_len fun ds d r => by cases r <;> rfl) (fun cdv A outer s H vs Q E hr h => ?_), g, F.kp, F.bindsN fun _ _ _ _ _ _ us hl => match us, hl with | [_], _ => rfl⟩
  have hu := hr.units
  refine ⟨_, PSs.nox (pss_one (ps_ret (pe_and (pe_callB (ok_isi (K := K) rfl) (by rfl) M.m_isinstance (by decide +kernel) (pa_cons (pv 0) (pa_cons (pe_bltn (v := .ty "int") (by rfl) M.m_int (by decide +kernel) rfl) pa_nil))) (pe_one (pe_not (pe_callB (ok_isi (K := K) rfl) (by rfl) M.m_isinstance (by decide +kernel) (pa_cons (pv 0) (pa_cons (pe_bltn (v := .ty "bool") (by rfl) M.m_bool (by decide +kernel) rfl) pa_nil)))))))), ?_⟩
  refine T.fin (K := K) h fun ds d rel => ?_
  cases rel with | int i =>
  refine T.ret (d := .bl (true && !false)) (ev_and (by walk_at "ev") fun _ => ?_) rfl
  walk_at "ev"
end
/-! ### l_mixed -/
abbrev s_l_mixed : Stmt := top 17
theorem sc_l_mixed : FnScope ["_law_cell", "_law_k", "_law_found"] ["_law_cell", "_law_k"] (defScope s_l_mixed) := ⟨rfl, rfl, rfl, by decide +kernel, rfl, by decide +kernel, by decide +kernel⟩
def mixed (c k : Int) : Int :=
  (c % 1000000007 + 7919 * k + 11) * 48271 % 2147483647 * ((c % 1000000007 + 7919 * k + 11) * 48271 % 2147483647 % 65521 + 3) % 2147483629
theorem mixed_nn (c k : Int) : 0 ≤ mixed c k := Int.emod_nonneg _ (by decide)
theorem mixed_lt (c k : Int) : mixed c k < 2147483629 := Int.emod_lt_of_pos _ (by decide)
inductive R_l_mixed : List D → D → Prop
  | mk (c k : Int) : R_l_mixed [.int c, .int k] (.int (mixed c k))

section
variable {P : Program} {w : World} {K : PySem.W.Frag} {mg : Str → Option Value} {base : Heap}
theorem ok_l_mixed {f : Addr} {fd : FuncData} (F : FnP K "_law_mixed" s_l_mixed f fd) (g : mg "_law_mixed" = some (.ref f)) (M : Mods mg)  : Cal P w K mg base CX0 1 "_law_mixed" ["_law_cell", "_law_k"] (spD K R_l_mixed) := by
  refine ⟨f, fd, F.ok sc_l_mixed (spD_len fun ds d r => by cases r <;> rfl) (fun cdv A outer s H vs Q E hr h => ?_), g, F.kp, F.bindsN fun _ _ _ _ _ _ us hl => match us, hl with | [_, _], _ => rfl⟩
  have hu := hr.units
  refine ⟨_, PSs.nox (pss_cons (ps_set (i := 2) sc_l_mixed.nd rfl (Or.inl rfl) (pe_op op_modN (pe_op op_mul (pe_op (ok_plus (K := K) rfl) (pe_op (ok_plus (K := K) rfl) (pe_op op_modN (pv 0) pe_int) (pe_op op_mul pe_int (pv 1))) pe_int) pe_int) pe_int))
      (pss_one (ps_ret (pe_op op_modN (pe_op op_mul (pv 2) (pe_op (ok_plus (K := K) rfl) (pe_op op_modN (pv 2) pe_int) pe_int)) pe_int)))), ?_⟩
  refine T.fin (K := K) h fun ds d rel => ?_
  cases rel with | mk c k =>
  refine T.seq (T.asg (d := .int ((c % 1000000007 + 7919 * k + 11) * 48271 % 2147483647)) ?_ rfl) (T.ret (d := .int (mixed c k)) ?_ rfl)
  · walk_at "ev"
    all_goals first | decide | (exact Or.inl ⟨by decide, by decide⟩) | (exact Or.inr ⟨by decide, by decide⟩)
  · unfold mixed
    have f1 : 0 ≤ (c % 1000000007 + 7919 * k + 11) * 48271 % 2147483647 := Int.emod_nonneg _ (by decide)
    have f2 : (c % 1000000007 + 7919 * k + 11) * 48271 % 2147483647 < 2147483647 := Int.emod_lt_of_pos _ (by decide)
    walk_at "ev"
    all_goals first | decide | (refine Or.inl ⟨?_, ?_⟩ <;> omega)
end
/-! ### l_free -/
abbrev s_l_free : Stmt := top 18
theorem sc_l_free : FnScope ["_law_script", "_law_first", "_law_count", "_law_many", "_law_bars", "_law_k", "_law_cell", "_law_one"] ["_law_script", "_law_first", "_law_count", "_law_many"] (defScope s_l_free) := ⟨rfl, rfl, rfl, by decide +kernel, rfl, by decide +kernel, by decide +kernel⟩
def freeC (ns : List Int) (first : Int) (k : Nat) : Int := mixed (cell ns (first + (k : Int) % 5)) (k : Int)
def freeB (ns : List Int) (first count : Int) (k : Nat) : Int × Int :=
  (freeC ns first k % count, (freeC ns first k % count + 1 + freeC ns first k / 97 % (count - 1)) % count)
def freeL (ns : List Int) (first count : Int) (m : Nat) : List (Int × Int) := (List.range m).map (freeB ns first count)
theorem freeL_len (ns : List Int) (first count : Int) (m : Nat) : (freeL ns first count m).length = m := by simp [freeL]
theorem freeL_succ (ns : List Int) (first count : Int) (m : Nat) : freeL ns first count (m + 1) = freeL ns first count m ++ [freeB ns first count m] := by
  unfold freeL
  rw [List.range_succ, List.map_append]
  rfl
inductive R_l_free : List D → List D → Prop
  | mk (ns : List Int) (first count : Int) (m : Nat) (h1 : 0 ≤ first) (h2 : 2 ≤ count) (h3 : count ≤ 16) (h4 : m ≤ 100) : R_l_free [.ro ns, .int first, .int count, .int (m : Int)] ((freeL ns first count m).map barD)

section
variable {P : Program} {w : World} {K : PySem.W.Frag} {mg : Str → Option Value} {base : Heap}
theorem ok_l_free {f : Addr} {fd : FuncData} (F : FnP K "_law_free" s_l_free f fd) (g : mg "_law_free" = some (.ref f)) (M : Mods mg) (C_l_mixed : Cal P w K mg base CX0 1 "_law_mixed" ["_law_cell", "_law_k"] (spD K R_l_mixed)) (C_l_cell_at : Cal P w K mg base CX0 1 "_law_cell_at" ["_law_script", "_law_k"] (spD K R_l_cell_at)) : Cal P w K mg base CX0 2 "_law_free" ["_law_script", "_law_first", "_law_count", "_law_many"] (spF K R_l_free) := by
  refine ⟨f, fd, F.ok sc_l_free (spF_len fun ds d r => by cases r <;> rfl) (fun cdv A outer s H vs Q E hr h => ?_), g, F.kp, F.bindsN fun _ _ _ _ _ _ us hl => match us, hl with | [_, _, _, _], _ => rfl⟩
  have hu := hr.units
  refine ⟨_, PSs.nox (pss_cons (ps_set (i := 4) sc_l_free.nd rfl (Or.inl rfl) (pe_lst pa_nil))
      (pss_cons (ps_for PassesOwn.never rfl (pi_range1 (by rfl) M.m_range (pa_cons (pv 3) pa_nil)) (pg_name (i := 5) sc_l_free.nd rfl (Or.inl rfl)) (pss_cons (ps_set (i := 6) sc_l_free.nd rfl (Or.inl rfl) (pe_cal C_l_mixed hr (by decide) pass0 (pa_cons (pe_cal C_l_cell_at hr (by decide) pass0 (pa_cons (pv 0) (pa_cons (pe_op (ok_plus (K := K) rfl) (pv 1) (pe_op op_modN (pv 5) pe_int)) pa_nil))) (pa_cons (pv 5) pa_nil))))
      (pss_cons (ps_set (i := 7) sc_l_free.nd rfl (Or.inl rfl) (pe_op op_modN (pv 6) (pv 2)))
      (pss_one (ps_expr (pe_bm PySem.F.plainAttrs_list PySem.F.slot_list_append PySem.F.type_list_append mt_append (pv 4) (pa_cons (pe_tup (pa_cons (pv 7) (pa_cons (pe_op op_modN (pe_op (ok_plus (K := K) rfl) (pe_op (ok_plus (K := K) rfl) (pv 7) pe_int) (pe_op op_modN (pe_op op_fdivN (pv 6) pe_int) (pe_op op_sub (pv 2) pe_int))) (pv 2)) pa_nil))) pa_nil)))))))
      (pss_one (ps_ret (pv 4))))), ?_⟩
  refine T.finF (K := K) h fun ds d rel => ?_
  cases rel with | mk ns first count m h1 h2 h3 h4 =>
  refine T.seq (T.asgF (es := []) (by walk_at "ev") rfl) ?_
  refine T.seqP (N := fun r => ∃ s5 s6 s7, r = [.k (.ro ns), .k (.int first), .k (.int count), .k (.int (m : Int)), .o ((freeL ns first count m).map barD), s5, s6, s7])
    (T.for (ei_rng1 (by walk_at "ev") ⟨by omega, by omega⟩) (fun i r => ∃ s5 s6 s7, r = [.k (.ro ns), .k (.int first), .k (.int count), .k (.int (m : Int)), .o ((freeL ns first count i).map barD), s5, s6, s7]) ⟨_, _, _, rfl⟩ ?_ fun r z => ?_) ?_
  · rintro i d r hd ⟨s5, s6, s7, rfl⟩
    obtain ⟨hi, rfl⟩ := rngD_get0 hd
    refine ⟨_, eg_name, ?_⟩
    refine T.seq (T.asg (d := .int (freeC ns first i)) (ev_call (ea_cons (ev_call (d := .int (cell ns (first + (i : Int) % 5))) (ds := [.ro ns, .int (first + (i : Int) % 5)]) ?_ (.mk ns _ (by omega))) (by walk_at "ev")) (.mk _ _)) rfl) ?_
    · walk_at "ev"
      all_goals decide
    refine T.seq (T.asg (d := .int (freeC ns first i % count)) ?_ rfl) ?_
    · walk_at "ev"
      all_goals omega
    refine T.append (d := .tup [.int (freeC ns first i % count), .int ((freeC ns first i % count + 1 + freeC ns first i / 97 % (count - 1)) % count)]) rfl ?_ ?_ ?_
    · walk_at "ev"
      all_goals first | omega | exact ⟨by omega, by omega⟩
    · rw [List.length_map, freeL_len]
      omega
    · simp only [freeL_succ, List.map_append, List.map_cons, List.map_nil]
      exact ⟨_, _, _, rfl⟩
  · have e : (rngD 0 ((m : Nat) : Int).toNat 1).length = m := by rw [rngD_len]; omega
    rw [e] at z
    exact z
  · rintro r ⟨s5, s6, s7, rfl⟩
    exact T.retO rfl rfl
end
/-! ### l_rising -/
abbrev s_l_rising : Stmt := top 19
theorem sc_l_rising : FnScope ["_law_found", "_law_least", "_law_most", "_law_one"] ["_law_found", "_law_least", "_law_most"] (defScope s_l_rising) := ⟨rfl, rfl, rfl, by decide +kernel, rfl, by decide +kernel, by decide +kernel⟩
inductive R_l_rising : List D → D → Prop
  | good (ns : List Int) (lo hi : Int) (h : ∀ n ∈ ns, lo ≤ n ∧ n ≤ hi) (hp : ns.Pairwise (· < ·)) (hl : ns.length < 64) : R_l_rising [.lst (ns.map D.int), .int lo, .int hi] (.bl true)

section
variable {P : Program} {w : World} {K : PySem.W.Frag} {mg : Str → Option Value} {base : Heap}
theorem ok_l_rising {f : Addr} {fd : FuncData} (F : FnP K "_law_rising" s_l_rising f fd) (g : mg "_law_rising" = some (.ref f)) (M : Mods mg) (C_l_whole : Cal P w K mg base CX0 1 "_law_whole" ["_law_found"] (spD K R_l_whole)) : Cal P w K mg base CX0 2 "_law_rising" ["_law_found", "_law_least", "_law_most"] (spD K R_l_rising) := by
  refine ⟨f, fd, F.ok sc_l_rising (spD_len fun ds d r => by cases r <;> rfl) (fun cdv A outer s H vs Q E hr h => ?_), g, F.kp, F.bindsN fun _ _ _ _ _ _ us hl => match us, hl with | [_, _, _], _ => rfl⟩
  have hu := hr.units
  refine ⟨_, PSs.nox (pss_cons (ps_if (PW.pt (pw_or (pt_not (pt_val (pe_callB (ok_isi (K := K) rfl) (by rfl) M.m_isinstance (by decide +kernel) (pa_cons (pv 0) (pa_cons (pe_bltn (v := .ty "list") (by rfl) M.m_list (by decide +kernel) rfl) pa_nil))))) (pw_or1 (pt_not (pt_val (pe_callB (ok_all (K := K) rfl rfl) (by rfl) M.m_all (by decide +kernel) (pa_cons (pe_lc (own := [("_law_one", 3)]) (g := (gName 3)) (tt := tYes) rfl sc_l_rising.nd (ok_ilist (K := K) rfl (pv 0)) (blkOk_by (N := ["_law_found", "_law_least", "_law_most", "_law_one"]) (sc := defScope s_l_rising) (by decide +kernel)) (fun _ _ _ _ _ => (pg_name (i := 3) sc_l_rising.nd rfl (Or.inl rfl))) (fun _ _ _ _ _ => pts_nil) (fun _ _ _ _ _ => (pe_and (pe_cal C_l_whole hr (by decide) pass0 (pa_cons (pv 3) pa_nil)) (pe_one (pe_chain op_le op_le (pv 1) (pv 3) (pv 2)))))) pa_nil))))))) (pss_one (ps_ret pe_bl)) pss_nil)
      (pss_one (ps_ret (pe_cmpR (ok_eq (K := K) rfl hu) (pv 0) (pe_callB (ok_sset (w := w) rfl rfl) (by rfl) M.m_sorted (by decide +kernel) (pa_cons (pe_callTy (ok_set (K := K) (w := w) rfl rfl rfl) (by rfl) M.m_set (by decide +kernel) (pa_cons (pv 0) pa_nil)) pa_nil)) (nomark _))))), ?_⟩
  refine T.fin (K := K) h fun ds d rel => ?_
  cases rel with | good ns lo hi h hp hl =>
  have ha : ((ns.map D.int).filter fun _ => true).map (fun _ => D.bl true) = (ns.map fun _ => true).map D.bl := by
    rw [List.filter_eq_self.mpr fun _ _ => rfl, List.map_map, List.map_map]
    rfl
  refine T.guard (b := !true || !((ns.map fun _ => true).all id)) (et_or (et_not (et_B (by walk_at "ev"))) fun _ => et_not (et_B (ev_cb (ea_cons (EvF.data (evF_lc (ei_list (by walk_at "ev")) (fun d => [(3, d)]) (fun _ => true) (fun _ => .bl true) (fun d _ => eg_name) (fun d _ p hp => ?_) (fun d _ => et_yes) (fun d hd _ => ?_) ?_)) ea_nil) ?_))) (fun b => ?_) fun _ => ?_
  · rw [List.mem_singleton.mp hp]
    exact List.mem_singleton.mpr rfl
  · obtain ⟨n, hn, rfl⟩ := List.mem_map.mp hd
    obtain ⟨h1, h2⟩ := h n hn
    refine EvD.to (ev_and (a := true) (ev_call (by walk_at "ev") (.int n)) fun _ => ev_chain (by walk_at "ev") (by walk_at "ev") rv_le fun _ => ⟨.int hi, by walk_at "ev", rv_le⟩) ?_
    rw [decide_eq_true h1, decide_eq_true h2]
    rfl
  · rw [List.length_map]
    omega
  · rw [ha]
    exact rc_all
  · have : (ns.map fun _ => true).all id = true := by simp
    rw [this] at b
    cases b
  · refine T.ret (d := .bl (decide (ns = ns))) (ev_op (by walk_at "ev") (EvF.data (evF_sortedSet (by walk_at "ev") (by omega) hp (fun _ => Iff.rfl) hl)) rv_eqInts) ?_
    show D.bl (decide (ns = ns)) = D.bl true
    rw [decide_eq_true rfl]
end
/-! ### law -/
abbrev s_law : Stmt := top 20
theorem sc_law : FnScope ["_law_script", "_law_count", "_law_many", "_law_bars", "_law_handed", "_law_found", "_law_some", "_law_told", "_law_inside", "_law_due", "_law_joint", "_law_bar", "_law_k"] ["_law_script"] (defScope s_law) := ⟨rfl, rfl, rfl, by decide +kernel, rfl, by decide +kernel, by decide +kernel⟩
inductive R_law : List D → D → Prop
  | mk (ns : List Int) (h : ns.length ≤ 63) : R_law [.ro ns] (.bl true)
/-- the frame of a script -/
def kCount (ns : List Int) : Int := 2 + cell ns 0 % 15
def kMany (ns : List Int) : Nat := (if cell ns 1 / 12 % 8 = 1 then 57 + cell ns 1 / 96 % 4 else cell ns 1 % 12).toNat
theorem kCount_lo (ns : List Int) : 2 ≤ kCount ns := by unfold kCount; have := Int.emod_nonneg (cell ns 0) (show (15 : Int) ≠ 0 by decide); omega
theorem kCount_hi (ns : List Int) : kCount ns ≤ 16 := by unfold kCount; have := Int.emod_lt_of_pos (cell ns 0) (show (0 : Int) < 15 by decide); omega
theorem kMany_eq (ns : List Int) : ((kMany ns : Nat) : Int) = if cell ns 1 / 12 % 8 = 1 then 57 + cell ns 1 / 96 % 4 else cell ns 1 % 12 := by
  unfold kMany
  split <;> omega
theorem kMany_le (ns : List Int) : kMany ns ≤ 60 := by
  have h := kMany_eq ns
  split at h <;> omega
theorem freeB_good {ns : List Int} {first count : Int} {k : Nat} (h : 2 ≤ count) : Good count (freeB ns first count k) := by
  unfold freeB Good
  have a1 := Int.emod_nonneg (freeC ns first k) (show count ≠ 0 by omega)
  have a2 := Int.emod_lt_of_pos (freeC ns first k) (show 0 < count by omega)
  generalize hr : freeC ns first k % count = r at a1 a2 ⊢
  generalize hq : freeC ns first k / 97 = q
  have c1 := Int.emod_nonneg q (show count - 1 ≠ 0 by omega)
  have c2 := Int.emod_lt_of_pos q (show 0 < count - 1 by omega)
  generalize ht : q % (count - 1) = t at c1 c2 ⊢
  have e1 := Int.emod_nonneg (r + 1 + t) (show count ≠ 0 by omega)
  have e2 := Int.emod_lt_of_pos (r + 1 + t) (show 0 < count by omega)
  refine ⟨a1, a2, e1, e2, fun z => ?_⟩
  dsimp only at z e1 e2
  by_cases l : r + 1 + t < count
  · rw [Int.emod_eq_of_lt (by omega) l] at z
    omega
  · have : (r + 1 + t) % count = r + 1 + t - count := by
      rw [← Int.sub_emod_right, Int.emod_eq_of_lt (by omega) (by omega)]
    omega
theorem freeL_good {ns : List Int} {first count : Int} {m : Nat} (h : 2 ≤ count) : ∀ b ∈ freeL ns first count m, Good count b := fun b hb => by
  obtain ⟨k, _, rfl⟩ := List.mem_map.mp hb
  exact freeB_good h
/-- rising numbers below n by a test -/
def pick (n : Nat) (f : Nat → Bool) : List Int := ((List.range n).filter f).map fun k : Nat => (k : Int)
theorem pick_rise (n : Nat) (f : Nat → Bool) : (pick n f).Pairwise (· < ·) := by
  unfold pick
  rw [List.pairwise_map]
  exact (List.pairwise_lt_range.filter f).imp fun h => by omega
theorem pick_mem {n : Nat} {f : Nat → Bool} {k : Int} : k ∈ pick n f ↔ ∃ i : Nat, i < n ∧ f i = true ∧ (i : Int) = k := by
  unfold pick
  rw [List.mem_map]
  constructor
  · rintro ⟨i, hi, e⟩
    rw [List.mem_filter, List.mem_range] at hi
    exact ⟨i, hi.1, hi.2, e⟩
  · rintro ⟨i, h1, h2, e⟩
    exact ⟨i, by rw [List.mem_filter, List.mem_range]; exact ⟨h1, h2⟩, e⟩
theorem pick_len (n : Nat) (f : Nat → Bool) : (pick n f).length ≤ n := by
  unfold pick
  rw [List.length_map]
  have := List.length_filter_le f (List.range n)
  rw [List.length_range] at this
  exact this
def someL (ns : List Int) : List Int := pick (kCount ns).toNat fun j => decide (0 < mixed (cell ns 2) (j : Int) % 3)
def kBars (ns : List Int) : List (Int × Int) := freeL ns 3 (kCount ns) (kMany ns)
def dueL (ns : List Int) : List Int := pick (kCount ns).toNat fun j => !decide ((kBars ns).filter (fun b => decide ((j : Int) ∈ [b.1, b.2])) = [])
/-- a comprehension over a range that keeps its numbers -/
theorem evF_pick {K : PySem.W.Frag} {ρ : Rho} {wi : TI} {tt : TT} {te : TE} {vs : List Nat} {n : Nat} {j : Nat} {f : Nat → Bool} (hi : EvI K wi ρ (rngD 0 n 1)) (hj : j ∈ vs) (hn : n ≤ 1000)
    (ht : ∀ i : Nat, i < n → EvT K tt (setR (wipeR ρ vs) [(j, .int (i : Int))]) (f i)) (he : ∀ i : Nat, i < n → EvD K te (setR (wipeR ρ vs) [(j, .int (i : Int))]) (.int (i : Int))) :
    EvF K (tLc wi (gName j) tt te vs) ρ ((pick n f).map D.int) := by
  refine EvF.to (evF_lc hi (fun d => [(j, d)]) (fun d => f (numI d).toNat) id (fun d _ => eg_name) (fun d _ p hp => ?_) (fun d hd => ?_) (fun d hd _ => ?_) ?_) ?_
  · rw [List.mem_singleton.mp hp]
    exact hj
  · obtain ⟨i, hi, rfl⟩ := rngD_mem0 hd
    show EvT K tt _ (f ((i : Int)).toNat)
    rw [Int.toNat_natCast]
    exact ht i hi
  · obtain ⟨i, hi, rfl⟩ := rngD_mem0 hd
    exact he i hi
  · rw [rngD_len]
    omega
  · unfold pick rngD
    rw [List.filter_map, List.map_map, List.map_map]
    have e : ((fun d => f (numI d).toNat) ∘ fun i : Nat => D.int (0 + (i : Int) * 1)) = f := by
      funext i
      show f (0 + (i : Int) * 1).toNat = f i
      rw [Int.mul_one, Int.zero_add, Int.toNat_natCast]
    rw [e]
    refine List.map_congr_left fun i _ => ?_
    show D.int (0 + (i : Int) * 1) = D.int (i : Int)
    rw [Int.mul_one, Int.zero_add]
theorem among_pick (bs : List (Int × Int)) (js : List Int) : amongL bs js = pick bs.length fun k => decide ((bs.getD k (0, 0)).1 ∈ js) && decide ((bs.getD k (0, 0)).2 ∈ js) := rfl
theorem due_mem (ns : List Int) (k : Int) : k ∈ dueL ns ↔ ∃ b ∈ kBars ns, k ∈ [b.1, b.2] := by
  unfold dueL
  rw [pick_mem]
  have lo := kCount_lo ns
  constructor
  · rintro ⟨i, h1, h2, rfl⟩
    rw [Bool.not_eq_true', decide_eq_false_iff_not] at h2
    obtain ⟨b, hb⟩ := List.exists_mem_of_ne_nil _ h2
    rw [List.mem_filter] at hb
    exact ⟨b, hb.1, of_decide_eq_true hb.2⟩
  · rintro ⟨b, hb, hk⟩
    obtain ⟨g1, g2, g3, g4, _⟩ := freeL_good (ns := ns) (first := 3) (m := kMany ns) lo b hb
    have hk2 : 0 ≤ k ∧ k < kCount ns := by
      rcases List.mem_cons.mp hk with h | h
      · omega
      · have := List.mem_singleton.mp h
        omega
    refine ⟨k.toNat, by omega, ?_, by omega⟩
    have ek : ((k.toNat : Nat) : Int) = k := by omega
    rw [Bool.not_eq_true', decide_eq_false_iff_not, ek]
    intro z
    have hm : b ∈ (kBars ns).filter (fun b => decide (k ∈ [b.1, b.2])) := List.mem_filter.mpr ⟨hb, decide_eq_true hk⟩
    rw [z] at hm
    cases hm

section
variable {P : Program} {w : World} {K : PySem.W.Frag} {mg : Str → Option Value} {base : Heap}
theorem ok_law {f : Addr} {fd : FuncData} (F : FnP K "law" s_law f fd) (g : mg "law" = some (.ref f)) (M : Mods mg) (C_l_free : Cal P w K mg base CX0 2 "_law_free" ["_law_script", "_law_first", "_law_count", "_law_many"] (spF K R_l_free)) (C_checked : Cal P w K mg base CX0 4 "checked" ["count", "bars"] (spF K R_checked)) (C_joints_of : Cal P w K mg base CX0 1 "joints_of" ["bars"] (spF K R_joints_of)) (C_among : Cal P w K mg base CX0 1 "among" ["bars", "joints"] (spF K R_among)) (C_l_cell_at : Cal P w K mg base CX0 1 "_law_cell_at" ["_law_script", "_law_k"] (spD K R_l_cell_at)) (C_l_rising : Cal P w K mg base CX0 2 "_law_rising" ["_law_found", "_law_least", "_law_most"] (spD K R_l_rising)) (C_l_mixed : Cal P w K mg base CX0 1 "_law_mixed" ["_law_cell", "_law_k"] (spD K R_l_mixed)) : FnOk P w K mg base CX0 5 f fd ["_law_script"] (spD K R_law) := by
  obtain ⟨t_MOST_BARS, k_MOST_BARS⟩ := M.k_MOST_BARS
  obtain ⟨t_MOST_JOINTS, k_MOST_JOINTS⟩ := M.k_MOST_JOINTS
  refine F.ok sc_law (spD_len fun ds d r => by cases r <;> rfl) (fun cdv A outer s H vs Q E hr h => ?_)
  have hu := hr.units
  refine ⟨_, PSs.nox (pss_cons (ps_set (i := 1) sc_law.nd rfl (Or.inl rfl) (pe_op (ok_plus (K := K) rfl) pe_int (pe_op op_modN (pe_cal C_l_cell_at hr (by decide) pass0 (pa_cons (pv 0) (pa_cons pe_int pa_nil))) pe_int)))
      (pss_cons (ps_set (i := 2) sc_law.nd rfl (Or.inl rfl) (pe_op op_modN (pe_cal C_l_cell_at hr (by decide) pass0 (pa_cons (pv 0) (pa_cons pe_int pa_nil))) pe_int))
      (pss_cons (ps_if (pt_cmpR (ok_eq (K := K) rfl hu) (pe_op op_modN (pe_op op_fdivN (pe_cal C_l_cell_at hr (by decide) pass0 (pa_cons (pv 0) (pa_cons pe_int pa_nil))) pe_int) pe_int) pe_int (nomark _)) (pss_one (ps_set (i := 2) sc_law.nd rfl (Or.inl rfl) (pe_op (ok_plus (K := K) rfl) pe_int (pe_op op_modN (pe_op op_fdivN (pe_cal C_l_cell_at hr (by decide) pass0 (pa_cons (pv 0) (pa_cons pe_int pa_nil))) pe_int) pe_int)))) pss_nil)
      (pss_cons (ps_set (i := 3) sc_law.nd rfl (Or.inr rfl) (pe_cal C_l_free hr (by decide) pass0 (pa_cons (pv 0) (pa_cons pe_int (pa_cons (pv 1) (pa_cons (pv 2) pa_nil))))))
      (pss_cons (ps_set (i := 4) sc_law.nd rfl (Or.inl rfl) (pe_callTy (ok_list (K := K) rfl) (by rfl) M.m_list (by decide +kernel) (pa_cons (pv 3) pa_nil)))
      (pss_cons (ps_set (i := 5) sc_law.nd rfl (Or.inl rfl) (pe_cal C_checked hr (by decide) pass0 (pa_cons (pv 1) (pa_cons (pv 4) pa_nil))))
      (pss_cons (ps_if (PW.pt (pw_or (pt_not (pt_val (pe_callB (ok_isi (K := K) rfl) (by rfl) M.m_isinstance (by decide +kernel) (pa_cons (pv 5) (pa_cons (pe_bltn (v := .ty "list") (by rfl) M.m_list (by decide +kernel) rfl) pa_nil))))) (pw_or (pt_cmpR (ok_ne (K := K) rfl hu) (pv 5) (pv 3) (nomark _)) (pw_or1 (pt_cmpR (ok_ne (K := K) rfl hu) (pe_lst (pa_cons (pe_glob (v := .int 16) rfl k_MOST_JOINTS ⟨_, rfl⟩) (pa_cons (pe_glob (v := .int 60) rfl k_MOST_BARS ⟨_, rfl⟩) pa_nil))) (pe_lst (pa_cons pe_int (pa_cons pe_int pa_nil))) (nomark _)))))) (pss_one (ps_ret pe_bl)) pss_nil)
      (pss_cons (ps_expr (pe_bm PySem.F.plainAttrs_list PySem.F.slot_list_append PySem.F.type_list_append mt_append (pv 5) (pa_cons (pe_tup (pa_cons pe_int (pa_cons pe_int pa_nil))) pa_nil)))
      (pss_cons (ps_if (PW.pt (pw_or (pt_cmpR (ok_ne (K := K) rfl hu) (pv 4) (pv 3) (nomark _)) (pw_or (pt_cmpR (ok_ne (K := K) rfl hu) (pe_cal C_checked hr (by decide) pass0 (pa_cons (pv 1) (pa_cons (pv 4) pa_nil))) (pv 3) (nomark _)) (pw_or1 (pt_cmpR (ok_ne (K := K) rfl hu) (pe_cal C_checked hr (by decide) pass0 (pa_cons pe_int (pa_cons (pe_lst pa_nil) pa_nil))) (pe_lst pa_nil) (nomark _)))))) (pss_one (ps_ret pe_bl)) pss_nil)
      (pss_cons (ps_set (i := 6) sc_law.nd rfl (Or.inr rfl) (pe_lc (own := [("_law_joint", 10)]) (g := (gName 10)) (tt := _) rfl sc_law.nd (pi_range1 (by rfl) M.m_range (pa_cons (pv 1) pa_nil)) (blkOk_by (N := ["_law_script", "_law_count", "_law_many", "_law_bars", "_law_handed", "_law_found", "_law_some", "_law_told", "_law_inside", "_law_due", "_law_joint", "_law_bar", "_law_k"]) (sc := defScope s_law) (by decide +kernel)) (fun _ _ _ _ _ => (pg_name (i := 10) sc_law.nd rfl (Or.inl rfl))) (fun _ _ _ _ _ => (pts_one (pt_cmpR op_gt (pe_op op_modN (pe_cal C_l_mixed hr (by decide) pass0 (pa_cons (pe_cal C_l_cell_at hr (by decide) pass0 (pa_cons (pv 0) (pa_cons pe_int pa_nil))) (pa_cons (pv 10) pa_nil))) pe_int) pe_int (nomark _)))) (fun _ _ _ _ _ => (pv 10))))
      (pss_cons (ps_set (i := 7) sc_law.nd rfl (Or.inl rfl) (pe_cal C_joints_of hr (by decide) pass0 (pa_cons (pv 4) pa_nil)))
      (pss_cons (ps_set (i := 8) sc_law.nd rfl (Or.inl rfl) (pe_cal C_among hr (by decide) pass0 (pa_cons (pv 4) (pa_cons (pe_callTy (ok_list (K := K) rfl) (by rfl) M.m_list (by decide +kernel) (pa_cons (pv 6) pa_nil)) pa_nil))))
      (pss_cons (ps_if (PW.pt (pw_or (pt_not (pt_val (pe_cal C_l_rising hr (by decide) pass0 (pa_cons (pv 7) (pa_cons pe_int (pa_cons pe_int pa_nil)))))) (pw_or1 (pt_not (pt_val (pe_cal C_l_rising hr (by decide) pass0 (pa_cons (pv 8) (pa_cons pe_int (pa_cons pe_int pa_nil))))))))) (pss_one (ps_ret pe_bl)) pss_nil)
      (pss_cons (ps_setLc (i := 9) (own := [("_law_joint", 10)]) (g := (gName 10)) (tt := _) rfl sc_law.nd rfl rfl (sw_true rfl rfl rfl (by decide +kernel)) (pi_range1 (by rfl) M.m_range (pa_cons (pv 1) pa_nil)) (blkOk_by (N := ["_law_script", "_law_count", "_law_many", "_law_bars", "_law_handed", "_law_found", "_law_some", "_law_told", "_law_inside", "_law_due", "_law_joint", "_law_bar", "_law_k"]) (sc := defScope s_law) (by decide +kernel)) (fun _ _ _ _ _ => (pg_name (i := 10) sc_law.nd rfl (Or.inr rfl))) (fun _ _ _ _ _ => (pts_one (pt_cmpR (ok_ne (K := K) rfl hu) (pe_lc (own := [("_law_bar", 11)]) (g := (gName 11)) (tt := _) rfl sc_law.nd (ok_ilist (K := K) rfl (pv 3)) (blkOk_by (N := ["_law_script", "_law_count", "_law_many", "_law_bars", "_law_handed", "_law_found", "_law_some", "_law_told", "_law_inside", "_law_due", "_law_joint", "_law_bar", "_law_k"]) (sc := _) (by kernel_rfl)) (fun _ _ _ _ _ => (pg_name (i := 11) sc_law.nd rfl (Or.inl rfl))) (fun _ _ _ _ _ => (pts_one (pt_cmpR (ok_in (K := K) rfl) (pv 10) (pv 11) (by with_unfolding_all rfl)))) (fun _ _ _ _ _ => (pv 11))) (pe_lst pa_nil) (nomark _)))) (fun _ _ _ _ _ => (pv 10)))
      (pss_cons (ps_if (PW.pt (pw_or (pt_cmpR (ok_ne (K := K) rfl hu) (pv 7) (pv 9) (nomark _)) (pw_or (pt_cmpR (ok_ne (K := K) rfl hu) (pv 4) (pv 3) (nomark _)) (pw_or1 (pt_cmpR (ok_ne (K := K) rfl hu) (pe_cal C_joints_of hr (by decide) pass0 (pa_cons (pe_lst pa_nil) pa_nil)) (pe_lst pa_nil) (nomark _)))))) (pss_one (ps_ret pe_bl)) pss_nil)
      (pss_one (ps_ret (pe_cmpR (ok_eq (K := K) rfl hu) (pv 8) (pe_lc (own := [("_law_k", 12)]) (g := (gName 12)) (tt := _) rfl sc_law.nd (pi_range1 (by rfl) M.m_range (pa_cons (pv 2) pa_nil)) (blkOk_by (N := ["_law_script", "_law_count", "_law_many", "_law_bars", "_law_handed", "_law_found", "_law_some", "_law_told", "_law_inside", "_law_due", "_law_joint", "_law_bar", "_law_k"]) (sc := defScope s_law) (by decide +kernel)) (fun _ _ _ _ _ => (pg_name (i := 12) sc_law.nd rfl (Or.inl rfl))) (fun _ _ _ _ _ => (pts_one (PW.pt (pw_and (pt_cmpR (ok_in (K := K) rfl) (pe_ix (ok_ix (K := K) rfl) (pe_ix (ok_ix (K := K) rfl) (pv 3) (pv 12) (fun _ _ => rfl)) pe_int (fun _ _ => rfl)) (pv 6) (by with_unfolding_all rfl)) (pw_and1 (pt_cmpR (ok_in (K := K) rfl) (pe_ix (ok_ix (K := K) rfl) (pe_ix (ok_ix (K := K) rfl) (pv 3) (pv 12) (fun _ _ => rfl)) pe_int (fun _ _ => rfl)) (pv 6) (by with_unfolding_all rfl))))))) (fun _ _ _ _ _ => (pv 12))) (nomark _))))))))))))))))))), ?_⟩
  refine T.fin (K := K) h fun ds d rel => ?_
  cases rel with | mk ns hn =>
  have lo := kCount_lo ns
  have hi := kCount_hi ns
  have km := kMany_le ns
  -- count
  refine T.seq (T.asg (d := .int (kCount ns)) (ev_op (by walk_at "ev") (ev_op (ev_call (by walk_at "ev") (.mk ns 0 (by decide))) (by walk_at "ev") (rv_mod (by decide) (by decide))) rv_plusI) rfl) ?_
  -- many
  refine T.seq (T.asg (d := .int (cell ns 1 % 12)) (ev_op (ev_call (by walk_at "ev") (.mk ns 1 (by decide))) (by walk_at "ev") (rv_mod (by decide) (by decide))) rfl) ?_
  refine T.seq (ρ1 := [.k (.ro ns), .k (.int (kCount ns)), .k (.int (kMany ns : Nat)), .u, .u, .u, .u, .u, .u, .u, .u, .u, .u]) (T.ifS (b := decide (cell ns 1 / 12 % 8 = 1))
    (et_test (ev_op (ev_op (ev_op (ev_call (by walk_at "ev") (.mk ns 1 (by decide))) (by walk_at "ev") (rv_div ⟨by decide, by decide⟩ (by decide))) (by walk_at "ev") (rv_mod (by decide) (by decide))) (by walk_at "ev") rv_eqI)) (fun b => ?_) (fun b => ?_)) ?_
  · refine T.asg (d := .int (57 + cell ns 1 / 96 % 4)) (ev_op (by walk_at "ev") (ev_op (ev_op (ev_call (by walk_at "ev") (.mk ns 1 (by decide))) (by walk_at "ev") (rv_div ⟨by decide, by decide⟩ (by decide))) (by walk_at "ev") (rv_mod (by decide) (by decide))) rv_plusI) ?_
    have e := kMany_eq ns
    rw [if_pos (of_decide_eq_true b)] at e
    rw [e]
    rfl
  · refine T.next ?_
    have e := kMany_eq ns
    rw [if_neg (of_decide_eq_false b)] at e
    rw [e]
    rfl
  -- bars, handed, found
  refine T.seq (T.asg (d := .lst ((kBars ns).map barD)) (EvF.data (ev_callF (by walk_at "ev") (.mk ns 3 (kCount ns) (kMany ns) (by decide) lo hi (by omega)))) rfl) ?_
  have good : ∀ b ∈ kBars ns, Good (kCount ns) b := freeL_good lo
  have blen : (kBars ns).length = kMany ns := freeL_len _ _ _ _
  refine T.seq (T.asg (d := .lst ((kBars ns).map barD)) (by walk_at "ev") rfl) ?_
  refine T.seq (T.asgF (ev_callF (by walk_at "ev") (.good (kCount ns) (kBars ns) (by omega) hi (by omega) good)) rfl) ?_
  have eb : decide (kBars ns = kBars ns) = true := decide_eq_true rfl
  refine T.guardV (b := !true || (!decide (kBars ns = kBars ns) || !decide (([16, 60] : List Int) = [16, 60]))) (et_or (et_not (et_B (by walk_at "ev"))) fun _ => et_or (et_test (by walk_at "ev")) fun _ => et_test (ev_op (x := .lst (([16, 60] : List Int).map D.int)) (y := .lst (([16, 60] : List Int).map D.int)) (EvF.data (es := [.int 16, .int 60]) (ev_lst (ea_cons ev_int (ea_cons ev_int ea_nil)) (by decide))) (EvF.data (es := [.int 16, .int 60]) (ev_lst (ea_cons ev_int (ea_cons ev_int ea_nil)) (by decide))) rv_neInts)) (fun b => ?_) fun _ => ?_
  · rw [eb] at b
    cases b
  refine T.seq (T.append (d := .tup [.int 0, .int 1]) rfl (by walk_at "ev") (by rw [List.length_map]; omega) rfl) ?_
  refine T.guard (b := !decide (kBars ns = kBars ns) || (!decide (kBars ns = kBars ns) || !decide (([] : List (Int × Int)) = []))) (et_or (et_test (by walk_at "ev")) fun _ => et_or (et_test (ev_op (EvF.data (ev_callF (by walk_at "ev") (.good (kCount ns) (kBars ns) (by omega) hi (by omega) good))) (by walk_at "ev") rv_neBars)) fun _ => et_test (ev_op (x := .lst (([] : List (Int × Int)).map barD)) (y := .lst (([] : List (Int × Int)).map barD)) (EvF.data (ev_callF (ds := [.int 1, .lst (([] : List (Int × Int)).map barD)]) (ea_cons ev_int (ea_cons (EvF.data (ev_lst ea_nil (by decide))) ea_nil)) (.good 1 [] (by decide) (by decide) (by decide) (by simp)))) (EvF.data (ev_lst ea_nil (by decide))) rv_neBars)) (fun b => ?_) fun _ => ?_
  · rw [eb] at b
    cases b
  -- some
  refine T.seq (T.asg (d := .lst ((someL ns).map D.int)) (EvF.data (evF_pick (ei_rng1 (by walk_at "ev") ⟨by omega, by omega⟩) (by simp) (by omega) (fun i hi => et_test (ev_op (ev_op (ev_call (ea_cons (ev_call (by walk_at "ev") (.mk ns 2 (by decide))) (by walk_at "ev")) (.mk _ _)) (by walk_at "ev") (rv_mod (by decide) (by decide))) (by walk_at "ev") rv_gt)) (fun i hi => by walk_at "ev"))) rfl) ?_
  have dr : (dueL ns).Pairwise (· < ·) := pick_rise _ _
  have dl : (dueL ns).length ≤ (kCount ns).toNat := pick_len _ _
  refine T.seq (T.asg (d := .lst ((dueL ns).map D.int)) (EvF.data (ev_callF (by walk_at "ev") (.mk (kBars ns) (dueL ns) dr (by omega) (due_mem ns)))) rfl) ?_
  refine T.seq (T.asg (d := .lst ((amongL (kBars ns) (someL ns)).map D.int)) (EvF.data (ev_callF (by walk_at "ev") (.mk (kBars ns) (someL ns) (by omega)))) rfl) ?_
  have ar : (amongL (kBars ns) (someL ns)).Pairwise (· < ·) := pick_rise _ _
  have al : (amongL (kBars ns) (someL ns)).length ≤ (kBars ns).length := pick_len _ _
  refine T.guard (b := !true || !true) (et_or (et_not (et_B (ev_call (by walk_at "ev") (.good (dueL ns) 0 15 (fun n h => ?_) dr (by omega))))) fun _ => et_not (et_B (ev_call (by walk_at "ev") (.good (amongL (kBars ns) (someL ns)) 0 59 (fun n h => ?_) ar (by omega))))) (fun b => by cases b) fun _ => ?_
  · obtain ⟨i, h1, _, rfl⟩ := pick_mem.mp h
    omega
  · obtain ⟨i, h1, _, rfl⟩ := pick_mem.mp h
    omega
  -- due
  refine T.seq (T.asg (d := .lst ((dueL ns).map D.int)) (EvF.data (evF_pick (ei_rng1 (by walk_at "ev") ⟨by omega, by omega⟩) (by simp) (by omega) (fun i hi => et_test (ev_op (x := .lst (((kBars ns).filter fun b => decide ((i : Int) ∈ [b.1, b.2])).map barD)) (y := .lst (([] : List (Int × Int)).map barD)) ?_ (EvF.data (ev_lst ea_nil (by decide))) rv_neBars)) (fun i hi => by walk_at "ev"))) rfl) ?_
  · refine EvF.data (EvF.to (evF_lc (ei_list (by walk_at "ev")) (fun d => [(11, d)]) (fun d => decide ((i : Int) ∈ (tupL d).map numI)) id (fun d _ => eg_name) (fun d _ p hp => ?_) (fun d hd => ?_) (fun d hd _ => ev_var rfl) ?_) ?_)
    · rw [List.mem_singleton.mp hp]
      simp
    · obtain ⟨b, hb, rfl⟩ := List.mem_map.mp hd
      exact et_test (ev_op (y := .tup (([b.1, b.2] : List Int).map D.int)) (ev_var rfl) (ev_var rfl) rv_inT)
    · rw [List.length_map]
      omega
    · rw [List.filter_map, List.map_map]
      rfl
  refine T.guard (b := !decide (dueL ns = dueL ns) || (!decide (kBars ns = kBars ns) || !decide (([] : List Int) = []))) (et_or (et_test (by walk_at "ev")) fun _ => et_or (et_test (by walk_at "ev")) fun _ => et_test (ev_op (x := .lst (([] : List Int).map D.int)) (y := .lst (([] : List Int).map D.int)) (EvF.data (ev_callF (ds := [.lst (([] : List (Int × Int)).map barD)]) (ea_cons (EvF.data (ev_lst ea_nil (by decide))) ea_nil) (.mk [] [] .nil (by decide) (by simp)))) (EvF.data (ev_lst ea_nil (by decide))) rv_neInts)) (fun b => ?_) fun _ => ?_
  · rw [eb, decide_eq_true (rfl : dueL ns = dueL ns)] at b
    cases b
  -- the end
  refine T.ret (d := .bl (decide (amongL (kBars ns) (someL ns) = pick (kMany ns) fun k => decide (((kBars ns).getD k (0, 0)).1 ∈ someL ns) && decide (((kBars ns).getD k (0, 0)).2 ∈ someL ns)))) (ev_op (by walk_at "ev") (EvF.data (evF_pick (n := kMany ns) ?_ (by simp) (by omega) (fun i hi => ?_) (fun i hi => by walk_at "ev"))) rv_eqInts) ?_
  · have e : ((kMany ns : Nat) : Int).toNat = kMany ns := Int.toNat_natCast _
    have q := ei_rng1 (K := K) (ρ := [Sl.k (.ro ns)]) (j := ((kMany ns : Nat) : Int)) (tA := tNil)
    rw [← e]
    exact ei_rng1 (by walk_at "ev") ⟨by omega, by omega⟩
  · have hb : i < (kBars ns).length := by omega
    have at1 : atI ((kBars ns).map barD) (i : Int) = some (.tup [.int ((kBars ns).getD i (0, 0)).1, .int ((kBars ns).getD i (0, 0)).2]) := by
      refine atI_nat ?_
      rw [List.getElem?_map, List.getElem?_eq_getElem hb]
      simp [List.getD, hb, barD]
    exact et_and (et_test (ev_op (ev_op (ev_op (ev_var rfl) (ev_var rfl) (rv_ixL at1)) ev_int (rv_ixT rfl)) (ev_var rfl) rv_inL)) fun _ => et_test (ev_op (ev_op (ev_op (ev_var rfl) (ev_var rfl) (rv_ixL at1)) ev_int (rv_ixT rfl)) (ev_var rfl) rv_inL)
  · show D.bl _ = D.bl true
    rw [among_pick, blen, decide_eq_true rfl]
end
def dd (i : Nat) (x : Str) : He.DefD := ⟨(x, none), x, x, defArgs (top i), defBody (top i), defScope (top i), [], []⟩
def fn : List He.DefD := [dd 11 "is_number", dd 8 "check_count", dd 10 "is_joint", dd 9 "is_bar", dd 7 "checked", dd 12 "joints_of", dd 13 "among", dd 15 "_law_cell_at", dd 16 "_law_whole", dd 17 "_law_mixed", dd 18 "_law_free", dd 19 "_law_rising", dd 20 "law"]
def fa : List He.Fa := [.glo "is_number", .glo "check_count", .glo "is_joint", .glo "is_bar", .glo "checked", .glo "joints_of", .glo "among", .glo "_law_cell_at", .glo "_law_whole", .glo "_law_mixed", .glo "_law_free", .glo "_law_rising", .glo "law", .free "all", .free "bool", .free "enumerate", .free "int", .free "isinstance", .free "len", .free "list", .free "range", .free "set", .free "sorted", .free "tuple", .int "MOST_JOINTS" 16, .int "MOST_BARS" 60]
abbrev R : PySem.W.OpenRow := PySem.W.OpenLaw.row PySem.Challenge.rw_stiffbars_k01_among
abbrev hk : PySem.W.Hook := He.hookD 4 fa fn
def ob (s : PySem.W.SharedT) : He.AlD := He.obsDG 4 fa fn (HandSHeadRun.getT s)
theorem ob_eq (s : PySem.W.SharedT) : ob s = hk.obs s.abs := He.obsDG_eq (HandSHeadRun.getT_eq s)
def loose : List Str := ["__name__", "FrameError", "BadCount", "BadBar", "MOST_JOINTS", "MOST_BARS", "checked", "check_count", "is_bar", "is_joint", "is_number", "joints_of", "among", "_law_cell_at", "_law_whole", "_law_mixed", "_law_free", "_law_rising"]
theorem run (w : World) : HandSHeadRun.RunEq R (PySem.W.view R.prog [20]) hk ob 8000 loose w := by
  intro os
  kernel_rfl
theorem facts {P : Program} {w : World} {K : PySem.W.Frag} {h : Heap} {mg : Str → Option Value} {f : Addr} (X : K.In h) (G : h.Ns mainGlobals mg) (hfa : mg "law" = some (.ref f)) (c : He.SaysD fa fn K) :
    ∃ fd : FuncData, (∀ (s : Shared) (v : Value), BindsTo s fd ⟨[v], []⟩ [("_law_script", v)]) ∧ ∀ base : Heap, K.In base → base.Ns mainGlobals mg → FnOk P w K mg base CX0 5 f fd ["_law_script"] (spD K R_law) := by
  have M : Mods mg := {
    m_all := He.free_ok X G (c.fact 13 (f := .free "all") rfl),
    m_bool := He.free_ok X G (c.fact 14 (f := .free "bool") rfl),
    m_enumerate := He.free_ok X G (c.fact 15 (f := .free "enumerate") rfl),
    m_int := He.free_ok X G (c.fact 16 (f := .free "int") rfl),
    m_isinstance := He.free_ok X G (c.fact 17 (f := .free "isinstance") rfl),
    m_len := He.free_ok X G (c.fact 18 (f := .free "len") rfl),
    m_list := He.free_ok X G (c.fact 19 (f := .free "list") rfl),
    m_range := He.free_ok X G (c.fact 20 (f := .free "range") rfl),
    m_set := He.free_ok X G (c.fact 21 (f := .free "set") rfl),
    m_sorted := He.free_ok X G (c.fact 22 (f := .free "sorted") rfl),
    m_tuple := He.free_ok X G (c.fact 23 (f := .free "tuple") rfl),
    k_MOST_JOINTS := He.int_ok X G (c.fact 24 (f := .int "MOST_JOINTS" 16) rfl),
    k_MOST_BARS := He.int_ok X G (c.fact 25 (f := .int "MOST_BARS" 60) rfl) }
  obtain ⟨fd_is_number, F_is_number⟩ := c.def_ 0 (d := dd 11 "is_number") rfl
  have g_is_number : mg "is_number" = some (.ref (He.ga K "is_number")) := He.glo_ok X G (c.fact 0 (f := .glo "is_number") rfl)
  obtain ⟨fd_check_count, F_check_count⟩ := c.def_ 1 (d := dd 8 "check_count") rfl
  have g_check_count : mg "check_count" = some (.ref (He.ga K "check_count")) := He.glo_ok X G (c.fact 1 (f := .glo "check_count") rfl)
  obtain ⟨fd_is_joint, F_is_joint⟩ := c.def_ 2 (d := dd 10 "is_joint") rfl
  have g_is_joint : mg "is_joint" = some (.ref (He.ga K "is_joint")) := He.glo_ok X G (c.fact 2 (f := .glo "is_joint") rfl)
  obtain ⟨fd_is_bar, F_is_bar⟩ := c.def_ 3 (d := dd 9 "is_bar") rfl
  have g_is_bar : mg "is_bar" = some (.ref (He.ga K "is_bar")) := He.glo_ok X G (c.fact 3 (f := .glo "is_bar") rfl)
  obtain ⟨fd_checked, F_checked⟩ := c.def_ 4 (d := dd 7 "checked") rfl
  have g_checked : mg "checked" = some (.ref (He.ga K "checked")) := He.glo_ok X G (c.fact 4 (f := .glo "checked") rfl)
  obtain ⟨fd_joints_of, F_joints_of⟩ := c.def_ 5 (d := dd 12 "joints_of") rfl
  have g_joints_of : mg "joints_of" = some (.ref (He.ga K "joints_of")) := He.glo_ok X G (c.fact 5 (f := .glo "joints_of") rfl)
  obtain ⟨fd_among, F_among⟩ := c.def_ 6 (d := dd 13 "among") rfl
  have g_among : mg "among" = some (.ref (He.ga K "among")) := He.glo_ok X G (c.fact 6 (f := .glo "among") rfl)
  obtain ⟨fd_l_cell_at, F_l_cell_at⟩ := c.def_ 7 (d := dd 15 "_law_cell_at") rfl
  have g_l_cell_at : mg "_law_cell_at" = some (.ref (He.ga K "_law_cell_at")) := He.glo_ok X G (c.fact 7 (f := .glo "_law_cell_at") rfl)
  obtain ⟨fd_l_whole, F_l_whole⟩ := c.def_ 8 (d := dd 16 "_law_whole") rfl
  have g_l_whole : mg "_law_whole" = some (.ref (He.ga K "_law_whole")) := He.glo_ok X G (c.fact 8 (f := .glo "_law_whole") rfl)
  obtain ⟨fd_l_mixed, F_l_mixed⟩ := c.def_ 9 (d := dd 17 "_law_mixed") rfl
  have g_l_mixed : mg "_law_mixed" = some (.ref (He.ga K "_law_mixed")) := He.glo_ok X G (c.fact 9 (f := .glo "_law_mixed") rfl)
  obtain ⟨fd_l_free, F_l_free⟩ := c.def_ 10 (d := dd 18 "_law_free") rfl
  have g_l_free : mg "_law_free" = some (.ref (He.ga K "_law_free")) := He.glo_ok X G (c.fact 10 (f := .glo "_law_free") rfl)
  obtain ⟨fd_l_rising, F_l_rising⟩ := c.def_ 11 (d := dd 19 "_law_rising") rfl
  have g_l_rising : mg "_law_rising" = some (.ref (He.ga K "_law_rising")) := He.glo_ok X G (c.fact 11 (f := .glo "_law_rising") rfl)
  obtain ⟨fd_law, F_law⟩ := c.def_ 12 (d := dd 20 "law") rfl
  have g_law : mg "law" = some (.ref (He.ga K "law")) := He.glo_ok X G (c.fact 12 (f := .glo "law") rfl)
  have e := hfa.symm.trans g_law
  cases e
  refine ⟨fd_law, fun s v => FunD.bindsA (ps := ["_law_script"]) F_law (fun _ _ _ _ _ _ us hl => match us, hl with | [_], _ => rfl) s [v] rfl, fun base _ _ => ?_⟩
  have C_is_number := ok_is_number (P := P) (w := w) (base := base) F_is_number g_is_number M 
  have C_check_count := ok_check_count (P := P) (w := w) (base := base) F_check_count g_check_count M C_is_number
  have C_is_joint := ok_is_joint (P := P) (w := w) (base := base) F_is_joint g_is_joint M C_is_number
  have C_is_bar := ok_is_bar (P := P) (w := w) (base := base) F_is_bar g_is_bar M C_is_joint
  have C_checked := ok_checked (P := P) (w := w) (base := base) F_checked g_checked M C_check_count C_is_bar
  have C_joints_of := ok_joints_of (P := P) (w := w) (base := base) F_joints_of g_joints_of M 
  have C_among := ok_among (P := P) (w := w) (base := base) F_among g_among M 
  have C_l_cell_at := ok_l_cell_at (P := P) (w := w) (base := base) F_l_cell_at g_l_cell_at M 
  have C_l_whole := ok_l_whole (P := P) (w := w) (base := base) F_l_whole g_l_whole M 
  have C_l_mixed := ok_l_mixed (P := P) (w := w) (base := base) F_l_mixed g_l_mixed M 
  have C_l_free := ok_l_free (P := P) (w := w) (base := base) F_l_free g_l_free M C_l_mixed C_l_cell_at
  have C_l_rising := ok_l_rising (P := P) (w := w) (base := base) F_l_rising g_l_rising M C_l_whole
  exact ok_law F_law g_law M C_l_free C_checked C_joints_of C_among C_l_cell_at C_l_rising C_l_mixed
end A
open PySem PySem.W PySem.Calls PyProof.Rows
set_option maxHeartbeats 0 in
theorem PySem.Challenge.cw_stiffbars_k01_among_holds : PySem.Challenge.rw_stiffbars_k01_among.Holds := by
  w_on; o_law
  refine HandSHeadRun.head_any (r := A.R) (q := view A.R.prog [20]) (H := A.hk) (ob := A.ob) (M := 8000) (loose := A.loose) (d := HandSHeadRun.topDef A.R.prog 20) (kwd := []) A.ob_eq
    (by kernel_rfl) (fun s => by kernel_rfl) A.run (by kernel_rfl) (by kernel_rfl) (by kernel_rfl) (by rfl) (by first | assumption | decide +kernel) (by decide +kernel) ⟨rfl, rfl, rfl, rfl, rfl, by decide +kernel⟩ ?hw ?hc
  case hw => w_witness2
  case hc =>
    refine L2.walk_ofE (l := PySem.Challenge.rw_stiffbars_k01_among) (n := 63) (k := 5) (x := "_law_script") (CX := L2.CX0) rfl (by decide) (by kernel_rfl) ⟨rfl, by decide, by decide⟩ ?F (fun _ _ _ _ z => z)
    intro w mg fa h Y G hmg0
    obtain ⟨K, KX, c⟩ := Y
    have hmg : mg ("law" : PySem.Str) = some (.ref fa) := by
      have e : (HandSHeadRun.topDef A.R.prog 20).name = ("law" : PySem.Str) := by kernel_rfl
      rw [← e]
      exact hmg0
    obtain ⟨fd, hb, hF⟩ := A.facts (P := (PySem.Challenge.rw_stiffbars_k01_among).prog) (w := w) KX G hmg c
    exact ⟨K, fd, Pl.spD K A.R_law, KX, hb, fun H a ns hl _ hS => ⟨H, [.ro ns], .bl true, Evl.Ex.refl H, .cons (.ro hS) .nil, .mk ns hl, fun v _ _ _ r => by cases r; rfl⟩, hF⟩

