import PyProof.Rows.All
import Wide.All
import OpenK.AllK
import Wide.FinOn
import Open.SpecLaws
import KE.OsGo
import HandS.ForSpec
import HandS.ForMost
import HandS.TryMany
import HandS.Evl
import KE.KeyNested
import PyFlatLaws
import PySem.Challenge.RW_sceneshift_s01_answers
set_option Elab.async false
set_option linter.all false
set_option maxRecDepth 100000
set_option maxHeartbeats 4000000

namespace SM
open Uw04

/-! ## numbers or nothing: «at most d» -/
def Lo (a : Option Nat) (d : Nat) : Prop := ∃ e, e ≤ d ∧ a = some e
theorem lo_none {d : Nat} : ¬ Lo none d := fun ⟨_, _, h⟩ => nomatch h
theorem lo_some {e d : Nat} : Lo (some e) d ↔ e ≤ d :=
  ⟨fun ⟨_, h, q⟩ => by cases q; exact h, fun h => ⟨e, h, rfl⟩⟩
theorem Lo.mono {a : Option Nat} {d d' : Nat} (h : Lo a d) (k : d ≤ d') : Lo a d' := by
  obtain ⟨e, q, r⟩ := h
  exact ⟨e, Nat.le_trans q k, r⟩
theorem lo_ext {a b : Option Nat} (h : ∀ d, Lo a d ↔ Lo b d) : a = b := by
  cases a with
  | none =>
    cases b with
    | none => rfl
    | some y => exact absurd ((h y).2 (lo_some.2 (Nat.le_refl _))) lo_none
  | some x =>
    cases b with
    | none => exact absurd ((h x).1 (lo_some.2 (Nat.le_refl _))) lo_none
    | some y =>
      have h1 := lo_some.1 ((h x).1 (lo_some.2 (Nat.le_refl _)))
      have h2 := lo_some.1 ((h y).2 (lo_some.2 (Nat.le_refl _)))
      exact congrArg some (Nat.le_antisymm h2 h1)
theorem lo_sooner {a b : Option Nat} {d : Nat} : Lo (sooner a b) d ↔ Lo a d ∨ Lo b d := by
  cases a with
  | none =>
    cases b with
    | none => exact ⟨fun h => absurd h lo_none, fun h => h.elim id id⟩
    | some y => exact ⟨Or.inr, fun h => h.elim (fun q => absurd q lo_none) id⟩
  | some x =>
    cases b with
    | none => exact ⟨Or.inl, fun h => h.elim id (fun q => absurd q lo_none)⟩
    | some y =>
      show Lo (some (min x y)) d ↔ _
      rw [lo_some, lo_some, lo_some]
      omega
theorem lo_map_add {a : Option Nat} {w d : Nat} : Lo (a.map fun c => w + c) d ↔ ∃ e, Lo a e ∧ w + e ≤ d := by
  cases a with
  | none => exact ⟨fun h => absurd h lo_none, fun ⟨_, h, _⟩ => absurd h lo_none⟩
  | some x =>
    show Lo (some (w + x)) d ↔ _
    rw [lo_some]
    exact ⟨fun h => ⟨x, lo_some.2 (Nat.le_refl _), h⟩, fun ⟨e, h, q⟩ => by have := lo_some.1 h; omega⟩

/-! ## tables as functions over the stands -/
def mk (S : List Stand) (f : Stand → Option Nat) : Table := S.map fun s => (s, f s)
theorem mk_congr {S : List Stand} {f g : Stand → Option Nat} (h : ∀ s ∈ S, f s = g s) : mk S f = mk S g :=
  List.map_congr_left fun s hs => by rw [h s hs]
theorem mk_length (S : List Stand) (f : Stand → Option Nat) : (mk S f).length = S.length := List.length_map ..
theorem look_mk {f : Stand → Option Nat} {s : Stand} : ∀ {S : List Stand}, s ∈ S → look (mk S f) s = f s
  | [], h => nomatch h
  | x :: S, h => by
    unfold look mk
    rw [List.map_cons, List.find?_cons]
    by_cases e : x = s
    · subst e
      rw [beq_self_eq_true]
      rfl
    · have q : ((x, f x).1 == s) = false := beq_false_of_ne e
      rw [q]
      have hs : s ∈ S := by
        cases h with
        | head => exact absurd rfl e
        | tail _ h => exact h
      exact look_mk hs
theorem look_off {f : Stand → Option Nat} {s : Stand} : ∀ {S : List Stand}, s ∉ S → look (mk S f) s = none
  | [], _ => rfl
  | x :: S, h => by
    unfold look mk
    rw [List.map_cons, List.find?_cons]
    have q : ((x, f x).1 == s) = false := beq_false_of_ne fun e => h (e ▸ List.Mem.head _)
    rw [q]
    exact look_off fun hs => h (List.Mem.tail _ hs)

/-! ## one round of better -/
def good (h : House) (f : Stand → Option Nat) (s : Stand) (v : Move) : Option Nat := match h.does s v with
  | none => none
  | some y => (f y.1).map fun c => h.weight y.2 + c
def rnd (h : House) (f : Stand → Option Nat) (s : Stand) : Option Nat := h.moves.foldl (fun m v => sooner m (good h f s v)) (f s)
theorem sooner_none (a : Option Nat) : sooner a none = a := by cases a <;> rfl
theorem lo_fold {g : Move → Option Nat} {d : Nat} : ∀ {l : List Move} {a : Option Nat}, Lo (l.foldl (fun m v => sooner m (g v)) a) d ↔ Lo a d ∨ ∃ v ∈ l, Lo (g v) d
  | [], a => by simp
  | v :: l, a => by
    rw [List.foldl_cons, lo_fold, lo_sooner]
    constructor
    · rintro ((h | h) | ⟨x, hx, h⟩)
      · exact .inl h
      · exact .inr ⟨v, List.Mem.head _, h⟩
      · exact .inr ⟨x, List.Mem.tail _ hx, h⟩
    · rintro (h | ⟨x, hx, h⟩)
      · exact .inl (.inl h)
      · cases hx with
        | head => exact .inl (.inr h)
        | tail _ hx => exact .inr ⟨x, hx, h⟩
theorem lo_good {h : House} {f : Stand → Option Nat} {s : Stand} {v : Move} {d : Nat} : Lo (good h f s v) d ↔ ∃ y, h.does s v = some y ∧ ∃ e, Lo (f y.1) e ∧ h.weight y.2 + e ≤ d := by
  unfold good
  cases q : h.does s v with
  | none => exact ⟨fun z => absurd z lo_none, fun ⟨_, z, _⟩ => nomatch z⟩
  | some y =>
    show Lo ((f y.1).map fun c => h.weight y.2 + c) d ↔ _
    rw [lo_map_add]
    exact ⟨fun z => ⟨y, rfl, z⟩, fun ⟨_, z, k⟩ => by cases z; exact k⟩
theorem lo_rnd {h : House} {f : Stand → Option Nat} {s : Stand} {d : Nat} : Lo (rnd h f s) d ↔ Lo (f s) d ∨ ∃ v ∈ h.moves, ∃ y, h.does s v = some y ∧ ∃ e, Lo (f y.1) e ∧ h.weight y.2 + e ≤ d := by
  unfold rnd
  rw [lo_fold]
  constructor
  · rintro (k | ⟨v, hv, k⟩)
    · exact .inl k
    · exact .inr ⟨v, hv, lo_good.1 k⟩
  · rintro (k | ⟨v, hv, k⟩)
    · exact .inl k
    · exact .inr ⟨v, hv, lo_good.2 k⟩

/-- the stands are closed under carryings -/
def Closed (h : House) (S : List Stand) : Prop := ∀ s ∈ S, ∀ v y, h.does s v = some y → y.1 ∈ S

theorem better_mk {h : House} {S : List Stand} (hc : Closed h S) (f : Stand → Option Nat) : h.better (mk S f) = mk S (rnd h f) := by
  unfold House.better mk
  rw [List.map_map]
  refine List.map_congr_left fun s hs => ?_
  show (s, _) = (s, rnd h f s)
  refine congrArg (Prod.mk s) ?_
  unfold rnd
  show h.moves.foldl _ (f s) = _
  have e : (fun (m : Option Nat) (v : Move) => match h.does s v with
      | none => m
      | some y => sooner m ((look (S.map fun s => (s, f s)) y.1).map fun c => h.weight y.2 + c)) = fun m v => sooner m (good h f s v) := by
    funext m v
    unfold good
    cases q : h.does s v with
    | none => exact (sooner_none m).symm
    | some y =>
      show sooner m ((look (mk S f) y.1).map _) = _
      rw [look_mk (hc s hs v y q)]
  exact congrFun (congrFun (congrArg _ e) _) _

/-! ## what can be done -/
inductive Can (h : House) (b : Stand → Option Nat) : Stand → Nat → Prop
  | stop {s d} : Lo (b s) d → Can h b s d
  | go {s v y e d} : v ∈ h.moves → h.does s v = some y → Can h b y.1 e → h.weight y.2 + e ≤ d → Can h b s d
theorem Can.mono {h : House} {b : Stand → Option Nat} {s : Stand} {d d' : Nat} (k : Can h b s d) (q : d ≤ d') : Can h b s d' := by
  cases k with
  | stop k => exact .stop (k.mono q)
  | go a x c r => exact .go a x c (Nat.le_trans r q)
def iter (h : House) (b : Stand → Option Nat) : Nat → Stand → Option Nat
  | 0 => b
  | n + 1 => rnd h (iter h b n)
theorem iter_up {h : House} {b : Stand → Option Nat} {n : Nat} {s : Stand} {d : Nat} (k : Lo (iter h b n s) d) : Lo (iter h b (n + 1) s) d := lo_rnd.2 (.inl k)
theorem iter_base {h : House} {b : Stand → Option Nat} {s : Stand} {d : Nat} (k : Lo (b s) d) : ∀ n, Lo (iter h b n s) d
  | 0 => k
  | n + 1 => iter_up (iter_base k n)
theorem iter_sound {h : House} {b : Stand → Option Nat} : ∀ (n : Nat) {s : Stand} {d : Nat}, Lo (iter h b n s) d → Can h b s d
  | 0, _, _, k => .stop k
  | n + 1, _, _, k => by
    rcases lo_rnd.1 k with k | ⟨v, hv, y, hy, e, he, r⟩
    · exact iter_sound n k
    · exact .go hv hy (iter_sound n he) r
/-- each carrying weighs something -/
def Heavy (h : House) (S : List Stand) : Prop := ∀ s ∈ S, ∀ v y, h.does s v = some y → 1 ≤ h.weight y.2
def Set1 (h : House) (b : Stand → Option Nat) (n : Nat) (s : Stand) : Prop := ∀ d, Can h b s d → Lo (iter h b n s) d
theorem set_up {h : House} {b : Stand → Option Nat} {n : Nat} {s : Stand} (k : Set1 h b n s) : Set1 h b (n + 1) s := fun d q => iter_up (k d q)
/-- the least d at which something fails -/
theorem least_of {P : Nat → Prop} {d : Nat} (h : P d) : ∃ m, P m ∧ ∀ k, k < m → ¬ P k := by
  induction d using Nat.strongRecOn with
  | ind d ih =>
    by_cases q : ∃ k, k < d ∧ P k
    · obtain ⟨k, hk, pk⟩ := q
      exact ih k hk pk
    · exact ⟨d, h, fun k hk pk => q ⟨k, hk, pk⟩⟩
theorem one_more {h : House} {S : List Stand} (hc : Closed h S) (hw : Heavy h S) {b : Stand → Option Nat} {n : Nat} {s : Stand} (hs : s ∈ S) (k : ¬ Set1 h b n s) :
    ∃ x ∈ S, ¬ Set1 h b n x ∧ Set1 h b (n + 1) x := by
  have k1 : ∃ d, Can h b s d ∧ ¬ Lo (iter h b n s) d := by
    refine Classical.byContradiction fun q => k fun d hd => Classical.byContradiction fun z => q ⟨d, hd, z⟩
  obtain ⟨d0, h0⟩ := k1
  obtain ⟨m, ⟨x, hx, cx, nx⟩, mn⟩ := least_of (P := fun d => ∃ x ∈ S, Can h b x d ∧ ¬ Lo (iter h b n x) d) ⟨s, hs, h0⟩
  refine ⟨x, hx, fun z => nx (z m cx), fun d hd => ?_⟩
  by_cases lt : d < m
  · have l1 : Lo (iter h b n x) d := Classical.byContradiction fun z => mn d lt ⟨x, hx, hd, z⟩
    exact iter_up l1
  · have l2 : Lo (iter h b (n + 1) x) m := by
      cases cx with
      | stop q => exact absurd (iter_base q n) nx
      | go hv hy ce r =>
        rename_i v y e
        have w1 := hw x hx v y hy
        have l1 : Lo (iter h b n y.1) e := Classical.byContradiction fun z => mn e (by omega) ⟨y.1, hc x hx v y hy, ce, z⟩
        exact lo_rnd.2 (.inr ⟨v, hv, y, hy, e, l1, r⟩)
    exact l2.mono (by omega)
noncomputable def uns (h : House) (b : Stand → Option Nat) (n : Nat) (s : Stand) : Bool := @decide (¬ Set1 h b n s) (Classical.propDecidable _)
theorem uns_iff {h : House} {b : Stand → Option Nat} {n : Nat} {s : Stand} : uns h b n s = true ↔ ¬ Set1 h b n s :=
  ⟨fun k => @of_decide_eq_true _ (Classical.propDecidable _) k, fun k => @decide_eq_true _ (Classical.propDecidable _) k⟩
noncomputable def left (h : House) (S : List Stand) (b : Stand → Option Nat) (n : Nat) : Nat := (S.filter (uns h b n)).length
theorem filter_le {α : Type} {p q : α → Bool} : ∀ {l : List α}, (∀ x ∈ l, p x = true → q x = true) → (l.filter p).length ≤ (l.filter q).length
  | [], _ => Nat.le_refl _
  | a :: l, h => by
    have ih := filter_le (p := p) (q := q) (l := l) fun x hx => h x (List.Mem.tail _ hx)
    have ha := h a (List.Mem.head _)
    rw [List.filter_cons, List.filter_cons]
    by_cases pa : p a = true
    · rw [if_pos pa, if_pos (ha pa)]
      exact Nat.succ_le_succ ih
    · rw [if_neg pa]
      by_cases qa : q a = true
      · rw [if_pos qa]
        exact Nat.le_succ_of_le ih
      · rw [if_neg qa]
        exact ih
theorem filter_lt {α : Type} {p q : α → Bool} : ∀ {l : List α}, (∀ x ∈ l, p x = true → q x = true) → (∃ x ∈ l, q x = true ∧ p x = false) → (l.filter p).length < (l.filter q).length
  | [], _, ⟨_, h, _⟩ => nomatch h
  | a :: l, h, ⟨x, hx, qx, px⟩ => by
    have le := filter_le (p := p) (q := q) (l := l) fun x hx => h x (List.Mem.tail _ hx)
    have ha := h a (List.Mem.head _)
    rw [List.filter_cons, List.filter_cons]
    cases hx with
    | head =>
      rw [if_pos qx, if_neg (by rw [px]; exact Bool.false_ne_true)]
      exact Nat.lt_succ_of_le le
    | tail _ hx =>
      have ih := filter_lt (p := p) (q := q) (l := l) (fun x hx => h x (List.Mem.tail _ hx)) ⟨x, hx, qx, px⟩
      by_cases pa : p a = true
      · rw [if_pos pa, if_pos (ha pa)]
        exact Nat.succ_lt_succ ih
      · rw [if_neg pa]
        by_cases qa : q a = true
        · rw [if_pos qa]
          exact Nat.lt_succ_of_lt ih
        · rw [if_neg qa]
          exact ih
theorem left_zero {h : House} {S : List Stand} {b : Stand → Option Nat} {n : Nat} (k : left h S b n = 0) : ∀ s ∈ S, Set1 h b n s := by
  intro s hs
  refine Classical.byContradiction fun z => ?_
  have m : s ∈ S.filter (uns h b n) := by
    rw [List.mem_filter]
    exact ⟨hs, uns_iff.2 z⟩
  have : 0 < left h S b n := List.length_pos_of_mem m
  omega
theorem left_less {h : House} {S : List Stand} (hc : Closed h S) (hw : Heavy h S) {b : Stand → Option Nat} (n : Nat) : left h S b (n + 1) ≤ left h S b n - 1 := by
  by_cases k : ∀ s ∈ S, Set1 h b n s
  · have e : left h S b (n + 1) = 0 := by
      unfold left
      rw [List.length_eq_zero_iff, List.filter_eq_nil_iff]
      intro s hs
      exact fun z => uns_iff.1 z (set_up (k s hs))
    omega
  · have k1 : ∃ s ∈ S, ¬ Set1 h b n s := Classical.byContradiction fun q => k fun s hs => Classical.byContradiction fun z => q ⟨s, hs, z⟩
    obtain ⟨s, hs, ns⟩ := k1
    obtain ⟨x, hx, n1, n2⟩ := one_more hc hw hs ns
    have lt : left h S b (n + 1) < left h S b n := by
      unfold left
      refine filter_lt (fun y _ hy => ?_) ⟨x, hx, ?_, ?_⟩
      · exact uns_iff.2 fun q => uns_iff.1 hy (set_up q)
      · exact uns_iff.2 n1
      · exact Bool.eq_false_iff.2 fun q => uns_iff.1 q n2
    omega
theorem left_le {h : House} {S : List Stand} (hc : Closed h S) (hw : Heavy h S) {b : Stand → Option Nat} : ∀ n, left h S b n ≤ S.length - n
  | 0 => List.length_filter_le ..
  | n + 1 => by
    have h1 := left_less hc hw (b := b) n
    have h2 := left_le hc hw (b := b) n
    omega
theorem all_set {h : House} {S : List Stand} (hc : Closed h S) (hw : Heavy h S) {b : Stand → Option Nat} {n : Nat} (k : S.length ≤ n) : ∀ s ∈ S, Set1 h b n s :=
  left_zero (by have := left_le hc hw (b := b) n; omega)
theorem iter_can {h : House} {S : List Stand} (hc : Closed h S) (hw : Heavy h S) {b : Stand → Option Nat} {n : Nat} (k : S.length ≤ n) {s : Stand} (hs : s ∈ S) {d : Nat} : Lo (iter h b n s) d ↔ Can h b s d :=
  ⟨iter_sound n, all_set hc hw k s hs d⟩
/-! ## settle -/
theorem settle_mk {h : House} {S : List Stand} (hc : Closed h S) (b : Stand → Option Nat) : ∀ (n k : Nat), ∃ m, h.settle n (mk S (iter h b k)) = mk S (iter h b m) ∧ k ≤ m ∧ (m = k + n ∨ mk S (iter h b (m + 1)) = mk S (iter h b m))
  | 0, k => ⟨k, rfl, Nat.le_refl _, .inl rfl⟩
  | n + 1, k => by
    show ∃ m, (if (h.better (mk S (iter h b k)) == mk S (iter h b k)) = true then mk S (iter h b k) else h.settle n (h.better (mk S (iter h b k)))) = _ ∧ _
    rw [better_mk hc]
    by_cases e : (mk S (rnd h (iter h b k)) == mk S (iter h b k)) = true
    · rw [if_pos e]
      exact ⟨k, rfl, Nat.le_refl _, .inr (eq_of_beq e)⟩
    · rw [if_neg e]
      obtain ⟨m, h1, h2, h3⟩ := settle_mk hc b n (k + 1)
      refine ⟨m, h1, Nat.le_of_succ_le h2, h3.imp (fun z => by omega) id⟩
theorem mk_at {S : List Stand} {f g : Stand → Option Nat} (e : mk S f = mk S g) {s : Stand} (hs : s ∈ S) : f s = g s := by
  rw [← look_mk (f := f) hs, ← look_mk (f := g) hs, e]
theorem fix_all {h : House} {S : List Stand} (hc : Closed h S) {b : Stand → Option Nat} {m : Nat} (e : ∀ s ∈ S, iter h b (m + 1) s = iter h b m s) {s : Stand} (hs : s ∈ S) {d : Nat} (k : Can h b s d) : Lo (iter h b m s) d := by
  induction k with
  | stop k => exact iter_base k m
  | go hv hy _ r ih =>
    rename_i s v y e' d' _
    rw [← e s hs]
    exact lo_rnd.2 (.inr ⟨v, hv, y, hy, e', ih (hc s hs v y hy), r⟩)
/-- **settle finds the least** -/
theorem settle_can {h : House} {S : List Stand} (hc : Closed h S) (hw : Heavy h S) (b : Stand → Option Nat) {n : Nat} (k : S.length ≤ n) :
    ∃ f, h.settle n (mk S b) = mk S f ∧ ∀ s ∈ S, ∀ d, Lo (f s) d ↔ Can h b s d := by
  obtain ⟨m, h1, _, h3⟩ := settle_mk hc b n 0
  refine ⟨iter h b m, h1, fun s hs d => ?_⟩
  rcases h3 with e | e
  · exact iter_can hc hw (by omega) hs
  · exact ⟨iter_sound m, fix_all hc (fun x hx => mk_at e hx) hs⟩
end SM

namespace SM
open Uw04

theorem mem_rowsOf : ∀ {m : Nat} {l r : List Nat}, r ∈ rowsOf m l ↔ r.length ≤ m ∧ r.Nodup ∧ ∀ x ∈ r, x ∈ l
  | 0, l, r => by
    show r ∈ [[]] ↔ _
    rw [List.mem_singleton]
    constructor
    · rintro rfl
      exact ⟨Nat.le_refl _, List.nodup_nil, fun x h => nomatch h⟩
    · rintro ⟨h, _, _⟩
      exact List.length_eq_zero_iff.1 (Nat.le_zero.1 h)
  | m + 1, l, r => by
    show r ∈ ([] :: l.flatMap fun x => (rowsOf m (l.filter fun y => y != x)).map fun r => x :: r) ↔ _
    rw [List.mem_cons, List.mem_flatMap]
    constructor
    · rintro (rfl | ⟨x, hx, h⟩)
      · exact ⟨Nat.zero_le _, List.nodup_nil, fun x h => nomatch h⟩
      · rw [List.mem_map] at h
        obtain ⟨q, hq, rfl⟩ := h
        obtain ⟨h1, h2, h3⟩ := mem_rowsOf.1 hq
        refine ⟨Nat.succ_le_succ h1, List.nodup_cons.2 ⟨fun k => ?_, h2⟩, fun y hy => ?_⟩
        · have := (List.mem_filter.1 (h3 x k)).2
          simp at this
        · cases hy with
          | head => exact hx
          | tail _ hy => exact (List.mem_filter.1 (h3 y hy)).1
    · rintro ⟨h1, h2, h3⟩
      cases r with
      | nil => exact .inl rfl
      | cons x q =>
        refine .inr ⟨x, h3 x (List.Mem.head _), List.mem_map.2 ⟨q, mem_rowsOf.2 ⟨Nat.le_of_succ_le_succ h1, (List.nodup_cons.1 h2).2, fun y hy => ?_⟩, rfl⟩⟩
        refine List.mem_filter.2 ⟨h3 y (List.Mem.tail _ hy), ?_⟩
        have : y ≠ x := fun e => (List.nodup_cons.1 h2).1 (e ▸ hy)
        simp [this]

/-- what is on: the others -/
def onOf (n : Nat) (l r : List Nat) : List Nat := (List.range n).filter fun x => !l.contains x && !r.contains x
theorem mem_onOf {n : Nat} {l r : List Nat} {x : Nat} : x ∈ onOf n l r ↔ x < n ∧ x ∉ l ∧ x ∉ r := by
  unfold onOf
  rw [List.mem_filter, List.mem_range]
  simp
/-- a stand that there may be -/
structure Fine (h : House) (s : Stand) : Prop where
  ll : s.left.length ≤ h.roomLeft
  ln : s.left.Nodup
  lx : ∀ x ∈ s.left, x < h.heavy.length
  rl : s.right.length ≤ h.roomRight
  rn : s.right.Nodup
  rx : ∀ x ∈ s.right, x < h.heavy.length
  dj : ∀ x ∈ s.right, x ∉ s.left
  on : s.on = onOf h.heavy.length s.left s.right
theorem mem_stands {h : House} {s : Stand} : s ∈ h.stands ↔ Fine h s := by
  unfold House.stands
  show s ∈ ((rowsOf h.roomLeft (List.range h.heavy.length)).flatMap fun l => (rowsOf h.roomRight ((List.range h.heavy.length).filter fun x => !l.contains x)).map fun r => (⟨onOf h.heavy.length l r, l, r⟩ : Stand)) ↔ _
  rw [List.mem_flatMap]
  constructor
  · rintro ⟨l, hl, k⟩
    obtain ⟨r, hr, rfl⟩ := List.mem_map.1 k
    obtain ⟨a1, a2, a3⟩ := mem_rowsOf.1 hl
    obtain ⟨b1, b2, b3⟩ := mem_rowsOf.1 hr
    refine ⟨a1, a2, fun x hx => List.mem_range.1 (a3 x hx), b1, b2, fun x hx => List.mem_range.1 (List.mem_filter.1 (b3 x hx)).1, fun x hx => ?_, rfl⟩
    have := (List.mem_filter.1 (b3 x hx)).2
    simpa using this
  · intro k
    refine ⟨s.left, mem_rowsOf.2 ⟨k.ll, k.ln, fun x hx => List.mem_range.2 (k.lx x hx)⟩, List.mem_map.2 ⟨s.right, mem_rowsOf.2 ⟨k.rl, k.rn, fun x hx => ?_⟩, ?_⟩⟩
    · refine List.mem_filter.2 ⟨List.mem_range.2 (k.rx x hx), ?_⟩
      have := k.dj x hx
      simpa using this
    · obtain ⟨on, l, r⟩ := s
      have e : on = onOf h.heavy.length l r := k.on
      subst e
      rfl

theorem contains_iff {x : Nat} {l : List Nat} : l.contains x = true ↔ x ∈ l := by simp

theorem takeOut_on {n k : Nat} {l r : List Nat} : takeOut k (onOf n l r) = onOf n (k :: l) r := by
  unfold takeOut onOf
  rw [List.filter_filter]
  refine List.filter_congr fun x _ => ?_
  rw [List.contains_cons]
  cases (l.contains x) <;> cases (r.contains x) <;> cases h : (x == k) <;> simp_all
theorem onOf_swap {n : Nat} {l r : List Nat} : onOf n l r = onOf n r l := by
  unfold onOf
  refine List.filter_congr fun x _ => ?_
  rw [Bool.and_comm]
theorem putIn_least {k : Nat} : ∀ {L : List Nat}, (∀ x ∈ L, k < x) → putIn k L = k :: L
  | [], _ => rfl
  | y :: L, h => if_pos (h y (List.Mem.head _))
theorem putIn_filter {k : Nat} {p : Nat → Bool} (pk : p k = true) : ∀ {R : List Nat}, R.Pairwise (· < ·) → k ∈ R → putIn k (R.filter fun x => (x != k) && p x) = R.filter p
  | [], _, h => nomatch h
  | y :: R, hp, hk => by
    obtain ⟨h1, h2⟩ := List.pairwise_cons.1 hp
    by_cases e : y = k
    · subst e
      rw [List.filter_cons, List.filter_cons, if_pos pk, if_neg (by simp)]
      have q : (R.filter fun x => (x != y) && p x) = R.filter p := by
        refine List.filter_congr fun x hx => ?_
        have := h1 x hx
        have : x ≠ y := by omega
        simp [this]
      rw [q]
      exact putIn_least fun x hx => h1 x (List.mem_filter.1 hx).1
    · have hk' : k ∈ R := by
        cases hk with
        | head => exact absurd rfl e
        | tail _ h => exact h
      have lt := h1 k hk'
      have ih := putIn_filter pk h2 hk'
      rw [List.filter_cons, List.filter_cons]
      by_cases py : p y = true
      · rw [if_pos py, if_pos (by simp [e, py])]
        show (if k < y then _ else y :: putIn k _) = _
        rw [if_neg (by omega), ih]
      · rw [if_neg py, if_neg (by simp [py])]
        exact ih
theorem putIn_on {n k : Nat} {l r : List Nat} (hk : k < n) (h1 : k ∉ l) (h2 : k ∉ r) : putIn k (onOf n (k :: l) r) = onOf n l r := by
  have e : onOf n (k :: l) r = (List.range n).filter fun x => (x != k) && (!l.contains x && !r.contains x) := by
    unfold onOf
    refine List.filter_congr fun x _ => ?_
    rw [List.contains_cons]
    cases (l.contains x) <;> cases (r.contains x) <;> cases h : (x == k) <;> simp_all
  rw [e]
  exact putIn_filter (p := fun x => !l.contains x && !r.contains x) (by simp [h1, h2]) List.pairwise_lt_range (List.mem_range.2 hk)

/-- a carrying leaves a stand that there may be, and its piece is one of the house's -/
theorem does_fine {h : House} {s : Stand} (k : Fine h s) {v : Move} {y : Stand × Nat} (q : h.does s v = some y) : Fine h y.1 ∧ y.2 < h.heavy.length := by
  obtain ⟨on, l, r⟩ := s
  obtain ⟨ll, ln, lx, rl, rn, rx, dj, eo⟩ := k
  dsimp only at ll ln lx rl rn rx dj eo
  cases v with
  | offLeft p =>
    have q' : (if on.contains p = true ∧ l.length < h.roomLeft then some ((⟨takeOut p on, p :: l, r⟩ : Stand), p) else none) = some y := q
    by_cases c : on.contains p = true ∧ l.length < h.roomLeft
    · rw [if_pos c] at q'
      cases q'
      have m : p ∈ onOf h.heavy.length l r := eo ▸ contains_iff.1 c.1
      obtain ⟨m1, m2, m3⟩ := mem_onOf.1 m
      refine ⟨⟨c.2, List.nodup_cons.2 ⟨m2, ln⟩, fun x hx => ?_, rl, rn, rx, fun x hx hl => ?_, ?_⟩, m1⟩
      · cases hx with
        | head => exact m1
        | tail _ hx => exact lx x hx
      · cases hl with
        | head => exact m3 hx
        | tail _ hl => exact dj x hx hl
      · show takeOut p on = onOf h.heavy.length (p :: l) r
        rw [eo, takeOut_on]
    · rw [if_neg c] at q'
      cases q'
  | offRight p =>
    have q' : (if on.contains p = true ∧ r.length < h.roomRight then some ((⟨takeOut p on, l, p :: r⟩ : Stand), p) else none) = some y := q
    by_cases c : on.contains p = true ∧ r.length < h.roomRight
    · rw [if_pos c] at q'
      cases q'
      have m : p ∈ onOf h.heavy.length l r := eo ▸ contains_iff.1 c.1
      obtain ⟨m1, m2, m3⟩ := mem_onOf.1 m
      refine ⟨⟨ll, ln, lx, c.2, List.nodup_cons.2 ⟨m3, rn⟩, fun x hx => ?_, fun x hx hl => ?_, ?_⟩, m1⟩
      · cases hx with
        | head => exact m1
        | tail _ hx => exact rx x hx
      · cases hx with
        | head => exact m2 hl
        | tail _ hx => exact dj x hx hl
      · show takeOut p on = onOf h.heavy.length l (p :: r)
        rw [eo, onOf_swap, takeOut_on, onOf_swap]
    · rw [if_neg c] at q'
      cases q'
  | onLeft =>
    cases l with
    | nil => cases q
    | cons p l =>
      have q' : some ((⟨putIn p on, l, r⟩ : Stand), p) = some y := q
      cases q'
      obtain ⟨n1, n2⟩ := List.nodup_cons.1 ln
      have hp := lx p (List.Mem.head _)
      have pr : p ∉ r := fun z => dj p z (List.Mem.head _)
      refine ⟨⟨Nat.le_of_succ_le ll, n2, fun x hx => lx x (List.Mem.tail _ hx), rl, rn, rx, fun x hx hl => dj x hx (List.Mem.tail _ hl), ?_⟩, hp⟩
      show putIn p on = onOf h.heavy.length l r
      rw [eo, putIn_on hp n1 pr]
  | onRight =>
    cases r with
    | nil => cases q
    | cons p r =>
      have q' : some ((⟨putIn p on, l, r⟩ : Stand), p) = some y := q
      cases q'
      obtain ⟨n1, n2⟩ := List.nodup_cons.1 rn
      have hp := rx p (List.Mem.head _)
      have pl : p ∉ l := dj p (List.Mem.head _)
      refine ⟨⟨ll, ln, lx, Nat.le_of_succ_le rl, n2, fun x hx => rx x (List.Mem.tail _ hx), fun x hx hl => dj x (List.Mem.tail _ hx) hl, ?_⟩, hp⟩
      show putIn p on = onOf h.heavy.length l r
      rw [eo, onOf_swap, putIn_on hp n1 pl, onOf_swap]
theorem stands_closed (h : House) : Closed h h.stands := fun _ hs _ _ q => mem_stands.2 (does_fine (mem_stands.1 hs) q).1
theorem weight_pos {h : House} (hh : ∀ x ∈ h.heavy, 1 ≤ x) {k : Nat} (hk : k < h.heavy.length) : 1 ≤ h.weight k := by
  unfold House.weight
  rw [List.getD_eq_getElem?_getD, List.getElem?_eq_getElem hk]
  exact hh _ (List.getElem_mem hk)
theorem stands_heavy {h : House} (hh : ∀ x ∈ h.heavy, 1 ≤ x) : Heavy h h.stands := fun _ hs _ _ q => weight_pos hh (does_fine (mem_stands.1 hs) q).2
end SM

namespace SM
open Uw04

/-- what is still to be carried for these scenes, from a stand -/
def val (h : House) (l : List (List Nat)) (s : Stand) : Option Nat := match h.tables l with
  | t :: _ => look t s
  | [] => none
/-- a house whose pieces weigh something -/
def Sound (h : House) : Prop := ∀ x ∈ h.heavy, 1 ≤ x
/-- where a scene's carryings may end -/
def base (h : House) (c : List Nat) (l : List (List Nat)) (s : Stand) : Option Nat := if fits c s = true then val h l s else none
theorem tables_shape {h : House} (hh : Sound h) : ∀ l : List (List Nat), ∃ t r, h.tables l = t :: r ∧ t = mk h.stands (val h l) ∧
    (match l with
      | [] => ∀ s ∈ h.stands, val h l s = some 0
      | c :: l' => r = h.tables l' ∧ ∀ s ∈ h.stands, ∀ d, Lo (val h l s) d ↔ Can h (base h c l') s d)
  | [] => by
    have e : h.tables [] = [mk h.stands fun _ => some 0] := rfl
    have v : ∀ s ∈ h.stands, val h [] s = some 0 := fun s hs => by
      unfold val
      rw [e]
      exact look_mk (f := fun _ => some 0) hs
    exact ⟨_, _, e, mk_congr fun s hs => (v s hs).symm, v⟩
  | c :: l => by
    obtain ⟨t, r, e, et, _⟩ := tables_shape hh l
    have e1 : h.tables (c :: l) = h.settle (t.length * t.length + 1) (t.map fun (x : Stand × Option Nat) => (x.1, if fits c x.1 = true then x.2 else none)) :: t :: r := by
      show (match h.tables l with
        | [] => []
        | t :: r => h.settle (t.length * t.length + 1) (t.map fun (x : Stand × Option Nat) => (x.1, if fits c x.1 = true then x.2 else none)) :: t :: r) = _
      rw [e]
    have e2 : (t.map fun (x : Stand × Option Nat) => (x.1, if fits c x.1 = true then x.2 else none)) = mk h.stands (base h c l) := by
      rw [et]
      unfold mk
      rw [List.map_map]
      rfl
    have lt : t.length = h.stands.length := by rw [et, mk_length]
    have big : h.stands.length ≤ t.length * t.length + 1 := by
      rw [lt]
      have := Nat.le_mul_self h.stands.length
      omega
    obtain ⟨f, ef, hf⟩ := settle_can (stands_closed h) (stands_heavy hh) (base h c l) big
    rw [e2, ef] at e1
    have v : ∀ s ∈ h.stands, val h (c :: l) s = f s := fun s hs => by
      unfold val
      rw [e1]
      exact look_mk hs
    refine ⟨_, _, e1, mk_congr fun s hs => (v s hs).symm, e.symm, fun s hs d => ?_⟩
    rw [v s hs]
    exact hf s hs d
theorem val_nil {h : House} (hh : Sound h) {s : Stand} (hs : s ∈ h.stands) : val h [] s = some 0 := by
  obtain ⟨_, _, _, _, k⟩ := tables_shape hh []
  exact k s hs
theorem val_cons {h : House} (hh : Sound h) {c : List Nat} {l : List (List Nat)} {s : Stand} (hs : s ∈ h.stands) {d : Nat} : Lo (val h (c :: l) s) d ↔ Can h (base h c l) s d := by
  obtain ⟨_, _, _, _, _, k⟩ := tables_shape hh (c :: l)
  exact k s hs d
theorem tables_cons {h : House} (hh : Sound h) (c : List Nat) (l : List (List Nat)) : h.tables (c :: l) = mk h.stands (val h (c :: l)) :: h.tables l := by
  obtain ⟨_, _, e, et, k, _⟩ := tables_shape hh (c :: l)
  rw [e, et, k]
theorem tables_head {h : House} (hh : Sound h) (l : List (List Nat)) : ∃ r, h.tables l = mk h.stands (val h l) :: r := by
  obtain ⟨_, r, e, et, _⟩ := tables_shape hh l
  exact ⟨r, by rw [e, et]⟩
theorem least_val (h : House) (s : Stand) : h.least s = val h h.scenes s := rfl

/-- a table that is sound and closed under both rules is the one -/
theorem val_unique {h : House} (hh : Sound h) {c : List Nat} {l : List (List Nat)} {f : Stand → Option Nat}
    (h1 : ∀ s ∈ h.stands, ∀ d, f s = some d → Can h (base h c l) s d)
    (h2 : ∀ s ∈ h.stands, ∀ d, base h c l s = some d → Lo (f s) d)
    (h3 : ∀ s ∈ h.stands, ∀ v ∈ h.moves, ∀ y, h.does s v = some y → ∀ e, f y.1 = some e → Lo (f s) (h.weight y.2 + e)) :
    ∀ s ∈ h.stands, f s = val h (c :: l) s := by
  intro s hs
  refine lo_ext fun d => ?_
  rw [val_cons hh hs]
  constructor
  · rintro ⟨e, he, q⟩
    exact (h1 s hs e q).mono he
  · intro k
    induction k with
    | stop k =>
      obtain ⟨e, he, q⟩ := k
      exact (h2 _ hs e q).mono he
    | go hv hy _ r ih =>
      obtain ⟨e, he, q⟩ := ih (stands_closed h _ hs _ _ hy)
      exact (h3 _ hs _ hv _ hy e q).mono (by omega)

/-! ## the first lightest way -/
def pick (h : House) (f : Stand → Option Nat) (s : Stand) : Option Move := h.moves.find? fun v => match h.does s v with
  | none => false
  | some y => (f y.1).any fun z => f s == some (h.weight y.2 + z)
inductive Way (h : House) (c : List Nat) (f g : Stand → Option Nat) : Stand → List Move → Stand → Nat → Prop
  | stop {s} : fits c s = true → f s = g s → Way h c f g s [] s 0
  | go {s v y w e n} : ¬ (fits c s = true ∧ f s = g s) → pick h f s = some v → h.does s v = some y → Way h c f g y.1 w e n → Way h c f g s (v :: w) e (h.weight y.2 + n)
theorem Way.same {h : House} {c : List Nat} {f g : Stand → Option Nat} {s : Stand} {w : List Move} {e : Stand} {n : Nat} (k : Way h c f g s w e n) : ∀ {w' e' n'}, Way h c f g s w' e' n' → w = w' ∧ e = e' ∧ n = n' := by
  induction k with
  | stop a b =>
    intro w' e' n' q
    cases q with
    | stop _ _ => exact ⟨rfl, rfl, rfl⟩
    | go x _ _ _ => exact absurd ⟨a, b⟩ x
  | go a b cc _ ih =>
    intro w' e' n' q
    cases q with
    | stop x y => exact absurd ⟨x, y⟩ a
    | go a' b' c' k' =>
      have e1 := Option.some.inj (b.symm.trans b')
      subst e1
      have e2 := Option.some.inj (cc.symm.trans c')
      subst e2
      obtain ⟨r1, r2, r3⟩ := ih k'
      subst r1 r2 r3
      exact ⟨rfl, rfl, rfl⟩
inductive Ways (h : House) : List (List Nat) → Stand → List (List Move) → Prop
  | nil {s} : Ways h [] s []
  | cons {c l s w e n ws} : Way h c (val h (c :: l)) (val h l) s w e n → Ways h l e ws → Ways h (c :: l) s (w :: ws)
theorem Ways.same {h : House} {l : List (List Nat)} {s : Stand} {a : List (List Move)} (k : Ways h l s a) : ∀ {b}, Ways h l s b → a = b := by
  induction k with
  | nil =>
    intro b q
    cases q
    rfl
  | cons x _ ih =>
    intro b q
    cases q with
    | cons y r =>
      obtain ⟨e1, e2, _⟩ := x.same y
      subst e1 e2
      rw [ih r]
/-- from a stand from which it can be done: it stands, or a carrying is the first lightest -/
theorem pick_some {h : House} (hh : Sound h) {c : List Nat} {l : List (List Nat)} {s : Stand} (hs : s ∈ h.stands) {d : Nat} (hd : val h (c :: l) s = some d)
    (k : ¬ (fits c s = true ∧ val h (c :: l) s = val h l s)) :
    ∃ v y z, pick h (val h (c :: l)) s = some v ∧ h.does s v = some y ∧ val h (c :: l) y.1 = some z ∧ d = h.weight y.2 + z := by
  have ex : ∃ v ∈ h.moves, ∃ y z, h.does s v = some y ∧ val h (c :: l) y.1 = some z ∧ d = h.weight y.2 + z := by
    cases (val_cons hh hs).1 ⟨d, Nat.le_refl _, hd⟩ with
    | stop q =>
      exfalso
      unfold base at q
      by_cases ft : fits c s = true
      · rw [if_pos ft] at q
        obtain ⟨e, he, q1⟩ := q
        have q2 : Lo (val h (c :: l) s) e := (val_cons hh hs).2 (.stop (by unfold base; rw [if_pos ft]; exact ⟨e, Nat.le_refl _, q1⟩))
        rw [hd, lo_some] at q2
        have : d = e := by omega
        subst this
        exact k ⟨ft, by rw [hd, q1]⟩
      · rw [if_neg ft] at q
        exact lo_none q
    | go hv hy ce r =>
      rename_i v y e
      have hy1 := stands_closed h _ hs _ _ hy
      obtain ⟨z, hz, q1⟩ := (val_cons hh hy1).2 ce
      have q2 : Lo (val h (c :: l) s) (h.weight y.2 + z) := (val_cons hh hs).2 (.go hv hy ((val_cons hh hy1).1 ⟨z, Nat.le_refl _, q1⟩) (Nat.le_refl _))
      rw [hd, lo_some] at q2
      exact ⟨v, hv, y, z, hy, q1, by omega⟩
  obtain ⟨v, hv, y, z, hy, hz, e⟩ := ex
  cases p : pick h (val h (c :: l)) s with
  | none =>
    exfalso
    have := List.find?_eq_none.1 p v hv
    rw [hy] at this
    apply this
    show (val h (c :: l) y.1).any _ = true
    rw [hz, hd, e]
    simp
  | some v' =>
    have q := List.find?_some p
    cases q1 : h.does s v' with
    | none => rw [q1] at q; cases q
    | some y' =>
      rw [q1] at q
      have q' : (val h (c :: l) y'.1).any (fun z => val h (c :: l) s == some (h.weight y'.2 + z)) = true := q
      cases q2 : val h (c :: l) y'.1 with
      | none => rw [q2] at q'; cases q'
      | some z' =>
        rw [q2] at q'
        have q3 : (val h (c :: l) s == some (h.weight y'.2 + z')) = true := q'
        have q4 := eq_of_beq q3
        rw [hd] at q4
        exact ⟨v', y', z', rfl, q1, q2, Option.some.inj q4⟩
def below (f : Stand → Option Nat) (d : Nat) (x : Stand) : Bool := (f x).any fun z => decide (z < d)
def mu (S : List Stand) (f : Stand → Option Nat) (d : Nat) : Nat := (S.filter (below f d)).length
theorem mu_less {S : List Stand} {f : Stand → Option Nat} {d e : Nat} {y : Stand} (hy : y ∈ S) (q : f y = some e) (lt : e < d) : mu S f e < mu S f d := by
  refine filter_lt (fun x _ hx => ?_) ⟨y, hy, ?_, ?_⟩
  · unfold below at hx ⊢
    cases k : f x with
    | none => rw [k] at hx; cases hx
    | some z =>
      rw [k] at hx
      have : z < e := of_decide_eq_true hx
      exact decide_eq_true (by omega)
  · unfold below
    rw [q]
    exact decide_eq_true lt
  · unfold below
    rw [q]
    exact decide_eq_false (Nat.lt_irrefl _)
theorem find_pick {h : House} {f : Stand → Option Nat} {s : Stand} (hs : s ∈ h.stands) : (h.moves.find? fun v => match h.does s v with
      | none => false
      | some y => (look (mk h.stands f) y.1).any fun z => f s == some (h.weight y.2 + z)) = pick h f s := by
  unfold pick
  refine congrArg (fun p => List.find? p h.moves) ?_
  funext v
  cases q : h.does s v with
  | none => rfl
  | some y =>
    show (look (mk h.stands f) y.1).any _ = _
    rw [look_mk (stands_closed h _ hs _ _ q)]
theorem wayTo_go {h : House} {c : List Nat} {f g : Stand → Option Nat} {n : Nat} {s : Stand} {v : Move} {y : Stand × Nat} (hs : s ∈ h.stands) (st : ¬ (fits c s = true ∧ f s = g s)) (pv : pick h f s = some v) (dy : h.does s v = some y) :
    h.wayTo c (mk h.stands f) (mk h.stands g) (n + 1) s = v :: h.wayTo c (mk h.stands f) (mk h.stands g) n y.1 := by
  have e1 := (find_pick (f := f) hs).trans pv
  generalize ew : h.wayTo c (mk h.stands f) (mk h.stands g) n y.1 = w
  unfold House.wayTo
  rw [look_mk hs, look_mk hs, if_neg st]
  split
  · rename_i hq
    exact absurd (hq.symm.trans e1) (fun z => nomatch z)
  · rename_i v' hq
    have ev := Option.some.inj (hq.symm.trans e1)
    subst ev
    rw [dy]
    exact congrArg (List.cons v') ew
theorem wayTo_stop {h : House} {c : List Nat} {f g : Stand → Option Nat} {n : Nat} {s : Stand} (hs : s ∈ h.stands) (st : fits c s = true ∧ f s = g s) :
    h.wayTo c (mk h.stands f) (mk h.stands g) (n + 1) s = [] := by
  unfold House.wayTo
  rw [look_mk hs, look_mk hs, if_pos st]
theorem wayTo_way {h : House} (hh : Sound h) {c : List Nat} {l : List (List Nat)} : ∀ (n : Nat) {s : Stand} {d : Nat} (i : Nat), s ∈ h.stands → val h (c :: l) s = some d → mu h.stands (val h (c :: l)) d < n →
    ∃ e k, Way h c (val h (c :: l)) (val h l) s (h.wayTo c (mk h.stands (val h (c :: l))) (mk h.stands (val h l)) n s) e k ∧
      h.follow i s (h.wayTo c (mk h.stands (val h (c :: l))) (mk h.stands (val h l)) n s) = .ok (e, k) ∧ e ∈ h.stands ∧ ∃ d', val h l e = some d' ∧ k + d' = d
  | 0, _, _, _, _, _, lt => absurd lt (Nat.not_lt_zero _)
  | n + 1, s, d, i, hs, hd, lt => by
    by_cases st : fits c s = true ∧ val h (c :: l) s = val h l s
    · rw [wayTo_stop hs st]
      exact ⟨s, 0, .stop st.1 st.2, rfl, hs, d, by rw [← st.2, hd], Nat.zero_add _⟩
    · obtain ⟨v, y, z, pv, dy, vz, ez⟩ := pick_some hh hs hd st
      have hy := stands_closed h _ hs _ _ dy
      rw [wayTo_go hs st pv dy]
      have w1 := stands_heavy hh s hs v y dy
      obtain ⟨e, k, w, fo, he, d', vd, ed⟩ := wayTo_way hh n (i + 1) hy vz (by have := mu_less (S := h.stands) (f := val h (c :: l)) (d := d) hy vz (by omega); omega)
      refine ⟨e, h.weight y.2 + k, .go st pv dy w, ?_, he, d', vd, by omega⟩
      unfold House.follow
      rw [dy]
      dsimp only
      rw [fo]
theorem mu_le (S : List Stand) (f : Stand → Option Nat) (d : Nat) : mu S f d ≤ S.length := List.length_filter_le ..
theorem waysFrom_ways {h : House} (hh : Sound h) : ∀ (l : List (List Nat)) {s : Stand} {d : Nat}, s ∈ h.stands → val h l s = some d → Ways h l s (h.waysFrom l (h.tables l) s)
  | [], s, _, _, _ => by
    have e : h.waysFrom [] (h.tables []) s = [] := by unfold House.waysFrom; rfl
    rw [e]
    exact .nil
  | c :: l, s, d, hs, hd => by
    obtain ⟨r, er⟩ := tables_head hh l
    have fu : mu h.stands (val h (c :: l)) d < (mk h.stands (val h (c :: l))).length * h.moves.length + 1 := by
      rw [mk_length]
      have h1 := mu_le h.stands (val h (c :: l)) d
      have h2 : 1 ≤ h.moves.length := by unfold House.moves; simp; omega
      have h3 := Nat.mul_le_mul_left h.stands.length h2
      omega
    obtain ⟨e, k, w, fo, he, d', vd, _⟩ := wayTo_way hh _ 0 hs hd fu
    have ih := waysFrom_ways hh l he vd
    rw [tables_cons hh, er]
    rw [er] at ih
    unfold House.waysFrom
    dsimp only
    rw [fo]
    exact .cons w ih
theorem ways_ways {h : House} (hh : Sound h) {s : Stand} {d : Nat} (hs : s ∈ h.stands) (hd : h.least s = some d) : Ways h h.scenes s (h.ways s) := waysFrom_ways hh _ hs hd
end SM

namespace SM
open Uw04

def toZ (l : List Nat) : List Int := l.map fun (x : Nat) => (x : Int)
theorem toZ_length (l : List Nat) : (toZ l).length = l.length := List.length_map ..
theorem toZ_toNat (l : List Nat) : (toZ l).map Int.toNat = l := by
  unfold toZ
  rw [List.map_map]
  have e : (Int.toNat ∘ fun (x : Nat) => (x : Int)) = id := by
    funext x
    exact Int.toNat_natCast x
  rw [e, List.map_id]
/-- numbers that are handed in -/
def Small (l : List Nat) : Prop := ∀ x ∈ l, x ≤ 4294967295
theorem within_nat {z : Int} (h : PyInside.within 0 4294967295 z = true) : ∃ n : Nat, z = n ∧ n ≤ 4294967295 := by
  unfold PyInside.within at h
  rw [Bool.and_eq_true, decide_eq_true_eq, decide_eq_true_eq] at h
  exact ⟨z.toNat, by omega, by omega⟩
theorem all_within : ∀ {l : List Int}, l.all (PyInside.within 0 4294967295) = true → ∃ m : List Nat, l = toZ m ∧ Small m
  | [], _ => ⟨[], rfl, fun x h => nomatch h⟩
  | z :: l, h => by
    rw [List.all_cons, Bool.and_eq_true] at h
    obtain ⟨n, e, hn⟩ := within_nat h.1
    obtain ⟨m, em, hm⟩ := all_within h.2
    refine ⟨n :: m, by rw [e, em]; rfl, fun x hx => ?_⟩
    cases hx with
    | head => exact hn
    | tail _ hx => exact hm x hx
/-- a call as it is handed in, and what it means -/
inductive Raw : List (List Int) → Call → Prop
  | begins {a b : Nat} {h l r : List Nat} : a ≤ 4294967295 → b ≤ 4294967295 → Small h → Small l → Small r → h.length ≤ 30 → l.length ≤ 30 → r.length ≤ 30 →
      Raw [[0, (a : Int), (b : Int)], toZ h, toZ l, toZ r] (.begins h a b l r)
  | scene {l : List Nat} : Small l → l.length ≤ 30 → Raw [[1], toZ l] (.scene l)
  | drop : Raw [[2]] .drop
  | least : Raw [[3]] .least
  | ways : Raw [[4]] .ways
  | check {n : Nat} {l : List Nat} {ms : List Move} : n ≤ 30 → Small l → l.length ≤ 60 → Uw04Neutral.movesIn n l = some ms → Raw [[5, (n : Int)], toZ l] (.check ms)

theorem nat_of {n : Nat} (h : n ≤ 4294967295) : Uw04Neutral.nat (n : Int) = true := by
  unfold Uw04Neutral.nat
  rw [Bool.and_eq_true, decide_eq_true_eq, decide_eq_true_eq]
  omega
theorem all_nat : ∀ {l : List Nat}, Small l → (toZ l).all Uw04Neutral.nat = true
  | [], _ => rfl
  | x :: l, h => by
    show ((x : Int) :: toZ l).all _ = true
    rw [List.all_cons, nat_of (h x (List.Mem.head _)), all_nat fun y hy => h y (List.Mem.tail _ hy)]
    rfl
theorem callOf_of {l : List Nat} (h : Small l) : Uw04Neutral.callOf (toZ l) = Uw04Neutral.callIn l := by
  unfold Uw04Neutral.callOf
  rw [all_nat h, toZ_toNat]
  rfl
theorem listIn_of {l r : List Nat} (h : l.length ≤ 30) : Uw04Neutral.listIn (l.length :: (l ++ r)) = some (l, r) := by
  show (if l.length ≤ 30 ∧ l.length ≤ (l ++ r).length then some ((l ++ r).take l.length, (l ++ r).drop l.length) else none) = _
  rw [if_pos (by rw [List.length_append]; omega), List.take_left, List.drop_left]
theorem small_append {l r : List Nat} (h : Small l) (k : Small r) : Small (l ++ r) := fun x hx => (List.mem_append.1 hx).elim (h x) (k x)
theorem small_cons {n : Nat} {l : List Nat} (h : n ≤ 4294967295) (k : Small l) : Small (n :: l) := fun x hx => by
  cases hx with
  | head => exact h
  | tail _ hx => exact k x hx
theorem small_nil : Small [] := fun _ h => nomatch h
theorem toZ_append (l r : List Nat) : toZ (l ++ r) = toZ l ++ toZ r := List.map_append ..
theorem begins_whole {a b : Nat} {h l r : List Nat} : (PyUw04.whole [[0, (a : Int), (b : Int)], toZ h, toZ l, toZ r]).headD [] = toZ (0 :: h.length :: (h ++ (a :: b :: l.length :: (l ++ (r.length :: (r ++ [])))))) := by
  show [0] ++ [((toZ h).length : Int)] ++ toZ h ++ [(a : Int)] ++ [(b : Int)] ++ [((toZ l).length : Int)] ++ toZ l ++ [((toZ r).length : Int)] ++ toZ r = _
  rw [toZ_length, toZ_length, toZ_length, List.append_nil]
  show _ = (0 : Int) :: (h.length : Int) :: toZ (h ++ _)
  rw [toZ_append]
  show _ = (0 : Int) :: (h.length : Int) :: (toZ h ++ ((a : Int) :: (b : Int) :: (l.length : Int) :: toZ (l ++ _)))
  rw [toZ_append]
  show _ = (0 : Int) :: (h.length : Int) :: (toZ h ++ ((a : Int) :: (b : Int) :: (l.length : Int) :: (toZ l ++ ((r.length : Int) :: toZ r))))
  simp only [List.append_assoc, List.cons_append, List.nil_append]
theorem callOf_raw {c : List (List Int)} {x : Call} (h : Raw c x) : Uw04Neutral.callOf ((PyUw04.whole c).headD []) = some x := by
  cases h with
  | begins ha hb hh hl hr h1 h2 h3 =>
    rw [begins_whole, callOf_of (small_cons (by omega) (small_cons (by omega) (small_append hh (small_cons ha (small_cons hb (small_cons (by omega) (small_append hl (small_cons (by omega) (small_append hr small_nil)))))))))]
    rename_i a b h l r
    show (Uw04Neutral.listIn (h.length :: (h ++ (a :: b :: l.length :: (l ++ (r.length :: (r ++ []))))))).bind _ = _
    rw [listIn_of h1]
    show (Uw04Neutral.listIn (l.length :: (l ++ (r.length :: (r ++ []))))).bind _ = _
    rw [listIn_of h2]
    show (Uw04Neutral.listIn (r.length :: (r ++ []))).bind _ = _
    rw [listIn_of h3]
    rfl
  | scene hl h1 =>
    rename_i l
    have e : (PyUw04.whole [[1], toZ l]).headD [] = toZ (1 :: l.length :: (l ++ [])) := by
      show [1] ++ [((toZ l).length : Int)] ++ toZ l = _
      rw [toZ_length, List.append_nil]
      rfl
    rw [e, callOf_of (small_cons (by omega) (small_cons (by omega) (small_append hl small_nil)))]
    show (Uw04Neutral.listIn (l.length :: (l ++ []))).bind _ = _
    rw [listIn_of h1]
    rfl
  | drop => rfl
  | least => rfl
  | ways => rfl
  | check hn hl h1 hm =>
    rename_i n l ms
    have e : (PyUw04.whole [[5, (n : Int)], toZ l]).headD [] = toZ (5 :: n :: l) := by
      show [5] ++ [(n : Int)] ++ toZ l = _
      rfl
    rw [e, callOf_of (small_cons (by omega) (small_cons (by omega) hl))]
    show (if n ≤ 30 then (Uw04Neutral.movesIn n l).map Call.check else none) = _
    rw [if_pos hn, hm]
    rfl
theorem len0 {α : Type} {l : List α} (h : 0 = l.length) : l = [] := List.length_eq_zero_iff.1 h.symm
theorem len1 {α : Type} {l : List α} (h : 1 = l.length) : ∃ a, l = [a] := List.length_eq_one_iff.1 h.symm
theorem len2 {α : Type} {l : List α} (h : 2 = l.length) : ∃ a b, l = [a, b] := by
  cases l with
  | nil => cases h
  | cons a l =>
    obtain ⟨b, rfl⟩ := len1 (l := l) (Nat.succ.inj h)
    exact ⟨a, b, rfl⟩
theorem len3 {α : Type} {l : List α} (h : 3 = l.length) : ∃ a b c, l = [a, b, c] := by
  cases l with
  | nil => cases h
  | cons a l =>
    obtain ⟨b, c, rfl⟩ := len2 (l := l) (Nat.succ.inj h)
    exact ⟨a, b, c, rfl⟩
/-- every call that is asked is one of these -/
theorem raw_of {c : List (List Int)} (h1 : PyFlat.okCall PyUw04.shape c) (h2 : PyInside.call PyUw04.bound c = true) (h3 : Uw04Neutral.asked1 ((PyUw04.whole c).headD []) = true) : ∃ x, Raw c x := by
  obtain ⟨p, as, xs, rfl, hs⟩ := h1
  have h2' : (PyInside.each (PyUw04.bound p).1 as && PyInside.lists (PyUw04.bound p).2 xs) = true := h2
  rw [Bool.and_eq_true] at h2'
  obtain ⟨he, hl⟩ := h2'
  unfold PyUw04.shape at hs
  unfold PyUw04.bound at he hl
  by_cases p0 : p = 0
  · subst p0
    rw [if_pos rfl] at hs he hl
    obtain ⟨e1, e2⟩ := Prod.mk.inj (Option.some.inj hs)
    obtain ⟨a, b, rfl⟩ := len2 e1
    obtain ⟨h, l, r, rfl⟩ := len3 e2
    simp only [PyInside.each, PyInside.lists, Bool.and_eq_true, decide_eq_true_eq, Bool.and_true] at he hl
    obtain ⟨a, rfl, ha⟩ := within_nat he.1
    obtain ⟨b, rfl, hb⟩ := within_nat he.2
    obtain ⟨⟨⟨_, q1⟩, q2⟩, ⟨⟨⟨_, q3⟩, q4⟩, ⟨⟨_, q5⟩, q6⟩⟩⟩ := hl
    obtain ⟨h, rfl, hh⟩ := all_within q2
    obtain ⟨l, rfl, hl⟩ := all_within q4
    obtain ⟨r, rfl, hr⟩ := all_within q6
    rw [toZ_length] at q1 q3 q5
    exact ⟨_, .begins ha hb hh hl hr q1 q3 q5⟩
  rw [if_neg p0] at hs he hl
  by_cases p1 : p = 1
  · subst p1
    rw [if_pos rfl] at hs he hl
    obtain ⟨e1, e2⟩ := Prod.mk.inj (Option.some.inj hs)
    obtain rfl := len0 e1
    obtain ⟨l, rfl⟩ := len1 e2
    simp only [PyInside.lists, Bool.and_eq_true, decide_eq_true_eq, Bool.and_true] at hl
    obtain ⟨⟨_, q1⟩, q2⟩ := hl
    obtain ⟨l, rfl, hl⟩ := all_within q2
    rw [toZ_length] at q1
    exact ⟨_, .scene hl q1⟩
  rw [if_neg p1] at hs he hl
  by_cases p2 : p = 2
  · subst p2
    rw [if_pos rfl] at hs
    obtain ⟨e1, e2⟩ := Prod.mk.inj (Option.some.inj hs)
    obtain rfl := len0 e1
    obtain rfl := len0 e2
    exact ⟨_, .drop⟩
  rw [if_neg p2] at hs he hl
  by_cases p3 : p = 3
  · subst p3
    rw [if_pos rfl] at hs
    obtain ⟨e1, e2⟩ := Prod.mk.inj (Option.some.inj hs)
    obtain rfl := len0 e1
    obtain rfl := len0 e2
    exact ⟨_, .least⟩
  rw [if_neg p3] at hs he hl
  by_cases p4 : p = 4
  · subst p4
    rw [if_pos rfl] at hs
    obtain ⟨e1, e2⟩ := Prod.mk.inj (Option.some.inj hs)
    obtain rfl := len0 e1
    obtain rfl := len0 e2
    exact ⟨_, .ways⟩
  rw [if_neg p4] at hs he hl
  by_cases p5 : p = 5
  · subst p5
    rw [if_pos rfl] at hs he hl
    obtain ⟨e1, e2⟩ := Prod.mk.inj (Option.some.inj hs)
    obtain ⟨n, rfl⟩ := len1 e1
    obtain ⟨l, rfl⟩ := len1 e2
    simp only [PyInside.each, PyInside.lists, Bool.and_eq_true, decide_eq_true_eq, Bool.and_true] at he hl
    unfold PyInside.within at he
    rw [Bool.and_eq_true, decide_eq_true_eq, decide_eq_true_eq] at he
    obtain ⟨m, em⟩ : ∃ m : Nat, n = m := ⟨n.toNat, by omega⟩
    subst em
    obtain ⟨⟨_, q1⟩, q2⟩ := hl
    obtain ⟨l, rfl, hl⟩ := all_within q2
    rw [toZ_length] at q1
    have e : (PyUw04.whole [[5, (m : Int)], toZ l]).headD [] = toZ (5 :: m :: l) := rfl
    rw [e] at h3
    unfold Uw04Neutral.asked1 at h3
    rw [callOf_of (small_cons (by omega) (small_cons (by omega) hl))] at h3
    have h3' : (if m ≤ 30 then (Uw04Neutral.movesIn m l).map Call.check else none).isSome = true := h3
    rw [if_pos (by omega)] at h3'
    cases q : Uw04Neutral.movesIn m l with
    | none => rw [q] at h3'; cases h3'
    | some ms => exact ⟨_, .check (by omega) hl q1 q⟩
  rw [if_neg p5] at hs
  cases hs
/-- the calls of a list, each with what it means -/
inductive Raws : List (List (List Int)) → List Call → Prop
  | nil : Raws [] []
  | cons {c x cs xs} : Raw c x → Raws cs xs → Raws (c :: cs) (x :: xs)
def run1 (s : St) (x : Call) : List Int := Uw04Neutral.out (step s x).2
/-- what is given back from a state on -/
def given : St → List Call → List Int
  | _, [] => []
  | s, x :: xs => ((run1 s x).length : Int) :: (run1 s x ++ given (step s x).1 xs)
theorem given_played : ∀ {cs : List (List (List Int))} {xs : List Call} (s : St), Raws cs xs → PyFlat.told (PyFlat.played (fun s c => Uw04Neutral.step s (c.headD [])) s (cs.map PyUw04.whole)) = given s xs
  | _, _, _, .nil => rfl
  | _, _, s, .cons (c := c) (x := x) (cs := cs) (xs := xs) h hs => by
    have ih := given_played (step s x).1 hs
    have e : Uw04Neutral.step s ((PyUw04.whole c).headD []) = ((step s x).1, run1 s x) := by
      unfold Uw04Neutral.step
      rw [callOf_raw h]
      rfl
    show ((Uw04Neutral.step s ((PyUw04.whole c).headD [])).2.length : Int) :: ((Uw04Neutral.step s ((PyUw04.whole c).headD [])).2 ++ PyFlat.told (PyFlat.played (fun s c => Uw04Neutral.step s (c.headD [])) (Uw04Neutral.step s ((PyUw04.whole c).headD [])).1 (cs.map PyUw04.whole))) = _
    rw [e]
    dsimp only
    rw [ih]
    rfl
theorem raws_of : ∀ {cs : List (List (List Int))}, (∀ c ∈ cs, PyFlat.okCall PyUw04.shape c) → PyInside.calls PyUw04.bound cs = true → ((cs.map PyUw04.whole).map fun c => c.headD []).all Uw04Neutral.asked1 = true → ∃ xs, Raws cs xs
  | [], _, _, _ => ⟨[], .nil⟩
  | c :: cs, h1, h2, h3 => by
    have h2' : (PyInside.call PyUw04.bound c && PyInside.calls PyUw04.bound cs) = true := h2
    rw [Bool.and_eq_true] at h2'
    rw [List.map_cons, List.map_cons, List.all_cons, Bool.and_eq_true] at h3
    obtain ⟨x, hx⟩ := raw_of (h1 c (List.Mem.head _)) h2'.1 h3.1
    obtain ⟨xs, hxs⟩ := raws_of (fun d hd => h1 d (List.Mem.tail _ hd)) h2'.2 h3.2
    exact ⟨x :: xs, .cons hx hxs⟩
theorem Raws.length {cs : List (List (List Int))} {xs : List Call} (h : Raws cs xs) : cs.length = xs.length := by
  induction h with
  | nil => rfl
  | cons _ _ ih => exact congrArg (· + 1) ih
/-- **what is asked**: the list is that of such calls, and the answers are those of the house -/
theorem asked_raws {l : List Int} (h : PyUw04.answers_asked l = true) : ∃ cs xs, l = PyFlat.put cs ∧ Raws cs xs ∧ cs.length ≤ 40 ∧ PyUw04.answers l = given Uw04.init xs ∧ (PyUw04.answers l).length ≤ 10000000 := by
  unfold PyUw04.answers_asked at h
  cases e : PyFlat.calls PyUw04.shape l.length l with
  | none => rw [e] at h; cases h
  | some raw =>
    rw [e] at h
    have h' : (!raw.isEmpty && PyFlat.atMost 40 raw && PyInside.calls PyUw04.bound raw && Uw04Neutral.asked ((raw.map PyUw04.whole).map fun c => c.headD []) && PyFlat.short 10000000 (PyUw04.answers l)) = true := h
    rw [Bool.and_eq_true, Bool.and_eq_true, Bool.and_eq_true, Bool.and_eq_true] at h'
    obtain ⟨⟨⟨⟨_, a2⟩, a3⟩, a4⟩, a5⟩ := h'
    unfold Uw04Neutral.asked at a4
    rw [Bool.and_eq_true] at a4
    obtain ⟨b1, b2⟩ := PyFlat.put_calls _ _ _ e
    obtain ⟨xs, hx⟩ := raws_of b2 a3 a4.1
    refine ⟨raw, xs, b1, hx, of_decide_eq_true a2, ?_, of_decide_eq_true a5⟩
    unfold PyUw04.answers PyUw04.calls
    rw [e]
    exact given_played Uw04.init hx
end SM

namespace SM
open Uw04

structure StOk (s : St) : Prop where
  many : s.house.heavy.length ≤ 4
  wts : ∀ x ∈ s.house.heavy, 1 ≤ x ∧ x ≤ 1000
  ra : s.house.roomLeft ≤ 3
  rb : s.house.roomRight ≤ 3
  few : s.house.scenes.length ≤ 4
  sc : ∀ c ∈ s.house.scenes, rising c = true ∧ ∀ x ∈ c, x < s.house.heavy.length
  st : Fine s.house s.stand
theorem StOk.sound {s : St} (h : StOk s) : Sound s.house := fun x hx => (h.wts x hx).1
theorem StOk.mem {s : St} (h : StOk s) : s.stand ∈ s.house.stands := mem_stands.2 h.st
theorem ok_init : StOk init := by
  refine ⟨Nat.zero_le _, (fun _ h => nomatch h), Nat.zero_le _, Nat.zero_le _, Nat.zero_le _, (fun _ h => nomatch h), ⟨Nat.le_refl _, List.nodup_nil, (fun _ h => nomatch h), Nat.le_refl _, List.nodup_nil, (fun _ h => nomatch h), (fun _ h => nomatch h), rfl⟩⟩
theorem distinct_nodup : ∀ {l : List Nat}, distinct l = true ↔ l.Nodup
  | [] => ⟨fun _ => List.nodup_nil, fun _ => rfl⟩
  | a :: l => by
    show (!l.contains a && distinct l) = true ↔ _
    rw [Bool.and_eq_true, distinct_nodup, List.nodup_cons]
    simp
/-! ### begins: what is refused, and what comes of it -/
def Bad1 (h : List Nat) (a b : Nat) : Prop := PIECES < h.length ∨ (h.all fun x => decide (1 ≤ x) && decide (x ≤ HEAVY)) = false ∨ ROOM < a ∨ ROOM < b
def Bad2 (h : List Nat) (a b : Nat) (l r : List Nat) : Prop := ((l ++ r).all fun x => decide (x < h.length)) = false ∨ distinct (l ++ r) = false ∨ a < l.length ∨ b < r.length
instance (h : List Nat) (a b : Nat) : Decidable (Bad1 h a b) := by unfold Bad1; infer_instance
instance (h : List Nat) (a b : Nat) (l r : List Nat) : Decidable (Bad2 h a b l r) := by unfold Bad2; infer_instance
def newSt (h : List Nat) (a b : Nat) (l r : List Nat) : St := ⟨⟨h, a, b, []⟩, ⟨onOf h.length l r, l, r⟩⟩
theorem on_new (h : List Nat) (l r : List Nat) : (List.range h.length).filter (fun x => !(l ++ r).contains x) = onOf h.length l r := by
  unfold onOf
  refine List.filter_congr fun x _ => ?_
  rw [List.contains_append]
  cases l.contains x <;> cases r.contains x <;> rfl
def standsOf (n a b : Nat) : List Stand := let z := List.range n
  (rowsOf a z).flatMap fun l => (rowsOf b (z.filter fun x => !l.contains x)).map fun r => ⟨z.filter (fun x => !l.contains x && !r.contains x), l, r⟩
theorem stands_of (h : House) : h.stands = standsOf h.heavy.length h.roomLeft h.roomRight := rfl
theorem step_begins (s : St) (h : List Nat) (a b : Nat) (l r : List Nat) : step s (.begins h a b l r) =
    if Bad1 h a b then (s, ok (-1)) else if Bad2 h a b l r then (s, ok (-2)) else (newSt h a b l r, ok ((standsOf h.length a b).length : Nat)) := by
  unfold newSt
  rw [← on_new]
  rfl
theorem Bad1.ok {h : List Nat} {a b : Nat} (k : ¬ Bad1 h a b) : h.length ≤ 4 ∧ (∀ x ∈ h, 1 ≤ x ∧ x ≤ 1000) ∧ a ≤ 3 ∧ b ≤ 3 := by
  unfold Bad1 PIECES HEAVY ROOM at k
  rw [not_or, not_or, not_or] at k
  obtain ⟨k1, k2, k3, k4⟩ := k
  rw [Bool.not_eq_false, List.all_eq_true] at k2
  refine ⟨by omega, fun x hx => ?_, by omega, by omega⟩
  have := k2 x hx
  rw [Bool.and_eq_true, decide_eq_true_eq, decide_eq_true_eq] at this
  exact this
theorem Bad2.fine {h : List Nat} {a b : Nat} {l r : List Nat} (k : ¬ Bad2 h a b l r) : Fine (newSt h a b l r).house (newSt h a b l r).stand := by
  unfold Bad2 at k
  rw [not_or, not_or, not_or] at k
  obtain ⟨k1, k2, k3, k4⟩ := k
  rw [Bool.not_eq_false, List.all_eq_true] at k1
  rw [Bool.not_eq_false, distinct_nodup] at k2
  obtain ⟨n1, n2, n3⟩ := List.nodup_append.1 k2
  refine ⟨Nat.le_of_not_lt k3, n1, fun x hx => ?_, Nat.le_of_not_lt k4, n2, fun x hx => ?_, fun x hx hl => n3 x hl x hx rfl, rfl⟩
  · exact of_decide_eq_true (k1 x (List.mem_append.2 (.inl hx)))
  · exact of_decide_eq_true (k1 x (List.mem_append.2 (.inr hx)))
theorem new_ok {h : List Nat} {a b : Nat} {l r : List Nat} (k1 : ¬ Bad1 h a b) (k2 : ¬ Bad2 h a b l r) : StOk (newSt h a b l r) := by
  obtain ⟨q1, q2, q3, q4⟩ := Bad1.ok k1
  exact ⟨q1, q2, q3, q4, Nat.zero_le _, (fun _ hc => nomatch hc), Bad2.fine k2⟩
def withScenes (s : St) (l : List (List Nat)) : St := { s with house := { s.house with scenes := l } }
theorem fine_scenes {s : St} {l : List (List Nat)} (k : Fine s.house s.stand) : Fine (withScenes s l).house (withScenes s l).stand := ⟨k.ll, k.ln, k.lx, k.rl, k.rn, k.rx, k.dj, k.on⟩
def BadS (n : Nat) (l : List Nat) : Prop := rising l = false ∨ (l.all fun x => decide (x < n)) = false
instance (n : Nat) (l : List Nat) : Decidable (BadS n l) := by unfold BadS; infer_instance
theorem step_scene (s : St) (l : List Nat) : step s (.scene l) = if BadS s.house.heavy.length l then (s, ok (-1)) else if 4 ≤ s.house.scenes.length then (s, ok (-5)) else (withScenes s (s.house.scenes ++ [l]), ok (s.house.scenes.length : Nat)) := rfl
theorem step_drop (s : St) : step s .drop = if s.house.scenes = [] then (s, ok (-4)) else (withScenes s s.house.scenes.dropLast, ok (s.house.scenes.length - 1 : Nat)) := rfl
theorem BadS.ok {n : Nat} {l : List Nat} (k : ¬ BadS n l) : rising l = true ∧ ∀ x ∈ l, x < n := by
  unfold BadS at k
  rw [not_or, Bool.not_eq_false, Bool.not_eq_false, List.all_eq_true] at k
  exact ⟨k.1, fun x hx => of_decide_eq_true (k.2 x hx)⟩
theorem step_ok {s : St} (k : StOk s) (x : Call) : StOk (step s x).1 := by
  cases x with
  | begins h a b l r =>
    rw [step_begins]
    by_cases c1 : Bad1 h a b
    · rw [if_pos c1]; exact k
    · rw [if_neg c1]
      by_cases c2 : Bad2 h a b l r
      · rw [if_pos c2]; exact k
      · rw [if_neg c2]; exact new_ok c1 c2
  | scene l =>
    rw [step_scene]
    by_cases c1 : BadS s.house.heavy.length l
    · rw [if_pos c1]; exact k
    · rw [if_neg c1]
      by_cases c2 : 4 ≤ s.house.scenes.length
      · rw [if_pos c2]; exact k
      · rw [if_neg c2]
        refine ⟨k.many, k.wts, k.ra, k.rb, ?_, fun c hc => ?_, fine_scenes k.st⟩
        · show (s.house.scenes ++ [l]).length ≤ 4
          rw [List.length_append, List.length_singleton]
          omega
        · rcases List.mem_append.1 (show c ∈ s.house.scenes ++ [l] from hc) with hc | hc
          · exact k.sc c hc
          · rw [List.mem_singleton] at hc
            subst hc
            exact BadS.ok c1
  | drop =>
    rw [step_drop]
    by_cases c1 : s.house.scenes = []
    · rw [if_pos c1]; exact k
    · rw [if_neg c1]
      refine ⟨k.many, k.wts, k.ra, k.rb, ?_, fun c hc => k.sc c (List.dropLast_sublist _ |>.subset hc), fine_scenes k.st⟩
      show s.house.scenes.dropLast.length ≤ 4
      rw [List.length_dropLast]
      have := k.few
      omega
  | least => exact k
  | ways => exact k
  | check l => exact k
/-- in how many ways they may stand: so many rows of the left wing, so many of the right one -/
def falls (n k : Nat) : Nat := (List.range k).foldl (fun c t => c * (n - t)) 1
def countOf (n a b : Nat) : Nat := (List.range (min n a + 1)).foldl (fun t i => (List.range (min (n - i) b + 1)).foldl (fun t j => t + falls n (i + j)) t) 0
theorem count_is : ∀ n, n < 5 → ∀ a, a < 4 → ∀ b, b < 4 → (standsOf n a b).length = countOf n a b := by decide +kernel
end SM

namespace SM
open Uw04

/-! ## stands by their two rows -/
abbrev Sk := List Nat × List Nat
def stk (n : Nat) (k : Sk) : Stand := ⟨onOf n k.1 k.2, k.1, k.2⟩
def skOf (s : Stand) : Sk := (s.left, s.right)
theorem stk_of {h : House} {s : Stand} (k : Fine h s) : stk h.heavy.length (skOf s) = s := by
  obtain ⟨on, l, r⟩ := s
  have e : on = onOf h.heavy.length l r := k.on
  subst e
  rfl
theorem skOf_stk (n : Nat) (k : Sk) : skOf (stk n k) = k := rfl
theorem stk_inj {n : Nat} {a b : Sk} (e : stk n a = stk n b) : a = b := congrArg skOf e
/-- a carrying, how heavy it is, how it stands then -/
abbrev Sp3 := Move × Nat × Sk
def toSp (h : House) (s : Stand) (v : Move) : Option Sp3 := (h.does s v).map fun y => (v, h.weight y.2, skOf y.1)
def stepsOf (h : House) (k : Sk) : List Sp3 := h.moves.filterMap (toSp h (stk h.heavy.length k))
theorem toSp_some {h : House} {s : Stand} {v : Move} {x : Sp3} : toSp h s v = some x ↔ ∃ y, h.does s v = some y ∧ x = (v, h.weight y.2, skOf y.1) := by
  unfold toSp
  rw [Option.map_eq_some_iff]
  exact ⟨fun ⟨y, h1, h2⟩ => ⟨y, h1, h2.symm⟩, fun ⟨y, h1, h2⟩ => ⟨y, h1, h2.symm⟩⟩
theorem mem_stepsOf {h : House} {k : Sk} {x : Sp3} : x ∈ stepsOf h k ↔ ∃ v ∈ h.moves, ∃ y, h.does (stk h.heavy.length k) v = some y ∧ x = (v, h.weight y.2, skOf y.1) := by
  unfold stepsOf
  rw [List.mem_filterMap]
  exact ⟨fun ⟨v, hv, e⟩ => ⟨v, hv, toSp_some.1 e⟩, fun ⟨v, hv, e⟩ => ⟨v, hv, toSp_some.2 e⟩⟩
theorem stk_fine_next {h : House} {k : Sk} (f : Fine h (stk h.heavy.length k)) {v : Move} {y : Stand × Nat} (e : h.does (stk h.heavy.length k) v = some y) : Fine h (stk h.heavy.length (skOf y.1)) ∧ stk h.heavy.length (skOf y.1) = y.1 := by
  have q := (does_fine f e).1
  rw [stk_of q]
  exact ⟨q, rfl⟩
theorem steps_fine {h : House} {k : Sk} (f : Fine h (stk h.heavy.length k)) {x : Sp3} (hx : x ∈ stepsOf h k) : Fine h (stk h.heavy.length x.2.2) := by
  obtain ⟨v, _, y, e, rfl⟩ := mem_stepsOf.1 hx
  exact (stk_fine_next f e).1
theorem steps_pos {h : House} (hh : Sound h) {k : Sk} (f : Fine h (stk h.heavy.length k)) {x : Sp3} (hx : x ∈ stepsOf h k) : 1 ≤ x.2.1 := by
  obtain ⟨v, _, y, e, rfl⟩ := mem_stepsOf.1 hx
  exact weight_pos hh (does_fine f e).2

/-! ## the steps as the program lists them -/
def offL (h : House) (l r : List Nat) (p : Nat) : Sp3 := (.offLeft p, h.weight p, (p :: l, r))
def offR (h : House) (l r : List Nat) (p : Nat) : Sp3 := (.offRight p, h.weight p, (l, p :: r))
def onL (h : House) (r : List Nat) : List Nat → List Sp3
  | [] => []
  | p :: l => [(.onLeft, h.weight p, (l, r))]
def onR (h : House) (l : List Nat) : List Nat → List Sp3
  | [] => []
  | p :: r => [(.onRight, h.weight p, (l, r))]
theorem fm_filter {α : Type} {p : Nat → Bool} {g : Nat → α} : ∀ L : List Nat, L.filterMap (fun x => if p x = true then some (g x) else none) = (L.filter p).map g
  | [] => rfl
  | a :: L => by
    rw [List.filterMap_cons, List.filter_cons]
    by_cases c : p a = true
    · rw [if_pos c, if_pos c]
      exact congrArg _ (fm_filter L)
    · rw [if_neg c, if_neg c]
      exact fm_filter L
theorem filter_on (n : Nat) (l r : List Nat) : (List.range n).filter (fun x => (onOf n l r).contains x) = onOf n l r := by
  conv => rhs; unfold onOf
  refine List.filter_congr fun x hx => ?_
  rw [Bool.eq_iff_iff, contains_iff, mem_onOf]
  have := List.mem_range.1 hx
  simp [this]
theorem fm_off {α : Type} {n : Nat} {l r : List Nat} {c : Prop} [Decidable c] {g : Nat → α} : (List.range n).filterMap (fun x => if (onOf n l r).contains x = true ∧ c then some (g x) else none) = if c then (onOf n l r).map g else [] := by
  by_cases k : c
  · rw [if_pos k, ← filter_on n l r]
    rw [← fm_filter]
    congr 1
    funext x
    rw [filter_on]
    simp [k]
  · rw [if_neg k, List.filterMap_eq_nil_iff]
    intro x _
    rw [if_neg (fun z => k z.2)]
theorem stepsOf_is (h : House) (l r : List Nat) : stepsOf h (l, r) = (if l.length < h.roomLeft then (onOf h.heavy.length l r).map (offL h l r) else []) ++ ((if r.length < h.roomRight then (onOf h.heavy.length l r).map (offR h l r) else []) ++ (onL h r l ++ onR h l r)) := by
  unfold stepsOf House.moves
  rw [List.filterMap_append, List.filterMap_append, List.filterMap_map, List.filterMap_map, List.append_assoc]
  congr 1
  · rw [← fm_off]
    congr 1
    funext x
    show (House.does h _ (.offLeft x)).map _ = _
    unfold House.does stk
    dsimp only
    split <;> rfl
  · congr 1
    · rw [← fm_off]
      congr 1
      funext x
      show (House.does h _ (.offRight x)).map _ = _
      unfold House.does stk
      dsimp only
      split <;> rfl
    · cases l <;> cases r <;> rfl

/-! ## one look at a stand's steps -/
def low (f : Sk → Option Nat) (m : Option Nat) (L : List Sp3) : Option Nat := L.foldl (fun m x => sooner m ((f x.2.2).map fun c => x.2.1 + c)) m
theorem low_cons (f : Sk → Option Nat) (m : Option Nat) (x : Sp3) (L : List Sp3) : low f m (x :: L) = low f (sooner m ((f x.2.2).map fun c => x.2.1 + c)) L := rfl
theorem lo_low {f : Sk → Option Nat} {d : Nat} : ∀ {L : List Sp3} {m : Option Nat}, Lo (low f m L) d ↔ Lo m d ∨ ∃ x ∈ L, ∃ e, Lo (f x.2.2) e ∧ x.2.1 + e ≤ d
  | [], m => by
    show Lo m d ↔ _
    exact ⟨.inl, fun q => q.elim id fun ⟨x, hx, _⟩ => nomatch hx⟩
  | x :: L, m => by
    rw [low_cons, lo_low, lo_sooner, lo_map_add]
    constructor
    · rintro ((h | h) | ⟨y, hy, h⟩)
      · exact .inl h
      · exact .inr ⟨x, List.Mem.head _, h⟩
      · exact .inr ⟨y, List.Mem.tail _ hy, h⟩
    · rintro (h | ⟨y, hy, h⟩)
      · exact .inl (.inl h)
      · cases hy with
        | head => exact .inl (.inr h)
        | tail _ hy => exact .inr ⟨y, hy, h⟩
theorem low_mono {f g : Sk → Option Nat} {L : List Sp3} {m m' : Option Nat} (h : ∀ k d, Lo (f k) d → Lo (g k) d) (hm : ∀ d, Lo m d → Lo m' d) {d : Nat} (k : Lo (low f m L) d) : Lo (low g m' L) d := by
  rw [lo_low] at k ⊢
  rcases k with k | ⟨x, hx, e, h1, h2⟩
  · exact .inl (hm d k)
  · exact .inr ⟨x, hx, e, h _ _ h1, h2⟩

/-! ## the stands that are reached -/
structure Good (h : House) (s0 : Sk) (ks : List Sk) : Prop where
  fine : ∀ k ∈ ks, Fine h (stk h.heavy.length k)
  start : s0 ∈ ks
  closed : ∀ k ∈ ks, ∀ x ∈ stepsOf h k, x.2.2 ∈ ks
/-- what can be done from there, at most so heavy -/
def CanK (h : House) (b : Stand → Option Nat) (k : Sk) (d : Nat) : Prop := Can h b (stk h.heavy.length k) d
def Stl (h : House) (b : Stand → Option Nat) (f : Sk → Option Nat) (k : Sk) : Prop := ∀ d, CanK h b k d → Lo (f k) d
theorem canK_step {h : House} {b : Stand → Option Nat} {s0 : Sk} {ks : List Sk} (g : Good h s0 ks) {k : Sk} (hk : k ∈ ks) {x : Sp3} (hx : x ∈ stepsOf h k) {e d : Nat} (q : CanK h b x.2.2 e) (le : x.2.1 + e ≤ d) : CanK h b k d := by
  obtain ⟨v, hv, y, hy, rfl⟩ := mem_stepsOf.1 hx
  refine .go hv hy ?_ le
  have := (stk_fine_next (g.fine k hk) hy).2
  unfold CanK at q
  dsimp only at q
  rw [this] at q
  exact q
theorem canK_cases {h : House} {b : Stand → Option Nat} {s0 : Sk} {ks : List Sk} (g : Good h s0 ks) {k : Sk} (hk : k ∈ ks) {d : Nat} (q : CanK h b k d) : Lo (b (stk h.heavy.length k)) d ∨ ∃ x ∈ stepsOf h k, ∃ e, CanK h b x.2.2 e ∧ x.2.1 + e ≤ d := by
  cases q with
  | stop q => exact .inl q
  | go hv hy c le =>
    rename_i v y e
    refine .inr ⟨_, mem_stepsOf.2 ⟨v, hv, y, hy, rfl⟩, e, ?_, le⟩
    unfold CanK
    dsimp only
    rw [(stk_fine_next (g.fine k hk) hy).2]
    exact c
theorem one_look {h : House} (hh : Sound h) {b : Stand → Option Nat} {s0 : Sk} {ks : List Sk} (g : Good h s0 ks) {f : Sk → Option Nat} (hb : ∀ k ∈ ks, ∀ d, Lo (b (stk h.heavy.length k)) d → Lo (f k) d) (u : ∃ k ∈ ks, ¬ Stl h b f k) :
    ∃ k ∈ ks, ¬ Stl h b f k ∧ ∀ F : Sk → Option Nat, (∀ d, Lo (low f (f k) (stepsOf h k)) d → Lo (F k) d) → Stl h b F k := by
  obtain ⟨k0, hk0, n0⟩ := u
  have ex : ∃ d, CanK h b k0 d ∧ ¬ Lo (f k0) d := Classical.byContradiction fun q => n0 fun d hd => Classical.byContradiction fun z => q ⟨d, hd, z⟩
  obtain ⟨d0, h0⟩ := ex
  obtain ⟨m, ⟨x, hx, cx, nx⟩, mn⟩ := least_of (P := fun d => ∃ x ∈ ks, CanK h b x d ∧ ¬ Lo (f x) d) ⟨k0, hk0, h0⟩
  refine ⟨x, hx, fun z => nx (z m cx), fun F hF d hd => ?_⟩
  by_cases lt : d < m
  · exact hF d (lo_low.2 (.inl (Classical.byContradiction fun z => mn d lt ⟨x, hx, hd, z⟩)))
  · refine Lo.mono (hF m (lo_low.2 ?_)) (Nat.le_of_not_lt lt)
    rcases canK_cases g hx cx with q | ⟨y, hy, e, ce, le⟩
    · exact absurd (hb x hx m q) nx
    · have w1 := steps_pos hh (g.fine x hx) hy
      refine .inr ⟨y, hy, e, Classical.byContradiction fun z => mn e (by omega) ⟨y.2.2, g.closed x hx y hy, ce, z⟩, le⟩
noncomputable def unk (h : House) (b : Stand → Option Nat) (f : Sk → Option Nat) (k : Sk) : Bool := @decide (¬ Stl h b f k) (Classical.propDecidable _)
theorem unk_iff {h : House} {b : Stand → Option Nat} {f : Sk → Option Nat} {k : Sk} : unk h b f k = true ↔ ¬ Stl h b f k :=
  ⟨fun q => @of_decide_eq_true _ (Classical.propDecidable _) q, fun q => @decide_eq_true _ (Classical.propDecidable _) q⟩
noncomputable def todo (h : House) (b : Stand → Option Nat) (ks : List Sk) (f : Sk → Option Nat) : Nat := (ks.filter (unk h b f)).length

/-! ## one pass over all stands, in place -/
structure Pass (h : House) (b : Stand → Option Nat) (ks : List Sk) (f0 : Sk → Option Nat) (i : Nat) (f : Sk → Option Nat) (c : Bool) : Prop where
  down : ∀ k d, Lo (f0 k) d → Lo (f k) d
  true_ : ∀ k ∈ ks, ∀ d, f k = some d → CanK h b k d
  done : ∀ j, j < i → ∀ k, ks[j]? = some k → ∀ d, Lo (low f0 (f0 k) (stepsOf h k)) d → Lo (f k) d
  still : c = false → (∀ k, f k = f0 k) ∧ ∀ j, j < i → ∀ k, ks[j]? = some k → low f0 (f0 k) (stepsOf h k) = f0 k
  moved : c = true → ∃ k ∈ ks, ¬ Stl h b f0 k
theorem Pass.start {h : House} {b : Stand → Option Nat} {ks : List Sk} {f : Sk → Option Nat} (t : ∀ k ∈ ks, ∀ d, f k = some d → CanK h b k d) : Pass h b ks f 0 f false :=
  ⟨fun _ _ q => q, t, fun j hj => absurd hj (Nat.not_lt_zero _), fun _ => ⟨fun _ => rfl, fun j hj => absurd hj (Nat.not_lt_zero _)⟩, fun q => nomatch q⟩
theorem Pass.same {h : House} {b : Stand → Option Nat} {ks : List Sk} {f0 f : Sk → Option Nat} {i : Nat} {c : Bool} (p : Pass h b ks f0 i f c) {k : Sk} (hk : ks[i]? = some k) (e : low f (f k) (stepsOf h k) = f k) : Pass h b ks f0 (i + 1) f c := by
  refine ⟨p.down, p.true_, fun j hj k' hk' d q => ?_, fun hc => ⟨(p.still hc).1, fun j hj k' hk' => ?_⟩, p.moved⟩
  · by_cases ji : j < i
    · exact p.done j ji k' hk' d q
    · have : j = i := by omega
      subst this
      rw [hk] at hk'
      cases hk'
      have := low_mono p.down (p.down k) q
      rw [e] at this
      exact this
  · by_cases ji : j < i
    · exact (p.still hc).2 j ji k' hk'
    · have : j = i := by omega
      subst this
      rw [hk] at hk'
      cases hk'
      have ef : f = f0 := funext (p.still hc).1
      rw [ef] at e
      exact e
def setK (f : Sk → Option Nat) (k : Sk) (v : Option Nat) : Sk → Option Nat := fun x => if x = k then v else f x
theorem setK_same {f : Sk → Option Nat} {k : Sk} {v : Option Nat} : setK f k v k = v := if_pos rfl
theorem setK_ne {f : Sk → Option Nat} {k x : Sk} {v : Option Nat} (h : x ≠ k) : setK f k v x = f x := if_neg h
theorem low_true {h : House} {b : Stand → Option Nat} {s0 : Sk} {ks : List Sk} (g : Good h s0 ks) {f : Sk → Option Nat} (t : ∀ k ∈ ks, ∀ d, f k = some d → CanK h b k d) {k : Sk} (hk : k ∈ ks) {d : Nat} (q : Lo (low f (f k) (stepsOf h k)) d) : CanK h b k d := by
  rcases lo_low.1 q with ⟨e, le, q⟩ | ⟨x, hx, e, ⟨e', le', q⟩, le⟩
  · exact Can.mono (t k hk e q) le
  · exact canK_step g hk hx (Can.mono (t _ (g.closed k hk x hx) e' q) le') le
theorem Pass.change {h : House} {b : Stand → Option Nat} {s0 : Sk} {ks : List Sk} (g : Good h s0 ks) {f0 f : Sk → Option Nat} {i : Nat} {c : Bool} (p : Pass h b ks f0 i f c) {k : Sk} (hk : ks[i]? = some k) (e : low f (f k) (stepsOf h k) ≠ f k) :
    Pass h b ks f0 (i + 1) (setK f k (low f (f k) (stepsOf h k))) true := by
  have hm := List.mem_of_getElem? hk
  have dn : ∀ x d, Lo (f x) d → Lo (setK f k (low f (f k) (stepsOf h k)) x) d := fun x d q => by
    by_cases xk : x = k
    · subst xk
      rw [setK_same]
      exact lo_low.2 (.inl q)
    · rw [setK_ne xk]
      exact q
  refine ⟨fun x d q => dn x d (p.down x d q), fun x hx d q => ?_, fun j hj k' hk' d q => ?_, (fun q => nomatch q), fun _ => ⟨k, hm, fun st => ?_⟩⟩
  · by_cases xk : x = k
    · subst xk
      rw [setK_same] at q
      exact low_true g p.true_ hx (by rw [q]; exact lo_some.2 (Nat.le_refl _))
    · rw [setK_ne xk] at q
      exact p.true_ x hx d q
  · by_cases kk : k' = k
    · subst kk
      rw [setK_same]
      exact low_mono p.down (p.down _) q
    · by_cases ji : j < i
      · exact dn k' d (p.done j ji k' hk' d q)
      · have : j = i := by omega
        subst this
        rw [hk] at hk'
        exact absurd (Option.some.inj hk').symm kk
  · apply e
    refine lo_ext fun d => ⟨fun q => ?_, fun q => lo_low.2 (.inl q)⟩
    exact p.down k d (st d (low_true g p.true_ hm q))
theorem Pass.fewer {h : House} (hh : Sound h) {b : Stand → Option Nat} {s0 : Sk} {ks : List Sk} (g : Good h s0 ks) {f0 f : Sk → Option Nat} (hb : ∀ k ∈ ks, ∀ d, Lo (b (stk h.heavy.length k)) d → Lo (f0 k) d) (p : Pass h b ks f0 ks.length f true) : todo h b ks f < todo h b ks f0 := by
  obtain ⟨k, hk, n, q⟩ := one_look hh g hb (p.moved rfl)
  refine filter_lt (fun x _ hx => ?_) ⟨k, hk, unk_iff.2 n, ?_⟩
  · exact unk_iff.2 fun z => unk_iff.1 hx fun d hd => p.down x d (z d hd)
  · refine Bool.eq_false_iff.2 fun z => unk_iff.1 z (q f fun d hd => ?_)
    obtain ⟨j, hj⟩ := List.mem_iff_getElem?.1 hk
    exact p.done j (List.getElem?_eq_some_iff.1 hj).1 k hj d hd
/-- **a table that is true, has the ends, and that no look changes is the one** -/
theorem val_on {h : House} (hh : Sound h) {c : List Nat} {l : List (List Nat)} {s0 : Sk} {ks : List Sk} (g : Good h s0 ks) {f : Sk → Option Nat} (t : ∀ k ∈ ks, ∀ d, f k = some d → CanK h (base h c l) k d)
    (hb : ∀ k ∈ ks, ∀ d, Lo (base h c l (stk h.heavy.length k)) d → Lo (f k) d) (e : ∀ k ∈ ks, low f (f k) (stepsOf h k) = f k) : ∀ k ∈ ks, f k = val h (c :: l) (stk h.heavy.length k) := by
  have all : ∀ d, ∀ k ∈ ks, CanK h (base h c l) k d → Lo (f k) d := by
    intro d
    induction d using Nat.strongRecOn with
    | ind d ih =>
      intro k hk q
      rcases canK_cases g hk q with q | ⟨x, hx, e', q, le⟩
      · exact hb k hk d q
      · have w1 := steps_pos hh (g.fine k hk) hx
        rw [← e k hk]
        exact lo_low.2 (.inr ⟨x, hx, e', ih e' (by omega) _ (g.closed k hk x hx) q, le⟩)
  intro k hk
  refine lo_ext fun d => ?_
  rw [val_cons hh (mem_stands.2 (g.fine k hk))]
  exact ⟨fun ⟨e', le, q⟩ => Can.mono (t k hk e' q) le, fun q => all d k hk q⟩
theorem Pass.val {h : House} (hh : Sound h) {c : List Nat} {l : List (List Nat)} {s0 : Sk} {ks : List Sk} (g : Good h s0 ks) {f0 f : Sk → Option Nat} (hb : ∀ k ∈ ks, ∀ d, Lo (base h c l (stk h.heavy.length k)) d → Lo (f0 k) d) (p : Pass h (base h c l) ks f0 ks.length f false) :
    ∀ k ∈ ks, f k = SM.val h (c :: l) (stk h.heavy.length k) := by
  obtain ⟨e1, e2⟩ := p.still rfl
  have ef : f = f0 := funext e1
  subst ef
  refine val_on hh g p.true_ hb fun k hk => ?_
  obtain ⟨j, hj⟩ := List.mem_iff_getElem?.1 hk
  exact e2 j (List.getElem?_eq_some_iff.1 hj).1 k hj

/-! ## the first carrying with which it can still be done as lightly -/
def best1 (F : Sk → Option Nat) (k : Sk) (x : Sp3) : Bool := (F x.2.2).any fun z => F k == some (x.2.1 + z)
theorem find_fm {α β : Type} {g : α → Option β} {p : β → Bool} {q : α → Bool} : ∀ {L : List α} {a : α} {x : β}, (∀ b ∈ L, q b = (match g b with | none => false | some y => p y)) → L.find? q = some a → g a = some x → (L.filterMap g).find? p = some x
  | [], _, _, _, h, _ => nomatch h
  | b :: L, a, x, hq, h, ha => by
    rw [List.find?_cons] at h
    have hb := hq b (List.Mem.head _)
    rw [List.filterMap_cons]
    cases qb : q b with
    | true =>
      rw [qb] at h hb
      cases h
      rw [ha] at hb ⊢
      dsimp only at hb ⊢
      rw [List.find?_cons, ← hb]
    | false =>
      rw [qb] at h hb
      have ih := find_fm (p := p) (fun c hc => hq c (List.Mem.tail _ hc)) h ha
      cases gb : g b with
      | none => exact ih
      | some y =>
        rw [gb] at hb
        dsimp only at hb ⊢
        rw [List.find?_cons, ← hb]
        exact ih
theorem pick_find {h : House} {s0 : Sk} {ks : List Sk} (g : Good h s0 ks) {f : Stand → Option Nat} {F : Sk → Option Nat} (e : ∀ k ∈ ks, F k = f (stk h.heavy.length k)) {k : Sk} (hk : k ∈ ks) {v : Move} {y : Stand × Nat} (pv : pick h f (stk h.heavy.length k) = some v) (dy : h.does (stk h.heavy.length k) v = some y) :
    (stepsOf h k).find? (best1 F k) = some (v, h.weight y.2, skOf y.1) := by
  refine find_fm (q := fun v => match h.does (stk h.heavy.length k) v with
    | none => false
    | some y => (f y.1).any fun z => f (stk h.heavy.length k) == some (h.weight y.2 + z)) (fun v hv => ?_) pv (toSp_some.2 ⟨y, dy, rfl⟩)
  cases q : h.does (stk h.heavy.length k) v with
  | none =>
    have e0 : toSp h (stk h.heavy.length k) v = none := by unfold toSp; rw [q]; rfl
    rw [e0]
  | some y =>
    have e0 : toSp h (stk h.heavy.length k) v = some (v, h.weight y.2, skOf y.1) := toSp_some.2 ⟨y, q, rfl⟩
    have m : (v, h.weight y.2, skOf y.1) ∈ stepsOf h k := mem_stepsOf.2 ⟨v, hv, y, q, rfl⟩
    rw [e0]
    dsimp only
    unfold best1
    dsimp only
    rw [e k hk, e _ (g.closed k hk _ m), (stk_fine_next (g.fine k hk) q).2]

/-! ## how many there are -/
theorem len_le {α : Type} [DecidableEq α] : ∀ {l m : List α}, l.Nodup → (∀ x ∈ l, x ∈ m) → l.length ≤ m.length
  | [], _, _, _ => Nat.zero_le _
  | a :: l, m, hn, hs => by
    obtain ⟨h1, h2⟩ := List.nodup_cons.1 hn
    have ha : a ∈ m := hs a (List.Mem.head _)
    have ih := len_le (l := l) (m := m.erase a) h2 fun x hx => (List.mem_erase_of_ne (fun (e : x = a) => h1 (e ▸ hx))).2 (hs x (List.Mem.tail _ hx))
    rw [List.length_erase_of_mem ha] at ih
    have := List.length_pos_of_mem ha
    rw [List.length_cons]
    omega
theorem count_le : ∀ n, n < 5 → ∀ a, a < 4 → ∀ b, b < 4 → countOf n a b ≤ 500 := by decide +kernel
theorem stands_le {h : House} (h1 : h.heavy.length ≤ 4) (h2 : h.roomLeft ≤ 3) (h3 : h.roomRight ≤ 3) : h.stands.length ≤ 500 := by
  rw [stands_of, count_is _ (by omega) _ (by omega) _ (by omega)]
  exact count_le _ (by omega) _ (by omega) _ (by omega)
theorem keys_le {h : House} {ks : List Sk} (hn : ks.Nodup) (hf : ∀ k ∈ ks, Fine h (stk h.heavy.length k)) : ks.length ≤ h.stands.length := by
  have e : (ks.map (stk h.heavy.length)).length = ks.length := List.length_map ..
  rw [← e]
  refine len_le ?_ fun x hx => ?_
  · rw [List.nodup_iff_pairwise_ne] at hn ⊢
    rw [List.pairwise_map]
    exact hn.imp fun q z => q (stk_inj z)
  · obtain ⟨k, hk, rfl⟩ := List.mem_map.1 hx
    exact mem_stands.2 (hf k hk)
theorem on_len (n : Nat) (l r : List Nat) : (onOf n l r).length ≤ n := by
  unfold onOf
  have := List.length_filter_le (fun x => !l.contains x && !r.contains x) (List.range n)
  rw [List.length_range] at this
  exact this
theorem steps_len {h : House} (h1 : h.heavy.length ≤ 4) (k : Sk) : (stepsOf h k).length ≤ 10 := by
  unfold stepsOf
  refine Nat.le_trans (List.length_filterMap_le ..) ?_
  unfold House.moves
  simp
  omega
theorem nodup_len {n : Nat} {l : List Nat} (hn : l.Nodup) (hx : ∀ x ∈ l, x < n) : l.length ≤ n := by
  have := len_le (m := List.range n) hn fun x h => List.mem_range.2 (hx x h)
  rw [List.length_range] at this
  exact this
end SM

namespace SC
open PySem PySem.Spec PyProof.Rows L2
def top (i : Nat) : Stmt := PySem.Challenge.pw_sceneshift_s01_answers.main.body.getD i (.Pass ⟨0, 0, 0, 0⟩)
abbrev s_Step_init : Stmt := (inClass (top 5) 0)
theorem sc_Step_init : FnScope ["self", "carrying", "weight", "after"] ["self", "carrying", "weight", "after"] (defScope s_Step_init) := ⟨rfl, rfl, rfl, by decide +kernel, rfl, by decide +kernel, by decide +kernel⟩
abbrev s_pieces_on : Stmt := (top 6)
theorem sc_pieces_on : FnScope ["many", "standing", "piece"] ["many", "standing"] (defScope s_pieces_on) := ⟨rfl, rfl, rfl, by decide +kernel, rfl, by decide +kernel, by decide +kernel⟩
abbrev s_steps_from : Stmt := (top 7)
theorem sc_steps_from : FnScope ["heavy", "left_room", "right_room", "standing", "left", "right", "on", "steps", "piece"] ["heavy", "left_room", "right_room", "standing"] (defScope s_steps_from) := ⟨rfl, rfl, rfl, by decide +kernel, rfl, by decide +kernel, by decide +kernel⟩
abbrev s_step_by : Stmt := (top 8)
theorem sc_step_by : FnScope ["steps", "carrying", "step"] ["steps", "carrying"] (defScope s_step_by) := ⟨rfl, rfl, rfl, by decide +kernel, rfl, by decide +kernel, by decide +kernel⟩
abbrev s_steps_by_standing : Stmt := (top 10)
theorem sc_steps_by_standing : FnScope ["heavy", "left_room", "right_room", "start", "steps", "waiting", "standing", "step"] ["heavy", "left_room", "right_room", "start"] (defScope s_steps_by_standing) := ⟨rfl, rfl, rfl, by decide +kernel, rfl, by decide +kernel, by decide +kernel⟩
abbrev s_lowered : Stmt := (top 11)
theorem sc_lowered : FnScope ["best", "standing", "steps", "lightest", "step", "weight"] ["best", "standing", "steps"] (defScope s_lowered) := ⟨rfl, rfl, rfl, by decide +kernel, rfl, by decide +kernel, by decide +kernel⟩
abbrev s_weights_to : Stmt := (top 12)
theorem sc_weights_to : FnScope ["steps", "ends", "best", "standing", "changed", "weight"] ["steps", "ends"] (defScope s_weights_to) := ⟨rfl, rfl, rfl, by decide +kernel, rfl, by decide +kernel, by decide +kernel⟩
abbrev s_Plan_init : Stmt := (inClass (top 13) 0)
theorem sc_Plan_init : FnScope ["self", "heavy", "left_room", "right_room", "start", "scenes"] ["self", "heavy", "left_room", "right_room", "start", "scenes"] (defScope s_Plan_init) := ⟨rfl, rfl, rfl, by decide +kernel, rfl, by decide +kernel, by decide +kernel⟩
abbrev s_Plan_weights_by_scene : Stmt := (inClass (top 13) 1)
theorem sc_Plan_weights_by_scene : FnScope ["self", "later", "standing", "weights", "scene", "ends"] ["self"] (defScope s_Plan_weights_by_scene) := ⟨rfl, rfl, rfl, by decide +kernel, rfl, by decide +kernel, by decide +kernel⟩
abbrev s_Plan_least : Stmt := (inClass (top 13) 2)
theorem sc_Plan_least : FnScope ["self"] ["self"] (defScope s_Plan_least) := ⟨rfl, rfl, rfl, by decide +kernel, rfl, by decide +kernel, by decide +kernel⟩
abbrev s_Plan_is_over : Stmt := (inClass (top 13) 3)
theorem sc_Plan_is_over : FnScope ["self", "number", "standing"] ["self", "number", "standing"] (defScope s_Plan_is_over) := ⟨rfl, rfl, rfl, by decide +kernel, rfl, by decide +kernel, by decide +kernel⟩
abbrev s_Plan_first_step : Stmt := (inClass (top 13) 4)
theorem sc_Plan_first_step : FnScope ["self", "number", "standing", "best", "step"] ["self", "number", "standing"] (defScope s_Plan_first_step) := ⟨rfl, rfl, rfl, by decide +kernel, rfl, by decide +kernel, by decide +kernel⟩
abbrev s_Plan_rows : Stmt := (inClass (top 13) 5)
theorem sc_Plan_rows : FnScope ["self", "rows", "standing", "number", "row", "step"] ["self"] (defScope s_Plan_rows) := ⟨rfl, rfl, rfl, by decide +kernel, rfl, by decide +kernel, by decide +kernel⟩
abbrev s_sizes_fit : Stmt := (top 19)
theorem sc_sizes_fit : FnScope ["heavy", "left_room", "right_room", "weight"] ["heavy", "left_room", "right_room"] (defScope s_sizes_fit) := ⟨rfl, rfl, rfl, by decide +kernel, rfl, by decide +kernel, by decide +kernel⟩
abbrev s_wings_fit : Stmt := (top 20)
theorem sc_wings_fit : FnScope ["many", "left_room", "right_room", "left", "right", "told", "piece"] ["many", "left_room", "right_room", "left", "right"] (defScope s_wings_fit) := ⟨rfl, rfl, rfl, by decide +kernel, rfl, by decide +kernel, by decide +kernel⟩
abbrev s_pieces_rise : Stmt := (top 21)
theorem sc_pieces_rise : FnScope ["many", "pieces", "lowest", "piece"] ["many", "pieces"] (defScope s_pieces_rise) := ⟨rfl, rfl, rfl, by decide +kernel, rfl, by decide +kernel, by decide +kernel⟩
abbrev s_rows_of : Stmt := (top 22)
theorem sc_rows_of : FnScope ["many", "length", "count", "taken"] ["many", "length"] (defScope s_rows_of) := ⟨rfl, rfl, rfl, by decide +kernel, rfl, by decide +kernel, by decide +kernel⟩
abbrev s_ways_to_stand : Stmt := (top 23)
theorem sc_ways_to_stand : FnScope ["many", "left_room", "right_room", "total", "in_left", "in_right"] ["many", "left_room", "right_room"] (defScope s_ways_to_stand) := ⟨rfl, rfl, rfl, by decide +kernel, rfl, by decide +kernel, by decide +kernel⟩
abbrev s_House_init : Stmt := (inClass (top 24) 0)
theorem sc_House_init : FnScope ["self"] ["self"] (defScope s_House_init) := ⟨rfl, rfl, rfl, by decide +kernel, rfl, by decide +kernel, by decide +kernel⟩
abbrev s_House_begins : Stmt := (inClass (top 24) 1)
theorem sc_House_begins : FnScope ["self", "heavy", "left_room", "right_room", "left", "right", "many"] ["self", "heavy", "left_room", "right_room", "left", "right"] (defScope s_House_begins) := ⟨rfl, rfl, rfl, by decide +kernel, rfl, by decide +kernel, by decide +kernel⟩
abbrev s_House_scene : Stmt := (inClass (top 24) 2)
theorem sc_House_scene : FnScope ["self", "pieces"] ["self", "pieces"] (defScope s_House_scene) := ⟨rfl, rfl, rfl, by decide +kernel, rfl, by decide +kernel, by decide +kernel⟩
abbrev s_House_drop : Stmt := (inClass (top 24) 3)
theorem sc_House_drop : FnScope ["self"] ["self"] (defScope s_House_drop) := ⟨rfl, rfl, rfl, by decide +kernel, rfl, by decide +kernel, by decide +kernel⟩
abbrev s_House_standing : Stmt := (inClass (top 24) 4)
theorem sc_House_standing : FnScope ["self"] ["self"] (defScope s_House_standing) := ⟨rfl, rfl, rfl, by decide +kernel, rfl, by decide +kernel, by decide +kernel⟩
abbrev s_House_plan : Stmt := (inClass (top 24) 5)
theorem sc_House_plan : FnScope ["self"] ["self"] (defScope s_House_plan) := ⟨rfl, rfl, rfl, by decide +kernel, rfl, by decide +kernel, by decide +kernel⟩
abbrev s_House_least : Stmt := (inClass (top 24) 6)
theorem sc_House_least : FnScope ["self", "weight"] ["self"] (defScope s_House_least) := ⟨rfl, rfl, rfl, by decide +kernel, rfl, by decide +kernel, by decide +kernel⟩
abbrev s_House_ways : Stmt := (inClass (top 24) 7)
theorem sc_House_ways : FnScope ["self", "plan", "weight"] ["self"] (defScope s_House_ways) := ⟨rfl, rfl, rfl, by decide +kernel, rfl, by decide +kernel, by decide +kernel⟩
abbrev s_House_check : Stmt := (inClass (top 24) 8)
theorem sc_House_check : FnScope ["self", "carryings", "weight", "standing", "number", "carrying", "step", "on"] ["self", "carryings"] (defScope s_House_check) := ⟨rfl, rfl, rfl, by decide +kernel, rfl, by decide +kernel, by decide +kernel⟩
abbrev s_Reader_init : Stmt := (inClass (top 33) 0)
theorem sc_Reader_init : FnScope ["self", "numbers"] ["self", "numbers"] (defScope s_Reader_init) := ⟨rfl, rfl, rfl, by decide +kernel, rfl, by decide +kernel, by decide +kernel⟩
abbrev s_Reader_has_more : Stmt := (inClass (top 33) 1)
theorem sc_Reader_has_more : FnScope ["self"] ["self"] (defScope s_Reader_has_more) := ⟨rfl, rfl, rfl, by decide +kernel, rfl, by decide +kernel, by decide +kernel⟩
abbrev s_Reader_take_number : Stmt := (inClass (top 33) 2)
theorem sc_Reader_take_number : FnScope ["self", "number"] ["self"] (defScope s_Reader_take_number) := ⟨rfl, rfl, rfl, by decide +kernel, rfl, by decide +kernel, by decide +kernel⟩
abbrev s_Reader_take_row : Stmt := (inClass (top 33) 3)
theorem sc_Reader_take_row : FnScope ["self", "many", "start"] ["self"] (defScope s_Reader_take_row) := ⟨rfl, rfl, rfl, by decide +kernel, rfl, by decide +kernel, by decide +kernel⟩
abbrev s_answer_begins : Stmt := (top 34)
theorem sc_answer_begins : FnScope ["house", "reader", "left_room", "right_room", "heavy", "left", "right"] ["house", "reader"] (defScope s_answer_begins) := ⟨rfl, rfl, rfl, by decide +kernel, rfl, by decide +kernel, by decide +kernel⟩
abbrev s_take_carrying : Stmt := (top 35)
theorem sc_take_carrying : FnScope ["reader", "kind"] ["reader"] (defScope s_take_carrying) := ⟨rfl, rfl, rfl, by decide +kernel, rfl, by decide +kernel, by decide +kernel⟩
abbrev s_answer_check : Stmt := (top 36)
theorem sc_answer_check : FnScope ["house", "reader", "many", "row", "carryings"] ["house", "reader"] (defScope s_answer_check) := ⟨rfl, rfl, rfl, by decide +kernel, rfl, by decide +kernel, by decide +kernel⟩
abbrev s_with_rows : Stmt := (top 37)
theorem sc_with_rows : FnScope ["answer", "numbers", "row"] ["answer"] (defScope s_with_rows) := ⟨rfl, rfl, rfl, by decide +kernel, rfl, by decide +kernel, by decide +kernel⟩
abbrev s_answer_next : Stmt := (top 38)
theorem sc_answer_next : FnScope ["house", "reader", "call"] ["house", "reader"] (defScope s_answer_next) := ⟨rfl, rfl, rfl, by decide +kernel, rfl, by decide +kernel, by decide +kernel⟩
abbrev s_answers : Stmt := (top 39)
theorem sc_answers : FnScope ["calls", "reader", "house", "given", "answer"] ["calls"] (defScope s_answers) := ⟨rfl, rfl, rfl, by decide +kernel, rfl, by decide +kernel, by decide +kernel⟩
structure DefT (K : PySem.W.Frag) (mg : Str → Option Value) (x qual : Str) (st : Stmt) (ps : List Str) (f : Addr) (fd : FuncData) : Prop where
  F : Fun K x qual st f fd
  b : L2.Binds K fd ps []
  g : mg x = some (.ref f)
structure DefM (K : PySem.W.Frag) (x qual : Str) (st : Stmt) (ps : List Str) (f : Addr) (fd : FuncData) : Prop where
  F : Fun K x qual st f fd
  b : L2.Binds K fd ps []
/-- what the top has written -/
structure Tx (K : PySem.W.Frag) (mg : Str → Option Value) where
  C_Step : Addr
  C_Plan : Addr
  C_House : Addr
  C_Reader : Addr
  f_Step_init : Addr
  d_Step_init : FuncData
  h_Step_init : DefM K "__init__" "Step.__init__" s_Step_init ["self", "carrying", "weight", "after"] f_Step_init d_Step_init
  f_pieces_on : Addr
  d_pieces_on : FuncData
  h_pieces_on : DefT K mg "pieces_on" "pieces_on" s_pieces_on ["many", "standing"] f_pieces_on d_pieces_on
  f_steps_from : Addr
  d_steps_from : FuncData
  h_steps_from : DefT K mg "steps_from" "steps_from" s_steps_from ["heavy", "left_room", "right_room", "standing"] f_steps_from d_steps_from
  f_step_by : Addr
  d_step_by : FuncData
  h_step_by : DefT K mg "step_by" "step_by" s_step_by ["steps", "carrying"] f_step_by d_step_by
  f_steps_by_standing : Addr
  d_steps_by_standing : FuncData
  h_steps_by_standing : DefT K mg "steps_by_standing" "steps_by_standing" s_steps_by_standing ["heavy", "left_room", "right_room", "start"] f_steps_by_standing d_steps_by_standing
  f_lowered : Addr
  d_lowered : FuncData
  h_lowered : DefT K mg "lowered" "lowered" s_lowered ["best", "standing", "steps"] f_lowered d_lowered
  f_weights_to : Addr
  d_weights_to : FuncData
  h_weights_to : DefT K mg "weights_to" "weights_to" s_weights_to ["steps", "ends"] f_weights_to d_weights_to
  f_Plan_init : Addr
  d_Plan_init : FuncData
  h_Plan_init : DefM K "__init__" "Plan.__init__" s_Plan_init ["self", "heavy", "left_room", "right_room", "start", "scenes"] f_Plan_init d_Plan_init
  f_Plan_weights_by_scene : Addr
  d_Plan_weights_by_scene : FuncData
  h_Plan_weights_by_scene : DefM K "weights_by_scene" "Plan.weights_by_scene" s_Plan_weights_by_scene ["self"] f_Plan_weights_by_scene d_Plan_weights_by_scene
  m_Plan_weights_by_scene : Meth K C_Plan "weights_by_scene" f_Plan_weights_by_scene
  f_Plan_least : Addr
  d_Plan_least : FuncData
  h_Plan_least : DefM K "least" "Plan.least" s_Plan_least ["self"] f_Plan_least d_Plan_least
  m_Plan_least : Meth K C_Plan "least" f_Plan_least
  f_Plan_is_over : Addr
  d_Plan_is_over : FuncData
  h_Plan_is_over : DefM K "is_over" "Plan.is_over" s_Plan_is_over ["self", "number", "standing"] f_Plan_is_over d_Plan_is_over
  m_Plan_is_over : Meth K C_Plan "is_over" f_Plan_is_over
  f_Plan_first_step : Addr
  d_Plan_first_step : FuncData
  h_Plan_first_step : DefM K "first_step" "Plan.first_step" s_Plan_first_step ["self", "number", "standing"] f_Plan_first_step d_Plan_first_step
  m_Plan_first_step : Meth K C_Plan "first_step" f_Plan_first_step
  f_Plan_rows : Addr
  d_Plan_rows : FuncData
  h_Plan_rows : DefM K "rows" "Plan.rows" s_Plan_rows ["self"] f_Plan_rows d_Plan_rows
  m_Plan_rows : Meth K C_Plan "rows" f_Plan_rows
  f_sizes_fit : Addr
  d_sizes_fit : FuncData
  h_sizes_fit : DefT K mg "sizes_fit" "sizes_fit" s_sizes_fit ["heavy", "left_room", "right_room"] f_sizes_fit d_sizes_fit
  f_wings_fit : Addr
  d_wings_fit : FuncData
  h_wings_fit : DefT K mg "wings_fit" "wings_fit" s_wings_fit ["many", "left_room", "right_room", "left", "right"] f_wings_fit d_wings_fit
  f_pieces_rise : Addr
  d_pieces_rise : FuncData
  h_pieces_rise : DefT K mg "pieces_rise" "pieces_rise" s_pieces_rise ["many", "pieces"] f_pieces_rise d_pieces_rise
  f_rows_of : Addr
  d_rows_of : FuncData
  h_rows_of : DefT K mg "rows_of" "rows_of" s_rows_of ["many", "length"] f_rows_of d_rows_of
  f_ways_to_stand : Addr
  d_ways_to_stand : FuncData
  h_ways_to_stand : DefT K mg "ways_to_stand" "ways_to_stand" s_ways_to_stand ["many", "left_room", "right_room"] f_ways_to_stand d_ways_to_stand
  f_House_init : Addr
  d_House_init : FuncData
  h_House_init : DefM K "__init__" "House.__init__" s_House_init ["self"] f_House_init d_House_init
  f_House_begins : Addr
  d_House_begins : FuncData
  h_House_begins : DefM K "begins" "House.begins" s_House_begins ["self", "heavy", "left_room", "right_room", "left", "right"] f_House_begins d_House_begins
  m_House_begins : Meth K C_House "begins" f_House_begins
  f_House_scene : Addr
  d_House_scene : FuncData
  h_House_scene : DefM K "scene" "House.scene" s_House_scene ["self", "pieces"] f_House_scene d_House_scene
  m_House_scene : Meth K C_House "scene" f_House_scene
  f_House_drop : Addr
  d_House_drop : FuncData
  h_House_drop : DefM K "drop" "House.drop" s_House_drop ["self"] f_House_drop d_House_drop
  m_House_drop : Meth K C_House "drop" f_House_drop
  f_House_standing : Addr
  d_House_standing : FuncData
  h_House_standing : DefM K "standing" "House.standing" s_House_standing ["self"] f_House_standing d_House_standing
  m_House_standing : Meth K C_House "standing" f_House_standing
  f_House_plan : Addr
  d_House_plan : FuncData
  h_House_plan : DefM K "plan" "House.plan" s_House_plan ["self"] f_House_plan d_House_plan
  m_House_plan : Meth K C_House "plan" f_House_plan
  f_House_least : Addr
  d_House_least : FuncData
  h_House_least : DefM K "least" "House.least" s_House_least ["self"] f_House_least d_House_least
  m_House_least : Meth K C_House "least" f_House_least
  f_House_ways : Addr
  d_House_ways : FuncData
  h_House_ways : DefM K "ways" "House.ways" s_House_ways ["self"] f_House_ways d_House_ways
  m_House_ways : Meth K C_House "ways" f_House_ways
  f_House_check : Addr
  d_House_check : FuncData
  h_House_check : DefM K "check" "House.check" s_House_check ["self", "carryings"] f_House_check d_House_check
  m_House_check : Meth K C_House "check" f_House_check
  f_Reader_init : Addr
  d_Reader_init : FuncData
  h_Reader_init : DefM K "__init__" "Reader.__init__" s_Reader_init ["self", "numbers"] f_Reader_init d_Reader_init
  f_Reader_has_more : Addr
  d_Reader_has_more : FuncData
  h_Reader_has_more : DefM K "has_more" "Reader.has_more" s_Reader_has_more ["self"] f_Reader_has_more d_Reader_has_more
  m_Reader_has_more : Meth K C_Reader "has_more" f_Reader_has_more
  f_Reader_take_number : Addr
  d_Reader_take_number : FuncData
  h_Reader_take_number : DefM K "take_number" "Reader.take_number" s_Reader_take_number ["self"] f_Reader_take_number d_Reader_take_number
  m_Reader_take_number : Meth K C_Reader "take_number" f_Reader_take_number
  f_Reader_take_row : Addr
  d_Reader_take_row : FuncData
  h_Reader_take_row : DefM K "take_row" "Reader.take_row" s_Reader_take_row ["self"] f_Reader_take_row d_Reader_take_row
  m_Reader_take_row : Meth K C_Reader "take_row" f_Reader_take_row
  f_answer_begins : Addr
  d_answer_begins : FuncData
  h_answer_begins : DefT K mg "answer_begins" "answer_begins" s_answer_begins ["house", "reader"] f_answer_begins d_answer_begins
  f_take_carrying : Addr
  d_take_carrying : FuncData
  h_take_carrying : DefT K mg "take_carrying" "take_carrying" s_take_carrying ["reader"] f_take_carrying d_take_carrying
  f_answer_check : Addr
  d_answer_check : FuncData
  h_answer_check : DefT K mg "answer_check" "answer_check" s_answer_check ["house", "reader"] f_answer_check d_answer_check
  f_with_rows : Addr
  d_with_rows : FuncData
  h_with_rows : DefT K mg "with_rows" "with_rows" s_with_rows ["answer"] f_with_rows d_with_rows
  f_answer_next : Addr
  d_answer_next : FuncData
  h_answer_next : DefT K mg "answer_next" "answer_next" s_answer_next ["house", "reader"] f_answer_next d_answer_next
  f_answers : Addr
  d_answers : FuncData
  h_answers : DefT K mg "answers" "answers" s_answers ["calls"] f_answers d_answers
  cl_Step : Cls K C_Step
  gC_Step : mg "Step" = some (.ref C_Step)
  mk_Step : Mk K C_Step f_Step_init
  n_Step_carrying : NoAttr K C_Step "carrying"
  n_Step_weight : NoAttr K C_Step "weight"
  n_Step_after : NoAttr K C_Step "after"
  cl_Plan : Cls K C_Plan
  gC_Plan : mg "Plan" = some (.ref C_Plan)
  mk_Plan : Mk K C_Plan f_Plan_init
  n_Plan_many : NoAttr K C_Plan "many"
  n_Plan_start : NoAttr K C_Plan "start"
  n_Plan_scenes : NoAttr K C_Plan "scenes"
  n_Plan_steps : NoAttr K C_Plan "steps"
  n_Plan_weights : NoAttr K C_Plan "weights"
  cl_House : Cls K C_House
  gC_House : mg "House" = some (.ref C_House)
  mk_House : Mk K C_House f_House_init
  n_House_heavy : NoAttr K C_House "heavy"
  n_House_left_room : NoAttr K C_House "left_room"
  n_House_right_room : NoAttr K C_House "right_room"
  n_House_left : NoAttr K C_House "left"
  n_House_right : NoAttr K C_House "right"
  n_House_scenes : NoAttr K C_House "scenes"
  cl_Reader : Cls K C_Reader
  gC_Reader : mg "Reader" = some (.ref C_Reader)
  mk_Reader : Mk K C_Reader f_Reader_init
  n_Reader_numbers : NoAttr K C_Reader "numbers"
  n_Reader_place : NoAttr K C_Reader "place"
  t_OFF_LEFT : Tok
  g_OFF_LEFT : mg "OFF_LEFT" = some (.int 0 t_OFF_LEFT)
  t_OFF_RIGHT : Tok
  g_OFF_RIGHT : mg "OFF_RIGHT" = some (.int 1 t_OFF_RIGHT)
  t_ON_LEFT : Tok
  g_ON_LEFT : mg "ON_LEFT" = some (.int 2 t_ON_LEFT)
  t_ON_RIGHT : Tok
  g_ON_RIGHT : mg "ON_RIGHT" = some (.int 3 t_ON_RIGHT)
  t_MOST_PIECES : Tok
  g_MOST_PIECES : mg "MOST_PIECES" = some (.int 4 t_MOST_PIECES)
  t_MOST_HEAVY : Tok
  g_MOST_HEAVY : mg "MOST_HEAVY" = some (.int 1000 t_MOST_HEAVY)
  t_MOST_ROOM : Tok
  g_MOST_ROOM : mg "MOST_ROOM" = some (.int 3 t_MOST_ROOM)
  t_MOST_SCENES : Tok
  g_MOST_SCENES : mg "MOST_SCENES" = some (.int 4 t_MOST_SCENES)
  t_BEGINS : Tok
  g_BEGINS : mg "BEGINS" = some (.int 0 t_BEGINS)
  t_SCENE : Tok
  g_SCENE : mg "SCENE" = some (.int 1 t_SCENE)
  t_DROP : Tok
  g_DROP : mg "DROP" = some (.int 2 t_DROP)
  t_LEAST : Tok
  g_LEAST : mg "LEAST" = some (.int 3 t_LEAST)
  t_WAYS : Tok
  g_WAYS : mg "WAYS" = some (.int 4 t_WAYS)
  t_CHECK : Tok
  g_CHECK : mg "CHECK" = some (.int 5 t_CHECK)
  b_enumerate : mg "enumerate" = none
  b_len : mg "len" = none
  b_list : mg "list" = none
  b_min : mg "min" = none
  b_range : mg "range" = none
  b_reversed : mg "reversed" = none
  b_tuple : mg "tuple" = none
theorem tx_mk {K : PySem.W.Frag} {h : Heap} {mg : Str → Option Value} {C_Step C_Plan C_House C_Reader f_Step_init f_pieces_on f_steps_from f_step_by f_steps_by_standing f_lowered f_weights_to f_Plan_init f_Plan_weights_by_scene f_Plan_least f_Plan_is_over f_Plan_first_step f_Plan_rows f_sizes_fit f_wings_fit f_pieces_rise f_rows_of f_ways_to_stand f_House_init f_House_begins f_House_scene f_House_drop f_House_standing f_House_plan f_House_least f_House_ways f_House_check f_Reader_init f_Reader_has_more f_Reader_take_number f_Reader_take_row f_answer_begins f_take_carrying f_answer_check f_with_rows f_answer_next f_answers : Addr}
    {od0 an0 od1 an1 od2 an2 od3 an3 od4 an4 od5 an5 od6 an6 od7 an7 od8 an8 od9 an9 od10 an10 od11 an11 od12 an12 od13 an13 od14 an14 od15 an15 od16 an16 od17 an17 od18 an18 od19 an19 od20 an20 od21 an21 od22 an22 od23 an23 od24 an24 od25 an25 od26 an26 od27 an27 od28 an28 od29 an29 od30 an30 od31 an31 od32 an32 od33 an33 od34 an34 od35 an35 od36 an36 : Option Addr} {sl0 sl1 sl2 sl3 sl4 sl5 sl6 sl7 sl8 sl9 sl10 sl11 sl12 sl13 sl14 sl15 sl16 sl17 sl18 sl19 sl20 sl21 sl22 sl23 sl24 sl25 sl26 sl27 sl28 sl29 sl30 sl31 sl32 sl33 sl34 sl35 sl36 : Array (Option Value)} {oc0 kV0 dc0 pm0 cd0 ct0 oc1 kV1 dc1 pm1 cd1 ct1 oc2 kV2 dc2 pm2 cd2 ct2 oc3 kV3 dc3 pm3 cd3 ct3 oc4 kV4 dc4 pm4 cd4 ct4 oc5 kV5 dc5 pm5 cd5 ct5 oc6 kV6 dc6 pm6 cd6 ct6 oc7 kV7 dc7 pm7 cd7 ct7 oc8 kV8 dc8 pm8 cd8 ct8 oc9 kV9 dc9 pm9 cd9 ct9 oc10 kV10 dc10 pm10 cd10 ct10 oc11 kV11 dc11 pm11 cd11 ct11 oc12 kV12 dc12 pm12 cd12 ct12 oc13 kV13 dc13 pm13 cd13 ct13 oc14 kV14 dc14 pm14 cd14 ct14 oc15 kV15 dc15 pm15 cd15 ct15 oc16 kV16 dc16 pm16 cd16 ct16 oc17 kV17 dc17 pm17 cd17 ct17 oc18 kV18 dc18 pm18 cd18 ct18 oc19 kV19 dc19 pm19 cd19 ct19 oc20 kV20 dc20 pm20 cd20 ct20 oc21 kV21 dc21 pm21 cd21 ct21 oc22 kV22 dc22 pm22 cd22 ct22 oc23 kV23 dc23 pm23 cd23 ct23 oc24 kV24 dc24 pm24 cd24 ct24 oc25 kV25 dc25 pm25 cd25 ct25 oc26 kV26 dc26 pm26 cd26 ct26 oc27 kV27 dc27 pm27 cd27 ct27 oc28 kV28 dc28 pm28 cd28 ct28 oc29 kV29 dc29 pm29 cd29 ct29 oc30 kV30 dc30 pm30 cd30 ct30 oc31 kV31 dc31 pm31 cd31 ct31 oc32 kV32 dc32 pm32 cd32 ct32 oc33 kV33 dc33 pm33 cd33 ct33 oc34 kV34 dc34 pm34 cd34 ct34 oc35 kV35 dc35 pm35 cd35 ct35 oc36 kV36 dc36 pm36 cd36 ct36 : Value} {t_OFF_LEFT t_OFF_RIGHT t_ON_LEFT t_ON_RIGHT t_MOST_PIECES t_MOST_HEAVY t_MOST_ROOM t_MOST_SCENES t_BEGINS t_SCENE t_DROP t_LEAST t_WAYS t_CHECK : Tok}
    (X : K.In h) (G : h.Ns mainGlobals mg)
    (aC_Step : PySem.W.nsIn K mainGlobals "Step" = some (some (.ref C_Step)))
    (aC_Plan : PySem.W.nsIn K mainGlobals "Plan" = some (some (.ref C_Plan)))
    (aC_House : PySem.W.nsIn K mainGlobals "House" = some (some (.ref C_House)))
    (aC_Reader : PySem.W.nsIn K mainGlobals "Reader" = some (some (.ref C_Reader)))
    (a0 : PySem.W.findIn K (.ref C_Step) "__init__" = some (some (.ref f_Step_init)))
    (i0 : PySem.W.isFn K (.ref f_Step_init) = true)
    (l0 : K.lookup f_Step_init = some ⟨oc0, od0, .func (PySem.W.fnOf "__init__" "Step.__init__" (defArgs s_Step_init) (defBody s_Step_init) (defScope s_Step_init) .none kV0 dc0 pm0 an0 cd0 ct0), sl0⟩)
    (c0 : PySem.W.codeIn K cd0 "Step.__init__" = true)
    (k0 : PySem.W.keepIn K (.ref f_Step_init) = true)
    (a1 : PySem.W.nsIn K mainGlobals "pieces_on" = some (some (.ref f_pieces_on)))
    (l1 : K.lookup f_pieces_on = some ⟨oc1, od1, .func (PySem.W.fnOf "pieces_on" "pieces_on" (defArgs s_pieces_on) (defBody s_pieces_on) (defScope s_pieces_on) .none kV1 dc1 pm1 an1 cd1 ct1), sl1⟩)
    (c1 : PySem.W.codeIn K cd1 "pieces_on" = true)
    (k1 : PySem.W.keepIn K (.ref f_pieces_on) = true)
    (a2 : PySem.W.nsIn K mainGlobals "steps_from" = some (some (.ref f_steps_from)))
    (l2 : K.lookup f_steps_from = some ⟨oc2, od2, .func (PySem.W.fnOf "steps_from" "steps_from" (defArgs s_steps_from) (defBody s_steps_from) (defScope s_steps_from) .none kV2 dc2 pm2 an2 cd2 ct2), sl2⟩)
    (c2 : PySem.W.codeIn K cd2 "steps_from" = true)
    (k2 : PySem.W.keepIn K (.ref f_steps_from) = true)
    (a3 : PySem.W.nsIn K mainGlobals "step_by" = some (some (.ref f_step_by)))
    (l3 : K.lookup f_step_by = some ⟨oc3, od3, .func (PySem.W.fnOf "step_by" "step_by" (defArgs s_step_by) (defBody s_step_by) (defScope s_step_by) .none kV3 dc3 pm3 an3 cd3 ct3), sl3⟩)
    (c3 : PySem.W.codeIn K cd3 "step_by" = true)
    (k3 : PySem.W.keepIn K (.ref f_step_by) = true)
    (a4 : PySem.W.nsIn K mainGlobals "steps_by_standing" = some (some (.ref f_steps_by_standing)))
    (l4 : K.lookup f_steps_by_standing = some ⟨oc4, od4, .func (PySem.W.fnOf "steps_by_standing" "steps_by_standing" (defArgs s_steps_by_standing) (defBody s_steps_by_standing) (defScope s_steps_by_standing) .none kV4 dc4 pm4 an4 cd4 ct4), sl4⟩)
    (c4 : PySem.W.codeIn K cd4 "steps_by_standing" = true)
    (k4 : PySem.W.keepIn K (.ref f_steps_by_standing) = true)
    (a5 : PySem.W.nsIn K mainGlobals "lowered" = some (some (.ref f_lowered)))
    (l5 : K.lookup f_lowered = some ⟨oc5, od5, .func (PySem.W.fnOf "lowered" "lowered" (defArgs s_lowered) (defBody s_lowered) (defScope s_lowered) .none kV5 dc5 pm5 an5 cd5 ct5), sl5⟩)
    (c5 : PySem.W.codeIn K cd5 "lowered" = true)
    (k5 : PySem.W.keepIn K (.ref f_lowered) = true)
    (a6 : PySem.W.nsIn K mainGlobals "weights_to" = some (some (.ref f_weights_to)))
    (l6 : K.lookup f_weights_to = some ⟨oc6, od6, .func (PySem.W.fnOf "weights_to" "weights_to" (defArgs s_weights_to) (defBody s_weights_to) (defScope s_weights_to) .none kV6 dc6 pm6 an6 cd6 ct6), sl6⟩)
    (c6 : PySem.W.codeIn K cd6 "weights_to" = true)
    (k6 : PySem.W.keepIn K (.ref f_weights_to) = true)
    (a7 : PySem.W.findIn K (.ref C_Plan) "__init__" = some (some (.ref f_Plan_init)))
    (i7 : PySem.W.isFn K (.ref f_Plan_init) = true)
    (l7 : K.lookup f_Plan_init = some ⟨oc7, od7, .func (PySem.W.fnOf "__init__" "Plan.__init__" (defArgs s_Plan_init) (defBody s_Plan_init) (defScope s_Plan_init) .none kV7 dc7 pm7 an7 cd7 ct7), sl7⟩)
    (c7 : PySem.W.codeIn K cd7 "Plan.__init__" = true)
    (k7 : PySem.W.keepIn K (.ref f_Plan_init) = true)
    (a8 : PySem.W.findIn K (.ref C_Plan) "weights_by_scene" = some (some (.ref f_Plan_weights_by_scene)))
    (i8 : PySem.W.isFn K (.ref f_Plan_weights_by_scene) = true)
    (l8 : K.lookup f_Plan_weights_by_scene = some ⟨oc8, od8, .func (PySem.W.fnOf "weights_by_scene" "Plan.weights_by_scene" (defArgs s_Plan_weights_by_scene) (defBody s_Plan_weights_by_scene) (defScope s_Plan_weights_by_scene) .none kV8 dc8 pm8 an8 cd8 ct8), sl8⟩)
    (c8 : PySem.W.codeIn K cd8 "Plan.weights_by_scene" = true)
    (k8 : PySem.W.keepIn K (.ref f_Plan_weights_by_scene) = true)
    (a9 : PySem.W.findIn K (.ref C_Plan) "least" = some (some (.ref f_Plan_least)))
    (i9 : PySem.W.isFn K (.ref f_Plan_least) = true)
    (l9 : K.lookup f_Plan_least = some ⟨oc9, od9, .func (PySem.W.fnOf "least" "Plan.least" (defArgs s_Plan_least) (defBody s_Plan_least) (defScope s_Plan_least) .none kV9 dc9 pm9 an9 cd9 ct9), sl9⟩)
    (c9 : PySem.W.codeIn K cd9 "Plan.least" = true)
    (k9 : PySem.W.keepIn K (.ref f_Plan_least) = true)
    (a10 : PySem.W.findIn K (.ref C_Plan) "is_over" = some (some (.ref f_Plan_is_over)))
    (i10 : PySem.W.isFn K (.ref f_Plan_is_over) = true)
    (l10 : K.lookup f_Plan_is_over = some ⟨oc10, od10, .func (PySem.W.fnOf "is_over" "Plan.is_over" (defArgs s_Plan_is_over) (defBody s_Plan_is_over) (defScope s_Plan_is_over) .none kV10 dc10 pm10 an10 cd10 ct10), sl10⟩)
    (c10 : PySem.W.codeIn K cd10 "Plan.is_over" = true)
    (k10 : PySem.W.keepIn K (.ref f_Plan_is_over) = true)
    (a11 : PySem.W.findIn K (.ref C_Plan) "first_step" = some (some (.ref f_Plan_first_step)))
    (i11 : PySem.W.isFn K (.ref f_Plan_first_step) = true)
    (l11 : K.lookup f_Plan_first_step = some ⟨oc11, od11, .func (PySem.W.fnOf "first_step" "Plan.first_step" (defArgs s_Plan_first_step) (defBody s_Plan_first_step) (defScope s_Plan_first_step) .none kV11 dc11 pm11 an11 cd11 ct11), sl11⟩)
    (c11 : PySem.W.codeIn K cd11 "Plan.first_step" = true)
    (k11 : PySem.W.keepIn K (.ref f_Plan_first_step) = true)
    (a12 : PySem.W.findIn K (.ref C_Plan) "rows" = some (some (.ref f_Plan_rows)))
    (i12 : PySem.W.isFn K (.ref f_Plan_rows) = true)
    (l12 : K.lookup f_Plan_rows = some ⟨oc12, od12, .func (PySem.W.fnOf "rows" "Plan.rows" (defArgs s_Plan_rows) (defBody s_Plan_rows) (defScope s_Plan_rows) .none kV12 dc12 pm12 an12 cd12 ct12), sl12⟩)
    (c12 : PySem.W.codeIn K cd12 "Plan.rows" = true)
    (k12 : PySem.W.keepIn K (.ref f_Plan_rows) = true)
    (a13 : PySem.W.nsIn K mainGlobals "sizes_fit" = some (some (.ref f_sizes_fit)))
    (l13 : K.lookup f_sizes_fit = some ⟨oc13, od13, .func (PySem.W.fnOf "sizes_fit" "sizes_fit" (defArgs s_sizes_fit) (defBody s_sizes_fit) (defScope s_sizes_fit) .none kV13 dc13 pm13 an13 cd13 ct13), sl13⟩)
    (c13 : PySem.W.codeIn K cd13 "sizes_fit" = true)
    (k13 : PySem.W.keepIn K (.ref f_sizes_fit) = true)
    (a14 : PySem.W.nsIn K mainGlobals "wings_fit" = some (some (.ref f_wings_fit)))
    (l14 : K.lookup f_wings_fit = some ⟨oc14, od14, .func (PySem.W.fnOf "wings_fit" "wings_fit" (defArgs s_wings_fit) (defBody s_wings_fit) (defScope s_wings_fit) .none kV14 dc14 pm14 an14 cd14 ct14), sl14⟩)
    (c14 : PySem.W.codeIn K cd14 "wings_fit" = true)
    (k14 : PySem.W.keepIn K (.ref f_wings_fit) = true)
    (a15 : PySem.W.nsIn K mainGlobals "pieces_rise" = some (some (.ref f_pieces_rise)))
    (l15 : K.lookup f_pieces_rise = some ⟨oc15, od15, .func (PySem.W.fnOf "pieces_rise" "pieces_rise" (defArgs s_pieces_rise) (defBody s_pieces_rise) (defScope s_pieces_rise) .none kV15 dc15 pm15 an15 cd15 ct15), sl15⟩)
    (c15 : PySem.W.codeIn K cd15 "pieces_rise" = true)
    (k15 : PySem.W.keepIn K (.ref f_pieces_rise) = true)
    (a16 : PySem.W.nsIn K mainGlobals "rows_of" = some (some (.ref f_rows_of)))
    (l16 : K.lookup f_rows_of = some ⟨oc16, od16, .func (PySem.W.fnOf "rows_of" "rows_of" (defArgs s_rows_of) (defBody s_rows_of) (defScope s_rows_of) .none kV16 dc16 pm16 an16 cd16 ct16), sl16⟩)
    (c16 : PySem.W.codeIn K cd16 "rows_of" = true)
    (k16 : PySem.W.keepIn K (.ref f_rows_of) = true)
    (a17 : PySem.W.nsIn K mainGlobals "ways_to_stand" = some (some (.ref f_ways_to_stand)))
    (l17 : K.lookup f_ways_to_stand = some ⟨oc17, od17, .func (PySem.W.fnOf "ways_to_stand" "ways_to_stand" (defArgs s_ways_to_stand) (defBody s_ways_to_stand) (defScope s_ways_to_stand) .none kV17 dc17 pm17 an17 cd17 ct17), sl17⟩)
    (c17 : PySem.W.codeIn K cd17 "ways_to_stand" = true)
    (k17 : PySem.W.keepIn K (.ref f_ways_to_stand) = true)
    (a18 : PySem.W.findIn K (.ref C_House) "__init__" = some (some (.ref f_House_init)))
    (i18 : PySem.W.isFn K (.ref f_House_init) = true)
    (l18 : K.lookup f_House_init = some ⟨oc18, od18, .func (PySem.W.fnOf "__init__" "House.__init__" (defArgs s_House_init) (defBody s_House_init) (defScope s_House_init) .none kV18 dc18 pm18 an18 cd18 ct18), sl18⟩)
    (c18 : PySem.W.codeIn K cd18 "House.__init__" = true)
    (k18 : PySem.W.keepIn K (.ref f_House_init) = true)
    (a19 : PySem.W.findIn K (.ref C_House) "begins" = some (some (.ref f_House_begins)))
    (i19 : PySem.W.isFn K (.ref f_House_begins) = true)
    (l19 : K.lookup f_House_begins = some ⟨oc19, od19, .func (PySem.W.fnOf "begins" "House.begins" (defArgs s_House_begins) (defBody s_House_begins) (defScope s_House_begins) .none kV19 dc19 pm19 an19 cd19 ct19), sl19⟩)
    (c19 : PySem.W.codeIn K cd19 "House.begins" = true)
    (k19 : PySem.W.keepIn K (.ref f_House_begins) = true)
    (a20 : PySem.W.findIn K (.ref C_House) "scene" = some (some (.ref f_House_scene)))
    (i20 : PySem.W.isFn K (.ref f_House_scene) = true)
    (l20 : K.lookup f_House_scene = some ⟨oc20, od20, .func (PySem.W.fnOf "scene" "House.scene" (defArgs s_House_scene) (defBody s_House_scene) (defScope s_House_scene) .none kV20 dc20 pm20 an20 cd20 ct20), sl20⟩)
    (c20 : PySem.W.codeIn K cd20 "House.scene" = true)
    (k20 : PySem.W.keepIn K (.ref f_House_scene) = true)
    (a21 : PySem.W.findIn K (.ref C_House) "drop" = some (some (.ref f_House_drop)))
    (i21 : PySem.W.isFn K (.ref f_House_drop) = true)
    (l21 : K.lookup f_House_drop = some ⟨oc21, od21, .func (PySem.W.fnOf "drop" "House.drop" (defArgs s_House_drop) (defBody s_House_drop) (defScope s_House_drop) .none kV21 dc21 pm21 an21 cd21 ct21), sl21⟩)
    (c21 : PySem.W.codeIn K cd21 "House.drop" = true)
    (k21 : PySem.W.keepIn K (.ref f_House_drop) = true)
    (a22 : PySem.W.findIn K (.ref C_House) "standing" = some (some (.ref f_House_standing)))
    (i22 : PySem.W.isFn K (.ref f_House_standing) = true)
    (l22 : K.lookup f_House_standing = some ⟨oc22, od22, .func (PySem.W.fnOf "standing" "House.standing" (defArgs s_House_standing) (defBody s_House_standing) (defScope s_House_standing) .none kV22 dc22 pm22 an22 cd22 ct22), sl22⟩)
    (c22 : PySem.W.codeIn K cd22 "House.standing" = true)
    (k22 : PySem.W.keepIn K (.ref f_House_standing) = true)
    (a23 : PySem.W.findIn K (.ref C_House) "plan" = some (some (.ref f_House_plan)))
    (i23 : PySem.W.isFn K (.ref f_House_plan) = true)
    (l23 : K.lookup f_House_plan = some ⟨oc23, od23, .func (PySem.W.fnOf "plan" "House.plan" (defArgs s_House_plan) (defBody s_House_plan) (defScope s_House_plan) .none kV23 dc23 pm23 an23 cd23 ct23), sl23⟩)
    (c23 : PySem.W.codeIn K cd23 "House.plan" = true)
    (k23 : PySem.W.keepIn K (.ref f_House_plan) = true)
    (a24 : PySem.W.findIn K (.ref C_House) "least" = some (some (.ref f_House_least)))
    (i24 : PySem.W.isFn K (.ref f_House_least) = true)
    (l24 : K.lookup f_House_least = some ⟨oc24, od24, .func (PySem.W.fnOf "least" "House.least" (defArgs s_House_least) (defBody s_House_least) (defScope s_House_least) .none kV24 dc24 pm24 an24 cd24 ct24), sl24⟩)
    (c24 : PySem.W.codeIn K cd24 "House.least" = true)
    (k24 : PySem.W.keepIn K (.ref f_House_least) = true)
    (a25 : PySem.W.findIn K (.ref C_House) "ways" = some (some (.ref f_House_ways)))
    (i25 : PySem.W.isFn K (.ref f_House_ways) = true)
    (l25 : K.lookup f_House_ways = some ⟨oc25, od25, .func (PySem.W.fnOf "ways" "House.ways" (defArgs s_House_ways) (defBody s_House_ways) (defScope s_House_ways) .none kV25 dc25 pm25 an25 cd25 ct25), sl25⟩)
    (c25 : PySem.W.codeIn K cd25 "House.ways" = true)
    (k25 : PySem.W.keepIn K (.ref f_House_ways) = true)
    (a26 : PySem.W.findIn K (.ref C_House) "check" = some (some (.ref f_House_check)))
    (i26 : PySem.W.isFn K (.ref f_House_check) = true)
    (l26 : K.lookup f_House_check = some ⟨oc26, od26, .func (PySem.W.fnOf "check" "House.check" (defArgs s_House_check) (defBody s_House_check) (defScope s_House_check) .none kV26 dc26 pm26 an26 cd26 ct26), sl26⟩)
    (c26 : PySem.W.codeIn K cd26 "House.check" = true)
    (k26 : PySem.W.keepIn K (.ref f_House_check) = true)
    (a27 : PySem.W.findIn K (.ref C_Reader) "__init__" = some (some (.ref f_Reader_init)))
    (i27 : PySem.W.isFn K (.ref f_Reader_init) = true)
    (l27 : K.lookup f_Reader_init = some ⟨oc27, od27, .func (PySem.W.fnOf "__init__" "Reader.__init__" (defArgs s_Reader_init) (defBody s_Reader_init) (defScope s_Reader_init) .none kV27 dc27 pm27 an27 cd27 ct27), sl27⟩)
    (c27 : PySem.W.codeIn K cd27 "Reader.__init__" = true)
    (k27 : PySem.W.keepIn K (.ref f_Reader_init) = true)
    (a28 : PySem.W.findIn K (.ref C_Reader) "has_more" = some (some (.ref f_Reader_has_more)))
    (i28 : PySem.W.isFn K (.ref f_Reader_has_more) = true)
    (l28 : K.lookup f_Reader_has_more = some ⟨oc28, od28, .func (PySem.W.fnOf "has_more" "Reader.has_more" (defArgs s_Reader_has_more) (defBody s_Reader_has_more) (defScope s_Reader_has_more) .none kV28 dc28 pm28 an28 cd28 ct28), sl28⟩)
    (c28 : PySem.W.codeIn K cd28 "Reader.has_more" = true)
    (k28 : PySem.W.keepIn K (.ref f_Reader_has_more) = true)
    (a29 : PySem.W.findIn K (.ref C_Reader) "take_number" = some (some (.ref f_Reader_take_number)))
    (i29 : PySem.W.isFn K (.ref f_Reader_take_number) = true)
    (l29 : K.lookup f_Reader_take_number = some ⟨oc29, od29, .func (PySem.W.fnOf "take_number" "Reader.take_number" (defArgs s_Reader_take_number) (defBody s_Reader_take_number) (defScope s_Reader_take_number) .none kV29 dc29 pm29 an29 cd29 ct29), sl29⟩)
    (c29 : PySem.W.codeIn K cd29 "Reader.take_number" = true)
    (k29 : PySem.W.keepIn K (.ref f_Reader_take_number) = true)
    (a30 : PySem.W.findIn K (.ref C_Reader) "take_row" = some (some (.ref f_Reader_take_row)))
    (i30 : PySem.W.isFn K (.ref f_Reader_take_row) = true)
    (l30 : K.lookup f_Reader_take_row = some ⟨oc30, od30, .func (PySem.W.fnOf "take_row" "Reader.take_row" (defArgs s_Reader_take_row) (defBody s_Reader_take_row) (defScope s_Reader_take_row) .none kV30 dc30 pm30 an30 cd30 ct30), sl30⟩)
    (c30 : PySem.W.codeIn K cd30 "Reader.take_row" = true)
    (k30 : PySem.W.keepIn K (.ref f_Reader_take_row) = true)
    (a31 : PySem.W.nsIn K mainGlobals "answer_begins" = some (some (.ref f_answer_begins)))
    (l31 : K.lookup f_answer_begins = some ⟨oc31, od31, .func (PySem.W.fnOf "answer_begins" "answer_begins" (defArgs s_answer_begins) (defBody s_answer_begins) (defScope s_answer_begins) .none kV31 dc31 pm31 an31 cd31 ct31), sl31⟩)
    (c31 : PySem.W.codeIn K cd31 "answer_begins" = true)
    (k31 : PySem.W.keepIn K (.ref f_answer_begins) = true)
    (a32 : PySem.W.nsIn K mainGlobals "take_carrying" = some (some (.ref f_take_carrying)))
    (l32 : K.lookup f_take_carrying = some ⟨oc32, od32, .func (PySem.W.fnOf "take_carrying" "take_carrying" (defArgs s_take_carrying) (defBody s_take_carrying) (defScope s_take_carrying) .none kV32 dc32 pm32 an32 cd32 ct32), sl32⟩)
    (c32 : PySem.W.codeIn K cd32 "take_carrying" = true)
    (k32 : PySem.W.keepIn K (.ref f_take_carrying) = true)
    (a33 : PySem.W.nsIn K mainGlobals "answer_check" = some (some (.ref f_answer_check)))
    (l33 : K.lookup f_answer_check = some ⟨oc33, od33, .func (PySem.W.fnOf "answer_check" "answer_check" (defArgs s_answer_check) (defBody s_answer_check) (defScope s_answer_check) .none kV33 dc33 pm33 an33 cd33 ct33), sl33⟩)
    (c33 : PySem.W.codeIn K cd33 "answer_check" = true)
    (k33 : PySem.W.keepIn K (.ref f_answer_check) = true)
    (a34 : PySem.W.nsIn K mainGlobals "with_rows" = some (some (.ref f_with_rows)))
    (l34 : K.lookup f_with_rows = some ⟨oc34, od34, .func (PySem.W.fnOf "with_rows" "with_rows" (defArgs s_with_rows) (defBody s_with_rows) (defScope s_with_rows) .none kV34 dc34 pm34 an34 cd34 ct34), sl34⟩)
    (c34 : PySem.W.codeIn K cd34 "with_rows" = true)
    (k34 : PySem.W.keepIn K (.ref f_with_rows) = true)
    (a35 : PySem.W.nsIn K mainGlobals "answer_next" = some (some (.ref f_answer_next)))
    (l35 : K.lookup f_answer_next = some ⟨oc35, od35, .func (PySem.W.fnOf "answer_next" "answer_next" (defArgs s_answer_next) (defBody s_answer_next) (defScope s_answer_next) .none kV35 dc35 pm35 an35 cd35 ct35), sl35⟩)
    (c35 : PySem.W.codeIn K cd35 "answer_next" = true)
    (k35 : PySem.W.keepIn K (.ref f_answer_next) = true)
    (a36 : PySem.W.nsIn K mainGlobals "answers" = some (some (.ref f_answers)))
    (l36 : K.lookup f_answers = some ⟨oc36, od36, .func (PySem.W.fnOf "answers" "answers" (defArgs s_answers) (defBody s_answers) (defScope s_answers) .none kV36 dc36 pm36 an36 cd36 ct36), sl36⟩)
    (c36 : PySem.W.codeIn K cd36 "answers" = true)
    (k36 : PySem.W.keepIn K (.ref f_answers) = true)
    (pg_Step : PySem.W.plainGet K C_Step Str.empty = true)
    (hd_Step : PySem.W.hasDictIn K C_Step = true)
    (po_Step : PySem.W.plainOver K C_Step = true)
    (sa_Step : PySem.W.findIn K (.ref C_Step) "__setattr__" = some (some (.builtin "object.__setattr__")))
    (mk_Step : PySem.W.makesIn K C_Step = true)
    (kc_Step : PySem.W.keepIn K (.ref C_Step) = true)
    (n_Step_carrying : PySem.W.findIn K (.ref C_Step) "carrying" = some none)
    (n_Step_weight : PySem.W.findIn K (.ref C_Step) "weight" = some none)
    (n_Step_after : PySem.W.findIn K (.ref C_Step) "after" = some none)
    (pg_Plan : PySem.W.plainGet K C_Plan Str.empty = true)
    (hd_Plan : PySem.W.hasDictIn K C_Plan = true)
    (po_Plan : PySem.W.plainOver K C_Plan = true)
    (sa_Plan : PySem.W.findIn K (.ref C_Plan) "__setattr__" = some (some (.builtin "object.__setattr__")))
    (mk_Plan : PySem.W.makesIn K C_Plan = true)
    (kc_Plan : PySem.W.keepIn K (.ref C_Plan) = true)
    (n_Plan_many : PySem.W.findIn K (.ref C_Plan) "many" = some none)
    (n_Plan_start : PySem.W.findIn K (.ref C_Plan) "start" = some none)
    (n_Plan_scenes : PySem.W.findIn K (.ref C_Plan) "scenes" = some none)
    (n_Plan_steps : PySem.W.findIn K (.ref C_Plan) "steps" = some none)
    (n_Plan_weights : PySem.W.findIn K (.ref C_Plan) "weights" = some none)
    (pg_House : PySem.W.plainGet K C_House Str.empty = true)
    (hd_House : PySem.W.hasDictIn K C_House = true)
    (po_House : PySem.W.plainOver K C_House = true)
    (sa_House : PySem.W.findIn K (.ref C_House) "__setattr__" = some (some (.builtin "object.__setattr__")))
    (mk_House : PySem.W.makesIn K C_House = true)
    (kc_House : PySem.W.keepIn K (.ref C_House) = true)
    (n_House_heavy : PySem.W.findIn K (.ref C_House) "heavy" = some none)
    (n_House_left_room : PySem.W.findIn K (.ref C_House) "left_room" = some none)
    (n_House_right_room : PySem.W.findIn K (.ref C_House) "right_room" = some none)
    (n_House_left : PySem.W.findIn K (.ref C_House) "left" = some none)
    (n_House_right : PySem.W.findIn K (.ref C_House) "right" = some none)
    (n_House_scenes : PySem.W.findIn K (.ref C_House) "scenes" = some none)
    (pg_Reader : PySem.W.plainGet K C_Reader Str.empty = true)
    (hd_Reader : PySem.W.hasDictIn K C_Reader = true)
    (po_Reader : PySem.W.plainOver K C_Reader = true)
    (sa_Reader : PySem.W.findIn K (.ref C_Reader) "__setattr__" = some (some (.builtin "object.__setattr__")))
    (mk_Reader : PySem.W.makesIn K C_Reader = true)
    (kc_Reader : PySem.W.keepIn K (.ref C_Reader) = true)
    (n_Reader_numbers : PySem.W.findIn K (.ref C_Reader) "numbers" = some none)
    (n_Reader_place : PySem.W.findIn K (.ref C_Reader) "place" = some none)
    (g_OFF_LEFT : PySem.W.nsIn K mainGlobals "OFF_LEFT" = some (some (.int 0 t_OFF_LEFT)))
    (g_OFF_RIGHT : PySem.W.nsIn K mainGlobals "OFF_RIGHT" = some (some (.int 1 t_OFF_RIGHT)))
    (g_ON_LEFT : PySem.W.nsIn K mainGlobals "ON_LEFT" = some (some (.int 2 t_ON_LEFT)))
    (g_ON_RIGHT : PySem.W.nsIn K mainGlobals "ON_RIGHT" = some (some (.int 3 t_ON_RIGHT)))
    (g_MOST_PIECES : PySem.W.nsIn K mainGlobals "MOST_PIECES" = some (some (.int 4 t_MOST_PIECES)))
    (g_MOST_HEAVY : PySem.W.nsIn K mainGlobals "MOST_HEAVY" = some (some (.int 1000 t_MOST_HEAVY)))
    (g_MOST_ROOM : PySem.W.nsIn K mainGlobals "MOST_ROOM" = some (some (.int 3 t_MOST_ROOM)))
    (g_MOST_SCENES : PySem.W.nsIn K mainGlobals "MOST_SCENES" = some (some (.int 4 t_MOST_SCENES)))
    (g_BEGINS : PySem.W.nsIn K mainGlobals "BEGINS" = some (some (.int 0 t_BEGINS)))
    (g_SCENE : PySem.W.nsIn K mainGlobals "SCENE" = some (some (.int 1 t_SCENE)))
    (g_DROP : PySem.W.nsIn K mainGlobals "DROP" = some (some (.int 2 t_DROP)))
    (g_LEAST : PySem.W.nsIn K mainGlobals "LEAST" = some (some (.int 3 t_LEAST)))
    (g_WAYS : PySem.W.nsIn K mainGlobals "WAYS" = some (some (.int 4 t_WAYS)))
    (g_CHECK : PySem.W.nsIn K mainGlobals "CHECK" = some (some (.int 5 t_CHECK)))
    (b_enumerate : PySem.W.nsIn K mainGlobals "enumerate" = some none)
    (b_len : PySem.W.nsIn K mainGlobals "len" = some none)
    (b_list : PySem.W.nsIn K mainGlobals "list" = some none)
    (b_min : PySem.W.nsIn K mainGlobals "min" = some none)
    (b_range : PySem.W.nsIn K mainGlobals "range" = some none)
    (b_reversed : PySem.W.nsIn K mainGlobals "reversed" = some none)
    (b_tuple : PySem.W.nsIn K mainGlobals "tuple" = some none)
    : ∃ T : Tx K mg, T.f_answers = f_answers ∧ T.d_answers = PySem.W.fnOf "answers" "answers" (defArgs s_answers) (defBody s_answers) (defScope s_answers) .none kV36 dc36 pm36 an36 cd36 ct36 := by
  have F0 := fun_mk (st := s_Step_init) l0 c0 k0
  have B0 := F0.binds (ps := ["self", "carrying", "weight", "after"]) fun _ _ _ _ _ _ us hl => match us, hl with | [_, _, _, _], _ => rfl
  have F1 := fun_mk (st := s_pieces_on) l1 c1 k1
  have B1 := F1.binds (ps := ["many", "standing"]) fun _ _ _ _ _ _ us hl => match us, hl with | [_, _], _ => rfl
  have F2 := fun_mk (st := s_steps_from) l2 c2 k2
  have B2 := F2.binds (ps := ["heavy", "left_room", "right_room", "standing"]) fun _ _ _ _ _ _ us hl => match us, hl with | [_, _, _, _], _ => rfl
  have F3 := fun_mk (st := s_step_by) l3 c3 k3
  have B3 := F3.binds (ps := ["steps", "carrying"]) fun _ _ _ _ _ _ us hl => match us, hl with | [_, _], _ => rfl
  have F4 := fun_mk (st := s_steps_by_standing) l4 c4 k4
  have B4 := F4.binds (ps := ["heavy", "left_room", "right_room", "start"]) fun _ _ _ _ _ _ us hl => match us, hl with | [_, _, _, _], _ => rfl
  have F5 := fun_mk (st := s_lowered) l5 c5 k5
  have B5 := F5.binds (ps := ["best", "standing", "steps"]) fun _ _ _ _ _ _ us hl => match us, hl with | [_, _, _], _ => rfl
  have F6 := fun_mk (st := s_weights_to) l6 c6 k6
  have B6 := F6.binds (ps := ["steps", "ends"]) fun _ _ _ _ _ _ us hl => match us, hl with | [_, _], _ => rfl
  have F7 := fun_mk (st := s_Plan_init) l7 c7 k7
  have B7 := F7.binds (ps := ["self", "heavy", "left_room", "right_room", "start", "scenes"]) fun _ _ _ _ _ _ us hl => match us, hl with | [_, _, _, _, _, _], _ => rfl
  have F8 := fun_mk (st := s_Plan_weights_by_scene) l8 c8 k8
  have B8 := F8.binds (ps := ["self"]) fun _ _ _ _ _ _ us hl => match us, hl with | [_], _ => rfl
  have F9 := fun_mk (st := s_Plan_least) l9 c9 k9
  have B9 := F9.binds (ps := ["self"]) fun _ _ _ _ _ _ us hl => match us, hl with | [_], _ => rfl
  have F10 := fun_mk (st := s_Plan_is_over) l10 c10 k10
  have B10 := F10.binds (ps := ["self", "number", "standing"]) fun _ _ _ _ _ _ us hl => match us, hl with | [_, _, _], _ => rfl
  have F11 := fun_mk (st := s_Plan_first_step) l11 c11 k11
  have B11 := F11.binds (ps := ["self", "number", "standing"]) fun _ _ _ _ _ _ us hl => match us, hl with | [_, _, _], _ => rfl
  have F12 := fun_mk (st := s_Plan_rows) l12 c12 k12
  have B12 := F12.binds (ps := ["self"]) fun _ _ _ _ _ _ us hl => match us, hl with | [_], _ => rfl
  have F13 := fun_mk (st := s_sizes_fit) l13 c13 k13
  have B13 := F13.binds (ps := ["heavy", "left_room", "right_room"]) fun _ _ _ _ _ _ us hl => match us, hl with | [_, _, _], _ => rfl
  have F14 := fun_mk (st := s_wings_fit) l14 c14 k14
  have B14 := F14.binds (ps := ["many", "left_room", "right_room", "left", "right"]) fun _ _ _ _ _ _ us hl => match us, hl with | [_, _, _, _, _], _ => rfl
  have F15 := fun_mk (st := s_pieces_rise) l15 c15 k15
  have B15 := F15.binds (ps := ["many", "pieces"]) fun _ _ _ _ _ _ us hl => match us, hl with | [_, _], _ => rfl
  have F16 := fun_mk (st := s_rows_of) l16 c16 k16
  have B16 := F16.binds (ps := ["many", "length"]) fun _ _ _ _ _ _ us hl => match us, hl with | [_, _], _ => rfl
  have F17 := fun_mk (st := s_ways_to_stand) l17 c17 k17
  have B17 := F17.binds (ps := ["many", "left_room", "right_room"]) fun _ _ _ _ _ _ us hl => match us, hl with | [_, _, _], _ => rfl
  have F18 := fun_mk (st := s_House_init) l18 c18 k18
  have B18 := F18.binds (ps := ["self"]) fun _ _ _ _ _ _ us hl => match us, hl with | [_], _ => rfl
  have F19 := fun_mk (st := s_House_begins) l19 c19 k19
  have B19 := F19.binds (ps := ["self", "heavy", "left_room", "right_room", "left", "right"]) fun _ _ _ _ _ _ us hl => match us, hl with | [_, _, _, _, _, _], _ => rfl
  have F20 := fun_mk (st := s_House_scene) l20 c20 k20
  have B20 := F20.binds (ps := ["self", "pieces"]) fun _ _ _ _ _ _ us hl => match us, hl with | [_, _], _ => rfl
  have F21 := fun_mk (st := s_House_drop) l21 c21 k21
  have B21 := F21.binds (ps := ["self"]) fun _ _ _ _ _ _ us hl => match us, hl with | [_], _ => rfl
  have F22 := fun_mk (st := s_House_standing) l22 c22 k22
  have B22 := F22.binds (ps := ["self"]) fun _ _ _ _ _ _ us hl => match us, hl with | [_], _ => rfl
  have F23 := fun_mk (st := s_House_plan) l23 c23 k23
  have B23 := F23.binds (ps := ["self"]) fun _ _ _ _ _ _ us hl => match us, hl with | [_], _ => rfl
  have F24 := fun_mk (st := s_House_least) l24 c24 k24
  have B24 := F24.binds (ps := ["self"]) fun _ _ _ _ _ _ us hl => match us, hl with | [_], _ => rfl
  have F25 := fun_mk (st := s_House_ways) l25 c25 k25
  have B25 := F25.binds (ps := ["self"]) fun _ _ _ _ _ _ us hl => match us, hl with | [_], _ => rfl
  have F26 := fun_mk (st := s_House_check) l26 c26 k26
  have B26 := F26.binds (ps := ["self", "carryings"]) fun _ _ _ _ _ _ us hl => match us, hl with | [_, _], _ => rfl
  have F27 := fun_mk (st := s_Reader_init) l27 c27 k27
  have B27 := F27.binds (ps := ["self", "numbers"]) fun _ _ _ _ _ _ us hl => match us, hl with | [_, _], _ => rfl
  have F28 := fun_mk (st := s_Reader_has_more) l28 c28 k28
  have B28 := F28.binds (ps := ["self"]) fun _ _ _ _ _ _ us hl => match us, hl with | [_], _ => rfl
  have F29 := fun_mk (st := s_Reader_take_number) l29 c29 k29
  have B29 := F29.binds (ps := ["self"]) fun _ _ _ _ _ _ us hl => match us, hl with | [_], _ => rfl
  have F30 := fun_mk (st := s_Reader_take_row) l30 c30 k30
  have B30 := F30.binds (ps := ["self"]) fun _ _ _ _ _ _ us hl => match us, hl with | [_], _ => rfl
  have F31 := fun_mk (st := s_answer_begins) l31 c31 k31
  have B31 := F31.binds (ps := ["house", "reader"]) fun _ _ _ _ _ _ us hl => match us, hl with | [_, _], _ => rfl
  have F32 := fun_mk (st := s_take_carrying) l32 c32 k32
  have B32 := F32.binds (ps := ["reader"]) fun _ _ _ _ _ _ us hl => match us, hl with | [_], _ => rfl
  have F33 := fun_mk (st := s_answer_check) l33 c33 k33
  have B33 := F33.binds (ps := ["house", "reader"]) fun _ _ _ _ _ _ us hl => match us, hl with | [_, _], _ => rfl
  have F34 := fun_mk (st := s_with_rows) l34 c34 k34
  have B34 := F34.binds (ps := ["answer"]) fun _ _ _ _ _ _ us hl => match us, hl with | [_], _ => rfl
  have F35 := fun_mk (st := s_answer_next) l35 c35 k35
  have B35 := F35.binds (ps := ["house", "reader"]) fun _ _ _ _ _ _ us hl => match us, hl with | [_, _], _ => rfl
  have F36 := fun_mk (st := s_answers) l36 c36 k36
  have B36 := F36.binds (ps := ["calls"]) fun _ _ _ _ _ _ us hl => match us, hl with | [_], _ => rfl
  refine ⟨{
    C_Step := C_Step
    C_Plan := C_Plan
    C_House := C_House
    C_Reader := C_Reader
    f_Step_init := f_Step_init
    d_Step_init := _
    h_Step_init := ⟨F0, B0⟩
    f_pieces_on := f_pieces_on
    d_pieces_on := _
    h_pieces_on := ⟨F1, B1, PySem.W.mg_of X G a1⟩
    f_steps_from := f_steps_from
    d_steps_from := _
    h_steps_from := ⟨F2, B2, PySem.W.mg_of X G a2⟩
    f_step_by := f_step_by
    d_step_by := _
    h_step_by := ⟨F3, B3, PySem.W.mg_of X G a3⟩
    f_steps_by_standing := f_steps_by_standing
    d_steps_by_standing := _
    h_steps_by_standing := ⟨F4, B4, PySem.W.mg_of X G a4⟩
    f_lowered := f_lowered
    d_lowered := _
    h_lowered := ⟨F5, B5, PySem.W.mg_of X G a5⟩
    f_weights_to := f_weights_to
    d_weights_to := _
    h_weights_to := ⟨F6, B6, PySem.W.mg_of X G a6⟩
    f_Plan_init := f_Plan_init
    d_Plan_init := _
    h_Plan_init := ⟨F7, B7⟩
    f_Plan_weights_by_scene := f_Plan_weights_by_scene
    d_Plan_weights_by_scene := _
    h_Plan_weights_by_scene := ⟨F8, B8⟩
    m_Plan_weights_by_scene := ⟨a8, i8, k8⟩
    f_Plan_least := f_Plan_least
    d_Plan_least := _
    h_Plan_least := ⟨F9, B9⟩
    m_Plan_least := ⟨a9, i9, k9⟩
    f_Plan_is_over := f_Plan_is_over
    d_Plan_is_over := _
    h_Plan_is_over := ⟨F10, B10⟩
    m_Plan_is_over := ⟨a10, i10, k10⟩
    f_Plan_first_step := f_Plan_first_step
    d_Plan_first_step := _
    h_Plan_first_step := ⟨F11, B11⟩
    m_Plan_first_step := ⟨a11, i11, k11⟩
    f_Plan_rows := f_Plan_rows
    d_Plan_rows := _
    h_Plan_rows := ⟨F12, B12⟩
    m_Plan_rows := ⟨a12, i12, k12⟩
    f_sizes_fit := f_sizes_fit
    d_sizes_fit := _
    h_sizes_fit := ⟨F13, B13, PySem.W.mg_of X G a13⟩
    f_wings_fit := f_wings_fit
    d_wings_fit := _
    h_wings_fit := ⟨F14, B14, PySem.W.mg_of X G a14⟩
    f_pieces_rise := f_pieces_rise
    d_pieces_rise := _
    h_pieces_rise := ⟨F15, B15, PySem.W.mg_of X G a15⟩
    f_rows_of := f_rows_of
    d_rows_of := _
    h_rows_of := ⟨F16, B16, PySem.W.mg_of X G a16⟩
    f_ways_to_stand := f_ways_to_stand
    d_ways_to_stand := _
    h_ways_to_stand := ⟨F17, B17, PySem.W.mg_of X G a17⟩
    f_House_init := f_House_init
    d_House_init := _
    h_House_init := ⟨F18, B18⟩
    f_House_begins := f_House_begins
    d_House_begins := _
    h_House_begins := ⟨F19, B19⟩
    m_House_begins := ⟨a19, i19, k19⟩
    f_House_scene := f_House_scene
    d_House_scene := _
    h_House_scene := ⟨F20, B20⟩
    m_House_scene := ⟨a20, i20, k20⟩
    f_House_drop := f_House_drop
    d_House_drop := _
    h_House_drop := ⟨F21, B21⟩
    m_House_drop := ⟨a21, i21, k21⟩
    f_House_standing := f_House_standing
    d_House_standing := _
    h_House_standing := ⟨F22, B22⟩
    m_House_standing := ⟨a22, i22, k22⟩
    f_House_plan := f_House_plan
    d_House_plan := _
    h_House_plan := ⟨F23, B23⟩
    m_House_plan := ⟨a23, i23, k23⟩
    f_House_least := f_House_least
    d_House_least := _
    h_House_least := ⟨F24, B24⟩
    m_House_least := ⟨a24, i24, k24⟩
    f_House_ways := f_House_ways
    d_House_ways := _
    h_House_ways := ⟨F25, B25⟩
    m_House_ways := ⟨a25, i25, k25⟩
    f_House_check := f_House_check
    d_House_check := _
    h_House_check := ⟨F26, B26⟩
    m_House_check := ⟨a26, i26, k26⟩
    f_Reader_init := f_Reader_init
    d_Reader_init := _
    h_Reader_init := ⟨F27, B27⟩
    f_Reader_has_more := f_Reader_has_more
    d_Reader_has_more := _
    h_Reader_has_more := ⟨F28, B28⟩
    m_Reader_has_more := ⟨a28, i28, k28⟩
    f_Reader_take_number := f_Reader_take_number
    d_Reader_take_number := _
    h_Reader_take_number := ⟨F29, B29⟩
    m_Reader_take_number := ⟨a29, i29, k29⟩
    f_Reader_take_row := f_Reader_take_row
    d_Reader_take_row := _
    h_Reader_take_row := ⟨F30, B30⟩
    m_Reader_take_row := ⟨a30, i30, k30⟩
    f_answer_begins := f_answer_begins
    d_answer_begins := _
    h_answer_begins := ⟨F31, B31, PySem.W.mg_of X G a31⟩
    f_take_carrying := f_take_carrying
    d_take_carrying := _
    h_take_carrying := ⟨F32, B32, PySem.W.mg_of X G a32⟩
    f_answer_check := f_answer_check
    d_answer_check := _
    h_answer_check := ⟨F33, B33, PySem.W.mg_of X G a33⟩
    f_with_rows := f_with_rows
    d_with_rows := _
    h_with_rows := ⟨F34, B34, PySem.W.mg_of X G a34⟩
    f_answer_next := f_answer_next
    d_answer_next := _
    h_answer_next := ⟨F35, B35, PySem.W.mg_of X G a35⟩
    f_answers := f_answers
    d_answers := _
    h_answers := ⟨F36, B36, PySem.W.mg_of X G a36⟩
    cl_Step := ⟨pg_Step, hd_Step, po_Step, sa_Step⟩
    gC_Step := PySem.W.mg_of X G aC_Step
    mk_Step := ⟨mk_Step, a0, i0, kc_Step⟩
    n_Step_carrying := n_Step_carrying
    n_Step_weight := n_Step_weight
    n_Step_after := n_Step_after
    cl_Plan := ⟨pg_Plan, hd_Plan, po_Plan, sa_Plan⟩
    gC_Plan := PySem.W.mg_of X G aC_Plan
    mk_Plan := ⟨mk_Plan, a7, i7, kc_Plan⟩
    n_Plan_many := n_Plan_many
    n_Plan_start := n_Plan_start
    n_Plan_scenes := n_Plan_scenes
    n_Plan_steps := n_Plan_steps
    n_Plan_weights := n_Plan_weights
    cl_House := ⟨pg_House, hd_House, po_House, sa_House⟩
    gC_House := PySem.W.mg_of X G aC_House
    mk_House := ⟨mk_House, a18, i18, kc_House⟩
    n_House_heavy := n_House_heavy
    n_House_left_room := n_House_left_room
    n_House_right_room := n_House_right_room
    n_House_left := n_House_left
    n_House_right := n_House_right
    n_House_scenes := n_House_scenes
    cl_Reader := ⟨pg_Reader, hd_Reader, po_Reader, sa_Reader⟩
    gC_Reader := PySem.W.mg_of X G aC_Reader
    mk_Reader := ⟨mk_Reader, a27, i27, kc_Reader⟩
    n_Reader_numbers := n_Reader_numbers
    n_Reader_place := n_Reader_place
    t_OFF_LEFT := t_OFF_LEFT
    g_OFF_LEFT := PySem.W.mg_of X G g_OFF_LEFT
    t_OFF_RIGHT := t_OFF_RIGHT
    g_OFF_RIGHT := PySem.W.mg_of X G g_OFF_RIGHT
    t_ON_LEFT := t_ON_LEFT
    g_ON_LEFT := PySem.W.mg_of X G g_ON_LEFT
    t_ON_RIGHT := t_ON_RIGHT
    g_ON_RIGHT := PySem.W.mg_of X G g_ON_RIGHT
    t_MOST_PIECES := t_MOST_PIECES
    g_MOST_PIECES := PySem.W.mg_of X G g_MOST_PIECES
    t_MOST_HEAVY := t_MOST_HEAVY
    g_MOST_HEAVY := PySem.W.mg_of X G g_MOST_HEAVY
    t_MOST_ROOM := t_MOST_ROOM
    g_MOST_ROOM := PySem.W.mg_of X G g_MOST_ROOM
    t_MOST_SCENES := t_MOST_SCENES
    g_MOST_SCENES := PySem.W.mg_of X G g_MOST_SCENES
    t_BEGINS := t_BEGINS
    g_BEGINS := PySem.W.mg_of X G g_BEGINS
    t_SCENE := t_SCENE
    g_SCENE := PySem.W.mg_of X G g_SCENE
    t_DROP := t_DROP
    g_DROP := PySem.W.mg_of X G g_DROP
    t_LEAST := t_LEAST
    g_LEAST := PySem.W.mg_of X G g_LEAST
    t_WAYS := t_WAYS
    g_WAYS := PySem.W.mg_of X G g_WAYS
    t_CHECK := t_CHECK
    g_CHECK := PySem.W.mg_of X G g_CHECK
    b_enumerate := PySem.W.mg_none_of X G b_enumerate
    b_len := PySem.W.mg_none_of X G b_len
    b_list := PySem.W.mg_none_of X G b_list
    b_min := PySem.W.mg_none_of X G b_min
    b_range := PySem.W.mg_none_of X G b_range
    b_reversed := PySem.W.mg_none_of X G b_reversed
    b_tuple := PySem.W.mg_none_of X G b_tuple }, rfl, rfl⟩
end SC
namespace SC
open PySem PySem.Spec PyProof.Rows L2 Evl
open SM (toZ Small Bad1 Bad2 BadS)
/-! ### helpers -/
theorem lk_here {k : Str} {v : V} {r : List (Str × V)} : List.lookup k ((k, v) :: r) = some v := by
  have e : (k == k) = true := beq_self_eq_true k
  simp only [List.lookup, e]
theorem lk_past {k g : Str} {v : V} {r : List (Str × V)} (h : (k == g) = false) : List.lookup k ((g, v) :: r) = List.lookup k r := by
  simp only [List.lookup, h]
theorem put_here {f : Str} {v x : V} {r : List (Str × V)} : putF f v ((f, x) :: r) = (f, v) :: r := if_pos rfl
theorem put_past {f g : Str} {v x : V} {r : List (Str × V)} (h : ¬ g = f) : putF f v ((g, x) :: r) = (g, x) :: putF f v r := if_neg h
theorem if_t {c : Bool} {A B : Prop} (hc : c = true) (h : A) : if c = true then A else B := by
  rw [if_pos hc]
  exact h
theorem if_f {c : Bool} {A B : Prop} (hc : c = false) (h : B) : if c = true then A else B := by
  rw [hc, if_neg Bool.false_ne_true]
  exact h
/-- whole numbers from 0 on as values -/
def nv (l : List Nat) : List V := l.map fun (x : Nat) => V.int (x : Int)
theorem nv_length (l : List Nat) : (nv l).length = l.length := List.length_map ..
theorem nv_get {l : List Nat} {i : Nat} {y : V} (h : (nv l)[i]? = some y) : ∃ z, l[i]? = some z ∧ y = V.int (z : Int) := by
  unfold nv at h
  rw [List.getElem?_map] at h
  cases e : l[i]? with
  | none =>
    rw [e] at h
    cases h
  | some z =>
    rw [e] at h
    exact ⟨z, rfl, (Option.some.inj h).symm⟩
theorem take_more {α : Type} {l : List α} {i : Nat} {x : α} (h : l[i]? = some x) : l.take (i + 1) = l.take i ++ [x] := by
  rw [List.take_succ, h]
  rfl
section
variable {P : Program} {w : World} {K : PySem.W.Frag} {mg : Str → Option Value} {base : Heap}
/-! ### sizes_fit -/
def spSizes (K : PySem.W.Frag) : Sp := fun vs H Q _ => ∃ (a : Addr) (h : List Nat) (x y : Nat), vs = [.ref a, .int x, .int y] ∧ SqL K H a (nv h) ∧ RetV (.bl (decide (¬ Bad1 h x y))) H Q
theorem bad1_few {h : List Nat} {x y : Nat} (k : 4 < h.length ∨ 3 < x ∨ 3 < y) : Bad1 h x y := by
  unfold Bad1 Uw04.PIECES Uw04.ROOM
  rcases k with k | k | k
  · exact .inl k
  · exact .inr (.inr (.inl k))
  · exact .inr (.inr (.inr k))
theorem bad1_iff {h : List Nat} {x y : Nat} (k1 : ¬ 4 < h.length) (k2 : ¬ 3 < x) (k3 : ¬ 3 < y) : ¬ Bad1 h x y ↔ ∀ z ∈ h, 1 ≤ z ∧ z ≤ 1000 := by
  constructor
  · intro k
    exact (SM.Bad1.ok k).2.1
  · intro k q
    unfold Bad1 Uw04.PIECES Uw04.ROOM Uw04.HEAVY at q
    rcases q with q | q | q | q
    · exact k1 q
    · rw [List.all_eq_false] at q
      obtain ⟨z, hz, q⟩ := q
      apply q
      rw [Bool.and_eq_true, decide_eq_true_eq, decide_eq_true_eq]
      exact k z hz
    · exact k2 q
    · exact k3 q
theorem ok_sizes_fit (T : Tx K mg) : FnOk P w K mg base CX0 1 T.f_sizes_fit T.d_sizes_fit ["heavy", "left_room", "right_room"] (spSizes K) := by
  refine T.h_sizes_fit.F.ok sc_sizes_fit (fun vs H Q E h => ?_) (fun cdv A outer s H vs Q E hr h => ?_)
  · obtain ⟨a, h, x, y, rfl, _⟩ := h
    rfl
  · obtain ⟨a, h, x, y, rfl, hS, k⟩ := h
    refine ⟨_, (pss_cons (ps_if (PW.pt (pw_or (pt_cmpR op_gt (pe_callB call_len_seq (by rfl) T.b_len (by decide +kernel) (pa_cons (pv 0) pa_nil)) (pe_glob (v := .int 4) rfl T.g_MOST_PIECES ⟨_, rfl⟩) (nomark _)) (pw_or (pt_cmpR op_gt (pv 1) (pe_glob (v := .int 3) rfl T.g_MOST_ROOM ⟨_, rfl⟩) (nomark _)) (pw_or1 (pt_cmpR op_gt (pv 2) (pe_glob (v := .int 3) rfl T.g_MOST_ROOM ⟨_, rfl⟩) (nomark _))))))
        (pss_one (ps_ret pe_bl))
        pss_nil)
      (pss_cons (ps_for PassesOwn.never rfl (pi_list (pv 0)) (pg_name (i := 3) sc_sizes_fit.nd rfl (.inl rfl))
        (pss_one (ps_if (PW.pt (pw_or (pt_cmpR op_lt (pv 3) pe_int (nomark _)) (pw_or1 (pt_cmpR op_gt (pv 3) (pe_glob (v := .int 1000) rfl T.g_MOST_HEAVY ⟨_, rfl⟩) (nomark _)))))
          (pss_one (ps_ret pe_bl))
          pss_nil)))
      (pss_one (ps_ret pe_bl)))), ?_⟩
    refine q_when (et_or (et_test (ev_op (ev_len (ev_var rfl) hS) ev_c rv_I0)) fun _ => et_or (et_test (ev_op (ev_var rfl) ev_c rv_I0)) fun _ => et_test (ev_op (ev_var rfl) ev_c rv_I0)) (fun hb H1 e1 => ?_) (fun hb H1 e1 => ?_)
    · have q := bad1_few (h := h) (x := x) (y := y) (by simp [nv_length] at hb; omega)
      rw [decide_eq_false (fun z => z q)] at k
      exact s_ret ev_c fun H2 e2 => k H2 (e1.trans e2)
    · have n1 : ¬ 4 < h.length ∧ ¬ 3 < x ∧ ¬ 3 < y := by simp [nv_length] at hb; omega
      have iff := bad1_iff n1.1 n1.2.1 n1.2.2
      refine q_forLn (ev_var rfl) (ex_l e1 hS) (fun i σ H' => (∃ v, σ = [some (.ref a), some (.int x), some (.int y), v]) ∧ Ex H H' ∧ ∀ z ∈ h.take i, 1 ≤ z ∧ z ≤ 1000) (fun H2 e2 => ⟨⟨none, rfl⟩, e1.trans e2, fun z hz => nomatch hz⟩) (fun i σ' H' _ p => ex_l p.2.1 hS) ?_ ?_
      · rintro i _ σ' H' hi ⟨⟨v, rfl⟩, e2, p⟩
        obtain ⟨z, hz, rfl⟩ := nv_get hi
        refine s_when (et_or (et_test (ev_op (ev_var rfl) ev_c rv_I0)) fun _ => et_test (ev_op (ev_var rfl) ev_c rv_I0)) (fun hb H3 e3 => ?_) (fun hb H3 e3 => ?_)
        · rw [decide_eq_false (fun q => by have := iff.1 q z (List.mem_of_getElem? hz); simp at hb; omega)] at k
          exact s_ret ev_c fun H4 e4 => k.go (e2.trans (e3.trans e4))
        · refine ⟨⟨_, rfl⟩, e2.trans e3, fun y hy => ?_⟩
          rw [take_more hz] at hy
          rcases List.mem_append.1 hy with hy | hy
          · exact p y hy
          · rw [List.mem_singleton] at hy
            subst hy
            simp at hb
            omega
      · rintro σ' H' ⟨⟨v, rfl⟩, e2, p⟩
        rw [nv_length, List.take_length] at p
        rw [decide_eq_true (iff.2 p)] at k
        exact s_ret ev_c fun H4 e4 => k.go (e2.trans e4)
end
end SC

namespace SC
open PySem PySem.Spec PyProof.Rows L2 Evl
open SM (toZ Small Bad1 Bad2 BadS)
section
variable {σ : L2.St} {H : Hp} {ta tb : TE}
theorem el_cat {l b : Addr} {xs zs : List V} (ha : Ev ta σ H (.ref l)) (hb : Ev tb σ H (.ref b)) (hl : H l = some (.lst xs)) (hz : H b = some (.lst zs)) (hn : xs.length + zs.length ≤ sizeLine) : EvL (tOp rCat ta tb) σ H (xs ++ zs) :=
  fun H1 e Q q => ha H1 e _ fun H2 e2 => hb H2 (e.trans e2) _ fun H3 e3 => ⟨l, b, xs, zs, rfl, rfl, (e.trans (e2.trans e3)) _ _ hl, (e.trans (e2.trans e3)) _ _ hz, hn, fun p hp =>
    q p _ (fresh_back (e2.trans e3) hp) ((e2.trans e3).trans (Ex.new hp)) upd_same⟩
theorem ev_din {d : Addr} {kvs : List (Key × V)} {k : Key} (ha : Ev ta σ H (kV k)) (hb : Ev tb σ H (.ref d)) (hd : H d = some (.dK kvs)) : Ev (tDIn ta tb) σ H (.bl (valV kvs k).isSome) :=
  fun H1 e Q q => ha H1 e _ fun H2 e2 => hb H2 (e.trans e2) _ fun H3 e3 => ⟨d, _, rfl, DGet.k ((e.trans (e2.trans e3)) _ _ hd), q H3 (e2.trans e3)⟩
end
def tk (l : List Nat) : List (Key × V) := l.map fun (p : Nat) => ((Sum.inl (p : Int) : Key), V.bl true)
theorem tk_length (l : List Nat) : (tk l).length = l.length := List.length_map ..
theorem tk_val (l : List Nat) (p : Nat) : (valV (tk l) (Sum.inl (p : Int))).isSome = true ↔ p ∈ l := by
  induction l with
  | nil => exact ⟨(fun h => nomatch h), (fun h => nomatch h)⟩
  | cons a l ih =>
    by_cases e : a = p
    · subst e
      have q : valV (tk (a :: l)) (Sum.inl (a : Int)) = some (V.bl true) := valV_pos rfl
      rw [q]
      exact ⟨fun _ => List.Mem.head _, fun _ => rfl⟩
    · have q : valV (tk (a :: l)) (Sum.inl (p : Int)) = valV (tk l) (Sum.inl (p : Int)) := valV_neg (fun z => e (by have := Sum.inl.inj z; omega))
      rw [q, ih]
      exact ⟨fun h => List.Mem.tail _ h, fun h => by
        cases h with
        | head => exact absurd rfl e
        | tail _ h => exact h⟩
theorem tk_none {l : List Nat} {p : Nat} (h : p ∉ l) : valV (tk l) (Sum.inl (p : Int)) = none := by
  cases q : valV (tk l) (Sum.inl (p : Int)) with
  | none => rfl
  | some v => exact absurd ((tk_val l p).1 (by rw [q]; rfl)) h
theorem tk_put {l : List Nat} {p : Nat} (h : p ∉ l) : putK (tk l) (Sum.inl (p : Int)) (V.bl true) = tk (l ++ [p]) := by
  rw [putK_new _ (tk_none h)]
  unfold tk
  rw [List.map_append]
  rfl
def Bad2n (n a b : Nat) (l r : List Nat) : Prop := ((l ++ r).all fun x => decide (x < n)) = false ∨ Uw04.distinct (l ++ r) = false ∨ a < l.length ∨ b < r.length
instance (n a b : Nat) (l r : List Nat) : Decidable (Bad2n n a b l r) := by unfold Bad2n; infer_instance
theorem not_bad2 {n a b : Nat} {l r : List Nat} (h1 : ¬ a < l.length) (h2 : ¬ b < r.length) : ¬ Bad2n n a b l r ↔ (∀ x ∈ l ++ r, x < n) ∧ (l ++ r).Nodup := by
  unfold Bad2n
  rw [not_or, not_or, not_or, Bool.not_eq_false, Bool.not_eq_false, List.all_eq_true, SM.distinct_nodup]
  constructor
  · rintro ⟨p, q, _, _⟩
    exact ⟨fun x hx => of_decide_eq_true (p x hx), q⟩
  · rintro ⟨p, q⟩
    exact ⟨fun x hx => decide_eq_true (p x hx), q, h1, h2⟩
theorem nv_append (l r : List Nat) : nv l ++ nv r = nv (l ++ r) := (List.map_append ..).symm
section
variable {P : Program} {w : World} {K : PySem.W.Frag} {mg : Str → Option Value} {base : Heap}
def spWings (K : PySem.W.Frag) : Sp := fun vs H Q _ => ∃ (al ar : Addr) (n x y : Nat) (l r : List Nat), vs = [.int n, .int x, .int y, .ref al, .ref ar] ∧ H al = some (.lst (nv l)) ∧ H ar = some (.lst (nv r)) ∧ l.length ≤ 30 ∧ r.length ≤ 30 ∧ RetV (.bl (decide (¬ Bad2n n x y l r))) H Q
theorem ok_wings_fit (T : Tx K mg) : FnOk P w K mg base CX0 1 T.f_wings_fit T.d_wings_fit ["many", "left_room", "right_room", "left", "right"] (spWings K) := by
  refine T.h_wings_fit.F.ok sc_wings_fit (fun vs H Q E h => ?_) (fun cdv A outer s H vs Q E hr h => ?_)
  · obtain ⟨al, ar, n, x, y, l, r, rfl, _⟩ := h
    rfl
  · obtain ⟨al, ar, n, x, y, l, r, rfl, hl, hrr, h30, h31, k⟩ := h
    have hu := hu_of hr
    refine ⟨_, (pss_cons (ps_if (PW.pt (pw_or (pt_cmpR op_gt (pe_callB call_len_seq (by rfl) T.b_len (by decide +kernel) (pa_cons (pv 3) pa_nil)) (pv 1) (nomark _)) (pw_or1 (pt_cmpR op_gt (pe_callB call_len_seq (by rfl) T.b_len (by decide +kernel) (pa_cons (pv 4) pa_nil)) (pv 2) (nomark _)))))
        (pss_one (ps_ret pe_bl))
        pss_nil)
      (pss_cons (ps_set (i := 5) sc_wings_fit.nd rfl (.inl rfl) pe_dnewK)
      (pss_cons (ps_for PassesOwn.never rfl (pi_list (pe_op op_cat (pv 3) (pv 4))) (pg_name (i := 6) sc_wings_fit.nd rfl (.inl rfl))
        (pss_cons (ps_if (PW.pt (pw_or (pt_cmpR op_ge (pv 6) (pv 0) (nomark _)) (pw_or1 (pt_cmp (pc_din hu (pv 6) (pv 5))))))
          (pss_one (ps_ret pe_bl))
          pss_nil)
        (pss_one (ps_dput hu (pv 5) (pv 6) pe_bl rfl))))
      (pss_one (ps_ret pe_bl))))), ?_⟩
    refine q_when (et_or (et_test (ev_op (ev_len (ev_var rfl) (SqL.of hl)) (ev_var rfl) rv_I0)) fun _ => et_test (ev_op (ev_len (ev_var rfl) (SqL.of hrr)) (ev_var rfl) rv_I0)) (fun hb H1 e1 => ?_) (fun hb H1 e1 => ?_)
    · have q : Bad2n n x y l r := by
        simp [nv_length] at hb
        exact .inr (.inr (by omega))
      rw [decide_eq_false (fun z => z q)] at k
      exact s_ret ev_c fun H2 e2 => k H2 (e1.trans e2)
    · have n1 : ¬ x < l.length ∧ ¬ y < r.length := by simp [nv_length] at hb; omega
      have iff := not_bad2 (n := n) n1.1 n1.2
      intro d hd
      have ed := Ex.new (o := HO.dK []) hd
      refine q_forNLn (el_cat (ev_var rfl) (ev_var rfl) (ed _ _ (e1 _ _ hl)) (ed _ _ (e1 _ _ hrr)) (by rw [nv_length, nv_length]; exact sz_of (by omega)))
        (fun p i σ H' => (∃ v, σ = [some (.int n), some (.int x), some (.int y), some (.ref al), some (.ref ar), some (.ref d), v]) ∧ Ex H1 H' ∧ H' p = some (.lst (nv (l ++ r))) ∧ H' d = some (.dK (tk ((l ++ r).take i))) ∧ p ≠ d ∧ (∀ z ∈ (l ++ r).take i, z < n) ∧ ((l ++ r).take i).Nodup)
        (fun p H2 hp e2 h2 => ⟨⟨none, rfl⟩, ed.trans e2, by rw [h2, nv_append], e2 _ _ upd_same, (fun z => by rw [z, upd_same] at hp; cases hp), (fun z hz => nomatch hz), List.nodup_nil⟩)
        (fun p i σ' H' _ q => by rw [nv_append]; exact SqL.of q.2.2.1) ?_ ?_
      · rintro p i _ σ' H' hi ⟨⟨v, rfl⟩, e2, hp, hd2, pd, q1, q2⟩
        rw [nv_append] at hi
        obtain ⟨z, hz, rfl⟩ := nv_get hi
        refine q_when (et_or (et_test (ev_op (ev_var rfl) (ev_var rfl) rv_I0)) fun _ => et_B (ev_din (k := Sum.inl (z : Int)) (ev_var rfl) (ev_var rfl) hd2)) (fun hb H3 e3 => ?_) (fun hb H3 e3 => ?_)
        · have nb : ¬ ((∀ x ∈ l ++ r, x < n) ∧ (l ++ r).Nodup) := by
            rintro ⟨a1, a2⟩
            have m := a1 z (List.mem_of_getElem? hz)
            rw [Bool.or_eq_true, decide_eq_true_eq, tk_val] at hb
            rcases hb with hb | hb
            · omega
            · obtain ⟨j, hj, ej⟩ := List.getElem_of_mem hb
              rw [List.getElem_take] at ej
              obtain ⟨hi1, ei⟩ := List.getElem?_eq_some_iff.1 hz
              have := (List.getElem_inj (h₀ := by rw [List.length_take] at hj; omega) (h₁ := hi1) a2).1 (ej.trans ei.symm)
              rw [List.length_take] at hj
              omega
          rw [decide_eq_false (fun q => nb (iff.1 q))] at k
          exact s_ret ev_c fun H4 e4 => k.go (e1.trans (e2.trans (e3.trans e4)))
        · have zn : z < n ∧ z ∉ (l ++ r).take i := by
            rw [Bool.or_eq_false_iff, decide_eq_false_iff_not] at hb
            exact ⟨by omega, fun m => by rw [(tk_val _ _).2 m] at hb; cases hb.2⟩
          have hl60 : (tk ((l ++ r).take i)).length < sizeLine := by
            rw [tk_length, List.length_take]
            have : (l ++ r).length = l.length + r.length := List.length_append
            exact sz_lt (by omega)
          refine ⟨_, rfl, _, rfl, d, _, rfl, DPut.k (k := Sum.inl (z : Int)) (e3 _ _ hd2) hl60, ?_⟩
          refine ⟨⟨_, rfl⟩, Ex.mut (e2.trans e3) hd, ?_, ?_, pd, fun x hx => ?_, ?_⟩
          · rw [upd_ne pd]
            exact e3 _ _ hp
          · rw [upd_same, take_more hz, tk_put zn.2]
          · rw [take_more hz] at hx
            rcases List.mem_append.1 hx with hx | hx
            · exact q1 x hx
            · rw [List.mem_singleton] at hx
              subst hx
              exact zn.1
          · rw [take_more hz, List.nodup_append]
            refine ⟨q2, List.nodup_cons.2 ⟨fun z => (nomatch z), List.nodup_nil⟩, fun x hx y hy => ?_⟩
            rw [List.mem_singleton] at hy
            subst hy
            exact fun e => zn.2 (e ▸ hx)
      · rintro p σ' H' ⟨⟨v, rfl⟩, e2, hp, hd2, pd, q1, q2⟩
        rw [nv_append, nv_length, List.take_length] at q1 q2
        rw [decide_eq_true (iff.2 ⟨q1, q2⟩)] at k
        exact s_ret ev_c fun H4 e4 => k.go (e1.trans (e2.trans e4))
end
end SC

namespace SC
open PySem PySem.Spec PyProof.Rows L2 Evl
open SM (toZ Small Bad1 Bad2 BadS)
/-! ### pieces_rise -/
def ris (n : Nat) : Nat → List Nat → Bool
  | _, [] => true
  | lo, p :: r => if p < lo ∨ n ≤ p then false else ris n (p + 1) r
theorem ris_iff (n : Nat) : ∀ (l : List Nat) (lo : Nat), ris n lo l = true ↔ (∀ x ∈ l, x < n) ∧ Uw04.rising l = true ∧ ∀ x, l.head? = some x → lo ≤ x
  | [], lo => ⟨fun _ => ⟨(fun x h => nomatch h), rfl, (fun x h => nomatch h)⟩, fun _ => rfl⟩
  | p :: r, lo => by
    unfold ris
    by_cases c : p < lo ∨ n ≤ p
    · rw [if_pos c]
      refine ⟨fun h => (nomatch h), fun ⟨h1, _, h3⟩ => ?_⟩
      have a := h1 p (List.Mem.head _)
      have b := h3 p rfl
      omega
    · rw [if_neg c, ris_iff n r (p + 1)]
      constructor
      · rintro ⟨h1, h2, h3⟩
        refine ⟨fun x hx => ?_, ?_, fun x hx => ?_⟩
        · cases hx with
          | head => omega
          | tail _ hx => exact h1 x hx
        · cases r with
          | nil => rfl
          | cons q r =>
            show (decide (p < q) && Uw04.rising (q :: r)) = true
            rw [h2, decide_eq_true (show p < q from h3 q rfl)]
            rfl
        · have e : p = x := Option.some.inj hx
          omega
      · rintro ⟨h1, h2, h3⟩
        refine ⟨fun x hx => h1 x (List.Mem.tail _ hx), ?_, fun x hx => ?_⟩
        · cases r with
          | nil => rfl
          | cons q r =>
            have h2' : (decide (p < q) && Uw04.rising (q :: r)) = true := h2
            rw [Bool.and_eq_true] at h2'
            exact h2'.2
        · cases r with
          | nil => cases hx
          | cons q r =>
            have e : q = x := Option.some.inj hx
            subst e
            have h2' : (decide (p < q) && Uw04.rising (q :: r)) = true := h2
            rw [Bool.and_eq_true, decide_eq_true_eq] at h2'
            exact h2'.1
theorem ris_bad (n : Nat) (l : List Nat) : ris n 0 l = decide (¬ BadS n l) := by
  by_cases b : BadS n l
  · rw [decide_eq_false (fun z => z b)]
    cases q : ris n 0 l with
    | false => rfl
    | true =>
      exfalso
      obtain ⟨h1, h2, _⟩ := (ris_iff n l 0).1 q
      unfold BadS at b
      rw [List.all_eq_false] at b
      rcases b with b | ⟨x, hx, b⟩
      · rw [h2] at b
        cases b
      · exact b (decide_eq_true (h1 x hx))
  · rw [decide_eq_true b]
    obtain ⟨h1, h2⟩ := SM.BadS.ok b
    exact (ris_iff n l 0).2 ⟨h2, h1, fun x _ => Nat.zero_le _⟩
theorem drop_at {α : Type} {l : List α} {i : Nat} {x : α} (h : l[i]? = some x) : l.drop i = x :: l.drop (i + 1) := by
  obtain ⟨hi, e⟩ := List.getElem?_eq_some_iff.1 h
  rw [List.drop_eq_getElem_cons hi, e]
section
variable {P : Program} {w : World} {K : PySem.W.Frag} {mg : Str → Option Value} {base : Heap}
def spRise (K : PySem.W.Frag) : Sp := fun vs H Q _ => ∃ (a : Addr) (n : Nat) (l : List Nat), vs = [.int n, .ref a] ∧ SqL K H a (nv l) ∧ RetV (.bl (decide (¬ BadS n l))) H Q
theorem ok_pieces_rise (T : Tx K mg) : FnOk P w K mg base CX0 1 T.f_pieces_rise T.d_pieces_rise ["many", "pieces"] (spRise K) := by
  refine T.h_pieces_rise.F.ok sc_pieces_rise (fun vs H Q E h => ?_) (fun cdv A outer s H vs Q E hr h => ?_)
  · obtain ⟨a, n, l, rfl, _⟩ := h
    rfl
  · obtain ⟨a, n, l, rfl, hS, k⟩ := h
    rw [← ris_bad] at k
    refine ⟨_, (pss_cons (ps_set (i := 2) sc_pieces_rise.nd rfl (.inl rfl) pe_int)
      (pss_cons (ps_for PassesOwn.never rfl (pi_list (pv 1)) (pg_name (i := 3) sc_pieces_rise.nd rfl (.inl rfl))
        (pss_cons (ps_if (PW.pt (pw_or (pt_cmpR op_lt (pv 3) (pv 2) (nomark _)) (pw_or1 (pt_cmpR op_ge (pv 3) (pv 0) (nomark _)))))
          (pss_one (ps_ret pe_bl))
          pss_nil)
        (pss_one (ps_set (i := 2) sc_pieces_rise.nd rfl (.inl rfl) (pe_op op_add (pv 3) pe_int)))))
      (pss_one (ps_ret pe_bl)))), ?_⟩
    refine q_asg ev_c fun H1 e1 => ?_
    refine q_forLn (ev_var rfl) (ex_l e1 hS) (fun i σ H' => (∃ (lo : Nat) (v : Option V), σ = [some (.int n), some (.ref a), some (.int lo), v] ∧ ris n 0 l = ris n lo (l.drop i)) ∧ Ex H H') (fun H2 e2 => ⟨⟨0, none, rfl, rfl⟩, e1.trans e2⟩) (fun i σ' H' _ p => ex_l p.2 hS) ?_ ?_
    · rintro i _ σ' H' hi ⟨⟨lo, v, rfl, er⟩, e2⟩
      obtain ⟨z, hz, rfl⟩ := nv_get hi
      rw [drop_at hz] at er
      have er' : ris n 0 l = if z < lo ∨ n ≤ z then false else ris n (z + 1) (l.drop (i + 1)) := er
      refine q_when (et_or (et_test (ev_op (ev_var rfl) (ev_var rfl) rv_I0)) fun _ => et_test (ev_op (ev_var rfl) (ev_var rfl) rv_I0)) (fun hb H3 e3 => ?_) (fun hb H3 e3 => ?_)
      · rw [if_pos (by simp at hb; omega)] at er'
        rw [er'] at k
        exact s_ret ev_c fun H4 e4 => k.go (e2.trans (e3.trans e4))
      · rw [if_neg (by simp at hb; omega)] at er'
        refine s_asg (ev_op (ev_var rfl) ev_c rv_I0) fun H4 e4 => ⟨⟨z + 1, _, rfl, er'⟩, e2.trans (e3.trans e4)⟩
    · rintro σ' H' ⟨⟨lo, v, rfl, er⟩, e2⟩
      rw [nv_length, List.drop_length] at er
      rw [er] at k
      exact s_ret ev_c fun H4 e4 => k.go (e2.trans e4)
/-! ### rows_of -/
theorem falls_more (n k : Nat) : SM.falls n (k + 1) = SM.falls n k * (n - k) := by
  unfold SM.falls
  rw [List.range_succ, List.foldl_append]
  rfl
def spRows : Sp := fun vs H Q _ => ∃ (n k : Nat), vs = [.int n, .int k] ∧ k ≤ n ∧ n ≤ 4 ∧ RetV (.int (SM.falls n k)) H Q
theorem rv_mul {H : Hp} {i j : Int} (h : -(2 ^ 64) < j ∧ j < 2 ^ 64) : RV (rI CMul fun i j => .int (i * j)) (.int i) (.int j) H (.int (i * j)) := fun H1 _ _ q => ⟨i, j, rfl, rfl, .inr h, q H1 (Ex.refl H1)⟩
theorem ok_rows_of (T : Tx K mg) : FnOk P w K mg base CX0 1 T.f_rows_of T.d_rows_of ["many", "length"] spRows := by
  refine T.h_rows_of.F.ok sc_rows_of (fun vs H Q E h => ?_) (fun cdv A outer s H vs Q E hr h => ?_)
  · obtain ⟨n, k, rfl, _⟩ := h
    rfl
  · obtain ⟨n, k, rfl, hk, hn, kk⟩ := h
    refine ⟨_, (pss_cons (ps_set (i := 2) sc_rows_of.nd rfl (.inl rfl) pe_int)
      (pss_cons (ps_for PassesOwn.never rfl (pi_range1 rfl T.b_range (pa_cons (pv 1) pa_nil)) (pg_name (i := 3) sc_rows_of.nd rfl (.inl rfl))
        (pss_one (ps_set (i := 2) sc_rows_of.nd rfl (.inl rfl) (pe_op op_mul (pv 2) (pe_op op_sub (pv 0) (pv 3))))))
      (pss_one (ps_ret (pv 2))))), ?_⟩
    refine q_asg ev_c fun H1 e1 => ?_
    refine q_forR1 (ea_cons (ev_var rfl) ea_nil) (by omega) (fun i σ H' => (∃ v, σ = [some (.int n), some (.int k), some (.int (SM.falls n i)), v]) ∧ Ex H H') (fun H2 e2 => ⟨⟨none, rfl⟩, e1.trans e2⟩) ?_ ?_
    · rintro i σ' H' hi ⟨⟨v, rfl⟩, e2⟩
      refine s_asg (ev_op (ev_var rfl) (ev_op (ev_var rfl) (ev_var rfl) rv_I0) (rv_mul (by omega))) fun H3 e3 => ⟨⟨some (.int i), ?_⟩, e2.trans e3⟩
      have e : ((SM.falls n (i + 1) : Nat) : Int) = (SM.falls n i : Int) * ((n : Int) - (i : Int)) := by
        rw [falls_more, Int.natCast_mul, Int.natCast_sub (by omega)]
      rw [e]
      rfl
    · rintro σ' H' ⟨⟨v, rfl⟩, e2⟩
      exact s_ret (ev_var rfl) fun H4 e4 => kk.go (e2.trans e4)
/-! ### ways_to_stand -/
def inner (n i t : Nat) (m : Nat) : Nat := (List.range m).foldl (fun t j => t + SM.falls n (i + j)) t
def outer (n b : Nat) (m : Nat) : Nat := (List.range m).foldl (fun t i => inner n i t (min (n - i) b + 1)) 0
theorem inner_more (n i t m : Nat) : inner n i t (m + 1) = inner n i t m + SM.falls n (i + m) := by
  unfold inner
  rw [List.range_succ, List.foldl_append]
  rfl
theorem outer_more (n b m : Nat) : outer n b (m + 1) = inner n m (outer n b m) (min (n - m) b + 1) := by
  unfold outer
  rw [List.range_succ, List.foldl_append]
  rfl
theorem outer_count (n a b : Nat) : outer n b (min n a + 1) = SM.countOf n a b := rfl
def rMin2 : List V → Hp → VK → Prop := fun xs H Q => ∃ i j, xs = [.int i, .int j] ∧ Q (.int (if j < i then j else i)) H
theorem ev_min2 {σ : L2.St} {H : Hp} {ta tb : TE} {i j : Int} (ha : Ev ta σ H (.int i)) (hb : Ev tb σ H (.int j)) : Ev (tCB rMin2 (tCons ta (tCons tb tNil))) σ H (.int (if j < i then j else i)) :=
  ev_cb (ea_cons ha (ea_cons hb ea_nil)) fun H1 e Q q => ⟨i, j, rfl, q H1 (Ex.refl H1)⟩
theorem min_nat {n a : Nat} : (if (a : Int) < (n : Int) then (a : Int) else (n : Int)) + 1 = ((min n a + 1 : Nat) : Int) := by
  by_cases c : (a : Int) < (n : Int)
  · rw [if_pos c]
    omega
  · rw [if_neg c]
    omega
def spStand : Sp := fun vs H Q _ => ∃ (n a b : Nat), vs = [.int n, .int a, .int b] ∧ n ≤ 4 ∧ a ≤ 3 ∧ b ≤ 3 ∧ RetV (.int (SM.countOf n a b)) H Q
theorem ok_ways_to_stand (T : Tx K mg) : FnOk P w K mg base CX0 2 T.f_ways_to_stand T.d_ways_to_stand ["many", "left_room", "right_room"] spStand := by
  refine T.h_ways_to_stand.F.ok sc_ways_to_stand (fun vs H Q E h => ?_) (fun cdv A outer s H vs Q E hr h => ?_)
  · obtain ⟨n, a, b, rfl, _⟩ := h
    rfl
  · obtain ⟨n, a, b, rfl, hn, ha, hb, kk⟩ := h
    rw [← outer_count] at kk
    have hr_rows_of : Room 1 _ := hr
    refine ⟨_, (pss_cons (ps_set (i := 3) sc_ways_to_stand.nd rfl (.inl rfl) pe_int)
      (pss_cons (ps_for PassesOwn.never rfl (pi_range1 rfl T.b_range (pa_cons (pe_op op_add (pe_callB (call_min2 rfl) (by rfl) T.b_min (by decide +kernel) (pa_cons (pv 0) (pa_cons (pv 1) pa_nil))) pe_int) pa_nil)) (pg_name (i := 4) sc_ways_to_stand.nd rfl (.inl rfl))
        (pss_one (ps_for PassesOwn.never rfl (pi_range1 rfl T.b_range (pa_cons (pe_op op_add (pe_callB (call_min2 rfl) (by rfl) T.b_min (by decide +kernel) (pa_cons (pe_op op_sub (pv 0) (pv 4)) (pa_cons (pv 2) pa_nil))) pe_int) pa_nil)) (pg_name (i := 5) sc_ways_to_stand.nd rfl (.inl rfl))
          (pss_one (ps_set (i := 3) sc_ways_to_stand.nd rfl (.inl rfl) (pe_op op_add (pv 3) (pe_call (ok_rows_of T) hr_rows_of rfl T.h_rows_of.g T.h_rows_of.F.kp T.h_rows_of.b .nil pass0 (pa_cons (pv 0) (pa_cons (pe_op op_add (pv 4) (pv 5)) pa_nil)))))))))
      (pss_one (ps_ret (pv 3))))), ?_⟩
    refine q_asg ev_c fun H1 e1 => ?_
    refine q_forR1 (n := ((min n a + 1 : Nat) : Int)) (ea_cons (ev_is (ev_op (ev_min2 (ev_var rfl) (ev_var rfl)) ev_c rv_I0) (congrArg V.int min_nat)) ea_nil) (by omega) (fun i σ H' => (∃ u v, σ = [some (.int n), some (.int a), some (.int b), some (.int (SC.outer n b i)), u, v]) ∧ Ex H H') (fun H2 e2 => ⟨⟨none, none, rfl⟩, e1.trans e2⟩) ?_ ?_
    · rintro i σ' H' hi ⟨⟨u, v, rfl⟩, e2⟩
      have sb : (n : Int) - (i : Int) = ((n - i : Nat) : Int) := by omega
      refine s_forR1 (n := ((min (n - i) b + 1 : Nat) : Int)) (ea_cons (ev_is (ev_op (ev_min2 (ev_op (ev_var rfl) (ev_var rfl) rv_I0) (ev_var rfl)) ev_c rv_I0) (by rw [sb]; exact congrArg V.int min_nat)) ea_nil) (by omega)
        (fun j σ H' => (∃ v, σ = [some (.int n), some (.int a), some (.int b), some (.int (inner n i (SC.outer n b i) j)), some (.int i), v]) ∧ Ex H H') (fun H2 e3 => ⟨⟨v, rfl⟩, e2.trans e3⟩) ?_ ?_
      · rintro j σ' H' hj ⟨⟨v, rfl⟩, e3⟩
        refine s_asg (ev_op (ev_var rfl) (ev_call (ea_cons (ev_var rfl) (ea_cons (ev_op (ev_var rfl) (ev_var rfl) rv_I0) ea_nil)) (z := .int (SM.falls n (i + j))) ?_) rv_I0) fun H4 e4 => ⟨⟨some (.int j), ?_⟩, e3.trans e4⟩
        · exact fun H5 e5 Q q E => ⟨n, i + j, by simp, by omega, by omega, q⟩
        · rw [inner_more, Int.natCast_add]
          rfl
      · rintro σ' H' ⟨⟨v, rfl⟩, e3⟩
        refine ⟨⟨some (.int i), v, ?_⟩, e3⟩
        rw [outer_more]
        rfl
    · rintro σ' H' ⟨⟨u, v, rfl⟩, e2⟩
      exact s_ret (ev_var rfl) fun H4 e4 => kk.go (e2.trans e4)
end
end SC

namespace SC
open PySem PySem.Spec PyProof.Rows L2 Evl
open SM (toZ Small Bad1 Bad2 BadS)
def hF (v0 v1 v2 v3 v4 v5 : V) : List (Str × V) := [("heavy", v0), ("left_room", v1), ("right_room", v2), ("left", v3), ("right", v4), ("scenes", v5)]
theorem hF_heavy {v0 v1 v2 v3 v4 v5 : V} : (hF v0 v1 v2 v3 v4 v5).lookup ("heavy" : Str) = some v0 := lk_here
theorem hF_left_room {v0 v1 v2 v3 v4 v5 : V} : (hF v0 v1 v2 v3 v4 v5).lookup ("left_room" : Str) = some v1 := (lk_past (by decide +kernel)).trans (lk_here)
theorem hF_right_room {v0 v1 v2 v3 v4 v5 : V} : (hF v0 v1 v2 v3 v4 v5).lookup ("right_room" : Str) = some v2 := (lk_past (by decide +kernel)).trans ((lk_past (by decide +kernel)).trans (lk_here))
theorem hF_left {v0 v1 v2 v3 v4 v5 : V} : (hF v0 v1 v2 v3 v4 v5).lookup ("left" : Str) = some v3 := (lk_past (by decide +kernel)).trans ((lk_past (by decide +kernel)).trans ((lk_past (by decide +kernel)).trans (lk_here)))
theorem hF_right {v0 v1 v2 v3 v4 v5 : V} : (hF v0 v1 v2 v3 v4 v5).lookup ("right" : Str) = some v4 := (lk_past (by decide +kernel)).trans ((lk_past (by decide +kernel)).trans ((lk_past (by decide +kernel)).trans ((lk_past (by decide +kernel)).trans (lk_here))))
theorem hF_scenes {v0 v1 v2 v3 v4 v5 : V} : (hF v0 v1 v2 v3 v4 v5).lookup ("scenes" : Str) = some v5 := (lk_past (by decide +kernel)).trans ((lk_past (by decide +kernel)).trans ((lk_past (by decide +kernel)).trans ((lk_past (by decide +kernel)).trans ((lk_past (by decide +kernel)).trans (lk_here)))))
theorem hF_put_heavy {v0 v1 v2 v3 v4 v5 y : V} : putF "heavy" y (hF v0 v1 v2 v3 v4 v5) = hF y v1 v2 v3 v4 v5 := put_here
theorem hF_put_left_room {v0 v1 v2 v3 v4 v5 y : V} : putF "left_room" y (hF v0 v1 v2 v3 v4 v5) = hF v0 y v2 v3 v4 v5 := (put_past (by decide +kernel)).trans (congrArg _ (put_here))
theorem hF_put_right_room {v0 v1 v2 v3 v4 v5 y : V} : putF "right_room" y (hF v0 v1 v2 v3 v4 v5) = hF v0 v1 y v3 v4 v5 := (put_past (by decide +kernel)).trans (congrArg _ ((put_past (by decide +kernel)).trans (congrArg _ (put_here))))
theorem hF_put_left {v0 v1 v2 v3 v4 v5 y : V} : putF "left" y (hF v0 v1 v2 v3 v4 v5) = hF v0 v1 v2 y v4 v5 := (put_past (by decide +kernel)).trans (congrArg _ ((put_past (by decide +kernel)).trans (congrArg _ ((put_past (by decide +kernel)).trans (congrArg _ (put_here))))))
theorem hF_put_right {v0 v1 v2 v3 v4 v5 y : V} : putF "right" y (hF v0 v1 v2 v3 v4 v5) = hF v0 v1 v2 v3 y v5 := (put_past (by decide +kernel)).trans (congrArg _ ((put_past (by decide +kernel)).trans (congrArg _ ((put_past (by decide +kernel)).trans (congrArg _ ((put_past (by decide +kernel)).trans (congrArg _ (put_here))))))))
theorem hF_put_scenes {v0 v1 v2 v3 v4 v5 y : V} : putF "scenes" y (hF v0 v1 v2 v3 v4 v5) = hF v0 v1 v2 v3 v4 y := (put_past (by decide +kernel)).trans (congrArg _ ((put_past (by decide +kernel)).trans (congrArg _ ((put_past (by decide +kernel)).trans (congrArg _ ((put_past (by decide +kernel)).trans (congrArg _ ((put_past (by decide +kernel)).trans (congrArg _ (put_here))))))))))
theorem hF_no {v0 v1 v2 v3 v4 v5 : V} {m : Str} (h_heavy : (m == ("heavy" : Str)) = false) (h_left_room : (m == ("left_room" : Str)) = false) (h_right_room : (m == ("right_room" : Str)) = false) (h_left : (m == ("left" : Str)) = false) (h_right : (m == ("right" : Str)) = false) (h_scenes : (m == ("scenes" : Str)) = false) : (hF v0 v1 v2 v3 v4 v5).lookup m = none := (lk_past (h_heavy)).trans ((lk_past (h_left_room)).trans ((lk_past (h_right_room)).trans ((lk_past (h_left)).trans ((lk_past (h_right)).trans ((lk_past (h_scenes)).trans (rfl))))))
theorem hF_n1 {v0 v1 : V} : putF "left_room" v1 ([("heavy", v0)] : List (Str × V)) = ([("heavy", v0), ("left_room", v1)] : List (Str × V)) := (put_past (by decide +kernel)).trans (congrArg _ (rfl))
theorem hF_n2 {v0 v1 v2 : V} : putF "right_room" v2 ([("heavy", v0), ("left_room", v1)] : List (Str × V)) = ([("heavy", v0), ("left_room", v1), ("right_room", v2)] : List (Str × V)) := (put_past (by decide +kernel)).trans (congrArg _ ((put_past (by decide +kernel)).trans (congrArg _ (rfl))))
theorem hF_n3 {v0 v1 v2 v3 : V} : putF "left" v3 ([("heavy", v0), ("left_room", v1), ("right_room", v2)] : List (Str × V)) = ([("heavy", v0), ("left_room", v1), ("right_room", v2), ("left", v3)] : List (Str × V)) := (put_past (by decide +kernel)).trans (congrArg _ ((put_past (by decide +kernel)).trans (congrArg _ ((put_past (by decide +kernel)).trans (congrArg _ (rfl))))))
theorem hF_n4 {v0 v1 v2 v3 v4 : V} : putF "right" v4 ([("heavy", v0), ("left_room", v1), ("right_room", v2), ("left", v3)] : List (Str × V)) = ([("heavy", v0), ("left_room", v1), ("right_room", v2), ("left", v3), ("right", v4)] : List (Str × V)) := (put_past (by decide +kernel)).trans (congrArg _ ((put_past (by decide +kernel)).trans (congrArg _ ((put_past (by decide +kernel)).trans (congrArg _ ((put_past (by decide +kernel)).trans (congrArg _ (rfl))))))))
theorem hF_n5 {v0 v1 v2 v3 v4 v5 : V} : putF "scenes" v5 ([("heavy", v0), ("left_room", v1), ("right_room", v2), ("left", v3), ("right", v4)] : List (Str × V)) = ([("heavy", v0), ("left_room", v1), ("right_room", v2), ("left", v3), ("right", v4), ("scenes", v5)] : List (Str × V)) := (put_past (by decide +kernel)).trans (congrArg _ ((put_past (by decide +kernel)).trans (congrArg _ ((put_past (by decide +kernel)).trans (congrArg _ ((put_past (by decide +kernel)).trans (congrArg _ ((put_past (by decide +kernel)).trans (congrArg _ (rfl))))))))))
theorem hF_new {v0 v1 v2 v3 v4 v5 : V} : putF "scenes" v5 (putF "right" v4 (putF "left" v3 (putF "right_room" v2 (putF "left_room" v1 (putF "heavy" v0 []))))) = hF v0 v1 v2 v3 v4 v5 := by
  show putF "scenes" v5 (putF "right" v4 (putF "left" v3 (putF "right_room" v2 (putF "left_room" v1 (([("heavy", v0)] : List (Str × V))))))) = _
  rw [hF_n1, hF_n2, hF_n3, hF_n4, hF_n5]
  rfl
def rF (v0 v1 : V) : List (Str × V) := [("numbers", v0), ("place", v1)]
theorem rF_numbers {v0 v1 : V} : (rF v0 v1).lookup ("numbers" : Str) = some v0 := lk_here
theorem rF_place {v0 v1 : V} : (rF v0 v1).lookup ("place" : Str) = some v1 := (lk_past (by decide +kernel)).trans (lk_here)
theorem rF_put_numbers {v0 v1 y : V} : putF "numbers" y (rF v0 v1) = rF y v1 := put_here
theorem rF_put_place {v0 v1 y : V} : putF "place" y (rF v0 v1) = rF v0 y := (put_past (by decide +kernel)).trans (congrArg _ (put_here))
theorem rF_no {v0 v1 : V} {m : Str} (h_numbers : (m == ("numbers" : Str)) = false) (h_place : (m == ("place" : Str)) = false) : (rF v0 v1).lookup m = none := (lk_past (h_numbers)).trans ((lk_past (h_place)).trans (rfl))
theorem rF_n1 {v0 v1 : V} : putF "place" v1 ([("numbers", v0)] : List (Str × V)) = ([("numbers", v0), ("place", v1)] : List (Str × V)) := (put_past (by decide +kernel)).trans (congrArg _ (rfl))
theorem rF_new {v0 v1 : V} : putF "place" v1 (putF "numbers" v0 []) = rF v0 v1 := by
  show putF "place" v1 (([("numbers", v0)] : List (Str × V))) = _
  rw [rF_n1]
  rfl
def Few (n : Nat) (l : List (Str × V)) : Prop := l.length ≤ n
theorem few_nil : Few 0 [] := Nat.le_refl _
theorem few_put {n : Nat} {f : Str} {v : V} : ∀ {l : List (Str × V)}, Few n l → Few (n + 1) (putF f v l)
  | [], _ => Nat.succ_le_succ (Nat.zero_le _)
  | (g, x) :: l, h => by
    unfold Few
    by_cases c : g = f
    · subst c
      rw [put_here]
      exact Nat.le_succ_of_le h
    · rw [put_past c]
      cases n with
      | zero => exact absurd h (Nat.not_succ_le_zero _)
      | succ n => exact Nat.succ_le_succ (few_put (l := l) (Nat.le_of_succ_le_succ h))
theorem Few.lt {n : Nat} {l : List (Str × V)} (h : Few n l) (c : n < 1000) : l.length < 1000 := Nat.lt_of_le_of_lt h c
/-- the scenes' lists, one by one -/
inductive Rows2 (H : Hp) : List Addr → List (List Nat) → Prop
  | nil : Rows2 H [] []
  | cons {p ps c cs} : H p = some (.lst (nv c)) → Rows2 H ps cs → Rows2 H (p :: ps) (c :: cs)
theorem Rows2.mono {H H' : Hp} {ps : List Addr} {cs : List (List Nat)} (h : Rows2 H ps cs) (e : ∀ p ∈ ps, ∀ o, H p = some o → H' p = some o) : Rows2 H' ps cs := by
  induction h with
  | nil => exact .nil
  | cons a _ ih => exact .cons (e _ (List.Mem.head _) _ a) (ih fun p hp => e p (List.Mem.tail _ hp))
theorem Rows2.length {H : Hp} {ps : List Addr} {cs : List (List Nat)} (h : Rows2 H ps cs) : ps.length = cs.length := by
  induction h with
  | nil => rfl
  | cons _ _ ih => exact congrArg (· + 1) ih
theorem Rows2.snoc {H : Hp} {ps : List Addr} {cs : List (List Nat)} {q : Addr} {c : List Nat} (h : Rows2 H ps cs) (hq : H q = some (.lst (nv c))) : Rows2 H (ps ++ [q]) (cs ++ [c]) := by
  induction h with
  | nil => exact .cons hq .nil
  | cons a _ ih => exact .cons a ih
theorem Rows2.dropLast {H : Hp} {ps : List Addr} {cs : List (List Nat)} (h : Rows2 H ps cs) : Rows2 H ps.dropLast cs.dropLast := by
  induction h with
  | nil => exact .nil
  | cons a b ih =>
    cases b with
    | nil => exact .nil
    | cons a' b' => exact .cons a ih
theorem Rows2.some {H : Hp} {ps : List Addr} {cs : List (List Nat)} (h : Rows2 H ps cs) : ∀ p ∈ ps, ∃ c, H p = Option.some (.lst (nv c)) := by
  induction h with
  | nil => exact fun p hp => nomatch hp
  | cons a _ ih =>
    intro p hp
    cases hp with
    | head => exact ⟨_, a⟩
    | tail _ hp => exact ih p hp
/-- a house at a; L: its own lists (that of the scenes first, which alone is changed in place) -/
structure HouseAt (C : Addr) (H : Hp) (a : Addr) (L : List Addr) (s : Uw04.St) : Prop where
  ex : ∃ (dx z ah al ar : Addr) (ss : List Addr), L = z :: ah :: al :: ar :: ss ∧ H a = some (.ins C dx (hF (.ref ah) (.int s.house.roomLeft) (.int s.house.roomRight) (.ref al) (.ref ar) (.ref z))) ∧
    H ah = some (.lst (nv s.house.heavy)) ∧ H al = some (.lst (nv s.stand.left)) ∧ H ar = some (.lst (nv s.stand.right)) ∧ H z = some (.lst (ss.map V.ref)) ∧ Rows2 H ss s.house.scenes ∧
    z ≠ ah ∧ z ≠ al ∧ z ≠ ar ∧ z ∉ ss
theorem HouseAt.keep {C : Addr} {H H' : Hp} {a : Addr} {L : List Addr} {s : Uw04.St} (h : HouseAt C H a L s) (ea : ∀ o, H a = some o → H' a = some o) (e : ∀ b ∈ L, ∀ o, H b = some o → H' b = some o) : HouseAt C H' a L s := by
  obtain ⟨dx, z, ah, al, ar, ss, hL, h1, h2, h3, h4, h5, h6, r⟩ := h
  subst hL
  refine ⟨dx, z, ah, al, ar, ss, rfl, ea _ h1, e _ ?_ _ h2, e _ ?_ _ h3, e _ ?_ _ h4, e _ ?_ _ h5, h6.mono fun p hp o => e p ?_ o, r⟩
  · exact .tail _ (.head _)
  · exact .tail _ (.tail _ (.head _))
  · exact .tail _ (.tail _ (.tail _ (.head _)))
  · exact .head _
  · exact .tail _ (.tail _ (.tail _ (.tail _ hp)))
theorem HouseAt.mono {C : Addr} {H H' : Hp} {a : Addr} {L : List Addr} {s : Uw04.St} (h : HouseAt C H a L s) (e : Ex H H') : HouseAt C H' a L s := h.keep (fun o => e a o) fun b _ o => e b o
/-- each of its own lists is a list -/
theorem HouseAt.lst {C : Addr} {H : Hp} {a : Addr} {L : List Addr} {s : Uw04.St} (h : HouseAt C H a L s) : ∀ b ∈ L, ∃ xs, H b = some (.lst xs) := by
  obtain ⟨dx, z, ah, al, ar, ss, hL, h1, h2, h3, h4, h5, h6, r⟩ := h
  subst hL
  intro b hb
  cases hb with
  | head => exact ⟨_, h5⟩
  | tail _ hb =>
  cases hb with
  | head => exact ⟨_, h2⟩
  | tail _ hb =>
  cases hb with
  | head => exact ⟨_, h3⟩
  | tail _ hb =>
  cases hb with
  | head => exact ⟨_, h4⟩
  | tail _ hb =>
    obtain ⟨c, hc⟩ := h6.some b hb
    exact ⟨_, hc⟩
/-- all but the house and its own lists is as it was -/
def Frame (H H' : Hp) (a : Addr) (L : List Addr) : Prop := ∀ b o, H b = some o → b ≠ a → b ∉ L → H' b = some o
/-- a list of one's own is an old one or new -/
def Grown (H : Hp) (L L' : List Addr) : Prop := ∀ b ∈ L', b ∈ L ∨ H b = none
theorem Grown.refl (H : Hp) (L : List Addr) : Grown H L L := fun b hb => .inl hb
section
variable {P : Program} {w : World} {K : PySem.W.Frag} {mg : Str → Option Value} {base : Heap}
def spHInit (C : Addr) : Sp := fun vs H Q _ => ∃ (p dx : Addr), vs = [.ref p] ∧ H p = some (.ins C dx []) ∧
  ∀ (H' : Hp) (L : List Addr), HouseAt C H' p L Uw04.init → (∀ b ∈ L, H b = none) → (∀ b o, H b = some o → b ≠ p → H' b = some o) → Q .non H'
theorem ok_House_init (T : Tx K mg) : FnOk P w K mg base CX0 1 T.f_House_init T.d_House_init ["self"] (spHInit T.C_House) := by
  refine T.h_House_init.F.ok sc_House_init (fun vs H Q E h => ?_) (fun cdv A outer s H vs Q E hr h => ?_)
  · obtain ⟨p, dx, rfl, _⟩ := h
    rfl
  · obtain ⟨p, dx, rfl, hp, k⟩ := h
    refine ⟨_, (pss_cons (ps_fld (pv 0) (pe_lst pa_nil) rfl)
      (pss_cons (ps_fld (pv 0) pe_int rfl)
      (pss_cons (ps_fld (pv 0) pe_int rfl)
      (pss_cons (ps_fld (pv 0) (pe_lst pa_nil) rfl)
      (pss_cons (ps_fld (pv 0) (pe_lst pa_nil) rfl)
      (pss_one (ps_fld (pv 0) (pe_lst pa_nil) rfl))))))), ?_⟩
    refine ⟨by decide, fun l0 n0 => ?_⟩
    have q0 : p ≠ l0 := ne_of_none hp n0
    refine ⟨_, rfl, p, _, dx, _, rfl, (upd_ne q0).trans hp, T.cl_House, T.n_House_heavy, (few_nil).lt (by decide), ?_⟩
    refine ⟨_, rfl, p, _, dx, _, rfl, upd_same, T.cl_House, T.n_House_left_room, ((few_put few_nil)).lt (by decide), ?_⟩
    refine ⟨_, rfl, p, _, dx, _, rfl, upd_same, T.cl_House, T.n_House_right_room, ((few_put (few_put few_nil))).lt (by decide), ?_⟩
    refine ⟨by decide, fun l1 n1 => ?_⟩
    have q1 : p ≠ l1 := fun z => by rw [z, upd_same] at n1; cases n1
    refine ⟨_, rfl, p, _, dx, _, rfl, (upd_ne q1).trans upd_same, T.cl_House, T.n_House_left, ((few_put (few_put (few_put few_nil)))).lt (by decide), ?_⟩
    refine ⟨by decide, fun l2 n2 => ?_⟩
    have q2 : p ≠ l2 := fun z => by rw [z, upd_same] at n2; cases n2
    refine ⟨_, rfl, p, _, dx, _, rfl, (upd_ne q2).trans upd_same, T.cl_House, T.n_House_right, ((few_put (few_put (few_put (few_put few_nil))))).lt (by decide), ?_⟩
    refine ⟨by decide, fun l3 n3 => ?_⟩
    have q3 : p ≠ l3 := fun z => by rw [z, upd_same] at n3; cases n3
    refine ⟨_, rfl, p, _, dx, _, rfl, (upd_ne q3).trans upd_same, T.cl_House, T.n_House_scenes, ((few_put (few_put (few_put (few_put (few_put few_nil)))))).lt (by decide), ?_⟩
    rw [hF_new]
    have u0 : l3 ≠ l0 := fun z => by simp [upd, z, Ne.symm q0] at n3
    have u1 : l3 ≠ l1 := fun z => by simp [upd, z, Ne.symm q1] at n3
    have u2 : l3 ≠ l2 := fun z => by simp [upd, z, Ne.symm q2] at n3
    have w0 : l2 ≠ l0 := fun z => by simp [upd, z, Ne.symm q0] at n2
    have w1 : l2 ≠ l1 := fun z => by simp [upd, z, Ne.symm q1] at n2
    have x0 : l1 ≠ l0 := fun z => by simp [upd, z, Ne.symm q0] at n1
    refine k _ [l3, l0, l1, l2] ⟨dx, l3, l0, l1, l2, [], rfl, upd_same, ?_, ?_, ?_, ?_, .nil, u0, u1, u2, fun z => nomatch z⟩ ?_ ?_
    · simp [upd, Ne.symm q0, Ne.symm u0, Ne.symm w0, Ne.symm x0]
      rfl
    · simp [upd, Ne.symm q1, Ne.symm u1, Ne.symm w1]
      rfl
    · simp [upd, Ne.symm q2, Ne.symm u2]
      rfl
    · simp [upd, Ne.symm q3]
    · simp [upd, Ne.symm q3, u2, u1, u0] at n3
      simp [upd, Ne.symm q2, w1, w0] at n2
      simp [upd, Ne.symm q1, x0] at n1
      intro b hb
      simp at hb
      rcases hb with rfl | rfl | rfl | rfl
      · exact n3
      · exact n0
      · exact n1
      · exact n2
    · intro b o hb bp
      have r0 : b ≠ l0 := ne_of_none hb n0
      have y0 : b ≠ l1 := fun z => by
        subst z
        simp [upd, bp, r0] at n1
        rw [n1] at hb
        cases hb
      have y1 : b ≠ l2 := fun z => by
        subst z
        simp [upd, bp, r0, y0] at n2
        rw [n2] at hb
        cases hb
      have y2 : b ≠ l3 := fun z => by
        subst z
        simp [upd, bp, r0, y0, y1] at n3
        rw [n3] at hb
        cases hb
      simp [upd, bp, r0, y0, y1, y2, hb]
end
end SC

namespace SC
open PySem PySem.Spec PyProof.Rows L2 Evl
open SM (toZ Small Bad1 Bad2 BadS)
/-- all but a is as it was -/
def Fr (H H' : Hp) (a : Addr) : Prop := ∀ b o, H b = some o → b ≠ a → H' b = some o
theorem Fr.ex {H H' : Hp} {a : Addr} (e : Ex H H') : Fr H H' a := fun b o h _ => e b o h
theorem Fr.trans {H H1 H2 : Hp} {a : Addr} (e : Fr H H1 a) (e' : Fr H1 H2 a) : Fr H H2 a := fun b o h n => e' b o (e b o h n) n
theorem Fr.upd {H : Hp} {a : Addr} {o : HO} : Fr H (upd H a o) a := fun b _ h n => (upd_ne n).trans h
theorem ins_ne_lst {H : Hp} {a p C dx : Addr} {fs : List (Str × V)} {xs : List V} (h : H a = some (.ins C dx fs)) (k : H p = some (.lst xs)) : p ≠ a := fun z => by
  rw [z, h] at k
  cases k
section
variable {K : PySem.W.Frag} {σ : L2.St} {H : Hp} {ta tb to tv : TE} {D : Ends} {tz : TS} {a C dx : Addr} {fs : List (Str × V)} {f : Str} {v : V}
theorem ev_fld (ho : Ev to σ H (.ref a)) (ha : H a = some (.ins C dx fs)) (cl : Cls K C) (na : NoAttr K C f) (hf : fs.lookup f = some v) : Ev (tFld K to f) σ H v :=
  fun H1 e Q q => ho H1 e _ fun H2 e2 => ⟨a, C, dx, fs, v, rfl, (e.trans e2) _ _ ha, cl, na, hf, q H2 e2⟩
theorem s_fld (hv : Ev tv σ H v) (ho : Ev to σ H (.ref a)) (ha : H a = some (.ins C dx fs)) (cl : Cls K C) (na : NoAttr K C f) (fw : fs.length < 1000) (k : ∀ H1, Ex H H1 → D.nx σ (upd H1 a (.ins C dx (putF f v fs)))) : sFld K to tv f D σ H :=
  hv H (Ex.refl H) _ fun H1 e => ho H1 e _ fun H2 e2 => ⟨a, C, dx, fs, rfl, (e.trans e2) _ _ ha, cl, na, fw, k H2 (e.trans e2)⟩
theorem q_fld (hv : Ev tv σ H v) (ho : Ev to σ H (.ref a)) (ha : H a = some (.ins C dx fs)) (cl : Cls K C) (na : NoAttr K C f) (fw : fs.length < 1000) (k : ∀ H1, Ex H H1 → tz D σ (upd H1 a (.ins C dx (putF f v fs)))) : tSeq (sFld K to tv f) tz D σ H :=
  s_fld (D := { D with nx := tz D }) hv ho ha cl na fw k
theorem q_fldL {xs : List V} (hv : EvL tv σ H xs) (ho : Ev to σ H (.ref a)) (ha : H a = some (.ins C dx fs)) (cl : Cls K C) (na : NoAttr K C f) (fw : fs.length < 1000)
    (k : ∀ p H1, H p = none → Ex H H1 → H1 p = some (.lst xs) → tz D σ (upd H1 a (.ins C dx (putF f (.ref p) fs)))) : tSeq (sFld K to tv f) tz D σ H :=
  hv H (Ex.refl H) _ fun p H1 hp e h1 => ho H1 e _ fun H2 e2 => ⟨a, C, dx, fs, rfl, (e.trans e2) _ _ ha, cl, na, fw, k p H2 hp (e.trans e2) (e2 _ _ h1)⟩
end
section
variable {P : Program} {w : World} {K : PySem.W.Frag} {mg : Str → Option Value} {base : Heap}
/-- a call that may change the house: what comes of it -/
def After (C : Addr) (H : Hp) (a : Addr) (L : List Addr) (s : Uw04.St) (x : Uw04.Call) (Q : VK) : Prop :=
  ∀ (H' : Hp) (L' : List Addr), HouseAt C H' a L' (Uw04.step s x).1 → Grown H L L' → Frame H H' a L → Q (.int (Uw04.step s x).2.v) H'
def spBegins (C : Addr) : Sp := fun vs H Q _ => ∃ (a ah al ar : Addr) (L : List Addr) (s : Uw04.St) (h l r : List Nat) (x y : Nat), vs = [.ref a, .ref ah, .int x, .int y, .ref al, .ref ar] ∧ HouseAt C H a L s ∧
  H ah = some (.lst (nv h)) ∧ H al = some (.lst (nv l)) ∧ H ar = some (.lst (nv r)) ∧ l.length ≤ 30 ∧ r.length ≤ 30 ∧ After C H a L s (.begins h x y l r) Q
theorem Frame.ex {H H' : Hp} {a : Addr} {L : List Addr} (e : Ex H H') : Frame H H' a L := fun b o h _ _ => e b o h
theorem ok_House_begins (T : Tx K mg) : FnOk P w K mg base CX0 3 T.f_House_begins T.d_House_begins ["self", "heavy", "left_room", "right_room", "left", "right"] (spBegins T.C_House) := by
  refine T.h_House_begins.F.ok sc_House_begins (fun vs H Q E h => ?_) (fun cdv A outer s H vs Q E hr h => ?_)
  · obtain ⟨a, ah, al, ar, L, s, h, l, r, x, y, rfl, _⟩ := h
    rfl
  · obtain ⟨a, ah, al, ar, L, st, h, l, r, x, y, rfl, hH, h1, h2, h3, b1, b2, k⟩ := h
    have hr_sizes_fit : Room 1 _ := hr.mono (by decide)
    have hr_wings_fit : Room 1 _ := hr.mono (by decide)
    have hr_ways_to_stand : Room 2 _ := hr
    unfold After at k
    rw [SM.step_begins] at k
    refine ⟨_, (pss_cons (ps_set (i := 6) sc_House_begins.nd rfl (.inl rfl) (pe_callB call_len_seq (by rfl) T.b_len (by decide +kernel) (pa_cons (pv 1) pa_nil)))
      (pss_cons (ps_if (pt_not (pt_val (pe_call (ok_sizes_fit T) hr_sizes_fit rfl T.h_sizes_fit.g T.h_sizes_fit.F.kp T.h_sizes_fit.b .nil pass0 (pa_cons (pv 1) (pa_cons (pv 2) (pa_cons (pv 3) pa_nil))))))
        (pss_one (ps_ret (pe_un un_neg pe_int)))
        pss_nil)
      (pss_cons (ps_if (pt_not (pt_val (pe_call (ok_wings_fit T) hr_wings_fit rfl T.h_wings_fit.g T.h_wings_fit.F.kp T.h_wings_fit.b .nil pass0 (pa_cons (pv 6) (pa_cons (pv 2) (pa_cons (pv 3) (pa_cons (pv 4) (pa_cons (pv 5) pa_nil))))))))
        (pss_one (ps_ret (pe_un un_neg pe_int)))
        pss_nil)
      (pss_cons (ps_fld (pv 0) (pe_callTy call_list_of (by rfl) T.b_list (by decide +kernel) (pa_cons (pv 1) pa_nil)) rfl)
      (pss_cons (ps_fld (pv 0) (pv 2) rfl)
      (pss_cons (ps_fld (pv 0) (pv 3) rfl)
      (pss_cons (ps_fld (pv 0) (pe_callTy call_list_of (by rfl) T.b_list (by decide +kernel) (pa_cons (pv 4) pa_nil)) rfl)
      (pss_cons (ps_fld (pv 0) (pe_callTy call_list_of (by rfl) T.b_list (by decide +kernel) (pa_cons (pv 5) pa_nil)) rfl)
      (pss_cons (ps_fld (pv 0) (pe_lst pa_nil) rfl)
      (pss_one (ps_ret (pe_call (ok_ways_to_stand T) hr_ways_to_stand rfl T.h_ways_to_stand.g T.h_ways_to_stand.F.kp T.h_ways_to_stand.b .nil pass0 (pa_cons (pv 6) (pa_cons (pv 2) (pa_cons (pv 3) pa_nil))))))))))))))), ?_⟩
    refine q_asg (ev_len (ev_var rfl) (SqL.of h1)) fun H1 e1 => ?_
    refine q_when (et_not (et_B (ev_call (z := .bl (decide (¬ Bad1 h x y))) (ea_cons (ev_var rfl) (ea_cons (ev_var rfl) (ea_cons (ev_var rfl) ea_nil))) ?_))) (fun hb H2 e2 => ?_) (fun hb H2 e2 => ?_)
    · exact fun H2 e2 Q q E => ⟨ah, h, x, y, rfl, SqL.of ((e1.trans e2) _ _ h1), q⟩
    · have bad : Bad1 h x y := by simpa using hb
      rw [if_pos bad] at k
      exact s_ret (ev_un ev_c ru_neg) fun H3 e3 => k H3 L (hH.mono (e1.trans (e2.trans e3))) (Grown.refl _ _) (Frame.ex (e1.trans (e2.trans e3)))
    · have good : ¬ Bad1 h x y := by simpa using hb
      rw [if_neg good] at k
      have e12 := e1.trans e2
      have e0 : ((nv h).length : Int) = (h.length : Int) := by rw [nv_length]
      refine q_when (et_not (et_B (ev_call (z := .bl (decide (¬ Bad2n h.length x y l r))) (ea_cons (ev_var rfl) (ea_cons (ev_var rfl) (ea_cons (ev_var rfl) (ea_cons (ev_var rfl) (ea_cons (ev_var rfl) ea_nil))))) ?_))) (fun hb2 H3 e3 => ?_) (fun hb2 H3 e3 => ?_)
      · exact fun H3 e3 Q q E => ⟨al, ar, h.length, x, y, l, r, by rw [e0]; rfl, (e12.trans e3) _ _ h2, (e12.trans e3) _ _ h3, b1, b2, q⟩
      · have bad : Bad2 h x y l r := (show Bad2n h.length x y l r by simpa using hb2)
        rw [if_pos bad] at k
        exact s_ret (ev_un ev_c ru_neg) fun H4 e4 => k H4 L (hH.mono (e12.trans (e3.trans e4))) (Grown.refl _ _) (Frame.ex (e12.trans (e3.trans e4)))
      · have good2 : ¬ Bad2 h x y l r := (show ¬ Bad2n h.length x y l r by simpa using hb2)
        rw [if_neg good2] at k
        have e13 := e12.trans e3
        obtain ⟨dx, z, ah', al', ar', ss, hL, q1, q2, q3, q4, q5, q6, q7⟩ := hH
        have q1' := e13 _ _ q1
        have f6 : Few 6 (hF (.ref ah') (.int st.house.roomLeft) (.int st.house.roomRight) (.ref al') (.ref ar') (.ref z)) := Nat.le_refl _
        refine q_fldL (el_list (ev_var rfl) (SqL.of (e13 _ _ h1))) (ev_var rfl) q1' T.cl_House T.n_House_heavy (f6.lt (by decide)) fun p0 H4 n0 e4 m0 => ?_
        rw [hF_put_heavy]
        refine q_fld (ev_var rfl) (ev_var rfl) upd_same T.cl_House T.n_House_left_room (Few.lt (n := 6) (Nat.le_refl _) (by decide)) fun H5 e5 => ?_
        rw [hF_put_left_room]
        refine q_fld (ev_var rfl) (ev_var rfl) upd_same T.cl_House T.n_House_right_room (Few.lt (n := 6) (Nat.le_refl _) (by decide)) fun H6 e6 => ?_
        rw [hF_put_right_room]
        have r4 : Fr H3 H4 a := Fr.ex e4
        have r5 : Fr H4 H5 a := Fr.upd.trans (Fr.ex e5)
        have r6 : Fr H5 H6 a := Fr.upd.trans (Fr.ex e6)
        have al_ne : al ≠ a := ins_ne_lst q1 h2
        have ar_ne : ar ≠ a := ins_ne_lst q1 h3
        have r36 := r4.trans (r5.trans r6)
        have h2' : upd H6 a (HO.ins T.C_House dx (hF (.ref p0) (.int x) (.int y) (.ref al') (.ref ar') (.ref z))) al = some (.lst (nv l)) := (upd_ne al_ne).trans (r36 _ _ (e13 _ _ h2) al_ne)
        refine q_fldL (el_list (ev_var rfl) (SqL.of h2')) (ev_var rfl) upd_same T.cl_House T.n_House_left (Few.lt (n := 6) (Nat.le_refl _) (by decide)) fun p1 H7 n1 e7 m1 => ?_
        rw [hF_put_left]
        have r7 : Fr H6 H7 a := Fr.upd.trans (Fr.ex e7)
        have h3' : upd H7 a (HO.ins T.C_House dx (hF (.ref p0) (.int x) (.int y) (.ref p1) (.ref ar') (.ref z))) ar = some (.lst (nv r)) := (upd_ne ar_ne).trans ((r36.trans r7) _ _ (e13 _ _ h3) ar_ne)
        refine q_fldL (el_list (ev_var rfl) (SqL.of h3')) (ev_var rfl) upd_same T.cl_House T.n_House_right (Few.lt (n := 6) (Nat.le_refl _) (by decide)) fun p2 H8 n2 e8 m2 => ?_
        rw [hF_put_right]
        have r8 : Fr H7 H8 a := Fr.upd.trans (Fr.ex e8)
        refine q_fldL (xs := []) (el_lst ea_nil (by decide)) (ev_var rfl) upd_same T.cl_House T.n_House_scenes (Few.lt (n := 6) (Nat.le_refl _) (by decide)) fun p3 H9 n3 e9 m3 => ?_
        rw [hF_put_scenes]
        have r9 : Fr H8 H9 a := Fr.upd.trans (Fr.ex e9)
        have p0a : p0 ≠ a := ins_ne_lst (e4 _ _ q1') m0
        have p1a : p1 ≠ a := ins_ne_lst (e7 _ _ upd_same) m1
        have p2a : p2 ≠ a := ins_ne_lst (e8 _ _ upd_same) m2
        have p3a : p3 ≠ a := ins_ne_lst (e9 _ _ upd_same) m3
        have m0' : H9 p0 = some (.lst (nv h)) := (r5.trans (r6.trans (r7.trans (r8.trans r9)))) _ _ m0 p0a
        have m1' : H9 p1 = some (.lst (nv l)) := (r8.trans r9) _ _ m1 p1a
        have m2' : H9 p2 = some (.lst (nv r)) := r9 _ _ m2 p2a
        have n3' : ∀ b o, H8 b = some o → b ≠ p3 := fun b o hb z => by
          subst z
          rw [upd_ne p3a] at n3
          rw [n3] at hb
          cases hb
        refine s_ret (ev_call (z := .int (SM.countOf h.length x y)) (ea_cons (ev_var rfl) (ea_cons (ev_var rfl) (ea_cons (ev_var rfl) ea_nil))) ?_) fun H10 e10 => ?_
        · obtain ⟨g1, _, g3, g4⟩ := SM.Bad1.ok good
          exact fun H11 e11 Q q E => ⟨h.length, x, y, by rw [e0]; rfl, g1, g3, g4, q⟩
        · obtain ⟨g1, _, g3, g4⟩ := SM.Bad1.ok good
          have cnt := SM.count_is h.length (by omega) x (by omega) y (by omega)
          have k' := k H10 [p3, p0, p1, p2]
          rw [cnt] at k'
          refine k' ⟨dx, p3, p0, p1, p2, [], rfl, e10 _ _ upd_same, e10 _ _ ((upd_ne p0a).trans m0'), e10 _ _ ((upd_ne p1a).trans m1'), e10 _ _ ((upd_ne p2a).trans m2'), e10 _ _ ((upd_ne p3a).trans m3), .nil,
            fun q => n3' p0 _ ((r5.trans (r6.trans (r7.trans r8))) _ _ m0 p0a) q.symm, fun q => n3' p1 _ (r8 _ _ m1 p1a) q.symm, fun q => n3' p2 _ m2 q.symm, fun q => nomatch q⟩ ?_ ?_
          · have new : ∀ b, b ≠ a → (∃ H'', Fr H H'' a ∧ H'' b = none) → H b = none := fun b ba ⟨H'', f, hn⟩ => by
              cases q : H b with
              | none => rfl
              | some o =>
                rw [f _ _ q ba] at hn
                cases hn
            intro b hb
            refine .inr ?_
            simp at hb
            rcases hb with rfl | rfl | rfl | rfl
            · exact new _ p3a ⟨_, (Fr.ex e13).trans (r36.trans (r7.trans (r8.trans Fr.upd))), n3⟩
            · exact new _ p0a ⟨_, Fr.ex e13, n0⟩
            · exact new _ p1a ⟨_, (Fr.ex e13).trans (r36.trans Fr.upd), n1⟩
            · exact new _ p2a ⟨_, (Fr.ex e13).trans (r36.trans (r7.trans Fr.upd)), n2⟩
          · intro b o hb ba _
            exact e10 _ _ ((upd_ne ba).trans ((r36.trans (r7.trans (r8.trans r9))) _ _ (e13 _ _ hb) ba))
end
end SC

namespace SC
open PySem PySem.Spec PyProof.Rows L2 Evl
open SM (toZ Small Bad1 Bad2 BadS)
section
variable {K : PySem.W.Frag} {σ : L2.St} {H : Hp} {ta tb to tv : TE} {D : Ends} {tz : TS}
theorem q_pop {l : Addr} {xs : List V} {y : V} (hl : H l = some (.lst xs)) (ha : Ev ta σ H (.ref l)) (hy : xs[xs.length - 1]? = some y) (k : ∀ H1, Ex H H1 → tz D σ (upd H1 l (.lst xs.dropLast))) : tSeq (tDrop (tBM K "list" rPop ta tNil)) tz D σ H :=
  ha H (Ex.refl H) _ fun H1 e1 => ⟨Or.inl ⟨rfl, xs, sq_of (e1 l _ hl)⟩, l, xs, y, rfl, rfl, e1 l _ hl, hy, k H1 e1⟩
end
section
variable {P : Program} {w : World} {K : PySem.W.Frag} {mg : Str → Option Value} {base : Heap}
def spScene (C : Addr) : Sp := fun vs H Q _ => ∃ (a ap : Addr) (L : List Addr) (s : Uw04.St) (l : List Nat), vs = [.ref a, .ref ap] ∧ HouseAt C H a L s ∧ SM.StOk s ∧ H ap = some (.lst (nv l)) ∧ After C H a L s (.scene l) Q
theorem ok_House_scene (T : Tx K mg) : FnOk P w K mg base CX0 2 T.f_House_scene T.d_House_scene ["self", "pieces"] (spScene T.C_House) := by
  refine T.h_House_scene.F.ok sc_House_scene (fun vs H Q E h => ?_) (fun cdv A outer s H vs Q E hr h => ?_)
  · obtain ⟨a, ap, L, s, l, rfl, _⟩ := h
    rfl
  · obtain ⟨a, ap, L, st, l, rfl, hH, hst, h1, k⟩ := h
    have hr_pieces_rise : Room 1 _ := hr
    unfold After at k
    rw [SM.step_scene] at k
    refine ⟨_, (pss_cons (ps_if (pt_not (pt_val (pe_call (ok_pieces_rise T) hr_pieces_rise rfl T.h_pieces_rise.g T.h_pieces_rise.F.kp T.h_pieces_rise.b .nil pass0 (pa_cons (pe_callB call_len_seq (by rfl) T.b_len (by decide +kernel) (pa_cons (pe_fld (pv 0) rfl) pa_nil)) (pa_cons (pv 1) pa_nil)))))
        (pss_one (ps_ret (pe_un un_neg pe_int)))
        pss_nil)
      (pss_cons (ps_if (pt_cmpR op_eq (pe_callB call_len_seq (by rfl) T.b_len (by decide +kernel) (pa_cons (pe_fld (pv 0) rfl) pa_nil)) (pe_glob (v := .int 4) rfl T.g_MOST_SCENES ⟨_, rfl⟩) (nomark _))
        (pss_one (ps_ret (pe_un un_neg pe_int)))
        pss_nil)
      (pss_cons (ps_expr (pe_bm PySem.F.plainAttrs_list PySem.F.slot_list_append PySem.F.type_list_append mt_append (pe_fld (pv 0) rfl) (pa_cons (pe_callTy call_list_of (by rfl) T.b_list (by decide +kernel) (pa_cons (pv 1) pa_nil)) pa_nil)))
      (pss_one (ps_ret (pe_op op_sub (pe_callB call_len_seq (by rfl) T.b_len (by decide +kernel) (pa_cons (pe_fld (pv 0) rfl) pa_nil)) pe_int)))))), ?_⟩
    obtain ⟨dx, z, ah, al, ar, ss, hL, q1, q2, q3, q4, q5, q6, z1, z2, z3, z4⟩ := id hH
    have e0 : ((nv st.house.heavy).length : Int) = (st.house.heavy.length : Int) := by rw [nv_length]
    have ls : ((ss.map V.ref).length : Int) = (st.house.scenes.length : Int) := by rw [List.length_map, q6.length]
    refine q_when (et_not (et_B (ev_call (z := .bl (decide (¬ BadS st.house.heavy.length l))) (ea_cons (ev_len (ev_fld (ev_var rfl) q1 T.cl_House T.n_House_heavy hF_heavy) (SqL.of q2)) (ea_cons (ev_var rfl) ea_nil)) ?_))) (fun hb H2 e2 => ?_) (fun hb H2 e2 => ?_)
    · exact fun H2 e2 Q q E => ⟨ap, _, l, by rw [e0]; rfl, SqL.of (e2 _ _ h1), q⟩
    · have bad : BadS st.house.heavy.length l := by simpa using hb
      rw [if_pos bad] at k
      exact s_ret (ev_un ev_c ru_neg) fun H3 e3 => k H3 L (hH.mono (e2.trans e3)) (Grown.refl _ _) (Frame.ex (e2.trans e3))
    · have good : ¬ BadS st.house.heavy.length l := by simpa using hb
      rw [if_neg good] at k
      refine q_when (et_test (ev_op (ev_len (ev_fld (ev_var rfl) (e2 _ _ q1) T.cl_House T.n_House_scenes hF_scenes) (SqL.of (e2 _ _ q5))) ev_c (rv_eq rfl))) (fun hb H3 e3 => ?_) (fun hb H3 e3 => ?_)
      · have c4 : 4 ≤ st.house.scenes.length := by
          have := V.int.inj (of_decide_eq_true hb)
          omega
        rw [if_pos c4] at k
        exact s_ret (ev_un ev_c ru_neg) fun H4 e4 => k H4 L (hH.mono (e2.trans (e3.trans e4))) (Grown.refl _ _) (Frame.ex (e2.trans (e3.trans e4)))
      · have c4 : ¬ 4 ≤ st.house.scenes.length := by
          intro c
          have f := hst.few
          have : (ss.map V.ref).length = 4 := by omega
          exact (of_decide_eq_false hb) (by rw [this]; rfl)
        rw [if_neg c4] at k
        have e23 := e2.trans e3
        refine q_appL (e23 _ _ q5) (ev_fld (ev_var rfl) (e23 _ _ q1) T.cl_House T.n_House_scenes hF_scenes) (el_list (ev_var rfl) (SqL.of (e23 _ _ h1))) (by rw [List.length_map, q6.length]; have := hst.few; omega) fun p H4 hp e4 m4 => ?_
        have e24 := e23.trans e4
        have pz : p ≠ z := fun q => by
          rw [q] at hp
          rw [e23 _ _ q5] at hp
          cases hp
        have az : a ≠ z := (ins_ne_lst q1 q5).symm
        have l1 : ((ss.map V.ref ++ [V.ref p]).length : Int) - 1 = (st.house.scenes.length : Int) := by
          rw [List.length_append, List.length_map, q6.length]
          simp
        refine s_ret (ev_is (ev_op (ev_len (ev_fld (ev_var rfl) ((upd_ne az).trans (e24 _ _ q1)) T.cl_House T.n_House_scenes hF_scenes) (SqL.of upd_same)) ev_c rv_I0) (congrArg V.int l1)) fun H5 e5 => ?_
        have low : ∀ b o, H b = some o → b ≠ z → H5 b = some o := fun b o hb bz => e5 _ _ ((upd_ne bz).trans (e24 _ _ hb))
        refine k H5 (z :: ah :: al :: ar :: (ss ++ [p])) ⟨dx, z, ah, al, ar, ss ++ [p], rfl, low _ _ q1 az, low _ _ q2 z1.symm, low _ _ q3 z2.symm, low _ _ q4 z3.symm, e5 _ _ ?_, ?_, z1, z2, z3, ?_⟩ ?_ (fun b o hb _ bz => low b o hb fun q => bz (by rw [hL, q]; exact .head _))
        · rw [upd_same, List.map_append]
          rfl
        · refine Rows2.snoc (q6.mono fun q hq o ho => low q o ho fun e => z4 (e ▸ hq)) (e5 _ _ ((upd_ne pz).trans m4))
        · intro hz
          rcases List.mem_append.1 hz with hz | hz
          · exact z4 hz
          · exact pz (List.mem_singleton.1 hz).symm
        · intro b hb
          rw [hL]
          have hb' : b ∈ (z :: ah :: al :: ar :: ss) ++ [p] := hb
          rcases List.mem_append.1 hb' with hb' | hb'
          · exact .inl hb'
          · rw [List.mem_singleton] at hb'
            subst hb'
            exact .inr (fresh_back e23 hp)
def spDrop (C : Addr) : Sp := fun vs H Q _ => ∃ (a : Addr) (L : List Addr) (s : Uw04.St), vs = [.ref a] ∧ HouseAt C H a L s ∧ After C H a L s .drop Q
theorem ok_House_drop (T : Tx K mg) : FnOk P w K mg base CX0 1 T.f_House_drop T.d_House_drop ["self"] (spDrop T.C_House) := by
  refine T.h_House_drop.F.ok sc_House_drop (fun vs H Q E h => ?_) (fun cdv A outer s H vs Q E hr h => ?_)
  · obtain ⟨a, L, s, rfl, _⟩ := h
    rfl
  · obtain ⟨a, L, st, rfl, hH, k⟩ := h
    unfold After at k
    rw [SM.step_drop] at k
    refine ⟨_, (pss_cons (ps_if (pt_cmpR op_eq (pe_callB call_len_seq (by rfl) T.b_len (by decide +kernel) (pa_cons (pe_fld (pv 0) rfl) pa_nil)) pe_int (nomark _))
        (pss_one (ps_ret (pe_un un_neg pe_int)))
        pss_nil)
      (pss_cons (ps_expr (pe_bm0 PySem.F.plainAttrs_list PySem.F.slot_list_pop PySem.F.type_list_pop mt_pop (pe_fld (pv 0) rfl)))
      (pss_one (ps_ret (pe_callB call_len_seq (by rfl) T.b_len (by decide +kernel) (pa_cons (pe_fld (pv 0) rfl) pa_nil)))))), ?_⟩
    obtain ⟨dx, z, ah, al, ar, ss, hL, q1, q2, q3, q4, q5, q6, z1, z2, z3, z4⟩ := id hH
    have az : a ≠ z := (ins_ne_lst q1 q5).symm
    refine q_when (et_test (ev_op (ev_len (ev_fld (ev_var rfl) q1 T.cl_House T.n_House_scenes hF_scenes) (SqL.of q5)) ev_c (rv_eq rfl))) (fun hb H3 e3 => ?_) (fun hb H3 e3 => ?_)
    · have c : st.house.scenes = [] := by
        have := V.int.inj (of_decide_eq_true hb)
        rw [List.length_map, q6.length] at this
        exact List.length_eq_zero_iff.1 (by omega)
      rw [if_pos c] at k
      exact s_ret (ev_un ev_c ru_neg) fun H4 e4 => k H4 L (hH.mono (e3.trans e4)) (Grown.refl _ _) (Frame.ex (e3.trans e4))
    · have c : st.house.scenes ≠ [] := by
        intro c
        have : (ss.map V.ref).length = 0 := by rw [List.length_map, q6.length, c]; rfl
        exact (of_decide_eq_false hb) (by rw [this]; rfl)
      rw [if_neg c] at k
      have pos : 0 < (ss.map V.ref).length := by
        rw [List.length_map, q6.length]
        exact List.length_pos_iff.2 c
      refine q_pop (e3 _ _ q5) (ev_fld (ev_var rfl) (e3 _ _ q1) T.cl_House T.n_House_scenes hF_scenes) (List.getElem?_eq_getElem (by omega)) fun H4 e4 => ?_
      have e34 := e3.trans e4
      have l1 : ((ss.map V.ref).dropLast.length : Int) = ((st.house.scenes.length - 1 : Nat) : Int) := by
        rw [List.length_dropLast, List.length_map, q6.length]
      refine s_ret (ev_is (ev_len (ev_fld (ev_var rfl) ((upd_ne az).trans (e34 _ _ q1)) T.cl_House T.n_House_scenes hF_scenes) (SqL.of upd_same)) (congrArg V.int l1)) fun H5 e5 => ?_
      have low : ∀ b o, H b = some o → b ≠ z → H5 b = some o := fun b o hb bz => e5 _ _ ((upd_ne bz).trans (e34 _ _ hb))
      refine k H5 (z :: ah :: al :: ar :: ss.dropLast) ⟨dx, z, ah, al, ar, ss.dropLast, rfl, low _ _ q1 az, low _ _ q2 z1.symm, low _ _ q3 z2.symm, low _ _ q4 z3.symm, e5 _ _ ?_, ?_, z1, z2, z3, fun hz => z4 (List.dropLast_subset _ hz)⟩ ?_ (fun b o hb _ bz => low b o hb fun q => bz (by rw [hL, q]; exact .head _))
      · rw [upd_same, List.map_dropLast]
      · exact q6.dropLast.mono fun q hq o ho => low q o ho fun e => z4 (e ▸ List.dropLast_subset _ hq)
      · intro b hb
        rw [hL]
        refine .inl ?_
        have hb' : b ∈ [z, ah, al, ar] ++ ss.dropLast := hb
        show b ∈ [z, ah, al, ar] ++ ss
        rcases List.mem_append.1 hb' with hb' | hb'
        · exact List.mem_append.2 (.inl hb')
        · exact List.mem_append.2 (.inr (List.dropLast_subset _ hb'))
end
end SC

namespace SC
open PySem PySem.Spec PyProof.Rows L2 Evl
open SM (toZ Small Bad1 Bad2 BadS)
/-- whole numbers as values -/
def zv (l : List Int) : List V := l.map V.int
theorem zv_length (l : List Int) : (zv l).length = l.length := List.length_map ..
theorem zv_toZ (l : List Nat) : zv (toZ l) = nv l := by
  unfold zv nv SM.toZ
  rw [List.map_map]
  rfl
/-- a reader at r, of the list at c -/
def ReaderAt (C : Addr) (H : Hp) (r c : Addr) (i : Nat) : Prop := ∃ dx, H r = some (.ins C dx (rF (.ref c) (.int (i : Int))))
theorem ReaderAt.mono {C : Addr} {H H' : Hp} {r c : Addr} {i : Nat} (h : ReaderAt C H r c i) (e : Ex H H') : ReaderAt C H' r c i := by
  obtain ⟨dx, h⟩ := h
  exact ⟨dx, e _ _ h⟩
theorem cut_zv {ns row rest : List Int} {i : Nat} (h : ns.drop i = row ++ rest) (hi : i ≤ ns.length) : cutV (zv ns) (some (i : Int)) (some ((i + row.length : Nat) : Int)) = zv row := by
  have hl : ns.length = i + (row.length + rest.length) := by
    have := congrArg List.length h
    rw [List.length_drop, List.length_append] at this
    omega
  unfold cutV
  rw [HT.sIx_nat, HT.sIx_nat, zv_length, Nat.min_eq_left hi, Nat.min_eq_left (by omega), Nat.add_sub_cancel_left]
  unfold zv
  rw [← List.map_drop, h, ← List.map_take, List.take_left]
section
variable {P : Program} {w : World} {K : PySem.W.Frag} {mg : Str → Option Value} {base : Heap}
def spRInit (C : Addr) : Sp := fun vs H Q _ => ∃ (p dx c : Addr), vs = [.ref p, .ref c] ∧ H p = some (.ins C dx []) ∧ ∀ H' : Hp, ReaderAt C H' p c 0 → Fr H H' p → Q .non H'
theorem ok_Reader_init (T : Tx K mg) : FnOk P w K mg base CX0 1 T.f_Reader_init T.d_Reader_init ["self", "numbers"] (spRInit T.C_Reader) := by
  refine T.h_Reader_init.F.ok sc_Reader_init (fun vs H Q E h => ?_) (fun cdv A outer s H vs Q E hr h => ?_)
  · obtain ⟨p, dx, c, rfl, _⟩ := h
    rfl
  · obtain ⟨p, dx, c, rfl, hp, k⟩ := h
    refine ⟨_, (pss_cons (ps_fld (pv 0) (pv 1) rfl)
      (pss_one (ps_fld (pv 0) pe_int rfl))), ?_⟩
    refine q_fld (ev_var rfl) (ev_var rfl) hp T.cl_Reader T.n_Reader_numbers (few_nil.lt (by decide)) fun H1 e1 => ?_
    refine s_fld ev_c (ev_var rfl) upd_same T.cl_Reader T.n_Reader_place ((few_put few_nil).lt (by decide)) fun H2 e2 => ?_
    rw [rF_new]
    exact k _ ⟨dx, upd_same⟩ ((Fr.ex e1).trans (Fr.upd.trans ((Fr.ex e2).trans Fr.upd)))
def spMore (K : PySem.W.Frag) (C : Addr) : Sp := fun vs H Q _ => ∃ (r c : Addr) (i : Nat) (ns : List Int), vs = [.ref r] ∧ ReaderAt C H r c i ∧ SqL K H c (zv ns) ∧ RetV (.bl (decide (i < ns.length))) H Q
theorem ok_Reader_has_more (T : Tx K mg) : FnOk P w K mg base CX0 1 T.f_Reader_has_more T.d_Reader_has_more ["self"] (spMore K T.C_Reader) := by
  refine T.h_Reader_has_more.F.ok sc_Reader_has_more (fun vs H Q E h => ?_) (fun cdv A outer s H vs Q E hr h => ?_)
  · obtain ⟨r, c, i, ns, rfl, _⟩ := h
    rfl
  · obtain ⟨r, c, i, ns, rfl, ⟨dx, hR⟩, hc, k⟩ := h
    refine ⟨_, (pss_one (ps_ret (pe_cmpR op_lt (pe_fld (pv 0) rfl) (pe_callB call_len_seq (by rfl) T.b_len (by decide +kernel) (pa_cons (pe_fld (pv 0) rfl) pa_nil)) (nomark _)))), ?_⟩
    have e : decide ((i : Int) < ((zv ns).length : Int)) = decide (i < ns.length) := by
      rw [zv_length]
      exact decide_eq_decide.2 (by omega)
    exact s_ret (ev_is (ev_op (ev_fld (ev_var rfl) hR T.cl_Reader T.n_Reader_place rF_place) (ev_len (ev_fld (ev_var rfl) hR T.cl_Reader T.n_Reader_numbers rF_numbers) hc) rv_I0) (congrArg V.bl e)) k
def spNumber (K : PySem.W.Frag) (C : Addr) : Sp := fun vs H Q _ => ∃ (r c : Addr) (i : Nat) (ns : List Int) (n : Int), vs = [.ref r] ∧ ReaderAt C H r c i ∧ SqL K H c (zv ns) ∧ ns[i]? = some n ∧
  ∀ H' : Hp, ReaderAt C H' r c (i + 1) → Fr H H' r → Q (.int n) H'
theorem ok_Reader_take_number (T : Tx K mg) : FnOk P w K mg base CX0 1 T.f_Reader_take_number T.d_Reader_take_number ["self"] (spNumber K T.C_Reader) := by
  refine T.h_Reader_take_number.F.ok sc_Reader_take_number (fun vs H Q E h => ?_) (fun cdv A outer s H vs Q E hr h => ?_)
  · obtain ⟨r, c, i, ns, n, rfl, _⟩ := h
    rfl
  · obtain ⟨r, c, i, ns, n, rfl, ⟨dx, hR⟩, hc, hn, k⟩ := h
    refine ⟨_, (pss_cons (ps_set (i := 1) sc_Reader_take_number.nd rfl (.inl rfl) (pe_ix ix_list (pe_fld (pv 0) rfl) (pe_fld (pv 0) rfl) (fun _ _ => rfl)))
      (pss_cons (ps_fld (pv 0) (pe_op op_add (pe_fld (pv 0) rfl) pe_int) rfl)
      (pss_one (ps_ret (pv 1))))), ?_⟩
    have hz : (zv ns)[i]? = some (V.int n) := by
      unfold zv
      rw [List.getElem?_map, hn]
      rfl
    refine q_asg (ev_op (ev_fld (ev_var rfl) hR T.cl_Reader T.n_Reader_numbers rF_numbers) (ev_fld (ev_var rfl) hR T.cl_Reader T.n_Reader_place rF_place) (rv_ixL hc (atI_nat hz))) fun H1 e1 => ?_
    refine q_fld (ev_op (ev_fld (ev_var rfl) (e1 _ _ hR) T.cl_Reader T.n_Reader_place rF_place) ev_c rv_I0) (ev_var rfl) (e1 _ _ hR) T.cl_Reader T.n_Reader_place (Few.lt (n := 2) (Nat.le_refl _) (by decide)) fun H2 e2 => ?_
    rw [rF_put_place]
    exact s_ret (ev_var rfl) fun H3 e3 => k H3 ⟨dx, e3 _ _ upd_same⟩ ((Fr.ex (e1.trans e2)).trans (Fr.upd.trans (Fr.ex e3)))
theorem sq_fr {H H' : Hp} {c r C dx : Addr} {fs : List (Str × V)} {xs : List V} (h : SqL K H c xs) (hr : H r = some (.ins C dx fs)) (f : Fr H H' r) : SqL K H' c xs := by
  rcases h with (h | ⟨o, h⟩) | h
  · exact .inl (.inl (f _ _ h fun z => by rw [z, hr] at h; cases h))
  · exact .inl (.inr ⟨o, f _ _ h fun z => by rw [z, hr] at h; cases h⟩)
  · exact .inr h
theorem drop_get {ns row rest : List Int} {i : Nat} {n : Int} (h : ns.drop i = n :: rest) : ns[i]? = some n ∧ ns.drop (i + 1) = rest ∧ i < ns.length := by
  have hi : i < ns.length := by
    have := congrArg List.length h
    rw [List.length_drop, List.length_cons] at this
    omega
  rw [List.drop_eq_getElem_cons hi] at h
  obtain ⟨e1, e2⟩ := List.cons.inj h
  exact ⟨by rw [List.getElem?_eq_getElem hi, e1], e2, hi⟩
def spRow (K : PySem.W.Frag) (C : Addr) : Sp := fun vs H Q _ => ∃ (r c : Addr) (i : Nat) (ns row rest : List Int), vs = [.ref r] ∧ ReaderAt C H r c i ∧ SqL K H c (zv ns) ∧ ns.drop i = (row.length : Int) :: (row ++ rest) ∧
  ∀ (H' : Hp) (p : Addr), ReaderAt C H' r c (i + 1 + row.length) → Fr H H' r → H p = none → H' p = some (.lst (zv row)) → Q (.ref p) H'
theorem ok_Reader_take_row (T : Tx K mg) : FnOk P w K mg base CX0 2 T.f_Reader_take_row T.d_Reader_take_row ["self"] (spRow K T.C_Reader) := by
  refine T.h_Reader_take_row.F.ok sc_Reader_take_row (fun vs H Q E h => ?_) (fun cdv A outer s H vs Q E hr h => ?_)
  · obtain ⟨r, c, i, ns, row, rest, rfl, _⟩ := h
    rfl
  · obtain ⟨r, c, i, ns, row, rest, rfl, hR, hc, hd, k⟩ := h
    have hr_Reader_take_number : Room 1 _ := hr
    refine ⟨_, (pss_cons (ps_set (i := 1) sc_Reader_take_row.nd rfl (.inl rfl) (pe_meth0 (pv 0) T.cl_Reader T.m_Reader_take_number (ok_Reader_take_number T) hr_Reader_take_number T.h_Reader_take_number.b .nil pass0))
      (pss_cons (ps_set (i := 2) sc_Reader_take_row.nd rfl (.inl rfl) (pe_fld (pv 0) rfl))
      (pss_cons (ps_fld (pv 0) (pe_op op_add (pv 2) (pv 1)) rfl)
      (pss_one (ps_ret (pe_slice sl_list (pe_fld (pv 0) rfl) (po_some (pv 2)) (po_some (pe_op op_add (pv 2) (pv 1))))))))), ?_⟩
    obtain ⟨g1, g2, g3⟩ := drop_get (row := row) hd
    obtain ⟨dx, hR'⟩ := id hR
    refine ⟨_, rfl, r, dx, _, rfl, hR', rF_no (by decide +kernel) (by decide +kernel), r, c, i, ns, _, rfl, hR, hc, g1, fun H1 R1 f1 => ?_⟩
    obtain ⟨dx1, hR1⟩ := R1
    have c1 := sq_fr hc hR' f1
    refine q_asg (ev_fld (ev_var rfl) hR1 T.cl_Reader T.n_Reader_place rF_place) fun H2 e2 => ?_
    refine q_fld (ev_op (ev_var rfl) (ev_var rfl) rv_I0) (ev_var rfl) (e2 _ _ hR1) T.cl_Reader T.n_Reader_place (Few.lt (n := 2) (Nat.le_refl _) (by decide)) fun H3 e3 => ?_
    rw [rF_put_place]
    have e23 := e2.trans e3
    have c3 := sq_fr (ex_l e23 c1) (e23 _ _ hR1) (Fr.upd (o := HO.ins T.C_Reader dx1 (rF (.ref c) (.int (((i + 1 : Nat) : Int) + (row.length : Int))))))
    refine s_retL (el_sl (ev_fld (ev_var rfl) upd_same T.cl_Reader T.n_Reader_numbers rF_numbers) (eo_some (ev_var rfl)) (eo_some (ev_op (ev_var rfl) (ev_var rfl) rv_I0)) c3) fun p H4 hp e4 m4 => ?_
    have cut : cutV (zv ns) (some ((i + 1 : Nat) : Int)) (some (((i + 1 : Nat) : Int) + (row.length : Int))) = zv row := by
      rw [← Int.natCast_add]
      exact cut_zv g2 g3
    rw [cut] at m4
    refine k H4 p ⟨dx1, ?_⟩ (f1.trans ((Fr.ex e23).trans (Fr.upd.trans (Fr.ex e4)))) ?_ m4
    · rw [e4 _ _ upd_same, ← Int.natCast_add]
    · cases q : H p with
      | none => rfl
      | some o =>
        exfalso
        by_cases pr : p = r
        · subst pr
          rw [upd_same] at hp
          cases hp
        · have := (Fr.upd (o := HO.ins T.C_Reader dx1 (rF (.ref c) (.int (((i + 1 : Nat) : Int) + (row.length : Int)))))) p o (e23 _ _ (f1 _ _ q pr)) pr
          rw [hp] at this
          cases this
end
end SC

namespace SC
open PySem PySem.Spec PyProof.Rows L2 Evl
open SM (toZ Small Bad1 Bad2 BadS)
theorem HouseAt.fr {C : Addr} {H H' : Hp} {a r C' dx' : Addr} {L : List Addr} {fs : List (Str × V)} {s : Uw04.St} (h : HouseAt C H a L s) (hr : H r = some (.ins C' dx' fs)) (ar : a ≠ r) (f : Fr H H' r) : HouseAt C H' a L s :=
  h.keep (fun o ho => f _ _ ho ar) fun b hb o ho => f _ _ ho (by
    obtain ⟨xs, hx⟩ := h.lst b hb
    exact ins_ne_lst hr hx)
theorem HouseAt.ins {C : Addr} {H : Hp} {a : Addr} {L : List Addr} {s : Uw04.St} (h : HouseAt C H a L s) : ∃ dx v0 v1 v2 v3 v4 v5, H a = some (.ins C dx (hF v0 v1 v2 v3 v4 v5)) := by
  obtain ⟨dx, z, ah, al, ar', ss, hL, h1, _⟩ := h
  exact ⟨_, _, _, _, _, _, _, h1⟩
section
variable {P : Program} {w : World} {K : PySem.W.Frag} {mg : Str → Option Value} {base : Heap}
/-- what a call leaves: the house and the reader moved on, all else as it was -/
def Both (CH CR : Addr) (H H' : Hp) (a r c : Addr) (L : List Addr) (s' : Uw04.St) (i' : Nat) : Prop :=
  ∃ L', HouseAt CH H' a L' s' ∧ Grown H L L' ∧ ReaderAt CR H' r c i' ∧ ∀ b o, H b = some o → b ≠ a → b ∉ L → b ≠ r → H' b = some o
def spABegins (K : PySem.W.Frag) (CH CR : Addr) : Sp := fun vs H Q _ => ∃ (a r c : Addr) (L : List Addr) (s : Uw04.St) (i : Nat) (ns rest : List Int) (h l rr : List Nat) (x y : Nat), vs = [.ref a, .ref r] ∧
  HouseAt CH H a L s ∧ ReaderAt CR H r c i ∧ a ≠ r ∧ SqL K H c (zv ns) ∧ ns.drop i = (x : Int) :: (y : Int) :: (h.length : Int) :: (toZ h ++ ((l.length : Int) :: (toZ l ++ ((rr.length : Int) :: (toZ rr ++ rest))))) ∧ l.length ≤ 30 ∧ rr.length ≤ 30 ∧
  ∀ H', Both CH CR H H' a r c L (Uw04.step s (.begins h x y l rr)).1 (i + 5 + h.length + l.length + rr.length) → Q (.int (Uw04.step s (.begins h x y l rr)).2.v) H'
theorem ok_answer_begins (T : Tx K mg) : FnOk P w K mg base CX0 4 T.f_answer_begins T.d_answer_begins ["house", "reader"] (spABegins K T.C_House T.C_Reader) := by
  refine T.h_answer_begins.F.ok sc_answer_begins (fun vs H Q E h => ?_) (fun cdv A outer s H vs Q E hr h => ?_)
  · obtain ⟨a, r, c, L, s, i, ns, rest, h, l, rr, x, y, rfl, _⟩ := h
    rfl
  · obtain ⟨a, r, c, L, st, i, ns, rest, h, l, rr, x, y, rfl, hH, hR, ar, hc, hd, b1, b2, k⟩ := h
    have hr_Reader_take_number : Room 1 _ := hr.mono (by decide)
    have hr_Reader_take_row : Room 2 _ := hr.mono (by decide)
    have hr_House_begins : Room 3 _ := hr
    refine ⟨_, (pss_cons (ps_set (i := 2) sc_answer_begins.nd rfl (.inl rfl) (pe_meth0 (pv 1) T.cl_Reader T.m_Reader_take_number (ok_Reader_take_number T) hr_Reader_take_number T.h_Reader_take_number.b .nil pass0))
      (pss_cons (ps_set (i := 3) sc_answer_begins.nd rfl (.inl rfl) (pe_meth0 (pv 1) T.cl_Reader T.m_Reader_take_number (ok_Reader_take_number T) hr_Reader_take_number T.h_Reader_take_number.b .nil pass0))
      (pss_cons (ps_set (i := 4) sc_answer_begins.nd rfl (.inl rfl) (pe_meth0 (pv 1) T.cl_Reader T.m_Reader_take_row (ok_Reader_take_row T) hr_Reader_take_row T.h_Reader_take_row.b .nil pass0))
      (pss_cons (ps_set (i := 5) sc_answer_begins.nd rfl (.inl rfl) (pe_meth0 (pv 1) T.cl_Reader T.m_Reader_take_row (ok_Reader_take_row T) hr_Reader_take_row T.h_Reader_take_row.b .nil pass0))
      (pss_cons (ps_set (i := 6) sc_answer_begins.nd rfl (.inl rfl) (pe_meth0 (pv 1) T.cl_Reader T.m_Reader_take_row (ok_Reader_take_row T) hr_Reader_take_row T.h_Reader_take_row.b .nil pass0))
      (pss_one (ps_ret (pe_meth (pv 0) T.cl_House T.m_House_begins (ok_House_begins T) hr_House_begins T.h_House_begins.b .nil pass0 (pa_cons (pv 4) (pa_cons (pv 2) (pa_cons (pv 3) (pa_cons (pv 5) (pa_cons (pv 6) pa_nil))))))))))))), ?_⟩
    have len : ∀ m : List Nat, (m.length : Int) = ((toZ m).length : Int) := fun m => by rw [SM.toZ_length]
    obtain ⟨dx0, r0⟩ := id hR
    obtain ⟨g1, d1, _⟩ := drop_get (row := []) hd
    refine ⟨_, rfl, r, _, _, rfl, r0, rF_no (by decide +kernel) (by decide +kernel), r, c, i, ns, _, rfl, hR, hc, g1, fun H1 R1 f1 => ?_⟩
    obtain ⟨dx1, r1⟩ := id R1
    have c1 := sq_fr hc r0 f1
    obtain ⟨g2, d2, _⟩ := drop_get (row := []) d1
    refine ⟨_, rfl, r, _, _, rfl, r1, rF_no (by decide +kernel) (by decide +kernel), r, c, _, ns, _, rfl, R1, c1, g2, fun H2 R2 f2 => ?_⟩
    obtain ⟨dx2, r2⟩ := id R2
    have c2 := sq_fr c1 r1 f2
    rw [len h] at d2
    refine ⟨_, rfl, r, _, _, rfl, r2, rF_no (by decide +kernel) (by decide +kernel), r, c, _, ns, toZ h, _, rfl, R2, c2, d2, fun H3 p3 R3 f3 n3 m3 => ?_⟩
    obtain ⟨dx3, r3⟩ := id R3
    have c3 := sq_fr c2 r2 f3
    obtain ⟨_, d2', _⟩ := drop_get (row := []) d2
    have d3 : ns.drop (i + 1 + 1 + 1 + (toZ h).length) = (l.length : Int) :: (toZ l ++ ((rr.length : Int) :: (toZ rr ++ rest))) := by
      rw [← List.drop_drop, d2', List.drop_left]
    rw [len l] at d3
    refine ⟨_, rfl, r, _, _, rfl, r3, rF_no (by decide +kernel) (by decide +kernel), r, c, _, ns, toZ l, _, rfl, R3, c3, d3, fun H4 p4 R4 f4 n4 m4 => ?_⟩
    obtain ⟨dx4, r4⟩ := id R4
    have c4 := sq_fr c3 r3 f4
    obtain ⟨_, d3', _⟩ := drop_get (row := []) d3
    have d4 : ns.drop (i + 1 + 1 + 1 + (toZ h).length + 1 + (toZ l).length) = (rr.length : Int) :: (toZ rr ++ rest) := by
      rw [← List.drop_drop, d3', List.drop_left]
    rw [len rr] at d4
    refine ⟨_, rfl, r, _, _, rfl, r4, rF_no (by decide +kernel) (by decide +kernel), r, c, _, ns, toZ rr, _, rfl, R4, c4, d4, fun H5 p5 R5 f5 n5 m5 => ?_⟩
    obtain ⟨dx5, r5⟩ := id R5
    have f25 := f3.trans (f4.trans f5)
    have f05 := f1.trans (f2.trans f25)
    have hH5 := hH.fr r0 ar f05
    obtain ⟨dxh, v0, v1, v2, v3, v4, v5, hi⟩ := hH5.ins
    rw [zv_toZ] at m3 m4 m5
    have m3' : H5 p3 = some (.lst (nv h)) := (f4.trans f5) _ _ m3 (ins_ne_lst r3 m3)
    have m4' : H5 p4 = some (.lst (nv l)) := f5 _ _ m4 (ins_ne_lst r4 m4)
    refine ⟨_, rfl, a, dxh, _, rfl, hi, hF_no (by decide +kernel) (by decide +kernel) (by decide +kernel) (by decide +kernel) (by decide +kernel) (by decide +kernel), _, rfl, _, rfl, _, rfl, _, rfl, _, rfl, a, p3, p4, p5, L, st, h, l, rr, x, y, rfl, hH5, m3', m4', m5, b1, b2, fun H6 L6 hH6 hL6 fr6 => ?_⟩
    have rL : r ∉ L := fun q => by
      obtain ⟨zx, hz⟩ := hH.lst r q
      rw [r0] at hz
      cases hz
    refine k H6 ⟨L6, hH6, fun b hb => ?_, ⟨dx5, ?_⟩, fun b o hb ba bz br => fr6 _ _ (f05 _ _ hb br) ba bz⟩
    · rcases hL6 b hb with q | q
      · exact .inl q
      · cases e : H b with
        | none => exact .inr rfl
        | some o =>
          exfalso
          by_cases br : b = r
          · subst br
            rw [r5] at q
            cases q
          · rw [f05 _ _ e br] at q
            cases q
    · have e5 : (i + 1 + 1 + 1 + (toZ h).length + 1 + (toZ l).length + 1 + (toZ rr).length) = i + 5 + h.length + l.length + rr.length := by
        rw [SM.toZ_length, SM.toZ_length, SM.toZ_length]
        omega
      rw [← e5]
      exact fr6 _ _ r5 ar.symm rL
end
end SC

namespace SC
open PySem PySem.Spec PyProof.Rows L2 Evl
open SM (toZ Small Bad1 Bad2 BadS)
section
variable {K : PySem.W.Frag} {σ : L2.St} {H : Hp} {ta te : TE} {D : Ends} {tz : TS} {v : V}
theorem q_app2 {l : Addr} {xs : List V} (hl : H l = some (.lst xs)) (ha : Ev ta σ H (.ref l)) (h : Ev te σ H v) (hz : xs.length < sizeLine) (k : ∀ H1, Ex H H1 → tz D σ (upd H1 l (.lst (xs ++ [v])))) :
    tSeq (tDrop (tBM K "list" rAppend ta (tCons te tNil))) tz D σ H := ha H (Ex.refl H) _ fun H1 e1 =>
  ⟨Or.inl ⟨rfl, xs, sq_of (e1 l _ hl)⟩, h H1 e1 _ fun H2 e2 => ⟨l, xs, v, rfl, rfl, e2 l _ (e1 l _ hl), hz, k H2 (e1.trans e2)⟩⟩
theorem s_ext {l b : Addr} {xs zs : List V} (hl : H l = some (.lst xs)) (hb : H b = some (.lst zs)) (ha : Ev ta σ H (.ref l)) (h : Ev te σ H (.ref b)) (hz : xs.length + zs.length ≤ sizeLine) (k : ∀ H1, Ex H H1 → D.nx σ (upd H1 l (.lst (xs ++ zs)))) :
    tDrop (tBM K "list" rExtend ta (tCons te tNil)) D σ H := ha H (Ex.refl H) _ fun H1 e1 =>
  ⟨Or.inl ⟨rfl, xs, sq_of (e1 l _ hl)⟩, h H1 e1 _ fun H2 e2 => ⟨l, b, xs, zs, rfl, rfl, e2 l _ (e1 l _ hl), e2 b _ (e1 b _ hb), hz, k H2 (e1.trans e2)⟩⟩
end
/-- the list of calls, that nobody changes: written, or apart from the house's own lists and g -/
def CallsAt (K : PySem.W.Frag) (H : Hp) (c : Addr) (xs : List V) (L : List Addr) : Prop := SqL K (fun _ => none) c xs ∨ (Rd H c (.lst xs) ∧ c ∉ L)
theorem CallsAt.sq {K : PySem.W.Frag} {H : Hp} {c : Addr} {xs : List V} {L : List Addr} (h : CallsAt K H c xs L) : SqL K H c xs := by
  rcases h with ((h | ⟨o, h⟩) | h) | ⟨h, _⟩
  · cases h
  · cases h
  · exact .inr h
  · exact .inl h
theorem calls_of {K : PySem.W.Frag} {H : Hp} {c : Addr} {xs : List V} (h : SqL K H c xs) : CallsAt K H c xs [] := by
  rcases h with h | h
  · exact .inr ⟨h, fun q => nomatch q⟩
  · exact .inl (.inr h)
/-- what changes only what is no such list, or stands in L, leaves it; L may grow by what is new -/
theorem CallsAt.step {K : PySem.W.Frag} {H H' : Hp} {c : Addr} {xs : List V} {L L' : List Addr} (h : CallsAt K H c xs L) (f : ∀ o, H c = some o → c ∉ L → (∀ C dx fs, o ≠ .ins C dx fs) → H' c = some o) (g : ∀ b ∈ L', b ∈ L ∨ H b = none) : CallsAt K H' c xs L' := by
  rcases h with h | ⟨h | ⟨o, h⟩, n⟩
  · exact .inl h
  · refine .inr ⟨.inl (f _ h n fun C dx fs q => by cases q), fun q => ?_⟩
    rcases g c q with q | q
    · exact n q
    · rw [h] at q
      cases q
  · refine .inr ⟨.inr ⟨o, f _ h n fun C dx fs q => by cases q⟩, fun q => ?_⟩
    rcases g c q with q | q
    · exact n q
    · rw [h] at q
      cases q
theorem put1_cons {c : List (List Int)} {x : Uw04.Call} (h : SM.Raw c x) : ∃ n r, PyFlat.put1 c = n :: r := by
  cases h <;> exact ⟨_, _, rfl⟩
/-- the program's answers and what is due -/
def spAns (K : PySem.W.Frag) : Sp := fun vs H Q _ => ∃ (a : Addr) (ns : List Int), vs = [.ref a] ∧ SqL K H a (ns.map V.int) ∧ PyUw04.answers_asked ns = true ∧
  ∀ (H' : Hp) (p : Addr), H' p = some (.lst ((PyUw04.answers ns).map V.int)) → Q (.ref p) H'
/-- one call -/
def spNext (K : PySem.W.Frag) (CH CR : Addr) : Sp := fun vs H Q _ => ∃ (a r c : Addr) (L : List Addr) (s : Uw04.St) (i : Nat) (ns rest : List Int) (c0 : List (List Int)) (x : Uw04.Call), vs = [.ref a, .ref r] ∧
  HouseAt CH H a L s ∧ ReaderAt CR H r c i ∧ a ≠ r ∧ SqL K H c (zv ns) ∧ SM.StOk s ∧ SM.Raw c0 x ∧ ns.drop i = PyFlat.put1 c0 ++ rest ∧
  ∀ H' p, Both CH CR H H' a r c L (Uw04.step s x).1 (i + (PyFlat.put1 c0).length) → (∀ b o, H b = some o → b ≠ a → b ∉ L → b ≠ r → b ≠ p) → H' p = some (.lst (zv (SM.run1 s x))) → Q (.ref p) H'
theorem zv_append (a b : List Int) : zv a ++ zv b = zv (a ++ b) := (List.map_append ..).symm
section
variable {P : Program} {w : World} {K : PySem.W.Frag} {mg : Str → Option Value} {base : Heap}
theorem ok_answers_of (T : Tx K mg) {n : Nat} (hn : 1 ≤ n) (N : FnOk P w K mg base CX0 n T.f_answer_next T.d_answer_next ["house", "reader"] (spNext K T.C_House T.C_Reader)) :
    FnOk P w K mg base CX0 (n + 2) T.f_answers T.d_answers ["calls"] (spAns K) := by
  refine T.h_answers.F.ok sc_answers (fun vs H Q E h => ?_) (fun cdv A outer s H vs Q E hr h => ?_)
  · obtain ⟨a, ns, rfl, _⟩ := h
    rfl
  · obtain ⟨c, ns, rfl, hc, hask, k⟩ := h
    have hrM : Room 2 _ := hr.mono (by omega)
    have hr_Reader_has_more : Room 1 _ := hr.mono (by omega)
    have hr_answer_next : Room n _ := hr.mono (by omega)
    refine ⟨_, (pss_cons (ps_set (i := 1) sc_answers.nd rfl (.inl rfl) (pe_make T.mk_Reader (ok_Reader_init T) hrM rfl T.gC_Reader T.h_Reader_init.b .nil pass0 (pa_cons (pv 0) pa_nil)))
      (pss_cons (ps_set (i := 2) sc_answers.nd rfl (.inl rfl) (pe_make0 T.mk_House (ok_House_init T) hrM rfl T.gC_House T.h_House_init.b .nil pass0))
      (pss_cons (ps_set (i := 3) sc_answers.nd rfl (.inl rfl) (pe_lst pa_nil))
      (pss_cons (ps_while PassesOwn.never (pt_val (pe_meth0 (pv 1) T.cl_Reader T.m_Reader_has_more (ok_Reader_has_more T) hr_Reader_has_more T.h_Reader_has_more.b .nil pass0))
        (pss_cons (ps_set (i := 4) sc_answers.nd rfl (.inl rfl) (pe_call N hr_answer_next rfl T.h_answer_next.g T.h_answer_next.F.kp T.h_answer_next.b .nil pass0 (pa_cons (pv 2) (pa_cons (pv 1) pa_nil))))
        (pss_cons (ps_expr (pe_bm PySem.F.plainAttrs_list PySem.F.slot_list_append PySem.F.type_list_append mt_append (pv 3) (pa_cons (pe_callB call_len_seq (by rfl) T.b_len (by decide +kernel) (pa_cons (pv 4) pa_nil)) pa_nil)))
        (pss_one (ps_expr (pe_bm PySem.F.plainAttrs_list PySem.F.slot_list_extend PySem.F.type_list_extend mt_extend (pv 3) (pa_cons (pv 4) pa_nil)))))))
      (pss_one (ps_ret (pv 3))))))), ?_⟩
    obtain ⟨cs, xs, el, raws, _, ea, e7⟩ := SM.asked_raws hask
    -- reader
    refine ⟨_, rfl, fun r dr nr ndr ner => ⟨r, dr, c, rfl, upd_same, fun H1 R1 f1 => ⟨rfl, ?_⟩⟩⟩
    have s1 : Ex H H1 := fun b o hb => f1 _ _ (by rw [upd_ne (ne_of_none hb nr), upd_ne (ne_of_none hb ndr)]; exact hb) (ne_of_none hb nr)
    -- house
    refine fun a da na nda nea => ⟨a, da, rfl, upd_same, fun H2 L hH2 nL f2 => ⟨rfl, ?_⟩⟩
    have s2 : Ex H1 H2 := fun b o hb => f2 _ _ (by rw [upd_ne (ne_of_none hb na), upd_ne (ne_of_none hb nda)]; exact hb) (ne_of_none hb na)
    obtain ⟨dr1, r1⟩ := id R1
    have ar : a ≠ r := (ne_of_none r1 na).symm
    -- given
    refine ⟨by decide, fun g ng => ?_⟩
    have s3 : Ex H2 (upd H2 g (.lst [])) := Ex.new ng
    have gL : g ∉ L := fun q => by
      obtain ⟨zx, hz⟩ := hH2.lst g q
      rw [ng] at hz
      cases hz
    have c3 : CallsAt K (upd H2 g (.lst [])) c (zv ns) (g :: L) := (calls_of (K := K) (xs := zv ns) hc).step (fun o ho _ _ => s3 _ _ (s2 _ _ (s1 _ _ ho))) fun b hb => .inr (by
      cases hb with
      | head => exact fresh_back s1 (fresh_back s2 ng)
      | tail _ hb =>
        have nb := nL b hb
        cases q : H b with
        | none => rfl
        | some o =>
          have q1 := s1 _ _ q
          rw [upd_ne (ne_of_none q1 na), upd_ne (ne_of_none q1 nda), q1] at nb
          cases nb)
    have gr : g ≠ r := fun q => by
      rw [q, s2 _ _ r1] at ng
      cases ng
    refine q_while (fun m σ H' => ∃ (cs : List (List (List Int))) (xs : List Uw04.Call) (s : Uw04.St) (L : List Addr) (i : Nat) (out : List Int) (v : Option V), m = cs.length ∧ σ = [some (.ref c), some (.ref r), some (.ref a), some (.ref g), v] ∧
        SM.Raws cs xs ∧ SM.StOk s ∧ HouseAt T.C_House H' a L s ∧ ReaderAt T.C_Reader H' r c i ∧ CallsAt K H' c (zv ns) (g :: L) ∧ ns.drop i = PyFlat.put cs ∧ i ≤ ns.length ∧ g ∉ L ∧ H' g = some (.lst (zv out)) ∧ out ++ SM.given s xs = PyUw04.answers ns)
      cs.length ⟨cs, xs, Uw04.init, L, 0, [], none, rfl, rfl, raws, SM.ok_init, hH2.mono s3, ⟨dr1, s3 _ _ (s2 _ _ r1)⟩, c3, el, Nat.zero_le _, gL, upd_same, ea.symm⟩ ?_
    rintro m σ H' ⟨cs, xs, st, L, i, out, v, rfl, rfl, raws, hst, hH, hR, hcc, hd, hi, gz, hg, eo⟩
    obtain ⟨dr2, r2⟩ := id hR
    refine ⟨decide (i < ns.length), fun H3 e3 Q q => ?_, fun hb H3 e3 => ?_, fun hb H3 e3 => ?_⟩
    · refine ⟨_, rfl, r, dr2, _, rfl, e3 _ _ r2, rF_no (by decide +kernel) (by decide +kernel), r, c, i, ns, rfl, hR.mono e3, ex_l e3 hcc.sq, fun H4 e4 => ⟨_, rfl, q H4 e4⟩⟩
    · have lt : i < ns.length := of_decide_eq_true hb
      cases raws with
      | nil =>
        exfalso
        have := congrArg List.length hd
        rw [List.length_drop] at this
        have h0 : (PyFlat.put []).length = 0 := rfl
        omega
      | cons hx hxs =>
        rename_i c0 x cs xs
        have hd' : ns.drop i = PyFlat.put1 c0 ++ PyFlat.put cs := hd
        refine ⟨fun σ2 H2 => ∃ m', m' < (c0 :: cs).length ∧ ∃ (cs : List (List (List Int))) (xs : List Uw04.Call) (s : Uw04.St) (L : List Addr) (i : Nat) (out : List Int) (v : Option V), m' = cs.length ∧ σ2 = [some (.ref c), some (.ref r), some (.ref a), some (.ref g), v] ∧
          SM.Raws cs xs ∧ SM.StOk s ∧ HouseAt T.C_House H2 a L s ∧ ReaderAt T.C_Reader H2 r c i ∧ CallsAt K H2 c (zv ns) (g :: L) ∧ ns.drop i = PyFlat.put cs ∧ i ≤ ns.length ∧ g ∉ L ∧ H2 g = some (.lst (zv out)) ∧ out ++ SM.given s xs = PyUw04.answers ns, fun σ2 H2 q => q, ?_⟩
        refine ⟨_, rfl, _, rfl, a, r, c, L, st, i, ns, PyFlat.put cs, c0, x, rfl, hH.mono e3, hR.mono e3, ar, ex_l e3 hcc.sq, hst, hx, hd', fun H4 p ⟨L', hH4, hL', R4, f4⟩ np m4 => ?_⟩
        obtain ⟨dr4, r4⟩ := id R4
        obtain ⟨ad, w0, w1, w2, w3, w4, w5, ha3⟩ := (hH.mono e3).ins
        have ga : g ≠ a := ins_ne_lst ha3 (e3 _ _ hg)
        have hg4 : H4 g = some (.lst (zv out)) := f4 _ _ (e3 _ _ hg) ga gz gr
        have pg : p ≠ g := (np g _ (e3 _ _ hg) ga gz gr).symm
        have gz' : g ∉ L' := fun e => by
          rcases hL' g e with q | q
          · exact gz q
          · rw [e3 _ _ hg] at q
            cases q
        have leno : out.length + 1 + (SM.run1 st x).length ≤ 10000000 := by
          have := congrArg List.length eo
          have e2 : SM.given st (x :: xs) = ((SM.run1 st x).length : Int) :: (SM.run1 st x ++ SM.given (Uw04.step st x).1 xs) := rfl
          rw [e2, List.length_append, List.length_cons, List.length_append] at this
          omega
        have big : 10000000 < sizeLine := by decide
        refine q_app2 hg4 (ev_var rfl) (ev_len (ev_var rfl) (SqL.of m4)) (by rw [zv_length]; omega) fun H5 e5 => ?_
        have el5 : zv out ++ [V.int ((zv (SM.run1 st x)).length : Int)] = zv (out ++ [((SM.run1 st x).length : Int)]) := by
          rw [← zv_append, zv_length]
          rfl
        rw [el5]
        refine s_ext upd_same ((upd_ne pg).trans (e5 _ _ m4)) (ev_var rfl) (ev_var rfl) (by rw [zv_length, zv_length, List.length_append, List.length_singleton]; omega) fun H6 e6 => ?_
        have low : ∀ b o, H4 b = some o → b ≠ g → upd H6 g (.lst (zv (out ++ [((SM.run1 st x).length : Int)]) ++ zv (SM.run1 st x))) b = some o := fun b o hb bg => (upd_ne bg).trans (e6 _ _ ((upd_ne bg).trans (e5 _ _ hb)))
        have hn : ns.drop (i + (PyFlat.put1 c0).length) = PyFlat.put cs := by
          rw [← List.drop_drop, hd', List.drop_left]
        have hl : i + (PyFlat.put1 c0).length ≤ ns.length := by
          have := congrArg List.length hd'
          rw [List.length_drop, List.length_append] at this
          omega
        refine ⟨cs.length, Nat.lt_succ_self _, cs, xs, (Uw04.step st x).1, L', i + (PyFlat.put1 c0).length, out ++ ((SM.run1 st x).length : Int) :: SM.run1 st x, some (.ref p), rfl, rfl, hxs, SM.step_ok hst x, ?_, ⟨dr4, low _ _ r4 gr.symm⟩, ?_, hn, hl, gz', ?_, ?_⟩
        · exact hH4.keep (fun o ho => low _ _ ho ga.symm) fun b hb o ho => low _ _ ho fun q => gz' (q ▸ hb)
        · refine hcc.step (fun o ho hn hi => low _ _ (f4 _ _ (e3 _ _ ho) (fun q => ?_) (fun q => hn (.tail _ q)) (fun q => ?_)) fun q => hn (q ▸ .head _)) fun b hb => ?_
          · rw [q] at ho
            rw [e3 _ _ ho] at ha3
            exact hi _ _ _ (Option.some.inj ha3)
          · rw [q, r2] at ho
            exact hi _ _ _ (Option.some.inj ho).symm
          · cases hb with
            | head => exact .inl (.head _)
            | tail _ hb =>
              rcases hL' b hb with q | q
              · exact .inl (.tail _ q)
              · exact .inr (fresh_back e3 q)
        · rw [upd_same, zv_append, List.append_assoc]
          rfl
        · rw [← eo, List.append_assoc]
          rfl
    · have ge : ns.length ≤ i := Nat.le_of_not_lt (of_decide_eq_false hb)
      cases raws with
      | cons hx hxs =>
        exfalso
        obtain ⟨n, t, en⟩ := put1_cons hx
        have hd' : ns.drop i = PyFlat.put1 _ ++ PyFlat.put _ := hd
        rw [List.drop_eq_nil_of_le ge, en] at hd'
        cases hd'
      | nil =>
        have e : out = PyUw04.answers ns := by
          rw [← eo]
          exact (List.append_nil _).symm
        refine ⟨_, rfl, k H3 g ?_⟩
        rw [e3 _ _ hg, e]
        rfl
end
end SC

/-! dicts whose keys are pairs of tuples of whole numbers (a stand's two rows) -/
namespace SC
open PySem PySem.Spec PyProof.Rows L2 Evl
open SM (Sk)
def nums (l : List Nat) : List NestedKey := l.map fun (x : Nat) => NestedKey.num (x : Int)
def nk (k : Sk) : NestedKey := .tup [.tup (nums k.1), .tup (nums k.2)]
theorem nums_inj : ∀ {a b : List Nat}, nums a = nums b → a = b
  | [], [], _ => rfl
  | [], _ :: _, e => nomatch e
  | _ :: _, [], e => nomatch e
  | x :: a, y :: b, e => by
    obtain ⟨e1, e2⟩ := List.cons.inj e
    have e3 := NestedKey.num.inj e1
    rw [nums_inj e2, show x = y by omega]
theorem nk_inj {a b : Sk} (e : nk a = nk b) : a = b := by
  have e1 := NestedKey.tup.inj e
  obtain ⟨e2, e3⟩ := List.cons.inj e1
  obtain ⟨e4, _⟩ := List.cons.inj e3
  exact Prod.ext (nums_inj (NestedKey.tup.inj e2)) (nums_inj (NestedKey.tup.inj e4))
theorem nk_dec (a b : Sk) : decide (nk a = nk b) = decide (a = b) := decide_eq_decide.2 ⟨nk_inj, fun e => e ▸ rfl⟩
theorem nums_depth : ∀ l : List Nat, NestedKey.depthAll (nums l) = 0
  | [] => rfl
  | x :: l => by
    show max (NestedKey.depth (.num (x : Int))) (NestedKey.depthAll (nums l)) = 0
    rw [nums_depth l]
    rfl
theorem nk_depth (k : Sk) : (nk k).depth ≤ 8 := by
  unfold nk
  simp only [NestedKey.depth, NestedKey.depthAll, nums_depth]
  omega
/-- the kind of key -/
def skKind (P : Program) (w : World) : HeapKind P w Sk where
  is := fun h k a => (nestedKind P w).is h (nk k) a
  hash := fun k => (nk k).hash w
  draws := fun k => (nk k).draws
  room := (nestedKind P w).room
  inj := fun hx hy => nk_inj ((nestedKind P w).inj hx hy)
  keeps := (nestedKind P w).keeps
  pyHash := (nestedKind P w).pyHash
  eqBool := fun hu hx hy h => (nestedKind P w).eqBool hu hx hy (by rw [nk_dec]; exact h)
  quiet := (nestedKind P w).quiet

/-! ### entries: key, where the key stands, value -/
section
variable {β γ : Type}
def atN (es : List (Sk × Addr × β)) (k : Sk) : Option β := (es.find? fun x => decide (x.1 = k)).map fun x => x.2.2
def setN (k : Sk) (v : β) (x : Sk × Addr × β) : Sk × Addr × β := if x.1 = k then (x.1, x.2.1, v) else x
def putN (es : List (Sk × Addr × β)) (k : Sk) (a : Addr) (v : β) : List (Sk × Addr × β) := if (atN es k).isSome = true then es.map (setN k v) else es ++ [(k, a, v)]
def mapN (g : β → γ) (x : Sk × Addr × β) : Sk × Addr × γ := (x.1, x.2.1, g x.2.2)
theorem atN_cons (x : Sk × Addr × β) (es : List (Sk × Addr × β)) (k : Sk) : atN (x :: es) k = if x.1 = k then some x.2.2 else atN es k := by
  unfold atN
  rw [List.find?_cons]
  by_cases c : x.1 = k
  · rw [if_pos c, decide_eq_true c]
    rfl
  · rw [if_neg c, decide_eq_false c]
theorem atN_map (g : β → γ) (k : Sk) : ∀ es : List (Sk × Addr × β), atN (es.map (mapN g)) k = (atN es k).map g
  | [] => rfl
  | x :: es => by
    rw [List.map_cons, atN_cons, atN_cons, atN_map g k es]
    by_cases c : x.1 = k
    · rw [if_pos c, if_pos (show (mapN g x).1 = k from c)]
      rfl
    · rw [if_neg c, if_neg (show ¬ (mapN g x).1 = k from c)]
theorem putN_map (g : β → γ) (es : List (Sk × Addr × β)) (k : Sk) (a : Addr) (v : β) : putN (es.map (mapN g)) k a (g v) = (putN es k a v).map (mapN g) := by
  unfold putN
  rw [atN_map, Option.isSome_map]
  by_cases c : (atN es k).isSome = true
  · rw [if_pos c, if_pos c, List.map_map, List.map_map]
    refine List.map_congr_left fun x _ => ?_
    show setN k (g v) (mapN g x) = mapN g (setN k v x)
    unfold setN mapN
    dsimp only
    by_cases d : x.1 = k
    · rw [if_pos d, if_pos d]
    · rw [if_neg d, if_neg d]
  · rw [if_neg c, if_neg c, List.map_append]
    rfl
theorem atN_mem {k : Sk} {v : β} : ∀ {es : List (Sk × Addr × β)}, atN es k = some v → ∃ a, (k, a, v) ∈ es
  | [], h => nomatch h
  | x :: es, h => by
    rw [atN_cons] at h
    by_cases c : x.1 = k
    · rw [if_pos c] at h
      cases h
      subst c
      exact ⟨x.2.1, List.Mem.head _⟩
    · rw [if_neg c] at h
      obtain ⟨a, ha⟩ := atN_mem h
      exact ⟨a, List.Mem.tail _ ha⟩
def keysN (es : List (Sk × Addr × β)) : List Sk := es.map fun x => x.1
theorem atN_isSome {k : Sk} : ∀ {es : List (Sk × Addr × β)}, (atN es k).isSome = true ↔ k ∈ keysN es
  | [] => ⟨(fun h => nomatch h), (fun h => nomatch h)⟩
  | x :: es => by
    rw [atN_cons]
    show _ ↔ k ∈ x.1 :: keysN es
    rw [List.mem_cons, ← atN_isSome (es := es)]
    by_cases c : x.1 = k
    · rw [if_pos c]
      exact ⟨fun _ => .inl c.symm, fun _ => rfl⟩
    · rw [if_neg c]
      exact ⟨.inr, fun q => q.elim (fun z => absurd z.symm c) id⟩
theorem keys_setN (k : Sk) (v : β) (es : List (Sk × Addr × β)) : keysN (es.map (setN k v)) = keysN es := by
  unfold keysN
  rw [List.map_map]
  refine List.map_congr_left fun x _ => ?_
  show (setN k v x).1 = x.1
  unfold setN
  by_cases c : x.1 = k
  · rw [if_pos c]
  · rw [if_neg c]
theorem keys_putN (es : List (Sk × Addr × β)) (k : Sk) (a : Addr) (v : β) : keysN (putN es k a v) = if k ∈ keysN es then keysN es else keysN es ++ [k] := by
  unfold putN
  by_cases c : (atN es k).isSome = true
  · rw [if_pos c, if_pos (atN_isSome.1 c), keys_setN]
  · rw [if_neg c, if_neg (fun q => c (atN_isSome.2 q))]
    unfold keysN
    rw [List.map_append]
    rfl
theorem atN_append (es : List (Sk × Addr × β)) (k j : Sk) (a : Addr) (v : β) : atN (es ++ [(k, a, v)]) j = if (atN es j).isSome = true then atN es j else if k = j then some v else none := by
  induction es with
  | nil =>
    show atN [(k, a, v)] j = _
    rw [atN_cons]
    rfl
  | cons x es ih =>
    show atN (x :: (es ++ [(k, a, v)])) j = _
    rw [atN_cons, atN_cons, ih]
    by_cases c : x.1 = j
    · rw [if_pos c, if_pos c]
      rfl
    · rw [if_neg c, if_neg c]
theorem atN_setN (k : Sk) (v : β) (j : Sk) : ∀ es : List (Sk × Addr × β), atN (es.map (setN k v)) j = if j = k then (atN es j).map (fun _ => v) else atN es j
  | [] => by
    show none = _
    by_cases c : j = k
    · rw [if_pos c]
      rfl
    · rw [if_neg c]
      rfl
  | x :: es => by
    rw [List.map_cons, atN_cons, atN_cons, atN_setN k v j es]
    have e1 : (setN k v x).1 = x.1 := by
      unfold setN
      by_cases c : x.1 = k
      · rw [if_pos c]
      · rw [if_neg c]
    rw [e1]
    by_cases c : x.1 = j
    · rw [if_pos c, if_pos c]
      unfold setN
      by_cases d : j = k
      · rw [if_pos d, if_pos (c.trans d)]
        rfl
      · rw [if_neg d, if_neg (fun z => d (c.symm.trans z))]
    · rw [if_neg c, if_neg c]
/-- what stands at a key behind a store -/
theorem atN_putN (es : List (Sk × Addr × β)) (k : Sk) (a : Addr) (v : β) (j : Sk) : atN (putN es k a v) j = if j = k then some v else atN es j := by
  unfold putN
  by_cases c : (atN es k).isSome = true
  · rw [if_pos c, atN_setN]
    by_cases d : j = k
    · subst d
      rw [if_pos rfl, if_pos rfl]
      obtain ⟨z, hz⟩ := Option.isSome_iff_exists.1 c
      rw [hz]
      rfl
    · rw [if_neg d, if_neg d]
  · rw [if_neg c, atN_append]
    by_cases d : j = k
    · subst d
      rw [if_pos rfl, if_neg c, if_pos rfl]
    · have d2 : ¬ k = j := fun z => d z.symm
      rw [if_neg d, if_neg d2]
      cases atN es j <;> rfl
theorem len_putN (es : List (Sk × Addr × β)) (k : Sk) (a : Addr) (v : β) : (putN es k a v).length ≤ es.length + 1 := by
  unfold putN
  by_cases c : (atN es k).isSome = true
  · rw [if_pos c, List.length_map]
    omega
  · rw [if_neg c, List.length_append, List.length_singleton]
    omega
theorem mem_putN {es : List (Sk × Addr × β)} {k : Sk} {a : Addr} {v : β} {x : Sk × Addr × β} (h : x ∈ putN es k a v) : (x = (k, a, v)) ∨ (∃ y ∈ es, x.1 = y.1 ∧ x.2.1 = y.2.1 ∧ (x.2.2 = y.2.2 ∨ (y.1 = k ∧ x.2.2 = v))) := by
  unfold putN at h
  by_cases c : (atN es k).isSome = true
  · rw [if_pos c] at h
    obtain ⟨y, hy, rfl⟩ := List.mem_map.1 h
    refine .inr ⟨y, hy, ?_⟩
    unfold setN
    by_cases d : y.1 = k
    · rw [if_pos d]
      exact ⟨rfl, rfl, .inr ⟨d, rfl⟩⟩
    · rw [if_neg d]
      exact ⟨rfl, rfl, .inl rfl⟩
  · rw [if_neg c] at h
    rcases List.mem_append.1 h with h | h
    · exact .inr ⟨x, h, rfl, rfl, .inl rfl⟩
    · exact .inl (List.mem_singleton.1 h)
end

/-! ### the dict in the heap -/
def NP : List (Sk × Addr × V) → List (Sk × Addr × Value) → Prop := Paired fun p q => p.1 = q.1 ∧ p.2.1 = q.2.1 ∧ RelV p.2.2 q.2.2
def ent (w : World) (x : Sk × Addr × Value) : DictEntry := ⟨(nk x.1).hash w, .ref x.2.1, x.2.2⟩
def NDict (w : World) (d : Addr) (es : List (Sk × Addr × V)) (h : Heap) : Prop :=
  es.length ≤ sizeLine ∧ (d == sysModules) = false ∧ ∃ xs, NP es xs ∧ ∃ ob ar ep, h.get? d = some ob ∧ ob.ExactDict ∧ ob.data = .dict ar ep ∧ ar.toList = xs.map (ent w) ∧ (xs.map fun x => x.1).Nodup
/-- a dict with such keys -/
def DN (w : World) (d : Addr) (es : List (Sk × Addr × V)) : HO := .ext (NDict w d es)
/-- the stand with these two rows, at b -/
def StandAt (H : Hp) (b : Addr) (k : Sk) : Prop := ∃ bl br, H b = some (.tup [.ref bl, .ref br]) ∧ H bl = some (.tup (nv k.1)) ∧ H br = some (.tup (nv k.2))
/-- the keys stand where the entries say -/
def KeysIn (H : Hp) (es : List (Sk × Addr × V)) : Prop := ∀ x ∈ es, StandAt H x.2.1 x.1
theorem StandAt.mono {H H' : Hp} {b : Addr} {k : Sk} (h : StandAt H b k) (e : ∀ c xs, H c = some (.tup xs) → H' c = some (.tup xs)) : StandAt H' b k := by
  obtain ⟨bl, br, h1, h2, h3⟩ := h
  exact ⟨bl, br, e _ _ h1, e _ _ h2, e _ _ h3⟩
theorem KeysIn.mono {H H' : Hp} {es : List (Sk × Addr × V)} (h : KeysIn H es) (e : ∀ c xs, H c = some (.tup xs) → H' c = some (.tup xs)) : KeysIn H' es := fun x hx => (h x hx).mono e
theorem ex_tup {H H' : Hp} (e : Ex H H') : ∀ c xs, H c = some (.tup xs) → H' c = some (.tup xs) := fun c xs h => e _ _ h
section
variable {P : Program} {w : World} {H : Hp} {h : Heap}
theorem nums_all : ∀ {l : List Nat} {us : List Value}, Vals (nv l) us → NestedAll h (nums l) us
  | [], _, r => by
    cases r
    exact .nil
  | x :: l, _, r => by
    cases r with
    | cons r1 r2 =>
      obtain ⟨t, rfl⟩ := r1
      exact .cons (.int _ t) (nums_all r2)
theorem tup_nums {a : Addr} {l : List Nat} (ok : HOk P w H h) (e : H a = some (.tup (nv l))) : NestedIs h (.tup (nums l)) (.ref a) := by
  obtain ⟨_, its, r, o, h1, h2, n, h3⟩ := ok a _ e
  exact .tup h1 h2 h3 (by simpa using nums_all r)
theorem stand_is {b : Addr} {k : Sk} (ok : HOk P w H h) (e : StandAt H b k) : (skKind P w).is h k b := by
  obtain ⟨bl, br, e1, e2, e3⟩ := e
  obtain ⟨_, its, r, o, h1, h2, n, h3⟩ := ok b _ e1
  refine ⟨.tup h1 h2 h3 ?_, nk_depth k⟩
  cases r with
  | cons r1 r =>
    cases r with
    | cons r2 r =>
      cases r
      cases r1
      cases r2
      exact .cons (tup_nums ok e2) (.cons (tup_nums ok e3) .nil)
theorem np_keys {es : List (Sk × Addr × V)} {xs : List (Sk × Addr × Value)} (r : NP es xs) (ok : HOk P w H h) (ki : KeysIn H es) : ∀ x ∈ xs, (skKind P w).is h x.1 x.2.1 := by
  induction r with
  | nil => exact fun x hx => nomatch hx
  | @cons p q ps qs g t ih =>
    intro x hx
    rcases List.mem_cons.1 hx with e | hx
    · subst e
      have := ki p (List.Mem.head _)
      rw [g.1, g.2.1] at this
      exact stand_is ok this
    · exact ih (fun y hy => ki y (List.Mem.tail _ hy)) x hx
theorem nd_rd {d : Addr} {es : List (Sk × Addr × V)} (ok : HOk P w H h) (e : Rd H d (DN w d es)) (ki : KeysIn H es) : es.length ≤ sizeLine ∧ (d == sysModules) = false ∧ ∃ xs, NP es xs ∧ h.DictOfH (skKind P w) d xs := by
  obtain ⟨⟨z, y, xs, r, ob, ar, ep, h1, h2, h3, h4, h5⟩, _, _⟩ := e.ok ok
  exact ⟨z, y, xs, r, ob, ar, ep, h1, h2, h3, h4, np_keys r ok ki, h5⟩
theorem NP.at {es : List (Sk × Addr × V)} {xs : List (Sk × Addr × Value)} (r : NP es xs) (k : Sk) : RelO (atN es k) ((atKey xs k).map fun x => x.2) := by
  induction r with
  | nil => exact True.intro
  | @cons p q ps qs g t ih =>
    obtain ⟨g1, _, g3⟩ := g
    rw [atN_cons]
    by_cases c : p.1 = k
    · have b : atKey (q :: qs) k = some q.2 := by simp [atKey, List.find?_cons, g1.symm.trans c]
      rw [if_pos c, b]
      exact g3
    · have b : atKey (q :: qs) k = atKey qs k := by
        have : ¬ q.1 = k := fun z => c (g1.trans z)
        simp [atKey, List.find?_cons, this]
      rw [if_neg c, b]
      exact ih
theorem NP.repl {es : List (Sk × Addr × V)} {xs : List (Sk × Addr × Value)} (r : NP es xs) (k : Sk) {y : V} {u : Value} (ry : RelV y u) : NP (es.map (setN k y)) (xs.map (putAt k u)) := by
  induction r with
  | nil => exact .nil
  | @cons p q ps qs g t ih =>
    refine .cons ?_ ih
    obtain ⟨g1, g2, g3⟩ := g
    unfold setN putAt
    by_cases c : p.1 = k
    · rw [if_pos c, if_pos (g1.symm.trans c)]
      exact ⟨g1, g2, ry⟩
    · rw [if_neg c, if_neg (fun z => c (g1.trans z))]
      exact ⟨g1, g2, g3⟩
theorem NP.snoc {es : List (Sk × Addr × V)} {xs : List (Sk × Addr × Value)} (r : NP es xs) (k : Sk) (b : Addr) {y : V} {u : Value} (ry : RelV y u) : NP (es ++ [(k, b, y)]) (xs ++ [(k, b, u)]) := by
  induction r with
  | nil => exact .cons ⟨rfl, rfl, ry⟩ .nil
  | cons g t ih => exact .cons g ih
theorem NP.put {es : List (Sk × Addr × V)} {xs : List (Sk × Addr × Value)} (r : NP es xs) (k : Sk) (b : Addr) {y : V} {u : Value} (ry : RelV y u) : NP (putN es k b y) (storedH xs k b u) := by
  have e := (r.at k).isSome_eq
  rw [Option.isSome_map] at e
  unfold putN storedH
  by_cases c : (atN es k).isSome = true
  · rw [if_pos c, if_pos (e ▸ c)]
    exact r.repl k ry
  · rw [if_neg c, if_neg (fun z => c (e ▸ z))]
    exact r.snoc k b ry
theorem nd_new {d : Addr} {es : List (Sk × Addr × V)} {xs : List (Sk × Addr × Value)} (z : es.length ≤ sizeLine) (y : (d == sysModules) = false) (r : NP es xs) (dd : h.DictOfH (skKind P w) d xs) : ObjOk P w H h d (DN w d es) := by
  obtain ⟨ob, ar, ep, h1, h2, h3, h4, _, h5⟩ := dd
  refine ⟨⟨z, y, xs, r, ob, ar, ep, h1, h2, h3, h4, h5⟩, ⟨ob, h1⟩, fun g1 g2 q k => ?_⟩
  obtain ⟨z', y', xs', r', ob', ar', ep', k1, k2⟩ := q
  exact ⟨z', y', xs', r', ob', ar', ep', k _ k1, k2⟩
end
section
variable {X : Cx} {pins : List (Addr × Obj)} {σ : L2.St} {H : Hp} {s : Shared} {d b : Addr} {es : List (Sk × Addr × V)} {k : Sk} {v : V} {r : Value} {A : Around} {E : Value → Shared → Prop}
theorem nroom (hn : A.units + 64 < cLine) : (skKind X.prog X.w).room A.in1 := by
  show A.units + 1 + 8 < cLine
  omega
theorem n_get {Q : Value → Shared → Prop} (hn : A.units + 64 < cLine) (I : Inv X pins σ H s) (e : Rd H d (DN X.w d es)) (ki : KeysIn H es) (eb : StandAt H b k) (l : atN es k = some v) (q : ∀ u s', Inv X pins σ H s' → RelV v u → Q u s') : wpAny (model X.prog X.w) A (getItem (.ref d) (.ref b)) Q E s := by
  obtain ⟨_, _, xs, rel, dd⟩ := nd_rd I.hok e ki
  have ro := rel.at k
  rw [l] at ro
  obtain ⟨u, hu, ru⟩ := RelO.some_of ro
  obtain ⟨p, hp, e2⟩ := Option.map_eq_some_iff.mp hu
  subst e2
  exact wpAny_getItem_heap (nroom (X := X) hn) (stand_is I.hok eb) dd hp (q _ _ (I.tok _) ru)
theorem n_in {Q : Value → Shared → Prop} (hn : A.units + 64 < cLine) (I : Inv X pins σ H s) (e : Rd H d (DN X.w d es)) (ki : KeysIn H es) (eb : StandAt H b k) (q : ∀ s', Inv X pins σ H s' → Q (.bool (atN es k).isSome) s') : wpAny (model X.prog X.w) A (compareOp .In (.ref b) (.ref d)) Q E s := by
  obtain ⟨_, hd, xs, rel, dd⟩ := nd_rd I.hok e ki
  have eq := (rel.at k).isSome_eq
  rw [Option.isSome_map] at eq
  refine wpAny_in_heap (nroom (X := X) hn) (stand_is I.hok eb) hd dd ?_
  rw [← eq]
  exact q _ (I.tok _)
theorem n_notIn {Q : Value → Shared → Prop} (hn : A.units + 64 < cLine) (I : Inv X pins σ H s) (e : Rd H d (DN X.w d es)) (ki : KeysIn H es) (eb : StandAt H b k) (q : ∀ s', Inv X pins σ H s' → Q (.bool (!(atN es k).isSome)) s') : wpAny (model X.prog X.w) A (compareOp .NotIn (.ref b) (.ref d)) Q E s := by
  obtain ⟨_, hd, xs, rel, dd⟩ := nd_rd I.hok e ki
  have eq := (rel.at k).isSome_eq
  rw [Option.isSome_map] at eq
  refine wpAny_notIn_heap (nroom (X := X) hn) (stand_is I.hok eb) hd dd ?_
  rw [← eq]
  exact q _ (I.tok _)
theorem n_get1 {Q : Value → Shared → Prop} (hn : A.units + 64 < cLine) (I : Inv X pins σ H s) (e : Rd H d (DN X.w d es)) (ki : KeysIn H es) (eb : StandAt H b k) (q : ∀ u s', Inv X pins σ H s' → RelV ((atN es k).getD .non) u → Q u s') : wpAny (model X.prog X.w) A (call (.builtin "dict.get") [.ref d, .ref b]) Q E s := by
  obtain ⟨_, hd, xs, rel, dd⟩ := nd_rd I.hok e ki
  refine call_meetsIn PySem.F.slot_dict_get dd.typeIs PySem.F.entry_dict_get (PySem.F.args_dict_get_2 _ _) (meetsH_dict_get (skKind X.prog X.w) d b hd) ⟨nroom (X := X) hn, k, xs, stand_is I.hok eb, dd, ?_⟩
  exact q _ _ (I.tok _) ((rel.at k).getD rfl)
theorem n_put {Q : Unit → Shared → Prop} (hn : A.units + 64 < cLine) (I : Inv X pins σ H s) (e : H d = some (DN X.w d es)) (ki : KeysIn H es) (eb : StandAt H b k) (lt : es.length < sizeLine) (rv : RelV v r) (q : ∀ s', Inv X pins σ (upd H d (DN X.w d (putN es k b v))) s' → Q () s') :
    wpAny (model X.prog X.w) A (setItem (.ref d) (.ref b) r) Q E s := by
  obtain ⟨z, hd, xs, rel, dd⟩ := nd_rd I.hok (.inl e) ki
  have lx : es.length = xs.length := Paired.length rel
  refine wpAny_setItem_heap (hsz := by omega) (nroom (X := X) hn) (stand_is I.hok eb) dd fun h' dd' hs => q _ ?_
  have he : ∃ o, h'.get? d = some o := let ⟨o, _, _, hq, _⟩ := dd'; ⟨o, hq⟩
  have lp := len_putN es k b v
  exact d_write I (by rw [e]; exact True.intro) hs he (nd_new (by omega) hd (rel.put k b rv) dd')
end
/-! ### the rules -/
def tNNew (w : World) : TE := fun _ H Q => ∀ p, H p = none → Q (.ref p) (upd H p (DN w p []))
/-- what the dict at d holds at the stand at b -/
def NGet (w : World) (H : Hp) (x y : V) (o : Option V) : Prop := ∃ d b es k, x = .ref d ∧ y = .ref b ∧ Rd H d (DN w d es) ∧ KeysIn H es ∧ StandAt H b k ∧ o = atN es k
def tNGet (w : World) (td ty : TE) : TE := fun σ H Q => td σ H fun x H1 => ty σ H1 fun y H2 => ∃ v, NGet w H2 x y (some v) ∧ Q v H2
def tNIn (w : World) (ty td : TE) : TE := fun σ H Q => ty σ H fun y H1 => td σ H1 fun x H2 => ∃ o, NGet w H2 x y o ∧ Q (.bl o.isSome) H2
def tNNotIn (w : World) (ty td : TE) : TE := fun σ H Q => ty σ H fun y H1 => td σ H1 fun x H2 => ∃ o, NGet w H2 x y o ∧ Q (.bl (!o.isSome)) H2
def tNGet1 (w : World) (td ty : TE) : TE := fun σ H Q => td σ H fun x H1 => ∃ d es, x = .ref d ∧ Rd H1 d (DN w d es) ∧ ty σ H1 fun y H2 => ∃ o, NGet w H2 x y o ∧ Q (o.getD .non) H2
def sNPut (w : World) (td ty tv : TE) : TS := fun D σ H => tv σ H fun v H1 => td σ H1 fun x H2 => ty σ H2 fun y H3 => ∃ d b es k, x = .ref d ∧ y = .ref b ∧ H3 d = some (DN w d es) ∧ KeysIn H3 es ∧ StandAt H3 b k ∧ es.length < sizeLine ∧ D.nx σ (upd H3 d (DN w d (putN es k b v)))
section
variable {X : Cx} {o i e value : Expr} {pos pos' apos cpos : Pos} {td ty tv : TE}
theorem pe_nnew {w : World} (hw : X.w = w) : PE X (.Dict [] [] pos) (tNNew w) := by
  subst hw
  refine ⟨fun pins s σ H Q I q => wpAny_Dict_empty ?_⟩
  have y : (s.heap.objs.size == sysModules) = false := beq_eq_false_iff_ne.mpr (Ne.symm (Nat.ne_of_lt I.big))
  have I2 := I.laid (a := s.heap.objs.size) (o := DN X.w s.heap.objs.size []) (h' := s.heap.push { cls := .type "dict", data := .dict #[] }) (t' := s.toks) (fun _ _ z => Heap.get?_push_of_some _ z) (Nat.le_refl _) (nd_new (Nat.zero_le _) y .nil (Heap.DictOfH.new s.heap))
  exact ⟨.ref s.heap.objs.size, _, I2, rfl, q _ (I.hok.fresh (Nat.le_refl _))⟩
theorem nd_type {pins : List (Addr × Obj)} {σ : L2.St} {H : Hp} {s : Shared} {d : Addr} {es : List (Sk × Addr × V)} (I : Inv X pins σ H s) (e : Rd H d (DN X.w d es)) : s.TypeIs (.ref d) "dict" ∧ ∀ c, Value.ref d = .ref c → ∃ ob, s.heap.get? c = some ob ∧ ob.dict = none := by
  obtain ⟨⟨_, _, xs, _, ob, ar, ep, h1, h2, _⟩, _, _⟩ := e.ok I.hok
  refine ⟨⟨ob, h1, h2.1⟩, fun c q => ?_⟩
  cases q
  exact ⟨ob, h1, h2.2.1⟩
theorem pe_nget {w : World} (hw : X.w = w) (hn : X.A.units + 64 < cLine) (ho : PE X o td) (hi : PE X i ty) (hs : NoSl i) : PE X (.Subscript o i pos) (tNGet w td ty) := by
  subst hw
  refine ⟨fun pins s σ H Q I q => subD_of PySem.F.slot_dict_getitem.lookup hs ?_⟩
  refine thn (ho.run pins s σ H _ I q) fun u s1 ⟨x, H1, I1, rx, q1⟩ => ?_
  refine thn (hi.run pins s1 σ H1 _ I1 q1) fun iv s2 ⟨y, H2, I2, ry, v, ⟨d, b, es, k, ex, ey, g, ki, eb, l⟩, q2⟩ => ?_
  subst ex ey
  cases rx
  cases ry
  exact ⟨(nd_type I2 g).1, n_get hn I2 g ki eb l.symm fun u s3 I3 ru => ⟨v, H2, I3, ru, q2⟩⟩
theorem pc_nin {w : World} (hw : X.w = w) (hn : X.A.units + 64 < cLine) (hi : PE X i ty) (ho : PE X o td) : PC X .In i o (tNIn w ty td) := by
  subst hw
  refine ⟨fun pins s σ H Q I q => ?_⟩
  refine thn (hi.run pins s σ H _ I q) fun iv s1 ⟨y, H1, I1, ry, q1⟩ => ?_
  refine thn (ho.run pins s1 σ H1 _ I1 q1) fun u s2 ⟨x, H2, I2, rx, ov, ⟨d, b, es, k, ex, ey, g, ki, eb, l⟩, q2⟩ => ?_
  subst ex ey l
  cases rx
  cases ry
  exact n_in hn I2 g ki eb fun s3 I3 => ⟨.bl (atN es k).isSome, H2, I3, rfl, q2⟩
theorem pc_nnotin {w : World} (hw : X.w = w) (hn : X.A.units + 64 < cLine) (hi : PE X i ty) (ho : PE X o td) : PC X .NotIn i o (tNNotIn w ty td) := by
  subst hw
  refine ⟨fun pins s σ H Q I q => ?_⟩
  refine thn (hi.run pins s σ H _ I q) fun iv s1 ⟨y, H1, I1, ry, q1⟩ => ?_
  refine thn (ho.run pins s1 σ H1 _ I1 q1) fun u s2 ⟨x, H2, I2, rx, ov, ⟨d, b, es, k, ex, ey, g, ki, eb, l⟩, q2⟩ => ?_
  subst ex ey l
  cases rx
  cases ry
  exact n_notIn hn I2 g ki eb fun s3 I3 => ⟨.bl (!(atN es k).isSome), H2, I3, rfl, q2⟩
theorem ps_nput {w : World} (hw : X.w = w) (hn : X.A.units + 64 < cLine) (ho : PE X o td) (hi : PE X i ty) (hv : PE X value tv) (hs : swapsWith value (some (.Subscript o i pos')) pos.line X.env = pure false) : PS X (.Assign [.Subscript o i pos'] value pos) (sNPut w td ty tv) := by
  subst hw
  refine ⟨fun pins s σ H D I q => wpAny_Assign_Subscript ?_ hs⟩
  refine thn (hv.run pins s σ H _ I q) fun r s1 ⟨v, H1, I1, rv, q1⟩ => ?_
  refine thn (ho.run pins s1 σ H1 _ I1 q1) fun u s2 ⟨x, H2, I2, rx, q2⟩ => ?_
  refine thn (hi.run pins s2 σ H2 _ I2 q2) fun iv s3 ⟨y, H3, I3, ry, d, b, es, k, ex, ey, g, ki, eb, lt, q3⟩ => ?_
  subst ex ey
  cases rx
  cases ry
  exact n_put hn I3 g ki eb lt rv fun s4 I4 => ⟨σ, _, I4, q3⟩
theorem pe_nget1 {w : World} (hw : X.w = w) (hn : X.A.units + 64 < cLine) (ho : PE X o td) (he : PE X e ty) (m : M1 X o "get" apos e cpos) : PE X (.Call (.Attribute o "get" apos) [e] [] cpos) (tNGet1 w td ty) := by
  subst hw
  refine ⟨fun pins s σ H Q I q => wpAny_Call_method m.base m.few m.line PySem.F.plainAttrs_dict PySem.F.slot_dict_get PySem.F.type_dict_get ?_⟩
  refine thn (ho.run pins s σ H _ I q) fun u s1 ⟨x, H1, I1, rx, d, es, ex, g, q1⟩ => ?_
  subst ex
  cases rx
  obtain ⟨t1, t2⟩ := nd_type I1 g
  refine ⟨t1, t2, ?_⟩
  rw [m.trees]
  refine Calls.callWith_builtin rfl (Calls.evalArgs_plain (Calls.spliced_cons ?_))
  refine thn (he.run pins s1 σ H1 _ I1 q1) fun iv s2 ⟨y, H2, I2, ry, ov, ⟨d', b, es', k, ex, ey, g', ki, eb, l⟩, q2⟩ => Calls.spliced_nil ?_
  cases ex
  subst ey l
  cases ry
  exact n_get1 hn I2 g' ki eb fun u s3 I3 ru => ⟨_, H2, I3, ru, q2⟩
end
/-! ### for k in d -/
def ItN (w : World) (d : Addr) (ob : Obj) (es : List (Sk × Addr × V)) : It :=
  ⟨fun i H => H d = some (.frz ob (DN w d es)) ∧ i < es.length, fun i H x H' => H' = H ∧ ∃ y, es[i]? = some y ∧ x = .ref y.2.1, fun i H => H d = some (.frz ob (DN w d es)) ∧ es.length ≤ i⟩
theorem np_get {es : List (Sk × Addr × V)} {xs : List (Sk × Addr × Value)} (r : NP es xs) : ∀ {i : Nat} {y : Sk × Addr × V}, es[i]? = some y → ∃ z, xs[i]? = some z ∧ y.2.1 = z.2.1 := by
  induction r with
  | nil => intro i y e; simp at e
  | @cons p q ps qs g t ih =>
    intro i y e
    cases i with
    | zero =>
      cases e
      exact ⟨q, rfl, g.2.1⟩
    | succ j => exact ih e
theorem frzN {X : Cx} {pins : List (Addr × Obj)} {σ : L2.St} {H : Hp} {s : Shared} {d : Addr} {ob : Obj} {es : List (Sk × Addr × V)} (I : Inv X pins σ H s) (h : H d = some (.frz ob (DN X.w d es))) :
    (d == sysModules) = false ∧ s.heap.get? d = some ob ∧ ob.ExactDict ∧ ∃ (ar : Array DictEntry) (ep : Nat), ob.data = .dict ar ep ∧ ar.size = es.length ∧ ∀ (i : Nat) (y : Sk × Addr × V), es[i]? = some y → ∃ en : DictEntry, ar[i]? = some en ∧ en.key = .ref y.2.1 := by
  obtain ⟨hd, ⟨z, hs, xs, pr, o', ar, ep, ho, hx, hdt, he, _⟩, _, _⟩ := I.hok d _ h
  rw [hd] at ho
  cases ho
  refine ⟨hs, hd, hx, ar, ep, hdt, ?_, fun i y e => ?_⟩
  · have l1 : ar.size = xs.length := by rw [← Array.length_toList, he, List.length_map]
    have l2 : es.length = xs.length := Paired.length pr
    omega
  · obtain ⟨b, hb, e1⟩ := np_get pr e
    refine ⟨ent X.w b, ?_, ?_⟩
    · rw [← Array.getElem?_toList, he, List.getElem?_map, hb]
      rfl
    · rw [e1]
      rfl
theorem turn_N {P : Program} {w : World} {K : PySem.W.Frag} {tg : Expr} {d : Addr} {ob : Obj} {ar : Array DictEntry} {ep : Nat} {es : List (Sk × Addr × V)} (it : Addr) (hod : ob.data = .dict ar ep) : Turn P w K tg (ItN w d ob es) [it] it (fun i h => h.IsKeyIter it d i es.length ep) where
  mem := List.mem_singleton.2 rfl
  obj := fun i h st b hb => by
    cases List.mem_singleton.1 hb
    obtain ⟨oi, e, c, dd⟩ := st
    exact ⟨oi, e, fun v z => by rw [dd] at z; cases z⟩
  keep := fun i h h' st k => st.at (fun oi e => k it (List.mem_singleton.2 rfl) oi e)
  item := by
    intro X hP hw hK hc i pins s σ H E I hf st hg
    subst hP hw hK
    obtain ⟨f0, f1, f2, f3, f4, f5⟩ := hf it (List.mem_singleton.2 rfl)
    obtain ⟨hs, hgd, hx, ar', ep', hdt, hsz, entr⟩ := frzN I hg.1
    obtain ⟨rfl, rfl⟩ := dict_ep hod hdt
    obtain ⟨y, hkv⟩ : ∃ y, es[i]? = some y := ⟨_, List.getElem?_eq_getElem (show i < es.length from hg.2)⟩
    obtain ⟨en, hen, hkey⟩ := entr i y hkv
    refine next_key_item st hgd hdt hsz hen fun h' st' sb => ?_
    have I1 : Inv X pins σ H { s with heap := h' } := I.turned (t' := s.toks) (fun b o hb e => (sb.2 b hb).trans e) f0 f1 f3 f4 f5
    obtain ⟨oi, e, c, dd⟩ := id st'
    exact ⟨en.key, rfl, go_of (s := { s with heap := h' }) e c dd (by decide) ⟨.ref y.2.1, H, I1, hkey, ⟨rfl, _, hkv, rfl⟩, st', fun b hb => (hf b hb).1⟩⟩
  done := by
    intro X hP hw hK hc i pins s σ H E I hf st hg
    subst hP hw hK
    obtain ⟨f0, f1, f2, f3, f4, f5⟩ := hf it (List.mem_singleton.2 rfl)
    obtain ⟨hs, hgd, hx, ar', ep', hdt, hsz, entr⟩ := frzN I hg.1
    obtain ⟨rfl, rfl⟩ := dict_ep hod hdt
    exact next_key_end (I.ok.hd hc) st hgd hdt hsz hg.2 fun h' eb => ⟨rfl, I.turned (t' := s.toks) (fun b o hb e => eb b o hb e) f0 f1 f3 f4 f5⟩
  self := fun A i s Q E st h => by
    refine wpAny_pyIter_slot st.typeIs PySem.F.slot_dict_keyiterator_iter (wpAny_call_entry PySem.F.slot_dict_keyiterator_iter st.typeIs PySem.F.entry_dict_keyiterator_iter ?_ (PySem.F.args_dict_keyiterator_iter_1 _))
    show wpAny _ _ (ret (.ref it)) _ _ s
    exact wpAny_pure ⟨_, rfl, "dict_keyiterator", _, st.typeIs, PySem.F.slot_dict_keyiterator_next.lookup, h⟩
def iNKeys (w : World) (td : TE) : TI := fun σ H R => td σ H fun x H1 => ∃ d ob es, x = .ref d ∧ H1 d = some (.frz ob (DN w d es)) ∧ R (ItN w d ob es) H1
theorem pi_nkeys {X : Cx} {w : World} {tg e : Expr} {td : TE} (hw : X.w = w) (he : PE X e td) : PI X tg e (iNKeys w td) := by
  subst hw
  refine ⟨fun pins s σ H R I q => thn (he.run pins s σ H _ I q) fun u s1 ⟨x, H1, I1, rx, d, ob, es, ex, hd, q⟩ => ?_⟩
  subst ex
  cases rx
  obtain ⟨hs, hgd, hx, ar, ep, hdt, hsz, entr⟩ := frzN I1 hd
  refine iter_keys hs hgd hx hdt (pi_one (tk := s1.toks) I1 _ (turn_N _ hdt) ⟨_, Heap.get?_push_size _ rfl, rfl, ?_⟩ q)
  rw [hsz] <;> rfl
/-! ### xs.extend(t), t a tuple -/
def rExtendT : V → List V → Hp → VK → Prop := fun x vs H Q => ∃ l b xs zs, x = .ref l ∧ vs = [.ref b] ∧ H l = some (.lst xs) ∧ H b = some (.tup zs) ∧ xs.length + zs.length ≤ sizeLine ∧ Q .non (upd H l (.lst (xs ++ zs)))
theorem meets_extT (l b : Addr) (items : Array Value) (n : Nat) (items2 : Array Value) (hs0 : (Builtin.List.listTooLong (items.size + items2.size)) = false) (hs1 : items.size ≤ sizeLine) (hs2 : items.size + items2.size ≤ sizeLine + 1) :
    Meets (Builtin.«list.extend» ⟨[.ref l, .ref b], []⟩) (fun _ R s => s.heap.get? l = some { cls := .type "list", data := .seq items n } ∧ IsTup s.heap b items2 ∧ R (.ok (.ret Value.none)) { s with heap := s.heap.update l (Obj.mapSeq fun x => x ++ items2) }) := by
  refine .of_wp fun prog w A R s q => ?_
  obtain ⟨hl, ⟨ob, h1, h2, n2, h3⟩, q⟩ := q
  show wpAny _ _ (Builtin.List.listExtendWith (.ref l) (.ref b) .none) _ _ s
  unfold Builtin.List.listExtendWith
  refine wpAny_bind (wpAny_typeOf ⟨ob, h1, h2⟩ ?_)
  have t : (Builtin.List.listSameRef (.ref l) (.ref b) || Value.type "tuple" == Value.type "list" || Value.type "tuple" == Value.type "tuple") = true := by simp
  simp only [t, if_true]
  refine wpAny_bind ?_
  unfold Builtin.List.listItems
  refine wpAny_bind (wpAny_seqItems h1 h3 (wpAny_pure (wpAny_bind (wpAny_bind (wpAny_seqItems hl rfl (wpAny_pure ?_))))))
  have c : ¬ (!items.isEmpty && Builtin.List.listTooLong (items.size + items2.size)) = true := by
    rw [hs0, Bool.and_false]
    exact Bool.false_ne_true
  rw [if_neg c]
  have z : (items ++ items2).size ≤ sizeLine + 1 := by rw [Array.size_append]; exact hs2
  show wpAny _ _ (updateSeq l (fun x => x ++ items2) >>= fun _ => ret .none) _ _ s
  exact wpAny_bind (wpAny_updateSeq hl rfl (wpAny_pure ⟨_, rfl, q⟩) (hz := hs1) (_hz' := z))
theorem mt_extendT {X : Cx} : MtM X "list.extend" rExtendT := by
  intro pins s σ H x vs v us Q I rx rv q
  obtain ⟨l, b, xs, zs, rfl, rfl, hH, hB, hz, q⟩ := q
  cases rx
  obtain ⟨u, rfl, ru⟩ := rv.one
  cases ru
  obtain ⟨z, its, n, r, hl, e⟩ := I.lstM hH
  obtain ⟨its2, r2, ht, _⟩ := I.tuple (st_of hB)
  have l2 := r2.length
  have sz : its.toArray.size + its2.toArray.size ≤ sizeLine := by rw [List.size_toArray, List.size_toArray]; omega
  refine call_meets PySem.F.slot_list_extend ⟨_, e, rfl⟩ PySem.F.entry_list_extend (PySem.F.args_list_extend_2 _ _) (meets_extT l b its.toArray n its2.toArray (notLongL sz) (by omega) (by omega)) ⟨e, ht, ?_⟩
  refine ⟨.non, _, I.lset (its' := its ++ its2) hH e (by simp) (r.append r2) ?_, rfl, q⟩
  rw [List.length_append]
  exact hz
end SC

namespace SC
open PySem PySem.Spec PyProof.Rows L2 Evl
open SM (toZ Sk Sp3 onOf stepsOf)
def stF (v0 v1 v2 : V) : List (Str × V) := [("carrying", v0), ("weight", v1), ("after", v2)]
theorem stF_carrying {v0 v1 v2 : V} : (stF v0 v1 v2).lookup ("carrying" : Str) = some v0 := lk_here
theorem stF_weight {v0 v1 v2 : V} : (stF v0 v1 v2).lookup ("weight" : Str) = some v1 := (lk_past (by decide +kernel)).trans (lk_here)
theorem stF_after {v0 v1 v2 : V} : (stF v0 v1 v2).lookup ("after" : Str) = some v2 := (lk_past (by decide +kernel)).trans ((lk_past (by decide +kernel)).trans (lk_here))
theorem stF_put_carrying {v0 v1 v2 y : V} : putF "carrying" y (stF v0 v1 v2) = stF y v1 v2 := put_here
theorem stF_put_weight {v0 v1 v2 y : V} : putF "weight" y (stF v0 v1 v2) = stF v0 y v2 := (put_past (by decide +kernel)).trans (congrArg _ (put_here))
theorem stF_put_after {v0 v1 v2 y : V} : putF "after" y (stF v0 v1 v2) = stF v0 v1 y := (put_past (by decide +kernel)).trans (congrArg _ ((put_past (by decide +kernel)).trans (congrArg _ (put_here))))
theorem stF_no {v0 v1 v2 : V} {m : Str} (h_carrying : (m == ("carrying" : Str)) = false) (h_weight : (m == ("weight" : Str)) = false) (h_after : (m == ("after" : Str)) = false) : (stF v0 v1 v2).lookup m = none := (lk_past (h_carrying)).trans ((lk_past (h_weight)).trans ((lk_past (h_after)).trans (rfl)))
theorem stF_n1 {v0 v1 : V} : putF "weight" v1 ([("carrying", v0)] : List (Str × V)) = ([("carrying", v0), ("weight", v1)] : List (Str × V)) := (put_past (by decide +kernel)).trans (congrArg _ (rfl))
theorem stF_n2 {v0 v1 v2 : V} : putF "after" v2 ([("carrying", v0), ("weight", v1)] : List (Str × V)) = ([("carrying", v0), ("weight", v1), ("after", v2)] : List (Str × V)) := (put_past (by decide +kernel)).trans (congrArg _ ((put_past (by decide +kernel)).trans (congrArg _ (rfl))))
theorem stF_new {v0 v1 v2 : V} : putF "after" v2 (putF "weight" v1 (putF "carrying" v0 [])) = stF v0 v1 v2 := by
  show putF "after" v2 (putF "weight" v1 (([("carrying", v0)] : List (Str × V)))) = _
  rw [stF_n1, stF_n2]
  rfl
def pF (v0 v1 v2 v3 v4 : V) : List (Str × V) := [("many", v0), ("start", v1), ("scenes", v2), ("steps", v3), ("weights", v4)]
theorem pF_many {v0 v1 v2 v3 v4 : V} : (pF v0 v1 v2 v3 v4).lookup ("many" : Str) = some v0 := lk_here
theorem pF_start {v0 v1 v2 v3 v4 : V} : (pF v0 v1 v2 v3 v4).lookup ("start" : Str) = some v1 := (lk_past (by decide +kernel)).trans (lk_here)
theorem pF_scenes {v0 v1 v2 v3 v4 : V} : (pF v0 v1 v2 v3 v4).lookup ("scenes" : Str) = some v2 := (lk_past (by decide +kernel)).trans ((lk_past (by decide +kernel)).trans (lk_here))
theorem pF_steps {v0 v1 v2 v3 v4 : V} : (pF v0 v1 v2 v3 v4).lookup ("steps" : Str) = some v3 := (lk_past (by decide +kernel)).trans ((lk_past (by decide +kernel)).trans ((lk_past (by decide +kernel)).trans (lk_here)))
theorem pF_weights {v0 v1 v2 v3 v4 : V} : (pF v0 v1 v2 v3 v4).lookup ("weights" : Str) = some v4 := (lk_past (by decide +kernel)).trans ((lk_past (by decide +kernel)).trans ((lk_past (by decide +kernel)).trans ((lk_past (by decide +kernel)).trans (lk_here))))
theorem pF_put_many {v0 v1 v2 v3 v4 y : V} : putF "many" y (pF v0 v1 v2 v3 v4) = pF y v1 v2 v3 v4 := put_here
theorem pF_put_start {v0 v1 v2 v3 v4 y : V} : putF "start" y (pF v0 v1 v2 v3 v4) = pF v0 y v2 v3 v4 := (put_past (by decide +kernel)).trans (congrArg _ (put_here))
theorem pF_put_scenes {v0 v1 v2 v3 v4 y : V} : putF "scenes" y (pF v0 v1 v2 v3 v4) = pF v0 v1 y v3 v4 := (put_past (by decide +kernel)).trans (congrArg _ ((put_past (by decide +kernel)).trans (congrArg _ (put_here))))
theorem pF_put_steps {v0 v1 v2 v3 v4 y : V} : putF "steps" y (pF v0 v1 v2 v3 v4) = pF v0 v1 v2 y v4 := (put_past (by decide +kernel)).trans (congrArg _ ((put_past (by decide +kernel)).trans (congrArg _ ((put_past (by decide +kernel)).trans (congrArg _ (put_here))))))
theorem pF_put_weights {v0 v1 v2 v3 v4 y : V} : putF "weights" y (pF v0 v1 v2 v3 v4) = pF v0 v1 v2 v3 y := (put_past (by decide +kernel)).trans (congrArg _ ((put_past (by decide +kernel)).trans (congrArg _ ((put_past (by decide +kernel)).trans (congrArg _ ((put_past (by decide +kernel)).trans (congrArg _ (put_here))))))))
theorem pF_no {v0 v1 v2 v3 v4 : V} {m : Str} (h_many : (m == ("many" : Str)) = false) (h_start : (m == ("start" : Str)) = false) (h_scenes : (m == ("scenes" : Str)) = false) (h_steps : (m == ("steps" : Str)) = false) (h_weights : (m == ("weights" : Str)) = false) : (pF v0 v1 v2 v3 v4).lookup m = none := (lk_past (h_many)).trans ((lk_past (h_start)).trans ((lk_past (h_scenes)).trans ((lk_past (h_steps)).trans ((lk_past (h_weights)).trans (rfl)))))
theorem pF_n1 {v0 v1 : V} : putF "start" v1 ([("many", v0)] : List (Str × V)) = ([("many", v0), ("start", v1)] : List (Str × V)) := (put_past (by decide +kernel)).trans (congrArg _ (rfl))
theorem pF_n2 {v0 v1 v2 : V} : putF "scenes" v2 ([("many", v0), ("start", v1)] : List (Str × V)) = ([("many", v0), ("start", v1), ("scenes", v2)] : List (Str × V)) := (put_past (by decide +kernel)).trans (congrArg _ ((put_past (by decide +kernel)).trans (congrArg _ (rfl))))
theorem pF_n3 {v0 v1 v2 v3 : V} : putF "steps" v3 ([("many", v0), ("start", v1), ("scenes", v2)] : List (Str × V)) = ([("many", v0), ("start", v1), ("scenes", v2), ("steps", v3)] : List (Str × V)) := (put_past (by decide +kernel)).trans (congrArg _ ((put_past (by decide +kernel)).trans (congrArg _ ((put_past (by decide +kernel)).trans (congrArg _ (rfl))))))
theorem pF_n4 {v0 v1 v2 v3 v4 : V} : putF "weights" v4 ([("many", v0), ("start", v1), ("scenes", v2), ("steps", v3)] : List (Str × V)) = ([("many", v0), ("start", v1), ("scenes", v2), ("steps", v3), ("weights", v4)] : List (Str × V)) := (put_past (by decide +kernel)).trans (congrArg _ ((put_past (by decide +kernel)).trans (congrArg _ ((put_past (by decide +kernel)).trans (congrArg _ ((put_past (by decide +kernel)).trans (congrArg _ (rfl))))))))
theorem pF_new {v0 v1 v2 v3 v4 : V} : putF "weights" v4 (putF "steps" v3 (putF "scenes" v2 (putF "start" v1 (putF "many" v0 [])))) = pF v0 v1 v2 v3 v4 := by
  show putF "weights" v4 (putF "steps" v3 (putF "scenes" v2 (putF "start" v1 (([("many", v0)] : List (Str × V)))))) = _
  rw [pF_n1, pF_n2, pF_n3, pF_n4]
  rfl
/-! ### == of rows of whole numbers -/
def dints (l : List Nat) : List PyData := l.map fun (x : Nat) => PyData.int (x : Int)
theorem dints_eqv : ∀ a b : List Nat, PyData.eqvAll (dints a) (dints b) = decide (a = b)
  | [], [] => rfl
  | [], _ :: _ => rfl
  | _ :: _, [] => rfl
  | x :: a, y :: b => by
    show (((x : Int) == (y : Int)) && PyData.eqvAll (dints a) (dints b)) = _
    rw [dints_eqv a b]
    by_cases c : x = y
    · subst c
      simp
    · have : ((x : Int) == (y : Int)) = false := beq_false_of_ne (by omega)
      rw [this]
      simp [c]
theorem dints_lay : ∀ a : List Nat, PyData.canLayAll0 (dints a) = true
  | [] => rfl
  | x :: a => by
    show (true && PyData.canLayAll0 (dints a)) = true
    rw [dints_lay a]
    rfl
theorem dints_depth : ∀ a : List Nat, PyData.depthAll (dints a) = 0
  | [] => rfl
  | x :: a => by
    show max 0 (PyData.depthAll (dints a)) = 0
    rw [dints_depth a]
    rfl
theorem shaped_list (a : List Nat) : SeqAt.shaped (.list (dints a)) = true := by
  unfold SeqAt.shaped
  rw [show PyData.canLay0 (.list (dints a)) = true from dints_lay a, show PyData.depth (.list (dints a)) = 1 from congrArg (· + 1) (dints_depth a)]
  rfl
theorem shaped_tup (a : List Nat) : SeqAt.shaped (.tuple (dints a)) = true := by
  unfold SeqAt.shaped
  rw [show PyData.canLay0 (.tuple (dints a)) = true from dints_lay a, show PyData.depth (.tuple (dints a)) = 1 from congrArg (· + 1) (dints_depth a)]
  rfl
section
variable {K : PySem.W.Frag} {σ : L2.St} {H : Hp} {ta tb : TE}
theorem dp_nv : ∀ l : List Nat, DpAll K H (nv l) (dints l)
  | [] => .nil
  | x :: l => .cons (.int _) (dp_nv l)
theorem rv_eqT {p q : Addr} {a b : List Nat} (h1 : SqT K H p (nv a)) (h2 : SqT K H q (nv b)) : RV (rEqD K) (.ref p) (.ref q) H (.bl (decide (a = b))) := fun H1 e Q k =>
  ⟨_, _, .tup (ex_t e h1) (dp_nv a), .tup (ex_t e h2) (dp_nv b), shaped_tup a, shaped_tup b, by
    rw [show PyData.eqv (.tuple (dints a)) (.tuple (dints b)) = decide (a = b) from dints_eqv a b]
    exact k H1 (Ex.refl H1)⟩
theorem rv_eqL {p q : Addr} {a b : List Nat} (h1 : SqL K H p (nv a)) (h2 : SqL K H q (nv b)) : RV (rEqD K) (.ref p) (.ref q) H (.bl (decide (a = b))) := fun H1 e Q k =>
  ⟨_, _, .lst (ex_l e h1) (dp_nv a), .lst (ex_l e h2) (dp_nv b), shaped_list a, shaped_list b, by
    rw [show PyData.eqv (.list (dints a)) (.list (dints b)) = decide (a = b) from dints_eqv a b]
    exact k H1 (Ex.refl H1)⟩
theorem rv_neL {p q : Addr} {a b : List Nat} (h1 : SqL K H p (nv a)) (h2 : SqL K H q (nv b)) : RV (rNeD K) (.ref p) (.ref q) H (.bl (!decide (a = b))) := fun H1 e Q k =>
  ⟨_, _, .lst (ex_l e h1) (dp_nv a), .lst (ex_l e h2) (dp_nv b), shaped_list a, shaped_list b, by
    rw [show PyData.eqv (.list (dints a)) (.list (dints b)) = decide (a = b) from dints_eqv a b]
    exact k H1 (Ex.refl H1)⟩
theorem in_nv (x : Nat) : ∀ l : List Nat, inV (.int (x : Int)) (nv l) = l.contains x
  | [] => rfl
  | y :: l => by
    show (((y : Int) == (x : Int)) || inV (.int (x : Int)) (nv l)) = _
    rw [in_nv x l, List.contains_cons]
    congr 1
    rw [Bool.eq_iff_iff, beq_iff_eq, beq_iff_eq]
    omega
theorem flat_nv : ∀ l : List Nat, (nv l).all flatV = true
  | [] => rfl
  | y :: l => by
    show (true && (nv l).all flatV) = true
    rw [flat_nv l]
    rfl
theorem nv_at {l : List Nat} {i x : Nat} (h : l[i]? = some x) : atI (nv l) (i : Int) = some (V.int (x : Int)) := atI_nat (by
  unfold nv
  rw [List.getElem?_map, h]
  rfl)
/-- len of a tuple -/
theorem ev_lenT {p : Addr} {xs : List V} (ha : Ev ta σ H (.ref p)) (h : SqT K H p xs) : Ev (tCB (rLenS K) (tCons ta tNil)) σ H (.int (xs.length : Int)) := fun H1 e Q q =>
  ha H1 e _ fun H2 e2 => ⟨p, xs, rfl, Or.inr (ex_t (e.trans e2) h), q H2 e2⟩
theorem el_listT {p : Addr} {xs : List V} (ha : Ev ta σ H (.ref p)) (h : SqT K H p xs) : EvL (tCB (rListS K) (tCons ta tNil)) σ H xs := fun H1 e Q q =>
  ha H1 e _ fun H2 e2 => ⟨p, xs, rfl, Or.inr (ex_t (e.trans e2) h), fun l hl => q l _ (fresh_back e2 hl) (e2.trans (Ex.new hl)) upd_same⟩
end
theorem StandAt.ex {H H' : Hp} {b : Addr} {k : Sk} (h : StandAt H b k) (e : Ex H H') : StandAt H' b k := h.mono (ex_tup e)
section
variable {P : Program} {w : World} {K : PySem.W.Frag} {mg : Str → Option Value} {base : Heap}
/-! ### Step -/
def spStInit (C : Addr) : Sp := fun vs H Q _ => ∃ (p dx : Addr) (v0 v1 v2 : V), vs = [.ref p, v0, v1, v2] ∧ H p = some (.ins C dx []) ∧ ∀ H' : Hp, H' p = some (.ins C dx (stF v0 v1 v2)) → Fr H H' p → Q .non H'
theorem ok_Step_init (T : Tx K mg) : FnOk P w K mg base CX0 1 T.f_Step_init T.d_Step_init ["self", "carrying", "weight", "after"] (spStInit T.C_Step) := by
  refine T.h_Step_init.F.ok sc_Step_init (fun vs H Q E h => ?_) (fun cdv A outer s H vs Q E hr h => ?_)
  · obtain ⟨p, dx, v0, v1, v2, rfl, _⟩ := h
    rfl
  · obtain ⟨p, dx, v0, v1, v2, rfl, hp, k⟩ := h
    refine ⟨_, (pss_cons (ps_fld (pv 0) (pv 1) rfl)
      (pss_cons (ps_fld (pv 0) (pv 2) rfl)
      (pss_one (ps_fld (pv 0) (pv 3) rfl)))), ?_⟩
    refine q_fld (ev_var rfl) (ev_var rfl) hp T.cl_Step T.n_Step_carrying (few_nil.lt (by decide)) fun H1 e1 => ?_
    refine q_fld (ev_var rfl) (ev_var rfl) upd_same T.cl_Step T.n_Step_weight ((few_put few_nil).lt (by decide)) fun H2 e2 => ?_
    refine s_fld (ev_var rfl) (ev_var rfl) upd_same T.cl_Step T.n_Step_after ((few_put (few_put few_nil)).lt (by decide)) fun H3 e3 => ?_
    rw [stF_new]
    exact k _ upd_same ((Fr.ex e1).trans (Fr.upd.trans ((Fr.ex e2).trans (Fr.upd.trans ((Fr.ex e3).trans Fr.upd)))))
/-! ### pieces_on -/
def spOn (K : PySem.W.Frag) : Sp := fun vs H Q _ => ∃ (b : Addr) (n : Nat) (k : Sk), vs = [.int n, .ref b] ∧ StandAt H b k ∧ n ≤ 4 ∧ RetL (nv (onOf n k.1 k.2)) H Q
theorem on_given (n : Nat) (l r : List Nat) : Evl.given ((n : Int).toNat) (fun i => !l.contains i && !r.contains i) (fun i => V.int (i : Int)) = nv (onOf n l r) := by
  rw [Int.toNat_natCast]
  rfl
theorem ok_pieces_on (T : Tx K mg) : FnOk P w K mg base CX0 1 T.f_pieces_on T.d_pieces_on ["many", "standing"] (spOn K) := by
  refine T.h_pieces_on.F.ok sc_pieces_on (fun vs H Q E h => ?_) (fun cdv A outer s H vs Q E hr h => ?_)
  · obtain ⟨b, n, k, rfl, _⟩ := h
    rfl
  · obtain ⟨b, n, ⟨l, r⟩, rfl, ⟨bl, br, h1, h2, h3⟩, hn4, k⟩ := h
    refine ⟨_, (pss_one (ps_ret (pe_lc (own := [("piece", 2)]) (g := gName 2) (tt := tAnd (tTest (tOp (rIn K true) (tVar 2) (tOp (rIxT K) (tVar 1) (tC (.int 0))))) (tTest (tOp (rIn K true) (tVar 2) (tOp (rIxT K) (tVar 1) (tC (.int 1)))))) (te := tVar 2) rfl sc_pieces_on.nd (pi_range1 rfl T.b_range (pa_cons (pv 0) pa_nil)) (blkOk_by (N := ["many", "standing", "piece"]) (sc := defScope s_pieces_on) (by decide +kernel)) (fun _ _ _ _ _ => pg_name (i := 2) sc_pieces_on.nd rfl (Or.inl rfl)) (fun _ _ _ _ _ => (pts_one (PW.pt (pw_and (pt_cmpR op_notIn_seq (pv 2) (pe_ix ix_tup (pv 1) pe_int (fun _ _ => rfl)) (by rfl)) (pw_and1 (pt_cmpR op_notIn_seq (pv 2) (pe_ix ix_tup (pv 1) pe_int (fun _ _ => rfl)) (by rfl))))))) (fun _ _ _ _ _ => (pv 2))))), ?_⟩
    refine s_retL (el_lcR1 (fun i => !l.contains i && !r.contains i) (fun i => V.int (i : Int)) (ea_cons (ev_var rfl) ea_nil) (by omega) (fun x => rfl) (fun i H1 e1 _ => ?_) (fun i H1 e1 _ _ => ev_var rfl)) fun p H1 hp e1 m1 => ?_
    · have a1 := rv_niT (K := K) (st_of (e1 _ _ h2)) (x := .int (i : Int)) rfl (flat_nv l)
      have a2 := rv_niT (K := K) (st_of (e1 _ _ h3)) (x := .int (i : Int)) rfl (flat_nv r)
      rw [in_nv] at a1 a2
      exact et_and (et_test (ev_op (ev_var rfl) (ev_op (ev_var rfl) ev_c (rv_ixT (i := 0) (st_of (e1 _ _ h1)) rfl)) a1)) fun _ => et_test (ev_op (ev_var rfl) (ev_op (ev_var rfl) ev_c (rv_ixT (i := 1) (st_of (e1 _ _ h1)) rfl)) a2)
    · rw [on_given] at m1
      exact k p H1 hp e1 m1
end
end SC

namespace SC
open PySem PySem.Spec PyProof.Rows L2 Evl
open SM (toZ Sk Sp3 onOf stepsOf stk Fine)
/-- the step at p -/
def StepAt (C : Addr) (H : Hp) (p : Addr) (x : Sp3) : Prop := ∃ dx c b, H p = some (.ins C dx (stF (.ref c) (.int (x.2.1 : Int)) (.ref b))) ∧ H c = some (.tup (nv (Uw04.moveOut x.1))) ∧ StandAt H b x.2.2
inductive Steps (C : Addr) (H : Hp) : List Addr → List Sp3 → Prop
  | nil : Steps C H [] []
  | cons {p ps x xs} : StepAt C H p x → Steps C H ps xs → Steps C H (p :: ps) (x :: xs)
/-- tuples and instances stay -/
def Kp (H H' : Hp) : Prop := (∀ a xs, H a = some (.tup xs) → H' a = some (.tup xs)) ∧ ∀ a C dx fs, H a = some (.ins C dx fs) → H' a = some (.ins C dx fs)
theorem Kp.ex {H H' : Hp} (e : Ex H H') : Kp H H' := ⟨fun a xs h => e _ _ h, fun a C dx fs h => e _ _ h⟩
theorem Kp.trans {H H1 H2 : Hp} (a : Kp H H1) (b : Kp H1 H2) : Kp H H2 := ⟨fun c xs h => b.1 _ _ (a.1 _ _ h), fun c C dx fs h => b.2 _ _ _ _ (a.2 _ _ _ _ h)⟩
theorem Kp.lst {H : Hp} {l : Addr} {xs : List V} {o : HO} (h : H l = some (.lst xs)) : Kp H (upd H l o) :=
  ⟨fun a ys k => (upd_ne (fun z => by rw [z, h] at k; cases k)).trans k, fun a C dx fs k => (upd_ne (fun z => by rw [z, h] at k; cases k)).trans k⟩
theorem Kp.dict {H : Hp} {w : World} {d : Addr} {es : List (Sk × Addr × V)} {o : HO} (h : H d = some (DN w d es)) : Kp H (upd H d o) :=
  ⟨fun a ys k => (upd_ne (fun z => by rw [z, h] at k; cases k)).trans k, fun a C dx fs k => (upd_ne (fun z => by rw [z, h] at k; cases k)).trans k⟩
theorem Kp.frz {H : Hp} {d : Addr} {ob : Obj} {u o : HO} (h : H d = some (.frz ob u)) : Kp H (upd H d o) :=
  ⟨fun a ys k => (upd_ne (fun z => by rw [z, h] at k; cases k)).trans k, fun a C dx fs k => (upd_ne (fun z => by rw [z, h] at k; cases k)).trans k⟩
theorem StandAt.kp {H H' : Hp} {b : Addr} {k : Sk} (h : StandAt H b k) (e : Kp H H') : StandAt H' b k := h.mono e.1
theorem KeysIn.kp {H H' : Hp} {es : List (Sk × Addr × V)} (h : KeysIn H es) (e : Kp H H') : KeysIn H' es := h.mono e.1
theorem StepAt.kp {C : Addr} {H H' : Hp} {p : Addr} {x : Sp3} (h : StepAt C H p x) (e : Kp H H') : StepAt C H' p x := by
  obtain ⟨dx, c, b, h1, h2, h3⟩ := h
  exact ⟨dx, c, b, e.2 _ _ _ _ h1, e.1 _ _ h2, h3.kp e⟩
theorem Steps.kp {C : Addr} {H H' : Hp} {ps : List Addr} {xs : List Sp3} (h : Steps C H ps xs) (e : Kp H H') : Steps C H' ps xs := by
  induction h with
  | nil => exact .nil
  | cons a _ ih => exact .cons (a.kp e) ih
theorem Steps.snoc {C : Addr} {H : Hp} {ps : List Addr} {xs : List Sp3} {p : Addr} {x : Sp3} (h : Steps C H ps xs) (hp : StepAt C H p x) : Steps C H (ps ++ [p]) (xs ++ [x]) := by
  induction h with
  | nil => exact .cons hp .nil
  | cons a _ ih => exact .cons a ih
theorem Steps.length {C : Addr} {H : Hp} {ps : List Addr} {xs : List Sp3} (h : Steps C H ps xs) : ps.length = xs.length := by
  induction h with
  | nil => rfl
  | cons _ _ ih => exact congrArg (· + 1) ih
theorem Steps.get {C : Addr} {H : Hp} {ps : List Addr} {xs : List Sp3} (h : Steps C H ps xs) : ∀ {i : Nat} {p : Addr}, ps[i]? = some p → ∃ x, xs[i]? = some x ∧ StepAt C H p x := by
  induction h with
  | nil => intro i p e; simp at e
  | cons a _ ih =>
    intro i p e
    cases i with
    | zero =>
      cases e
      exact ⟨_, rfl, a⟩
    | succ j => exact ih e
/-! ### what evaluates to a step, a stand, a tuple -/
def EvSt (C : Addr) (te : TE) (σ : L2.St) (H : Hp) (x : Sp3) : Prop := ∀ H1, Ex H H1 → ∀ Q : VK, (∀ p H2, H1 p = none → Ex H1 H2 → StepAt C H2 p x → Q (.ref p) H2) → te σ H1 Q
def EvSd (te : TE) (σ : L2.St) (H : Hp) (k : Sk) : Prop := ∀ H1, Ex H H1 → ∀ Q : VK, (∀ p H2, Ex H1 H2 → StandAt H2 p k → Q (.ref p) H2) → te σ H1 Q
def EvTu (te : TE) (σ : L2.St) (H : Hp) (xs : List V) : Prop := ∀ H1, Ex H H1 → ∀ Q : VK, (∀ p H2, Ex H1 H2 → H2 p = some (.tup xs) → Q (.ref p) H2) → te σ H1 Q
section
variable {K : PySem.W.Frag} {σ : L2.St} {H : Hp} {ta tb tc tw te : TE} {D : Ends} {tz : TS} {C : Addr}
theorem tu_var {a : Addr} {xs : List V} (h : Ev te σ H (.ref a)) (ha : H a = some (.tup xs)) : EvTu te σ H xs := fun H1 e Q q => h H1 e _ fun H2 e2 => q a H2 e2 (e2 _ _ (e _ _ ha))
theorem tu_cat {al : Addr} {v : V} {ys : List V} (h : Ev ta σ H v) (hb : Ev tb σ H (.ref al)) (ha : H al = some (.tup ys)) (hz : ys.length ≤ 1000) : EvTu (tOp (rCatT K) (tTup (tCons ta tNil)) tb) σ H (v :: ys) := fun H1 e Q q =>
  h H1 e _ fun H2 e2 => ⟨by show 1 ≤ sizeLine; decide, fun p hp => by
    have e3 : Ex H2 (upd H2 p (.tup [v])) := Ex.new hp
    refine hb _ ((e.trans e2).trans e3) _ fun H3 e4 => ?_
    have ey := e4 _ _ (e3 _ _ (e2 _ _ (e _ _ ha)))
    refine ⟨p, al, [v], ys, rfl, rfl, st_of (e4 _ _ upd_same), st_of ey, (fun z => nomatch z), sz_of (by show 1 + ys.length ≤ 100000; omega), fun z => ?_, fun _ t ht => ?_⟩
    · subst z
      exact q p H3 (e2.trans (e3.trans e4)) (e4 _ _ upd_same)
    · exact q t _ ((e2.trans (e3.trans e4)).trans (Ex.new ht)) upd_same⟩
theorem cut_tail (v : V) (ys : List V) : cutV (v :: ys) (some 1) none = ys := by
  have e : HT.sIx (v :: ys).length 0 (some 1) = 1 := by
    rw [show (1 : Int) = ((1 : Nat) : Int) from rfl, HT.sIx_nat, List.length_cons]
    omega
  unfold cutV
  rw [e]
  show ys.take ((v :: ys).length - 1) = ys
  rw [List.length_cons, Nat.add_sub_cancel, List.take_length]
theorem tu_tail {a : Addr} {v : V} {ys : List V} (h : Ev te σ H (.ref a)) (ha : H a = some (.tup (v :: ys))) : EvTu (tSl (rSlT K) te (tPart (tC (.int 1))) tNoPart) σ H ys := fun H1 e Q q =>
  h H1 e _ fun H2 e2 => ⟨1, rfl, a, v :: ys, rfl, st_of (e2 _ _ (e _ _ ha)), (fun z => by
    have e1 : HT.sIx (v :: ys).length 0 (some 1) = 1 := by
      rw [show (1 : Int) = ((1 : Nat) : Int) from rfl, HT.sIx_nat, List.length_cons]
      omega
    rw [e1] at z
    exact absurd z.1 (by decide)), fun p hp => by
      have m : upd H2 p (.tup (cutV (v :: ys) (some 1) none)) p = some (.tup ys) := by rw [upd_same, cut_tail]
      exact q p _ (e2.trans (Ex.new hp)) m⟩
theorem sd_pair {l r : List Nat} (h1 : EvTu ta σ H (nv l)) (h2 : EvTu tb σ H (nv r)) : EvSd (tTup (tCons ta (tCons tb tNil))) σ H (l, r) := fun H1 e Q q =>
  h1 H1 e _ fun a H2 e2 ha => h2 H2 (e.trans e2) _ fun b H3 e3 hb => ⟨by show 2 ≤ sizeLine; decide, fun p hp =>
    q p _ ((e2.trans e3).trans (Ex.new hp)) ⟨a, b, upd_same, Ex.new hp _ _ (e3 _ _ ha), Ex.new hp _ _ hb⟩⟩
theorem st_make {E : XK} {m : Uw04.Move} {n : Nat} {k : Sk} (h1 : EvU tc σ H (nv (Uw04.moveOut m))) (h2 : Ev tw σ H (.int (n : Int))) (h3 : EvSd tb σ H k) : EvSt C (tMake C (spStInit C) [] E (tCons tc (tCons tw (tCons tb tNil)))) σ H (m, n, k) := fun H1 e Q q =>
  h1 H1 e _ fun c H2 _ e2 hc => h2 H2 (e.trans e2) _ fun H3 e3 => h3 H3 (e.trans (e2.trans e3)) _ fun b H4 e4 hb => fun x dx nx ndx ne =>
    ⟨x, dx, .ref c, .int (n : Int), .ref b, rfl, upd_same, fun H5 h5 f5 => ⟨rfl, by
      have s5 : Ex H4 H5 := fun a o ha => f5 _ _ (by rw [upd_ne (ne_of_none ha nx), upd_ne (ne_of_none ha ndx)]; exact ha) (ne_of_none ha nx)
      have e24 := e2.trans (e3.trans e4)
      exact q x H5 (fresh_back e24 nx) (e24.trans s5) ⟨dx, c, b, h5, s5 _ _ (e4 _ _ (e3 _ _ hc)), hb.ex s5⟩⟩⟩
theorem s_appS {l : Addr} {xs : List V} {x : Sp3} (hl : H l = some (.lst xs)) (ha : Ev ta σ H (.ref l)) (h : EvSt C te σ H x) (hz : xs.length < 100000) (k : ∀ p H1, Ex H H1 → StepAt C H1 p x → D.nx σ (upd H1 l (.lst (xs ++ [.ref p])))) :
    tDrop (tBM K "list" rAppend ta (tCons te tNil)) D σ H := ha H (Ex.refl H) _ fun H1 e1 =>
  ⟨Or.inl ⟨rfl, xs, sq_of (e1 l _ hl)⟩, h H1 e1 _ fun p H2 _ e2 h2 => ⟨l, xs, .ref p, rfl, rfl, e2 l _ (e1 l _ hl), sz_lt hz, k p H2 (e1.trans e2) h2⟩⟩
end
/-- the list of steps at g, so far -/
def Grow (C : Addr) (H0 : Hp) (g : Addr) (L : List Sp3) (H : Hp) : Prop := Ex H0 H ∧ ∃ ps, H g = some (.lst (ps.map V.ref)) ∧ Steps C H ps L
theorem Grow.ex {C : Addr} {H0 H H' : Hp} {g : Addr} {L : List Sp3} (h : Grow C H0 g L H) (e : Ex H H') : Grow C H0 g L H' := by
  obtain ⟨h1, ps, h2, h3⟩ := h
  exact ⟨h1.trans e, ps, e _ _ h2, h3.kp (.ex e)⟩
theorem Grow.more {C : Addr} {H0 H H1 : Hp} {g p : Addr} {L : List Sp3} {x : Sp3} {ps : List Addr} (n0 : H0 g = none) (h1 : Ex H0 H) (h2 : H g = some (.lst (ps.map V.ref))) (h3 : Steps C H ps L) (e : Ex H H1) (hp : StepAt C H1 p x) :
    Grow C H0 g (L ++ [x]) (upd H1 g (.lst (ps.map V.ref ++ [.ref p]))) := by
  have kp : Kp H1 (upd H1 g (.lst (ps.map V.ref ++ [.ref p]))) := .lst (e _ _ h2)
  refine ⟨Ex.mut (h1.trans e) n0, ps ++ [p], ?_, ((h3.kp (.ex e)).kp kp).snoc (hp.kp kp)⟩
  rw [upd_same, List.map_append]
  rfl
theorem heavy_at {h : Uw04.House} {p : Nat} (hp : p < h.heavy.length) : h.heavy[p]? = some (h.weight p) := by
  unfold Uw04.House.weight
  rw [List.getD_eq_getElem?_getD, List.getElem?_eq_getElem hp]
  rfl
section
variable {P : Program} {w : World} {K : PySem.W.Frag} {mg : Str → Option Value} {base : Heap}
def spSteps (C : Addr) : Sp := fun vs H Q _ => ∃ (ah b : Addr) (h : Uw04.House) (k : Sk), vs = [.ref ah, .int h.roomLeft, .int h.roomRight, .ref b] ∧ H ah = some (.lst (nv h.heavy)) ∧ StandAt H b k ∧ Fine h (stk h.heavy.length k) ∧ h.heavy.length ≤ 4 ∧
  ∀ p ps H2, H p = none → Ex H H2 → H2 p = some (.lst (ps.map V.ref)) → Steps C H2 ps (stepsOf h k) → Q (.ref p) H2
theorem ok_steps_from (T : Tx K mg) : FnOk P w K mg base CX0 3 T.f_steps_from T.d_steps_from ["heavy", "left_room", "right_room", "standing"] (spSteps T.C_Step) := by
  refine T.h_steps_from.F.ok sc_steps_from (fun vs H Q E h => ?_) (fun cdv A outer s H vs Q E hr h => ?_)
  · obtain ⟨ah, b, h, k, rfl, _⟩ := h
    rfl
  · obtain ⟨ah, b, h, ⟨l, r⟩, rfl, hh, ⟨bl, br, h1, h2, h3⟩, hf, h4, k⟩ := h
    have hr_pieces_on : Room 1 _ := hr.mono (by decide)
    have hrM : Room 2 _ := hr
    refine ⟨_, (pss_cons (ps_set (i := 4) sc_steps_from.nd rfl (.inl rfl) (pe_ix ix_tup (pv 3) pe_int (fun _ _ => rfl)))
      (pss_cons (ps_set (i := 5) sc_steps_from.nd rfl (.inl rfl) (pe_ix ix_tup (pv 3) pe_int (fun _ _ => rfl)))
      (pss_cons (ps_set (i := 6) sc_steps_from.nd rfl (.inl rfl) (pe_call (ok_pieces_on T) hr_pieces_on rfl T.h_pieces_on.g T.h_pieces_on.F.kp T.h_pieces_on.b .nil pass0 (pa_cons (pe_callB call_len_seq (by rfl) T.b_len (by decide +kernel) (pa_cons (pv 0) pa_nil)) (pa_cons (pv 3) pa_nil))))
      (pss_cons (ps_set (i := 7) sc_steps_from.nd rfl (.inl rfl) (pe_lst pa_nil))
      (pss_cut (ps_if (pt_cmpR op_lt (pe_callB call_len_seq (by rfl) T.b_len (by decide +kernel) (pa_cons (pv 4) pa_nil)) (pv 1) (nomark _))
        (pss_one (ps_for PassesOwn.never rfl (pi_list (pv 6)) (pg_name (i := 8) sc_steps_from.nd rfl (.inl rfl))
          (pss_one (ps_expr (pe_bm PySem.F.plainAttrs_list PySem.F.slot_list_append PySem.F.type_list_append mt_append (pv 7) (pa_cons (pe_make T.mk_Step (ok_Step_init T) hrM rfl T.gC_Step T.h_Step_init.b .nil pass0 (pa_cons (pe_tup (pa_cons (pe_glob (v := .int 0) rfl T.g_OFF_LEFT ⟨_, rfl⟩) (pa_cons (pv 8) pa_nil))) (pa_cons (pe_ix ix_list (pv 0) (pv 8) (fun _ _ => rfl)) (pa_cons (pe_tup (pa_cons (pe_op op_catT (pe_tup (pa_cons (pv 8) pa_nil)) (pv 4)) (pa_cons (pv 5) pa_nil))) pa_nil)))) pa_nil))))))
        pss_nil)
      (pss_cut (ps_if (pt_cmpR op_lt (pe_callB call_len_seq (by rfl) T.b_len (by decide +kernel) (pa_cons (pv 5) pa_nil)) (pv 2) (nomark _))
        (pss_one (ps_for PassesOwn.never rfl (pi_list (pv 6)) (pg_name (i := 8) sc_steps_from.nd rfl (.inl rfl))
          (pss_one (ps_expr (pe_bm PySem.F.plainAttrs_list PySem.F.slot_list_append PySem.F.type_list_append mt_append (pv 7) (pa_cons (pe_make T.mk_Step (ok_Step_init T) hrM rfl T.gC_Step T.h_Step_init.b .nil pass0 (pa_cons (pe_tup (pa_cons (pe_glob (v := .int 1) rfl T.g_OFF_RIGHT ⟨_, rfl⟩) (pa_cons (pv 8) pa_nil))) (pa_cons (pe_ix ix_list (pv 0) (pv 8) (fun _ _ => rfl)) (pa_cons (pe_tup (pa_cons (pv 4) (pa_cons (pe_op op_catT (pe_tup (pa_cons (pv 8) pa_nil)) (pv 5)) pa_nil))) pa_nil)))) pa_nil))))))
        pss_nil)
      (pss_cut (ps_if (pt_cmpR op_gt (pe_callB call_len_seq (by rfl) T.b_len (by decide +kernel) (pa_cons (pv 4) pa_nil)) pe_int (nomark _))
        (pss_one (ps_expr (pe_bm PySem.F.plainAttrs_list PySem.F.slot_list_append PySem.F.type_list_append mt_append (pv 7) (pa_cons (pe_make T.mk_Step (ok_Step_init T) hrM rfl T.gC_Step T.h_Step_init.b .nil pass0 (pa_cons (pe_tup (pa_cons (pe_glob (v := .int 2) rfl T.g_ON_LEFT ⟨_, rfl⟩) pa_nil)) (pa_cons (pe_ix ix_list (pv 0) (pe_ix ix_tup (pv 4) pe_int (fun _ _ => rfl)) (fun _ _ => rfl)) (pa_cons (pe_tup (pa_cons (pe_slice sl_tup (pv 4) (po_some pe_int) po_none) (pa_cons (pv 5) pa_nil))) pa_nil)))) pa_nil))))
        pss_nil)
      (pss_cut (ps_if (pt_cmpR op_gt (pe_callB call_len_seq (by rfl) T.b_len (by decide +kernel) (pa_cons (pv 5) pa_nil)) pe_int (nomark _))
        (pss_one (ps_expr (pe_bm PySem.F.plainAttrs_list PySem.F.slot_list_append PySem.F.type_list_append mt_append (pv 7) (pa_cons (pe_make T.mk_Step (ok_Step_init T) hrM rfl T.gC_Step T.h_Step_init.b .nil pass0 (pa_cons (pe_tup (pa_cons (pe_glob (v := .int 3) rfl T.g_ON_RIGHT ⟨_, rfl⟩) pa_nil)) (pa_cons (pe_ix ix_list (pv 0) (pe_ix ix_tup (pv 5) pe_int (fun _ _ => rfl)) (fun _ _ => rfl)) (pa_cons (pe_tup (pa_cons (pv 4) (pa_cons (pe_slice sl_tup (pv 5) (po_some pe_int) po_none) pa_nil))) pa_nil)))) pa_nil))))
        pss_nil)
      (pss_one (ps_ret (pv 7))))))))))), ?_⟩
    have l4 : l.length ≤ 4 := Nat.le_trans (SM.nodup_len hf.ln hf.lx) h4
    have r4 : r.length ≤ 4 := Nat.le_trans (SM.nodup_len hf.rn hf.rx) h4
    refine q_asg (ev_op (ev_var rfl) ev_c (rv_ixT (K := K) (i := 0) (st_of h1) rfl)) fun H1 e1 => ?_
    refine q_asg (ev_op (ev_var rfl) ev_c (rv_ixT (K := K) (i := 1) (st_of (e1 _ _ h1)) rfl)) fun H2 e2 => ?_
    have e12 := e1.trans e2
    refine q_asgL (xs := nv (onOf h.heavy.length l r)) (el_call (ea_cons (ev_len (ev_var rfl) (SqL.of (e12 _ _ hh))) (ea_cons (ev_var rfl) ea_nil)) ?_) fun ao H3 no e3 mo => ?_
    · intro H3 e3 Q q E
      refine ⟨b, h.heavy.length, (l, r), by rw [nv_length]; rfl, ⟨bl, br, e3 _ _ (e12 _ _ h1), e3 _ _ (e12 _ _ h2), e3 _ _ (e12 _ _ h3)⟩, h4, q⟩
    have e13 := e12.trans e3
    refine q_asgL (xs := []) (el_lst ea_nil (by decide)) fun g H4 ng e4 mg4 => ?_
    have hh3 := e13 _ _ hh
    have h23 := e13 _ _ h2
    have h33 := e13 _ _ h3
    have G0 : Grow T.C_Step H3 g [] H4 := ⟨e4, [], mg4, .nil⟩
    have olen : (onOf h.heavy.length l r).length ≤ 4 := Nat.le_trans (SM.on_len _ _ _) h4
    -- off to the left
    refine q_cut (M := fun σ H' => (∃ v, σ = [some (.ref ah), some (.int h.roomLeft), some (.int h.roomRight), some (.ref b), some (.ref bl), some (.ref br), some (.ref ao), some (.ref g), v]) ∧ Grow T.C_Step H3 g (if l.length < h.roomLeft then (onOf h.heavy.length l r).map (SM.offL h l r) else []) H') ?_ ?_
    · refine s_when (et_test (ev_op (ev_lenT (ev_var rfl) (st_of (e4 _ _ h23))) (ev_var rfl) rv_I0)) (fun hb H5 e5 => ?_) (fun hb H5 e5 => ?_)
      · rw [if_pos (by simp [nv_length] at hb; omega)]
        refine s_forLn (ev_var rfl) (SqL.of (e5 _ _ (e4 _ _ mo))) (fun i σ H' => (∃ v, σ = [some (.ref ah), some (.int h.roomLeft), some (.int h.roomRight), some (.ref b), some (.ref bl), some (.ref br), some (.ref ao), some (.ref g), v]) ∧ Grow T.C_Step H3 g (((onOf h.heavy.length l r).take i).map (SM.offL h l r)) H') (fun H6 e6 => ⟨⟨none, rfl⟩, (G0.ex e5).ex e6⟩) (fun i σ' H' _ p => SqL.of (p.2.1 _ _ mo)) ?_ ?_
        · rintro i _ σ' H' hi ⟨⟨v, rfl⟩, ge, ps, gp, gs⟩
          obtain ⟨z, hz, rfl⟩ := nv_get hi
          obtain ⟨zn, zl, zr⟩ := SM.mem_onOf.1 (List.mem_of_getElem? hz)
          have lps := gs.length
          rw [List.length_map, List.length_take] at lps
          refine s_appS gp (ev_var rfl) (st_make (m := .offLeft z) (n := h.weight z) (k := (z :: l, r)) (eu_tup (ea_cons ev_c (ea_cons (ev_var rfl) ea_nil)) (by show 2 ≤ 100000; decide)) (ev_op (ev_var rfl) (ev_var rfl) (rv_ixL (K := K) (SqL.of (ge _ _ hh3)) (nv_at (heavy_at zn)))) (sd_pair (tu_cat (ys := nv l) (ev_var rfl) (ev_var rfl) (ge _ _ h23) (by rw [nv_length]; omega)) (tu_var (ev_var rfl) (ge _ _ h33)))) (by rw [List.length_map]; omega) fun p H6 e6 hp => ⟨⟨_, rfl⟩, ?_⟩
          rw [take_more hz, List.map_append]
          exact Grow.more ng ge gp gs e6 hp
        · rintro σ' H' ⟨hv, gw⟩
          rw [nv_length, List.take_length] at gw
          exact ⟨hv, gw⟩
      · rw [if_neg (by simp [nv_length] at hb; omega)]
        exact ⟨⟨none, rfl⟩, G0.ex e5⟩
    rintro σ5 H5 ⟨⟨v5, rfl⟩, G5⟩
    obtain ⟨ge5, ps5, gp5, gs5⟩ := id G5
    -- off to the right
    refine q_cut (M := fun σ H' => (∃ v, σ = [some (.ref ah), some (.int h.roomLeft), some (.int h.roomRight), some (.ref b), some (.ref bl), some (.ref br), some (.ref ao), some (.ref g), v]) ∧ Grow T.C_Step H3 g ((if l.length < h.roomLeft then (onOf h.heavy.length l r).map (SM.offL h l r) else []) ++ (if r.length < h.roomRight then (onOf h.heavy.length l r).map (SM.offR h l r) else [])) H') ?_ ?_
    · refine s_when (et_test (ev_op (ev_lenT (ev_var rfl) (st_of (ge5 _ _ h33))) (ev_var rfl) rv_I0)) (fun hb H6 e6 => ?_) (fun hb H6 e6 => ?_)
      · rw [if_pos (c := r.length < h.roomRight) (by simp [nv_length] at hb; omega)]
        refine s_forLn (ev_var rfl) (SqL.of (e6 _ _ (ge5 _ _ mo))) (fun i σ H' => (∃ v, σ = [some (.ref ah), some (.int h.roomLeft), some (.int h.roomRight), some (.ref b), some (.ref bl), some (.ref br), some (.ref ao), some (.ref g), v]) ∧ Grow T.C_Step H3 g ((if l.length < h.roomLeft then (onOf h.heavy.length l r).map (SM.offL h l r) else []) ++ ((onOf h.heavy.length l r).take i).map (SM.offR h l r)) H') (fun H7 e7 => ⟨⟨v5, rfl⟩, by
            rw [List.take_zero, List.map_nil, List.append_nil]
            exact (G5.ex e6).ex e7⟩) (fun i σ' H' _ p => SqL.of (p.2.1 _ _ mo)) ?_ ?_
        · rintro i _ σ' H' hi ⟨⟨v, rfl⟩, ge, ps, gp, gs⟩
          obtain ⟨z, hz, rfl⟩ := nv_get hi
          obtain ⟨zn, zl, zr⟩ := SM.mem_onOf.1 (List.mem_of_getElem? hz)
          have lps := gs.length
          rw [List.length_append, List.length_map (as := List.take _ _), List.length_take] at lps
          have lA : (if l.length < h.roomLeft then (onOf h.heavy.length l r).map (SM.offL h l r) else []).length ≤ 4 := by
            split
            · rw [List.length_map]; exact olen
            · exact Nat.zero_le _
          refine s_appS gp (ev_var rfl) (st_make (m := .offRight z) (n := h.weight z) (k := (l, z :: r)) (eu_tup (ea_cons ev_c (ea_cons (ev_var rfl) ea_nil)) (by show 2 ≤ 100000; decide)) (ev_op (ev_var rfl) (ev_var rfl) (rv_ixL (K := K) (SqL.of (ge _ _ hh3)) (nv_at (heavy_at zn)))) (sd_pair (tu_var (ev_var rfl) (ge _ _ h23)) (tu_cat (ys := nv r) (ev_var rfl) (ev_var rfl) (ge _ _ h33) (by rw [nv_length]; omega)))) (by rw [List.length_map]; omega) fun p H8 e8 hp => ⟨⟨_, rfl⟩, ?_⟩
          rw [take_more hz, List.map_append, ← List.append_assoc]
          exact Grow.more ng ge gp gs e8 hp
        · rintro σ' H' ⟨hv, gw⟩
          rw [nv_length, List.take_length] at gw
          exact ⟨hv, gw⟩
      · rw [if_neg (c := r.length < h.roomRight) (by simp [nv_length] at hb; omega), List.append_nil]
        exact ⟨⟨v5, rfl⟩, G5.ex e6⟩
    rintro σ6 H6 ⟨⟨v6, rfl⟩, G6⟩
    obtain ⟨ge6, ps6, gp6, gs6⟩ := id G6
    have lAB : ps6.length ≤ 8 := by
      have := gs6.length
      rw [List.length_append] at this
      have a1 : (if l.length < h.roomLeft then (onOf h.heavy.length l r).map (SM.offL h l r) else []).length ≤ 4 := by
        split
        · rw [List.length_map]; exact olen
        · exact Nat.zero_le _
      have a2 : (if r.length < h.roomRight then (onOf h.heavy.length l r).map (SM.offR h l r) else []).length ≤ 4 := by
        split
        · rw [List.length_map]; exact olen
        · exact Nat.zero_le _
      omega
    generalize hAB : (if l.length < h.roomLeft then (onOf h.heavy.length l r).map (SM.offL h l r) else []) ++ (if r.length < h.roomRight then (onOf h.heavy.length l r).map (SM.offR h l r) else []) = AB at G6 gs6
    -- on from the left
    refine q_cut (M := fun σ H' => (∃ v, σ = [some (.ref ah), some (.int h.roomLeft), some (.int h.roomRight), some (.ref b), some (.ref bl), some (.ref br), some (.ref ao), some (.ref g), v]) ∧ Grow T.C_Step H3 g (AB ++ SM.onL h r l) H') ?_ ?_
    · refine s_when (et_test (ev_op (ev_lenT (ev_var rfl) (st_of (ge6 _ _ h23))) ev_c rv_I0)) (fun hb H7 e7 => ?_) (fun hb H7 e7 => ?_)
      · cases l with
        | nil => simp [nv] at hb
        | cons z l =>
          have zn : z < h.heavy.length := hf.lx z (List.Mem.head _)
          have ge7 := ge6.trans e7
          refine s_appS (e7 _ _ gp6) (ev_var rfl) (st_make (m := .onLeft) (n := h.weight z) (k := (l, r)) (eu_tup (ea_cons ev_c ea_nil) (by decide)) (ev_op (ev_var rfl) (ev_op (ev_var rfl) ev_c (rv_ixT (K := K) (i := 0) (st_of (ge7 _ _ h23)) (nv_at (l := z :: l) (i := 0) rfl))) (rv_ixL (K := K) (SqL.of (ge7 _ _ hh3)) (nv_at (heavy_at zn)))) (sd_pair (tu_tail (v := .int (z : Int)) (ys := nv l) (ev_var rfl) (ge7 _ _ h23)) (tu_var (ev_var rfl) (ge7 _ _ h33)))) (by rw [List.length_map]; omega) fun p H8 e8 hp => ⟨⟨_, rfl⟩, Grow.more ng ge6 gp6 gs6 (e7.trans e8) hp⟩
      · cases l with
        | nil =>
          refine ⟨⟨v6, rfl⟩, ?_⟩
          show Grow _ _ _ (AB ++ []) _
          rw [List.append_nil]
          exact G6.ex e7
        | cons z l =>
          exfalso
          simp [nv] at hb
    rintro σ7 H7 ⟨⟨v7, rfl⟩, G7⟩
    obtain ⟨ge7, ps7, gp7, gs7⟩ := id G7
    have l7 : ps7.length ≤ 9 := by
      have := gs7.length
      have q := gs6.length
      rw [List.length_append] at this
      have a1 : (SM.onL h r l).length ≤ 1 := by cases l <;> simp [SM.onL]
      omega
    -- on from the right
    refine q_cut (M := fun σ H' => (∃ v, σ = [some (.ref ah), some (.int h.roomLeft), some (.int h.roomRight), some (.ref b), some (.ref bl), some (.ref br), some (.ref ao), some (.ref g), v]) ∧ Grow T.C_Step H3 g ((AB ++ SM.onL h r l) ++ SM.onR h l r) H') ?_ ?_
    · refine s_when (et_test (ev_op (ev_lenT (ev_var rfl) (st_of (ge7 _ _ h33))) ev_c rv_I0)) (fun hb H8 e8 => ?_) (fun hb H8 e8 => ?_)
      · cases r with
        | nil => simp [nv] at hb
        | cons z r =>
          have zn : z < h.heavy.length := hf.rx z (List.Mem.head _)
          have ge8 := ge7.trans e8
          refine s_appS (e8 _ _ gp7) (ev_var rfl) (st_make (m := .onRight) (n := h.weight z) (k := (l, r)) (eu_tup (ea_cons ev_c ea_nil) (by decide)) (ev_op (ev_var rfl) (ev_op (ev_var rfl) ev_c (rv_ixT (K := K) (i := 0) (st_of (ge8 _ _ h33)) (nv_at (l := z :: r) (i := 0) rfl))) (rv_ixL (K := K) (SqL.of (ge8 _ _ hh3)) (nv_at (heavy_at zn)))) (sd_pair (tu_var (ev_var rfl) (ge8 _ _ h23)) (tu_tail (v := .int (z : Int)) (ys := nv r) (ev_var rfl) (ge8 _ _ h33)))) (by rw [List.length_map]; omega) fun p H9 e9 hp => ⟨⟨_, rfl⟩, Grow.more ng ge7 gp7 gs7 (e8.trans e9) hp⟩
      · cases r with
        | nil =>
          refine ⟨⟨v7, rfl⟩, ?_⟩
          show Grow _ _ _ (_ ++ []) _
          rw [List.append_nil]
          exact G7.ex e8
        | cons z r =>
          exfalso
          simp [nv] at hb
    rintro σ8 H8 ⟨⟨v8, rfl⟩, ge8, ps8, gp8, gs8⟩
    refine s_ret (ev_var rfl) fun H9 e9 => ?_
    have eq : (AB ++ SM.onL h r l) ++ SM.onR h l r = stepsOf h (l, r) := by
      rw [SM.stepsOf_is, ← hAB, List.append_assoc, List.append_assoc]
    rw [eq] at gs8
    exact k g ps8 H9 (fresh_back e13 ng) (e13.trans (ge8.trans e9)) (e9 _ _ gp8) (gs8.kp (.ex e9))
end
end SC

namespace SC
open PySem PySem.Spec PyProof.Rows L2 Evl
open SM (toZ Sk Sp3 onOf stepsOf stk Fine Good)
/-! ### step_by -/
def byOf : List Addr → List Sp3 → Uw04.Move → V
  | p :: ps, x :: L, m => if x.1 = m then .ref p else byOf ps L m
  | _, _, _ => .non
theorem out_inj {a b : Uw04.Move} (e : Uw04.moveOut a = Uw04.moveOut b) : a = b := by
  cases a <;> cases b <;> simp [Uw04.moveOut] at e <;> first | rfl | (rw [e])
theorem out_dec (a b : Uw04.Move) : decide (Uw04.moveOut a = Uw04.moveOut b) = decide (a = b) := decide_eq_decide.2 ⟨out_inj, fun e => e ▸ rfl⟩
theorem by_none {C : Addr} {H : Hp} {ps : List Addr} {L : List Sp3} {m : Uw04.Move} (h : Steps C H ps L) (k : ∀ x ∈ L, x.1 ≠ m) : byOf ps L m = .non := by
  induction h with
  | nil => rfl
  | cons a _ ih =>
    show (if _ then _ else _) = _
    rw [if_neg (k _ (List.Mem.head _))]
    exact ih fun x hx => k x (List.Mem.tail _ hx)
theorem by_some {C : Addr} {H : Hp} {ps : List Addr} {L : List Sp3} {m : Uw04.Move} (h : Steps C H ps L) (k : ∃ x ∈ L, x.1 = m) : ∃ p x, byOf ps L m = .ref p ∧ x ∈ L ∧ x.1 = m ∧ StepAt C H p x := by
  induction h with
  | nil => obtain ⟨x, hx, _⟩ := k; cases hx
  | @cons p ps x xs a _ ih =>
    by_cases c : x.1 = m
    · exact ⟨p, x, if_pos c, List.Mem.head _, c, a⟩
    · obtain ⟨y, hy, e⟩ := k
      have hy' : y ∈ xs := by
        cases hy with
        | head => exact absurd e c
        | tail _ q => exact q
      obtain ⟨q, z, h1, h2, h3, h4⟩ := ih ⟨y, hy', e⟩
      exact ⟨q, z, (if_neg c).trans h1, List.Mem.tail _ h2, h3, h4⟩
theorem move_in {h : Uw04.House} {k : Sk} (f : Fine h (stk h.heavy.length k)) {m : Uw04.Move} {y : Uw04.Stand × Nat} (e : h.does (stk h.heavy.length k) m = some y) : m ∈ h.moves := by
  unfold Uw04.House.moves
  cases m with
  | offLeft p =>
    have e' : (if (onOf h.heavy.length k.1 k.2).contains p = true ∧ k.1.length < h.roomLeft then some ((⟨Uw04.takeOut p (onOf h.heavy.length k.1 k.2), p :: k.1, k.2⟩ : Uw04.Stand), p) else none) = some y := e
    by_cases c : (onOf h.heavy.length k.1 k.2).contains p = true ∧ k.1.length < h.roomLeft
    · have := (SM.mem_onOf.1 (SM.contains_iff.1 c.1)).1
      simp [this]
    · rw [if_neg c] at e'
      cases e'
  | offRight p =>
    have e' : (if (onOf h.heavy.length k.1 k.2).contains p = true ∧ k.2.length < h.roomRight then some ((⟨Uw04.takeOut p (onOf h.heavy.length k.1 k.2), k.1, p :: k.2⟩ : Uw04.Stand), p) else none) = some y := e
    by_cases c : (onOf h.heavy.length k.1 k.2).contains p = true ∧ k.2.length < h.roomRight
    · have := (SM.mem_onOf.1 (SM.contains_iff.1 c.1)).1
      simp [this]
    · rw [if_neg c] at e'
      cases e'
  | onLeft => simp
  | onRight => simp
/-- what step_by finds among the steps of a stand -/
theorem by_does {C : Addr} {H : Hp} {ps : List Addr} {h : Uw04.House} {k : Sk} {m : Uw04.Move} (f : Fine h (stk h.heavy.length k)) (hs : Steps C H ps (stepsOf h k)) :
    (h.does (stk h.heavy.length k) m = none ∧ byOf ps (stepsOf h k) m = .non) ∨ ∃ y p, h.does (stk h.heavy.length k) m = some y ∧ byOf ps (stepsOf h k) m = .ref p ∧ StepAt C H p (m, h.weight y.2, SM.skOf y.1) := by
  cases e : h.does (stk h.heavy.length k) m with
  | none =>
    refine .inl ⟨rfl, by_none hs fun x hx q => ?_⟩
    obtain ⟨v, _, y, hy, rfl⟩ := SM.mem_stepsOf.1 hx
    subst q
    rw [hy] at e
    cases e
  | some y =>
    obtain ⟨p, x, h1, h2, h3, h4⟩ := by_some (m := m) hs ⟨_, SM.mem_stepsOf.2 ⟨m, move_in f e, y, e, rfl⟩, rfl⟩
    obtain ⟨v, _, y', hy, rfl⟩ := SM.mem_stepsOf.1 h2
    subst h3
    rw [e] at hy
    cases hy
    exact .inr ⟨y, p, rfl, h1, h4⟩
section
variable {P : Program} {w : World} {K : PySem.W.Frag} {mg : Str → Option Value} {base : Heap}
def spBy (C : Addr) : Sp := fun vs H Q _ => ∃ (a c : Addr) (ps : List Addr) (L : List Sp3) (m : Uw04.Move), vs = [.ref a, .ref c] ∧ H a = some (.lst (ps.map V.ref)) ∧ Steps C H ps L ∧ H c = some (.tup (nv (Uw04.moveOut m))) ∧ RetV (byOf ps L m) H Q
theorem ok_step_by (T : Tx K mg) : FnOk P w K mg base CX0 1 T.f_step_by T.d_step_by ["steps", "carrying"] (spBy T.C_Step) := by
  refine T.h_step_by.F.ok sc_step_by (fun vs H Q E h => ?_) (fun cdv A outer s H vs Q E hr h => ?_)
  · obtain ⟨a, c, ps, L, m, rfl, _⟩ := h
    rfl
  · obtain ⟨a, c, ps, L, m, rfl, h1, h2, h3, k⟩ := h
    have hn := hr.units
    refine ⟨_, (pss_cons (ps_for PassesOwn.never rfl (pi_list (pv 0)) (pg_name (i := 2) sc_step_by.nd rfl (.inl rfl))
        (pss_one (ps_if (pt_cmpR (op_eqD hn) (pe_fld (pv 2) rfl) (pv 1) (nomark _))
          (pss_one (ps_ret (pv 2)))
          pss_nil)))
      (pss_one (ps_ret pe_non))), ?_⟩
    refine q_forLn (ev_var rfl) (SqL.of h1) (fun i σ H' => (∃ v, σ = [some (.ref a), some (.ref c), v]) ∧ Ex H H' ∧ byOf ps L m = byOf (ps.drop i) (L.drop i) m) (fun H1 e1 => ⟨⟨none, rfl⟩, e1, rfl⟩) (fun i σ' H' _ p => SqL.of (p.2.1 _ _ h1)) ?_ ?_
    · rintro i _ σ' H' hi ⟨⟨v, rfl⟩, e1, eb⟩
      rw [List.getElem?_map] at hi
      obtain ⟨p, hp, rfl⟩ := Option.map_eq_some_iff.1 hi
      obtain ⟨x, hx, dx, c2, b2, s1, s2, s3⟩ := h2.get hp
      have eb2 : byOf ps L m = if x.1 = m then .ref p else byOf (ps.drop (i + 1)) (L.drop (i + 1)) m := by
        rw [eb, drop_at hp, drop_at hx]
        rfl
      have t := rv_eqT (K := K) (st_of (e1 _ _ s2)) (st_of (e1 _ _ h3))
      rw [out_dec] at t
      refine s_when (et_test (ev_op (ev_fld (ev_var rfl) (e1 _ _ s1) T.cl_Step T.n_Step_carrying stF_carrying) (ev_var rfl) t)) (fun hb H2 e2 => ?_) (fun hb H2 e2 => ?_)
      · rw [if_pos (of_decide_eq_true hb)] at eb2
        rw [eb2] at k
        exact s_ret (ev_var rfl) fun H3 e3 => k.go (e1.trans (e2.trans e3))
      · rw [if_neg (of_decide_eq_false hb)] at eb2
        exact ⟨⟨_, rfl⟩, e1.trans e2, eb2⟩
    · rintro σ' H' ⟨⟨v, rfl⟩, e1, eb⟩
      rw [List.length_map, List.drop_length] at eb
      have eb2 : byOf ps L m = .non := by
        rw [eb]
        rfl
      rw [eb2] at k
      exact s_ret ev_c fun H3 e3 => k.go (e1.trans e3)
end
/-! ### dict words -/
section
variable {K : PySem.W.Frag} {w : World} {σ : L2.St} {H : Hp} {ta tb td ty te tv : TE} {D : Ends} {tz : TS} {d b : Addr} {es : List (Sk × Addr × V)} {k : Sk} {v : V}
theorem rd_ex {H1 : Hp} {u : HO} (e : Ex H H1) (h : Rd H d u) : Rd H1 d u := ex_rd e h
theorem ev_nnotin (h1 : Ev ty σ H (.ref b)) (h2 : Ev td σ H (.ref d)) (hd : Rd H d (DN w d es)) (ki : KeysIn H es) (hb : StandAt H b k) : Ev (tNNotIn w ty td) σ H (.bl (!(atN es k).isSome)) := fun H1 e Q q =>
  h1 H1 e _ fun H2 e2 => h2 H2 (e.trans e2) _ fun H3 e3 =>
    let x := e.trans (e2.trans e3)
    ⟨_, ⟨d, b, es, k, rfl, rfl, ex_rd x hd, ki.mono (ex_tup x), hb.ex x, rfl⟩, q H3 (e2.trans e3)⟩
theorem ev_nin (h1 : Ev ty σ H (.ref b)) (h2 : Ev td σ H (.ref d)) (hd : Rd H d (DN w d es)) (ki : KeysIn H es) (hb : StandAt H b k) : Ev (tNIn w ty td) σ H (.bl (atN es k).isSome) := fun H1 e Q q =>
  h1 H1 e _ fun H2 e2 => h2 H2 (e.trans e2) _ fun H3 e3 =>
    let x := e.trans (e2.trans e3)
    ⟨_, ⟨d, b, es, k, rfl, rfl, ex_rd x hd, ki.mono (ex_tup x), hb.ex x, rfl⟩, q H3 (e2.trans e3)⟩
theorem ev_nget (h1 : Ev td σ H (.ref d)) (h2 : Ev ty σ H (.ref b)) (hd : Rd H d (DN w d es)) (ki : KeysIn H es) (hb : StandAt H b k) (hv : atN es k = some v) : Ev (tNGet w td ty) σ H v := fun H1 e Q q =>
  h1 H1 e _ fun H2 e2 => h2 H2 (e.trans e2) _ fun H3 e3 =>
    let x := e.trans (e2.trans e3)
    ⟨v, ⟨d, b, es, k, rfl, rfl, ex_rd x hd, ki.mono (ex_tup x), hb.ex x, hv.symm⟩, q H3 (e2.trans e3)⟩
theorem ev_nget1 (h1 : Ev td σ H (.ref d)) (h2 : Ev ty σ H (.ref b)) (hd : Rd H d (DN w d es)) (ki : KeysIn H es) (hb : StandAt H b k) : Ev (tNGet1 w td ty) σ H ((atN es k).getD .non) := fun H1 e Q q =>
  h1 H1 e _ fun H2 e2 => ⟨d, es, rfl, ex_rd (e.trans e2) hd, h2 H2 (e.trans e2) _ fun H3 e3 =>
    let x := e.trans (e2.trans e3)
    ⟨_, ⟨d, b, es, k, rfl, rfl, ex_rd x hd, ki.mono (ex_tup x), hb.ex x, rfl⟩, q H3 (e2.trans e3)⟩⟩
theorem s_nput (h3 : Ev tv σ H v) (h1 : Ev td σ H (.ref d)) (h2 : Ev ty σ H (.ref b)) (hd : H d = some (DN w d es)) (ki : KeysIn H es) (hb : StandAt H b k) (lt : es.length < 100000) (kk : ∀ H1, Ex H H1 → D.nx σ (upd H1 d (DN w d (putN es k b v)))) : sNPut w td ty tv D σ H :=
  h3 H (Ex.refl H) _ fun H1 e1 => h1 H1 e1 _ fun H2 e2 => h2 H2 (e1.trans e2) _ fun H3 e3 =>
    let x := e1.trans (e2.trans e3)
    ⟨d, b, es, k, rfl, rfl, x _ _ hd, ki.mono (ex_tup x), hb.ex x, sz_lt lt, kk H3 x⟩
theorem q_nput (h3 : Ev tv σ H v) (h1 : Ev td σ H (.ref d)) (h2 : Ev ty σ H (.ref b)) (hd : H d = some (DN w d es)) (ki : KeysIn H es) (hb : StandAt H b k) (lt : es.length < 100000) (kk : ∀ H1, Ex H H1 → tz D σ (upd H1 d (DN w d (putN es k b v)))) : tSeq (sNPut w td ty tv) tz D σ H :=
  s_nput (D := { D with nx := tz D }) h3 h1 h2 hd ki hb lt kk
theorem q_popA {i : Nat} {l : Addr} {xs : List V} {y : V} (hl : H l = some (.lst xs)) (ha : Ev ta σ H (.ref l)) (hy : xs[xs.length - 1]? = some y) (kk : ∀ H1, Ex H H1 → tz D (σ.set i (some y)) (upd H1 l (.lst xs.dropLast))) : tSeq (tAsg (tBM K "list" rPop ta tNil) (gName i)) tz D σ H :=
  ha H (Ex.refl H) _ fun H1 e1 => ⟨Or.inl ⟨rfl, xs, sq_of (e1 l _ hl)⟩, l, xs, y, rfl, rfl, e1 l _ hl, hy, kk H1 e1⟩
end
/-! ### the reached stands -/
/-- the steps that the dict holds, stand by stand -/
def StepsIn (C : Addr) (H : Hp) (h : Uw04.House) (es : List (Sk × Addr × V)) : Prop := ∀ x ∈ es, StandAt H x.2.1 x.1 ∧ ∃ p ps, x.2.2 = .ref p ∧ H p = some (.lst (ps.map V.ref)) ∧ Steps C H ps (stepsOf h x.1)
theorem StepsIn.keys {C : Addr} {H : Hp} {h : Uw04.House} {es : List (Sk × Addr × V)} (s : StepsIn C H h es) : KeysIn H es := fun x hx => (s x hx).1
theorem StepsIn.chg {C : Addr} {H H' : Hp} {h : Uw04.House} {es : List (Sk × Addr × V)} (s : StepsIn C H h es) (kp : Kp H H') (ls : ∀ x ∈ es, ∀ p xs, x.2.2 = .ref p → H p = some (.lst xs) → H' p = some (.lst xs)) : StepsIn C H' h es := fun x hx => by
  obtain ⟨h1, p, ps, h2, h3, h4⟩ := s x hx
  exact ⟨h1.kp kp, p, ps, h2, ls x hx p _ h2 h3, h4.kp kp⟩
theorem StepsIn.ex {C : Addr} {H H' : Hp} {h : Uw04.House} {es : List (Sk × Addr × V)} (s : StepsIn C H h es) (e : Ex H H') : StepsIn C H' h es := s.chg (.ex e) fun _ _ p xs _ q => e _ _ q
theorem StepsIn.fr {C : Addr} {H H' : Hp} {h : Uw04.House} {es es' : List (Sk × Addr × V)} {d : Addr} {w : World} (s : StepsIn C H h es) (hd : H d = some (DN w d es')) (f : Fr H H' d) : StepsIn C H' h es :=
  s.chg ⟨fun a xs q => f _ _ q (fun z => by rw [z, hd] at q; cases q), fun a C dx fs q => f _ _ q (fun z => by rw [z, hd] at q; cases q)⟩ fun _ _ p xs _ q => f _ _ q (fun z => by rw [z, hd] at q; cases q)
inductive Stands (H : Hp) : List Addr → List Sk → Prop
  | nil : Stands H [] []
  | cons {a as k ks} : StandAt H a k → Stands H as ks → Stands H (a :: as) (k :: ks)
theorem Stands.kp {H H' : Hp} {as : List Addr} {ks : List Sk} (h : Stands H as ks) (e : Kp H H') : Stands H' as ks := by
  induction h with
  | nil => exact .nil
  | cons a _ ih => exact .cons (a.kp e) ih
theorem Stands.length {H : Hp} {as : List Addr} {ks : List Sk} (h : Stands H as ks) : as.length = ks.length := by
  induction h with
  | nil => rfl
  | cons _ _ ih => exact congrArg (· + 1) ih
theorem Stands.snoc {H : Hp} {as : List Addr} {ks : List Sk} {a : Addr} {k : Sk} (h : Stands H as ks) (q : StandAt H a k) : Stands H (as ++ [a]) (ks ++ [k]) := by
  induction h with
  | nil => exact .cons q .nil
  | cons x _ ih => exact .cons x ih
theorem Stands.unsnoc {H : Hp} {as : List Addr} {ks : List Sk} (h : Stands H as ks) (ne : as ≠ []) : ∃ as' a ks' k, as = as' ++ [a] ∧ ks = ks' ++ [k] ∧ Stands H as' ks' ∧ StandAt H a k := by
  induction h with
  | nil => exact absurd rfl ne
  | @cons a as k ks x t ih =>
    cases t with
    | nil => exact ⟨[], a, [], k, rfl, rfl, .nil, x⟩
    | cons y t' =>
      obtain ⟨as', a', ks', k', e1, e2, h1, h2⟩ := ih (fun z => nomatch z)
      exact ⟨a :: as', a', k :: ks', k', by rw [e1]; rfl, by rw [e2]; rfl, .cons x h1, h2⟩
/-- the search's state: the dict at d, what waits at g -/
structure Srch (w : World) (C : Addr) (h : Uw04.House) (s0 : Sk) (H0 : Hp) (d g : Addr) (es : List (Sk × Addr × V)) (as : List Addr) (ks : List Sk) (H : Hp) : Prop where
  ex : Ex H0 H
  hd : H d = some (DN w d es)
  hg : H g = some (.lst (as.map V.ref))
  st : Stands H as ks
  si : StepsIn C H h es
  ne : ∀ x ∈ es, x.2.2 ≠ .ref g
  nd : (keysN es).Nodup
  fk : ∀ k ∈ keysN es, Fine h (stk h.heavy.length k)
  fw : ∀ k ∈ ks, Fine h (stk h.heavy.length k)
theorem Srch.more {w : World} {C : Addr} {h : Uw04.House} {s0 : Sk} {H0 H : Hp} {d g : Addr} {es : List (Sk × Addr × V)} {as : List Addr} {ks : List Sk} (s : Srch w C h s0 H0 d g es as ks H) {H' : Hp} (e : Ex H H') : Srch w C h s0 H0 d g es as ks H' :=
  ⟨s.ex.trans e, e _ _ s.hd, e _ _ s.hg, s.st.kp (.ex e), s.si.ex e, s.ne, s.nd, s.fk, s.fw⟩
/-- the list that waits is another -/
theorem Srch.list {w : World} {C : Addr} {h : Uw04.House} {s0 : Sk} {H0 H : Hp} {d g : Addr} {es : List (Sk × Addr × V)} {as as' : List Addr} {ks ks' : List Sk} (n0 : H0 g = none) (s : Srch w C h s0 H0 d g es as ks H) (st' : Stands H as' ks') (fw' : ∀ k ∈ ks', Fine h (stk h.heavy.length k)) : Srch w C h s0 H0 d g es as' ks' (upd H g (.lst (as'.map V.ref))) := by
  have kp : Kp H (upd H g (.lst (as'.map V.ref))) := .lst s.hg
  refine ⟨Ex.mut s.ex n0, ?_, upd_same, st'.kp kp, s.si.chg kp fun x hx p xs q r => ?_, s.ne, s.nd, s.fk, fw'⟩
  · rw [upd_ne (fun z => by have := s.hd; rw [z, s.hg] at this; cases this)]
    exact s.hd
  · rw [upd_ne (fun z => s.ne x hx (by rw [q, z]))]
    exact r
def StartIn (s0 : Sk) (es : List (Sk × Addr × V)) (ks : List Sk) : Prop := s0 ∈ keysN es ∨ s0 ∈ ks
def ClosedIn (h : Uw04.House) (es : List (Sk × Addr × V)) (ks : List Sk) : Prop := ∀ k ∈ keysN es, ∀ x ∈ stepsOf h k, x.2.2 ∈ keysN es ∨ x.2.2 ∈ ks
section
variable {P : Program} {w : World} {K : PySem.W.Frag} {mg : Str → Option Value} {base : Heap}
def spReach (w : World) (C : Addr) : Sp := fun vs H Q _ => ∃ (ah b : Addr) (h : Uw04.House) (s0 : Sk), vs = [.ref ah, .int h.roomLeft, .int h.roomRight, .ref b] ∧ H ah = some (.lst (nv h.heavy)) ∧ StandAt H b s0 ∧ Fine h (stk h.heavy.length s0) ∧ h.heavy.length ≤ 4 ∧ h.roomLeft ≤ 3 ∧ h.roomRight ≤ 3 ∧
  ∀ d es H2, H d = none → Ex H H2 → H2 d = some (DN w d es) → StepsIn C H2 h es → (keysN es).Nodup → Good h s0 (keysN es) → Q (.ref d) H2
theorem ok_steps_by_standing (T : Tx K mg) : FnOk P w K mg base CX0 4 T.f_steps_by_standing T.d_steps_by_standing ["heavy", "left_room", "right_room", "start"] (spReach w T.C_Step) := by
  refine T.h_steps_by_standing.F.ok sc_steps_by_standing (fun vs H Q E h => ?_) (fun cdv A outer s H vs Q E hr h => ?_)
  · obtain ⟨ah, b, h, s0, rfl, _⟩ := h
    rfl
  · obtain ⟨ah, b, h, s0, rfl, hh, hb, hf, h4, ra, rb, k⟩ := h
    have hn := hr.units
    have hr_steps_from : Room 3 _ := hr
    refine ⟨_, (pss_cons (ps_set (i := 4) sc_steps_by_standing.nd rfl (.inl rfl) (pe_nnew (w := w) rfl))
      (pss_cons (ps_set (i := 5) sc_steps_by_standing.nd rfl (.inl rfl) (pe_lst (pa_cons (pv 3) pa_nil)))
      (pss_cons (ps_while PassesOwn.never (pt_cmpR op_gt (pe_callB call_len_seq (by rfl) T.b_len (by decide +kernel) (pa_cons (pv 5) pa_nil)) pe_int (nomark _))
        (pss_cons (ps_set (i := 6) sc_steps_by_standing.nd rfl (.inl rfl) (pe_bm0 PySem.F.plainAttrs_list PySem.F.slot_list_pop PySem.F.type_list_pop mt_pop (pv 5)))
        (pss_one (ps_if (pt_cmp (pc_nnotin (w := w) rfl hn (pv 6) (pv 4)))
          (pss_cons (ps_nput (w := w) rfl hn (pv 4) (pv 6) (pe_call (ok_steps_from T) hr_steps_from rfl T.h_steps_from.g T.h_steps_from.F.kp T.h_steps_from.b .nil pass0 (pa_cons (pv 0) (pa_cons (pv 1) (pa_cons (pv 2) (pa_cons (pv 6) pa_nil))))) rfl)
          (pss_one (ps_for PassesOwn.never rfl (pi_list (pe_nget (w := w) rfl hn (pv 4) (pv 6) (fun _ _ => rfl))) (pg_name (i := 7) sc_steps_by_standing.nd rfl (.inl rfl))
            (pss_one (ps_expr (pe_bm PySem.F.plainAttrs_list PySem.F.slot_list_append PySem.F.type_list_append mt_append (pv 5) (pa_cons (pe_fld (pv 7) rfl) pa_nil)))))))
          pss_nil))))
      (pss_one (ps_ret (pv 4)))))), ?_⟩
    -- steps = {}
    intro d nd
    have ed : Ex H (upd H d (DN w d [])) := Ex.new nd
    refine q_asgL (xs := [.ref b]) (el_lst (ea_cons (ev_var rfl) ea_nil) (by show 1 ≤ 100000; decide)) fun g H1 ng e1 mg1 => ?_
    have ng0 : H g = none := fresh_back ed ng
    refine q_while (fun m σ H' => ∃ es as ks v6 v7, σ = [some (.ref ah), some (.int h.roomLeft), some (.int h.roomRight), some (.ref b), some (.ref d), some (.ref g), v6, v7] ∧ Srch w T.C_Step h s0 H d g es as ks H' ∧ StartIn s0 es ks ∧ ClosedIn h es ks ∧ m = ks.length + 11 * (501 - es.length) ∧ m ≤ 6000)
      (1 + 11 * 501) ⟨[], [b], [s0], none, none, rfl, ⟨ed.trans e1, e1 _ _ upd_same, mg1, .cons (hb.ex (ed.trans e1)) .nil, (fun x hx => nomatch hx), (fun x hx => nomatch hx), List.nodup_nil, (fun x hx => nomatch hx), fun x hx => by cases List.mem_singleton.1 hx; exact hf⟩, .inr (List.Mem.head _), (fun x hx => nomatch hx), rfl, by decide⟩ ?_
    rintro m σ H' ⟨es, as, ks, v6, v7, rfl, S, si, ci, em, lm⟩
    have las := S.st.length
    have lk : es.length ≤ 500 := by
      have := SM.keys_le S.nd S.fk
      unfold keysN at this
      rw [List.length_map] at this
      exact Nat.le_trans this (SM.stands_le h4 ra rb)
    refine ⟨_, et_test (ev_op (ev_len (ev_var rfl) (SqL.of S.hg)) ev_c rv_I0), fun hb2 H2 e2 => ?_, fun hb2 H2 e2 => ?_⟩
    · -- one waits
      have ne : as ≠ [] := fun z => by subst z; simp at hb2
      obtain ⟨as', a, ks', k1, rfl, rfl, st', ha⟩ := S.st.unsnoc ne
      refine ⟨fun σ2 H3 => ∃ m', m' < m ∧ ∃ es as ks v6 v7, σ2 = [some (.ref ah), some (.int h.roomLeft), some (.int h.roomRight), some (.ref b), some (.ref d), some (.ref g), v6, v7] ∧ Srch w T.C_Step h s0 H d g es as ks H3 ∧ StartIn s0 es ks ∧ ClosedIn h es ks ∧ m' = ks.length + 11 * (501 - es.length) ∧ m' ≤ 6000, fun σ2 H3 q => q, ?_⟩
      rw [List.length_append, List.length_singleton] at em
      have S2 := S.more e2
      refine q_popA (y := .ref a) S2.hg (ev_var rfl) (by simp) fun H3 e3 => ?_
      have S3 := S2.more e3
      have e23 := e2.trans e3
      have S4 := Srch.list ng0 S3 (st'.kp (.ex e23)) (fun x hx => S.fw x (List.mem_append.2 (.inl hx)))
      have dl : (List.map V.ref (as' ++ [a])).dropLast = as'.map V.ref := by rw [List.map_append]; exact List.dropLast_concat
      rw [dl]
      have ha4 : StandAt (upd H3 g (.lst (as'.map V.ref))) a k1 := (ha.ex e23).kp (.lst S3.hg)
      have fk1 : Fine h (stk h.heavy.length k1) := S.fw k1 (List.mem_append.2 (.inr (List.Mem.head _)))
      generalize hH4 : upd H3 g (.lst (as'.map V.ref)) = H4 at S4 ha4 ⊢
      refine s_when (et_B (ev_nnotin (ev_var rfl) (ev_var rfl) (.inl S4.hd) S4.si.keys ha4)) (fun hb3 H5 e5 => ?_) (fun hb3 H5 e5 => ?_)
      · -- it is new
        have new : k1 ∉ keysN es := fun q => by rw [atN_isSome.2 q] at hb3; cases hb3
        have S5 := S4.more e5
        refine ⟨_, rfl, _, rfl, _, rfl, _, rfl, ah, a, h, k1, rfl, S5.ex _ _ hh, ha4.ex e5, fk1, h4, fun p ps H6 np e6 hp hs => ⟨_, rfl, _, rfl, d, a, es, k1, rfl, rfl, e6 _ _ S5.hd, (S5.more e6).si.keys, (ha4.ex e5).ex e6, sz_lt (by omega), ?_⟩⟩
        have S6 := S5.more e6
        have kp : Kp H6 (upd H6 d (DN w d (putN es k1 a (.ref p)))) := .dict S6.hd
        have pd : p ≠ d := fun z => by have := S6.hd; rw [← z, hp] at this; cases this
        have pg : p ≠ g := fun z => by rw [z, S5.hg] at np; cases np
        have ke : keysN (putN es k1 a (.ref p)) = keysN es ++ [k1] := by rw [keys_putN, if_neg new]
        have pe : putN es k1 a (.ref p) = es ++ [(k1, a, .ref p)] := by
          unfold putN
          rw [if_neg (fun q => new (atN_isSome.1 q))]
        have S7 : Srch w T.C_Step h s0 H d g (putN es k1 a (.ref p)) as' ks' (upd H6 d (DN w d (putN es k1 a (.ref p)))) := by
          refine ⟨Ex.mut S6.ex nd, upd_same, ?_, S6.st.kp kp, fun x hx => ?_, fun x hx => ?_, ?_, fun x hx => ?_, S6.fw⟩
          · rw [upd_ne (fun z => by have := S6.hg; rw [z, S6.hd] at this; cases this)]
            exact S6.hg
          · rw [pe] at hx
            rcases List.mem_append.1 hx with hx | hx
            · obtain ⟨q1, p', ps', q2, q3, q4⟩ := S6.si x hx
              refine ⟨q1.kp kp, p', ps', q2, ?_, q4.kp kp⟩
              rw [upd_ne (fun z => by rw [z, S6.hd] at q3; cases q3)]
              exact q3
            · cases List.mem_singleton.1 hx
              refine ⟨((ha4.ex e5).ex e6).kp kp, p, ps, rfl, ?_, hs.kp kp⟩
              rw [upd_ne pd]
              exact hp
          · rw [pe] at hx
            rcases List.mem_append.1 hx with hx | hx
            · exact S6.ne x hx
            · cases List.mem_singleton.1 hx
              exact fun z => pg (V.ref.inj z)
          · rw [ke, List.nodup_append]
            refine ⟨S6.nd, List.nodup_cons.2 ⟨(fun z => nomatch z), List.nodup_nil⟩, fun x hx y hy => ?_⟩
            cases List.mem_singleton.1 hy
            exact fun z => new (z ▸ hx)
          · rw [ke] at hx
            rcases List.mem_append.1 hx with hx | hx
            · exact S6.fk x hx
            · cases List.mem_singleton.1 hx
              exact fk1
        have ha7 := ((ha4.ex e5).ex e6).kp kp
        have hp7 : upd H6 d (DN w d (putN es k1 a (.ref p))) p = some (.lst (ps.map V.ref)) := (upd_ne pd).trans hp
        have hs7 := hs.kp kp
        generalize hes : putN es k1 a (.ref p) = es7 at S7 ke ha7 hp7 hs7 ⊢
        generalize hH7 : upd H6 d (DN w d es7) = H7 at S7 ha7 hp7 hs7 ⊢
        have at7 : atN es7 k1 = some (.ref p) := by rw [← hes, atN_putN, if_pos rfl]
        have l7 : es7.length = es.length + 1 := by rw [← hes, pe, List.length_append]; rfl
        have sl := SM.steps_len h4 k1
        refine s_forLn (ev_nget (ev_var rfl) (ev_var rfl) (.inl S7.hd) S7.si.keys ha7 at7) (SqL.of hp7) (fun i σ H8 => (∃ v, σ = [some (.ref ah), some (.int h.roomLeft), some (.int h.roomRight), some (.ref b), some (.ref d), some (.ref g), some (.ref a), v]) ∧ H8 p = some (.lst (ps.map V.ref)) ∧ Steps T.C_Step H8 ps (stepsOf h k1) ∧ ∃ as8, Srch w T.C_Step h s0 H d g es7 as8 (ks' ++ ((stepsOf h k1).take i).map fun x => x.2.2) H8)
          (fun H8 e8 => ⟨⟨v7, rfl⟩, e8 _ _ hp7, hs7.kp (.ex e8), as', by
            rw [List.take_zero, List.map_nil, List.append_nil]
            exact S7.more e8⟩) (fun i σ' H8 _ q => SqL.of q.2.1) ?_ ?_
        · rintro i _ σ' H8 hi ⟨⟨v, rfl⟩, hp8, hs8, as8, S8⟩
          rw [List.getElem?_map] at hi
          obtain ⟨q, hq, rfl⟩ := Option.map_eq_some_iff.1 hi
          obtain ⟨x, hx, sx⟩ := hs8.get hq
          obtain ⟨dx, c2, b2, s1, s2, s3⟩ := id sx
          have l8 := S8.st.length
          rw [List.length_append, List.length_map, List.length_take] at l8
          refine s_app S8.hg (ev_var rfl) (ev_fld (ev_var rfl) s1 T.cl_Step T.n_Step_after stF_after) (by rw [List.length_map]; omega) fun H9 e9 => ?_
          have S9 := S8.more e9
          have hx2 := take_more hx
          have S10 := Srch.list (as' := as8 ++ [b2]) (ks' := (ks' ++ ((stepsOf h k1).take i).map fun x => x.2.2) ++ [x.2.2]) ng0 S9 (S9.st.snoc (s3.ex e9)) (fun y hy => by
            rcases List.mem_append.1 hy with hy | hy
            · exact S9.fw y hy
            · cases List.mem_singleton.1 hy
              exact SM.steps_fine fk1 (List.mem_of_getElem? hx))
          have em2 : List.map V.ref as8 ++ [V.ref b2] = (as8 ++ [b2]).map V.ref := by rw [List.map_append]; rfl
          rw [em2]
          refine ⟨⟨_, rfl⟩, ?_, (hs8.kp (.ex e9)).kp (.lst S9.hg), as8 ++ [b2], ?_⟩
          · rw [upd_ne pg]
            exact e9 _ _ hp8
          · rw [hx2, List.map_append, ← List.append_assoc]
            exact S10
        · rintro σ' H8 ⟨⟨v, rfl⟩, hp8, hs8, as8, S8⟩
          rw [List.length_map, hs8.length, List.take_length] at S8
          have len8 : (ks' ++ (stepsOf h k1).map fun x => x.2.2).length ≤ ks'.length + 10 := by
            rw [List.length_append, List.length_map]
            omega
          refine ⟨_, ?_, es7, as8, _, _, _, rfl, S8, ?_, ?_, rfl, ?_⟩
          · omega
          · rcases si with si | si
            · exact .inl (by rw [ke]; exact List.mem_append.2 (.inl si))
            · rcases List.mem_append.1 si with si | si
              · exact .inr (List.mem_append.2 (.inl si))
              · exact .inl (by rw [ke]; exact List.mem_append.2 (.inr si))
          · intro x hx y hy
            rw [ke] at hx ⊢
            rcases List.mem_append.1 hx with hx | hx
            · rcases ci x hx y hy with q | q
              · exact .inl (List.mem_append.2 (.inl q))
              · rcases List.mem_append.1 q with q | q
                · exact .inr (List.mem_append.2 (.inl q))
                · exact .inl (List.mem_append.2 (.inr q))
            · cases List.mem_singleton.1 hx
              exact .inr (List.mem_append.2 (.inr (List.mem_map.2 ⟨y, hy, rfl⟩)))
          · omega
      · -- it is known
        have old : k1 ∈ keysN es := atN_isSome.1 (by simpa using hb3)
        refine ⟨_, ?_, es, as', ks', _, _, rfl, S4.more e5, ?_, ?_, rfl, ?_⟩
        · omega
        · rcases si with si | si
          · exact .inl si
          · rcases List.mem_append.1 si with si | si
            · exact .inr si
            · cases List.mem_singleton.1 si
              exact .inl old
        · intro x hx y hy
          rcases ci x hx y hy with q | q
          · exact .inl q
          · rcases List.mem_append.1 q with q | q
            · exact .inr q
            · rw [List.mem_singleton.1 q]
              exact .inl old
        · omega
    · -- nothing waits
      have e0 : as = [] := by
        cases as with
        | nil => rfl
        | cons a as => simp at hb2
      subst e0
      have ek : ks = [] := List.length_eq_zero_iff.1 (by rw [← las]; rfl)
      subst ek
      refine s_ret (ev_var rfl) fun H3 e3 => ?_
      have S3 := S.more (e2.trans e3)
      refine k d es H3 nd S3.ex S3.hd S3.si S3.nd ⟨S3.fk, ?_, fun x hx y hy => ?_⟩
      · rcases si with si | si
        · exact si
        · cases si
      · rcases ci x hx y hy with q | q
        · exact q
        · cases q
end
end SC

namespace SC
open PySem PySem.Spec PyProof.Rows L2 Evl
open SM (toZ Sk Sp3 onOf stepsOf stk Fine Good low Lo CanK Pass todo)
/-! ### weights by stand -/
def iv (n : Nat) : V := .int (n : Int)
def ov : Option Nat → V
  | none => .non
  | some n => .int (n : Int)
abbrev Gs := List (Sk × Addr × Nat)
def KeysG (H : Hp) (gs : Gs) : Prop := ∀ x ∈ gs, StandAt H x.2.1 x.1
theorem KeysG.in_ {H : Hp} {gs : Gs} (h : KeysG H gs) : KeysIn H (gs.map (mapN iv)) := fun x hx => by
  obtain ⟨y, hy, rfl⟩ := List.mem_map.1 hx
  exact h y hy
theorem KeysG.kp {H H' : Hp} {gs : Gs} (h : KeysG H gs) (e : Kp H H') : KeysG H' gs := fun x hx => (h x hx).kp e
theorem KeysG.put {H : Hp} {gs : Gs} {k : Sk} {b : Addr} {n : Nat} (h : KeysG H gs) (hb : StandAt H b k) : KeysG H (putN gs k b n) := fun x hx => by
  rcases mem_putN hx with rfl | ⟨y, hy, e1, e2, _⟩
  · exact hb
  · rw [e1, e2]
    exact h y hy
theorem getD_ov (o : Option Nat) : (o.map iv).getD .non = ov o := by cases o <;> rfl
theorem ov_inj {a b : Option Nat} (e : ov a = ov b) : a = b := by
  cases a with
  | none =>
    cases b with
    | none => rfl
    | some y => cases e
  | some x =>
    cases b with
    | none => cases e
    | some y =>
      have := V.int.inj e
      rw [show x = y by omega]
theorem ov_scal (a b : Option Nat) : scal (ov a) (ov b) = true := by cases a <;> cases b <;> rfl
theorem atN_get {β : Type} {es : List (Sk × Addr × β)} (hn : (keysN es).Nodup) : ∀ {i : Nat} {x : Sk × Addr × β}, es[i]? = some x → atN es x.1 = some x.2.2 := by
  induction es with
  | nil => intro i x h; simp at h
  | cons y es ih =>
    intro i x h
    obtain ⟨n1, n2⟩ := List.nodup_cons.1 (show (y.1 :: keysN es).Nodup from hn)
    rw [atN_cons]
    cases i with
    | zero =>
      cases h
      rw [if_pos rfl]
    | succ j =>
      have hm : x ∈ es := List.mem_of_getElem? h
      rw [if_neg (fun z => n1 (by rw [z]; exact List.mem_map.2 ⟨x, hm, rfl⟩))]
      exact ih n2 h
theorem keys_nodup_put {β : Type} {es : List (Sk × Addr × β)} {k : Sk} {a : Addr} {v : β} (h : (keysN es).Nodup) : (keysN (putN es k a v)).Nodup := by
  rw [keys_putN]
  by_cases c : k ∈ keysN es
  · rw [if_pos c]
    exact h
  · rw [if_neg c, List.nodup_append]
    refine ⟨h, List.nodup_cons.2 ⟨(fun z => nomatch z), List.nodup_nil⟩, fun x hx y hy => ?_⟩
    cases List.mem_singleton.1 hy
    exact fun z => c (z ▸ hx)
theorem keys_put_sub {β : Type} {es : List (Sk × Addr × β)} {k : Sk} {a : Addr} {v : β} {ks : List Sk} (h : ∀ x ∈ keysN es, x ∈ ks) (hk : k ∈ ks) : ∀ x ∈ keysN (putN es k a v), x ∈ ks := by
  intro x hx
  rw [keys_putN] at hx
  by_cases c : k ∈ keysN es
  · rw [if_pos c] at hx
    exact h x hx
  · rw [if_neg c] at hx
    rcases List.mem_append.1 hx with hx | hx
    · exact h x hx
    · cases List.mem_singleton.1 hx
      exact hk
theorem put_new {β : Type} {es : List (Sk × Addr × β)} {k : Sk} {a : Addr} {v : β} (h : k ∉ keysN es) : putN es k a v = es ++ [(k, a, v)] := by
  unfold putN
  rw [if_neg (fun q => h (atN_isSome.1 q))]
/-! ### words -/
section
variable {K : PySem.W.Frag} {w : World} {σ : L2.St} {H : Hp} {ta tb td ty te tv : TE} {D : Ends} {tz tu : TS} {d b : Addr} {es : List (Sk × Addr × V)} {k : Sk} {v : V}
theorem rv_isN {x : V} : RV (fun x y H Q => y = V.non ∧ Q (V.bl (decide (x = V.non))) H) x .non H (.bl (decide (x = .non))) := fun H1 _ _ q => ⟨rfl, q H1 (Ex.refl H1)⟩
/-- for k in d, the dict locked meanwhile -/
theorem s_forN {j : Nat} (hd : H d = some (DN w d es)) (he : ∀ od, Ev td σ (upd H d (.frz od (DN w d es))) (.ref d)) (Pv : Obj → Nat → L2.St → Hp → Prop) (h0 : ∀ od H1, Ex (upd H d (.frz od (DN w d es))) H1 → Pv od 0 σ H1)
    (hl : ∀ od i σ' H', Pv od i σ' H' → H' d = some (.frz od (DN w d es))) (hs : ∀ od i y σ' H' (R : VK) (B : L2.St → Hp → Prop), es[i]? = some y → Pv od i σ' H' → tu ⟨Pv od (i + 1), R, B, Pv od (i + 1)⟩ (σ'.set j (some (.ref y.2.1))) H')
    (hz : ∀ od σ' H', Pv od es.length σ' H' → D.nx σ' (upd H' d (DN w d es))) : tLock (tFor (iNKeys w td) (gName j) tu) D σ H := by
  refine ⟨d, DN w d es, hd, True.intro, fun od => ?_⟩
  refine he od _ (Ex.refl _) _ fun H1 e1 => ⟨d, od, es, rfl, e1 _ _ upd_same, fun i m σ' H' => m = es.length - i ∧ i ≤ es.length ∧ Pv od i σ' H', ⟨es.length, by simp, Nat.zero_le _, h0 od H1 e1⟩, ?_⟩
  rintro i m σ' H' ⟨rfl, hi, p⟩
  by_cases lt : i < es.length
  · refine .inr ⟨⟨hl od i σ' H' p, lt⟩, Pv od (i + 1), fun σ2 H2 p2 => ⟨es.length - (i + 1), by omega, rfl, lt, p2⟩, ?_⟩
    rintro x H2 ⟨rfl, y, hy, rfl⟩
    exact hs od i y σ' H2 _ _ hy p
  · have e : i = es.length := by omega
    subst e
    exact .inl ⟨⟨hl od _ σ' H' p, Nat.le_refl _⟩, hl od _ σ' H' p, hz od σ' H' p⟩
theorem q_forN {j : Nat} (hd : H d = some (DN w d es)) (he : ∀ od, Ev td σ (upd H d (.frz od (DN w d es))) (.ref d)) (Pv : Obj → Nat → L2.St → Hp → Prop) (h0 : ∀ od H1, Ex (upd H d (.frz od (DN w d es))) H1 → Pv od 0 σ H1)
    (hl : ∀ od i σ' H', Pv od i σ' H' → H' d = some (.frz od (DN w d es))) (hs : ∀ od i y σ' H' (R : VK) (B : L2.St → Hp → Prop), es[i]? = some y → Pv od i σ' H' → tu ⟨Pv od (i + 1), R, B, Pv od (i + 1)⟩ (σ'.set j (some (.ref y.2.1))) H')
    (hz : ∀ od σ' H', Pv od es.length σ' H' → tz D σ' (upd H' d (DN w d es))) : tSeq (tLock (tFor (iNKeys w td) (gName j) tu)) tz D σ H := s_forN (D := { D with nx := tz D }) hd he Pv h0 hl hs hz
end
/-- what is known of a heap while the dict at d is locked, and behind -/
theorem ex_unlock {H H' : Hp} {d : Addr} {o : HO} (f : Fr H H' d) (h : H d = some o) : Ex H (L2.upd H' d o) := fun a u q => by
  by_cases c : a = d
  · subst c
    rw [upd_same, ← h, q]
  · rw [upd_ne c]
    exact f _ _ q c
theorem Kp.fr {H H' : Hp} {w : World} {d : Addr} {es : List (Sk × Addr × V)} (f : Fr H H' d) (h : H d = some (DN w d es)) : Kp H H' :=
  ⟨fun a xs q => f _ _ q (fun z => by rw [z, h] at q; cases q), fun a C dx fs q => f _ _ q (fun z => by rw [z, h] at q; cases q)⟩
section
variable {P : Program} {w : World} {K : PySem.W.Frag} {mg : Str → Option Value} {base : Heap}
/-! ### lowered -/
def spLow (w : World) (C : Addr) : Sp := fun vs H Q _ => ∃ (d b p : Addr) (gs : Gs) (k : Sk) (ps : List Addr) (L : List Sp3), vs = [.ref d, .ref b, .ref p] ∧ Rd H d (DN w d (gs.map (mapN iv))) ∧ KeysG H gs ∧ StandAt H b k ∧ H p = some (.lst (ps.map V.ref)) ∧ Steps C H ps L ∧ RetV (ov (low (atN gs) (atN gs k) L)) H Q
theorem ok_lowered (T : Tx K mg) : FnOk P w K mg base CX0 1 T.f_lowered T.d_lowered ["best", "standing", "steps"] (spLow w T.C_Step) := by
  refine T.h_lowered.F.ok sc_lowered (fun vs H Q E h => ?_) (fun cdv A outer s H vs Q E hr h => ?_)
  · obtain ⟨d, b, p, gs, k, ps, L, rfl, _⟩ := h
    rfl
  · obtain ⟨d, b, p, gs, k, ps, L, rfl, hd, hk, hb, hp, hs, kk⟩ := h
    have hn := hr.units
    refine ⟨_, (pss_cons (ps_set (i := 3) sc_lowered.nd rfl (.inl rfl) (pe_nget1 (w := w) rfl hn (pv 0) (pv 1) ⟨rfl, rfl, rfl, rfl⟩))
      (pss_cons (ps_for PassesOwn.never rfl (pi_list (pv 2)) (pg_name (i := 4) sc_lowered.nd rfl (.inl rfl))
        (pss_one (ps_if (pt_cmp (pc_nin (w := w) rfl hn (pe_fld (pv 4) rfl) (pv 0)))
          (pss_cons (ps_set (i := 5) sc_lowered.nd rfl (.inl rfl) (pe_op op_add (pe_fld (pv 4) rfl) (pe_nget (w := w) rfl hn (pv 0) (pe_fld (pv 4) rfl) (fun _ _ => rfl))))
          (pss_one (ps_if (PW.pt (pw_or (pt_cmpR op_isN (pv 3) pe_non (nomark _)) (pw_or1 (pt_cmpR op_lt (pv 5) (pv 3) (nomark _)))))
            (pss_one (ps_set (i := 3) sc_lowered.nd rfl (.inl rfl) (pv 5)))
            pss_nil)))
          pss_nil)))
      (pss_one (ps_ret (pv 3))))), ?_⟩
    have g0 := ev_nget1 (σ := [some (.ref d), some (.ref b), some (.ref p), none, none, none]) (td := tVar 0) (ty := tVar 1) (ev_var rfl) (ev_var rfl) hd hk.in_ hb
    rw [atN_map, getD_ov] at g0
    refine q_asg g0 fun H1 e1 => ?_
    refine q_forLn (ev_var rfl) (SqL.of (e1 _ _ hp)) (fun i σ H' => (∃ m v4 v5, σ = [some (.ref d), some (.ref b), some (.ref p), some (ov m), v4, v5] ∧ low (atN gs) (atN gs k) L = low (atN gs) m (L.drop i)) ∧ Ex H H') (fun H2 e2 => ⟨⟨_, none, none, rfl, rfl⟩, e1.trans e2⟩) (fun i σ' H' _ q => SqL.of (q.2 _ _ hp)) ?_ ?_
    · rintro i _ σ' H' hi ⟨⟨m, v4, v5, rfl, el⟩, e2⟩
      rw [List.getElem?_map] at hi
      obtain ⟨q, hq, rfl⟩ := Option.map_eq_some_iff.1 hi
      obtain ⟨x, hx, dx, c2, b2, s1, s2, s3⟩ := hs.get hq
      rw [drop_at hx, SM.low_cons] at el
      have t := ev_nin (w := w) (σ := [some (.ref d), some (.ref b), some (.ref p), some (ov m), some (.ref q), v5]) (ty := tFld K (tVar 4) "after") (td := tVar 0) (ev_fld (ev_var rfl) (e2 _ _ s1) T.cl_Step T.n_Step_after stF_after) (ev_var rfl) (ex_rd e2 hd) ((hk.kp (.ex e2)).in_) (s3.ex e2)
      rw [atN_map, Option.isSome_map] at t
      refine s_when (et_B t) (fun hb2 H3 e3 => ?_) (fun hb2 H3 e3 => ?_)
      · obtain ⟨n, hn2⟩ := Option.isSome_iff_exists.1 hb2
        rw [hn2] at el
        have e23 := e2.trans e3
        refine q_asg (v := .int ((x.2.1 + n : Nat) : Int)) (ev_is (ev_op (ev_fld (ev_var rfl) (e23 _ _ s1) T.cl_Step T.n_Step_weight stF_weight) (ev_nget (v := iv n) (ev_var rfl) (ev_fld (ev_var rfl) (e23 _ _ s1) T.cl_Step T.n_Step_after stF_after) (ex_rd e23 hd) ((hk.kp (.ex e23)).in_) (s3.ex e23) (by rw [atN_map, hn2]; rfl)) rv_I0) (by rw [Int.natCast_add])) fun H4 e4 => ?_
        have e24 := e23.trans e4
        cases m with
        | none =>
          refine s_when (b := true) (et_is (et_or (a := true) (b := false) (et_test (ev_op (ev_var rfl) ev_c rv_isN)) (fun z => nomatch z)) rfl) (fun _ H5 e5 => ?_) (fun z => nomatch z)
          exact s_asg (ev_var rfl) fun H6 e6 => ⟨⟨some (x.2.1 + n), _, _, rfl, el⟩, e24.trans (e5.trans e6)⟩
        | some c =>
          refine s_when (et_or (a := false) (et_test (ev_op (ev_var rfl) ev_c rv_isN)) (fun _ => et_test (ev_op (ev_var rfl) (ev_var rfl) rv_I0))) (fun hb3 H5 e5 => ?_) (fun hb3 H5 e5 => ?_)
          · have lt : x.2.1 + n < c := by simp at hb3; omega
            refine s_asg (ev_var rfl) fun H6 e6 => ⟨⟨some (x.2.1 + n), _, _, rfl, ?_⟩, e24.trans (e5.trans e6)⟩
            rw [el]
            show low _ (some (min c (x.2.1 + n))) _ = _
            rw [Nat.min_eq_right (by omega)]
          · have ge : ¬ x.2.1 + n < c := by simp at hb3; omega
            refine ⟨⟨some c, _, _, rfl, ?_⟩, e24.trans e5⟩
            rw [el]
            show low _ (some (min c (x.2.1 + n))) _ = _
            rw [Nat.min_eq_left (by omega)]
      · have nn : atN gs x.2.2 = none := by
          cases q : atN gs x.2.2 with
          | none => rfl
          | some n => rw [q] at hb2; cases hb2
        rw [nn] at el
        refine ⟨⟨m, _, _, rfl, ?_⟩, e2.trans e3⟩
        rw [el]
        show low _ (Uw04.sooner m none) _ = _
        rw [SM.sooner_none]
    · rintro σ' H' ⟨⟨m, v4, v5, rfl, el⟩, e2⟩
      rw [List.length_map, hs.length, List.drop_length] at el
      have el2 : low (atN gs) (atN gs k) L = m := el
      rw [el2] at kk
      exact s_ret (ev_var rfl) fun H4 e4 => kk.go (e2.trans e4)
end
end SC

namespace SC
open PySem PySem.Spec PyProof.Rows L2 Evl
open SM (toZ Sk Sp3 onOf stepsOf stk Fine Good low Lo CanK Pass todo)
/-- a dict of weights at d -/
def WtAt (w : World) (H : Hp) (d : Addr) (gs : Gs) : Prop := H d = some (DN w d (gs.map (mapN iv))) ∧ KeysG H gs
theorem WtAt.ex {w : World} {H H' : Hp} {d : Addr} {gs : Gs} (h : WtAt w H d gs) (e : Ex H H') : WtAt w H' d gs := ⟨e _ _ h.1, h.2.kp (.ex e)⟩
/-- another dict changes -/
theorem WtAt.other {w : World} {H : Hp} {d d' : Addr} {gs : Gs} {es : List (Sk × Addr × V)} {o : HO} (h : WtAt w H d gs) (hd : H d' = some (DN w d' es)) (ne : d ≠ d') : WtAt w (upd H d' o) d gs := ⟨(upd_ne ne).trans h.1, h.2.kp (.dict hd)⟩
/-- a key's weight is put -/
theorem WtAt.put {w : World} {H : Hp} {d b : Addr} {gs : Gs} {k : Sk} {n : Nat} (h : WtAt w H d gs) (hb : StandAt H b k) : WtAt w (upd H d (DN w d (putN (gs.map (mapN iv)) k b (iv n)))) d (putN gs k b n) := by
  refine ⟨?_, (h.2.put hb).kp (.dict h.1)⟩
  rw [upd_same, putN_map]
theorem keys_len {β : Type} (es : List (Sk × Addr × β)) : (keysN es).length = es.length := List.length_map ..
theorem keys_few {h : Uw04.House} {β γ : Type} {es : List (Sk × Addr × β)} {gs : List (Sk × Addr × γ)} (h4 : h.heavy.length ≤ 4) (ra : h.roomLeft ≤ 3) (rb : h.roomRight ≤ 3) (f : ∀ k ∈ keysN es, Fine h (stk h.heavy.length k)) (nd : (keysN gs).Nodup) (sub : ∀ k ∈ keysN gs, k ∈ keysN es) : gs.length ≤ 500 := by
  have := SM.keys_le nd fun k hk => f k (sub k hk)
  rw [keys_len] at this
  exact Nat.le_trans this (SM.stands_le h4 ra rb)
theorem take_keys {β : Type} {es : List (Sk × Addr × β)} (nd : (keysN es).Nodup) {i : Nat} {x : Sk × Addr × β} (hx : es[i]? = some x) : x.1 ∉ keysN (es.take i) := by
  intro hm
  have hk : (keysN es)[i]? = some x.1 := by
    unfold keysN
    rw [List.getElem?_map, hx]
    rfl
  have e : keysN (es.take i) = (keysN es).take i := List.map_take ..
  rw [e] at hm
  obtain ⟨j, hj, ej⟩ := List.getElem_of_mem hm
  rw [List.getElem_take] at ej
  obtain ⟨hi, ei⟩ := List.getElem?_eq_some_iff.1 hk
  rw [List.length_take] at hj
  have := (List.getElem_inj (h₀ := by omega) (h₁ := hi) nd).1 (ej.trans ei.symm)
  omega
theorem Fr.mut {H H' : Hp} {c p : Addr} {o : HO} (f : Fr H H' c) (h : H p = none) : Fr H (L2.upd H' p o) c := fun a u q n => by
  rw [upd_ne (ne_of_none q h)]
  exact f _ _ q n
/-- what the search for one scene is given -/
structure Given (w : World) (C : Addr) (H : Hp) (h : Uw04.House) (s0 : Sk) (ds : Addr) (es : List (Sk × Addr × V)) : Prop where
  hd : H ds = some (DN w ds es)
  si : StepsIn C H h es
  nd : (keysN es).Nodup
  gd : Good h s0 (keysN es)
  so : SM.Sound h
  h4 : h.heavy.length ≤ 4
  ra : h.roomLeft ≤ 3
  rb : h.roomRight ≤ 3
theorem Given.ex {w : World} {C : Addr} {H H' : Hp} {h : Uw04.House} {s0 : Sk} {ds : Addr} {es : List (Sk × Addr × V)} (g : Given w C H h s0 ds es) (e : Ex H H') : Given w C H' h s0 ds es := ⟨e _ _ g.hd, g.si.ex e, g.nd, g.gd, g.so, g.h4, g.ra, g.rb⟩
section
variable {P : Program} {w : World} {K : PySem.W.Frag} {mg : Str → Option Value} {base : Heap}
def spWts (w : World) (C : Addr) : Sp := fun vs H Q _ => ∃ (ds de : Addr) (h : Uw04.House) (s0 : Sk) (es : List (Sk × Addr × V)) (ge : Gs) (c : List Nat) (l : List (List Nat)), vs = [.ref ds, .ref de] ∧ Given w C H h s0 ds es ∧ WtAt w H de ge ∧ ds ≠ de ∧ (keysN ge).Nodup ∧ (∀ k ∈ keysN ge, k ∈ keysN es) ∧
  (∀ k ∈ keysN es, atN ge k = SM.base h c l (stk h.heavy.length k)) ∧
  ∀ d gb H2, H d = none → Ex H H2 → WtAt w H2 d gb → (keysN gb).Nodup → (∀ k ∈ keysN gb, k ∈ keysN es) → (∀ k ∈ keysN es, atN gb k = SM.val h (c :: l) (stk h.heavy.length k)) → Q (.ref d) H2
theorem ok_weights_to (T : Tx K mg) : FnOk P w K mg base CX0 2 T.f_weights_to T.d_weights_to ["steps", "ends"] (spWts w T.C_Step) := by
  refine T.h_weights_to.F.ok sc_weights_to (fun vs H Q E h => ?_) (fun cdv A outer s H vs Q E hr h => ?_)
  · obtain ⟨ds, de, h, s0, es, ge, c, l, rfl, _⟩ := h
    rfl
  · obtain ⟨ds, de, h, s0, es, ge, c, l, rfl, gv, we, ne, nde, sube, bs, kk⟩ := h
    have hn := hr.units
    have hr_lowered : Room 1 _ := hr
    refine ⟨_, (pss_cons (ps_set (i := 2) sc_weights_to.nd rfl (.inl rfl) (pe_nnew (w := w) rfl))
      (pss_cons (ps_lock (ps_for PassesOwn.never rfl (pi_nkeys (w := w) rfl (pv 1)) (pg_name (i := 3) sc_weights_to.nd rfl (.inl rfl))
        (pss_one (ps_nput (w := w) rfl hn (pv 2) (pv 3) (pe_nget (w := w) rfl hn (pv 1) (pv 3) (fun _ _ => rfl)) rfl))))
      (pss_cons (ps_set (i := 4) sc_weights_to.nd rfl (.inl rfl) pe_bl)
      (pss_cons (ps_while PassesOwn.never (pt_val (pv 4))
        (pss_cons (ps_set (i := 4) sc_weights_to.nd rfl (.inl rfl) pe_bl)
        (pss_one (ps_lock (ps_for PassesOwn.never rfl (pi_nkeys (w := w) rfl (pv 0)) (pg_name (i := 3) sc_weights_to.nd rfl (.inl rfl))
          (pss_cons (ps_set (i := 5) sc_weights_to.nd rfl (.inl rfl) (pe_call (ok_lowered T) hr_lowered rfl T.h_lowered.g T.h_lowered.F.kp T.h_lowered.b .nil pass0 (pa_cons (pv 2) (pa_cons (pv 3) (pa_cons (pe_nget (w := w) rfl hn (pv 0) (pv 3) (fun _ _ => rfl)) pa_nil)))))
          (pss_one (ps_if (pt_cmpR op_ne (pv 5) (pe_nget1 (w := w) rfl hn (pv 2) (pv 3) ⟨rfl, rfl, rfl, rfl⟩) (nomark _))
            (pss_cons (ps_nput (w := w) rfl hn (pv 2) (pv 3) (pv 5) rfl)
            (pss_one (ps_set (i := 4) sc_weights_to.nd rfl (.inl rfl) pe_bl)))
            pss_nil))))))))
      (pss_one (ps_ret (pv 2))))))), ?_⟩
    have few : ∀ gs : Gs, (keysN gs).Nodup → (∀ k ∈ keysN gs, k ∈ keysN es) → gs.length ≤ 500 := fun gs n s => keys_few gv.h4 gv.ra gv.rb gv.gd.fine n s
    -- best = {}
    intro d nd
    have ed : Ex H (upd H d (DN w d [])) := Ex.new nd
    have dne : d ≠ de := (ne_of_none we.1 nd).symm
    have dns : d ≠ ds := (ne_of_none gv.hd nd).symm
    have we1 := we.ex ed
    -- the ends are copied
    refine q_forN (es := ge.map (mapN iv)) we1.1 (fun od => ev_var rfl) (fun od i σ H' => (∃ v3, σ = [some (.ref ds), some (.ref de), some (.ref d), v3, none, none]) ∧ Fr H H' de ∧ H' de = some (.frz od (DN w de (ge.map (mapN iv)))) ∧ WtAt w H' d (ge.take i)) ?_ (fun od i σ' H' q => q.2.2.1) ?_ ?_
    · intro od H1 e1
      refine ⟨⟨none, rfl⟩, (Fr.ex ed).trans (Fr.upd.trans (Fr.ex e1)), e1 _ _ upd_same, e1 _ _ ((upd_ne dne).trans upd_same), (fun x hx => nomatch hx)⟩
    · rintro od i y σ' H' R B hy ⟨⟨v3, rfl⟩, f1, hde, wd⟩
      rw [List.getElem?_map] at hy
      obtain ⟨x, hx, rfl⟩ := Option.map_eq_some_iff.1 hy
      have hkx : StandAt H' x.2.1 x.1 := (we.2 x (List.mem_of_getElem? hx)).kp (Kp.fr f1 we.1)
      have ka : KeysG H' ge := we.2.kp (Kp.fr f1 we.1)
      have l1 : (ge.take i).length ≤ 500 := by
        have := few ge nde sube
        rw [List.length_take]
        omega
      have ax : atN (ge.map (mapN iv)) x.1 = some (iv x.2.2) := by rw [atN_map, atN_get nde hx]; rfl
      refine s_nput (v := iv x.2.2) (ev_nget (ev_var rfl) (ev_var rfl) (.inr ⟨od, hde⟩) ka.in_ hkx ax) (ev_var rfl) (ev_var rfl) wd.1 wd.2.in_ hkx (by rw [List.length_map]; omega) fun H2 e2 => ?_
      refine ⟨⟨_, rfl⟩, (f1.trans (Fr.ex e2)).mut nd, ?_, ?_⟩
      · rw [upd_ne (fun z => dne z.symm)]
        exact e2 _ _ hde
      · have := (wd.ex e2).put (n := x.2.2) (hkx.ex e2)
        rw [put_new (take_keys nde hx)] at this
        rw [take_more hx]
        exact this
    rintro od σ1 H1 ⟨⟨v3, rfl⟩, f1, hde, wd⟩
    rw [List.length_map, List.take_length] at wd
    have e1 : Ex H (upd H1 de (DN w de (ge.map (mapN iv)))) := ex_unlock f1 we.1
    have wd1 : WtAt w (upd H1 de (DN w de (ge.map (mapN iv)))) d ge := ⟨(upd_ne dne).trans wd.1, wd.2.kp (.frz hde)⟩
    generalize upd H1 de (DN w de (ge.map (mapN iv))) = H2 at e1 wd1 ⊢
    refine q_asg ev_c fun H3 e3 => ?_
    -- looks, till none changes anything
    refine q_while (fun m σ H' => ∃ (gs : Gs) (c1 : Bool) (v3 v5 : Option V), σ = [some (.ref ds), some (.ref de), some (.ref d), v3, some (.bl c1), v5] ∧ Ex H H' ∧ WtAt w H' d gs ∧ (keysN gs).Nodup ∧ (∀ k ∈ keysN gs, k ∈ keysN es) ∧
        (∀ k ∈ keysN es, ∀ n, atN gs k = some n → CanK h (SM.base h c l) k n) ∧ (∀ k ∈ keysN es, ∀ n, Lo (SM.base h c l (stk h.heavy.length k)) n → Lo (atN gs k) n) ∧
        ((c1 = true ∧ m = todo h (SM.base h c l) (keysN es) (atN gs) + 1) ∨ (c1 = false ∧ m = 0 ∧ ∀ k ∈ keysN es, atN gs k = SM.val h (c :: l) (stk h.heavy.length k))))
      (todo h (SM.base h c l) (keysN es) (atN ge) + 1)
      ⟨ge, true, v3, none, rfl, e1.trans e3, wd1.ex e3, nde, sube, fun k hk n q => .stop (by rw [← bs k hk, q]; exact SM.lo_some.2 (Nat.le_refl _)), fun k hk n q => by rw [bs k hk]; exact q, .inl ⟨rfl, rfl⟩⟩ ?_
    rintro m σ H' ⟨gs, c1, v3', v5, rfl, e4, wg, ndg, subg, tru, bas, mm⟩
    refine ⟨c1, et_B (ev_var rfl), fun hb H5 e5 => ?_, fun hb H5 e5 => ?_⟩
    · subst hb
      have em : m = todo h (SM.base h c l) (keysN es) (atN gs) + 1 := by
        rcases mm with q | q
        · exact q.2
        · cases q.1
      refine ⟨fun σ2 H3 => ∃ m', m' < m ∧ ∃ (gs : Gs) (c1 : Bool) (v3 v5 : Option V), σ2 = [some (.ref ds), some (.ref de), some (.ref d), v3, some (.bl c1), v5] ∧ Ex H H3 ∧ WtAt w H3 d gs ∧ (keysN gs).Nodup ∧ (∀ k ∈ keysN gs, k ∈ keysN es) ∧
        (∀ k ∈ keysN es, ∀ n, atN gs k = some n → CanK h (SM.base h c l) k n) ∧ (∀ k ∈ keysN es, ∀ n, Lo (SM.base h c l (stk h.heavy.length k)) n → Lo (atN gs k) n) ∧
        ((c1 = true ∧ m' = todo h (SM.base h c l) (keysN es) (atN gs) + 1) ∨ (c1 = false ∧ m' = 0 ∧ ∀ k ∈ keysN es, atN gs k = SM.val h (c :: l) (stk h.heavy.length k))), fun σ2 H3 q => q, ?_⟩
      refine q_asg ev_c fun H6 e6 => ?_
      have e46 := e4.trans (e5.trans e6)
      have gv6 := gv.ex e46
      have wg6 := wg.ex (e5.trans e6)
      refine s_forN (es := es) gv6.hd (fun od => ev_var rfl) (fun od i σ H' => ∃ (gs' : Gs) (c1 : Bool) (v3 v5 : Option V), σ = [some (.ref ds), some (.ref de), some (.ref d), v3, some (.bl c1), v5] ∧ Fr H H' ds ∧ H' ds = some (.frz od (DN w ds es)) ∧ WtAt w H' d gs' ∧ (keysN gs').Nodup ∧ (∀ k ∈ keysN gs', k ∈ keysN es) ∧ Pass h (SM.base h c l) (keysN es) (atN gs) i (atN gs') c1) ?_ (fun od i σ' H' q => by obtain ⟨_, _, _, _, _, _, q, _⟩ := q; exact q) ?_ ?_
      · intro od H7 e7
        refine ⟨gs, false, v3', v5, rfl, (Fr.ex e46).trans (Fr.upd.trans (Fr.ex e7)), e7 _ _ upd_same, (wg6.other gv6.hd dns).ex e7, ndg, subg, Pass.start tru⟩
      · rintro od i y σ' H7 R B hy ⟨gs', c2, v3, v5, rfl, f7, hds, w7, nd7, sub7, pass⟩
        have hm := List.mem_of_getElem? hy
        have si7 : StepsIn T.C_Step H7 h es := gv.si.fr gv.hd f7
        obtain ⟨hky, p, ps, ep, hp, hs⟩ := si7 y hm
        have hki : (keysN es)[i]? = some y.1 := by
          unfold keysN
          rw [List.getElem?_map, hy]
          rfl
        have hkm : y.1 ∈ keysN es := List.mem_of_getElem? hki
        have ay : atN es y.1 = some (.ref p) := by rw [atN_get gv.nd hy, ep]
        generalize hlow : low (atN gs') (atN gs' y.1) (stepsOf h y.1) = lv
        refine q_asg (v := ov lv) (ev_call (ea_cons (ev_var rfl) (ea_cons (ev_var rfl) (ea_cons (ev_nget (ev_var rfl) (ev_var rfl) (.inr ⟨od, hds⟩) si7.keys hky ay) ea_nil))) ?_) fun H8 e8 => ?_
        · intro H8 e8 Q q E
          refine ⟨d, y.2.1, p, gs', y.1, ps, stepsOf h y.1, rfl, .inl (e8 _ _ w7.1), w7.2.kp (.ex e8), hky.ex e8, e8 _ _ hp, hs.kp (.ex e8), ?_⟩
          rw [hlow]
          exact q
        have w8 := w7.ex e8
        have g0 := ev_nget1 (w := w) (σ := [some (.ref ds), some (.ref de), some (.ref d), some (.ref y.2.1), some (.bl c2), some (ov lv)]) (td := tVar 2) (ty := tVar 3) (ev_var rfl) (ev_var rfl) (.inl w8.1) w8.2.in_ (hky.ex e8)
        rw [atN_map, getD_ov] at g0
        refine s_when (et_test (ev_op (ev_var rfl) g0 (rv_ne (ov_scal _ _)))) (fun hb2 H9 e9 => ?_) (fun hb2 H9 e9 => ?_)
        · have neq : lv ≠ atN gs' y.1 := fun z => by
            rw [z] at hb2
            simp at hb2
          obtain ⟨n, en⟩ : ∃ n, lv = some n := by
            cases lv with
            | some n => exact ⟨n, rfl⟩
            | none =>
              exfalso
              cases q : atN gs' y.1 with
              | none => exact neq q.symm
              | some n =>
                have : Lo (low (atN gs') (atN gs' y.1) (stepsOf h y.1)) n := SM.lo_low.2 (.inl (by rw [q]; exact SM.lo_some.2 (Nat.le_refl _)))
                rw [hlow] at this
                exact SM.lo_none this
          subst en
          have w9 := w8.ex e9
          refine q_nput (v := iv n) (ev_var rfl) (ev_var rfl) (ev_var rfl) w9.1 w9.2.in_ ((hky.ex e8).ex e9) (by rw [List.length_map]; have := few gs' nd7 sub7; omega) fun H10 e10 => ?_
          have w10 := w9.ex e10
          refine s_asg ev_c fun H11 e11 => ⟨putN gs' y.1 y.2.1 n, true, _, _, rfl, ?_, ?_, ?_, keys_nodup_put nd7, keys_put_sub sub7 hkm, ?_⟩
          · exact ((f7.trans (Fr.ex (e8.trans (e9.trans e10)))).mut nd).trans (Fr.ex e11)
          · refine e11 _ _ ?_
            rw [upd_ne dns.symm]
            exact e10 _ _ (e9 _ _ (e8 _ _ hds))
          · exact (w10.put (((hky.ex e8).ex e9).ex e10)).ex e11
          · have q := pass.change gv.gd hki (by rw [hlow]; exact neq)
            rw [hlow] at q
            have ef : atN (putN gs' y.1 y.2.1 n) = SM.setK (atN gs') y.1 (some n) := by
              funext j
              rw [atN_putN]
              rfl
            rw [ef]
            exact q
        · have eq : lv = atN gs' y.1 := ov_inj (by simpa using hb2)
          refine ⟨gs', c2, _, _, rfl, f7.trans (Fr.ex (e8.trans e9)), e9 _ _ (e8 _ _ hds), w8.ex e9, nd7, sub7, pass.same hki (hlow.trans eq)⟩
      · rintro od σ' H7 ⟨gs', c2, v3, v5, rfl, f7, hds, w7, nd7, sub7, pass⟩
        rw [← keys_len] at pass
        have e7 : Ex H (upd H7 ds (DN w ds es)) := ex_unlock f7 gv.hd
        have w8 : WtAt w (upd H7 ds (DN w ds es)) d gs' := ⟨(upd_ne dns).trans w7.1, w7.2.kp (.frz hds)⟩
        have bas7 : ∀ k ∈ keysN es, ∀ n, Lo (SM.base h c l (stk h.heavy.length k)) n → Lo (atN gs' k) n := fun k hk n q => pass.down k n (bas k hk n q)
        cases c2 with
        | true =>
          have lt := pass.fewer gv.so gv.gd bas
          exact ⟨_, by omega, gs', true, _, _, rfl, e7, w8, nd7, sub7, pass.true_, bas7, .inl ⟨rfl, rfl⟩⟩
        | false => exact ⟨0, by omega, gs', false, _, _, rfl, e7, w8, nd7, sub7, pass.true_, bas7, .inr ⟨rfl, rfl, pass.val gv.so gv.gd bas⟩⟩
    · subst hb
      have ev : ∀ k ∈ keysN es, atN gs k = SM.val h (c :: l) (stk h.heavy.length k) := by
        rcases mm with q | q
        · cases q.1
        · exact q.2.2
      exact s_ret (ev_var rfl) fun H6 e6 => kk d gs H6 nd (e4.trans (e5.trans e6)) (wg.ex (e5.trans e6)) ndg subg ev
end
end SC

namespace SC
open PySem PySem.Spec PyProof.Rows L2 Evl
open SM (toZ Sk Sp3 onOf stepsOf stk Fine Good low Lo CanK Pass todo)
section
variable {K : PySem.W.Frag} {σ : L2.St} {H : Hp} {ta te tl : TE} {D : Ends} {tz tu : TS}
/-- for x in reversed(xs) -/
theorem q_forRev {t1 : TA} {a : Addr} {xs : List V} {j : Nat} (h : EvA t1 σ H [.ref a]) (hx : SqL K H a xs) (Pv : Nat → L2.St → Hp → Prop) (h0 : ∀ H1, Ex H H1 → Pv 0 σ H1) (hl : ∀ i σ' H', Pv i σ' H' → SqL K H' a xs)
    (hs : ∀ i x σ' H', i < xs.length → xs[xs.length - 1 - i]? = some x → Pv i σ' H' → tu { D with nx := Pv (i + 1), ct := Pv (i + 1), bk := tz D } (σ'.set j (some x)) H') (hd : ∀ σ' H', Pv xs.length σ' H' → tz D σ' H') : tSeq (tFor (iRev K t1) (gName j) tu) tz D σ H := by
  refine h H (Ex.refl H) _ fun H1 e1 => ⟨a, xs, rfl, ex_l e1 hx, fun i m σ' H' => m = xs.length - i ∧ i ≤ xs.length ∧ Pv i σ' H', ⟨xs.length, by simp, Nat.zero_le _, h0 H1 e1⟩, ?_⟩
  rintro i m σ' H' ⟨rfl, hi, p⟩
  have q := hl i σ' H' p
  by_cases lt : i < xs.length
  · refine .inr ⟨⟨lt, xs, xs[xs.length - 1 - i], q, List.getElem?_eq_getElem _⟩, Pv (i + 1), fun σ2 H2 p2 => ⟨xs.length - (i + 1), by omega, rfl, lt, p2⟩, ?_⟩
    rintro x H2 ⟨rfl, y⟩
    exact hs i x σ' H2 lt (y xs q) p
  · have e : i = xs.length := by omega
    subst e
    exact .inl ⟨Nat.le_refl _, hd σ' H' p⟩
/-- x = f(..), by f's promise -/
theorem q_callA {sp : Sp} {dvs vs : List V} {E : XK} {t1 : TA} {i : Nat} (h : EvA t1 σ H vs) (k : ∀ H1, Ex H H1 → sp (vs ++ dvs) H1 (fun v H2 => tz D (σ.set i (some v)) H2) E) : tSeq (tAsg (tCall sp dvs E t1) (gName i)) tz D σ H := h H (Ex.refl H) _ k
/-- xs.reverse() -/
theorem q_rev {l : Addr} {xs : List V} (hl : H l = some (.lst xs)) (ha : Ev ta σ H (.ref l)) (k : ∀ H1, Ex H H1 → tz D σ (upd H1 l (.lst xs.reverse))) : tSeq (tDrop (tBM K "list" rReverse ta tNil)) tz D σ H :=
  ha H (Ex.refl H) _ fun H1 e1 => ⟨Or.inl ⟨rfl, xs, sq_of (e1 l _ hl)⟩, l, xs, rfl, rfl, e1 l _ hl, k H1 e1⟩
end
theorem Rows2.get {H : Hp} {ps : List Addr} {cs : List (List Nat)} (h : Rows2 H ps cs) : ∀ {i : Nat} {p : Addr}, ps[i]? = Option.some p → ∃ c, cs[i]? = Option.some c ∧ H p = Option.some (.lst (nv c)) := by
  induction h with
  | nil => intro i p e; simp at e
  | cons a _ ih =>
    intro i p e
    cases i with
    | zero =>
      cases e
      exact ⟨_, rfl, a⟩
    | succ j => exact ih e
/-- the dicts of weights, scene by scene, and one behind the last -/
inductive Tabs (w : World) (H : Hp) (h : Uw04.House) (ks : List Sk) : List Addr → List (List Nat) → Prop
  | last {d gs} : WtAt w H d gs → (∀ k ∈ ks, atN gs k = SM.val h [] (stk h.heavy.length k)) → Tabs w H h ks [d] []
  | cons {d gs ws c l} : WtAt w H d gs → (∀ k ∈ ks, atN gs k = SM.val h (c :: l) (stk h.heavy.length k)) → Tabs w H h ks ws l → Tabs w H h ks (d :: ws) (c :: l)
theorem Tabs.ex {w : World} {H H' : Hp} {h : Uw04.House} {ks : List Sk} {ws : List Addr} {l : List (List Nat)} (t : Tabs w H h ks ws l) (e : Ex H H') : Tabs w H' h ks ws l := by
  induction t with
  | last a b => exact .last (a.ex e) b
  | cons a b _ ih => exact .cons (a.ex e) b ih
theorem WtAt.lst {w : World} {H : Hp} {d l : Addr} {gs : Gs} {xs : List V} {o : HO} (h : WtAt w H d gs) (hl : H l = some (.lst xs)) : WtAt w (upd H l o) d gs :=
  ⟨(upd_ne (fun z => by have := h.1; rw [z, hl] at this; cases this)).trans h.1, h.2.kp (.lst hl)⟩
theorem Tabs.lst {w : World} {H : Hp} {h : Uw04.House} {ks : List Sk} {ws : List Addr} {l : List (List Nat)} {a : Addr} {xs : List V} {o : HO} (t : Tabs w H h ks ws l) (hl : H a = some (.lst xs)) : Tabs w (upd H a o) h ks ws l := by
  induction t with
  | last a b => exact .last (a.lst hl) b
  | cons a b _ ih => exact .cons (a.lst hl) b ih
theorem Tabs.length {w : World} {H : Hp} {h : Uw04.House} {ks : List Sk} {ws : List Addr} {l : List (List Nat)} (t : Tabs w H h ks ws l) : ws.length = l.length + 1 := by
  induction t with
  | last _ _ => rfl
  | cons _ _ _ ih => exact congrArg (· + 1) ih
def z0 (x : Sk × Addr × V) : Sk × Addr × Nat := (x.1, x.2.1, 0)
theorem z0_keys (es : List (Sk × Addr × V)) : keysN (es.map z0) = keysN es := by
  unfold keysN
  rw [List.map_map]
  rfl
theorem z0_at (es : List (Sk × Addr × V)) {k : Sk} (h : k ∈ keysN es) : atN (es.map z0) k = some 0 := by
  have q := atN_isSome.2 (show k ∈ keysN (es.map z0) by rw [z0_keys]; exact h)
  obtain ⟨v, hv⟩ := Option.isSome_iff_exists.1 q
  obtain ⟨a, ha⟩ := atN_mem hv
  obtain ⟨x, _, e⟩ := List.mem_map.1 ha
  have e2 : 0 = v := congrArg (fun y => y.2.2) e
  rw [hv, ← e2]
def onIs (n : Nat) (c : List Nat) (k : Sk) : Bool := decide (onOf n k.1 k.2 = c)
theorem atN_filter {β : Type} (p : Sk → Bool) (k : Sk) : ∀ es : List (Sk × Addr × β), atN (es.filter fun x => p x.1) k = if p k = true then atN es k else none
  | [] => by
    show none = _
    split <;> rfl
  | x :: es => by
    have ih := atN_filter p k es
    rw [List.filter_cons, atN_cons]
    by_cases c : x.1 = k
    · subst c
      by_cases q : p x.1 = true
      · rw [if_pos q, if_pos q, atN_cons, if_pos rfl, if_pos rfl]
      · rw [if_neg q, if_neg q]
        rw [if_neg q] at ih
        exact ih
    · rw [if_neg c]
      by_cases q : p x.1 = true
      · rw [if_pos q, atN_cons, if_neg c]
        exact ih
      · rw [if_neg q]
        exact ih
theorem keys_filter {β : Type} (p : Sk → Bool) (es : List (Sk × Addr × β)) : keysN (es.filter fun x => p x.1) = (keysN es).filter p := by
  unfold keysN
  rw [List.filter_map]
  rfl
theorem base_onIs (h : Uw04.House) (c : List Nat) (l : List (List Nat)) (k : Sk) : SM.base h c l (stk h.heavy.length k) = if onIs h.heavy.length c k = true then SM.val h l (stk h.heavy.length k) else none := by
  unfold SM.base Uw04.fits onIs
  have e : ((stk h.heavy.length k).on == c) = decide (onOf h.heavy.length k.1 k.2 = c) := by
    rw [Bool.eq_iff_iff, beq_iff_eq, decide_eq_true_eq]
    exact Iff.rfl
  rw [e]
section
variable {P : Program} {w : World} {K : PySem.W.Frag} {mg : Str → Option Value} {base : Heap}
def spWbs (w : World) (CP CS : Addr) : Sp := fun vs H Q _ => ∃ (p dx z ds : Addr) (fs : List (Str × V)) (ss : List Addr) (h : Uw04.House) (s0 : Sk) (es : List (Sk × Addr × V)), vs = [.ref p] ∧ H p = some (.ins CP dx fs) ∧ fs.lookup ("many" : Str) = some (.int h.heavy.length) ∧ fs.lookup ("scenes" : Str) = some (.ref z) ∧ fs.lookup ("steps" : Str) = some (.ref ds) ∧
  H z = some (.lst (ss.map V.ref)) ∧ Rows2 H ss h.scenes ∧ h.scenes.length ≤ 4 ∧ Given w CS H h s0 ds es ∧
  ∀ wl ws H2, H wl = none → Ex H H2 → H2 wl = some (.lst (ws.map V.ref)) → Tabs w H2 h (keysN es) ws h.scenes → Q (.ref wl) H2
theorem ok_Plan_weights_by_scene (T : Tx K mg) : FnOk P w K mg base CX0 3 T.f_Plan_weights_by_scene T.d_Plan_weights_by_scene ["self"] (spWbs w T.C_Plan T.C_Step) := by
  refine T.h_Plan_weights_by_scene.F.ok sc_Plan_weights_by_scene (fun vs H Q E h => ?_) (fun cdv A outer s H vs Q E hr h => ?_)
  · obtain ⟨p, dx, z, ds, fs, ss, h, s0, es, rfl, _⟩ := h
    rfl
  · obtain ⟨p, dx, z, ds, fs, ss, h, s0, es, rfl, hp, l1, l2, l3, hz, rows, few4, gv, kk⟩ := h
    have hn := hr.units
    have hr_pieces_on : Room 1 _ := hr.mono (by decide)
    have hr_weights_to : Room 2 _ := hr
    refine ⟨_, (pss_cons (ps_set (i := 1) sc_Plan_weights_by_scene.nd rfl (.inl rfl) (pe_nnew (w := w) rfl))
      (pss_cons (ps_lock (ps_for PassesOwn.never rfl (pi_nkeys (w := w) rfl (pe_fld (pv 0) rfl)) (pg_name (i := 2) sc_Plan_weights_by_scene.nd rfl (.inl rfl))
        (pss_one (ps_nput (w := w) rfl hn (pv 1) (pv 2) pe_int rfl))))
      (pss_cons (ps_set (i := 3) sc_Plan_weights_by_scene.nd rfl (.inl rfl) (pe_lst (pa_cons (pv 1) pa_nil)))
      (pss_cons (ps_for PassesOwn.never rfl (pi_reversed (by rfl) T.b_reversed (pa_cons (pe_fld (pv 0) rfl) pa_nil)) (pg_name (i := 4) sc_Plan_weights_by_scene.nd rfl (.inl rfl))
        (pss_cons (ps_set (i := 5) sc_Plan_weights_by_scene.nd rfl (.inl rfl) (pe_nnew (w := w) rfl))
        (pss_cons (ps_lock (ps_for PassesOwn.never rfl (pi_nkeys (w := w) rfl (pv 1)) (pg_name (i := 2) sc_Plan_weights_by_scene.nd rfl (.inl rfl))
          (pss_one (ps_if (pt_cmpR (op_eqD hn) (pe_call (ok_pieces_on T) hr_pieces_on rfl T.h_pieces_on.g T.h_pieces_on.F.kp T.h_pieces_on.b .nil pass0 (pa_cons (pe_fld (pv 0) rfl) (pa_cons (pv 2) pa_nil))) (pv 4) (nomark _))
            (pss_one (ps_nput (w := w) rfl hn (pv 5) (pv 2) (pe_nget (w := w) rfl hn (pv 1) (pv 2) (fun _ _ => rfl)) rfl))
            pss_nil))))
        (pss_cons (ps_set (i := 1) sc_Plan_weights_by_scene.nd rfl (.inl rfl) (pe_call (ok_weights_to T) hr_weights_to rfl T.h_weights_to.g T.h_weights_to.F.kp T.h_weights_to.b .nil pass0 (pa_cons (pe_fld (pv 0) rfl) (pa_cons (pv 5) pa_nil))))
        (pss_one (ps_expr (pe_bm PySem.F.plainAttrs_list PySem.F.slot_list_append PySem.F.type_list_append mt_append (pv 3) (pa_cons (pv 1) pa_nil))))))))
      (pss_cons (ps_expr (pe_bm0 PySem.F.plainAttrs_list PySem.F.slot_list_reverse PySem.F.type_list_reverse mt_reverse (pv 3)))
      (pss_one (ps_ret (pv 3)))))))), ?_⟩
    have few : ∀ gs : Gs, (keysN gs).Nodup → (∀ k ∈ keysN gs, k ∈ keysN es) → gs.length ≤ 500 := fun gs n s => keys_few gv.h4 gv.ra gv.rb gv.gd.fine n s
    have les : es.length ≤ 500 := keys_few (gs := es) gv.h4 gv.ra gv.rb gv.gd.fine gv.nd fun _ q => q
    -- later = {}
    intro d nd
    have ed : Ex H (upd H d (DN w d [])) := Ex.new nd
    have dns : d ≠ ds := (ne_of_none gv.hd nd).symm
    have pds : p ≠ ds := fun q => by rw [q, gv.hd] at hp; cases hp
    refine q_forN (es := es) (ed _ _ gv.hd) (fun od => ev_fld (ev_var rfl) ((upd_ne pds).trans (ed _ _ hp)) T.cl_Plan T.n_Plan_steps l3) (fun od i σ H' => (∃ v2, σ = [some (.ref p), some (.ref d), v2, none, none, none]) ∧ Fr H H' ds ∧ H' ds = some (.frz od (DN w ds es)) ∧ WtAt w H' d ((es.take i).map z0)) ?_ (fun od i σ' H' q => q.2.2.1) ?_ ?_
    · intro od H1 e1
      exact ⟨⟨none, rfl⟩, (Fr.ex ed).trans (Fr.upd.trans (Fr.ex e1)), e1 _ _ upd_same, e1 _ _ ((upd_ne dns).trans upd_same), (fun x hx => nomatch hx)⟩
    · rintro od i y σ' H' R B hy ⟨⟨v2, rfl⟩, f1, hds, wd⟩
      have hky : StandAt H' y.2.1 y.1 := ((gv.si y (List.mem_of_getElem? hy)).1).kp (Kp.fr f1 gv.hd)
      refine s_nput (v := iv 0) ev_c (ev_var rfl) (ev_var rfl) wd.1 wd.2.in_ hky (by rw [List.length_map, List.length_map, List.length_take]; omega) fun H2 e2 => ?_
      refine ⟨⟨_, rfl⟩, (f1.trans (Fr.ex e2)).mut nd, ?_, ?_⟩
      · rw [upd_ne dns.symm]
        exact e2 _ _ hds
      · have := (wd.ex e2).put (n := 0) (hky.ex e2)
        rw [put_new (es := (es.take i).map z0) (by rw [z0_keys]; exact take_keys gv.nd hy)] at this
        rw [take_more hy, List.map_append]
        exact this
    rintro od σ1 H1 ⟨⟨v2, rfl⟩, f1, hds, wd⟩
    rw [List.take_length] at wd
    have e1 : Ex H (upd H1 ds (DN w ds es)) := ex_unlock f1 gv.hd
    have wd1 : WtAt w (upd H1 ds (DN w ds es)) d (es.map z0) := ⟨(upd_ne dns).trans wd.1, wd.2.kp (.frz hds)⟩
    generalize upd H1 ds (DN w ds es) = H2 at e1 wd1 ⊢
    refine q_asgL (xs := [.ref d]) (el_lst (ea_cons (ev_var rfl) ea_nil) (by show 1 ≤ 100000; decide)) fun wl H3 nwl e3 mwl => ?_
    have nwl0 : H wl = none := fresh_back e1 nwl
    have val0 : ∀ k ∈ keysN es, atN (es.map z0) k = SM.val h [] (stk h.heavy.length k) := fun k hk => by
      rw [z0_at es hk, SM.val_nil gv.so (SM.mem_stands.2 (gv.gd.fine k hk))]
    have lsc : ss.length = h.scenes.length := rows.length
    -- the scenes from the last to the first
    refine q_forRev (xs := ss.map V.ref) (ea_cons (ev_fld (ev_var rfl) ((e1.trans e3) _ _ hp) T.cl_Plan T.n_Plan_scenes l2) ea_nil) (SqL.of ((e1.trans e3) _ _ hz))
      (fun i σ H' => ∃ (dl : Addr) (gl : Gs) (ws : List Addr) (v2 v4 v5 : Option V), σ = [some (.ref p), some (.ref dl), v2, some (.ref wl), v4, v5] ∧ Ex H H' ∧ H' wl = some (.lst (ws.map V.ref)) ∧ Tabs w H' h (keysN es) ws.reverse (h.scenes.drop (h.scenes.length - i)) ∧ WtAt w H' dl gl ∧ (keysN gl).Nodup ∧ (∀ k ∈ keysN gl, k ∈ keysN es) ∧ (∀ k ∈ keysN es, atN gl k = SM.val h (h.scenes.drop (h.scenes.length - i)) (stk h.heavy.length k)) ∧ ws.length = i + 1 ∧ i ≤ h.scenes.length) ?_ (fun i σ' H' q => by obtain ⟨_, _, _, _, _, _, _, e, _⟩ := q; exact SqL.of (e _ _ hz)) ?_ ?_
    · intro H4 e4
      have wd4 := (wd1.ex e3).ex e4
      refine ⟨d, es.map z0, [d], _, _, _, rfl, e1.trans (e3.trans e4), e4 _ _ mwl, ?_, wd4, by rw [z0_keys]; exact gv.nd, by rw [z0_keys]; exact fun _ q => q, ?_, rfl, Nat.zero_le _⟩
      · rw [Nat.sub_zero, List.drop_length]
        exact .last wd4 val0
      · rw [Nat.sub_zero, List.drop_length]
        exact val0
    · rintro i x σ' H4 hi hx ⟨dl, gl, ws, v2, v4, v5, rfl, e4, hwl, tabs, wt, ndl, subl, vall, lws, _⟩
      rw [List.length_map] at hi hx
      rw [List.getElem?_map] at hx
      obtain ⟨q, hq, rfl⟩ := Option.map_eq_some_iff.1 hx
      obtain ⟨c, hc, hqc⟩ := rows.get hq
      rw [lsc] at hc hi
      have dr : h.scenes.drop (h.scenes.length - (i + 1)) = c :: h.scenes.drop (h.scenes.length - i) := by
        have e0 : h.scenes.length - (i + 1) = h.scenes.length - 1 - i := by omega
        have e9 : h.scenes.length - 1 - i + 1 = h.scenes.length - i := by omega
        rw [e0, drop_at hc, e9]
      generalize hL : h.scenes.drop (h.scenes.length - i) = L at tabs vall dr
      -- ends = {}
      intro e ne
      have e5 : Ex H4 (upd H4 e (DN w e [])) := Ex.new ne
      have ene : e ≠ dl := (ne_of_none wt.1 ne).symm
      have p4 := e4 _ _ hp
      have pne : p ≠ dl := fun z => by rw [z, wt.1] at p4; cases p4
      refine q_forN (es := gl.map (mapN iv)) (e5 _ _ wt.1) (fun od => ev_var rfl) (fun od i σ H' => (∃ v2, σ = [some (.ref p), some (.ref dl), v2, some (.ref wl), some (.ref q), some (.ref e)]) ∧ Fr H4 H' dl ∧ H' dl = some (.frz od (DN w dl (gl.map (mapN iv)))) ∧ WtAt w H' e ((gl.take i).filter fun x => onIs h.heavy.length c x.1)) ?_ (fun od i σ' H' q => q.2.2.1) ?_ ?_
      · intro od H5 e6
        exact ⟨⟨v2, rfl⟩, (Fr.ex e5).trans (Fr.upd.trans (Fr.ex e6)), e6 _ _ upd_same, e6 _ _ ((upd_ne ene).trans upd_same), (fun x hx => nomatch hx)⟩
      · rintro od j y σ' H5 R B hy ⟨⟨v2', rfl⟩, f5, hdl, we⟩
        rw [List.getElem?_map] at hy
        obtain ⟨x, hx, rfl⟩ := Option.map_eq_some_iff.1 hy
        have kp5 := Kp.fr f5 wt.1
        have hkx : StandAt H5 x.2.1 x.1 := (wt.2 x (List.mem_of_getElem? hx)).kp kp5
        have ka : KeysG H5 gl := wt.2.kp kp5
        have hp5 := kp5.2 _ _ _ _ p4
        have hq5 : H5 q = some (.lst (nv c)) := f5 _ _ (e4 _ _ hqc) (fun z => by have := e4 _ _ hqc; rw [z, wt.1] at this; cases this)
        have ax : atN (gl.map (mapN iv)) x.1 = some (iv x.2.2) := by rw [atN_map, atN_get ndl hx]; rfl
        have lg := few gl ndl subl
        have tk : (gl.take (j + 1)).filter (fun x => onIs h.heavy.length c x.1) = (gl.take j).filter (fun x => onIs h.heavy.length c x.1) ++ if onIs h.heavy.length c x.1 = true then [x] else [] := by
          rw [take_more hx, List.filter_append]
          congr 1
          by_cases q : onIs h.heavy.length c x.1 = true
          · rw [if_pos q, List.filter_cons, if_pos q]
            rfl
          · rw [if_neg q, List.filter_cons, if_neg q]
            rfl
        refine s_when (b := onIs h.heavy.length c x.1) (et_test (ev_opL1 (xs := nv (onOf h.heavy.length x.1.1 x.1.2)) (el_call (ea_cons (ev_fld (ev_var rfl) hp5 T.cl_Plan T.n_Plan_many l1) (ea_cons (ev_var rfl) ea_nil)) ?_) (fun H6 e6 => ev_var rfl) (fun a H6 ha e6 => rv_eqL (K := K) (SqL.of ha) (SqL.of (e6 _ _ hq5))))) (fun hb H6 e6 => ?_) (fun hb H6 e6 => ?_)
        · intro H6 e6 Q q E
          exact ⟨x.2.1, h.heavy.length, x.1, rfl, hkx.ex e6, gv.h4, q⟩
        · have we6 := we.ex e6
          refine s_nput (v := iv x.2.2) (ev_nget (ev_var rfl) (ev_var rfl) (.inr ⟨od, e6 _ _ hdl⟩) ((ka.kp (.ex e6)).in_) (hkx.ex e6) ax) (ev_var rfl) (ev_var rfl) we6.1 we6.2.in_ (hkx.ex e6) (by
            rw [List.length_map]
            have := List.length_filter_le (fun x : Sk × Addr × Nat => onIs h.heavy.length c x.1) (gl.take j)
            rw [List.length_take] at this
            omega) fun H7 e7 => ?_
          refine ⟨⟨_, rfl⟩, (f5.trans (Fr.ex (e6.trans e7))).mut ne, ?_, ?_⟩
          · rw [upd_ne ene.symm]
            exact e7 _ _ (e6 _ _ hdl)
          · have := (we6.ex e7).put (n := x.2.2) ((hkx.ex e6).ex e7)
            rw [put_new (es := (gl.take j).filter fun x => onIs h.heavy.length c x.1) (fun z => take_keys ndl hx (by rw [keys_filter] at z; exact (List.mem_filter.1 z).1))] at this
            rw [tk, if_pos hb]
            exact this
        · refine ⟨⟨_, rfl⟩, f5.trans (Fr.ex e6), e6 _ _ hdl, ?_⟩
          rw [tk, if_neg (by rw [hb]; exact Bool.false_ne_true), List.append_nil]
          exact we.ex e6
      rintro od σ5 H5 ⟨⟨v2', rfl⟩, f5, hdl, we⟩
      rw [List.length_map, List.take_length] at we
      have e6 : Ex H4 (upd H5 dl (DN w dl (gl.map (mapN iv)))) := ex_unlock f5 wt.1
      have we6 : WtAt w (upd H5 dl (DN w dl (gl.map (mapN iv)))) e (gl.filter fun x => onIs h.heavy.length c x.1) := ⟨(upd_ne ene).trans we.1, we.2.kp (.frz hdl)⟩
      generalize upd H5 dl (DN w dl (gl.map (mapN iv))) = H6 at e6 we6 ⊢
      have e46 := e4.trans e6
      have gv6 := gv.ex e46
      have hp6 := e46 _ _ hp
      have dse : ds ≠ e := fun z => by
        have := e4 _ _ gv.hd
        rw [z, ne] at this
        cases this
      -- later = weights_to(..)
      refine q_callA (ea_cons (ev_fld (ev_var rfl) hp6 T.cl_Plan T.n_Plan_steps l3) (ea_cons (ev_var rfl) ea_nil)) fun H7 e7 => ⟨ds, e, h, s0, es, gl.filter (fun x => onIs h.heavy.length c x.1), c, L, rfl, gv6.ex e7, we6.ex e7, dse, ?_, ?_, ?_, fun d' gb H8 nd' e8 wt8 nd8 sub8 val8 => ?_⟩
      · rw [keys_filter]
        exact ndl.sublist List.filter_sublist
      · intro k hk
        rw [keys_filter] at hk
        exact subl k (List.mem_filter.1 hk).1
      · intro k hk
        rw [atN_filter, base_onIs, vall k hk]
      have e48 := e6.trans (e7.trans e8)
      have hwl8 := e48 _ _ hwl
      refine s_app hwl8 (ev_var rfl) (ev_var rfl) (by rw [List.length_map]; omega) fun H9 e9 => ?_
      have hwl9 := e9 _ _ hwl8
      have em2 : List.map V.ref ws ++ [V.ref d'] = (ws ++ [d']).map V.ref := by rw [List.map_append]; rfl
      refine ⟨d', gb, ws ++ [d'], _, _, _, rfl, Ex.mut (e4.trans (e48.trans e9)) nwl0, ?_, ?_, (wt8.ex e9).lst hwl9, nd8, sub8, ?_, by rw [List.length_append]; simp; omega, by omega⟩
      · rw [upd_same, em2]
      · rw [List.reverse_append, dr]
        exact .cons ((wt8.ex e9).lst hwl9) val8 (((tabs.ex e48).ex e9).lst hwl9)
      · rw [dr]
        exact val8
    · rintro σ' H4 ⟨dl, gl, ws, v2, v4, v5, rfl, e4, hwl, tabs, _⟩
      rw [List.length_map, lsc, Nat.sub_self, List.drop_zero] at tabs
      refine q_rev hwl (ev_var rfl) fun H5 e5 => ?_
      refine s_ret (ev_var rfl) fun H6 e6 => ?_
      refine kk wl ws.reverse H6 nwl0 ((Ex.mut (e4.trans e5) nwl0).trans e6) (e6 _ _ ?_) (((tabs.ex e5).lst (e5 _ _ hwl)).ex e6)
      rw [upd_same, List.map_reverse]
end
end SC

namespace SC
open PySem PySem.Spec PyProof.Rows L2 Evl
open SM (toZ Sk Sp3 onOf stepsOf stk Fine Good low Lo CanK Pass todo)
/-- a plan at p -/
structure PlanAt (w : World) (CP CS : Addr) (H : Hp) (p : Addr) (h : Uw04.House) (s0 : Sk) (es : List (Sk × Addr × V)) : Prop where
  at_ : ∃ dx b z ds wl ss ws, H p = some (.ins CP dx (pF (.int h.heavy.length) (.ref b) (.ref z) (.ref ds) (.ref wl))) ∧ StandAt H b s0 ∧ H z = some (.lst (ss.map V.ref)) ∧ Rows2 H ss h.scenes ∧ Given w CS H h s0 ds es ∧ H wl = some (.lst (ws.map V.ref)) ∧ Tabs w H h (keysN es) ws h.scenes
  few : h.scenes.length ≤ 4
theorem Rows2.ex {H H' : Hp} {ps : List Addr} {cs : List (List Nat)} (h : Rows2 H ps cs) (e : Ex H H') : Rows2 H' ps cs := h.mono fun p _ o q => e _ _ q
theorem PlanAt.ex {w : World} {CP CS : Addr} {H H' : Hp} {p : Addr} {h : Uw04.House} {s0 : Sk} {es : List (Sk × Addr × V)} (q : PlanAt w CP CS H p h s0 es) (e : Ex H H') : PlanAt w CP CS H' p h s0 es := by
  obtain ⟨⟨dx, b, z, ds, wl, ss, ws, h1, h2, h3, h4, h5, h6, h7⟩, fw⟩ := q
  exact ⟨⟨dx, b, z, ds, wl, ss, ws, e _ _ h1, h2.ex e, e _ _ h3, h4.ex e, h5.ex e, e _ _ h6, h7.ex e⟩, fw⟩
/-! ### what is no instance stays, and steps are no plans -/
section
variable {H H' : Hp} {p CP dx : Addr} {fs : List (Str × V)}
theorem tup_frp (hp : H p = some (.ins CP dx fs)) (f : Fr H H' p) : ∀ a xs, H a = some (.tup xs) → H' a = some (.tup xs) := fun a xs q => f _ _ q (fun z => by rw [z, hp] at q; cases q)
theorem lst_frp (hp : H p = some (.ins CP dx fs)) (f : Fr H H' p) {a : Addr} {xs : List V} (q : H a = some (.lst xs)) : H' a = some (.lst xs) := f _ _ q (fun z => by rw [z, hp] at q; cases q)
theorem dict_frp (hp : H p = some (.ins CP dx fs)) (f : Fr H H' p) {w : World} {d : Addr} {es : List (Sk × Addr × V)} (q : H d = some (DN w d es)) : H' d = some (DN w d es) := f _ _ q (fun z => by rw [z, hp] at q; cases q)
theorem StandAt.frp {b : Addr} {k : Sk} (h : StandAt H b k) (hp : H p = some (.ins CP dx fs)) (f : Fr H H' p) : StandAt H' b k := h.mono (tup_frp hp f)
theorem StepAt.frp {C a : Addr} {x : Sp3} (h : StepAt C H a x) (hp : H p = some (.ins CP dx fs)) (nc : fs.lookup ("carrying" : Str) = none) (f : Fr H H' p) : StepAt C H' a x := by
  obtain ⟨dx', c, b, h1, h2, h3⟩ := h
  refine ⟨dx', c, b, f _ _ h1 (fun z => ?_), tup_frp hp f _ _ h2, h3.frp hp f⟩
  rw [z, hp] at h1
  have e := Option.some.inj h1
  injection e with e1 e2 e3
  rw [e3, stF_carrying] at nc
  cases nc
theorem Steps.frp {C : Addr} {ps : List Addr} {L : List Sp3} (h : Steps C H ps L) (hp : H p = some (.ins CP dx fs)) (nc : fs.lookup ("carrying" : Str) = none) (f : Fr H H' p) : Steps C H' ps L := by
  induction h with
  | nil => exact .nil
  | cons a _ ih => exact .cons (a.frp hp nc f) ih
theorem StepsIn.frp {C : Addr} {h : Uw04.House} {es : List (Sk × Addr × V)} (s : StepsIn C H h es) (hp : H p = some (.ins CP dx fs)) (nc : fs.lookup ("carrying" : Str) = none) (f : Fr H H' p) : StepsIn C H' h es := fun x hx => by
  obtain ⟨h1, a, ps, h2, h3, h4⟩ := s x hx
  exact ⟨h1.frp hp f, a, ps, h2, lst_frp hp f h3, h4.frp hp nc f⟩
theorem Given.frp {w : World} {C : Addr} {h : Uw04.House} {s0 : Sk} {ds : Addr} {es : List (Sk × Addr × V)} (g : Given w C H h s0 ds es) (hp : H p = some (.ins CP dx fs)) (nc : fs.lookup ("carrying" : Str) = none) (f : Fr H H' p) : Given w C H' h s0 ds es :=
  ⟨dict_frp hp f g.hd, g.si.frp hp nc f, g.nd, g.gd, g.so, g.h4, g.ra, g.rb⟩
theorem WtAt.frp {w : World} {d : Addr} {gs : Gs} (h : WtAt w H d gs) (hp : H p = some (.ins CP dx fs)) (f : Fr H H' p) : WtAt w H' d gs := ⟨dict_frp hp f h.1, fun x hx => (h.2 x hx).frp hp f⟩
theorem Tabs.frp {w : World} {h : Uw04.House} {ks : List Sk} {ws : List Addr} {l : List (List Nat)} (t : Tabs w H h ks ws l) (hp : H p = some (.ins CP dx fs)) (f : Fr H H' p) : Tabs w H' h ks ws l := by
  induction t with
  | last a b => exact .last (a.frp hp f) b
  | cons a b _ ih => exact .cons (a.frp hp f) b ih
theorem Rows2.frp {ps : List Addr} {cs : List (List Nat)} (h : Rows2 H ps cs) (hp : H p = Option.some (HO.ins CP dx fs)) (f : Fr H H' p) : Rows2 H' ps cs := h.mono fun a ha o q => by
  obtain ⟨c, hc⟩ := h.some a ha
  rw [hc] at q
  cases q
  exact lst_frp hp f hc
end
theorem Tabs.at {w : World} {H : Hp} {h : Uw04.House} {ks : List Sk} {ws : List Addr} {l : List (List Nat)} (t : Tabs w H h ks ws l) : ∀ {i : Nat}, i ≤ l.length → ∃ d gs, ws[i]? = some d ∧ WtAt w H d gs ∧ ∀ k ∈ ks, atN gs k = SM.val h (l.drop i) (stk h.heavy.length k) := by
  induction t with
  | @last d gs a b =>
    intro i hi
    have e : i = 0 := Nat.le_zero.1 hi
    subst e
    exact ⟨d, gs, rfl, a, b⟩
  | @cons d gs ws c l a b _ ih =>
    intro i hi
    cases i with
    | zero => exact ⟨d, gs, rfl, a, b⟩
    | succ j => exact ih (Nat.le_of_succ_le_succ hi)
section
variable {P : Program} {w : World} {K : PySem.W.Frag} {mg : Str → Option Value} {base : Heap}
def spPInit (w : World) (CP CS : Addr) : Sp := fun vs H Q _ => ∃ (p dx ah b z : Addr) (ss : List Addr) (h : Uw04.House) (s0 : Sk), vs = [.ref p, .ref ah, .int h.roomLeft, .int h.roomRight, .ref b, .ref z] ∧ H p = some (.ins CP dx []) ∧ H ah = some (.lst (nv h.heavy)) ∧ StandAt H b s0 ∧ Fine h (stk h.heavy.length s0) ∧ SM.Sound h ∧ h.heavy.length ≤ 4 ∧ h.roomLeft ≤ 3 ∧ h.roomRight ≤ 3 ∧ h.scenes.length ≤ 4 ∧ H z = some (.lst (ss.map V.ref)) ∧ Rows2 H ss h.scenes ∧
  ∀ H' es, PlanAt w CP CS H' p h s0 es → Fr H H' p → Q .non H'
theorem ok_Plan_init (T : Tx K mg) : FnOk P w K mg base CX0 5 T.f_Plan_init T.d_Plan_init ["self", "heavy", "left_room", "right_room", "start", "scenes"] (spPInit w T.C_Plan T.C_Step) := by
  refine T.h_Plan_init.F.ok sc_Plan_init (fun vs H Q E h => ?_) (fun cdv A outer s H vs Q E hr h => ?_)
  · obtain ⟨p, dx, ah, b, z, ss, h, s0, rfl, _⟩ := h
    rfl
  · obtain ⟨p, dx, ah, b, z, ss, h, s0, rfl, hp, hh, hb, hf, so, h4, ra, rb, few4, hz, rows, kk⟩ := h
    have hr_steps_by_standing : Room 4 _ := hr
    have hr_Plan_weights_by_scene : Room 3 _ := hr.mono (by decide)
    refine ⟨_, (pss_cons (ps_fld (pv 0) (pe_callB call_len_seq (by rfl) T.b_len (by decide +kernel) (pa_cons (pv 1) pa_nil)) rfl)
      (pss_cons (ps_fld (pv 0) (pv 4) rfl)
      (pss_cons (ps_fld (pv 0) (pv 5) rfl)
      (pss_cons (ps_fld (pv 0) (pe_call (ok_steps_by_standing T) hr_steps_by_standing rfl T.h_steps_by_standing.g T.h_steps_by_standing.F.kp T.h_steps_by_standing.b .nil pass0 (pa_cons (pv 1) (pa_cons (pv 2) (pa_cons (pv 3) (pa_cons (pv 4) pa_nil))))) rfl)
      (pss_one (ps_fld (pv 0) (pe_meth0 (pv 0) T.cl_Plan T.m_Plan_weights_by_scene (ok_Plan_weights_by_scene T) hr_Plan_weights_by_scene T.h_Plan_weights_by_scene.b .nil pass0) rfl)))))), ?_⟩
    refine q_fld (ev_len (ev_var rfl) (SqL.of hh)) (ev_var rfl) hp T.cl_Plan T.n_Plan_many (few_nil.lt (by decide)) fun H1 e1 => ?_
    refine q_fld (ev_var rfl) (ev_var rfl) upd_same T.cl_Plan T.n_Plan_start ((few_put few_nil).lt (by decide)) fun H2 e2 => ?_
    refine q_fld (ev_var rfl) (ev_var rfl) upd_same T.cl_Plan T.n_Plan_scenes ((few_put (few_put few_nil)).lt (by decide)) fun H3 e3 => ?_
    have eq3 : putF "scenes" (V.ref z) (putF "start" (V.ref b) (putF "many" (V.int ((nv h.heavy).length : Int)) [])) = ([("many", .int h.heavy.length), ("start", .ref b), ("scenes", .ref z)] : List (Str × V)) := by
      rw [nv_length]
      show putF "scenes" _ (putF "start" _ ([("many", _)] : List (Str × V))) = _
      rw [pF_n1, pF_n2]
    rw [eq3]
    have f3 : Fr H (upd H3 p (.ins T.C_Plan dx ([("many", .int h.heavy.length), ("start", .ref b), ("scenes", .ref z)] : List (Str × V)))) p := (Fr.ex e1).trans (Fr.upd.trans ((Fr.ex e2).trans (Fr.upd.trans ((Fr.ex e3).trans Fr.upd))))
    have p3 : upd H3 p (.ins T.C_Plan dx ([("many", .int h.heavy.length), ("start", .ref b), ("scenes", .ref z)] : List (Str × V))) p = some _ := upd_same
    generalize upd H3 p (.ins T.C_Plan dx ([("many", .int h.heavy.length), ("start", .ref b), ("scenes", .ref z)] : List (Str × V))) = H4 at f3 p3 ⊢
    refine ⟨_, rfl, _, rfl, _, rfl, _, rfl, ah, b, h, s0, rfl, lst_frp hp f3 hh, hb.frp hp f3, hf, h4, ra, rb, fun d es H5 nd e5 hd si nde gd => ⟨_, rfl, p, _, dx, _, rfl, e5 _ _ p3, T.cl_Plan, T.n_Plan_steps, (by show 3 < 1000; decide), ?_⟩⟩
    rw [pF_n3]
    have g5 : Given w T.C_Step H5 h s0 d es := ⟨hd, si, nde, gd, so, h4, ra, rb⟩
    have nc5 : List.lookup ("carrying" : Str) ([("many", .int h.heavy.length), ("start", .ref b), ("scenes", .ref z)] : List (Str × V)) = none := (lk_past (by decide +kernel)).trans ((lk_past (by decide +kernel)).trans ((lk_past (by decide +kernel)).trans rfl))
    have f5 : Fr H5 (upd H5 p (.ins T.C_Plan dx ([("many", .int h.heavy.length), ("start", .ref b), ("scenes", .ref z), ("steps", .ref d)] : List (Str × V)))) p := Fr.upd
    have g6 := g5.frp (e5 _ _ p3) nc5 f5
    have f6 := f3.trans ((Fr.ex e5).trans f5)
    have p6 : upd H5 p (.ins T.C_Plan dx ([("many", .int h.heavy.length), ("start", .ref b), ("scenes", .ref z), ("steps", .ref d)] : List (Str × V))) p = some _ := upd_same
    generalize upd H5 p (.ins T.C_Plan dx ([("many", .int h.heavy.length), ("start", .ref b), ("scenes", .ref z), ("steps", .ref d)] : List (Str × V))) = H6 at f5 f6 g6 p6 ⊢
    have lk : ∀ m : Str, (m == ("many" : Str)) = false → (m == ("start" : Str)) = false → (m == ("scenes" : Str)) = false → (m == ("steps" : Str)) = false → List.lookup m ([("many", .int h.heavy.length), ("start", .ref b), ("scenes", .ref z), ("steps", .ref d)] : List (Str × V)) = none := fun m a1 a2 a3 a4 => (lk_past a1).trans ((lk_past a2).trans ((lk_past a3).trans ((lk_past a4).trans rfl)))
    refine ⟨_, rfl, p, dx, _, rfl, p6, lk _ (by decide +kernel) (by decide +kernel) (by decide +kernel) (by decide +kernel), p, dx, z, d, _, ss, h, s0, es, rfl, p6, lk_here, (lk_past (by decide +kernel)).trans ((lk_past (by decide +kernel)).trans lk_here), (lk_past (by decide +kernel)).trans ((lk_past (by decide +kernel)).trans ((lk_past (by decide +kernel)).trans lk_here)), lst_frp hp f6 hz, rows.frp hp f6, few4, g6, fun wl ws H7 nwl e7 hwl tabs => ⟨_, rfl, p, _, dx, _, rfl, e7 _ _ p6, T.cl_Plan, T.n_Plan_weights, (by show 4 < 1000; decide), ?_⟩⟩
    rw [pF_n4]
    have p7 := e7 _ _ p6
    have nc7 := lk "carrying" (by decide +kernel) (by decide +kernel) (by decide +kernel) (by decide +kernel)
    have f7 : Fr H7 (upd H7 p (.ins T.C_Plan dx ([("many", .int h.heavy.length), ("start", .ref b), ("scenes", .ref z), ("steps", .ref d), ("weights", .ref wl)] : List (Str × V)))) p := Fr.upd
    refine kk _ es ⟨⟨dx, b, z, d, wl, ss, ws, upd_same, ?_, ?_, ?_, ?_, ?_, tabs.frp p7 f7⟩, few4⟩ (f6.trans ((Fr.ex e7).trans f7))
    · exact (hb.frp hp (f6.trans ((Fr.ex e7).trans f7)))
    · exact lst_frp hp (f6.trans ((Fr.ex e7).trans f7)) hz
    · exact rows.frp hp (f6.trans ((Fr.ex e7).trans f7))
    · exact (g6.ex e7).frp p7 nc7 f7
    · exact lst_frp p7 f7 hwl
/-! ### least -/
def spPLeast (w : World) (CP CS : Addr) : Sp := fun vs H Q _ => ∃ (p : Addr) (h : Uw04.House) (s0 : Sk) (es : List (Sk × Addr × V)), vs = [.ref p] ∧ PlanAt w CP CS H p h s0 es ∧ RetV (ov (SM.val h h.scenes (stk h.heavy.length s0))) H Q
theorem ref_at {ws : List Addr} {i : Nat} {d : Addr} (h : ws[i]? = some d) : atI (ws.map V.ref) (i : Int) = some (V.ref d) := atI_nat (by
  rw [List.getElem?_map, h]
  rfl)
theorem ok_Plan_least (T : Tx K mg) : FnOk P w K mg base CX0 1 T.f_Plan_least T.d_Plan_least ["self"] (spPLeast w T.C_Plan T.C_Step) := by
  refine T.h_Plan_least.F.ok sc_Plan_least (fun vs H Q E h => ?_) (fun cdv A outer s H vs Q E hr h => ?_)
  · obtain ⟨p, h, s0, es, rfl, _⟩ := h
    rfl
  · obtain ⟨p, h, s0, es, rfl, ⟨⟨dx, b, z, ds, wl, ss, ws, h1, h2, h3, h4, h5, h6, h7⟩, fw⟩, kk⟩ := h
    have hn := hr.units
    refine ⟨_, (pss_one (ps_ret (pe_nget1 (w := w) rfl hn (pe_ix ix_list (pe_fld (pv 0) rfl) pe_int (fun _ _ => rfl)) (pe_fld (pv 0) rfl) ⟨rfl, rfl, rfl, rfl⟩))), ?_⟩
    obtain ⟨d, gs, hd, wt, va⟩ := h7.at (i := 0) (Nat.zero_le _)
    have g0 := ev_nget1 (w := w) (σ := [some (.ref p)]) (td := tOp (rIxL K) (tFld K (tVar 0) "weights") (tC (.int 0))) (ty := tFld K (tVar 0) "start") (ev_op (ev_fld (ev_var rfl) h1 T.cl_Plan T.n_Plan_weights pF_weights) ev_c (rv_ixL (i := 0) (SqL.of h6) (ref_at hd))) (ev_fld (ev_var rfl) h1 T.cl_Plan T.n_Plan_start pF_start) (.inl wt.1) wt.2.in_ h2
    rw [atN_map, getD_ov, va s0 h5.gd.start] at g0
    exact s_ret g0 kk
/-! ### is_over -/
def spOver (w : World) (CP CS : Addr) : Sp := fun vs H Q _ => ∃ (p b : Addr) (i : Nat) (h : Uw04.House) (s0 k : Sk) (es : List (Sk × Addr × V)) (c : List Nat) (l : List (List Nat)) (n : Nat), vs = [.ref p, .int i, .ref b] ∧ PlanAt w CP CS H p h s0 es ∧ StandAt H b k ∧ k ∈ keysN es ∧ h.scenes.drop i = c :: l ∧ SM.val h (c :: l) (stk h.heavy.length k) = some n ∧
  RetV (.bl (onIs h.heavy.length c k && decide (SM.val h (c :: l) (stk h.heavy.length k) = SM.val h l (stk h.heavy.length k)))) H Q
theorem drop_cons {α : Type} {L : List α} {i : Nat} {c : α} {l : List α} (h : L.drop i = c :: l) : L[i]? = some c ∧ L.drop (i + 1) = l ∧ i < L.length := by
  have hi : i < L.length := by
    have := congrArg List.length h
    rw [List.length_drop, List.length_cons] at this
    omega
  rw [List.drop_eq_getElem_cons hi] at h
  obtain ⟨e1, e2⟩ := List.cons.inj h
  exact ⟨by rw [List.getElem?_eq_getElem hi, e1], e2, hi⟩
theorem Rows2.back {H : Hp} {ps : List Addr} {cs : List (List Nat)} (h : Rows2 H ps cs) : ∀ {i : Nat} {c : List Nat}, cs[i]? = Option.some c → ∃ p, ps[i]? = Option.some p ∧ H p = Option.some (.lst (nv c)) := by
  induction h with
  | nil => intro i p e; simp at e
  | cons a _ ih =>
    intro i p e
    cases i with
    | zero =>
      cases e
      exact ⟨_, rfl, a⟩
    | succ j => exact ih e
theorem ok_Plan_is_over (T : Tx K mg) : FnOk P w K mg base CX0 2 T.f_Plan_is_over T.d_Plan_is_over ["self", "number", "standing"] (spOver w T.C_Plan T.C_Step) := by
  refine T.h_Plan_is_over.F.ok sc_Plan_is_over (fun vs H Q E h => ?_) (fun cdv A outer s H vs Q E hr h => ?_)
  · obtain ⟨p, b, i, h, s0, k, es, c, l, n, rfl, _⟩ := h
    rfl
  · obtain ⟨p, b, i, h, s0, k, es, c, l, n, rfl, ⟨⟨dx, b0, z, ds, wl, ss, ws, h1, h2, h3, h4, h5, h6, h7⟩, fw⟩, hb, hk, dr, hv, kk⟩ := h
    have hn := hr.units
    have hr_pieces_on : Room 1 _ := hr
    refine ⟨_, (pss_cons (ps_if (pt_cmpR (op_neD hn) (pe_call (ok_pieces_on T) hr_pieces_on rfl T.h_pieces_on.g T.h_pieces_on.F.kp T.h_pieces_on.b .nil pass0 (pa_cons (pe_fld (pv 0) rfl) (pa_cons (pv 2) pa_nil))) (pe_ix ix_list (pe_fld (pv 0) rfl) (pv 1) (fun _ _ => rfl)) (nomark _))
        (pss_one (ps_ret pe_bl))
        pss_nil)
      (pss_one (ps_ret (pe_cmpR op_eq (pe_nget1 (w := w) rfl hn (pe_ix ix_list (pe_fld (pv 0) rfl) (pe_op op_add (pv 1) pe_int) (fun _ _ => rfl)) (pv 2) ⟨rfl, rfl, rfl, rfl⟩) (pe_nget (w := w) rfl hn (pe_ix ix_list (pe_fld (pv 0) rfl) (pv 1) (fun _ _ => rfl)) (pv 2) (fun _ _ => rfl)) (nomark _))))), ?_⟩
    obtain ⟨hc, dr2, li⟩ := drop_cons dr
    obtain ⟨q, hq, hqc⟩ := h4.back hc
    obtain ⟨d1, g1, hd1, w1, va1⟩ := h7.at (i := i) (Nat.le_of_lt li)
    obtain ⟨d2, g2, hd2, w2, va2⟩ := h7.at (i := i + 1) li
    rw [dr] at va1
    rw [dr2] at va2
    refine q_when (b := !onIs h.heavy.length c k) (et_test (ev_opL1 (xs := nv (onOf h.heavy.length k.1 k.2)) (el_call (ea_cons (ev_fld (ev_var rfl) h1 T.cl_Plan T.n_Plan_many pF_many) (ea_cons (ev_var rfl) ea_nil)) ?_) (fun H6 e6 => ev_op (ev_fld (ev_var rfl) (e6 _ _ h1) T.cl_Plan T.n_Plan_scenes pF_scenes) (ev_var rfl) (rv_ixL (K := K) (SqL.of (e6 _ _ h3)) (ref_at hq))) (fun a H6 ha e6 => rv_neL (K := K) (SqL.of ha) (SqL.of (e6 _ _ hqc))))) (fun hb2 H6 e6 => ?_) (fun hb2 H6 e6 => ?_)
    · intro H6 e6 Q q E
      exact ⟨b, h.heavy.length, k, rfl, hb.ex e6, h5.h4, q⟩
    · have no : onIs h.heavy.length c k = false := by simpa using hb2
      rw [no, Bool.false_and] at kk
      exact s_ret ev_c fun H7 e7 => kk.go (e6.trans e7)
    · have yes : onIs h.heavy.length c k = true := by simpa using hb2
      rw [yes, Bool.true_and] at kk
      have e1 : ((i : Int) + 1) = ((i + 1 : Nat) : Int) := by omega
      have a1 := ev_nget1 (w := w) (σ := [some (.ref p), some (.int i), some (.ref b)]) (td := tOp (rIxL K) (tFld K (tVar 0) "weights") (tOp (rI0 fun i j => .int (i + j)) (tVar 1) (tC (.int 1)))) (ty := tVar 2) (ev_op (ev_fld (ev_var rfl) (e6 _ _ h1) T.cl_Plan T.n_Plan_weights pF_weights) (ev_op (ev_var rfl) ev_c rv_I0) (rv_ixL (i := (i : Int) + 1) (SqL.of (e6 _ _ h6)) (by rw [e1]; exact ref_at hd2))) (ev_var rfl) (.inl (e6 _ _ w2.1)) ((w2.2.kp (.ex e6)).in_) (hb.ex e6)
      rw [atN_map, getD_ov, va2 k hk] at a1
      have a2 := ev_nget (w := w) (v := iv n) (σ := [some (.ref p), some (.int i), some (.ref b)]) (td := tOp (rIxL K) (tFld K (tVar 0) "weights") (tVar 1)) (ty := tVar 2) (ev_op (ev_fld (ev_var rfl) (e6 _ _ h1) T.cl_Plan T.n_Plan_weights pF_weights) (ev_var rfl) (rv_ixL (SqL.of (e6 _ _ h6)) (ref_at hd1))) (ev_var rfl) (.inl (e6 _ _ w1.1)) ((w1.2.kp (.ex e6)).in_) (hb.ex e6) (by rw [atN_map, va1 k hk, hv]; rfl)
      have eq : decide (ov (SM.val h l (stk h.heavy.length k)) = iv n) = decide (SM.val h (c :: l) (stk h.heavy.length k) = SM.val h l (stk h.heavy.length k)) := by
        rw [hv]
        exact decide_eq_decide.2 ⟨fun z => (ov_inj (b := some n) z).symm, fun z => by rw [← z]; rfl⟩
      refine s_ret (ev_is (ev_op a1 a2 (rv_eq (ov_scal _ (some n)))) (congrArg V.bl eq)) fun H7 e7 => kk.go (e6.trans e7)
/-! ### first_step -/
def spFirst (w : World) (CP CS : Addr) : Sp := fun vs H Q _ => ∃ (p b : Addr) (i : Nat) (h : Uw04.House) (s0 k : Sk) (es : List (Sk × Addr × V)) (c : List Nat) (l : List (List Nat)) (n : Nat) (x : Sp3), vs = [.ref p, .int i, .ref b] ∧ PlanAt w CP CS H p h s0 es ∧ StandAt H b k ∧ k ∈ keysN es ∧ h.scenes.drop i = c :: l ∧ SM.val h (c :: l) (stk h.heavy.length k) = some n ∧
  (stepsOf h k).find? (SM.best1 (fun j => SM.val h (c :: l) (stk h.heavy.length j)) k) = some x ∧ ∀ q H2, Ex H H2 → StepAt CS H2 q x → Q (.ref q) H2
theorem ok_Plan_first_step (T : Tx K mg) : FnOk P w K mg base CX0 1 T.f_Plan_first_step T.d_Plan_first_step ["self", "number", "standing"] (spFirst w T.C_Plan T.C_Step) := by
  refine T.h_Plan_first_step.F.ok sc_Plan_first_step (fun vs H Q E h => ?_) (fun cdv A outer s H vs Q E hr h => ?_)
  · obtain ⟨p, b, i, h, s0, k, es, c, l, n, x, rfl, _⟩ := h
    rfl
  · obtain ⟨p, b, i, h, s0, k, es, c, l, n, x, rfl, ⟨⟨dx, b0, z, ds, wl, ss, ws, h1, h2, h3, h4, h5, h6, h7⟩, fw⟩, hb, hk, dr, hv, fx, kk⟩ := h
    have hn := hr.units
    refine ⟨_, (pss_cons (ps_set (i := 3) sc_Plan_first_step.nd rfl (.inl rfl) (pe_ix ix_list (pe_fld (pv 0) rfl) (pv 1) (fun _ _ => rfl)))
      (pss_cons (ps_for PassesOwn.never rfl (pi_list (pe_nget (w := w) rfl hn (pe_fld (pv 0) rfl) (pv 2) (fun _ _ => rfl))) (pg_name (i := 4) sc_Plan_first_step.nd rfl (.inl rfl))
        (pss_one (ps_if (PW.pt (pw_and (pt_cmp (pc_nin (w := w) rfl hn (pe_fld (pv 4) rfl) (pv 3))) (pw_and1 (pt_cmpR op_eq (pe_op op_add (pe_fld (pv 4) rfl) (pe_nget (w := w) rfl hn (pv 3) (pe_fld (pv 4) rfl) (fun _ _ => rfl))) (pe_nget (w := w) rfl hn (pv 3) (pv 2) (fun _ _ => rfl)) (nomark _)))))
          (pss_one (ps_ret (pv 4)))
          pss_nil)))
      (pss_one (ps_ret pe_non)))), ?_⟩
    obtain ⟨hc, dr2, li⟩ := drop_cons dr
    obtain ⟨d1, g1, hd1, w1, va1⟩ := h7.at (i := i) (Nat.le_of_lt li)
    rw [dr] at va1
    refine q_asg (ev_op (ev_fld (ev_var rfl) h1 T.cl_Plan T.n_Plan_weights pF_weights) (ev_var rfl) (rv_ixL (SqL.of h6) (ref_at hd1))) fun H1 e1 => ?_
    obtain ⟨a0, ha0⟩ := Option.isSome_iff_exists.1 (atN_isSome.2 hk)
    obtain ⟨a1, hm⟩ := atN_mem ha0
    obtain ⟨_, p1, ps, ep, hp1, hs⟩ := h5.si _ hm
    dsimp only at ep hs
    subst ep
    refine q_forLn (ev_nget (ev_fld (ev_var rfl) (e1 _ _ h1) T.cl_Plan T.n_Plan_steps pF_steps) (ev_var rfl) (.inl (e1 _ _ h5.hd)) (h5.si.keys.mono (ex_tup e1)) (hb.ex e1) ha0) (SqL.of (e1 _ _ hp1)) (fun j σ H' => (∃ v4, σ = [some (.ref p), some (.int i), some (.ref b), some (.ref d1), v4]) ∧ Ex H H' ∧ ((stepsOf h k).drop j).find? (SM.best1 (fun j => SM.val h (c :: l) (stk h.heavy.length j)) k) = some x) (fun H2 e2 => ⟨⟨none, rfl⟩, e1.trans e2, fx⟩) (fun j σ' H' _ q => SqL.of (q.2.1 _ _ hp1)) ?_ ?_
    · rintro j _ σ' H' hi ⟨⟨v4, rfl⟩, e2, f2⟩
      rw [List.getElem?_map] at hi
      obtain ⟨q, hq, rfl⟩ := Option.map_eq_some_iff.1 hi
      obtain ⟨y, hy, sy⟩ := hs.get hq
      obtain ⟨dy, cy, by_, s1, s2, s3⟩ := id sy
      rw [drop_at hy, List.find?_cons] at f2
      have ky : y.2.2 ∈ keysN es := h5.gd.closed k hk y (List.mem_of_getElem? hy)
      have wk := w1.2.kp (Kp.ex e2)
      have t := ev_nin (w := w) (σ := [some (.ref p), some (.int i), some (.ref b), some (.ref d1), some (.ref q)]) (ty := tFld K (tVar 4) "after") (td := tVar 3) (ev_fld (ev_var rfl) (e2 _ _ s1) T.cl_Step T.n_Step_after stF_after) (ev_var rfl) (.inl (e2 _ _ w1.1)) wk.in_ (s3.ex e2)
      rw [atN_map, Option.isSome_map, va1 _ ky] at t
      have tt : EvT (tAnd (tB (tNIn w (tFld K (tVar 4) "after") (tVar 3))) (tTest (tOp rEq (tOp (rI0 fun i j => .int (i + j)) (tFld K (tVar 4) "weight") (tNGet w (tVar 3) (tFld K (tVar 4) "after"))) (tNGet w (tVar 3) (tVar 2))))) [some (.ref p), some (.int i), some (.ref b), some (.ref d1), some (.ref q)] H' (SM.best1 (fun j => SM.val h (c :: l) (stk h.heavy.length j)) k y) := by
        refine et_is (et_and (et_B t) (b := SM.best1 (fun j => SM.val h (c :: l) (stk h.heavy.length j)) k y) fun ha => ?_) ?_
        · obtain ⟨m, hm2⟩ := Option.isSome_iff_exists.1 ha
          have a1 := ev_nget (w := w) (v := iv m) (σ := [some (.ref p), some (.int i), some (.ref b), some (.ref d1), some (.ref q)]) (td := tVar 3) (ty := tFld K (tVar 4) "after") (ev_var rfl) (ev_fld (ev_var rfl) (e2 _ _ s1) T.cl_Step T.n_Step_after stF_after) (.inl (e2 _ _ w1.1)) wk.in_ (s3.ex e2) (by rw [atN_map, va1 _ ky, hm2]; rfl)
          have a2 := ev_nget (w := w) (v := iv n) (σ := [some (.ref p), some (.int i), some (.ref b), some (.ref d1), some (.ref q)]) (td := tVar 3) (ty := tVar 2) (ev_var rfl) (ev_var rfl) (.inl (e2 _ _ w1.1)) wk.in_ (hb.ex e2) (by rw [atN_map, va1 _ hk, hv]; rfl)
          refine et_is (et_test (ev_op (ev_op (ev_fld (ev_var rfl) (e2 _ _ s1) T.cl_Step T.n_Step_weight stF_weight) a1 rv_I0) a2 (rv_eq rfl))) ?_
          unfold SM.best1
          dsimp only
          rw [hm2, hv]
          show decide (V.int _ = V.int _) = (some n == some (y.2.1 + m))
          rw [Bool.eq_iff_iff, decide_eq_true_eq, beq_iff_eq]
          constructor
          · intro e
            have := V.int.inj e
            rw [show n = y.2.1 + m by omega]
          · intro e
            have := Option.some.inj e
            subst this
            rw [Int.natCast_add]
        · unfold SM.best1
          dsimp only
          cases SM.val h (c :: l) (stk h.heavy.length y.2.2) <;> rfl
      refine s_when tt (fun hb2 H3 e3 => ?_) (fun hb2 H3 e3 => ?_)
      · rw [hb2] at f2
        cases f2
        exact s_ret (ev_var rfl) fun H4 e4 => kk q H4 (e2.trans (e3.trans e4)) (sy.kp (.ex (e2.trans (e3.trans e4))))
      · rw [hb2] at f2
        exact ⟨⟨_, rfl⟩, e2.trans e3, f2⟩
    · rintro σ' H' ⟨⟨v4, rfl⟩, e2, f2⟩
      exfalso
      rw [List.length_map, hs.length, List.drop_length] at f2
      cases f2
end
end SC

namespace SM
open Uw04
/-! ## a way is not long -/
theorem wayTo_len {h : House} {c : List Nat} {t u : Table} : ∀ (n : Nat) (s : Stand), (h.wayTo c t u n s).length ≤ n
  | 0, s => Nat.le_refl _
  | n + 1, s => by
    unfold House.wayTo
    split
    · exact Nat.zero_le _
    · split
      · exact Nat.zero_le _
      · split
        · exact Nat.zero_le _
        · rw [List.length_cons]
          exact Nat.succ_le_succ (wayTo_len n _)
theorem moves_len {h : House} (h4 : h.heavy.length ≤ 4) : h.moves.length ≤ 10 := by
  unfold House.moves
  simp
  omega
theorem waysFrom_len {h : House} (hh : Sound h) (h4 : h.heavy.length ≤ 4) (ra : h.roomLeft ≤ 3) (rb : h.roomRight ≤ 3) : ∀ (l : List (List Nat)) (s : Stand), ∀ w ∈ h.waysFrom l (h.tables l) s, w.length ≤ 5001
  | [], s, w, hw => by
    have e : h.waysFrom [] (h.tables []) s = [] := by unfold House.waysFrom; rfl
    rw [e] at hw
    cases hw
  | c :: l, s, w, hw => by
    obtain ⟨r, er⟩ := tables_head hh l
    have ih := waysFrom_len hh h4 ra rb l
    rw [tables_cons hh, er] at hw
    rw [er] at ih
    unfold House.waysFrom at hw
    dsimp only at hw
    rcases List.mem_cons.1 hw with rfl | hw
    · refine Nat.le_trans (wayTo_len _ _) ?_
      rw [mk_length]
      have a1 := stands_le h4 ra rb
      have a2 := moves_len h4
      have := Nat.mul_le_mul a1 a2
      omega
    · exact ih _ w hw
theorem ways_len {h : House} (hh : Sound h) (h4 : h.heavy.length ≤ 4) (ra : h.roomLeft ≤ 3) (rb : h.roomRight ≤ 3) (s : Stand) : ∀ w ∈ h.ways s, w.length ≤ 5001 := waysFrom_len hh h4 ra rb _ s
theorem out_len (m : Move) : (moveOut m).length ≤ 2 := by cases m <;> simp [moveOut]
theorem flat_len : ∀ w : List Move, (w.flatMap moveOut).length ≤ 2 * w.length
  | [] => Nat.le_refl _
  | m :: w => by
    rw [List.flatMap_cons, List.length_append, List.length_cons]
    have := out_len m
    have := flat_len w
    omega
end SM
namespace SC
open PySem PySem.Spec PyProof.Rows L2 Evl
open SM (toZ Sk Sp3 onOf stepsOf stk Fine Good low Lo CanK Pass todo)
section
variable {K : PySem.W.Frag} {σ : L2.St} {H : Hp} {ta te : TE} {D : Ends} {tz : TS}
theorem q_extT {l b : Addr} {xs zs : List V} (hl : H l = some (.lst xs)) (hb : H b = some (.tup zs)) (ha : Ev ta σ H (.ref l)) (h : Ev te σ H (.ref b)) (hz : xs.length + zs.length ≤ 100000) (k : ∀ H1, Ex H H1 → tz D σ (upd H1 l (.lst (xs ++ zs)))) :
    tSeq (tDrop (tBM K "list" rExtendT ta (tCons te tNil))) tz D σ H := ha H (Ex.refl H) _ fun H1 e1 =>
  ⟨Or.inl ⟨rfl, xs, sq_of (e1 l _ hl)⟩, h H1 e1 _ fun H2 e2 => ⟨l, b, xs, zs, rfl, rfl, e2 l _ (e1 l _ hl), e2 b _ (e1 b _ hb), sz_of hz, k H2 (e1.trans e2)⟩⟩
theorem ev_meth {a C dx : Addr} {fs : List (Str × V)} {m : Str} {sp : Sp} {dvs vs : List V} {E : XK} {t : TA} {z : V} (h : Ev ta σ H (.ref a)) (ha : H a = some (.ins C dx fs)) (hm : fs.lookup m = none) (hv : EvA t σ H vs) (hs : SpV sp (.ref a :: (vs ++ dvs)) H z) : Ev (tMeth C m sp dvs E ta t) σ H z := fun H1 e Q q =>
  h H1 e _ fun H2 e2 => ⟨a, dx, fs, rfl, e2 _ _ (e _ _ ha), hm, hv H2 (e.trans e2) _ fun H3 e3 => hs H3 (e.trans (e2.trans e3)) Q (fun H4 e4 => q H4 (e2.trans (e3.trans e4))) E⟩
theorem q_methA {a C dx : Addr} {fs : List (Str × V)} {m : Str} {sp : Sp} {dvs vs : List V} {E : XK} {t : TA} {i : Nat} (h : Ev ta σ H (.ref a)) (ha : H a = some (.ins C dx fs)) (hm : fs.lookup m = none) (hv : EvA t σ H vs) (k : ∀ H1, Ex H H1 → sp (.ref a :: (vs ++ dvs)) H1 (fun v H2 => tz D (σ.set i (some v)) H2) E) : tSeq (tAsg (tMeth C m sp dvs E ta t) (gName i)) tz D σ H :=
  h H (Ex.refl H) _ fun H2 e2 => ⟨a, dx, fs, rfl, e2 _ _ ha, hm, hv H2 e2 _ fun H3 e3 => k H3 (e2.trans e3)⟩
end
theorem fits_onIs (h : Uw04.House) (c : List Nat) (k : Sk) : Uw04.fits c (stk h.heavy.length k) = onIs h.heavy.length c k := by
  unfold Uw04.fits onIs
  rw [Bool.eq_iff_iff, beq_iff_eq, decide_eq_true_eq]
  exact Iff.rfl
theorem nv_append2 (l r : List Nat) : nv l ++ nv r = nv (l ++ r) := nv_append l r
section
variable {P : Program} {w : World} {K : PySem.W.Frag} {mg : Str → Option Value} {base : Heap}
def spPRows (w : World) (CP CS : Addr) : Sp := fun vs H Q _ => ∃ (p : Addr) (h : Uw04.House) (s0 : Sk) (es : List (Sk × Addr × V)) (n : Nat) (ws : List (List Uw04.Move)), vs = [.ref p] ∧ PlanAt w CP CS H p h s0 es ∧ SM.val h h.scenes (stk h.heavy.length s0) = some n ∧ SM.Ways h h.scenes (stk h.heavy.length s0) ws ∧ (∀ w ∈ ws, w.length ≤ 5001) ∧
  ∀ g rs H2, H g = none → Ex H H2 → H2 g = some (.lst (rs.map V.ref)) → Rows2 H2 rs (ws.map fun w => w.flatMap Uw04.moveOut) → Q (.ref g) H2
theorem ok_Plan_rows (T : Tx K mg) : FnOk P w K mg base CX0 3 T.f_Plan_rows T.d_Plan_rows ["self"] (spPRows w T.C_Plan T.C_Step) := by
  refine T.h_Plan_rows.F.ok sc_Plan_rows (fun vs H Q E h => ?_) (fun cdv A outer s H vs Q E hr h => ?_)
  · obtain ⟨p, h, s0, es, n, ws, rfl, _⟩ := h
    rfl
  · obtain ⟨p, h, s0, es, n, ws, rfl, pl, hv, wys, wl, kk⟩ := h
    have hr_Plan_is_over : Room 2 _ := hr
    have hr_Plan_first_step : Room 1 _ := hr.mono (by decide)
    refine ⟨_, (pss_cons (ps_set (i := 1) sc_Plan_rows.nd rfl (.inl rfl) (pe_lst pa_nil))
      (pss_cons (ps_set (i := 2) sc_Plan_rows.nd rfl (.inl rfl) (pe_fld (pv 0) rfl))
      (pss_cons (ps_for PassesOwn.never rfl (pi_range1 rfl T.b_range (pa_cons (pe_callB call_len_seq (by rfl) T.b_len (by decide +kernel) (pa_cons (pe_fld (pv 0) rfl) pa_nil)) pa_nil)) (pg_name (i := 3) sc_Plan_rows.nd rfl (.inl rfl))
        (pss_cons (ps_set (i := 4) sc_Plan_rows.nd rfl (.inl rfl) (pe_lst pa_nil))
        (pss_cons (ps_while PassesOwn.never (pt_not (pt_val (pe_meth (pv 0) T.cl_Plan T.m_Plan_is_over (ok_Plan_is_over T) hr_Plan_is_over T.h_Plan_is_over.b .nil pass0 (pa_cons (pv 3) (pa_cons (pv 2) pa_nil)))))
          (pss_cons (ps_set (i := 5) sc_Plan_rows.nd rfl (.inl rfl) (pe_meth (pv 0) T.cl_Plan T.m_Plan_first_step (ok_Plan_first_step T) hr_Plan_first_step T.h_Plan_first_step.b .nil pass0 (pa_cons (pv 3) (pa_cons (pv 2) pa_nil))))
          (pss_cons (ps_expr (pe_bm PySem.F.plainAttrs_list PySem.F.slot_list_extend PySem.F.type_list_extend mt_extendT (pv 4) (pa_cons (pe_fld (pv 5) rfl) pa_nil)))
          (pss_one (ps_set (i := 2) sc_Plan_rows.nd rfl (.inl rfl) (pe_fld (pv 5) rfl))))))
        (pss_one (ps_expr (pe_bm PySem.F.plainAttrs_list PySem.F.slot_list_append PySem.F.type_list_append mt_append (pv 1) (pa_cons (pv 4) pa_nil)))))))
      (pss_one (ps_ret (pv 1)))))), ?_⟩
    obtain ⟨⟨dx, b0, z, ds, wl0, ss, tw, h1, h2, h3, h4, h5, h6, h7⟩, fw⟩ := id pl
    have lsc : ss.length = h.scenes.length := h4.length
    refine q_asgL (xs := []) (el_lst ea_nil (by decide)) fun g H1 ng e1 mg1 => ?_
    refine q_asg (ev_fld (ev_var rfl) (e1 _ _ h1) T.cl_Plan T.n_Plan_start pF_start) fun H2 e2 => ?_
    have e12 := e1.trans e2
    have lenN : ((ss.map V.ref).length : Int) = (h.scenes.length : Int) := by rw [List.length_map, lsc]
    refine q_forR1 (n := (h.scenes.length : Int)) (ea_cons (ev_is (ev_len (ev_fld (ev_var rfl) (e12 _ _ h1) T.cl_Plan T.n_Plan_scenes pF_scenes) (SqL.of (e12 _ _ h3))) (congrArg V.int lenN)) ea_nil) (by have := pl.few; omega)
      (fun i σ H' => ∃ (b : Addr) (k : Sk) (n : Nat) (rs : List Addr) (dn rest : List (List Uw04.Move)) (v3 v4 v5 : Option V), σ = [some (.ref p), some (.ref g), some (.ref b), v3, v4, v5] ∧ Ex H H' ∧ H' g = some (.lst (rs.map V.ref)) ∧ Rows2 H' rs (dn.map fun w => w.flatMap Uw04.moveOut) ∧ dn ++ rest = ws ∧ dn.length = i ∧ StandAt H' b k ∧ k ∈ keysN es ∧ SM.val h (h.scenes.drop i) (stk h.heavy.length k) = some n ∧ SM.Ways h (h.scenes.drop i) (stk h.heavy.length k) rest) ?_ ?_ ?_
    · intro H3 e3
      exact ⟨b0, s0, n, [], [], ws, none, none, none, rfl, e12.trans e3, e3 _ _ (e2 _ _ mg1), .nil, rfl, rfl, h2.ex (e12.trans e3), h5.gd.start, hv, wys⟩
    · rintro i σ' H3 hi ⟨b, k, n, rs, dn, rest, v3, v4, v5, rfl, e3, hg, rows, ed, ld, hb, hk, hvk, wy⟩
      have li : i < h.scenes.length := by omega
      generalize hL : h.scenes.drop i = L at hvk wy
      cases wy with
      | nil =>
        exfalso
        have := congrArg List.length hL
        rw [List.length_drop] at this
        have h0 : ([] : List (List Nat)).length = 0 := rfl
        omega
      | cons wy1 wy2 =>
        rename_i c l wr e0 n0 rest
        have len5 : wr.length ≤ 5001 := wl wr (by rw [← ed]; exact List.mem_append.2 (.inr (List.Mem.head _)))
        have flat5 := SM.flat_len wr
        refine q_asgL (xs := []) (el_lst ea_nil (by decide)) fun r H4 nr e4 mr => ?_
        have nr0 : H r = none := fresh_back e3 nr
        have rg : r ≠ g := fun q => by rw [q, hg] at nr; cases nr
        have rrs : r ∉ rs := fun q => by
          obtain ⟨c', hc'⟩ := rows.some r q
          rw [nr] at hc'
          cases hc'
        refine q_while (fun m σ H' => ∃ (b : Addr) (k : Sk) (n : Nat) (w1 : List Uw04.Move) (n1 : Nat) (row : List Nat) (v5 : Option V), m = w1.length ∧ σ = [some (.ref p), some (.ref g), some (.ref b), some (.int (i : Int)), some (.ref r), v5] ∧ Ex H H' ∧ H' g = some (.lst (rs.map V.ref)) ∧ Rows2 H' rs (dn.map fun w => w.flatMap Uw04.moveOut) ∧ StandAt H' b k ∧ k ∈ keysN es ∧ SM.val h (c :: l) (stk h.heavy.length k) = some n ∧ SM.Way h c (SM.val h (c :: l)) (SM.val h l) (stk h.heavy.length k) w1 e0 n1 ∧ H' r = some (.lst (nv row)) ∧ row ++ w1.flatMap Uw04.moveOut = wr.flatMap Uw04.moveOut)
          wr.length ⟨b, k, n, wr, n0, [], v5, rfl, rfl, e3.trans e4, e4 _ _ hg, rows.ex e4, hb.ex e4, hk, hvk, wy1, mr, rfl⟩ ?_
        rintro m σ5 H5 ⟨b5, k5, n5, w1, n1, row, v5', rfl, rfl, e5, hg5, rows5, hb5, hk5, hv5, way, hr5, er5⟩
        have pl5 := pl.ex e5
        obtain ⟨⟨dx5, b05, z5, ds5, wl5, ss5, tw5, q1, q2, q3, q4, q5, q6, q7⟩, _⟩ := id pl5
        refine ⟨!(onIs h.heavy.length c k5 && decide (SM.val h (c :: l) (stk h.heavy.length k5) = SM.val h l (stk h.heavy.length k5))), et_not (et_B (ev_meth (ev_var rfl) q1 (pF_no (by decide +kernel) (by decide +kernel) (by decide +kernel) (by decide +kernel) (by decide +kernel)) (ea_cons (ev_var rfl) (ea_cons (ev_var rfl) ea_nil)) ?_)), fun hb6 H6 e6 => ?_, fun hb6 H6 e6 => ?_⟩
        · intro H6 e6 Q q E
          exact ⟨p, b5, i, h, s0, k5, es, c, l, n5, rfl, pl5.ex e6, hb5.ex e6, hk5, hL, hv5, q⟩
        · -- not over yet
          cases way with
          | stop a1 a2 =>
            exfalso
            rw [fits_onIs] at a1
            rw [a1, decide_eq_true a2] at hb6
            cases hb6
          | go a1 a2 a3 a4 =>
            rename_i v y w2 n2
            refine ⟨fun σ2 H3 => ∃ m', m' < (v :: w2).length ∧ ∃ (b : Addr) (k : Sk) (n : Nat) (w1 : List Uw04.Move) (n1 : Nat) (row : List Nat) (v5 : Option V), m' = w1.length ∧ σ2 = [some (.ref p), some (.ref g), some (.ref b), some (.int (i : Int)), some (.ref r), v5] ∧ Ex H H3 ∧ H3 g = some (.lst (rs.map V.ref)) ∧ Rows2 H3 rs (dn.map fun w => w.flatMap Uw04.moveOut) ∧ StandAt H3 b k ∧ k ∈ keysN es ∧ SM.val h (c :: l) (stk h.heavy.length k) = some n ∧ SM.Way h c (SM.val h (c :: l)) (SM.val h l) (stk h.heavy.length k) w1 e0 n1 ∧ H3 r = some (.lst (nv row)) ∧ row ++ w1.flatMap Uw04.moveOut = wr.flatMap Uw04.moveOut, fun σ2 H3 q => q, ?_⟩
            have pf := SM.pick_find (F := fun j => SM.val h (c :: l) (stk h.heavy.length j)) h5.gd (fun _ _ => rfl) hk5 a2 a3
            have ms := List.mem_of_find?_eq_some pf
            have ky := h5.gd.closed k5 hk5 _ ms
            have bst := List.find?_some pf
            obtain ⟨z9, hz9⟩ : ∃ z9, SM.val h (c :: l) (stk h.heavy.length (SM.skOf y.1)) = some z9 := by
              unfold SM.best1 at bst
              dsimp only at bst
              cases q : SM.val h (c :: l) (stk h.heavy.length (SM.skOf y.1)) with
              | none => rw [q] at bst; cases bst
              | some z9 => exact ⟨z9, rfl⟩
            have est := (SM.stk_fine_next (h5.gd.fine k5 hk5) a3).2
            refine q_methA (ev_var rfl) (e6 _ _ q1) (pF_no (by decide +kernel) (by decide +kernel) (by decide +kernel) (by decide +kernel) (by decide +kernel)) (ea_cons (ev_var rfl) (ea_cons (ev_var rfl) ea_nil)) fun H7 e7 => ?_
            refine ⟨p, b5, i, h, s0, k5, es, c, l, n5, _, rfl, pl5.ex (e6.trans e7), hb5.ex (e6.trans e7), hk5, hL, hv5, pf, fun q H8 e8 sq => ?_⟩
            obtain ⟨dq, cq, bq, s1, s2, s3⟩ := id sq
            have e58 := e6.trans (e7.trans e8)
            have hr8 := e58 _ _ hr5
            have lrow : row.length + (Uw04.moveOut v).length ≤ 10002 := by
              have := congrArg List.length er5
              rw [List.flatMap_cons, List.length_append, List.length_append] at this
              omega
            refine q_extT hr8 s2 (ev_var rfl) (ev_fld (ev_var rfl) s1 T.cl_Step T.n_Step_carrying stF_carrying) (by rw [nv_length, nv_length]; dsimp only; omega) fun H9 e9 => ?_
            have hr9 := e9 _ _ hr8
            have kp9 : Kp H9 (upd H9 r (.lst (nv row ++ nv (Uw04.moveOut v)))) := .lst hr9
            have s19 := kp9.2 _ _ _ _ (e9 _ _ s1)
            refine s_asg (ev_fld (ev_var rfl) s19 T.cl_Step T.n_Step_after stF_after) fun H10 e10 => ?_
            refine ⟨w2.length, Nat.lt_succ_self _, bq, SM.skOf y.1, z9, w2, n2, row ++ Uw04.moveOut v, _, rfl, rfl, ?_, ?_, ?_, ?_, ky, hz9, by rw [est]; exact a4, ?_, ?_⟩
            · exact (Ex.mut (e5.trans (e58.trans e9)) nr0).trans e10
            · exact e10 _ _ ((upd_ne rg.symm).trans (e9 _ _ (e58 _ _ hg5)))
            · refine ((rows5.ex (e58.trans e9)).mono fun a ha o q => ?_).ex e10
              have na : a ≠ r := fun z => rrs (z ▸ ha)
              exact (upd_ne na).trans q
            · exact ((s3.ex e9).kp kp9).ex e10
            · rw [← nv_append]
              exact e10 _ _ upd_same
            · rw [← er5, List.flatMap_cons, List.append_assoc]
        · -- over
          have ov6 : onIs h.heavy.length c k5 = true ∧ SM.val h (c :: l) (stk h.heavy.length k5) = SM.val h l (stk h.heavy.length k5) := by
            simpa using hb6
          cases way with
          | go a1 a2 a3 a4 =>
            exfalso
            apply a1
            rw [fits_onIs]
            exact ov6
          | stop a1 a2 =>
            rw [List.flatMap_nil, List.append_nil] at er5
            subst er5
            have hg6 := e6 _ _ hg5
            have lrs : rs.length ≤ 4 := by
              rw [rows.length, List.length_map, ld]
              have := pl.few
              omega
            refine s_app hg6 (ev_var rfl) (ev_var rfl) (by rw [List.length_map]; omega) fun H7 e7 => ?_
            have hg7 := e7 _ _ hg6
            have e67 := e6.trans e7
            have em2 : List.map V.ref rs ++ [V.ref r] = (rs ++ [r]).map V.ref := by rw [List.map_append]; rfl
            obtain ⟨_, dr2, _⟩ := drop_cons hL
            have grs : g ∉ rs ++ [r] := fun q => by
              rcases List.mem_append.1 q with q | q
              · obtain ⟨c', hc'⟩ := rows.some g q
                rw [hg] at hc'
                cases rs with
                | nil => cases q
                | cons a as =>
                  cases c' with
                  | nil => cases hc'
                  | cons x xs => cases hc'
              · exact rg (List.mem_singleton.1 q).symm
            refine ⟨b5, k5, n5, rs ++ [r], dn ++ [wr], rest, _, _, _, rfl, Ex.mut (e5.trans e67) ng, ?_, ?_, ?_, ?_, (hb5.ex e67).kp (.lst hg7), hk5, ?_, ?_⟩
            · rw [upd_same, em2]
            · rw [List.map_append]
              refine Rows2.mono (Rows2.snoc (rows5.ex e67) (e67 _ _ hr5)) fun a ha o q => ?_
              have na : a ≠ g := fun z => grs (z ▸ ha)
              exact (upd_ne na).trans q
            · rw [List.append_assoc]
              exact ed
            · rw [List.length_append, ld]
              rfl
            · rw [dr2, ← ov6.2]
              exact hv5
            · rw [dr2]
              exact wy2
    · rintro σ' H3 ⟨b, k, n, rs, dn, rest, v3, v4, v5, rfl, e3, hg, rows, ed, ld, hb, hk, hvk, wy⟩
      rw [Int.toNat_natCast, List.drop_length] at wy
      cases wy
      rw [List.append_nil] at ed
      subst ed
      exact s_ret (ev_var rfl) fun H4 e4 => kk g rs H4 ng (e3.trans e4) (e4 _ _ hg) (rows.ex e4)
end
end SC

namespace SC
open PySem PySem.Spec PyProof.Rows L2 Evl
open SM (toZ Sk Sp3 onOf stepsOf stk Fine Good low Lo CanK Pass todo)
/-- an answer at t: its number, its rows -/
def AnsAt (H : Hp) (t : Addr) (a : Uw04.Ans) : Prop := ∃ r rs, H t = some (.tup [.int a.v, .ref r]) ∧ H r = some (.lst (rs.map V.ref)) ∧ Rows2 H rs a.l
theorem AnsAt.ex {H H' : Hp} {t : Addr} {a : Uw04.Ans} (h : AnsAt H t a) (e : Ex H H') : AnsAt H' t a := by
  obtain ⟨r, rs, h1, h2, h3⟩ := h
  exact ⟨r, rs, e _ _ h1, e _ _ h2, h3.ex e⟩
/-! ### lists of rows -/
def EvLi (te : TE) (σ : L2.St) (H : Hp) (xs : List V) : Prop := ∀ H1, Ex H H1 → ∀ Q : VK, (∀ p H2, Ex H1 H2 → H2 p = some (.lst xs) → Q (.ref p) H2) → te σ H1 Q
def EvAr (ta : TA) (σ : L2.St) (H : Hp) (ls : List (List Nat)) : Prop := ∀ H1, Ex H H1 → ∀ Q : List V → Hp → Prop, (∀ rs H2, Ex H1 H2 → Rows2 H2 rs ls → Q (rs.map V.ref) H2) → ta σ H1 Q
def EvRo (te : TE) (σ : L2.St) (H : Hp) (ls : List (List Nat)) : Prop := ∀ H1, Ex H H1 → ∀ Q : VK, (∀ r rs H2, Ex H1 H2 → H2 r = some (.lst (rs.map V.ref)) → Rows2 H2 rs ls → Q (.ref r) H2) → te σ H1 Q
section
variable {K : PySem.W.Frag} {σ : L2.St} {H : Hp} {ta te tv tr : TE} {t1 t2 : TA} {D : Ends} {tz tu : TS}
theorem li_new {xs : List V} (h : EvL te σ H xs) : EvLi te σ H xs := fun H1 e Q q => h H1 e _ fun p H2 _ e2 h2 => q p H2 e2 h2
theorem li_var {a : Addr} {xs : List V} (h : Ev te σ H (.ref a)) (ha : H a = some (.lst xs)) : EvLi te σ H xs := fun H1 e Q q => h H1 e _ fun H2 e2 => q a H2 e2 (e2 _ _ (e _ _ ha))
theorem ar_nil : EvAr tNil σ H [] := fun H1 _ _ q => q [] H1 (Ex.refl H1) .nil
theorem ar_cons {c : List Nat} {ls : List (List Nat)} (h : EvLi te σ H (nv c)) (hr : EvAr t1 σ H ls) : EvAr (tCons te t1) σ H (c :: ls) := fun H1 e Q q =>
  h H1 e _ fun p H2 e2 h2 => hr H2 (e.trans e2) _ fun rs H3 e3 h3 => q (p :: rs) H3 (e2.trans e3) (.cons (e3 _ _ h2) h3)
theorem ro_lst {ls : List (List Nat)} (h : EvAr t1 σ H ls) (hl : ls.length ≤ 1000) : EvRo (tLst t1) σ H ls := fun H1 e Q q =>
  h H1 e _ fun rs H2 e2 h2 => ⟨sz_of (by rw [List.length_map, h2.length]; omega), fun p hp => q p rs _ (e2.trans (Ex.new hp)) upd_same (h2.ex (Ex.new hp))⟩
theorem s_retA {v : Int} {ls : List (List Nat)} (h1 : Ev tv σ H (.int v)) (h2 : EvRo tr σ H ls) (k : ∀ t H2, Ex H H2 → AnsAt H2 t ⟨v, ls⟩ → D.rt (.ref t) H2) : tRet (tTup (tCons tv (tCons tr tNil))) D σ H :=
  h1 H (Ex.refl H) _ fun H1 e1 => h2 H1 e1 _ fun r rs H2 e2 h3 h4 => ⟨by show 2 ≤ sizeLine; decide, fun p hp => k p _ ((e1.trans e2).trans (Ex.new hp)) ⟨r, rs, upd_same, Ex.new hp _ _ h3, h4.ex (Ex.new hp)⟩⟩
def rTupS (K : PySem.W.Frag) : List V → Hp → VK → Prop := fun xs H Q => ∃ p ys, xs = [.ref p] ∧ ((SqL K H p ys ∧ ∀ l, H l = none → Q (.ref l) (upd H l (.tup ys))) ∨ (SqT K H p ys ∧ Q (.ref p) H))
theorem tu_of {p : Addr} {xs : List V} (h : Ev ta σ H (.ref p)) (hp : SqL K H p xs) : EvTu (tCB (rTupS K) (tCons ta tNil)) σ H xs := fun H1 e Q q =>
  h H1 e _ fun H2 e2 => ⟨p, xs, rfl, .inl ⟨ex_l (e.trans e2) hp, fun l hl => q l _ (e2.trans (Ex.new hl)) upd_same⟩⟩
/-- for i, x in enumerate(xs) -/
theorem q_forEn {a : Addr} {xs : List V} {j1 j2 : Nat} (h : EvA t1 σ H [.ref a]) (hx : SqL K H a xs) (Pv : Nat → L2.St → Hp → Prop) (h0 : ∀ H1, Ex H H1 → Pv 0 σ H1) (hl : ∀ i σ' H', Pv i σ' H' → SqL K H' a xs)
    (hs : ∀ i x σ' H' H2, xs[i]? = some x → Pv i σ' H' → Ex H' H2 → tu { D with nx := Pv (i + 1), ct := Pv (i + 1), bk := tz D } ((σ'.set j1 (some (.int (i : Nat)))).set j2 (some x)) H2) (hd : ∀ σ' H', Pv xs.length σ' H' → tz D σ' H') :
    tSeq (tFor (iEnum K t1) (gTup K 2 (gCons (gName j1) (gCons (gName j2) gNil))) tu) tz D σ H := by
  refine h H (Ex.refl H) _ fun H1 e1 => ⟨a, xs, rfl, ex_l e1 hx, fun i m σ' H' => m = xs.length - i ∧ i ≤ xs.length ∧ Pv i σ' H', ⟨xs.length, by simp, Nat.zero_le _, h0 H1 e1⟩, ?_⟩
  rintro i m σ' H' ⟨rfl, hi, p⟩
  have q := hl i σ' H' p
  by_cases lt : i < xs.length
  · refine .inr ⟨⟨xs, xs[i], q, List.getElem?_eq_getElem lt⟩, Pv (i + 1), fun σ2 H2 p2 => ⟨xs.length - (i + 1), by omega, rfl, lt, p2⟩, ?_⟩
    rintro v H2 ⟨T, x, rfl, nT, rfl, hxx⟩
    refine ⟨T, _, rfl, st_of upd_same, rfl, _, _, rfl, _, _, rfl, rfl, ?_⟩
    exact hs i x σ' H' _ (hxx xs q) p (Ex.new nT)
  · have e : i = xs.length := by omega
    subst e
    exact .inl ⟨⟨xs, q, Nat.le_refl _⟩, hd σ' H' p⟩
end
/-! ### the carryings one behind another -/
def addW (W : Nat) : Except Nat (Uw04.Stand × Nat) → Except Nat (Uw04.Stand × Nat)
  | .error e => .error e
  | .ok y => .ok (y.1, W + y.2)
theorem addW_add (a b : Nat) (r : Except Nat (Uw04.Stand × Nat)) : addW a (addW b r) = addW (a + b) r := by
  cases r with
  | error e => rfl
  | ok y =>
    show Except.ok (y.1, a + (b + y.2)) = Except.ok (y.1, a + b + y.2)
    rw [Nat.add_assoc]
theorem addW_zero (r : Except Nat (Uw04.Stand × Nat)) : addW 0 r = r := by
  cases r with
  | error e => rfl
  | ok y =>
    show Except.ok (y.1, 0 + y.2) = Except.ok y
    rw [Nat.zero_add]
theorem follow_none {h : Uw04.House} {i : Nat} {s : Uw04.Stand} {m : Uw04.Move} {l : List Uw04.Move} (e : h.does s m = none) : h.follow i s (m :: l) = .error i := by
  unfold Uw04.House.follow
  rw [e]
theorem follow_some {h : Uw04.House} {i : Nat} {s : Uw04.Stand} {m : Uw04.Move} {l : List Uw04.Move} {x : Uw04.Stand × Nat} (e : h.does s m = some x) : h.follow i s (m :: l) = addW (h.weight x.2) (h.follow (i + 1) x.1 l) := by
  conv => lhs; unfold Uw04.House.follow
  rw [e]
  dsimp only
  cases h.follow (i + 1) x.1 l <;> rfl
/-- carryings as they are told -/
inductive Cars (H : Hp) : List Addr → List Uw04.Move → Prop
  | nil : Cars H [] []
  | cons {c cs m ms} : H c = some (.tup (nv (Uw04.moveOut m))) → Cars H cs ms → Cars H (c :: cs) (m :: ms)
theorem Cars.kp {H H' : Hp} {cs : List Addr} {ms : List Uw04.Move} (h : Cars H cs ms) (e : Kp H H') : Cars H' cs ms := by
  induction h with
  | nil => exact .nil
  | cons a _ ih => exact .cons (e.1 _ _ a) ih
theorem Cars.snoc {H : Hp} {cs : List Addr} {ms : List Uw04.Move} {c : Addr} {m : Uw04.Move} (h : Cars H cs ms) (q : H c = some (.tup (nv (Uw04.moveOut m)))) : Cars H (cs ++ [c]) (ms ++ [m]) := by
  induction h with
  | nil => exact .cons q .nil
  | cons a _ ih => exact .cons a ih
theorem Cars.length {H : Hp} {cs : List Addr} {ms : List Uw04.Move} (h : Cars H cs ms) : cs.length = ms.length := by
  induction h with
  | nil => rfl
  | cons _ _ ih => exact congrArg (· + 1) ih
theorem Cars.get {H : Hp} {cs : List Addr} {ms : List Uw04.Move} (h : Cars H cs ms) : ∀ {i : Nat} {c : Addr}, cs[i]? = some c → ∃ m, ms[i]? = some m ∧ H c = some (.tup (nv (Uw04.moveOut m))) := by
  induction h with
  | nil => intro i p e; simp at e
  | cons a _ ih =>
    intro i p e
    cases i with
    | zero =>
      cases e
      exact ⟨_, rfl, a⟩
    | succ j => exact ih e
theorem stk_st {st : Uw04.St} (k : SM.StOk st) : stk st.house.heavy.length (SM.skOf st.stand) = st.stand := SM.stk_of k.st
section
variable {P : Program} {w : World} {K : PySem.W.Frag} {mg : Str → Option Value} {base : Heap}
/-! ### standing, plan -/
def spNow (C : Addr) : Sp := fun vs H Q _ => ∃ (a : Addr) (L : List Addr) (st : Uw04.St), vs = [.ref a] ∧ HouseAt C H a L st ∧ ∀ b H2, Ex H H2 → StandAt H2 b (SM.skOf st.stand) → Q (.ref b) H2
theorem ok_House_standing (T : Tx K mg) : FnOk P w K mg base CX0 1 T.f_House_standing T.d_House_standing ["self"] (spNow T.C_House) := by
  refine T.h_House_standing.F.ok sc_House_standing (fun vs H Q E h => ?_) (fun cdv A outer s H vs Q E hr h => ?_)
  · obtain ⟨a, L, st, rfl, _⟩ := h
    rfl
  · obtain ⟨a, L, st, rfl, hH, k⟩ := h
    refine ⟨_, (pss_one (ps_ret (pe_tup (pa_cons (pe_callTy call_tuple_of (by rfl) T.b_tuple (by decide +kernel) (pa_cons (pe_fld (pv 0) rfl) pa_nil)) (pa_cons (pe_callTy call_tuple_of (by rfl) T.b_tuple (by decide +kernel) (pa_cons (pe_fld (pv 0) rfl) pa_nil)) pa_nil))))), ?_⟩
    obtain ⟨dx, z, ah, al, ar, ss, hL, q1, q2, q3, q4, q5, q6, q7⟩ := hH
    have t := sd_pair (σ := [some (.ref a)]) (tu_of (K := K) (ta := tFld K (tVar 0) "left") (ev_fld (ev_var rfl) q1 T.cl_House T.n_House_left hF_left) (SqL.of q3)) (tu_of (K := K) (ta := tFld K (tVar 0) "right") (ev_fld (ev_var rfl) q1 T.cl_House T.n_House_right hF_right) (SqL.of q4))
    exact t H (Ex.refl H) _ fun b H2 e2 hb => k b H2 e2 hb
def spPlan (w : World) (C CP CS : Addr) : Sp := fun vs H Q _ => ∃ (a : Addr) (L : List Addr) (st : Uw04.St), vs = [.ref a] ∧ HouseAt C H a L st ∧ SM.StOk st ∧ ∀ p es H2, Ex H H2 → PlanAt w CP CS H2 p st.house (SM.skOf st.stand) es → Q (.ref p) H2
theorem ok_House_plan (T : Tx K mg) : FnOk P w K mg base CX0 7 T.f_House_plan T.d_House_plan ["self"] (spPlan w T.C_House T.C_Plan T.C_Step) := by
  refine T.h_House_plan.F.ok sc_House_plan (fun vs H Q E h => ?_) (fun cdv A outer s H vs Q E hr h => ?_)
  · obtain ⟨a, L, st, rfl, _⟩ := h
    rfl
  · obtain ⟨a, L, st, rfl, hH, hst, k⟩ := h
    have hrM : Room 6 _ := hr
    have hr_House_standing : Room 1 _ := hr.mono (by decide)
    refine ⟨_, (pss_one (ps_ret (pe_make T.mk_Plan (ok_Plan_init T) hrM rfl T.gC_Plan T.h_Plan_init.b .nil pass0 (pa_cons (pe_fld (pv 0) rfl) (pa_cons (pe_fld (pv 0) rfl) (pa_cons (pe_fld (pv 0) rfl) (pa_cons (pe_meth0 (pv 0) T.cl_House T.m_House_standing (ok_House_standing T) hr_House_standing T.h_House_standing.b .nil pass0) (pa_cons (pe_fld (pv 0) rfl) pa_nil)))))))), ?_⟩
    obtain ⟨dx, z, ah, al, ar, ss, hL, q1, q2, q3, q4, q5, q6, q7⟩ := id hH
    refine ⟨_, rfl, _, _, _, _, _, rfl, q1, T.cl_House, T.n_House_heavy, hF_heavy, _, rfl, _, _, _, _, _, rfl, q1, T.cl_House, T.n_House_left_room, hF_left_room, _, rfl, _, _, _, _, _, rfl, q1, T.cl_House, T.n_House_right_room, hF_right_room, _, rfl, a, dx, _, rfl, q1, hF_no (by decide +kernel) (by decide +kernel) (by decide +kernel) (by decide +kernel) (by decide +kernel) (by decide +kernel), a, L, st, rfl, hH, fun b H2 e2 hb => ⟨_, rfl, _, _, _, _, _, rfl, e2 _ _ q1, T.cl_House, T.n_House_scenes, hF_scenes, fun x dxx nx ndx ne => ?_⟩⟩
    have s3 : Ex H2 (upd (upd H2 dxx (.own x)) x (.ins T.C_Plan dxx [])) := fun c o hc => by rw [upd_ne (ne_of_none hc nx), upd_ne (ne_of_none hc ndx)]; exact hc
    have e3 := e2.trans s3
    refine ⟨x, dxx, ah, b, z, ss, st.house, SM.skOf st.stand, rfl, upd_same, e3 _ _ q2, hb.ex s3, by rw [stk_st hst]; exact hst.st, hst.sound, hst.many, hst.ra, hst.rb, hst.few, e3 _ _ q5, q6.ex e3, fun H' es pl f => ⟨rfl, ?_⟩⟩
    have s4 : Ex H2 H' := fun c o hc => f _ _ (s3 _ _ hc) (ne_of_none hc nx)
    exact k x es H' (e2.trans s4) pl
/-! ### least, ways -/
theorem least_val2 {st : Uw04.St} (k : SM.StOk st) : SM.val st.house st.house.scenes (stk st.house.heavy.length (SM.skOf st.stand)) = st.house.least st.stand := by
  rw [stk_st k]
  rfl
def spHLeast (C : Addr) : Sp := fun vs H Q _ => ∃ (a : Addr) (L : List Addr) (st : Uw04.St), vs = [.ref a] ∧ HouseAt C H a L st ∧ SM.StOk st ∧ RetV (.int (Uw04.step st .least).2.v) H Q
theorem ok_House_least (T : Tx K mg) : FnOk P w K mg base CX0 8 T.f_House_least T.d_House_least ["self"] (spHLeast T.C_House) := by
  refine T.h_House_least.F.ok sc_House_least (fun vs H Q E h => ?_) (fun cdv A outer s H vs Q E hr h => ?_)
  · obtain ⟨a, L, st, rfl, _⟩ := h
    rfl
  · obtain ⟨a, L, st, rfl, hH, hst, k⟩ := h
    have hr_House_plan : Room 7 _ := hr
    have hr_Plan_least : Room 1 _ := hr.mono (by decide)
    refine ⟨_, (pss_cons (ps_set (i := 1) sc_House_least.nd rfl (.inl rfl) (pe_meth0 (pe_meth0 (pv 0) T.cl_House T.m_House_plan (ok_House_plan T) hr_House_plan T.h_House_plan.b .nil pass0) T.cl_Plan T.m_Plan_least (ok_Plan_least T) hr_Plan_least T.h_Plan_least.b .nil pass0))
      (pss_cons (ps_if (pt_cmpR op_isN (pv 1) pe_non (nomark _))
        (pss_one (ps_ret (pe_un un_neg pe_int)))
        pss_nil)
      (pss_one (ps_ret (pv 1))))), ?_⟩
    obtain ⟨dx, z, ah, al, ar, ss, hL, q1, _⟩ := id hH
    refine ⟨_, rfl, a, dx, _, rfl, q1, hF_no (by decide +kernel) (by decide +kernel) (by decide +kernel) (by decide +kernel) (by decide +kernel) (by decide +kernel), a, L, st, rfl, hH, hst, fun p es H2 e2 pl => ?_⟩
    obtain ⟨⟨dxp, b0, z0, ds, wl0, ss0, tw, h1, _⟩, _⟩ := id pl
    refine ⟨p, dxp, _, rfl, h1, pF_no (by decide +kernel) (by decide +kernel) (by decide +kernel) (by decide +kernel) (by decide +kernel), p, st.house, SM.skOf st.stand, es, rfl, pl, ?_⟩
    rw [least_val2 hst]
    intro H3 e3
    have k' : RetV (.int (match st.house.least st.stand with | some n => Uw04.ok (n : Nat) | none => Uw04.ok (-6)).v) H Q := k
    cases hv : st.house.least st.stand with
    | none =>
      rw [hv] at k'
      refine q_when (b := true) (et_test (ev_op (ev_var rfl) ev_c (rv_isN (x := V.non)))) (fun _ H4 e4 => ?_) (fun z => nomatch z)
      exact s_ret (ev_un ev_c ru_neg) fun H5 e5 => k'.go (e2.trans (e3.trans (e4.trans e5)))
    | some n =>
      rw [hv] at k'
      refine q_when (b := false) (et_test (ev_op (ev_var rfl) ev_c (rv_isN (x := V.int (n : Int))))) (fun z => nomatch z) (fun _ H4 e4 => ?_)
      exact s_ret (ev_var rfl) fun H5 e5 => k'.go (e2.trans (e3.trans (e4.trans e5)))
def spHWays (C : Addr) : Sp := fun vs H Q _ => ∃ (a : Addr) (L : List Addr) (st : Uw04.St), vs = [.ref a] ∧ HouseAt C H a L st ∧ SM.StOk st ∧ ∀ t H2, Ex H H2 → AnsAt H2 t (Uw04.step st .ways).2 → Q (.ref t) H2
theorem ok_House_ways (T : Tx K mg) : FnOk P w K mg base CX0 8 T.f_House_ways T.d_House_ways ["self"] (spHWays T.C_House) := by
  refine T.h_House_ways.F.ok sc_House_ways (fun vs H Q E h => ?_) (fun cdv A outer s H vs Q E hr h => ?_)
  · obtain ⟨a, L, st, rfl, _⟩ := h
    rfl
  · obtain ⟨a, L, st, rfl, hH, hst, k⟩ := h
    have hr_House_plan : Room 7 _ := hr
    have hr_Plan_least : Room 1 _ := hr.mono (by decide)
    have hr_Plan_rows : Room 3 _ := hr.mono (by decide)
    refine ⟨_, (pss_cons (ps_set (i := 1) sc_House_ways.nd rfl (.inl rfl) (pe_meth0 (pv 0) T.cl_House T.m_House_plan (ok_House_plan T) hr_House_plan T.h_House_plan.b .nil pass0))
      (pss_cons (ps_set (i := 2) sc_House_ways.nd rfl (.inl rfl) (pe_meth0 (pv 1) T.cl_Plan T.m_Plan_least (ok_Plan_least T) hr_Plan_least T.h_Plan_least.b .nil pass0))
      (pss_cons (ps_if (pt_cmpR op_isN (pv 2) pe_non (nomark _))
        (pss_one (ps_ret (pe_tup (pa_cons (pe_un un_neg pe_int) (pa_cons (pe_lst pa_nil) pa_nil)))))
        pss_nil)
      (pss_one (ps_ret (pe_tup (pa_cons (pv 2) (pa_cons (pe_meth0 (pv 1) T.cl_Plan T.m_Plan_rows (ok_Plan_rows T) hr_Plan_rows T.h_Plan_rows.b .nil pass0) pa_nil)))))))), ?_⟩
    obtain ⟨dx, z, ah, al, ar, ss, hL, q1, _⟩ := id hH
    refine ⟨_, rfl, a, dx, _, rfl, q1, hF_no (by decide +kernel) (by decide +kernel) (by decide +kernel) (by decide +kernel) (by decide +kernel) (by decide +kernel), a, L, st, rfl, hH, hst, fun p es H2 e2 pl => ?_⟩
    obtain ⟨⟨dxp, b0, z0, ds, wl0, ss0, tw, h1, _⟩, _⟩ := id pl
    have nm : ∀ m : Str, (m == ("many" : Str)) = false → (m == ("start" : Str)) = false → (m == ("scenes" : Str)) = false → (m == ("steps" : Str)) = false → (m == ("weights" : Str)) = false → List.lookup m (pF (.int st.house.heavy.length) (.ref b0) (.ref z0) (.ref ds) (.ref wl0)) = none := fun m a1 a2 a3 a4 a5 => pF_no a1 a2 a3 a4 a5
    refine q_asg (v := ov (st.house.least st.stand)) (ev_meth (ev_var rfl) h1 (nm _ (by decide +kernel) (by decide +kernel) (by decide +kernel) (by decide +kernel) (by decide +kernel)) ea_nil ?_) fun H3 e3 => ?_
    · intro H3 e3 Q q E
      refine ⟨p, st.house, SM.skOf st.stand, es, rfl, pl.ex e3, ?_⟩
      rw [least_val2 hst]
      exact q
    have k' : ∀ t H2, Ex H H2 → AnsAt H2 t (match st.house.least st.stand with | some n => ⟨(n : Nat), (st.house.ways st.stand).map fun w => w.flatMap Uw04.moveOut⟩ | none => Uw04.ok (-6)) → Q (.ref t) H2 := k
    cases hv : st.house.least st.stand with
    | none =>
      rw [hv] at k'
      refine q_when (b := true) (et_test (ev_op (ev_var rfl) ev_c (rv_isN (x := V.non)))) (fun _ H4 e4 => ?_) (fun z => nomatch z)
      exact s_retA (ev_un ev_c ru_neg) (ro_lst (ls := []) ar_nil (by decide)) fun t H5 e5 h5 => k' t H5 (e2.trans (e3.trans (e4.trans e5))) h5
    | some n =>
      rw [hv] at k'
      refine q_when (b := false) (et_test (ev_op (ev_var rfl) ev_c (rv_isN (x := V.int (n : Int))))) (fun z => nomatch z) (fun _ H4 e4 => ?_)
      have e34 := e3.trans e4
      refine s_retA (v := (n : Int)) (ls := (st.house.ways st.stand).map fun w => w.flatMap Uw04.moveOut) (ev_var rfl) ?_ fun t H5 e5 h5 => k' t H5 (e2.trans (e34.trans e5)) h5
      intro H5 e5 Q5 q5
      refine ⟨_, rfl, p, dxp, _, rfl, e5 _ _ (e34 _ _ h1), nm _ (by decide +kernel) (by decide +kernel) (by decide +kernel) (by decide +kernel) (by decide +kernel), p, st.house, SM.skOf st.stand, es, n, st.house.ways st.stand, rfl, pl.ex (e34.trans e5), ?_, ?_, SM.ways_len hst.sound hst.many hst.ra hst.rb _, fun g rs H6 ng e6 hg rows => q5 g rs H6 e6 hg rows⟩
      · rw [least_val2 hst]
        exact hv
      · rw [stk_st hst]
        exact SM.ways_ways hst.sound hst.mem hv
/-! ### check -/
def spCheck (C : Addr) : Sp := fun vs H Q _ => ∃ (a cl : Addr) (L : List Addr) (st : Uw04.St) (cs : List Addr) (ms : List Uw04.Move), vs = [.ref a, .ref cl] ∧ HouseAt C H a L st ∧ SM.StOk st ∧ H cl = some (.lst (cs.map V.ref)) ∧ Cars H cs ms ∧ ∀ t H2, Ex H H2 → AnsAt H2 t (Uw04.step st (.check ms)).2 → Q (.ref t) H2
theorem ok_House_check (T : Tx K mg) : FnOk P w K mg base CX0 4 T.f_House_check T.d_House_check ["self", "carryings"] (spCheck T.C_House) := by
  refine T.h_House_check.F.ok sc_House_check (fun vs H Q E h => ?_) (fun cdv A outer s H vs Q E hr h => ?_)
  · obtain ⟨a, cl, L, st, cs, ms, rfl, _⟩ := h
    rfl
  · obtain ⟨a, cl, L, st, cs, ms, rfl, hH, hst, hcl, cars, k⟩ := h
    have hr_House_standing : Room 1 _ := hr.mono (by decide)
    have hr_step_by : Room 1 _ := hr.mono (by decide)
    have hr_pieces_on : Room 1 _ := hr.mono (by decide)
    have hr_steps_from : Room 3 _ := hr
    refine ⟨_, (pss_cons (ps_set (i := 2) sc_House_check.nd rfl (.inl rfl) pe_int)
      (pss_cons (ps_set (i := 3) sc_House_check.nd rfl (.inl rfl) (pe_meth0 (pv 0) T.cl_House T.m_House_standing (ok_House_standing T) hr_House_standing T.h_House_standing.b .nil pass0))
      (pss_cons (ps_for PassesOwn.never rfl (pi_enum (by rfl) T.b_enumerate (pa_cons (pv 1) pa_nil)) (pg_tup rfl (pgs_cons (pg_name (i := 4) sc_House_check.nd rfl (.inl rfl)) (pgs_cons (pg_name (i := 5) sc_House_check.nd rfl (.inl rfl)) pgs_nil)))
        (pss_cons (ps_set (i := 6) sc_House_check.nd rfl (.inl rfl) (pe_call (ok_step_by T) hr_step_by rfl T.h_step_by.g T.h_step_by.F.kp T.h_step_by.b .nil pass0 (pa_cons (pe_call (ok_steps_from T) hr_steps_from rfl T.h_steps_from.g T.h_steps_from.F.kp T.h_steps_from.b .nil pass0 (pa_cons (pe_fld (pv 0) rfl) (pa_cons (pe_fld (pv 0) rfl) (pa_cons (pe_fld (pv 0) rfl) (pa_cons (pv 3) pa_nil))))) (pa_cons (pv 5) pa_nil))))
        (pss_cons (ps_if (pt_cmpR op_isN (pv 6) pe_non (nomark _))
          (pss_one (ps_ret (pe_tup (pa_cons pe_int (pa_cons (pe_lst (pa_cons (pe_lst (pa_cons (pv 4) pa_nil)) pa_nil)) pa_nil)))))
          pss_nil)
        (pss_cons (ps_set (i := 2) sc_House_check.nd rfl (.inl rfl) (pe_op op_add (pv 2) (pe_fld (pv 6) rfl)))
        (pss_one (ps_set (i := 3) sc_House_check.nd rfl (.inl rfl) (pe_fld (pv 6) rfl)))))))
      (pss_cons (ps_set (i := 7) sc_House_check.nd rfl (.inl rfl) (pe_call (ok_pieces_on T) hr_pieces_on rfl T.h_pieces_on.g T.h_pieces_on.F.kp T.h_pieces_on.b .nil pass0 (pa_cons (pe_callB call_len_seq (by rfl) T.b_len (by decide +kernel) (pa_cons (pe_fld (pv 0) rfl) pa_nil)) (pa_cons (pv 3) pa_nil))))
      (pss_one (ps_ret (pe_tup (pa_cons pe_int (pa_cons (pe_lst (pa_cons (pe_lst (pa_cons (pv 2) pa_nil)) (pa_cons (pv 7) (pa_cons (pe_callTy call_list_of (by rfl) T.b_list (by decide +kernel) (pa_cons (pe_ix ix_tup (pv 3) pe_int (fun _ _ => rfl)) pa_nil)) (pa_cons (pe_callTy call_list_of (by rfl) T.b_list (by decide +kernel) (pa_cons (pe_ix ix_tup (pv 3) pe_int (fun _ _ => rfl)) pa_nil)) pa_nil))))) pa_nil))))))))), ?_⟩
    obtain ⟨dx, z, ah, al, ar, ss, hL, q1, q2, q3, q4, q5, q6, q7⟩ := id hH
    have k' : ∀ t H2, Ex H H2 → AnsAt H2 t (match st.house.follow 0 st.stand ms with | .ok x => ⟨1, [[x.2], x.1.on, x.1.left, x.1.right]⟩ | .error i => ⟨0, [[i]]⟩) → Q (.ref t) H2 := k
    refine q_asg ev_c fun H1 e1 => ?_
    refine ⟨_, rfl, a, dx, _, rfl, e1 _ _ q1, hF_no (by decide +kernel) (by decide +kernel) (by decide +kernel) (by decide +kernel) (by decide +kernel) (by decide +kernel), a, L, st, rfl, hH.mono e1, fun b H2 e2 hb => ?_⟩
    have e12 := e1.trans e2
    refine q_forEn (xs := cs.map V.ref) (ea_cons (ev_var rfl) ea_nil) (SqL.of (e12 _ _ hcl))
      (fun i σ H' => ∃ (W : Nat) (b : Addr) (k : Sk) (v4 v5 v6 : Option V), σ = [some (.ref a), some (.ref cl), some (.int (W : Int)), some (.ref b), v4, v5, v6, none] ∧ Ex H H' ∧ StandAt H' b k ∧ Fine st.house (stk st.house.heavy.length k) ∧ st.house.follow 0 st.stand ms = addW W (st.house.follow i (stk st.house.heavy.length k) (ms.drop i))) ?_ (fun i σ' H' q => by obtain ⟨_, _, _, _, _, _, _, e, _⟩ := q; exact SqL.of (e _ _ hcl)) ?_ ?_
    · intro H3 e3
      refine ⟨0, b, SM.skOf st.stand, none, none, none, rfl, e12.trans e3, hb.ex e3, by rw [stk_st hst]; exact hst.st, ?_⟩
      rw [addW_zero, stk_st hst]
      rfl
    · rintro i x σ' H0 H3 hi ⟨W, b, k, v4, v5, v6, rfl, e0, hb, hf, ef⟩ e03
      rw [List.getElem?_map] at hi
      obtain ⟨c, hc, rfl⟩ := Option.map_eq_some_iff.1 hi
      obtain ⟨m, hm, hcm⟩ := cars.get hc
      have e3 := e0.trans e03
      have hb3 := hb.ex e03
      rw [drop_at hm] at ef
      -- step_by(steps_from(..), carrying)
      refine ⟨_, rfl, _, _, _, _, _, rfl, e3 _ _ q1, T.cl_House, T.n_House_heavy, hF_heavy, _, rfl, _, _, _, _, _, rfl, e3 _ _ q1, T.cl_House, T.n_House_left_room, hF_left_room, _, rfl, _, _, _, _, _, rfl, e3 _ _ q1, T.cl_House, T.n_House_right_room, hF_right_room, _, rfl, ah, b, st.house, k, rfl, e3 _ _ q2, hb3, hf, hst.many, fun p ps H4 np e4 hp hs => ⟨_, rfl, p, c, ps, stepsOf st.house k, m, rfl, hp, hs, e4 _ _ (e3 _ _ hcm), fun H5 e5 => ?_⟩⟩
      have e45 := e4.trans e5
      rcases by_does (m := m) hf hs with ⟨d1, d2⟩ | ⟨y, p2, d1, d2, d3⟩
      · rw [d2]
        refine q_when (b := true) (et_test (ev_op (ev_var rfl) ev_c (rv_isN (x := V.non)))) (fun _ H6 e6 => ?_) (fun z => nomatch z)
        rw [follow_none d1] at ef
        rw [ef] at k'
        exact s_retA (v := 0) (ls := [[i]]) ev_c (ro_lst (ar_cons (li_new (el_lst (ea_cons (ev_var rfl) ea_nil) (by show 1 ≤ 100000; decide))) ar_nil) (by show 1 ≤ 1000; decide)) fun t H7 e7 h7 => k' t H7 (e3.trans (e45.trans (e6.trans e7))) h7
      · rw [d2]
        refine q_when (b := false) (et_test (ev_op (ev_var rfl) ev_c (rv_isN (x := V.ref p2)))) (fun z => nomatch z) (fun _ H6 e6 => ?_)
        have d36 := d3.kp (.ex (e5.trans e6))
        obtain ⟨dq, cq, bq, s1, s2, s3⟩ := id d36
        refine q_asg (v := .int ((W + st.house.weight y.2 : Nat) : Int)) (ev_is (ev_op (ev_var rfl) (ev_fld (ev_var rfl) s1 T.cl_Step T.n_Step_weight stF_weight) rv_I0) (by dsimp only; rw [Int.natCast_add])) fun H7 e7 => ?_
        refine s_asg (ev_fld (ev_var rfl) (e7 _ _ s1) T.cl_Step T.n_Step_after stF_after) fun H8 e8 => ?_
        obtain ⟨f1, f2⟩ := SM.stk_fine_next hf d1
        refine ⟨W + st.house.weight y.2, bq, SM.skOf y.1, _, _, _, rfl, e3.trans (e45.trans (e6.trans (e7.trans e8))), s3.ex (e7.trans e8), f1, ?_⟩
        rw [ef, follow_some d1, addW_add, f2]
    · rintro σ' H3 ⟨W, b, k, v4, v5, v6, rfl, e3, hb, hf, ef⟩
      rw [List.length_map, cars.length, List.drop_length] at ef
      have ef2 : st.house.follow 0 st.stand ms = .ok (stk st.house.heavy.length k, W) := by
        rw [ef]
        rfl
      rw [ef2] at k'
      have lenN : ((nv st.house.heavy).length : Int) = (st.house.heavy.length : Int) := by rw [nv_length]
      refine q_asgL (xs := nv (onOf st.house.heavy.length k.1 k.2)) (el_call (ea_cons (ev_is (ev_len (ev_fld (ev_var rfl) (e3 _ _ q1) T.cl_House T.n_House_heavy hF_heavy) (SqL.of (e3 _ _ q2))) (congrArg V.int lenN)) (ea_cons (ev_var rfl) ea_nil)) ?_) fun ao H4 no e4 mo => ?_
      · intro H4 e4 Q q E
        exact ⟨b, st.house.heavy.length, k, rfl, hb.ex e4, hst.many, q⟩
      obtain ⟨bl, br, t1, t2, t3⟩ := hb.ex e4
      exact s_retA (v := 1) (ls := [[W], onOf st.house.heavy.length k.1 k.2, k.1, k.2]) ev_c (ro_lst (ar_cons (li_new (el_lst (ea_cons (ev_var rfl) ea_nil) (by show 1 ≤ 100000; decide))) (ar_cons (li_var (ev_var rfl) mo) (ar_cons (li_new (el_listT (ev_op (ev_var rfl) ev_c (rv_ixT (K := K) (i := 0) (st_of t1) rfl)) (st_of t2))) (ar_cons (li_new (el_listT (ev_op (ev_var rfl) ev_c (rv_ixT (K := K) (i := 1) (st_of t1) rfl)) (st_of t3))) ar_nil)))) (by show 4 ≤ 1000; decide)) fun t H5 e5 h5 => k' t H5 (e3.trans (e4.trans e5)) h5
end
end SC

namespace SM
open Uw04
theorem movesIn_flat : ∀ (n : Nat) (l : List Nat) (ms : List Move), Uw04Neutral.movesIn n l = some ms → ms.length = n ∧ l = ms.flatMap moveOut
  | 0, [], ms, h => by
    cases h
    exact ⟨rfl, rfl⟩
  | 0, _ :: _, ms, h => by
    unfold Uw04Neutral.movesIn at h
    cases h
  | n + 1, [], ms, h => by
    unfold Uw04Neutral.movesIn at h
    cases h
  | n + 1, 0 :: [], ms, h => by
    unfold Uw04Neutral.movesIn at h
    cases h
  | n + 1, 1 :: [], ms, h => by
    unfold Uw04Neutral.movesIn at h
    cases h
  | n + 1, 0 :: k :: l, ms, h => by
    have h' : (Uw04Neutral.movesIn n l).map (fun r => Move.offLeft k :: r) = some ms := h
    obtain ⟨r, hr, rfl⟩ := Option.map_eq_some_iff.1 h'
    obtain ⟨e1, e2⟩ := movesIn_flat n l r hr
    exact ⟨congrArg (· + 1) e1, by rw [List.flatMap_cons, ← e2]; rfl⟩
  | n + 1, 1 :: k :: l, ms, h => by
    have h' : (Uw04Neutral.movesIn n l).map (fun r => Move.offRight k :: r) = some ms := h
    obtain ⟨r, hr, rfl⟩ := Option.map_eq_some_iff.1 h'
    obtain ⟨e1, e2⟩ := movesIn_flat n l r hr
    exact ⟨congrArg (· + 1) e1, by rw [List.flatMap_cons, ← e2]; rfl⟩
  | n + 1, 2 :: l, ms, h => by
    have h' : (Uw04Neutral.movesIn n l).map (fun r => Move.onLeft :: r) = some ms := by cases l <;> exact h
    obtain ⟨r, hr, rfl⟩ := Option.map_eq_some_iff.1 h'
    obtain ⟨e1, e2⟩ := movesIn_flat n l r hr
    exact ⟨congrArg (· + 1) e1, by rw [List.flatMap_cons, ← e2]; rfl⟩
  | n + 1, 3 :: l, ms, h => by
    have h' : (Uw04Neutral.movesIn n l).map (fun r => Move.onRight :: r) = some ms := by cases l <;> exact h
    obtain ⟨r, hr, rfl⟩ := Option.map_eq_some_iff.1 h'
    obtain ⟨e1, e2⟩ := movesIn_flat n l r hr
    exact ⟨congrArg (· + 1) e1, by rw [List.flatMap_cons, ← e2]; rfl⟩
  | n + 1, (x + 4) :: l, ms, h => by
    have h' : none = some ms := by cases l <;> exact h
    cases h'
/-- how long the answers are -/
def Short (a : Ans) : Prop := a.l.length ≤ 4 ∧ ∀ r ∈ a.l, r.length ≤ 10002
theorem Ways.len {h : House} {l : List (List Nat)} {s : Stand} {ws : List (List Move)} (k : Ways h l s ws) : ws.length = l.length := by
  induction k with
  | nil => rfl
  | cons _ _ ih => exact congrArg (· + 1) ih
theorem short_ways {st : St} (k : StOk st) : Short (step st .ways).2 := by
  show Short (match st.house.least st.stand with | some n => ⟨(n : Nat), (st.house.ways st.stand).map fun w => w.flatMap moveOut⟩ | none => ok (-6))
  cases hv : st.house.least st.stand with
  | none => exact ⟨Nat.zero_le _, (fun r hr => nomatch hr)⟩
  | some n =>
    refine ⟨?_, fun r hr => ?_⟩
    · show ((st.house.ways st.stand).map fun w => w.flatMap moveOut).length ≤ 4
      rw [List.length_map, (ways_ways k.sound k.mem hv).len]
      exact k.few
    · obtain ⟨w, hw, rfl⟩ := List.mem_map.1 (show r ∈ (st.house.ways st.stand).map fun w => w.flatMap moveOut from hr)
      have a1 := ways_len k.sound k.many k.ra k.rb _ w hw
      have a2 := flat_len w
      omega
theorem follow_fine {h : House} : ∀ (ms : List Move) (i : Nat) (s : Stand) (x : Stand × Nat), Fine h s → h.follow i s ms = .ok x → Fine h x.1
  | [], i, s, x, f, e => by
    have e' : Except.ok (s, 0) = (Except.ok x : Except Nat (Stand × Nat)) := e
    cases e'
    exact f
  | m :: ms, i, s, x, f, e => by
    unfold House.follow at e
    cases q : h.does s m with
    | none =>
      rw [q] at e
      cases e
    | some y =>
      rw [q] at e
      dsimp only at e
      cases r : h.follow (i + 1) y.1 ms with
      | error z =>
        rw [r] at e
        cases e
      | ok z =>
        rw [r] at e
        cases e
        exact follow_fine ms (i + 1) y.1 z (does_fine f q).1 r
theorem short_check {st : St} (k : StOk st) (ms : List Move) : Short (step st (.check ms)).2 := by
  show Short (match st.house.follow 0 st.stand ms with | .ok x => ⟨1, [[x.2], x.1.on, x.1.left, x.1.right]⟩ | .error i => ⟨0, [[i]]⟩)
  cases hv : st.house.follow 0 st.stand ms with
  | error i =>
    refine ⟨by show 1 ≤ 4; decide, fun r hr => ?_⟩
    cases List.mem_singleton.1 (show r ∈ [[i]] from hr)
    show 1 ≤ 10002
    decide
  | ok x =>
    have f := follow_fine ms 0 st.stand x k.st hv
    have m4 := k.many
    refine ⟨by show 4 ≤ 4; decide, fun r hr => ?_⟩
    have hr' : r ∈ [[x.2], x.1.on, x.1.left, x.1.right] := hr
    have a1 : x.1.on.length ≤ st.house.heavy.length := by rw [f.on]; exact on_len _ _ _
    have a2 := nodup_len f.ln f.lx
    have a3 := nodup_len f.rn f.rx
    simp only [List.mem_cons, List.not_mem_nil, or_false] at hr'
    rcases hr' with rfl | rfl | rfl | rfl
    · show 1 ≤ 10002
      decide
    · omega
    · omega
    · omega
end SM
namespace SC
open PySem PySem.Spec PyProof.Rows L2 Evl
open SM (toZ Sk Sp3 onOf stepsOf stk Fine)
theorem zv_nat (l : List Nat) : zv (toZ l) = nv l := zv_toZ l
section
variable {P : Program} {w : World} {K : PySem.W.Frag} {mg : Str → Option Value} {base : Heap}
/-! ### with_rows -/
def outR (ls : List (List Nat)) : List Int := ls.flatMap fun w => (w.length : Int) :: w.map fun (x : Nat) => (x : Int)
theorem out_is (a : Uw04.Ans) : Uw04Neutral.out a = a.v :: outR a.l := rfl
theorem outR_more {ls : List (List Nat)} {i : Nat} {r : List Nat} (h : ls[i]? = some r) : outR (ls.take (i + 1)) = outR (ls.take i) ++ (r.length : Int) :: toZ r := by
  unfold outR
  rw [take_more h, List.flatMap_append, List.flatMap_cons, List.flatMap_nil, List.append_nil]
  rfl
theorem outR_len : ∀ ls : List (List Nat), (∀ r ∈ ls, r.length ≤ 10002) → (outR ls).length ≤ 10003 * ls.length
  | [], _ => Nat.le_refl _
  | r :: ls, h => by
    have ih := outR_len ls fun x hx => h x (List.Mem.tail _ hx)
    have e : outR (r :: ls) = ((r.length : Int) :: toZ r) ++ outR ls := rfl
    rw [e, List.length_append, List.length_cons, List.length_cons, SM.toZ_length]
    have := h r (List.Mem.head _)
    omega
def spWith : Sp := fun vs H Q _ => ∃ (t : Addr) (a : Uw04.Ans), vs = [.ref t] ∧ AnsAt H t a ∧ SM.Short a ∧ RetL (zv (Uw04Neutral.out a)) H Q
theorem ok_with_rows (T : Tx K mg) : FnOk P w K mg base CX0 1 T.f_with_rows T.d_with_rows ["answer"] spWith := by
  refine T.h_with_rows.F.ok sc_with_rows (fun vs H Q E h => ?_) (fun cdv A outer s H vs Q E hr h => ?_)
  · obtain ⟨t, a, rfl, _⟩ := h
    rfl
  · obtain ⟨t, a, rfl, ⟨r, rs, h1, h2, h3⟩, ⟨sh1, sh2⟩, k⟩ := h
    refine ⟨_, (pss_cons (ps_set (i := 1) sc_with_rows.nd rfl (.inl rfl) (pe_lst (pa_cons (pe_ix ix_tup (pv 0) pe_int (fun _ _ => rfl)) pa_nil)))
      (pss_cons (ps_for PassesOwn.never rfl (pi_list (pe_ix ix_tup (pv 0) pe_int (fun _ _ => rfl))) (pg_name (i := 2) sc_with_rows.nd rfl (.inl rfl))
        (pss_cons (ps_expr (pe_bm PySem.F.plainAttrs_list PySem.F.slot_list_append PySem.F.type_list_append mt_append (pv 1) (pa_cons (pe_callB call_len_seq (by rfl) T.b_len (by decide +kernel) (pa_cons (pv 2) pa_nil)) pa_nil)))
        (pss_one (ps_expr (pe_bm PySem.F.plainAttrs_list PySem.F.slot_list_extend PySem.F.type_list_extend mt_extend (pv 1) (pa_cons (pv 2) pa_nil))))))
      (pss_one (ps_ret (pv 1))))), ?_⟩
    refine q_asgL (xs := [.int a.v]) (el_lst (ea_cons (ev_op (ev_var rfl) ev_c (rv_ixT (K := K) (i := 0) (st_of h1) rfl)) ea_nil) (by show 1 ≤ 100000; decide)) fun g H1 ng e1 mg1 => ?_
    have bnd : ∀ i, (outR (a.l.take i)).length ≤ 40012 := fun i => by
      have q := outR_len (a.l.take i) fun x hx => sh2 x (List.mem_of_mem_take hx)
      rw [List.length_take] at q
      have : 10003 * min i a.l.length ≤ 10003 * 4 := Nat.mul_le_mul_left _ (by omega)
      omega
    refine q_forLn (ev_op (ev_var rfl) ev_c (rv_ixT (K := K) (i := 1) (st_of (e1 _ _ h1)) rfl)) (SqL.of (e1 _ _ h2)) (fun i σ H' => (∃ v, σ = [some (.ref t), some (.ref g), v]) ∧ Ex H H' ∧ H' g = some (.lst (zv (a.v :: outR (a.l.take i))))) (fun H2 e2 => ⟨⟨none, rfl⟩, e1.trans e2, e2 _ _ mg1⟩) (fun i σ' H' _ q => SqL.of (q.2.1 _ _ h2)) ?_ ?_
    · rintro i _ σ' H' hi ⟨⟨v, rfl⟩, e2, hg⟩
      rw [List.getElem?_map] at hi
      obtain ⟨q, hq, rfl⟩ := Option.map_eq_some_iff.1 hi
      obtain ⟨row, hrow, hqr⟩ := h3.get hq
      have b1 := bnd i
      have lr := sh2 row (List.mem_of_getElem? hrow)
      have qg : q ≠ g := (ne_of_none hqr ng)
      refine q_app2 hg (ev_var rfl) (ev_len (ev_var rfl) (SqL.of (e2 _ _ hqr))) (sz_lt (by rw [zv_length, List.length_cons]; omega)) fun H3 e3 => ?_
      refine s_ext upd_same ((upd_ne qg).trans (e3 _ _ (e2 _ _ hqr))) (ev_var rfl) (ev_var rfl) (sz_of (by rw [List.length_append, zv_length, nv_length, List.length_cons]; show _ + 1 + 1 + _ ≤ 100000; omega)) fun H4 e4 => ?_
      refine ⟨⟨_, rfl⟩, Ex.mut ((Ex.mut (e2.trans e3) ng).trans e4) ng, ?_⟩
      rw [upd_same, outR_more hrow, nv_length, ← zv_nat]
      show some (HO.lst (_ ++ zv [(row.length : Int)] ++ zv (toZ row))) = _
      rw [zv_append, zv_append]
      show some (HO.lst (zv (a.v :: outR (a.l.take i) ++ [(row.length : Int)] ++ toZ row))) = _
      rw [List.append_assoc]
      rfl
    · rintro σ' H' ⟨⟨v, rfl⟩, e2, hg⟩
      rw [List.length_map, h3.length, List.take_length] at hg
      exact s_ret (ev_var rfl) fun H4 e4 => k g H4 ng (e2.trans e4) (e4 _ _ hg)
/-! ### take_carrying -/
theorem out_cases (m : Uw04.Move) : ∃ q tl, Uw04.moveOut m = q :: tl ∧ ((q ≤ 1 ∧ ∃ p, tl = [p]) ∨ (2 ≤ q ∧ tl = [])) := by
  cases m with
  | offLeft k => exact ⟨0, [k], rfl, .inl ⟨by decide, k, rfl⟩⟩
  | offRight k => exact ⟨1, [k], rfl, .inl ⟨by decide, k, rfl⟩⟩
  | onLeft => exact ⟨2, [], rfl, .inr ⟨by decide, rfl⟩⟩
  | onRight => exact ⟨3, [], rfl, .inr ⟨by decide, rfl⟩⟩
def spTake (K : PySem.W.Frag) (CR : Addr) : Sp := fun vs H Q _ => ∃ (r c : Addr) (i : Nat) (ns rest : List Int) (m : Uw04.Move), vs = [.ref r] ∧ ReaderAt CR H r c i ∧ SqL K H c (zv ns) ∧ ns.drop i = toZ (Uw04.moveOut m) ++ rest ∧
  ∀ t H2, ReaderAt CR H2 r c (i + (Uw04.moveOut m).length) → Fr H H2 r → H2 t = some (.tup (nv (Uw04.moveOut m))) → Q (.ref t) H2
theorem ok_take_carrying (T : Tx K mg) : FnOk P w K mg base CX0 2 T.f_take_carrying T.d_take_carrying ["reader"] (spTake K T.C_Reader) := by
  refine T.h_take_carrying.F.ok sc_take_carrying (fun vs H Q E h => ?_) (fun cdv A outer s H vs Q E hr h => ?_)
  · obtain ⟨r, c, i, ns, rest, m, rfl, _⟩ := h
    rfl
  · obtain ⟨r, c, i, ns, rest, m, rfl, hR, hc, hd, k⟩ := h
    have hr_Reader_take_number : Room 1 _ := hr
    refine ⟨_, (pss_cons (ps_set (i := 1) sc_take_carrying.nd rfl (.inl rfl) (pe_meth0 (pv 0) T.cl_Reader T.m_Reader_take_number (ok_Reader_take_number T) hr_Reader_take_number T.h_Reader_take_number.b .nil pass0))
      (pss_cons (ps_if (PW.pt (pw_or (pt_cmpR op_eq (pv 1) (pe_glob (v := .int 0) rfl T.g_OFF_LEFT ⟨_, rfl⟩) (nomark _)) (pw_or1 (pt_cmpR op_eq (pv 1) (pe_glob (v := .int 1) rfl T.g_OFF_RIGHT ⟨_, rfl⟩) (nomark _)))))
        (pss_one (ps_ret (pe_tup (pa_cons (pv 1) (pa_cons (pe_meth0 (pv 0) T.cl_Reader T.m_Reader_take_number (ok_Reader_take_number T) hr_Reader_take_number T.h_Reader_take_number.b .nil pass0) pa_nil)))))
        pss_nil)
      (pss_one (ps_ret (pe_tup (pa_cons (pv 1) pa_nil)))))), ?_⟩
    obtain ⟨dx, r0⟩ := id hR
    obtain ⟨q, tl, em, cs⟩ := out_cases m
    rw [em] at hd k
    have hd' : ns.drop i = (q : Int) :: (toZ tl ++ rest) := hd
    obtain ⟨g1, d1, _⟩ := drop_get (row := []) hd'
    refine ⟨_, rfl, r, dx, _, rfl, r0, rF_no (by decide +kernel) (by decide +kernel), r, c, i, ns, _, rfl, hR, hc, g1, fun H1 R1 f1 => ?_⟩
    obtain ⟨dx1, r1⟩ := id R1
    have c1 := sq_fr hc r0 f1
    refine q_when (et_or (et_test (ev_op (ev_var rfl) ev_c (rv_eq rfl))) fun _ => et_test (ev_op (ev_var rfl) ev_c (rv_eq rfl))) (fun hb H2 e2 => ?_) (fun hb H2 e2 => ?_)
    · have q1 : q ≤ 1 := by
        rw [Bool.or_eq_true, decide_eq_true_eq, decide_eq_true_eq] at hb
        rcases hb with hb | hb
        · have := V.int.inj hb
          omega
        · have := V.int.inj hb
          omega
      obtain ⟨p, rfl⟩ : ∃ p, tl = [p] := by
        rcases cs with cs | cs
        · exact cs.2
        · omega
      have d1' : ns.drop (i + 1) = (p : Int) :: rest := d1
      obtain ⟨g2, _, _⟩ := drop_get (row := []) d1'
      refine ⟨_, rfl, _, rfl, r, dx1, _, rfl, e2 _ _ r1, rF_no (by decide +kernel) (by decide +kernel), r, c, i + 1, ns, _, rfl, R1.mono e2, ex_l e2 c1, g2, fun H3 R3 f3 => ⟨by show 2 ≤ sizeLine; decide, fun t nt => ?_⟩⟩
      exact k t _ (R3.mono (Ex.new nt)) (f1.trans ((Fr.ex e2).trans (f3.trans (Fr.ex (Ex.new nt))))) upd_same
    · have q2 : ¬ q ≤ 1 := fun z => by
        rw [Bool.or_eq_false_iff, decide_eq_false_iff_not, decide_eq_false_iff_not] at hb
        have : q = 0 ∨ q = 1 := by omega
        rcases this with rfl | rfl
        · exact hb.1 rfl
        · exact hb.2 rfl
      have et : tl = [] := by
        rcases cs with cs | cs
        · exact absurd cs.1 q2
        · exact cs.2
      subst et
      refine ⟨_, rfl, by show 1 ≤ sizeLine; decide, fun t nt => ?_⟩
      exact k t _ ((R1.mono e2).mono (Ex.new nt)) (f1.trans ((Fr.ex e2).trans (Fr.ex (Ex.new nt)))) upd_same
end
end SC

namespace SC
open PySem PySem.Spec PyProof.Rows L2 Evl
open SM (toZ Sk Sp3 onOf stepsOf stk Fine)
theorem Cars.tup {H H' : Hp} {cs : List Addr} {ms : List Uw04.Move} (h : Cars H cs ms) (e : ∀ a xs, H a = some (.tup xs) → H' a = some (.tup xs)) : Cars H' cs ms := by
  induction h with
  | nil => exact .nil
  | cons a _ ih => exact .cons (e _ _ a) ih
section
variable {P : Program} {w : World} {K : PySem.W.Frag} {mg : Str → Option Value} {base : Heap}
/-! ### answer_check -/
def spACheck (K : PySem.W.Frag) (CH CR : Addr) : Sp := fun vs H Q _ => ∃ (a r c : Addr) (L : List Addr) (st : Uw04.St) (i : Nat) (ns rest : List Int) (n : Nat) (l : List Nat) (ms : List Uw04.Move), vs = [.ref a, .ref r] ∧
  HouseAt CH H a L st ∧ SM.StOk st ∧ ReaderAt CR H r c i ∧ a ≠ r ∧ SqL K H c (zv ns) ∧ ns.drop i = (n : Int) :: (l.length : Int) :: (toZ l ++ rest) ∧ n ≤ 30 ∧ Uw04Neutral.movesIn n l = some ms ∧
  ∀ t H', Both CH CR H H' a r c L st (i + 2 + l.length) → (∀ b o, H b = some o → b ≠ r → H' b = some o) → AnsAt H' t (Uw04.step st (.check ms)).2 → Q (.ref t) H'
theorem ok_answer_check (T : Tx K mg) : FnOk P w K mg base CX0 5 T.f_answer_check T.d_answer_check ["house", "reader"] (spACheck K T.C_House T.C_Reader) := by
  refine T.h_answer_check.F.ok sc_answer_check (fun vs H Q E h => ?_) (fun cdv A outer s H vs Q E hr h => ?_)
  · obtain ⟨a, r, c, L, st, i, ns, rest, n, l, ms, rfl, _⟩ := h
    rfl
  · obtain ⟨a, r, c, L, st, i, ns, rest, n, l, ms, rfl, hH, hst, hR, ar, hc, hd, n30, hm, k⟩ := h
    have hr_Reader_take_number : Room 1 _ := hr.mono (by decide)
    have hr_Reader_take_row : Room 2 _ := hr.mono (by decide)
    have hrM : Room 2 _ := hr.mono (by decide)
    have hr_take_carrying : Room 2 _ := hr.mono (by decide)
    have hr_House_check : Room 4 _ := hr
    refine ⟨_, (pss_cons (ps_set (i := 2) sc_answer_check.nd rfl (.inl rfl) (pe_meth0 (pv 1) T.cl_Reader T.m_Reader_take_number (ok_Reader_take_number T) hr_Reader_take_number T.h_Reader_take_number.b .nil pass0))
      (pss_cons (ps_set (i := 3) sc_answer_check.nd rfl (.inl rfl) (pe_make T.mk_Reader (ok_Reader_init T) hrM rfl T.gC_Reader T.h_Reader_init.b .nil pass0 (pa_cons (pe_meth0 (pv 1) T.cl_Reader T.m_Reader_take_row (ok_Reader_take_row T) hr_Reader_take_row T.h_Reader_take_row.b .nil pass0) pa_nil)))
      (pss_cons (ps_set (i := 4) sc_answer_check.nd rfl (.inl rfl) (pe_lst pa_nil))
      (pss_cons (ps_while PassesOwn.never (pt_cmpR op_lt (pe_callB call_len_seq (by rfl) T.b_len (by decide +kernel) (pa_cons (pv 4) pa_nil)) (pv 2) (nomark _))
        (pss_one (ps_expr (pe_bm PySem.F.plainAttrs_list PySem.F.slot_list_append PySem.F.type_list_append mt_append (pv 4) (pa_cons (pe_call (ok_take_carrying T) hr_take_carrying rfl T.h_take_carrying.g T.h_take_carrying.F.kp T.h_take_carrying.b .nil pass0 (pa_cons (pv 3) pa_nil)) pa_nil)))))
      (pss_one (ps_ret (pe_meth (pv 0) T.cl_House T.m_House_check (ok_House_check T) hr_House_check T.h_House_check.b .nil pass0 (pa_cons (pv 4) pa_nil)))))))), ?_⟩
    obtain ⟨lms, el⟩ := SM.movesIn_flat n l ms hm
    obtain ⟨dx0, r0⟩ := id hR
    obtain ⟨g1, d1, _⟩ := drop_get (row := []) hd
    refine ⟨_, rfl, r, _, _, rfl, r0, rF_no (by decide +kernel) (by decide +kernel), r, c, i, ns, _, rfl, hR, hc, g1, fun H1 R1 f1 => ?_⟩
    obtain ⟨dx1, r1⟩ := id R1
    have c1 := sq_fr hc r0 f1
    rw [show (l.length : Int) = ((toZ l).length : Int) by rw [SM.toZ_length]] at d1
    refine ⟨_, rfl, r, _, _, rfl, r1, rF_no (by decide +kernel) (by decide +kernel), r, c, i + 1, ns, toZ l, rest, rfl, R1, c1, d1, fun H2 p2 R2 f2 n2 m2 => fun rr drr nrr ndrr nerr => ⟨rr, drr, p2, rfl, upd_same, fun H3 R3 f3 => ⟨rfl, ?_⟩⟩⟩
    have s3 : Ex H2 H3 := fun b o hb => f3 _ _ (by rw [upd_ne (ne_of_none hb nrr), upd_ne (ne_of_none hb ndrr)]; exact hb) (ne_of_none hb nrr)
    refine q_asgL (xs := []) (el_lst ea_nil (by decide)) fun cl H4 ncl e4 mcl => ?_
    obtain ⟨dx3, r3⟩ := id R3
    have f02 : Fr H H2 r := f1.trans f2
    have know : ∀ b o, H2 b = some o → H4 b = some o ∧ b ≠ rr ∧ b ≠ cl := fun b o hb => ⟨e4 _ _ (s3 _ _ hb), ne_of_none hb nrr, ne_of_none (s3 _ _ hb) ncl⟩
    have crr : cl ≠ rr := fun q => by rw [q, r3] at ncl; cases ncl
    obtain ⟨m4, p2rr, p2cl⟩ := know _ _ m2
    refine q_while (fun m σ H' => ∃ (cs : List Addr) (ms1 ms2 : List Uw04.Move) (j : Nat), m = ms2.length ∧ σ = [some (.ref a), some (.ref r), some (.int (n : Int)), some (.ref rr), some (.ref cl)] ∧ (∀ x o, H4 x = some o → x ≠ rr → x ≠ cl → H' x = some o) ∧ ReaderAt T.C_Reader H' rr p2 j ∧ H' cl = some (.lst (cs.map V.ref)) ∧ Cars H' cs ms1 ∧ ms1 ++ ms2 = ms ∧ (toZ l).drop j = toZ (ms2.flatMap Uw04.moveOut))
      ms.length ⟨[], [], ms, 0, rfl, rfl, fun _ _ q _ _ => q, R3.mono e4, mcl, .nil, rfl, by rw [← el]; rfl⟩ ?_
    rintro m σ H5 ⟨cs, ms1, ms2, j, rfl, rfl, fr5, R5, hcl5, cars5, ems, dr5⟩
    have lcs := cars5.length
    have lsum : ms1.length + ms2.length = n := by
      rw [← lms, ← ems, List.length_append]
    have p25 := fr5 _ _ m4 p2rr p2cl
    obtain ⟨dx5, r5⟩ := id R5
    refine ⟨_, et_test (ev_op (ev_len (ev_var rfl) (SqL.of hcl5)) (ev_var rfl) rv_I0), fun hb H6 e6 => ?_, fun hb H6 e6 => ?_⟩
    · cases ms2 with
      | nil =>
        exfalso
        simp at hb
        simp at lsum
        omega
      | cons m1 ms2 =>
        refine ⟨fun σ2 H3 => ∃ m', m' < (m1 :: ms2).length ∧ ∃ (cs : List Addr) (ms1 ms2 : List Uw04.Move) (j : Nat), m' = ms2.length ∧ σ2 = [some (.ref a), some (.ref r), some (.int (n : Int)), some (.ref rr), some (.ref cl)] ∧ (∀ x o, H4 x = some o → x ≠ rr → x ≠ cl → H3 x = some o) ∧ ReaderAt T.C_Reader H3 rr p2 j ∧ H3 cl = some (.lst (cs.map V.ref)) ∧ Cars H3 cs ms1 ∧ ms1 ++ ms2 = ms ∧ (toZ l).drop j = toZ (ms2.flatMap Uw04.moveOut), fun σ2 H3 q => q, ?_⟩
        have dr6 : (toZ l).drop j = toZ (Uw04.moveOut m1) ++ toZ (ms2.flatMap Uw04.moveOut) := by
          rw [dr5, List.flatMap_cons, SM.toZ_append]
        refine ⟨_, rfl, Or.inl ⟨rfl, _, sq_of (e6 _ _ hcl5)⟩, _, rfl, rr, p2, j, toZ l, toZ (ms2.flatMap Uw04.moveOut), m1, rfl, R5.mono e6, SqL.of (e6 _ _ p25), dr6, fun t H7 R7 f7 ht => ⟨cl, cs.map V.ref, .ref t, rfl, rfl, f7 _ _ (e6 _ _ hcl5) crr, sz_lt (by rw [List.length_map]; simp at lsum; omega), ?_⟩⟩
        have hcl7 := f7 _ _ (e6 _ _ hcl5) crr
        have em2 : List.map V.ref cs ++ [V.ref t] = (cs ++ [t]).map V.ref := by rw [List.map_append]; rfl
        have kp7 : Kp H7 (upd H7 cl (.lst (List.map V.ref cs ++ [V.ref t]))) := .lst hcl7
        obtain ⟨dx7, r7⟩ := id R7
        refine ⟨ms2.length, Nat.lt_succ_self _, cs ++ [t], ms1 ++ [m1], ms2, j + (Uw04.moveOut m1).length, rfl, rfl, fun x o q nx nc => ?_, ⟨dx7, kp7.2 _ _ _ _ r7⟩, ?_, ?_, ?_, ?_⟩
        · rw [upd_ne nc]
          exact f7 _ _ (e6 _ _ (fr5 _ _ q nx nc)) nx
        · rw [upd_same, em2]
        · exact (((cars5.kp (.ex e6)).tup (tup_frp (e6 _ _ r5) f7)).snoc ht).kp kp7
        · rw [List.append_assoc]
          exact ems
        · rw [← List.drop_drop, dr6]
          have : (Uw04.moveOut m1).length = (toZ (Uw04.moveOut m1)).length := by rw [SM.toZ_length]
          rw [this, List.drop_left]
    · have e2 : ms2 = [] := by
        cases ms2 with
        | nil => rfl
        | cons m1 ms2 =>
          exfalso
          simp at hb
          simp at lsum
          omega
      subst e2
      rw [List.append_nil] at ems
      subst ems
      have hH2 := hH.fr r0 ar f02
      have hH6 : HouseAt T.C_House H6 a L st := hH2.keep (fun o ho => by
        obtain ⟨q1, q2, q3⟩ := know _ _ ho
        exact e6 _ _ (fr5 _ _ q1 q2 q3)) fun b _ o ho => by
        obtain ⟨q1, q2, q3⟩ := know _ _ ho
        exact e6 _ _ (fr5 _ _ q1 q2 q3)
      obtain ⟨dxh, v0, v1, v2, v3, v4, v5, hi⟩ := hH6.ins
      refine ⟨_, rfl, a, dxh, _, rfl, hi, hF_no (by decide +kernel) (by decide +kernel) (by decide +kernel) (by decide +kernel) (by decide +kernel) (by decide +kernel), _, rfl, a, cl, L, st, cs, ms1, rfl, hH6, hst, e6 _ _ hcl5, cars5.kp (.ex e6), fun t H7 e7 ans => ?_⟩
      have low : ∀ b o, H b = some o → b ≠ r → H7 b = some o := fun b o hb br => by
        obtain ⟨q1, q2, q3⟩ := know _ _ (f02 _ _ hb br)
        exact e7 _ _ (e6 _ _ (fr5 _ _ q1 q2 q3))
      refine k t H7 ⟨L, hH6.mono e7, Grown.refl _ _, ?_, fun b o hb _ _ br => low b o hb br⟩ low ans
      obtain ⟨dx2, r2⟩ := id R2
      obtain ⟨q1, q2, q3⟩ := know _ _ r2
      have ei : i + 1 + 1 + (toZ l).length = i + 2 + l.length := by rw [SM.toZ_length]
      rw [← ei]
      exact ⟨dx2, e7 _ _ (e6 _ _ (fr5 _ _ q1 q2 q3))⟩
/-! ### one call -/
theorem mkBoth {CH CR : Addr} {H H2 H3 H4 : Hp} {a r c : Addr} {L L3 : List Addr} {s' : Uw04.St} {i' : Nat} {dx : Addr} {fs : List (Str × V)} (hr : H r = some (.ins CR dx fs)) (f : Fr H H2 r) (R2 : ReaderAt CR H2 r c i') (hH3 : HouseAt CH H3 a L3 s') (gr : Grown H2 L L3) (fr : Frame H2 H3 a L) (ar : a ≠ r) (rL : r ∉ L) (e : Ex H3 H4) : Both CH CR H H4 a r c L s' i' := by
  obtain ⟨dx2, r2⟩ := R2
  refine ⟨L3, hH3.mono e, fun b hb => ?_, ⟨dx2, e _ _ (fr _ _ r2 ar.symm rL)⟩, fun b o hb ba bL br => e _ _ (fr _ _ (f _ _ hb br) ba bL)⟩
  rcases gr b hb with q | q
  · exact .inl q
  · refine .inr ?_
    cases hq : H b with
    | none => rfl
    | some o =>
      exfalso
      by_cases br : b = r
      · rw [br, r2] at q
        cases q
      · rw [f _ _ hq br] at q
        cases q
theorem one_out {a : Uw04.Ans} (h : a.l = []) : Uw04Neutral.out a = [a.v] := by
  rw [out_is, h]
  rfl
theorem begins_l (s : Uw04.St) (h : List Nat) (x y : Nat) (l r : List Nat) : (Uw04.step s (.begins h x y l r)).2.l = [] := by
  rw [SM.step_begins]
  split
  · rfl
  · split <;> rfl
theorem scene_l (s : Uw04.St) (l : List Nat) : (Uw04.step s (.scene l)).2.l = [] := by
  rw [SM.step_scene]
  split
  · rfl
  · split <;> rfl
theorem drop_l (s : Uw04.St) : (Uw04.step s .drop).2.l = [] := by
  rw [SM.step_drop]
  split <;> rfl
theorem least_l (s : Uw04.St) : (Uw04.step s .least).2.l = [] := by
  show (match s.house.least s.stand with | some n => Uw04.ok (n : Nat) | none => Uw04.ok (-6)).l = []
  cases s.house.least s.stand <;> rfl
theorem ok_answer_next (T : Tx K mg) : FnOk P w K mg base CX0 9 T.f_answer_next T.d_answer_next ["house", "reader"] (spNext K T.C_House T.C_Reader) := by
  refine T.h_answer_next.F.ok sc_answer_next (fun vs H Q E h => ?_) (fun cdv A outer s H vs Q E hr h => ?_)
  · obtain ⟨a, r, c, L, st, i, ns, rest, c0, x, rfl, _⟩ := h
    rfl
  · obtain ⟨a, r, c, L, st, i, ns, rest, c0, x, rfl, hH, hR, ar, hc, hst, raw, hd, k⟩ := h
    have hr_Reader_take_number : Room 1 _ := hr.mono (by decide)
    have hr_Reader_take_row : Room 2 _ := hr.mono (by decide)
    have hr_answer_begins : Room 4 _ := hr.mono (by decide)
    have hr_House_scene : Room 2 _ := hr.mono (by decide)
    have hr_House_drop : Room 1 _ := hr.mono (by decide)
    have hr_House_least : Room 8 _ := hr
    have hr_House_ways : Room 8 _ := hr
    have hr_with_rows : Room 1 _ := hr.mono (by decide)
    have hr_answer_check : Room 5 _ := hr.mono (by decide)
    refine ⟨_, (pss_cons (ps_set (i := 2) sc_answer_next.nd rfl (.inl rfl) (pe_meth0 (pv 1) T.cl_Reader T.m_Reader_take_number (ok_Reader_take_number T) hr_Reader_take_number T.h_Reader_take_number.b .nil pass0))
      (pss_cons (ps_if (pt_cmpR op_eq (pv 2) (pe_glob (v := .int 0) rfl T.g_BEGINS ⟨_, rfl⟩) (nomark _))
        (pss_one (ps_ret (pe_lst (pa_cons (pe_call (ok_answer_begins T) hr_answer_begins rfl T.h_answer_begins.g T.h_answer_begins.F.kp T.h_answer_begins.b .nil pass0 (pa_cons (pv 0) (pa_cons (pv 1) pa_nil))) pa_nil))))
        pss_nil)
      (pss_cons (ps_if (pt_cmpR op_eq (pv 2) (pe_glob (v := .int 1) rfl T.g_SCENE ⟨_, rfl⟩) (nomark _))
        (pss_one (ps_ret (pe_lst (pa_cons (pe_meth (pv 0) T.cl_House T.m_House_scene (ok_House_scene T) hr_House_scene T.h_House_scene.b .nil pass0 (pa_cons (pe_meth0 (pv 1) T.cl_Reader T.m_Reader_take_row (ok_Reader_take_row T) hr_Reader_take_row T.h_Reader_take_row.b .nil pass0) pa_nil)) pa_nil))))
        pss_nil)
      (pss_cons (ps_if (pt_cmpR op_eq (pv 2) (pe_glob (v := .int 2) rfl T.g_DROP ⟨_, rfl⟩) (nomark _))
        (pss_one (ps_ret (pe_lst (pa_cons (pe_meth0 (pv 0) T.cl_House T.m_House_drop (ok_House_drop T) hr_House_drop T.h_House_drop.b .nil pass0) pa_nil))))
        pss_nil)
      (pss_cons (ps_if (pt_cmpR op_eq (pv 2) (pe_glob (v := .int 3) rfl T.g_LEAST ⟨_, rfl⟩) (nomark _))
        (pss_one (ps_ret (pe_lst (pa_cons (pe_meth0 (pv 0) T.cl_House T.m_House_least (ok_House_least T) hr_House_least T.h_House_least.b .nil pass0) pa_nil))))
        pss_nil)
      (pss_cons (ps_if (pt_cmpR op_eq (pv 2) (pe_glob (v := .int 4) rfl T.g_WAYS ⟨_, rfl⟩) (nomark _))
        (pss_one (ps_ret (pe_call (ok_with_rows T) hr_with_rows rfl T.h_with_rows.g T.h_with_rows.F.kp T.h_with_rows.b .nil pass0 (pa_cons (pe_meth0 (pv 0) T.cl_House T.m_House_ways (ok_House_ways T) hr_House_ways T.h_House_ways.b .nil pass0) pa_nil))))
        pss_nil)
      (pss_cons (ps_if (pt_cmpR op_eq (pv 2) (pe_glob (v := .int 5) rfl T.g_CHECK ⟨_, rfl⟩) (nomark _))
        (pss_one (ps_ret (pe_call (ok_with_rows T) hr_with_rows rfl T.h_with_rows.g T.h_with_rows.F.kp T.h_with_rows.b .nil pass0 (pa_cons (pe_call (ok_answer_check T) hr_answer_check rfl T.h_answer_check.g T.h_answer_check.F.kp T.h_answer_check.b .nil pass0 (pa_cons (pv 0) (pa_cons (pv 1) pa_nil))) pa_nil))))
        pss_nil)
      (pss_one ps_never)))))))), ?_⟩
    obtain ⟨dx0, r0⟩ := id hR
    have rL : r ∉ L := fun q => by
      obtain ⟨zx, hz⟩ := hH.lst r q
      rw [r0] at hz
      cases hz
    cases raw with
    | begins hx hy hh hl hrr lh ll lr =>
      rename_i x y h l rr
      have hd' : ns.drop i = (0 : Int) :: ((x : Int) :: (y : Int) :: (h.length : Int) :: (toZ h ++ ((l.length : Int) :: (toZ l ++ ((rr.length : Int) :: (toZ rr ++ rest)))))) := by
        rw [hd]
        simp [PyFlat.put1, PyFlat.putRows, PyFlat.putRow, SM.toZ_length]
      obtain ⟨g1, d1, _⟩ := drop_get (row := []) hd'
      refine ⟨_, rfl, r, _, _, rfl, r0, rF_no (by decide +kernel) (by decide +kernel), r, c, i, ns, _, rfl, hR, hc, g1, fun H1 R1 f1 => ?_⟩
      refine q_when (b := true) (et_test (ev_op (ev_var rfl) ev_c (rv_eq (x := .int 0) (y := .int 0) rfl))) (fun _ H2 e2 => ?_) (fun z => nomatch z)
      have e12 : Ex H1 H2 := e2
      have f2 : Fr H H2 r := f1.trans (Fr.ex e12)
      have R2 := R1.mono e12
      have hH2 := (hH.fr r0 ar f1).mono e12
      have c2 := ex_l e12 (sq_fr hc r0 f1)
      obtain ⟨dx2, r2⟩ := id R2
      obtain ⟨dxh, v0, v1, v2, v3, v4, v5, hi⟩ := hH2.ins
      refine ⟨_, rfl, _, rfl, a, r, c, L, st, i + 1, ns, rest, h, l, rr, x, y, rfl, hH2, R2, ar, c2, d1, ll, lr, fun H3 bo => ⟨by show 1 ≤ sizeLine; decide, fun p np => ?_⟩⟩
      obtain ⟨L3, hH3, g3, R3, fr3⟩ := bo
      obtain ⟨dx3, r3⟩ := id R3
      have ei : i + 1 + 5 + h.length + l.length + rr.length = i + (PyFlat.put1 [[0, (x : Int), (y : Int)], toZ h, toZ l, toZ rr]).length := by
        simp [PyFlat.put1, PyFlat.putRows, PyFlat.putRow, SM.toZ_length]
        omega
      refine k _ p ⟨L3, hH3.mono (Ex.new np), fun b hb => ?_, ?_, fun b o hb ba bL br => Ex.new np _ _ (fr3 _ _ (f2 _ _ hb br) ba bL br)⟩ (fun b o hb ba bL br z => ?_) ?_
      · rcases g3 b hb with q | q
        · exact .inl q
        · refine .inr ?_
          cases hq : H b with
          | none => rfl
          | some o =>
            exfalso
            by_cases br : b = r
            · rw [br, r2] at q
              cases q
            · rw [f2 _ _ hq br] at q
              cases q
      · rw [← ei]
        exact R3.mono (Ex.new np)
      · rw [← z, fr3 _ _ (f2 _ _ hb br) ba bL br] at np
        cases np
      · rw [upd_same]
        unfold SM.run1
        rw [one_out (begins_l st h x y l rr)]
        rfl
    | scene hl ll =>
      rename_i l
      have hd' : ns.drop i = (1 : Int) :: (((toZ l).length : Int) :: (toZ l ++ rest)) := by
        rw [hd]
        simp [PyFlat.put1, PyFlat.putRows, PyFlat.putRow]
      obtain ⟨g1, d1, _⟩ := drop_get (row := []) hd'
      refine ⟨_, rfl, r, _, _, rfl, r0, rF_no (by decide +kernel) (by decide +kernel), r, c, i, ns, _, rfl, hR, hc, g1, fun H1 R1 f1 => ?_⟩
      refine q_when (b := false) (et_test (ev_op (ev_var rfl) ev_c (rv_eq (x := .int 1) (y := .int 0) rfl))) (fun z => nomatch z) (fun _ G0 w0 => ?_)
      refine q_when (b := true) (et_test (ev_op (ev_var rfl) ev_c (rv_eq (x := .int 1) (y := .int 1) rfl))) (fun _ H2 e2 => ?_) (fun z => nomatch z)
      have e12 : Ex H1 H2 := (w0.trans e2)
      have f2 : Fr H H2 r := f1.trans (Fr.ex e12)
      have R2 := R1.mono e12
      have hH2 := (hH.fr r0 ar f1).mono e12
      have c2 := ex_l e12 (sq_fr hc r0 f1)
      obtain ⟨dx2, r2⟩ := id R2
      obtain ⟨dxh, v0, v1, v2, v3, v4, v5, hi⟩ := hH2.ins
      refine ⟨_, rfl, a, dxh, _, rfl, hi, hF_no (by decide +kernel) (by decide +kernel) (by decide +kernel) (by decide +kernel) (by decide +kernel) (by decide +kernel), _, rfl, r, dx2, _, rfl, r2, rF_no (by decide +kernel) (by decide +kernel), r, c, i + 1, ns, toZ l, rest, rfl, R2, c2, d1, fun H3 p3 R3 f3 n3 m3 => ?_⟩
      rw [zv_toZ] at m3
      refine ⟨a, p3, L, st, l, rfl, hH2.fr r2 ar f3, hst, m3, fun H4 L4 hH4 g4 fr4 => ⟨by show 1 ≤ sizeLine; decide, fun p np => ?_⟩⟩
      have f03 := f2.trans f3
      have ei : i + 1 + 1 + (toZ l).length = i + (PyFlat.put1 [[1], toZ l]).length := by
        simp [PyFlat.put1, PyFlat.putRows, PyFlat.putRow]
        omega
      rw [ei] at R3
      refine k _ p (mkBoth r0 f03 R3 hH4 g4 fr4 ar rL (Ex.new np)) (fun b o hb ba bL br z => ?_) ?_
      · rw [← z, fr4 _ _ (f03 _ _ hb br) ba bL] at np
        cases np
      · rw [upd_same]
        unfold SM.run1
        rw [one_out (scene_l st l)]
        rfl
    | drop =>
      have hd' : ns.drop i = (2 : Int) :: (rest) := by
        rw [hd]
        rfl
      obtain ⟨g1, d1, _⟩ := drop_get (row := []) hd'
      refine ⟨_, rfl, r, _, _, rfl, r0, rF_no (by decide +kernel) (by decide +kernel), r, c, i, ns, _, rfl, hR, hc, g1, fun H1 R1 f1 => ?_⟩
      refine q_when (b := false) (et_test (ev_op (ev_var rfl) ev_c (rv_eq (x := .int 2) (y := .int 0) rfl))) (fun z => nomatch z) (fun _ G0 w0 => ?_)
      refine q_when (b := false) (et_test (ev_op (ev_var rfl) ev_c (rv_eq (x := .int 2) (y := .int 1) rfl))) (fun z => nomatch z) (fun _ G1 w1 => ?_)
      refine q_when (b := true) (et_test (ev_op (ev_var rfl) ev_c (rv_eq (x := .int 2) (y := .int 2) rfl))) (fun _ H2 e2 => ?_) (fun z => nomatch z)
      have e12 : Ex H1 H2 := (w0.trans (w1.trans e2))
      have f2 : Fr H H2 r := f1.trans (Fr.ex e12)
      have R2 := R1.mono e12
      have hH2 := (hH.fr r0 ar f1).mono e12
      have c2 := ex_l e12 (sq_fr hc r0 f1)
      obtain ⟨dx2, r2⟩ := id R2
      obtain ⟨dxh, v0, v1, v2, v3, v4, v5, hi⟩ := hH2.ins
      refine ⟨_, rfl, a, dxh, _, rfl, hi, hF_no (by decide +kernel) (by decide +kernel) (by decide +kernel) (by decide +kernel) (by decide +kernel) (by decide +kernel), a, L, st, rfl, hH2, fun H4 L4 hH4 g4 fr4 => ⟨by show 1 ≤ sizeLine; decide, fun p np => ?_⟩⟩
      refine k _ p (mkBoth r0 f2 R2 hH4 g4 fr4 ar rL (Ex.new np)) (fun b o hb ba bL br z => ?_) ?_
      · rw [← z, fr4 _ _ (f2 _ _ hb br) ba bL] at np
        cases np
      · rw [upd_same]
        unfold SM.run1
        rw [one_out (drop_l st)]
        rfl
    | least =>
      have hd' : ns.drop i = (3 : Int) :: (rest) := by
        rw [hd]
        rfl
      obtain ⟨g1, d1, _⟩ := drop_get (row := []) hd'
      refine ⟨_, rfl, r, _, _, rfl, r0, rF_no (by decide +kernel) (by decide +kernel), r, c, i, ns, _, rfl, hR, hc, g1, fun H1 R1 f1 => ?_⟩
      refine q_when (b := false) (et_test (ev_op (ev_var rfl) ev_c (rv_eq (x := .int 3) (y := .int 0) rfl))) (fun z => nomatch z) (fun _ G0 w0 => ?_)
      refine q_when (b := false) (et_test (ev_op (ev_var rfl) ev_c (rv_eq (x := .int 3) (y := .int 1) rfl))) (fun z => nomatch z) (fun _ G1 w1 => ?_)
      refine q_when (b := false) (et_test (ev_op (ev_var rfl) ev_c (rv_eq (x := .int 3) (y := .int 2) rfl))) (fun z => nomatch z) (fun _ G2 w2 => ?_)
      refine q_when (b := true) (et_test (ev_op (ev_var rfl) ev_c (rv_eq (x := .int 3) (y := .int 3) rfl))) (fun _ H2 e2 => ?_) (fun z => nomatch z)
      have e12 : Ex H1 H2 := (w0.trans (w1.trans (w2.trans e2)))
      have f2 : Fr H H2 r := f1.trans (Fr.ex e12)
      have R2 := R1.mono e12
      have hH2 := (hH.fr r0 ar f1).mono e12
      have c2 := ex_l e12 (sq_fr hc r0 f1)
      obtain ⟨dx2, r2⟩ := id R2
      obtain ⟨dxh, v0, v1, v2, v3, v4, v5, hi⟩ := hH2.ins
      refine ⟨_, rfl, a, dxh, _, rfl, hi, hF_no (by decide +kernel) (by decide +kernel) (by decide +kernel) (by decide +kernel) (by decide +kernel) (by decide +kernel), a, L, st, rfl, hH2, hst, fun H4 e4 => ⟨by show 1 ≤ sizeLine; decide, fun p np => ?_⟩⟩
      refine k _ p (mkBoth r0 f2 R2 (hH2.mono e4) (Grown.refl _ _) (Frame.ex e4) ar rL (Ex.new np)) (fun b o hb ba bL br z => ?_) ?_
      · rw [← z, e4 _ _ (f2 _ _ hb br)] at np
        cases np
      · rw [upd_same]
        unfold SM.run1
        rw [one_out (least_l st)]
        rfl
    | ways =>
      have hd' : ns.drop i = (4 : Int) :: (rest) := by
        rw [hd]
        rfl
      obtain ⟨g1, d1, _⟩ := drop_get (row := []) hd'
      refine ⟨_, rfl, r, _, _, rfl, r0, rF_no (by decide +kernel) (by decide +kernel), r, c, i, ns, _, rfl, hR, hc, g1, fun H1 R1 f1 => ?_⟩
      refine q_when (b := false) (et_test (ev_op (ev_var rfl) ev_c (rv_eq (x := .int 4) (y := .int 0) rfl))) (fun z => nomatch z) (fun _ G0 w0 => ?_)
      refine q_when (b := false) (et_test (ev_op (ev_var rfl) ev_c (rv_eq (x := .int 4) (y := .int 1) rfl))) (fun z => nomatch z) (fun _ G1 w1 => ?_)
      refine q_when (b := false) (et_test (ev_op (ev_var rfl) ev_c (rv_eq (x := .int 4) (y := .int 2) rfl))) (fun z => nomatch z) (fun _ G2 w2 => ?_)
      refine q_when (b := false) (et_test (ev_op (ev_var rfl) ev_c (rv_eq (x := .int 4) (y := .int 3) rfl))) (fun z => nomatch z) (fun _ G3 w3 => ?_)
      refine q_when (b := true) (et_test (ev_op (ev_var rfl) ev_c (rv_eq (x := .int 4) (y := .int 4) rfl))) (fun _ H2 e2 => ?_) (fun z => nomatch z)
      have e12 : Ex H1 H2 := (w0.trans (w1.trans (w2.trans (w3.trans e2))))
      have f2 : Fr H H2 r := f1.trans (Fr.ex e12)
      have R2 := R1.mono e12
      have hH2 := (hH.fr r0 ar f1).mono e12
      have c2 := ex_l e12 (sq_fr hc r0 f1)
      obtain ⟨dx2, r2⟩ := id R2
      obtain ⟨dxh, v0, v1, v2, v3, v4, v5, hi⟩ := hH2.ins
      refine ⟨_, rfl, a, dxh, _, rfl, hi, hF_no (by decide +kernel) (by decide +kernel) (by decide +kernel) (by decide +kernel) (by decide +kernel) (by decide +kernel), a, L, st, rfl, hH2, hst, fun t H4 e4 ans => ⟨t, _, rfl, ans, SM.short_ways hst, fun p H5 np e5 hp => ?_⟩⟩
      refine k _ p (mkBoth r0 f2 R2 (hH2.mono e4) (Grown.refl _ _) (Frame.ex e4) ar rL e5) (fun b o hb ba bL br z => ?_) hp
      rw [← z, e4 _ _ (f2 _ _ hb br)] at np
      cases np
    | check hn hl ll hm =>
      rename_i n l ms
      have hd' : ns.drop i = (5 : Int) :: ((n : Int) :: (l.length : Int) :: (toZ l ++ rest)) := by
        rw [hd]
        simp [PyFlat.put1, PyFlat.putRows, PyFlat.putRow, SM.toZ_length]
      obtain ⟨g1, d1, _⟩ := drop_get (row := []) hd'
      refine ⟨_, rfl, r, _, _, rfl, r0, rF_no (by decide +kernel) (by decide +kernel), r, c, i, ns, _, rfl, hR, hc, g1, fun H1 R1 f1 => ?_⟩
      refine q_when (b := false) (et_test (ev_op (ev_var rfl) ev_c (rv_eq (x := .int 5) (y := .int 0) rfl))) (fun z => nomatch z) (fun _ G0 w0 => ?_)
      refine q_when (b := false) (et_test (ev_op (ev_var rfl) ev_c (rv_eq (x := .int 5) (y := .int 1) rfl))) (fun z => nomatch z) (fun _ G1 w1 => ?_)
      refine q_when (b := false) (et_test (ev_op (ev_var rfl) ev_c (rv_eq (x := .int 5) (y := .int 2) rfl))) (fun z => nomatch z) (fun _ G2 w2 => ?_)
      refine q_when (b := false) (et_test (ev_op (ev_var rfl) ev_c (rv_eq (x := .int 5) (y := .int 3) rfl))) (fun z => nomatch z) (fun _ G3 w3 => ?_)
      refine q_when (b := false) (et_test (ev_op (ev_var rfl) ev_c (rv_eq (x := .int 5) (y := .int 4) rfl))) (fun z => nomatch z) (fun _ G4 w4 => ?_)
      refine q_when (b := true) (et_test (ev_op (ev_var rfl) ev_c (rv_eq (x := .int 5) (y := .int 5) rfl))) (fun _ H2 e2 => ?_) (fun z => nomatch z)
      have e12 : Ex H1 H2 := (w0.trans (w1.trans (w2.trans (w3.trans (w4.trans e2)))))
      have f2 : Fr H H2 r := f1.trans (Fr.ex e12)
      have R2 := R1.mono e12
      have hH2 := (hH.fr r0 ar f1).mono e12
      have c2 := ex_l e12 (sq_fr hc r0 f1)
      obtain ⟨dx2, r2⟩ := id R2
      obtain ⟨dxh, v0, v1, v2, v3, v4, v5, hi⟩ := hH2.ins
      refine ⟨_, rfl, _, rfl, a, r, c, L, st, i + 1, ns, rest, n, l, ms, rfl, hH2, hst, R2, ar, c2, d1, hn, hm, fun t H4 bo low ans => ⟨t, _, rfl, ans, SM.short_check hst ms, fun p H5 np e5 hp => ?_⟩⟩
      obtain ⟨L4, hH4, g4, R4, fr4⟩ := bo
      have ei : i + 1 + 2 + l.length = i + (PyFlat.put1 [[5, (n : Int)], toZ l]).length := by
        simp [PyFlat.put1, PyFlat.putRows, PyFlat.putRow, SM.toZ_length]
        omega
      refine k _ p ⟨L4, hH4.mono e5, fun b hb => ?_, ?_, fun b o hb ba bL br => e5 _ _ (fr4 _ _ (f2 _ _ hb br) ba bL br)⟩ (fun b o hb ba bL br z => ?_) hp
      · rcases g4 b hb with q | q
        · exact .inl q
        · refine .inr ?_
          cases hq : H b with
          | none => rfl
          | some o =>
            exfalso
            by_cases br : b = r
            · rw [br, r2] at q
              cases q
            · rw [f2 _ _ hq br] at q
              cases q
      · rw [← ei]
        exact R4.mono e5
      · rw [← z, low _ _ (f2 _ _ hb br) br] at np
        cases np
theorem ok_answers (T : Tx K mg) : FnOk P w K mg base CX0 11 T.f_answers T.d_answers ["calls"] (spAns K) := ok_answers_of T (by decide) (ok_answer_next T)
end
end SC

namespace SC
open PySem PySem.Spec PyProof.Rows L2 Evl
theorem all_mk {P : Program} {w : World} {fa : Addr} {K : PySem.W.Frag} {h : Heap} {mg : Str → Option Value} {C_Step C_Plan C_House C_Reader f_Step_init f_pieces_on f_steps_from f_step_by f_steps_by_standing f_lowered f_weights_to f_Plan_init f_Plan_weights_by_scene f_Plan_least f_Plan_is_over f_Plan_first_step f_Plan_rows f_sizes_fit f_wings_fit f_pieces_rise f_rows_of f_ways_to_stand f_House_init f_House_begins f_House_scene f_House_drop f_House_standing f_House_plan f_House_least f_House_ways f_House_check f_Reader_init f_Reader_has_more f_Reader_take_number f_Reader_take_row f_answer_begins f_take_carrying f_answer_check f_with_rows f_answer_next f_answers : Addr}
    {od0 an0 od1 an1 od2 an2 od3 an3 od4 an4 od5 an5 od6 an6 od7 an7 od8 an8 od9 an9 od10 an10 od11 an11 od12 an12 od13 an13 od14 an14 od15 an15 od16 an16 od17 an17 od18 an18 od19 an19 od20 an20 od21 an21 od22 an22 od23 an23 od24 an24 od25 an25 od26 an26 od27 an27 od28 an28 od29 an29 od30 an30 od31 an31 od32 an32 od33 an33 od34 an34 od35 an35 od36 an36 : Option Addr} {sl0 sl1 sl2 sl3 sl4 sl5 sl6 sl7 sl8 sl9 sl10 sl11 sl12 sl13 sl14 sl15 sl16 sl17 sl18 sl19 sl20 sl21 sl22 sl23 sl24 sl25 sl26 sl27 sl28 sl29 sl30 sl31 sl32 sl33 sl34 sl35 sl36 : Array (Option Value)} {oc0 kV0 dc0 pm0 cd0 ct0 oc1 kV1 dc1 pm1 cd1 ct1 oc2 kV2 dc2 pm2 cd2 ct2 oc3 kV3 dc3 pm3 cd3 ct3 oc4 kV4 dc4 pm4 cd4 ct4 oc5 kV5 dc5 pm5 cd5 ct5 oc6 kV6 dc6 pm6 cd6 ct6 oc7 kV7 dc7 pm7 cd7 ct7 oc8 kV8 dc8 pm8 cd8 ct8 oc9 kV9 dc9 pm9 cd9 ct9 oc10 kV10 dc10 pm10 cd10 ct10 oc11 kV11 dc11 pm11 cd11 ct11 oc12 kV12 dc12 pm12 cd12 ct12 oc13 kV13 dc13 pm13 cd13 ct13 oc14 kV14 dc14 pm14 cd14 ct14 oc15 kV15 dc15 pm15 cd15 ct15 oc16 kV16 dc16 pm16 cd16 ct16 oc17 kV17 dc17 pm17 cd17 ct17 oc18 kV18 dc18 pm18 cd18 ct18 oc19 kV19 dc19 pm19 cd19 ct19 oc20 kV20 dc20 pm20 cd20 ct20 oc21 kV21 dc21 pm21 cd21 ct21 oc22 kV22 dc22 pm22 cd22 ct22 oc23 kV23 dc23 pm23 cd23 ct23 oc24 kV24 dc24 pm24 cd24 ct24 oc25 kV25 dc25 pm25 cd25 ct25 oc26 kV26 dc26 pm26 cd26 ct26 oc27 kV27 dc27 pm27 cd27 ct27 oc28 kV28 dc28 pm28 cd28 ct28 oc29 kV29 dc29 pm29 cd29 ct29 oc30 kV30 dc30 pm30 cd30 ct30 oc31 kV31 dc31 pm31 cd31 ct31 oc32 kV32 dc32 pm32 cd32 ct32 oc33 kV33 dc33 pm33 cd33 ct33 oc34 kV34 dc34 pm34 cd34 ct34 oc35 kV35 dc35 pm35 cd35 ct35 oc36 kV36 dc36 pm36 cd36 ct36 : Value} {t_OFF_LEFT t_OFF_RIGHT t_ON_LEFT t_ON_RIGHT t_MOST_PIECES t_MOST_HEAVY t_MOST_ROOM t_MOST_SCENES t_BEGINS t_SCENE t_DROP t_LEAST t_WAYS t_CHECK : Tok}
    (X : K.In h) (G : h.Ns mainGlobals mg) (hfa : mg "answers" = some (.ref fa))
    (aC_Step : PySem.W.nsIn K mainGlobals "Step" = some (some (.ref C_Step)))
    (aC_Plan : PySem.W.nsIn K mainGlobals "Plan" = some (some (.ref C_Plan)))
    (aC_House : PySem.W.nsIn K mainGlobals "House" = some (some (.ref C_House)))
    (aC_Reader : PySem.W.nsIn K mainGlobals "Reader" = some (some (.ref C_Reader)))
    (a0 : PySem.W.findIn K (.ref C_Step) "__init__" = some (some (.ref f_Step_init)))
    (i0 : PySem.W.isFn K (.ref f_Step_init) = true)
    (l0 : K.lookup f_Step_init = some ⟨oc0, od0, .func (PySem.W.fnOf "__init__" "Step.__init__" (defArgs s_Step_init) (defBody s_Step_init) (defScope s_Step_init) .none kV0 dc0 pm0 an0 cd0 ct0), sl0⟩)
    (c0 : PySem.W.codeIn K cd0 "Step.__init__" = true)
    (k0 : PySem.W.keepIn K (.ref f_Step_init) = true)
    (a1 : PySem.W.nsIn K mainGlobals "pieces_on" = some (some (.ref f_pieces_on)))
    (l1 : K.lookup f_pieces_on = some ⟨oc1, od1, .func (PySem.W.fnOf "pieces_on" "pieces_on" (defArgs s_pieces_on) (defBody s_pieces_on) (defScope s_pieces_on) .none kV1 dc1 pm1 an1 cd1 ct1), sl1⟩)
    (c1 : PySem.W.codeIn K cd1 "pieces_on" = true)
    (k1 : PySem.W.keepIn K (.ref f_pieces_on) = true)
    (a2 : PySem.W.nsIn K mainGlobals "steps_from" = some (some (.ref f_steps_from)))
    (l2 : K.lookup f_steps_from = some ⟨oc2, od2, .func (PySem.W.fnOf "steps_from" "steps_from" (defArgs s_steps_from) (defBody s_steps_from) (defScope s_steps_from) .none kV2 dc2 pm2 an2 cd2 ct2), sl2⟩)
    (c2 : PySem.W.codeIn K cd2 "steps_from" = true)
    (k2 : PySem.W.keepIn K (.ref f_steps_from) = true)
    (a3 : PySem.W.nsIn K mainGlobals "step_by" = some (some (.ref f_step_by)))
    (l3 : K.lookup f_step_by = some ⟨oc3, od3, .func (PySem.W.fnOf "step_by" "step_by" (defArgs s_step_by) (defBody s_step_by) (defScope s_step_by) .none kV3 dc3 pm3 an3 cd3 ct3), sl3⟩)
    (c3 : PySem.W.codeIn K cd3 "step_by" = true)
    (k3 : PySem.W.keepIn K (.ref f_step_by) = true)
    (a4 : PySem.W.nsIn K mainGlobals "steps_by_standing" = some (some (.ref f_steps_by_standing)))
    (l4 : K.lookup f_steps_by_standing = some ⟨oc4, od4, .func (PySem.W.fnOf "steps_by_standing" "steps_by_standing" (defArgs s_steps_by_standing) (defBody s_steps_by_standing) (defScope s_steps_by_standing) .none kV4 dc4 pm4 an4 cd4 ct4), sl4⟩)
    (c4 : PySem.W.codeIn K cd4 "steps_by_standing" = true)
    (k4 : PySem.W.keepIn K (.ref f_steps_by_standing) = true)
    (a5 : PySem.W.nsIn K mainGlobals "lowered" = some (some (.ref f_lowered)))
    (l5 : K.lookup f_lowered = some ⟨oc5, od5, .func (PySem.W.fnOf "lowered" "lowered" (defArgs s_lowered) (defBody s_lowered) (defScope s_lowered) .none kV5 dc5 pm5 an5 cd5 ct5), sl5⟩)
    (c5 : PySem.W.codeIn K cd5 "lowered" = true)
    (k5 : PySem.W.keepIn K (.ref f_lowered) = true)
    (a6 : PySem.W.nsIn K mainGlobals "weights_to" = some (some (.ref f_weights_to)))
    (l6 : K.lookup f_weights_to = some ⟨oc6, od6, .func (PySem.W.fnOf "weights_to" "weights_to" (defArgs s_weights_to) (defBody s_weights_to) (defScope s_weights_to) .none kV6 dc6 pm6 an6 cd6 ct6), sl6⟩)
    (c6 : PySem.W.codeIn K cd6 "weights_to" = true)
    (k6 : PySem.W.keepIn K (.ref f_weights_to) = true)
    (a7 : PySem.W.findIn K (.ref C_Plan) "__init__" = some (some (.ref f_Plan_init)))
    (i7 : PySem.W.isFn K (.ref f_Plan_init) = true)
    (l7 : K.lookup f_Plan_init = some ⟨oc7, od7, .func (PySem.W.fnOf "__init__" "Plan.__init__" (defArgs s_Plan_init) (defBody s_Plan_init) (defScope s_Plan_init) .none kV7 dc7 pm7 an7 cd7 ct7), sl7⟩)
    (c7 : PySem.W.codeIn K cd7 "Plan.__init__" = true)
    (k7 : PySem.W.keepIn K (.ref f_Plan_init) = true)
    (a8 : PySem.W.findIn K (.ref C_Plan) "weights_by_scene" = some (some (.ref f_Plan_weights_by_scene)))
    (i8 : PySem.W.isFn K (.ref f_Plan_weights_by_scene) = true)
    (l8 : K.lookup f_Plan_weights_by_scene = some ⟨oc8, od8, .func (PySem.W.fnOf "weights_by_scene" "Plan.weights_by_scene" (defArgs s_Plan_weights_by_scene) (defBody s_Plan_weights_by_scene) (defScope s_Plan_weights_by_scene) .none kV8 dc8 pm8 an8 cd8 ct8), sl8⟩)
    (c8 : PySem.W.codeIn K cd8 "Plan.weights_by_scene" = true)
    (k8 : PySem.W.keepIn K (.ref f_Plan_weights_by_scene) = true)
    (a9 : PySem.W.findIn K (.ref C_Plan) "least" = some (some (.ref f_Plan_least)))
    (i9 : PySem.W.isFn K (.ref f_Plan_least) = true)
    (l9 : K.lookup f_Plan_least = some ⟨oc9, od9, .func (PySem.W.fnOf "least" "Plan.least" (defArgs s_Plan_least) (defBody s_Plan_least) (defScope s_Plan_least) .none kV9 dc9 pm9 an9 cd9 ct9), sl9⟩)
    (c9 : PySem.W.codeIn K cd9 "Plan.least" = true)
    (k9 : PySem.W.keepIn K (.ref f_Plan_least) = true)
    (a10 : PySem.W.findIn K (.ref C_Plan) "is_over" = some (some (.ref f_Plan_is_over)))
    (i10 : PySem.W.isFn K (.ref f_Plan_is_over) = true)
    (l10 : K.lookup f_Plan_is_over = some ⟨oc10, od10, .func (PySem.W.fnOf "is_over" "Plan.is_over" (defArgs s_Plan_is_over) (defBody s_Plan_is_over) (defScope s_Plan_is_over) .none kV10 dc10 pm10 an10 cd10 ct10), sl10⟩)
    (c10 : PySem.W.codeIn K cd10 "Plan.is_over" = true)
    (k10 : PySem.W.keepIn K (.ref f_Plan_is_over) = true)
    (a11 : PySem.W.findIn K (.ref C_Plan) "first_step" = some (some (.ref f_Plan_first_step)))
    (i11 : PySem.W.isFn K (.ref f_Plan_first_step) = true)
    (l11 : K.lookup f_Plan_first_step = some ⟨oc11, od11, .func (PySem.W.fnOf "first_step" "Plan.first_step" (defArgs s_Plan_first_step) (defBody s_Plan_first_step) (defScope s_Plan_first_step) .none kV11 dc11 pm11 an11 cd11 ct11), sl11⟩)
    (c11 : PySem.W.codeIn K cd11 "Plan.first_step" = true)
    (k11 : PySem.W.keepIn K (.ref f_Plan_first_step) = true)
    (a12 : PySem.W.findIn K (.ref C_Plan) "rows" = some (some (.ref f_Plan_rows)))
    (i12 : PySem.W.isFn K (.ref f_Plan_rows) = true)
    (l12 : K.lookup f_Plan_rows = some ⟨oc12, od12, .func (PySem.W.fnOf "rows" "Plan.rows" (defArgs s_Plan_rows) (defBody s_Plan_rows) (defScope s_Plan_rows) .none kV12 dc12 pm12 an12 cd12 ct12), sl12⟩)
    (c12 : PySem.W.codeIn K cd12 "Plan.rows" = true)
    (k12 : PySem.W.keepIn K (.ref f_Plan_rows) = true)
    (a13 : PySem.W.nsIn K mainGlobals "sizes_fit" = some (some (.ref f_sizes_fit)))
    (l13 : K.lookup f_sizes_fit = some ⟨oc13, od13, .func (PySem.W.fnOf "sizes_fit" "sizes_fit" (defArgs s_sizes_fit) (defBody s_sizes_fit) (defScope s_sizes_fit) .none kV13 dc13 pm13 an13 cd13 ct13), sl13⟩)
    (c13 : PySem.W.codeIn K cd13 "sizes_fit" = true)
    (k13 : PySem.W.keepIn K (.ref f_sizes_fit) = true)
    (a14 : PySem.W.nsIn K mainGlobals "wings_fit" = some (some (.ref f_wings_fit)))
    (l14 : K.lookup f_wings_fit = some ⟨oc14, od14, .func (PySem.W.fnOf "wings_fit" "wings_fit" (defArgs s_wings_fit) (defBody s_wings_fit) (defScope s_wings_fit) .none kV14 dc14 pm14 an14 cd14 ct14), sl14⟩)
    (c14 : PySem.W.codeIn K cd14 "wings_fit" = true)
    (k14 : PySem.W.keepIn K (.ref f_wings_fit) = true)
    (a15 : PySem.W.nsIn K mainGlobals "pieces_rise" = some (some (.ref f_pieces_rise)))
    (l15 : K.lookup f_pieces_rise = some ⟨oc15, od15, .func (PySem.W.fnOf "pieces_rise" "pieces_rise" (defArgs s_pieces_rise) (defBody s_pieces_rise) (defScope s_pieces_rise) .none kV15 dc15 pm15 an15 cd15 ct15), sl15⟩)
    (c15 : PySem.W.codeIn K cd15 "pieces_rise" = true)
    (k15 : PySem.W.keepIn K (.ref f_pieces_rise) = true)
    (a16 : PySem.W.nsIn K mainGlobals "rows_of" = some (some (.ref f_rows_of)))
    (l16 : K.lookup f_rows_of = some ⟨oc16, od16, .func (PySem.W.fnOf "rows_of" "rows_of" (defArgs s_rows_of) (defBody s_rows_of) (defScope s_rows_of) .none kV16 dc16 pm16 an16 cd16 ct16), sl16⟩)
    (c16 : PySem.W.codeIn K cd16 "rows_of" = true)
    (k16 : PySem.W.keepIn K (.ref f_rows_of) = true)
    (a17 : PySem.W.nsIn K mainGlobals "ways_to_stand" = some (some (.ref f_ways_to_stand)))
    (l17 : K.lookup f_ways_to_stand = some ⟨oc17, od17, .func (PySem.W.fnOf "ways_to_stand" "ways_to_stand" (defArgs s_ways_to_stand) (defBody s_ways_to_stand) (defScope s_ways_to_stand) .none kV17 dc17 pm17 an17 cd17 ct17), sl17⟩)
    (c17 : PySem.W.codeIn K cd17 "ways_to_stand" = true)
    (k17 : PySem.W.keepIn K (.ref f_ways_to_stand) = true)
    (a18 : PySem.W.findIn K (.ref C_House) "__init__" = some (some (.ref f_House_init)))
    (i18 : PySem.W.isFn K (.ref f_House_init) = true)
    (l18 : K.lookup f_House_init = some ⟨oc18, od18, .func (PySem.W.fnOf "__init__" "House.__init__" (defArgs s_House_init) (defBody s_House_init) (defScope s_House_init) .none kV18 dc18 pm18 an18 cd18 ct18), sl18⟩)
    (c18 : PySem.W.codeIn K cd18 "House.__init__" = true)
    (k18 : PySem.W.keepIn K (.ref f_House_init) = true)
    (a19 : PySem.W.findIn K (.ref C_House) "begins" = some (some (.ref f_House_begins)))
    (i19 : PySem.W.isFn K (.ref f_House_begins) = true)
    (l19 : K.lookup f_House_begins = some ⟨oc19, od19, .func (PySem.W.fnOf "begins" "House.begins" (defArgs s_House_begins) (defBody s_House_begins) (defScope s_House_begins) .none kV19 dc19 pm19 an19 cd19 ct19), sl19⟩)
    (c19 : PySem.W.codeIn K cd19 "House.begins" = true)
    (k19 : PySem.W.keepIn K (.ref f_House_begins) = true)
    (a20 : PySem.W.findIn K (.ref C_House) "scene" = some (some (.ref f_House_scene)))
    (i20 : PySem.W.isFn K (.ref f_House_scene) = true)
    (l20 : K.lookup f_House_scene = some ⟨oc20, od20, .func (PySem.W.fnOf "scene" "House.scene" (defArgs s_House_scene) (defBody s_House_scene) (defScope s_House_scene) .none kV20 dc20 pm20 an20 cd20 ct20), sl20⟩)
    (c20 : PySem.W.codeIn K cd20 "House.scene" = true)
    (k20 : PySem.W.keepIn K (.ref f_House_scene) = true)
    (a21 : PySem.W.findIn K (.ref C_House) "drop" = some (some (.ref f_House_drop)))
    (i21 : PySem.W.isFn K (.ref f_House_drop) = true)
    (l21 : K.lookup f_House_drop = some ⟨oc21, od21, .func (PySem.W.fnOf "drop" "House.drop" (defArgs s_House_drop) (defBody s_House_drop) (defScope s_House_drop) .none kV21 dc21 pm21 an21 cd21 ct21), sl21⟩)
    (c21 : PySem.W.codeIn K cd21 "House.drop" = true)
    (k21 : PySem.W.keepIn K (.ref f_House_drop) = true)
    (a22 : PySem.W.findIn K (.ref C_House) "standing" = some (some (.ref f_House_standing)))
    (i22 : PySem.W.isFn K (.ref f_House_standing) = true)
    (l22 : K.lookup f_House_standing = some ⟨oc22, od22, .func (PySem.W.fnOf "standing" "House.standing" (defArgs s_House_standing) (defBody s_House_standing) (defScope s_House_standing) .none kV22 dc22 pm22 an22 cd22 ct22), sl22⟩)
    (c22 : PySem.W.codeIn K cd22 "House.standing" = true)
    (k22 : PySem.W.keepIn K (.ref f_House_standing) = true)
    (a23 : PySem.W.findIn K (.ref C_House) "plan" = some (some (.ref f_House_plan)))
    (i23 : PySem.W.isFn K (.ref f_House_plan) = true)
    (l23 : K.lookup f_House_plan = some ⟨oc23, od23, .func (PySem.W.fnOf "plan" "House.plan" (defArgs s_House_plan) (defBody s_House_plan) (defScope s_House_plan) .none kV23 dc23 pm23 an23 cd23 ct23), sl23⟩)
    (c23 : PySem.W.codeIn K cd23 "House.plan" = true)
    (k23 : PySem.W.keepIn K (.ref f_House_plan) = true)
    (a24 : PySem.W.findIn K (.ref C_House) "least" = some (some (.ref f_House_least)))
    (i24 : PySem.W.isFn K (.ref f_House_least) = true)
    (l24 : K.lookup f_House_least = some ⟨oc24, od24, .func (PySem.W.fnOf "least" "House.least" (defArgs s_House_least) (defBody s_House_least) (defScope s_House_least) .none kV24 dc24 pm24 an24 cd24 ct24), sl24⟩)
    (c24 : PySem.W.codeIn K cd24 "House.least" = true)
    (k24 : PySem.W.keepIn K (.ref f_House_least) = true)
    (a25 : PySem.W.findIn K (.ref C_House) "ways" = some (some (.ref f_House_ways)))
    (i25 : PySem.W.isFn K (.ref f_House_ways) = true)
    (l25 : K.lookup f_House_ways = some ⟨oc25, od25, .func (PySem.W.fnOf "ways" "House.ways" (defArgs s_House_ways) (defBody s_House_ways) (defScope s_House_ways) .none kV25 dc25 pm25 an25 cd25 ct25), sl25⟩)
    (c25 : PySem.W.codeIn K cd25 "House.ways" = true)
    (k25 : PySem.W.keepIn K (.ref f_House_ways) = true)
    (a26 : PySem.W.findIn K (.ref C_House) "check" = some (some (.ref f_House_check)))
    (i26 : PySem.W.isFn K (.ref f_House_check) = true)
    (l26 : K.lookup f_House_check = some ⟨oc26, od26, .func (PySem.W.fnOf "check" "House.check" (defArgs s_House_check) (defBody s_House_check) (defScope s_House_check) .none kV26 dc26 pm26 an26 cd26 ct26), sl26⟩)
    (c26 : PySem.W.codeIn K cd26 "House.check" = true)
    (k26 : PySem.W.keepIn K (.ref f_House_check) = true)
    (a27 : PySem.W.findIn K (.ref C_Reader) "__init__" = some (some (.ref f_Reader_init)))
    (i27 : PySem.W.isFn K (.ref f_Reader_init) = true)
    (l27 : K.lookup f_Reader_init = some ⟨oc27, od27, .func (PySem.W.fnOf "__init__" "Reader.__init__" (defArgs s_Reader_init) (defBody s_Reader_init) (defScope s_Reader_init) .none kV27 dc27 pm27 an27 cd27 ct27), sl27⟩)
    (c27 : PySem.W.codeIn K cd27 "Reader.__init__" = true)
    (k27 : PySem.W.keepIn K (.ref f_Reader_init) = true)
    (a28 : PySem.W.findIn K (.ref C_Reader) "has_more" = some (some (.ref f_Reader_has_more)))
    (i28 : PySem.W.isFn K (.ref f_Reader_has_more) = true)
    (l28 : K.lookup f_Reader_has_more = some ⟨oc28, od28, .func (PySem.W.fnOf "has_more" "Reader.has_more" (defArgs s_Reader_has_more) (defBody s_Reader_has_more) (defScope s_Reader_has_more) .none kV28 dc28 pm28 an28 cd28 ct28), sl28⟩)
    (c28 : PySem.W.codeIn K cd28 "Reader.has_more" = true)
    (k28 : PySem.W.keepIn K (.ref f_Reader_has_more) = true)
    (a29 : PySem.W.findIn K (.ref C_Reader) "take_number" = some (some (.ref f_Reader_take_number)))
    (i29 : PySem.W.isFn K (.ref f_Reader_take_number) = true)
    (l29 : K.lookup f_Reader_take_number = some ⟨oc29, od29, .func (PySem.W.fnOf "take_number" "Reader.take_number" (defArgs s_Reader_take_number) (defBody s_Reader_take_number) (defScope s_Reader_take_number) .none kV29 dc29 pm29 an29 cd29 ct29), sl29⟩)
    (c29 : PySem.W.codeIn K cd29 "Reader.take_number" = true)
    (k29 : PySem.W.keepIn K (.ref f_Reader_take_number) = true)
    (a30 : PySem.W.findIn K (.ref C_Reader) "take_row" = some (some (.ref f_Reader_take_row)))
    (i30 : PySem.W.isFn K (.ref f_Reader_take_row) = true)
    (l30 : K.lookup f_Reader_take_row = some ⟨oc30, od30, .func (PySem.W.fnOf "take_row" "Reader.take_row" (defArgs s_Reader_take_row) (defBody s_Reader_take_row) (defScope s_Reader_take_row) .none kV30 dc30 pm30 an30 cd30 ct30), sl30⟩)
    (c30 : PySem.W.codeIn K cd30 "Reader.take_row" = true)
    (k30 : PySem.W.keepIn K (.ref f_Reader_take_row) = true)
    (a31 : PySem.W.nsIn K mainGlobals "answer_begins" = some (some (.ref f_answer_begins)))
    (l31 : K.lookup f_answer_begins = some ⟨oc31, od31, .func (PySem.W.fnOf "answer_begins" "answer_begins" (defArgs s_answer_begins) (defBody s_answer_begins) (defScope s_answer_begins) .none kV31 dc31 pm31 an31 cd31 ct31), sl31⟩)
    (c31 : PySem.W.codeIn K cd31 "answer_begins" = true)
    (k31 : PySem.W.keepIn K (.ref f_answer_begins) = true)
    (a32 : PySem.W.nsIn K mainGlobals "take_carrying" = some (some (.ref f_take_carrying)))
    (l32 : K.lookup f_take_carrying = some ⟨oc32, od32, .func (PySem.W.fnOf "take_carrying" "take_carrying" (defArgs s_take_carrying) (defBody s_take_carrying) (defScope s_take_carrying) .none kV32 dc32 pm32 an32 cd32 ct32), sl32⟩)
    (c32 : PySem.W.codeIn K cd32 "take_carrying" = true)
    (k32 : PySem.W.keepIn K (.ref f_take_carrying) = true)
    (a33 : PySem.W.nsIn K mainGlobals "answer_check" = some (some (.ref f_answer_check)))
    (l33 : K.lookup f_answer_check = some ⟨oc33, od33, .func (PySem.W.fnOf "answer_check" "answer_check" (defArgs s_answer_check) (defBody s_answer_check) (defScope s_answer_check) .none kV33 dc33 pm33 an33 cd33 ct33), sl33⟩)
    (c33 : PySem.W.codeIn K cd33 "answer_check" = true)
    (k33 : PySem.W.keepIn K (.ref f_answer_check) = true)
    (a34 : PySem.W.nsIn K mainGlobals "with_rows" = some (some (.ref f_with_rows)))
    (l34 : K.lookup f_with_rows = some ⟨oc34, od34, .func (PySem.W.fnOf "with_rows" "with_rows" (defArgs s_with_rows) (defBody s_with_rows) (defScope s_with_rows) .none kV34 dc34 pm34 an34 cd34 ct34), sl34⟩)
    (c34 : PySem.W.codeIn K cd34 "with_rows" = true)
    (k34 : PySem.W.keepIn K (.ref f_with_rows) = true)
    (a35 : PySem.W.nsIn K mainGlobals "answer_next" = some (some (.ref f_answer_next)))
    (l35 : K.lookup f_answer_next = some ⟨oc35, od35, .func (PySem.W.fnOf "answer_next" "answer_next" (defArgs s_answer_next) (defBody s_answer_next) (defScope s_answer_next) .none kV35 dc35 pm35 an35 cd35 ct35), sl35⟩)
    (c35 : PySem.W.codeIn K cd35 "answer_next" = true)
    (k35 : PySem.W.keepIn K (.ref f_answer_next) = true)
    (a36 : PySem.W.nsIn K mainGlobals "answers" = some (some (.ref f_answers)))
    (l36 : K.lookup f_answers = some ⟨oc36, od36, .func (PySem.W.fnOf "answers" "answers" (defArgs s_answers) (defBody s_answers) (defScope s_answers) .none kV36 dc36 pm36 an36 cd36 ct36), sl36⟩)
    (c36 : PySem.W.codeIn K cd36 "answers" = true)
    (k36 : PySem.W.keepIn K (.ref f_answers) = true)
    (pg_Step : PySem.W.plainGet K C_Step Str.empty = true)
    (hd_Step : PySem.W.hasDictIn K C_Step = true)
    (po_Step : PySem.W.plainOver K C_Step = true)
    (sa_Step : PySem.W.findIn K (.ref C_Step) "__setattr__" = some (some (.builtin "object.__setattr__")))
    (mk_Step : PySem.W.makesIn K C_Step = true)
    (kc_Step : PySem.W.keepIn K (.ref C_Step) = true)
    (n_Step_carrying : PySem.W.findIn K (.ref C_Step) "carrying" = some none)
    (n_Step_weight : PySem.W.findIn K (.ref C_Step) "weight" = some none)
    (n_Step_after : PySem.W.findIn K (.ref C_Step) "after" = some none)
    (pg_Plan : PySem.W.plainGet K C_Plan Str.empty = true)
    (hd_Plan : PySem.W.hasDictIn K C_Plan = true)
    (po_Plan : PySem.W.plainOver K C_Plan = true)
    (sa_Plan : PySem.W.findIn K (.ref C_Plan) "__setattr__" = some (some (.builtin "object.__setattr__")))
    (mk_Plan : PySem.W.makesIn K C_Plan = true)
    (kc_Plan : PySem.W.keepIn K (.ref C_Plan) = true)
    (n_Plan_many : PySem.W.findIn K (.ref C_Plan) "many" = some none)
    (n_Plan_start : PySem.W.findIn K (.ref C_Plan) "start" = some none)
    (n_Plan_scenes : PySem.W.findIn K (.ref C_Plan) "scenes" = some none)
    (n_Plan_steps : PySem.W.findIn K (.ref C_Plan) "steps" = some none)
    (n_Plan_weights : PySem.W.findIn K (.ref C_Plan) "weights" = some none)
    (pg_House : PySem.W.plainGet K C_House Str.empty = true)
    (hd_House : PySem.W.hasDictIn K C_House = true)
    (po_House : PySem.W.plainOver K C_House = true)
    (sa_House : PySem.W.findIn K (.ref C_House) "__setattr__" = some (some (.builtin "object.__setattr__")))
    (mk_House : PySem.W.makesIn K C_House = true)
    (kc_House : PySem.W.keepIn K (.ref C_House) = true)
    (n_House_heavy : PySem.W.findIn K (.ref C_House) "heavy" = some none)
    (n_House_left_room : PySem.W.findIn K (.ref C_House) "left_room" = some none)
    (n_House_right_room : PySem.W.findIn K (.ref C_House) "right_room" = some none)
    (n_House_left : PySem.W.findIn K (.ref C_House) "left" = some none)
    (n_House_right : PySem.W.findIn K (.ref C_House) "right" = some none)
    (n_House_scenes : PySem.W.findIn K (.ref C_House) "scenes" = some none)
    (pg_Reader : PySem.W.plainGet K C_Reader Str.empty = true)
    (hd_Reader : PySem.W.hasDictIn K C_Reader = true)
    (po_Reader : PySem.W.plainOver K C_Reader = true)
    (sa_Reader : PySem.W.findIn K (.ref C_Reader) "__setattr__" = some (some (.builtin "object.__setattr__")))
    (mk_Reader : PySem.W.makesIn K C_Reader = true)
    (kc_Reader : PySem.W.keepIn K (.ref C_Reader) = true)
    (n_Reader_numbers : PySem.W.findIn K (.ref C_Reader) "numbers" = some none)
    (n_Reader_place : PySem.W.findIn K (.ref C_Reader) "place" = some none)
    (g_OFF_LEFT : PySem.W.nsIn K mainGlobals "OFF_LEFT" = some (some (.int 0 t_OFF_LEFT)))
    (g_OFF_RIGHT : PySem.W.nsIn K mainGlobals "OFF_RIGHT" = some (some (.int 1 t_OFF_RIGHT)))
    (g_ON_LEFT : PySem.W.nsIn K mainGlobals "ON_LEFT" = some (some (.int 2 t_ON_LEFT)))
    (g_ON_RIGHT : PySem.W.nsIn K mainGlobals "ON_RIGHT" = some (some (.int 3 t_ON_RIGHT)))
    (g_MOST_PIECES : PySem.W.nsIn K mainGlobals "MOST_PIECES" = some (some (.int 4 t_MOST_PIECES)))
    (g_MOST_HEAVY : PySem.W.nsIn K mainGlobals "MOST_HEAVY" = some (some (.int 1000 t_MOST_HEAVY)))
    (g_MOST_ROOM : PySem.W.nsIn K mainGlobals "MOST_ROOM" = some (some (.int 3 t_MOST_ROOM)))
    (g_MOST_SCENES : PySem.W.nsIn K mainGlobals "MOST_SCENES" = some (some (.int 4 t_MOST_SCENES)))
    (g_BEGINS : PySem.W.nsIn K mainGlobals "BEGINS" = some (some (.int 0 t_BEGINS)))
    (g_SCENE : PySem.W.nsIn K mainGlobals "SCENE" = some (some (.int 1 t_SCENE)))
    (g_DROP : PySem.W.nsIn K mainGlobals "DROP" = some (some (.int 2 t_DROP)))
    (g_LEAST : PySem.W.nsIn K mainGlobals "LEAST" = some (some (.int 3 t_LEAST)))
    (g_WAYS : PySem.W.nsIn K mainGlobals "WAYS" = some (some (.int 4 t_WAYS)))
    (g_CHECK : PySem.W.nsIn K mainGlobals "CHECK" = some (some (.int 5 t_CHECK)))
    (b_enumerate : PySem.W.nsIn K mainGlobals "enumerate" = some none)
    (b_len : PySem.W.nsIn K mainGlobals "len" = some none)
    (b_list : PySem.W.nsIn K mainGlobals "list" = some none)
    (b_min : PySem.W.nsIn K mainGlobals "min" = some none)
    (b_range : PySem.W.nsIn K mainGlobals "range" = some none)
    (b_reversed : PySem.W.nsIn K mainGlobals "reversed" = some none)
    (b_tuple : PySem.W.nsIn K mainGlobals "tuple" = some none)
    : ∃ fd : FuncData, (∀ (s : Shared) (us : List Value), us.length = (["calls"] : List Str).length → BindsTo s fd ⟨us, []⟩ ((["calls"] : List Str).zip us)) ∧ ∀ base : Heap, K.In base → base.Ns mainGlobals mg → FnOk P w K mg base CX0 11 fa fd ["calls"] (spAns K) := by
  have e := hfa.symm.trans (PySem.W.mg_of X G a36)
  cases e
  obtain ⟨T, e1, e2⟩ := tx_mk X G aC_Step aC_Plan aC_House aC_Reader a0 i0 l0 c0 k0 a1 l1 c1 k1 a2 l2 c2 k2 a3 l3 c3 k3 a4 l4 c4 k4 a5 l5 c5 k5 a6 l6 c6 k6 a7 i7 l7 c7 k7 a8 i8 l8 c8 k8 a9 i9 l9 c9 k9 a10 i10 l10 c10 k10 a11 i11 l11 c11 k11 a12 i12 l12 c12 k12 a13 l13 c13 k13 a14 l14 c14 k14 a15 l15 c15 k15 a16 l16 c16 k16 a17 l17 c17 k17 a18 i18 l18 c18 k18 a19 i19 l19 c19 k19 a20 i20 l20 c20 k20 a21 i21 l21 c21 k21 a22 i22 l22 c22 k22 a23 i23 l23 c23 k23 a24 i24 l24 c24 k24 a25 i25 l25 c25 k25 a26 i26 l26 c26 k26 a27 i27 l27 c27 k27 a28 i28 l28 c28 k28 a29 i29 l29 c29 k29 a30 i30 l30 c30 k30 a31 l31 c31 k31 a32 l32 c32 k32 a33 l33 c33 k33 a34 l34 c34 k34 a35 l35 c35 k35 a36 l36 c36 k36 pg_Step hd_Step po_Step sa_Step mk_Step kc_Step n_Step_carrying n_Step_weight n_Step_after pg_Plan hd_Plan po_Plan sa_Plan mk_Plan kc_Plan n_Plan_many n_Plan_start n_Plan_scenes n_Plan_steps n_Plan_weights pg_House hd_House po_House sa_House mk_House kc_House n_House_heavy n_House_left_room n_House_right_room n_House_left n_House_right n_House_scenes pg_Reader hd_Reader po_Reader sa_Reader mk_Reader kc_Reader n_Reader_numbers n_Reader_place g_OFF_LEFT g_OFF_RIGHT g_ON_LEFT g_ON_RIGHT g_MOST_PIECES g_MOST_HEAVY g_MOST_ROOM g_MOST_SCENES g_BEGINS g_SCENE g_DROP g_LEAST g_WAYS g_CHECK b_enumerate b_len b_list b_min b_range b_reversed b_tuple
  refine ⟨PySem.W.fnOf "answers" "answers" (defArgs s_answers) (defBody s_answers) (defScope s_answers) .none kV36 dc36 pm36 an36 cd36 ct36, fun s us hu => match us, hu with | [_], _ => .of_eq rfl, fun base _ _ => ?_⟩
  have := ok_answers (P := P) (w := w) (base := base) T
  rw [e1, e2] at this
  exact this
end SC
open PySem PySem.W PyProof.Rows
set_option maxRecDepth 100000 in
set_option maxHeartbeats 8000000 in
theorem PySem.Challenge.cw_sceneshift_s01_answers_holds : PySem.Challenge.rw_sceneshift_s01_answers.Holds := by
  w_on; k_headS; (case hw => exact ⟨[.list [.int 2]], by decide +kernel, by decide +kernel⟩)
  k_fillS
  refine L2.walk_specK (r := PySem.Challenge.rw_sceneshift_s01_answers) (k := 11) (CX := L2.CX0) (ps := ["calls"]) (sp := SC.spAns) (by decide +kernel) rfl rfl ⟨rfl, by decide, by decide⟩ (fun w h Y => PySem.W.kIn_of Y) ?F ?S (fun _ _ _ _ z => z)
  case F =>
    intro w mg fa h Y KX G hmg
    refine' SC.all_mk KX G hmg ?p_aC_Step ?p_aC_Plan ?p_aC_House ?p_aC_Reader ?p_a0 ?p_i0 ?p_l0 ?p_c0 ?p_k0 ?p_a1 ?p_l1 ?p_c1 ?p_k1 ?p_a2 ?p_l2 ?p_c2 ?p_k2 ?p_a3 ?p_l3 ?p_c3 ?p_k3 ?p_a4 ?p_l4 ?p_c4 ?p_k4 ?p_a5 ?p_l5 ?p_c5 ?p_k5 ?p_a6 ?p_l6 ?p_c6 ?p_k6 ?p_a7 ?p_i7 ?p_l7 ?p_c7 ?p_k7 ?p_a8 ?p_i8 ?p_l8 ?p_c8 ?p_k8 ?p_a9 ?p_i9 ?p_l9 ?p_c9 ?p_k9 ?p_a10 ?p_i10 ?p_l10 ?p_c10 ?p_k10 ?p_a11 ?p_i11 ?p_l11 ?p_c11 ?p_k11 ?p_a12 ?p_i12 ?p_l12 ?p_c12 ?p_k12 ?p_a13 ?p_l13 ?p_c13 ?p_k13 ?p_a14 ?p_l14 ?p_c14 ?p_k14 ?p_a15 ?p_l15 ?p_c15 ?p_k15 ?p_a16 ?p_l16 ?p_c16 ?p_k16 ?p_a17 ?p_l17 ?p_c17 ?p_k17 ?p_a18 ?p_i18 ?p_l18 ?p_c18 ?p_k18 ?p_a19 ?p_i19 ?p_l19 ?p_c19 ?p_k19 ?p_a20 ?p_i20 ?p_l20 ?p_c20 ?p_k20 ?p_a21 ?p_i21 ?p_l21 ?p_c21 ?p_k21 ?p_a22 ?p_i22 ?p_l22 ?p_c22 ?p_k22 ?p_a23 ?p_i23 ?p_l23 ?p_c23 ?p_k23 ?p_a24 ?p_i24 ?p_l24 ?p_c24 ?p_k24 ?p_a25 ?p_i25 ?p_l25 ?p_c25 ?p_k25 ?p_a26 ?p_i26 ?p_l26 ?p_c26 ?p_k26 ?p_a27 ?p_i27 ?p_l27 ?p_c27 ?p_k27 ?p_a28 ?p_i28 ?p_l28 ?p_c28 ?p_k28 ?p_a29 ?p_i29 ?p_l29 ?p_c29 ?p_k29 ?p_a30 ?p_i30 ?p_l30 ?p_c30 ?p_k30 ?p_a31 ?p_l31 ?p_c31 ?p_k31 ?p_a32 ?p_l32 ?p_c32 ?p_k32 ?p_a33 ?p_l33 ?p_c33 ?p_k33 ?p_a34 ?p_l34 ?p_c34 ?p_k34 ?p_a35 ?p_l35 ?p_c35 ?p_k35 ?p_a36 ?p_l36 ?p_c36 ?p_k36 ?p_pg_Step ?p_hd_Step ?p_po_Step ?p_sa_Step ?p_mk_Step ?p_kc_Step ?p_n_Step_carrying ?p_n_Step_weight ?p_n_Step_after ?p_pg_Plan ?p_hd_Plan ?p_po_Plan ?p_sa_Plan ?p_mk_Plan ?p_kc_Plan ?p_n_Plan_many ?p_n_Plan_start ?p_n_Plan_scenes ?p_n_Plan_steps ?p_n_Plan_weights ?p_pg_House ?p_hd_House ?p_po_House ?p_sa_House ?p_mk_House ?p_kc_House ?p_n_House_heavy ?p_n_House_left_room ?p_n_House_right_room ?p_n_House_left ?p_n_House_right ?p_n_House_scenes ?p_pg_Reader ?p_hd_Reader ?p_po_Reader ?p_sa_Reader ?p_mk_Reader ?p_kc_Reader ?p_n_Reader_numbers ?p_n_Reader_place ?p_g_OFF_LEFT ?p_g_OFF_RIGHT ?p_g_ON_LEFT ?p_g_ON_RIGHT ?p_g_MOST_PIECES ?p_g_MOST_HEAVY ?p_g_MOST_ROOM ?p_g_MOST_SCENES ?p_g_BEGINS ?p_g_SCENE ?p_g_DROP ?p_g_LEAST ?p_g_WAYS ?p_g_CHECK ?p_b_enumerate ?p_b_len ?p_b_list ?p_b_min ?p_b_range ?p_b_reversed ?p_b_tuple
    (case p_aC_Step => k_is)
    (case p_aC_Plan => k_is)
    (case p_aC_House => k_is)
    (case p_aC_Reader => k_is)
    (case p_a0 => k_is)
    (case p_i0 => k_is)
    (case p_l0 => k_is)
    (case p_c0 => k_is)
    (case p_k0 => k_is)
    (case p_a1 => k_is)
    (case p_l1 => k_is)
    (case p_c1 => k_is)
    (case p_k1 => k_is)
    (case p_a2 => k_is)
    (case p_l2 => k_is)
    (case p_c2 => k_is)
    (case p_k2 => k_is)
    (case p_a3 => k_is)
    (case p_l3 => k_is)
    (case p_c3 => k_is)
    (case p_k3 => k_is)
    (case p_a4 => k_is)
    (case p_l4 => k_is)
    (case p_c4 => k_is)
    (case p_k4 => k_is)
    (case p_a5 => k_is)
    (case p_l5 => k_is)
    (case p_c5 => k_is)
    (case p_k5 => k_is)
    (case p_a6 => k_is)
    (case p_l6 => k_is)
    (case p_c6 => k_is)
    (case p_k6 => k_is)
    (case p_a7 => k_is)
    (case p_i7 => k_is)
    (case p_l7 => k_is)
    (case p_c7 => k_is)
    (case p_k7 => k_is)
    (case p_a8 => k_is)
    (case p_i8 => k_is)
    (case p_l8 => k_is)
    (case p_c8 => k_is)
    (case p_k8 => k_is)
    (case p_a9 => k_is)
    (case p_i9 => k_is)
    (case p_l9 => k_is)
    (case p_c9 => k_is)
    (case p_k9 => k_is)
    (case p_a10 => k_is)
    (case p_i10 => k_is)
    (case p_l10 => k_is)
    (case p_c10 => k_is)
    (case p_k10 => k_is)
    (case p_a11 => k_is)
    (case p_i11 => k_is)
    (case p_l11 => k_is)
    (case p_c11 => k_is)
    (case p_k11 => k_is)
    (case p_a12 => k_is)
    (case p_i12 => k_is)
    (case p_l12 => k_is)
    (case p_c12 => k_is)
    (case p_k12 => k_is)
    (case p_a13 => k_is)
    (case p_l13 => k_is)
    (case p_c13 => k_is)
    (case p_k13 => k_is)
    (case p_a14 => k_is)
    (case p_l14 => k_is)
    (case p_c14 => k_is)
    (case p_k14 => k_is)
    (case p_a15 => k_is)
    (case p_l15 => k_is)
    (case p_c15 => k_is)
    (case p_k15 => k_is)
    (case p_a16 => k_is)
    (case p_l16 => k_is)
    (case p_c16 => k_is)
    (case p_k16 => k_is)
    (case p_a17 => k_is)
    (case p_l17 => k_is)
    (case p_c17 => k_is)
    (case p_k17 => k_is)
    (case p_a18 => k_is)
    (case p_i18 => k_is)
    (case p_l18 => k_is)
    (case p_c18 => k_is)
    (case p_k18 => k_is)
    (case p_a19 => k_is)
    (case p_i19 => k_is)
    (case p_l19 => k_is)
    (case p_c19 => k_is)
    (case p_k19 => k_is)
    (case p_a20 => k_is)
    (case p_i20 => k_is)
    (case p_l20 => k_is)
    (case p_c20 => k_is)
    (case p_k20 => k_is)
    (case p_a21 => k_is)
    (case p_i21 => k_is)
    (case p_l21 => k_is)
    (case p_c21 => k_is)
    (case p_k21 => k_is)
    (case p_a22 => k_is)
    (case p_i22 => k_is)
    (case p_l22 => k_is)
    (case p_c22 => k_is)
    (case p_k22 => k_is)
    (case p_a23 => k_is)
    (case p_i23 => k_is)
    (case p_l23 => k_is)
    (case p_c23 => k_is)
    (case p_k23 => k_is)
    (case p_a24 => k_is)
    (case p_i24 => k_is)
    (case p_l24 => k_is)
    (case p_c24 => k_is)
    (case p_k24 => k_is)
    (case p_a25 => k_is)
    (case p_i25 => k_is)
    (case p_l25 => k_is)
    (case p_c25 => k_is)
    (case p_k25 => k_is)
    (case p_a26 => k_is)
    (case p_i26 => k_is)
    (case p_l26 => k_is)
    (case p_c26 => k_is)
    (case p_k26 => k_is)
    (case p_a27 => k_is)
    (case p_i27 => k_is)
    (case p_l27 => k_is)
    (case p_c27 => k_is)
    (case p_k27 => k_is)
    (case p_a28 => k_is)
    (case p_i28 => k_is)
    (case p_l28 => k_is)
    (case p_c28 => k_is)
    (case p_k28 => k_is)
    (case p_a29 => k_is)
    (case p_i29 => k_is)
    (case p_l29 => k_is)
    (case p_c29 => k_is)
    (case p_k29 => k_is)
    (case p_a30 => k_is)
    (case p_i30 => k_is)
    (case p_l30 => k_is)
    (case p_c30 => k_is)
    (case p_k30 => k_is)
    (case p_a31 => k_is)
    (case p_l31 => k_is)
    (case p_c31 => k_is)
    (case p_k31 => k_is)
    (case p_a32 => k_is)
    (case p_l32 => k_is)
    (case p_c32 => k_is)
    (case p_k32 => k_is)
    (case p_a33 => k_is)
    (case p_l33 => k_is)
    (case p_c33 => k_is)
    (case p_k33 => k_is)
    (case p_a34 => k_is)
    (case p_l34 => k_is)
    (case p_c34 => k_is)
    (case p_k34 => k_is)
    (case p_a35 => k_is)
    (case p_l35 => k_is)
    (case p_c35 => k_is)
    (case p_k35 => k_is)
    (case p_a36 => k_is)
    (case p_l36 => k_is)
    (case p_c36 => k_is)
    (case p_k36 => k_is)
    (case p_pg_Step => k_is)
    (case p_hd_Step => k_is)
    (case p_po_Step => k_is)
    (case p_sa_Step => k_is)
    (case p_mk_Step => k_is)
    (case p_kc_Step => k_is)
    (case p_n_Step_carrying => k_is)
    (case p_n_Step_weight => k_is)
    (case p_n_Step_after => k_is)
    (case p_pg_Plan => k_is)
    (case p_hd_Plan => k_is)
    (case p_po_Plan => k_is)
    (case p_sa_Plan => k_is)
    (case p_mk_Plan => k_is)
    (case p_kc_Plan => k_is)
    (case p_n_Plan_many => k_is)
    (case p_n_Plan_start => k_is)
    (case p_n_Plan_scenes => k_is)
    (case p_n_Plan_steps => k_is)
    (case p_n_Plan_weights => k_is)
    (case p_pg_House => k_is)
    (case p_hd_House => k_is)
    (case p_po_House => k_is)
    (case p_sa_House => k_is)
    (case p_mk_House => k_is)
    (case p_kc_House => k_is)
    (case p_n_House_heavy => k_is)
    (case p_n_House_left_room => k_is)
    (case p_n_House_right_room => k_is)
    (case p_n_House_left => k_is)
    (case p_n_House_right => k_is)
    (case p_n_House_scenes => k_is)
    (case p_pg_Reader => k_is)
    (case p_hd_Reader => k_is)
    (case p_po_Reader => k_is)
    (case p_sa_Reader => k_is)
    (case p_mk_Reader => k_is)
    (case p_kc_Reader => k_is)
    (case p_n_Reader_numbers => k_is)
    (case p_n_Reader_place => k_is)
    (case p_g_OFF_LEFT => k_is)
    (case p_g_OFF_RIGHT => k_is)
    (case p_g_ON_LEFT => k_is)
    (case p_g_ON_RIGHT => k_is)
    (case p_g_MOST_PIECES => k_is)
    (case p_g_MOST_HEAVY => k_is)
    (case p_g_MOST_ROOM => k_is)
    (case p_g_MOST_SCENES => k_is)
    (case p_g_BEGINS => k_is)
    (case p_g_SCENE => k_is)
    (case p_g_DROP => k_is)
    (case p_g_LEAST => k_is)
    (case p_g_WAYS => k_is)
    (case p_g_CHECK => k_is)
    (case p_b_enumerate => k_is)
    (case p_b_len => k_is)
    (case p_b_list => k_is)
    (case p_b_min => k_is)
    (case p_b_range => k_is)
    (case p_b_reversed => k_is)
    (case p_b_tuple => k_is)
  case S =>
    intro K H xs a hO hwi hask hx
    cases hx with
    | cons h1 h2 =>
      cases h2
      cases h1 with
      | lst hs ha =>
        have e := L2.ints_dw a.1 _ ha
        subst e
        exact ⟨_, a.1, rfl, hs, hask, fun H' p hp => .lst (L2.SqL.of hp) (L2.dw_ints _)⟩
#print axioms PySem.Challenge.cw_sceneshift_s01_answers_holds

