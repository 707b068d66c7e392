import PyProof.Rows.All
import Wide.All
import OpenK.AllK
import Wide.FinOn
import KE.KStateDown
import HandS.Base
import HandS.Call
import HandS.Ends
import HandS.More
import HandS.Words
import HandS.WordsExc
import HandS.Defaults
import HandS.EndTab
import HandS.Head0
import HandS.Head1
import HandS.Head2
import HandS.HeadEnd
import HandS.HeadHook1
import HandS.HeadHook2
import HandS.HeadHook3
import HandS.HeadHook4
import HandS.HeadWalk
import HandS.ForMost
import HandS.Exc
import HandS.TryOnly
import HandS.ExcOwn
import HandS.ExcSuper
import HandS.Lambda
import HandS.IsInst
import HandS.Wide
import HandS.Flow
import HandS.Codes
import HandS.TupAny
import HandS.TupMul
import HandS.OwnEq
import HandS.Style
import HandS.Deep
import HandS.Walk
import HandS.ExcIs
import HandS.ExcField
import HandS.ExcValue
import KE.KExcIs
import HandS.HeadNt
import HandS.MakeKwOnly
import HandS.Zip
import KE.KDictDisplayH
import KE.GoesMore
import HandS.NoneIn
import PySem.Challenge.RW_pulledrooms_k10_whole_one_plain_form_in

set_option Elab.async false
set_option linter.all false
set_option maxRecDepth 100000
set_option maxHeartbeats 4000000
/-! ## DL: programs over plain data. Values as data (D), the heap below it (Rep), what a def has made of its own (At), readings over data. -/
namespace DL
open PySem L2
inductive D where
  | non | bl (b : Bool) | int (i : Int) | str (x : Str)
  | tup (xs : List D) | lst (xs : List D) | dic (kvs : List (Key × D))
  | obj (c : Str) (fs : List (Str × D)) | exc (c : Str) (fs : List (Str × D))
  | st | scr (ns : List Int) | dtp
/-- the tables of code objects: one list for a whole proof -/
class Tb where
  tb : List (Addr × Str)
/-- what a law keeps through its run: the draws' state, its two lists -/
structure Dr where
  dr : Option (Addr × Addr × Addr)
structure Ct where
  K : PySem.W.Frag
  mg : Str → Option Value
  q : Dr
def Ct.drs (c : Ct) : List Addr := match c.q.dr with
  | some (a, g, l) => [a, g, l]
  | none => []
/-- a caught error's object at a -/
def ExcO (a : Addr) (cls : Value) (d : Option Addr) : HO := .ext fun h => ∃ oe vs, h.get? a = some oe ∧ Zc cls d oe ∧ oe.data = .fields vs
mutual
def Rep (c : Ct) (H : Hp) : D → V → Prop
  | .non, v => v = .non
  | .bl b, v => v = .bl b
  | .int i, v => v = .int i
  | .str x, v => v = .str x
  | .tup ds, v => ∃ a xs, v = .ref a ∧ SqT c.K H a xs ∧ RepL c H ds xs
  | .lst ds, v => ∃ a xs, v = .ref a ∧ H a = some (.lst xs) ∧ RepL c H ds xs
  | .dic kvs, v => ∃ a xs, v = .ref a ∧ H a = some (.dK xs) ∧ RepK c H kvs xs
  | .obj n fs, v => ∃ a C dx xs, v = .ref a ∧ c.mg n = some (.ref C) ∧ H a = some (.ins C dx xs) ∧ RepF c H fs xs
  | .exc n fs, v => ∃ a C dd xs, v = .ref a ∧ c.mg n = some (.ref C) ∧ H a = some (ExcO a (.ref C) dd) ∧ (match dd with | some d => H d = some (.xd xs) | none => xs = []) ∧ RepF c H fs xs
  | .st, v => ∃ a g l, c.q.dr = some (a, g, l) ∧ v = .ref a
  | .scr ns, v => ∃ a, v = .ref a ∧ SqL c.K H a (ns.map V.int)
  | .dtp, v => ∃ a kvs, v = .ref a ∧ H a = some (.dT kvs)
def RepL (c : Ct) (H : Hp) : List D → List V → Prop
  | [], xs => xs = []
  | d :: ds, xs => ∃ x xr, xs = x :: xr ∧ Rep c H d x ∧ RepL c H ds xr
def RepK (c : Ct) (H : Hp) : List (Key × D) → List (Key × V) → Prop
  | [], xs => xs = []
  | (k, d) :: ds, xs => ∃ x xr, xs = (k, x) :: xr ∧ Rep c H d x ∧ RepK c H ds xr
def RepF (c : Ct) (H : Hp) : List (Str × D) → List (Str × V) → Prop
  | [], xs => xs = []
  | (k, d) :: ds, xs => ∃ x xr, xs = (k, x) :: xr ∧ Rep c H d x ∧ RepF c H ds xr
end
def Le (B B' : Hp) : Prop := ∀ a o, B a = some o → B' a = some o
theorem Le.refl (B : Hp) : Le B B := fun _ _ h => h
theorem Le.trans {A B C : Hp} (h : Le A B) (g : Le B C) : Le A C := fun a o e => g a o (h a o e)
theorem Le.sqT {K : PySem.W.Frag} {H H' : Hp} {a : Addr} {xs : List V} (e : Le H H') (h : SqT K H a xs) : SqT K H' a xs := by
  rcases h with (h | ⟨o, h⟩) | h
  · exact .inl (.inl (e _ _ h))
  · exact .inl (.inr ⟨o, e _ _ h⟩)
  · exact .inr h
theorem Le.sqL {K : PySem.W.Frag} {H H' : Hp} {a : Addr} {xs : List V} (e : Le H H') (h : SqL K H a xs) : SqL K H' a xs := Same.seq e h
mutual
theorem Rep.mono {c : Ct} {H H' : Hp} (e : Le H H') : ∀ {d : D} {v : V}, Rep c H d v → Rep c H' d v
  | .non, _, h => by unfold Rep at h ⊢; exact h
  | .bl b, _, h => by unfold Rep at h ⊢; exact h
  | .int i, _, h => by unfold Rep at h ⊢; exact h
  | .str x, _, h => by unfold Rep at h ⊢; exact h
  | .tup ds, _, h => by
    unfold Rep at h ⊢
    obtain ⟨a, xs, e1, h1, h2⟩ := h
    exact ⟨a, xs, e1, e.sqT h1, RepL.mono e h2⟩
  | .lst ds, _, h => by
    unfold Rep at h ⊢
    obtain ⟨a, xs, e1, h1, h2⟩ := h
    exact ⟨a, xs, e1, e _ _ h1, RepL.mono e h2⟩
  | .dic kvs, _, h => by
    unfold Rep at h ⊢
    obtain ⟨a, xs, e1, h1, h2⟩ := h
    exact ⟨a, xs, e1, e _ _ h1, RepK.mono e h2⟩
  | .obj n fs, _, h => by
    unfold Rep at h ⊢
    obtain ⟨a, C, dx, xs, e1, m, h1, h2⟩ := h
    exact ⟨a, C, dx, xs, e1, m, e _ _ h1, RepF.mono e h2⟩
  | .exc n fs, _, h => by
    unfold Rep at h ⊢
    obtain ⟨a, C, dd, xs, e1, m, h1, h3, h2⟩ := h
    refine ⟨a, C, dd, xs, e1, m, e _ _ h1, ?_, RepF.mono e h2⟩
    cases dd with
    | some d => exact e _ _ h3
    | none => exact h3
  | .st, _, h => by unfold Rep at h ⊢; exact h
  | .scr ns, _, h => by
    unfold Rep at h ⊢
    obtain ⟨a, e1, h1⟩ := h
    exact ⟨a, e1, e.sqL h1⟩
  | .dtp, _, h => by
    unfold Rep at h ⊢
    obtain ⟨a, kvs, e1, h1⟩ := h
    exact ⟨a, kvs, e1, e _ _ h1⟩
theorem RepL.mono {c : Ct} {H H' : Hp} (e : Le H H') : ∀ {ds : List D} {vs : List V}, RepL c H ds vs → RepL c H' ds vs
  | [], _, h => by unfold RepL at h ⊢; exact h
  | d :: ds, _, h => by
    unfold RepL at h ⊢
    obtain ⟨x, xr, e1, h1, h2⟩ := h
    exact ⟨x, xr, e1, Rep.mono e h1, RepL.mono e h2⟩
theorem RepK.mono {c : Ct} {H H' : Hp} (e : Le H H') : ∀ {ds : List (Key × D)} {vs : List (Key × V)}, RepK c H ds vs → RepK c H' ds vs
  | [], _, h => by unfold RepK at h ⊢; exact h
  | (k, d) :: ds, _, h => by
    unfold RepK at h ⊢
    obtain ⟨x, xr, e1, h1, h2⟩ := h
    exact ⟨x, xr, e1, Rep.mono e h1, RepK.mono e h2⟩
theorem RepF.mono {c : Ct} {H H' : Hp} (e : Le H H') : ∀ {ds : List (Str × D)} {vs : List (Str × V)}, RepF c H ds vs → RepF c H' ds vs
  | [], _, h => by unfold RepF at h ⊢; exact h
  | (k, d) :: ds, _, h => by
    unfold RepF at h ⊢
    obtain ⟨x, xr, e1, h1, h2⟩ := h
    exact ⟨x, xr, e1, Rep.mono e h1, RepF.mono e h2⟩
end
/-- the content of an object that a def owns: a list, a dict -/
def RepO (c : Ct) (B : Hp) : D → HO → Prop
  | .lst ds, o => ∃ xs, o = .lst xs ∧ RepL c B ds xs
  | .dic ds, o => ∃ xs, o = .dK xs ∧ RepK c B ds xs
  | .obj n fs, o => ∃ C dx xs, o = .ins C dx xs ∧ c.mg n = some (.ref C) ∧ RepF c B fs xs
  | _, _ => False
theorem RepO.mono {c : Ct} {H H' : Hp} (e : Le H H') : ∀ {d : D} {o : HO}, RepO c H d o → RepO c H' d o
  | .lst ds, _, ⟨xs, e1, h⟩ => ⟨xs, e1, h.mono e⟩
  | .dic ds, _, ⟨xs, e1, h⟩ => ⟨xs, e1, h.mono e⟩
  | .obj n fs, _, ⟨C, dx, xs, e1, m, h⟩ => ⟨C, dx, xs, e1, m, h.mono e⟩
theorem RepO.rep {c : Ct} {B : Hp} {p : Addr} {o : HO} : ∀ {d : D}, RepO c B d o → B p = some o → Rep c B d (.ref p)
  | .lst ds, ⟨xs, e1, h⟩, hp => by
    unfold Rep
    exact ⟨p, xs, rfl, by rw [hp, e1], h⟩
  | .dic ds, ⟨xs, e1, h⟩, hp => by
    unfold Rep
    exact ⟨p, xs, rfl, by rw [hp, e1], h⟩
  | .obj n fs, ⟨C, dx, xs, e1, m, h⟩, hp => by
    unfold Rep
    exact ⟨p, C, dx, xs, rfl, m, by rw [hp, e1], h⟩
theorem RepO.ntb {c : Ct} {B : Hp} {o : HO} : ∀ {d : D}, RepO c B d o → ∀ ps, o ≠ .tbl ps
  | .lst ds, ⟨xs, e1, h⟩, ps, z => by rw [e1] at z; cases z
  | .dic ds, ⟨xs, e1, h⟩, ps, z => by rw [e1] at z; cases z
  | .obj n fs, ⟨C, dx, xs, e1, m, h⟩, ps, z => by rw [e1] at z; cases z
theorem RepO.nco {c : Ct} {B : Hp} {o : HO} : ∀ {d : D}, RepO c B d o → ∀ a q, o ≠ LamX.CodeO a q
  | .lst ds, ⟨xs, e1, h⟩, a, q, z => by rw [e1] at z; unfold LamX.CodeO at z; cases z
  | .dic ds, ⟨xs, e1, h⟩, a, q, z => by rw [e1] at z; unfold LamX.CodeO at z; cases z
  | .obj n fs, ⟨C, dx, xs, e1, m, h⟩, a, q, z => by rw [e1] at z; unfold LamX.CodeO at z; cases z
/-! ### the draws' state -/
def stH (g l : Addr) (left turn : Int) : HO := .dK [(.inr "great", .ref g), (.inr "cells", .ref l), (.inr "left", .int left), (.inr "turn", .int turn)]
def DrawR (c : Ct) (H : Hp) (T : Nat) : Prop := match c.q.dr with
  | none => True
  | some (a, g, l) => a ≠ g ∧ a ≠ l ∧ g ≠ l ∧ ∃ (gs ls : List Int) (left turn : Int), H a = some (stH g l left turn) ∧ H g = some (.lst (gs.map V.int)) ∧ H l = some (.lst (ls.map V.int)) ∧
      (∀ x ∈ gs, 0 ≤ x) ∧ gs.length ≤ 63 ∧ (∀ x ∈ ls, 0 ≤ x) ∧ ls.length ≤ 63 ∧ 0 ≤ left ∧ 0 ≤ turn ∧ turn ≤ T
/-- nothing stood there, or a table -/
def Fr (H : Hp) (p : Addr) : Prop := ∀ o, H p = some o → ∃ ps, o = HO.tbl ps
theorem Fr.of {H : Hp} {p : Addr} (h : H p = none) : Fr H p := fun o e => by rw [h] at e; cases e
theorem Fr.ne {H : Hp} {p a : Addr} {o : HO} (f : Fr H p) (h : H a = some o) (n : ∀ ps, o ≠ .tbl ps) : a ≠ p := fun z => by
  rw [z] at h
  obtain ⟨ps, e⟩ := f o h
  exact n ps e
variable [Tb]
/-- from the entry (heap H0, its frozen part B0) to here (H, B) -/
structure Bs (c : Ct) (H0 B0 H B : Hp) (T : Nat) : Prop where
  leB : Le B0 B
  new : ∀ a, B0 a = none → B a ≠ none → Fr H0 a
  frame : ∀ a o, H0 a = some o → a ∉ c.drs → (∀ ps, o ≠ .tbl ps) → H a = some o
  leH : Le B H
  avoid : ∀ a ∈ c.drs, B a = none
  ntb : ∀ a ps, B a ≠ some (.tbl ps)
  dr0 : ∀ a ∈ c.drs, ¬ Fr H0 a
  some0 : ∀ a, ¬ Fr H0 a → ¬ Fr H a
  draw : DrawR c H T
  tabs : LamX.Tabs Tb.tb H
theorem Bs.drH {c : Ct} {H0 B0 H B : Hp} {T : Nat} (b : Bs c H0 B0 H B T) : ∀ a ∈ c.drs, ¬ Fr H a := fun a h => b.some0 a (b.dr0 a h)
theorem nFr {H : Hp} {p : Addr} {o : HO} (h : H p = some o) (n : ∀ ps, o ≠ .tbl ps) : ¬ Fr H p := fun f => by
  obtain ⟨ps, e⟩ := f o h
  exact n ps e
theorem nFr.upd {H : Hp} {a p : Addr} {o : HO} (h : ¬ Fr H a) (ne : a ≠ p) : ¬ Fr (upd H p o) a := fun f => h fun u e => f u (by rw [upd_ne ne]; exact e)
theorem nFr.some {H : Hp} {a : Addr} (h : ¬ Fr H a) : H a ≠ none := fun z => h (Fr.of z)
inductive Sl where
  | fz (d : D) | ow (d : D)
def Sl.d : Sl → D
  | .fz d => d
  | .ow d => d
structure DS where
  sl : List (Option Sl)
  T : Nat
def DS.put (s : DS) (i : Nat) (x : Sl) : DS := ⟨s.sl.set i (some x), s.T⟩
def DS.tick (s : DS) (T : Nat) : DS := ⟨s.sl, T⟩
structure At (c : Ct) (L : List (Addr × HO)) (H0 B0 : Hp) (σ : L2.St) (H : Hp) (s : DS) (B : Hp) : Prop where
  bs : Bs c H0 B0 H B s.T
  len : s.sl.length ≤ σ.length
  fz : ∀ (i : Nat) (d : D), s.sl[i]? = some (some (Sl.fz d)) → ∃ v, σ[i]? = some (some v) ∧ Rep c B d v
  ow : ∀ (i : Nat) (d : D), s.sl[i]? = some (some (Sl.ow d)) → ∃ (p : Addr) (o : HO), σ[i]? = some (some (V.ref p)) ∧ Fr H0 p ∧ B p = none ∧ H p = some o ∧ RepO c B d o
  inj : ∀ (i j : Nat) (d e : D) (p : Addr), s.sl[i]? = some (some (Sl.ow d)) → s.sl[j]? = some (some (Sl.ow e)) → σ[i]? = some (some (V.ref p)) → σ[j]? = some (some (V.ref p)) → i = j
  hold : ∀ x ∈ L, H x.1 = some x.2 ∧ Fr H0 x.1 ∧ B x.1 = none ∧ (∀ ps, x.2 ≠ .tbl ps) ∧ ∀ (i : Nat) (d : D), s.sl[i]? = some (some (Sl.ow d)) → σ[i]? ≠ some (some (V.ref x.1))
/-! ### moves of At -/
section
variable {c : Ct} {L : List (Addr × HO)} {H0 B0 H B : Hp} {σ : L2.St} {s : DS} {T : Nat}
theorem Bs.fresh (b : Bs c H0 B0 H B T) {p : Addr} (hp : H p = none) : Fr H0 p := Classical.byContradiction fun z => b.some0 p z (Fr.of hp)
theorem Bs.nB (b : Bs c H0 B0 H B T) {p : Addr} (hp : H p = none) : B p = none := by
  cases e : B p with
  | none => rfl
  | some o => rw [b.leH _ _ e] at hp; cases hp
theorem Le.upd {B : Hp} {p : Addr} {o : HO} (h : B p = none) : Le B (upd B p o) := fun a u e => by
  rw [upd_ne (ne_of_none e h)]
  exact e
theorem DrawR.keep {H' : Hp} {T' : Nat} (d : DrawR c H T) (h : ∀ a ∈ c.drs, H' a = H a) (ht : T ≤ T') : DrawR c H' T' := by
  unfold DrawR at d ⊢
  unfold Ct.drs at h
  cases e : c.q.dr with
  | none => trivial
  | some x =>
    obtain ⟨a, g, l⟩ := x
    rw [e] at d h
    obtain ⟨h1, h2, h3, gs, ls, le, tu, q1, q2, q3, q4, q5, q6, q7, q8, q9, q10⟩ := d
    refine ⟨h1, h2, h3, gs, ls, le, tu, ?_, ?_, ?_, q4, q5, q6, q7, q8, q9, Int.le_trans q10 (by omega)⟩
    · rw [h a (by simp)]; exact q1
    · rw [h g (by simp)]; exact q2
    · rw [h l (by simp)]; exact q3
theorem Bs.tickUp (b : Bs c H0 B0 H B T) {T' : Nat} (h : T ≤ T') : Bs c H0 B0 H B T' := { b with draw := b.draw.keep (fun _ _ => rfl) h }
theorem Bs.nd (b : Bs c H0 B0 H B T) {p : Addr} (hp : Fr H p) : p ∉ c.drs := fun z => b.drH p z hp
theorem Bs.nd0 (b : Bs c H0 B0 H B T) {p : Addr} (hp : Fr H0 p) : p ∉ c.drs := fun z => b.dr0 p z hp
/-- a new object of the frozen part -/
theorem Bs.alloc (b : Bs c H0 B0 H B T) {p : Addr} {o : HO} (hp : H p = none) (nt : ∀ ps, o ≠ .tbl ps) : Bs c H0 B0 (upd H p o) (upd B p o) T := by
  have hB := b.nB hp
  have nd : p ∉ c.drs := b.nd (Fr.of hp)
  refine ⟨b.leB.trans (Le.upd hB), fun a h1 h2 => ?_, fun a u h1 h2 h3 => ?_, fun a u e => ?_, fun a h => ?_, fun a ps e => ?_, b.dr0, fun a h => ?_, b.draw.keep (fun a h => upd_ne fun z => nd (by rw [← z]; exact h)) (Nat.le_refl _), b.tabs.ext fun a u e => ?_⟩
  · by_cases z : a = p
    · rw [z]; exact b.fresh hp
    · rw [upd_ne z] at h2; exact b.new a h1 h2
  · have q := b.frame a u h1 h2 h3
    rw [upd_ne (ne_of_none q hp)]; exact q
  · by_cases z : a = p
    · rw [z, upd_same] at e; rw [z, upd_same]; exact e
    · rw [upd_ne z] at e ⊢; exact b.leH a u e
  · rw [upd_ne fun z => nd (by rw [← z]; exact h)]; exact b.avoid a h
  · by_cases z : a = p
    · rw [z, upd_same] at e; exact nt ps (Option.some.inj e)
    · rw [upd_ne z] at e; exact b.ntb a ps e
  · exact nFr.upd (b.some0 a h) fun z => b.some0 a h (by rw [z]; exact Fr.of hp)
  · rw [upd_ne (ne_of_none e hp)]; exact e
/-- a new object that is not frozen -/
theorem Bs.own (b : Bs c H0 B0 H B T) {p : Addr} {o : HO} (hp : H p = none) : Bs c H0 B0 (upd H p o) B T := by
  have hB := b.nB hp
  have nd : p ∉ c.drs := b.nd (Fr.of hp)
  refine ⟨b.leB, b.new, fun a u h1 h2 h3 => ?_, fun a u e => ?_, b.avoid, b.ntb, b.dr0, fun a h => ?_, b.draw.keep (fun a h => upd_ne fun z => nd (by rw [← z]; exact h)) (Nat.le_refl _), b.tabs.ext fun a u e => ?_⟩
  · have q := b.frame a u h1 h2 h3
    rw [upd_ne (ne_of_none q hp)]; exact q
  · rw [upd_ne (ne_of_none e hB)]; exact b.leH a u e
  · exact nFr.upd (b.some0 a h) fun z => b.some0 a h (by rw [z]; exact Fr.of hp)
  · rw [upd_ne (ne_of_none e hp)]; exact e
theorem At.alloc (t : At c L H0 B0 σ H s B) {p : Addr} {o : HO} (hp : H p = none) (nt : ∀ ps, o ≠ .tbl ps) : At c L H0 B0 σ (upd H p o) s (upd B p o) := by
  have hB := t.bs.nB hp
  refine ⟨t.bs.alloc hp nt, t.len, fun i d h => ?_, fun i d h => ?_, t.inj, fun x hx => ?_⟩
  · obtain ⟨v, h1, h2⟩ := t.fz i d h
    exact ⟨v, h1, h2.mono (Le.upd hB)⟩
  · obtain ⟨q, u, h1, h2, h3, h4, h5⟩ := t.ow i d h
    have nq : q ≠ p := ne_of_none h4 hp
    exact ⟨q, u, h1, h2, by rw [upd_ne nq]; exact h3, by rw [upd_ne nq]; exact h4, h5.mono (Le.upd hB)⟩
  · obtain ⟨h1, h2, h3, h4, h5⟩ := t.hold x hx
    have nq : x.1 ≠ p := ne_of_none h1 hp
    exact ⟨by rw [upd_ne nq]; exact h1, h2, by rw [upd_ne nq]; exact h3, h4, h5⟩
/-- a new object held aside -/
theorem At.holdNew (t : At c L H0 B0 σ H s B) {p : Addr} {o : HO} (hp : H p = none) (nt : ∀ ps, o ≠ .tbl ps) : At c ((p, o) :: L) H0 B0 σ (upd H p o) s B := by
  have hB := t.bs.nB hp
  have ne : ∀ {a u}, H a = some u → a ≠ p := fun e => ne_of_none e hp
  refine ⟨t.bs.own hp, t.len, t.fz, fun i d h => ?_, t.inj, fun x hx => ?_⟩
  · obtain ⟨q, u, h1, h2, h3, h4, h5⟩ := t.ow i d h
    exact ⟨q, u, h1, h2, h3, by rw [upd_ne (ne h4)]; exact h4, h5⟩
  · rcases List.mem_cons.mp hx with rfl | hx
    · refine ⟨upd_same, t.bs.fresh hp, hB, nt, fun i d h z => ?_⟩
      obtain ⟨q, u, h1, h2, h3, h4, h5⟩ := t.ow i d h
      rw [h1] at z
      cases z
      exact ne h4 rfl
    · obtain ⟨h1, h2, h3, h4, h5⟩ := t.hold x hx
      exact ⟨by rw [upd_ne (ne h1)]; exact h1, h2, h3, h4, h5⟩
theorem At.tick (t : At c L H0 B0 σ H s B) {T' : Nat} (h : s.T ≤ T') : At c L H0 B0 σ H (s.tick T') B := ⟨t.bs.tickUp h, t.len, t.fz, t.ow, t.inj, t.hold⟩
theorem get_set {α : Type} {l : List (Option α)} {i j : Nat} {x y : Option α} (h : (l.set i x)[j]? = some y) : (i = j ∧ y = x) ∨ (i ≠ j ∧ l[j]? = some y) := by
  by_cases e : i = j
  · subst e
    left
    rw [List.getElem?_set_self'] at h
    refine ⟨rfl, ?_⟩
    cases q : l[i]? with
    | none => rw [q] at h; cases h
    | some z => rw [q] at h; exact (Option.some.inj h).symm
  · right
    rw [List.getElem?_set_ne e] at h
    exact ⟨e, h⟩
theorem lt_set {α : Type} {l : List (Option α)} {i : Nat} {x y : Option α} (h : (l.set i x)[i]? = some y) : i < l.length := by
  have := (List.getElem?_eq_some_iff.mp h).1
  rw [List.length_set] at this
  exact this
/-- slot i takes a frozen value -/
theorem At.setFz (t : At c L H0 B0 σ H s B) {i : Nat} {d : D} {v : V} (r : Rep c B d v) : At c L H0 B0 (σ.set i (some v)) H (s.put i (.fz d)) B := by
  refine ⟨t.bs, by simp only [DS.put, List.length_set]; exact t.len, fun j e h => ?_, fun j e h => ?_, fun j k e f p h1 h2 h3 h4 => ?_, fun x hx => ?_⟩
  · have hl := (List.getElem?_eq_some_iff.mp h).1
    rcases get_set h with ⟨rfl, q⟩ | ⟨n, q⟩
    · cases q
      refine ⟨v, ?_, r⟩
      rw [List.getElem?_set_self (by have := t.len; simp only [DS.put, List.length_set] at hl; omega)]
    · obtain ⟨w, w1, w2⟩ := t.fz j e q
      exact ⟨w, by rw [List.getElem?_set_ne n]; exact w1, w2⟩
  · rcases get_set h with ⟨rfl, q⟩ | ⟨n, q⟩
    · cases q
    · obtain ⟨p, o, w1, w2⟩ := t.ow j e q
      exact ⟨p, o, by rw [List.getElem?_set_ne n]; exact w1, w2⟩
  · rcases get_set h1 with ⟨rfl, q⟩ | ⟨n, q⟩
    · cases q
    · rcases get_set h2 with ⟨rfl, q2⟩ | ⟨n2, q2⟩
      · cases q2
      · rw [List.getElem?_set_ne n] at h3
        rw [List.getElem?_set_ne n2] at h4
        exact t.inj j k e f p q q2 h3 h4
  · obtain ⟨h1, h2, h3, h4, h5⟩ := t.hold x hx
    refine ⟨h1, h2, h3, h4, fun j e q z => ?_⟩
    rcases get_set q with ⟨rfl, q1⟩ | ⟨n, q1⟩
    · cases q1
    · rw [List.getElem?_set_ne n] at z
      exact h5 j e q1 z
/-- slot i takes a new object of the def's own -/
theorem At.setOw (t : At c L H0 B0 σ H s B) {i : Nat} {p : Addr} {d : D} {o : HO} (hp : H p = none) (r : RepO c B d o) : At c L H0 B0 (σ.set i (some (.ref p))) (upd H p o) (s.put i (.ow d)) B := by
  refine ⟨t.bs.own hp, by simp only [DS.put, List.length_set]; exact t.len, fun j e h => ?_, fun j e h => ?_, fun j k e f q h1 h2 h3 h4 => ?_, fun x hx => ?_⟩
  · rcases get_set h with ⟨rfl, q⟩ | ⟨n, q⟩
    · cases q
    · obtain ⟨w, w1, w2⟩ := t.fz j e q
      exact ⟨w, by rw [List.getElem?_set_ne n]; exact w1, w2⟩
  · have hl := (List.getElem?_eq_some_iff.mp h).1
    rcases get_set h with ⟨rfl, q⟩ | ⟨n, q⟩
    · cases q
      refine ⟨p, o, ?_, t.bs.fresh hp, t.bs.nB hp, upd_same, r⟩
      rw [List.getElem?_set_self (by have := t.len; simp only [DS.put, List.length_set] at hl; omega)]
    · obtain ⟨p', o', w1, w2, w3, w4, w5⟩ := t.ow j e q
      exact ⟨p', o', by rw [List.getElem?_set_ne n]; exact w1, w2, w3, by rw [upd_ne (ne_of_none w4 hp)]; exact w4, w5⟩
  · have old : ∀ {j : Nat} {e : D} {q : Addr}, s.sl[j]? = some (some (Sl.ow e)) → σ[j]? = some (some (V.ref q)) → q ≠ p := fun {j e q} a b => by
      obtain ⟨p', o', w1, w2, w3, w4, w5⟩ := t.ow j e a
      rw [b] at w1
      cases w1
      exact ne_of_none w4 hp
    rcases get_set h1 with ⟨rfl, q1⟩ | ⟨n, q1⟩
    · rcases get_set h2 with ⟨rfl, q2⟩ | ⟨n2, q2⟩
      · rfl
      · rw [List.getElem?_set_ne n2] at h4
        have hl := (List.getElem?_eq_some_iff.mp h3).1
        rw [List.length_set] at hl
        rw [List.getElem?_set_self hl] at h3
        cases h3
        exact absurd rfl (old q2 h4)
    · rw [List.getElem?_set_ne n] at h3
      rcases get_set h2 with ⟨rfl, q2⟩ | ⟨n2, q2⟩
      · have hl := (List.getElem?_eq_some_iff.mp h4).1
        rw [List.length_set] at hl
        rw [List.getElem?_set_self hl] at h4
        cases h4
        exact absurd rfl (old q1 h3)
      · rw [List.getElem?_set_ne n2] at h4
        exact t.inj j k e f q q1 q2 h3 h4
  · obtain ⟨h1, h2, h3, h4, h5⟩ := t.hold x hx
    have nq : x.1 ≠ p := ne_of_none h1 hp
    refine ⟨by rw [upd_ne nq]; exact h1, h2, h3, h4, fun j e q z => ?_⟩
    rcases get_set q with ⟨rfl, q1⟩ | ⟨n, q1⟩
    · have hl := (List.getElem?_eq_some_iff.mp z).1
      rw [List.length_set] at hl
      rw [List.getElem?_set_self hl] at z
      cases z
      exact nq rfl
    · rw [List.getElem?_set_ne n] at z
      exact h5 j e q1 z
/-- what slot i owns is frozen -/
theorem At.freeze (t : At c L H0 B0 σ H s B) {i : Nat} {d : D} (h : s.sl[i]? = some (some (.ow d))) : ∃ p B', σ[i]? = some (some (.ref p)) ∧ Le B B' ∧ Rep c B' d (.ref p) ∧ At c L H0 B0 σ H (s.put i (.fz d)) B' := by
  obtain ⟨p, o, h1, h2, h3, h4, h5⟩ := t.ow i d h
  have le : Le B (upd B p o) := Le.upd h3
  have nd : p ∉ c.drs := t.bs.nd0 h2
  have r : Rep c (upd B p o) d (.ref p) := (h5.mono le).rep upd_same
  refine ⟨p, upd B p o, h1, le, r, ⟨⟨t.bs.leB.trans le, fun a q1 q2 => ?_, t.bs.frame, fun a u e => ?_, fun a q => ?_, fun a ps e => ?_, t.bs.dr0, t.bs.some0, t.bs.draw, t.bs.tabs⟩, by simp only [DS.put, List.length_set]; exact t.len, fun j e q => ?_, fun j e q => ?_, fun j k e f q g1 g2 g3 g4 => ?_, fun x hx => ?_⟩⟩
  · by_cases z : a = p
    · rw [z]; exact h2
    · rw [upd_ne z] at q2; exact t.bs.new a q1 q2
  · by_cases z : a = p
    · rw [z, upd_same] at e; cases e; rw [z]; exact h4
    · rw [upd_ne z] at e; exact t.bs.leH a u e
  · rw [upd_ne fun z => nd (by rw [← z]; exact q)]; exact t.bs.avoid a q
  · by_cases z : a = p
    · rw [z, upd_same] at e; exact h5.ntb ps (Option.some.inj e)
    · rw [upd_ne z] at e; exact t.bs.ntb a ps e
  · rcases get_set q with ⟨rfl, qq⟩ | ⟨n, qq⟩
    · cases qq
      exact ⟨_, h1, r⟩
    · obtain ⟨w, w1, w2⟩ := t.fz j e qq
      exact ⟨w, w1, w2.mono le⟩
  · rcases get_set q with ⟨rfl, qq⟩ | ⟨n, qq⟩
    · cases qq
    · obtain ⟨p', o', w1, w2, w3, w4, w5⟩ := t.ow j e qq
      have np : p' ≠ p := fun z => n (t.inj i j d e p h qq h1 (by rw [← z]; exact w1))
      exact ⟨p', o', w1, w2, by rw [upd_ne np]; exact w3, w4, w5.mono le⟩
  · rcases get_set g1 with ⟨rfl, q1⟩ | ⟨n, q1⟩
    · cases q1
    · rcases get_set g2 with ⟨rfl, q2⟩ | ⟨n2, q2⟩
      · cases q2
      · exact t.inj j k e f q q1 q2 g3 g4
  · obtain ⟨w1, w2, w3, w4, w5⟩ := t.hold x hx
    have nq : x.1 ≠ p := fun z => w5 i d h (by rw [h1, z])
    refine ⟨w1, w2, by rw [upd_ne nq]; exact w3, w4, fun j e q z => ?_⟩
    rcases get_set q with ⟨rfl, q1⟩ | ⟨n, q1⟩
    · cases q1
    · exact w5 j e q1 z
/-- what slot i owns is changed -/
theorem At.change (t : At c L H0 B0 σ H s B) {i : Nat} {d d' : D} {p : Addr} {o' : HO} (h : s.sl[i]? = some (some (.ow d))) (hp : σ[i]? = some (some (V.ref p))) (r : RepO c B d' o') : At c L H0 B0 σ (upd H p o') (s.put i (.ow d')) B := by
  obtain ⟨p0, o, h1, h2, h3, h4, h5⟩ := t.ow i d h
  rw [hp] at h1
  cases h1
  have nd : p ∉ c.drs := t.bs.nd0 h2
  refine ⟨⟨t.bs.leB, t.bs.new, fun a u q1 q2 q3 => ?_, fun a u e => ?_, t.bs.avoid, t.bs.ntb, t.bs.dr0, fun a q => ?_, t.bs.draw.keep (fun a q => upd_ne fun z => nd (by rw [← z]; exact q)) (Nat.le_refl _), ?_⟩, by simp only [DS.put, List.length_set]; exact t.len, fun j e q => ?_, fun j e q => ?_, fun j k e f q g1 g2 g3 g4 => ?_, fun x hx => ?_⟩
  · rw [upd_ne (h2.ne q1 q3)]; exact t.bs.frame a u q1 q2 q3
  · rw [upd_ne (ne_of_none e h3)]; exact t.bs.leH a u e
  · exact nFr.upd (t.bs.some0 a q) fun z => q (by rw [z]; exact h2)
  · intro x hx
    obtain ⟨ps, e1, e2, e3⟩ := t.bs.tabs x hx
    have n1 : x.1 ≠ p := fun z => by
      rw [z, h4] at e1
      exact h5.ntb ps (Option.some.inj e1)
    refine ⟨ps, by rw [upd_ne n1]; exact e1, e2, fun pos cv hc => ?_⟩
    obtain ⟨cc, q1, q2⟩ := e3 pos cv hc
    have n2 : cc ≠ p := fun z => by
      rw [z, h4] at q2
      exact h5.nco p _ (Option.some.inj q2)
    exact ⟨cc, q1, by rw [upd_ne n2]; exact q2⟩
  · rcases get_set q with ⟨rfl, qq⟩ | ⟨n, qq⟩
    · cases qq
    · exact t.fz j e qq
  · rcases get_set q with ⟨rfl, qq⟩ | ⟨n, qq⟩
    · cases qq
      exact ⟨p, o', hp, h2, h3, upd_same, r⟩
    · obtain ⟨p', u', w1, w2, w3, w4, w5⟩ := t.ow j e qq
      have np : p' ≠ p := fun z => n (t.inj i j d e p h qq hp (by rw [← z]; exact w1))
      exact ⟨p', u', w1, w2, w3, by rw [upd_ne np]; exact w4, w5⟩
  · rcases get_set g1 with ⟨rfl, q1⟩ | ⟨n, q1⟩
    · rcases get_set g2 with ⟨rfl, q2⟩ | ⟨n2, q2⟩
      · rfl
      · exact t.inj i k d f q h q2 g3 g4
    · rcases get_set g2 with ⟨rfl, q2⟩ | ⟨n2, q2⟩
      · exact t.inj j i e d q q1 h g3 g4
      · exact t.inj j k e f q q1 q2 g3 g4
  · obtain ⟨w1, w2, w3, w4, w5⟩ := t.hold x hx
    have nq : x.1 ≠ p := fun z => w5 i d h (by rw [hp, z])
    refine ⟨by rw [upd_ne nq]; exact w1, w2, w3, w4, fun j e q z => ?_⟩
    rcases get_set q with ⟨rfl, q1⟩ | ⟨n, q1⟩
    · exact w5 i d h z
    · exact w5 j e q1 z
/-! ### an object of one's own leaves -/
def Hp.less (H : Hp) (p : Addr) : Hp := fun a => if a = p then none else H a
theorem less_same {H : Hp} {p : Addr} : Hp.less H p p = none := by unfold Hp.less; rw [if_pos rfl]
theorem less_ne {H : Hp} {p a : Addr} (h : a ≠ p) : Hp.less H p a = H a := by unfold Hp.less; rw [if_neg h]
theorem upd_less {H : Hp} {p : Addr} {o : HO} (h : H p = some o) : upd (Hp.less H p) p o = H := by
  funext a
  by_cases z : a = p
  · rw [z, upd_same, h]
  · rw [upd_ne z, less_ne z]
theorem Bs.less (b : Bs c H0 B0 H B T) {p : Addr} (h0 : Fr H0 p) (hB : B p = none) {o : HO} (ho : H p = some o) (nt : ∀ ps, o ≠ .tbl ps) (nc : ∀ q, o ≠ LamX.CodeO p q) : Bs c H0 B0 (Hp.less H p) B T := by
  have nd : p ∉ c.drs := b.nd0 h0
  refine ⟨b.leB, b.new, fun a u h1 h2 h3 => ?_, fun a u e => ?_, b.avoid, b.ntb, b.dr0, fun a h => ?_, b.draw.keep (fun a h => less_ne fun z => nd (by rw [← z]; exact h)) (Nat.le_refl _), fun x hx => ?_⟩
  · rw [less_ne (h0.ne h1 h3)]; exact b.frame a u h1 h2 h3
  · rw [less_ne (ne_of_none e hB)]; exact b.leH a u e
  · exact fun f => b.some0 a h fun u e => f u (by rw [less_ne fun z => h (by rw [z]; exact h0)]; exact e)
  · obtain ⟨ps, e1, e2, e3⟩ := b.tabs x hx
    have n1 : x.1 ≠ p := fun z => by rw [z, ho] at e1; exact nt ps (Option.some.inj e1)
    refine ⟨ps, by rw [less_ne n1]; exact e1, e2, fun pos cv hc => ?_⟩
    obtain ⟨cc, q1, q2⟩ := e3 pos cv hc
    have n2 : cc ≠ p := fun z => by rw [z, ho] at q2; exact nc _ (Option.some.inj q2)
    exact ⟨cc, q1, by rw [less_ne n2]; exact q2⟩
def DS.drop (s : DS) (i : Nat) : DS := ⟨s.sl.set i none, s.T⟩
/-- what slot i owns is handed out: the slot is empty, the object stands alone -/
theorem At.take (t : At c L H0 B0 σ H s B) {i : Nat} {d : D} (h : s.sl[i]? = some (some (.ow d))) : ∃ p o, σ[i]? = some (some (.ref p)) ∧ Hp.less H p p = none ∧ H = upd (Hp.less H p) p o ∧ RepO c B d o ∧ At c L H0 B0 σ (Hp.less H p) (s.drop i) B := by
  obtain ⟨p, o, h1, h2, h3, h4, h5⟩ := t.ow i d h
  refine ⟨p, o, h1, less_same, (upd_less h4).symm, h5, ⟨t.bs.less h2 h3 h4 h5.ntb (fun q => h5.nco p q), by simp only [DS.drop, List.length_set]; exact t.len, fun j e q => ?_, fun j e q => ?_, fun j k e f q g1 g2 g3 g4 => ?_, fun x hx => ?_⟩⟩
  · rcases get_set q with ⟨rfl, q1⟩ | ⟨n, q1⟩
    · cases q1
    · exact t.fz j e q1
  · rcases get_set q with ⟨rfl, q1⟩ | ⟨n, q1⟩
    · cases q1
    · obtain ⟨p', o', w1, w2, w3, w4, w5⟩ := t.ow j e q1
      have np : p' ≠ p := fun z => n (t.inj i j d e p h q1 h1 (by rw [← z]; exact w1))
      exact ⟨p', o', w1, w2, w3, by rw [less_ne np]; exact w4, w5⟩
  · rcases get_set g1 with ⟨rfl, q1⟩ | ⟨n, q1⟩
    · cases q1
    · rcases get_set g2 with ⟨rfl, q2⟩ | ⟨n2, q2⟩
      · cases q2
      · exact t.inj j k e f q q1 q2 g3 g4
  · obtain ⟨w1, w2, w3, w4, w5⟩ := t.hold x hx
    have nq : x.1 ≠ p := fun z => w5 i d h (by rw [h1, z])
    refine ⟨by rw [less_ne nq]; exact w1, w2, w3, w4, fun j e q z => ?_⟩
    rcases get_set q with ⟨rfl, q1⟩ | ⟨n, q1⟩
    · cases q1
    · exact w5 j e q1 z
/-- what is held aside is handed out -/
theorem At.let (t : At c ((p, o) :: L) H0 B0 σ H s B) (nc : ∀ q, o ≠ LamX.CodeO p q) (nL : ∀ x ∈ L, x.1 ≠ p) : Hp.less H p p = none ∧ H = upd (Hp.less H p) p o ∧ At c L H0 B0 σ (Hp.less H p) s B := by
  obtain ⟨h1, h2, h3, h4, h5⟩ := t.hold (p, o) List.mem_cons_self
  refine ⟨less_same, (upd_less h1).symm, ⟨t.bs.less h2 h3 h1 h4 nc, t.len, t.fz, fun i d h => ?_, t.inj, fun x hx => ?_⟩⟩
  · obtain ⟨q, u, w1, w2, w3, w4, w5⟩ := t.ow i d h
    have nq : q ≠ p := fun z => h5 i d h (by rw [w1, z])
    exact ⟨q, u, w1, w2, w3, by rw [less_ne nq]; exact w4, w5⟩
  · obtain ⟨w1, w2, w3, w4, w5⟩ := t.hold x (List.mem_cons_of_mem _ hx)
    exact ⟨by rw [less_ne (nL x hx)]; exact w1, w2, w3, w4, w5⟩
/-! ### calls -/
theorem Bs.self (b : Bs c H0 B0 H B T) : Bs c H B H B T := ⟨Le.refl B, fun a h1 h2 => absurd h1 h2, fun a o h _ _ => h, b.leH, b.avoid, b.ntb, b.drH, fun a h => h, b.draw, b.tabs⟩
theorem Bs.trans {H' B' : Hp} {T' : Nat} (b : Bs c H0 B0 H B T) (b' : Bs c H B H' B' T') : Bs c H0 B0 H' B' T' := by
  refine ⟨b.leB.trans b'.leB, fun a h1 h2 => ?_, fun a o h1 h2 h3 => b'.frame a o (b.frame a o h1 h2 h3) h2 h3, b'.leH, b'.avoid, b'.ntb, b.dr0, fun a h => b'.some0 a (b.some0 a h), b'.draw, b'.tabs⟩
  by_cases z : B a = none
  · exact Classical.byContradiction fun y => b.some0 a y (b'.new a z h2)
  · exact b.new a h1 z
theorem At.call {H' B' : Hp} {T' : Nat} (t : At c L H0 B0 σ H s B) (b : Bs c H B H' B' T') : At c L H0 B0 σ H' (s.tick T') B' := by
  have nB : ∀ {p o}, H p = some o → (∀ ps, o ≠ .tbl ps) → B p = none → B' p = none := fun {p o} e n h => by
    cases q : B' p with
    | none => rfl
    | some u =>
      obtain ⟨ps, z⟩ := b.new p h (by rw [q]; simp) o e
      exact (n ps z).elim
  refine ⟨t.bs.trans b, t.len, fun i d h => ?_, fun i d h => ?_, t.inj, fun x hx => ?_⟩
  · obtain ⟨v, h1, h2⟩ := t.fz i d h
    exact ⟨v, h1, h2.mono b.leB⟩
  · obtain ⟨p, o, h1, h2, h3, h4, h5⟩ := t.ow i d h
    exact ⟨p, o, h1, h2, nB h4 h5.ntb h3, b.frame p o h4 (t.bs.nd0 h2) h5.ntb, h5.mono b.leB⟩
  · obtain ⟨h1, h2, h3, h4, h5⟩ := t.hold x hx
    exact ⟨b.frame _ _ h1 (t.bs.nd0 h2) h4, h2, nB h1 h4 h3, h4, h5⟩
end
end DL

set_option Elab.async false
set_option linter.all false
set_option maxRecDepth 100000
set_option maxHeartbeats 4000000
namespace DL
open PySem L2
variable [Tb]
abbrev XD := Str → List (Str × D) → DS → Prop
abbrev DF := DS → (D → DS → Prop) → XD → Prop
abbrev DFA := DS → (List D → DS → Prop) → XD → Prop
abbrev DFT := DS → (Bool → DS → Prop) → XD → Prop
abbrev cx (X : Cx) (q : Dr) : Ct := ⟨X.K, X.mg, q⟩
/-- an exception's class, its own dict, by data -/
def ExcR (c : Ct) (B : Hp) (n : Str) (fs : List (Str × D)) (cls : Value) (dd : Option Addr) : Prop :=
  ∃ C xs, cls = .ref C ∧ c.mg n = some (.ref C) ∧ (match dd with | some d => B d = some (.xd xs) | none => xs = []) ∧ RepF c B fs xs
def Ret (c : Ct) (L : List (Addr × HO)) (H0 B0 : Hp) (σ : L2.St) (B : Hp) (P : D → DS → Prop) (Q : VK) : Prop := ∀ v H' d s' B', At c L H0 B0 σ H' s' B' → Le B B' → Rep c B' d v → P d s' → Q v H'
def RetO (c : Ct) (L : List (Addr × HO)) (H0 B0 : Hp) (σ : L2.St) (B : Hp) (P : D → DS → Prop) (Q : VK) : Prop := ∀ p o H' d s' B', At c L H0 B0 σ H' s' B' → Le B B' → H' p = none → RepO c B' d o → P d s' → Q (.ref p) (upd H' p o)
def RetA (c : Ct) (L : List (Addr × HO)) (H0 B0 : Hp) (σ : L2.St) (B : Hp) (P : List D → DS → Prop) (Q : List V → Hp → Prop) : Prop := ∀ vs H' ds s' B', At c L H0 B0 σ H' s' B' → Le B B' → RepL c B' ds vs → P ds s' → Q vs H'
def RetT (c : Ct) (L : List (Addr × HO)) (H0 B0 : Hp) (σ : L2.St) (B : Hp) (P : Bool → DS → Prop) (Q : Bool → Hp → Prop) : Prop := ∀ b H' s' B', At c L H0 B0 σ H' s' B' → Le B B' → P b s' → Q b H'
def Exs (c : Ct) (L : List (Addr × HO)) (H0 B0 : Hp) (σ : L2.St) (B : Hp) (ex : XD) (W : WX) : Prop := ∀ n fs s' H' B' cls dd, At c L H0 B0 σ H' s' B' → Le B B' → ExcR c B' n fs cls dd → ex n fs s' → W cls dd σ H'
section
variable {c : Ct} {L : List (Addr × HO)} {H0 B0 B B' : Hp} {σ : L2.St} {Q : VK} {W : WX} {ex : XD}
theorem Ret.le {P : D → DS → Prop} (e : Le B B') (h : Ret c L H0 B0 σ B P Q) : Ret c L H0 B0 σ B' P Q := fun v H' d s' C t l => h v H' d s' C t (e.trans l)
theorem RetO.le {P : D → DS → Prop} (e : Le B B') (h : RetO c L H0 B0 σ B P Q) : RetO c L H0 B0 σ B' P Q := fun p o H' d s' C t l => h p o H' d s' C t (e.trans l)
theorem RetA.le {P : List D → DS → Prop} {Q : List V → Hp → Prop} (e : Le B B') (h : RetA c L H0 B0 σ B P Q) : RetA c L H0 B0 σ B' P Q := fun v H' d s' C t l => h v H' d s' C t (e.trans l)
theorem RetT.le {P : Bool → DS → Prop} {Q : Bool → Hp → Prop} (e : Le B B') (h : RetT c L H0 B0 σ B P Q) : RetT c L H0 B0 σ B' P Q := fun b H' s' C t l => h b H' s' C t (e.trans l)
theorem Exs.le (e : Le B B') (h : Exs c L H0 B0 σ B ex W) : Exs c L H0 B0 σ B' ex W := fun n fs s' H' C cls dd t l => h n fs s' H' C cls dd t (e.trans l)
end
/-- a reading over data, as a reading over the heap -/
def LftE (X : Cx) (W : WX) (F : DF) : TE := fun σ H Q => ∃ q L H0 B0 s B P ex, At (cx X q) L H0 B0 σ H s B ∧ F s P ex ∧ Ret (cx X q) L H0 B0 σ B P Q ∧ Exs (cx X q) L H0 B0 σ B ex W
def LftO (X : Cx) (W : WX) (F : DF) : TE := fun σ H Q => ∃ q L H0 B0 s B P ex, At (cx X q) L H0 B0 σ H s B ∧ F s P ex ∧ RetO (cx X q) L H0 B0 σ B P Q ∧ Exs (cx X q) L H0 B0 σ B ex W
def LftA (X : Cx) (W : WX) (F : DFA) : TA := fun σ H Q => ∃ q L H0 B0 s B P ex, At (cx X q) L H0 B0 σ H s B ∧ F s P ex ∧ RetA (cx X q) L H0 B0 σ B P Q ∧ Exs (cx X q) L H0 B0 σ B ex W
def LftT (X : Cx) (W : WX) (F : DFT) : TT := fun σ H Q => ∃ q L H0 B0 s B P ex, At (cx X q) L H0 B0 σ H s B ∧ F s P ex ∧ RetT (cx X q) L H0 B0 σ B P Q ∧ Exs (cx X q) L H0 B0 σ B ex W
structure DPE (X : Cx) (W : WX) (e : Expr) (F : DF) : Prop where pe : PE X e (LftE X W F)
structure DPO (X : Cx) (W : WX) (e : Expr) (F : DF) : Prop where pe : PE X e (LftO X W F)
structure DPA (X : Cx) (W : WX) (es : List Expr) (F : DFA) : Prop where pa : PA X es (LftA X W F)
structure DPT (X : Cx) (W : WX) (e : Expr) (F : DFT) : Prop where pt : PT X e (LftT X W F)
section
variable {X : Cx}
theorem pe_mono {e : Expr} {t t' : TE} (h : ∀ σ H Q, t' σ H Q → t σ H Q) (p : PE X e t) : PE X e t' := ⟨fun pins s σ H Q I q => p.run pins s σ H Q I (h σ H Q q)⟩
theorem pa_mono {e : List Expr} {t t' : TA} (h : ∀ σ H Q, t' σ H Q → t σ H Q) (p : PA X e t) : PA X e t' := ⟨fun pos pins s σ H Q I q => p.run pos pins s σ H Q I (h σ H Q q)⟩
theorem pt_mono {e : Expr} {t t' : TT} (h : ∀ σ H Q, t' σ H Q → t σ H Q) (p : PT X e t) : PT X e t' := ⟨fun pins s σ H Q I q => p.run pins s σ H Q I (h σ H Q q)⟩
theorem ps_mono {e : Stmt} {t t' : TS} (h : ∀ D σ H, t' D σ H → t D σ H) (p : PS X e t) : PS X e t' := ⟨fun pins s σ H D I q => p.run pins s σ H D I (h D σ H q)⟩
theorem pss_mono {e : List Stmt} {t t' : TS} (h : ∀ D σ H, t' D σ H → t D σ H) (p : PSs X e t) : PSs X e t' := ⟨fun pins s σ H D I q => p.run pins s σ H D I (h D σ H q)⟩
variable {W : WX} {a b : Expr} {Fa Fb : DF} {pos : Pos}
/-! ### names, constants -/
def dC (d : D) : DF := fun s P _ => P d s
/-- the name at slot i: what it owns is frozen from then on -/
def dVar (i : Nat) : DF := fun s P _ => match s.sl[i]? with
  | some (some (.fz d)) => P d s
  | some (some (.ow d)) => P d (s.put i (.fz d))
  | _ => False
theorem lft_c {d : D} {v : V} (h : ∀ q B, Rep (cx X q) B d v) : ∀ σ H Q, LftE X W (dC d) σ H Q → tC v σ H Q := fun σ H Q ⟨q, L, H0, B0, s, B, P, ex, t, f, r, _⟩ => r v H d s B t (Le.refl B) (h q B) f
theorem d_int {i : Int} {j : Nat} : DPE X W (.Constant (.int i) j pos) (dC (.int i)) := ⟨pe_mono (lft_c fun _ _ => by unfold Rep; rfl) pe_int⟩
theorem d_bl {i : Bool} {j : Nat} : DPE X W (.Constant (.bool i) j pos) (dC (.bl i)) := ⟨pe_mono (lft_c fun _ _ => by unfold Rep; rfl) pe_bl⟩
theorem d_non {j : Nat} : DPE X W (.Constant .none j pos) (dC .non) := ⟨pe_mono (lft_c fun _ _ => by unfold Rep; rfl) pe_non⟩
theorem d_str {i : Str} {j : Nat} : DPE X W (.Constant (.str i) j pos) (dC (.str i)) := ⟨pe_mono (lft_c fun _ _ => by unfold Rep; rfl) pe_str⟩
theorem d_glob {x : Str} {u : Value} {d : D} {v : V} (h : ∀ q B, Rep (cx X q) B d v) (hg : Gl X x) (hm : X.mg x = some u) (r : RelV v u) (hd : (x == ("__debug__" : Str)) = false := by decide) : DPE X W (.Name x pos) (dC d) := ⟨pe_mono (lft_c h) (pe_glob hg hm r hd)⟩
theorem dv (i : Nat) {x : Str} (hN : X.N[i]? = some x := by rfl) (hv : Vis X.env.scope x := by first | exact Or.inl rfl | exact Or.inr (Or.inl rfl) | exact Or.inr (Or.inr rfl)) (hd : (x == ("__debug__" : Str)) = false := by decide)
    (hcd : (x == ("__classdict__" : Str)) = false := by decide) : DPE X W (.Name x pos) (dVar i) := ⟨pe_mono (fun σ H Q ⟨q, L, H0, B0, s, B, P, ex, t, f, r, _⟩ => by
  unfold dVar at f
  split at f
  · rename_i d h
    obtain ⟨v, h1, h2⟩ := t.fz i d h
    exact ⟨v, h1, r v H d s B t (Le.refl B) h2 f⟩
  · rename_i d h
    obtain ⟨p, B', h1, h2, h3, h4⟩ := t.freeze h
    exact ⟨.ref p, h1, r _ H d _ B' h4 h2 h3 f⟩
  · exact f.elim) (pe_var hN hv hd hcd)⟩
/-- a new object as a value -/
theorem d_ofO (h : DPO X W a Fa) : DPE X W a Fa := ⟨pe_mono (fun σ H Q ⟨q, L, H0, B0, s, B, P, ex, t, f, r, x⟩ => ⟨q, L, H0, B0, s, B, P, ex, t, f, fun p o H' d s' B' t' l hp ro pp =>
  r (.ref p) (upd H' p o) d s' (upd B' p o) (t'.alloc hp ro.ntb) (l.trans (Le.upd (t'.bs.nB hp))) ((ro.mono (Le.upd (t'.bs.nB hp))).rep upd_same) pp, x⟩) h.pe⟩
/-! ### operators -/
structure OpD (X : Cx) (f : Value → Value → PySem.Sem Value) (R : D → D → (D → Prop) → Prop) : Prop where
  ex : ∃ r : R2, OpR X f r ∧ ∀ q L H0 B0 σ H s B x y v u P Q, At (cx X q) L H0 B0 σ H s B → Rep (cx X q) B x v → Rep (cx X q) B y u → R x y P → Ret (cx X q) L H0 B0 σ B (fun d s' => s' = s ∧ P d) Q → r v u H Q
def dOp (R : D → D → (D → Prop) → Prop) (Fa Fb : DF) : DF := fun s P ex => Fa s (fun x s1 => Fb s1 (fun y s2 => R x y fun z => P z s2) ex) ex
theorem lft_op {r : R2} {R : D → D → (D → Prop) → Prop} (h : ∀ q L H0 B0 σ H s B x y v u P Q, At (cx X q) L H0 B0 σ H s B → Rep (cx X q) B x v → Rep (cx X q) B y u → R x y P → Ret (cx X q) L H0 B0 σ B (fun d s' => s' = s ∧ P d) Q → r v u H Q) :
    ∀ σ H Q, LftE X W (dOp R Fa Fb) σ H Q → tOp r (LftE X W Fa) (LftE X W Fb) σ H Q := fun σ H Q ⟨q, L, H0, B0, s, B, P, ex, t, f, rt, e⟩ =>
  ⟨q, L, H0, B0, s, B, _, ex, t, f, fun v H1 x s1 B1 t1 l1 r1 p1 => ⟨q, L, H0, B0, s1, B1, _, ex, t1, p1, fun u H2 y s2 B2 t2 l2 r2 p2 =>
    h q L H0 B0 σ H2 s2 B2 x y v u _ Q t2 (r1.mono l2) r2 p2 (fun w H3 d s3 B3 t3 l3 r3 ⟨es, p3⟩ => rt w H3 d s3 B3 t3 ((l1.trans l2).trans l3) r3 (by rw [es]; exact p3)), e.le l1⟩, e⟩
theorem d_op {op : Operator} {R : D → D → (D → Prop) → Prop} (ho : OpD X (binaryOp op) R) (ha : DPE X W a Fa) (hb : DPE X W b Fb) : DPE X W (.BinOp a op b pos) (dOp R Fa Fb) := by
  obtain ⟨r, h1, h2⟩ := ho.ex
  exact ⟨pe_mono (lft_op h2) (pe_op h1 ha.pe hb.pe)⟩
theorem d_cmp {op : CmpOp} {R : D → D → (D → Prop) → Prop} (ho : OpD X (compareOp op) R) (ha : DPE X W a Fa) (hb : DPE X W b Fb) (hm : behindInMarks op b = false) : DPE X W (.Compare a [op] [b] pos) (dOp R Fa Fb) := by
  obtain ⟨r, h1, h2⟩ := ho.ex
  exact ⟨pe_mono (lft_op h2) (pe_cmpR h1 ha.pe hb.pe hm)⟩
theorem rep_int {c : Ct} {B : Hp} {i : Int} {v : V} (h : Rep c B (.int i) v) : v = .int i := by unfold Rep at h; exact h
theorem rep_bl {c : Ct} {B : Hp} {i : Bool} {v : V} (h : Rep c B (.bl i) v) : v = .bl i := by unfold Rep at h; exact h
theorem rep_str {c : Ct} {B : Hp} {i : Str} {v : V} (h : Rep c B (.str i) v) : v = .str i := by unfold Rep at h; exact h
theorem rep_non {c : Ct} {B : Hp} {v : V} (h : Rep c B .non v) : v = .non := by unfold Rep at h; exact h
theorem rep_tup {c : Ct} {B : Hp} {ds : List D} {v : V} (h : Rep c B (.tup ds) v) : ∃ a xs, v = .ref a ∧ SqT c.K B a xs ∧ RepL c B ds xs := by unfold Rep at h; exact h
theorem rep_lst {c : Ct} {B : Hp} {ds : List D} {v : V} (h : Rep c B (.lst ds) v) : ∃ a xs, v = .ref a ∧ B a = some (.lst xs) ∧ RepL c B ds xs := by unfold Rep at h; exact h
theorem int_rep {c : Ct} {B : Hp} {i : Int} : Rep c B (.int i) (.int i) := by unfold Rep; rfl
theorem bl_rep {c : Ct} {B : Hp} {i : Bool} : Rep c B (.bl i) (.bl i) := by unfold Rep; rfl
theorem str_rep {c : Ct} {B : Hp} {i : Str} : Rep c B (.str i) (.str i) := by unfold Rep; rfl
theorem non_rep {c : Ct} {B : Hp} : Rep c B .non .non := by unfold Rep; rfl
theorem tup_rep {c : Ct} {B : Hp} {ds : List D} {a : Addr} {xs : List V} (h : B a = some (.tup xs)) (r : RepL c B ds xs) : Rep c B (.tup ds) (.ref a) := by unfold Rep; exact ⟨a, xs, rfl, .inl (.inl h), r⟩
theorem lst_rep {c : Ct} {B : Hp} {ds : List D} {a : Addr} {xs : List V} (h : B a = some (.lst xs)) (r : RepL c B ds xs) : Rep c B (.lst ds) (.ref a) := by unfold Rep; exact ⟨a, xs, rfl, h, r⟩
theorem repL_len {c : Ct} {B : Hp} : ∀ {ds : List D} {xs : List V}, RepL c B ds xs → xs.length = ds.length
  | [], _, h => by unfold RepL at h; rw [h]; rfl
  | d :: ds, _, h => by
    unfold RepL at h
    obtain ⟨x, xr, rfl, _, h2⟩ := h
    rw [List.length_cons, List.length_cons, repL_len h2]
theorem repL_nil {c : Ct} {B : Hp} : RepL c B [] [] := by unfold RepL; rfl
theorem repL_cons {c : Ct} {B : Hp} {d : D} {ds : List D} {x : V} {xs : List V} (h : Rep c B d x) (r : RepL c B ds xs) : RepL c B (d :: ds) (x :: xs) := by unfold RepL; exact ⟨x, xs, rfl, h, r⟩
theorem repL_app {c : Ct} {B : Hp} {es : List D} {ys : List V} (hy : RepL c B es ys) : ∀ {ds : List D} {xs : List V}, RepL c B ds xs → RepL c B (ds ++ es) (xs ++ ys)
  | [], _, h => by unfold RepL at h; rw [h]; exact hy
  | d :: ds, _, h => by
    unfold RepL at h
    obtain ⟨x, xr, rfl, h1, h2⟩ := h
    exact repL_cons h1 (repL_app hy h2)
theorem repL_get {c : Ct} {B : Hp} : ∀ {ds : List D} {xs : List V} {i : Nat} {d : D}, RepL c B ds xs → ds[i]? = some d → ∃ x, xs[i]? = some x ∧ Rep c B d x
  | [], _, i, d, _, h => by simp at h
  | e :: ds, _, 0, d, r, h => by
    unfold RepL at r
    obtain ⟨x, xr, rfl, h1, h2⟩ := r
    cases h
    exact ⟨x, rfl, h1⟩
  | e :: ds, _, i + 1, d, r, h => by
    unfold RepL at r
    obtain ⟨x, xr, rfl, h1, h2⟩ := r
    obtain ⟨y, h3, h4⟩ := repL_get h2 (i := i) (d := d) h
    exact ⟨y, h3, h4⟩
theorem repL_gets {c : Ct} {B : Hp} : ∀ {ds : List D} {xs : List V} {i : Nat} {x : V}, RepL c B ds xs → xs[i]? = some x → ∃ d, ds[i]? = some d ∧ Rep c B d x := fun {ds xs i x} r h => by
  have hl := (List.getElem?_eq_some_iff.mp h).1
  rw [repL_len r] at hl
  obtain ⟨y, h1, h2⟩ := repL_get r (List.getElem?_eq_getElem hl)
  rw [h] at h1
  cases h1
  exact ⟨_, List.getElem?_eq_getElem hl, h2⟩
theorem repL_take {c : Ct} {B : Hp} : ∀ {ds : List D} {xs : List V} (n : Nat), RepL c B ds xs → RepL c B (ds.take n) (xs.take n)
  | [], _, n, h => by unfold RepL at h; rw [h]; simp only [List.take_nil]; exact repL_nil
  | d :: ds, _, 0, h => repL_nil
  | d :: ds, _, n + 1, h => by
    unfold RepL at h
    obtain ⟨x, xr, rfl, h1, h2⟩ := h
    exact repL_cons h1 (repL_take n h2)
theorem repL_drop {c : Ct} {B : Hp} : ∀ {ds : List D} {xs : List V} (n : Nat), RepL c B ds xs → RepL c B (ds.drop n) (xs.drop n)
  | [], _, n, h => by unfold RepL at h; rw [h]; simp only [List.drop_nil]; exact repL_nil
  | d :: ds, _, 0, h => h
  | d :: ds, _, n + 1, h => by
    unfold RepL at h
    obtain ⟨x, xr, rfl, h1, h2⟩ := h
    exact repL_drop n h2
theorem repL_set {c : Ct} {B : Hp} : ∀ {ds : List D} {xs : List V} {n : Nat} {d : D} {x : V}, RepL c B ds xs → Rep c B d x → RepL c B (ds.set n d) (xs.set n x)
  | [], _, n, _, _, h, _ => by unfold RepL at h; rw [h]; exact repL_nil
  | e :: ds, _, 0, _, _, h, r => by
    unfold RepL at h
    obtain ⟨x, xr, rfl, h1, h2⟩ := h
    exact repL_cons r h2
  | e :: ds, _, n + 1, _, _, h, r => by
    unfold RepL at h
    obtain ⟨x, xr, rfl, h1, h2⟩ := h
    exact repL_cons h1 (repL_set h2 r)
theorem repL_era {c : Ct} {B : Hp} : ∀ {ds : List D} {xs : List V} {n : Nat}, RepL c B ds xs → RepL c B (ds.eraseIdx n) (xs.eraseIdx n)
  | [], _, n, h => by unfold RepL at h; rw [h]; exact repL_nil
  | e :: ds, _, 0, h => by
    unfold RepL at h
    obtain ⟨x, xr, rfl, h1, h2⟩ := h
    exact h2
  | e :: ds, _, n + 1, h => by
    unfold RepL at h
    obtain ⟨x, xr, rfl, h1, h2⟩ := h
    exact repL_cons h1 (repL_era h2)
end
end DL

set_option Elab.async false
set_option linter.all false
set_option maxRecDepth 100000
set_option maxHeartbeats 4000000
namespace DL
open PySem L2
variable [Tb]
theorem sz {n : Nat} (h : n ≤ 100000) : n ≤ sizeLine := Nat.le_trans h (by decide)
theorem szl {n : Nat} (h : n < 100000) : n < sizeLine := Nat.lt_of_lt_of_le h (by decide)
section
variable {X : Cx} {W : WX} {a b e : Expr} {Fa Fb : DF} {pos : Pos}
/-! ### what an operator makes -/
section
variable {c : Ct} {L : List (Addr × HO)} {H0 B0 H B : Hp} {σ : L2.St} {s : DS} {P : D → Prop} {Q : VK}
abbrev R1 (c : Ct) (L : List (Addr × HO)) (H0 B0 : Hp) (σ : L2.St) (B : Hp) (s : DS) (P : D → Prop) (Q : VK) : Prop := Ret c L H0 B0 σ B (fun d s' => s' = s ∧ P d) Q
theorem R1.val (r : R1 c L H0 B0 σ B s P Q) (t : At c L H0 B0 σ H s B) {d : D} {v : V} (h : Rep c B d v) (p : P d) : Q v H := r v H d s B t (Le.refl B) h ⟨rfl, p⟩
theorem R1.new (r : R1 c L H0 B0 σ B s P Q) (t : At c L H0 B0 σ H s B) {d : D} {p : Addr} {o : HO} (hp : H p = none) (nt : ∀ ps, o ≠ .tbl ps) (h : Rep c (upd B p o) d (.ref p)) (pp : P d) : Q (.ref p) (upd H p o) :=
  r _ _ d s _ (t.alloc hp nt) (Le.upd (t.bs.nB hp)) h ⟨rfl, pp⟩
end
/-! ### arithmetic -/
def dAdd : D → D → (D → Prop) → Prop
  | .int i, .int j, P => P (.int (i + j))
  | .tup xs, .tup ys, P => xs.length + ys.length ≤ 100000 ∧ P (.tup (xs ++ ys))
  | .lst xs, .lst ys, P => xs.length + ys.length ≤ 100000 ∧ P (.lst (xs ++ ys))
  | .str x, .str y, P => x.length + y.length ≤ 100000 ∧ P (.str (x ++ y))
  | _, _, _ => False
theorem o_add : OpD X (binaryOp .Add) dAdd := by
  refine ⟨_, op_add.or (op_catA.or (op_cat.or op_add_str)), fun q L H0 B0 σ H s B x y v u P Q t rx ry h r => ?_⟩
  unfold dAdd at h
  split at h
  · rw [rep_int rx, rep_int ry]
    exact .inl ⟨_, _, rfl, rfl, R1.val r t int_rep h⟩
  · obtain ⟨hz, h⟩ := h
    obtain ⟨a, xs, rfl, ha, hx⟩ := rep_tup rx
    obtain ⟨b, ys, rfl, hb, hy⟩ := rep_tup ry
    refine .inr (.inl ⟨a, b, xs, ys, rfl, rfl, t.bs.leH.sqT ha, t.bs.leH.sqT hb, by rw [repL_len hx, repL_len hy]; exact sz hz, fun e => ?_, fun _ e => ?_, fun _ _ p hp => ?_⟩)
    · subst e
      cases (show _ = [] from List.eq_nil_of_length_eq_zero (repL_len hx).symm)
      exact R1.val r t ry h
    · subst e
      cases (show _ = [] from List.eq_nil_of_length_eq_zero (repL_len hy).symm)
      rw [List.append_nil] at h
      exact R1.val r t rx h
    · have le := Le.upd (o := HO.tup (xs ++ ys)) (t.bs.nB hp)
      exact R1.new r t hp (fun _ z => by cases z) (tup_rep upd_same (repL_app (hy.mono le) (hx.mono le))) h
  · obtain ⟨hz, h⟩ := h
    obtain ⟨a, xs, rfl, ha, hx⟩ := rep_lst rx
    obtain ⟨b, ys, rfl, hb, hy⟩ := rep_lst ry
    refine .inr (.inr (.inl ⟨a, b, xs, ys, rfl, rfl, t.bs.leH _ _ ha, t.bs.leH _ _ hb, by rw [repL_len hx, repL_len hy]; exact sz hz, fun p hp => ?_⟩))
    have le := Le.upd (o := HO.lst (xs ++ ys)) (t.bs.nB hp)
    exact R1.new r t hp (fun _ z => by cases z) (lst_rep upd_same (repL_app (hy.mono le) (hx.mono le))) h
  · obtain ⟨hz, h⟩ := h
    rw [rep_str rx, rep_str ry]
    exact .inr (.inr (.inr ⟨_, _, rfl, rfl, sz hz, R1.val r t str_rep h⟩))
  · exact h.elim
def dSub : D → D → (D → Prop) → Prop
  | .int i, .int j, P => P (.int (i - j))
  | _, _, _ => False
theorem o_sub : OpD X (binaryOp .Sub) dSub := by
  refine ⟨_, op_sub, fun q L H0 B0 σ H s B x y v u P Q t rx ry h r => ?_⟩
  unfold dSub at h
  split at h
  · rw [rep_int rx, rep_int ry]
    exact ⟨_, _, rfl, rfl, R1.val r t int_rep h⟩
  · exact h.elim
def dMul : D → D → (D → Prop) → Prop
  | .int i, .int j, P => CMul i j ∧ P (.int (i * j))
  | .tup xs, .int k, P => xs ≠ [] ∧ 2 ≤ k ∧ k ≤ 1000 ∧ xs.length ≤ 100 ∧ P (.tup (List.replicate k.toNat xs).flatten)
  | .lst xs, .int k, P => k ≤ 1000 ∧ -1000 ≤ k ∧ xs.length ≤ 100 ∧ P (.lst (List.replicate k.toNat xs).flatten)
  | _, _, _ => False
theorem repL_rep {c : Ct} {B : Hp} {ds : List D} {xs : List V} (h : RepL c B ds xs) : ∀ n : Nat, RepL c B (List.replicate n ds).flatten (List.replicate n xs).flatten
  | 0 => repL_nil
  | n + 1 => by
    rw [List.replicate_succ, List.replicate_succ, List.flatten_cons, List.flatten_cons]
    exact repL_app (repL_rep h n) h
theorem o_mul : OpD X (binaryOp .Mult) dMul := by
  refine ⟨_, op_mul.or (op_repT.or op_rep), fun q L H0 B0 σ H s B x y v u P Q t rx ry h r => ?_⟩
  unfold dMul at h
  split at h
  · rw [rep_int rx, rep_int ry]
    exact .inl ⟨_, _, rfl, rfl, h.1, R1.val r t int_rep h.2⟩
  · obtain ⟨h1, h2, h3, h4, h⟩ := h
    obtain ⟨a, xs, rfl, ha, hx⟩ := rep_tup rx
    rw [rep_int ry]
    refine .inr (.inl ⟨a, _, xs, rfl, rfl, t.bs.leH.sqT ha, fun z => h1 ?_, h2, h3, by rw [repL_len hx]; omega, fun p hp => ?_⟩)
    · rw [z] at hx
      exact List.eq_nil_of_length_eq_zero (repL_len hx).symm
    · exact R1.new r t hp (fun _ z => by cases z) (tup_rep upd_same (repL_rep (hx.mono (Le.upd (t.bs.nB hp))) _)) h
  · rename_i xs0 k
    obtain ⟨h1, h2, h3, h⟩ := h
    obtain ⟨a, xs, rfl, ha, hx⟩ := rep_lst rx
    rw [rep_int ry]
    refine .inr (.inr ⟨a, _, xs, rfl, rfl, t.bs.leH _ _ ha, by omega, by omega, ?_, fun p hp => ?_⟩)
    · rw [repL_len hx]
      exact sz (Nat.le_trans (Nat.mul_le_mul h3 (by omega : k.toNat ≤ 1000)) (by decide))
    · exact R1.new r t hp (fun _ z => by cases z) (lst_rep upd_same (repL_rep (hx.mono (Le.upd (t.bs.nB hp))) _)) h
  · exact h.elim
def dFdiv : D → D → (D → Prop) → Prop
  | .int i, .int j, P => CDivN i j ∧ P (.int (i.fdiv j))
  | _, _, _ => False
theorem o_fdiv : OpD X (binaryOp .FloorDiv) dFdiv := by
  refine ⟨_, op_fdivN, fun q L H0 B0 σ H s B x y v u P Q t rx ry h r => ?_⟩
  unfold dFdiv at h
  split at h
  · rw [rep_int rx, rep_int ry]
    exact ⟨_, _, rfl, rfl, h.1, R1.val r t int_rep h.2⟩
  · exact h.elim
def dMod : D → D → (D → Prop) → Prop
  | .int i, .int j, P => j ≠ 0 ∧ P (.int (i.fmod j))
  | _, _, _ => False
theorem o_mod : OpD X (binaryOp .Mod) dMod := by
  refine ⟨_, op_modN, fun q L H0 B0 σ H s B x y v u P Q t rx ry h r => ?_⟩
  unfold dMod at h
  split at h
  · rw [rep_int rx, rep_int ry]
    exact ⟨_, _, rfl, rfl, h.1, R1.val r t int_rep h.2⟩
  · exact h.elim
def dPow : D → D → (D → Prop) → Prop
  | .int i, .int j, P => CPow i j ∧ P (.int (i ^ j.toNat))
  | _, _, _ => False
theorem o_pow : OpD X (binaryOp .Pow) dPow := by
  refine ⟨_, op_pow, fun q L H0 B0 σ H s B x y v u P Q t rx ry h r => ?_⟩
  unfold dPow at h
  split at h
  · rw [rep_int rx, rep_int ry]
    exact ⟨_, _, rfl, rfl, h.1, R1.val r t int_rep h.2⟩
  · exact h.elim
def dNeg (F : DF) : DF := fun s P ex => F s (fun d s1 => match d with | .int i => P (.int (-i)) s1 | _ => False) ex
theorem d_neg (ha : DPE X W a Fa) : DPE X W (.UnaryOp .USub a pos) (dNeg Fa) := ⟨pe_mono (fun σ H Q ⟨q, L, H0, B0, s, B, P, ex, t, f, r, x⟩ => ⟨q, L, H0, B0, s, B, _, ex, t, f, fun v H' d s' B' t' l rd p => by
  try dsimp only at p
  split at p
  · rw [rep_int rd]
    exact ⟨_, rfl, r _ _ _ _ _ t' l int_rep p⟩
  · exact p.elim, x⟩) (pe_un un_neg ha.pe)⟩
/-! ### comparisons -/
def dCmpI (p : Int → Int → Bool) : D → D → (D → Prop) → Prop
  | .int i, .int j, P => P (.bl (p i j))
  | _, _, _ => False
theorem o_cmpI {op : CmpOp} {p : Int → Int → Bool} (h0 : OpR X (compareOp op) (rI0 fun i j => .bl (p i j))) : OpD X (compareOp op) (dCmpI p) := by
  refine ⟨_, h0, fun q L H0 B0 σ H s B x y v u P Q t rx ry h r => ?_⟩
  unfold dCmpI at h
  split at h
  · rw [rep_int rx, rep_int ry]
    exact ⟨_, _, rfl, rfl, R1.val r t bl_rep h⟩
  · exact h.elim
theorem o_lt : OpD X (compareOp .Lt) (dCmpI fun i j => decide (i < j)) := o_cmpI op_lt
theorem o_le : OpD X (compareOp .LtE) (dCmpI fun i j => decide (i ≤ j)) := o_cmpI op_le
theorem o_gt : OpD X (compareOp .Gt) (dCmpI fun i j => decide (j < i)) := o_cmpI op_gt
theorem o_ge : OpD X (compareOp .GtE) (dCmpI fun i j => decide (j ≤ i)) := o_cmpI op_ge
mutual
def py : D → PyData
  | .non => .none | .bl b => .bool b | .int i => .int i | .str x => .str x
  | .tup ds => .tuple (pyL ds) | .lst ds => .list (pyL ds) | _ => .none
def pyL : List D → List PyData
  | [] => []
  | d :: ds => py d :: pyL ds
end
mutual
def flatD : D → Bool
  | .non => true | .bl _ => true | .int _ => true | .str _ => true
  | .tup ds => flatDs ds | .lst ds => flatDs ds | _ => false
def flatDs : List D → Bool
  | [] => true
  | d :: ds => flatD d && flatDs ds
end
def okD (d : D) : Bool := flatD d && SeqAt.shaped (py d)
mutual
theorem rep_dp {c : Ct} {B : Hp} : ∀ {d : D} {v : V}, flatD d = true → Rep c B d v → Dp c.K B v (py d)
  | .non, v, _, h => by rw [rep_non h]; unfold py; exact .non
  | .bl b, v, _, h => by rw [rep_bl h]; unfold py; exact .bl b
  | .int i, v, _, h => by rw [rep_int h]; unfold py; exact .int i
  | .str x, v, _, h => by rw [rep_str h]; unfold py; exact .str x
  | .tup ds, v, f, h => by
    obtain ⟨a, xs, rfl, h1, h2⟩ := rep_tup h
    unfold flatD at f
    unfold py
    exact .tup h1 (repL_dp f h2)
  | .lst ds, v, f, h => by
    obtain ⟨a, xs, rfl, h1, h2⟩ := rep_lst h
    unfold flatD at f
    unfold py
    exact .lst (SqL.of h1) (repL_dp f h2)
  | .dic _, _, f, _ => by unfold flatD at f; cases f
  | .obj _ _, _, f, _ => by unfold flatD at f; cases f
  | .exc _ _, _, f, _ => by unfold flatD at f; cases f
  | .st, _, f, _ => by unfold flatD at f; cases f
  | .scr _, _, f, _ => by unfold flatD at f; cases f
  | .dtp, _, f, _ => by unfold flatD at f; cases f
theorem repL_dp {c : Ct} {B : Hp} : ∀ {ds : List D} {vs : List V}, flatDs ds = true → RepL c B ds vs → DpAll c.K B vs (pyL ds)
  | [], _, _, h => by unfold RepL at h; rw [h]; unfold pyL; exact .nil
  | d :: ds, _, f, h => by
    unfold RepL at h
    obtain ⟨x, xr, rfl, h1, h2⟩ := h
    unfold flatDs at f
    obtain ⟨f1, f2⟩ := Bool.and_eq_true_iff.mp f
    unfold pyL
    exact .cons (rep_dp f1 h1) (repL_dp f2 h2)
end
def dEq : D → D → (D → Prop) → Prop := fun x y P => okD x = true ∧ okD y = true ∧ P (.bl (PyData.eqv (py x) (py y)))
def dNe : D → D → (D → Prop) → Prop := fun x y P => okD x = true ∧ okD y = true ∧ P (.bl (!PyData.eqv (py x) (py y)))
theorem o_eq (hu : X.A.units + 64 < cLine) : OpD X (compareOp .Eq) dEq := by
  refine ⟨_, op_eqD hu, fun q L H0 B0 σ H s B x y v u P Q t rx ry h r => ?_⟩
  obtain ⟨h1, h2, h⟩ := h
  obtain ⟨f1, g1⟩ := Bool.and_eq_true_iff.mp h1
  obtain ⟨f2, g2⟩ := Bool.and_eq_true_iff.mp h2
  exact ⟨py x, py y, rep_dp f1 (rx.mono t.bs.leH), rep_dp f2 (ry.mono t.bs.leH), g1, g2, R1.val r t bl_rep h⟩
theorem o_ne (hu : X.A.units + 64 < cLine) : OpD X (compareOp .NotEq) dNe := by
  refine ⟨_, op_neD hu, fun q L H0 B0 σ H s B x y v u P Q t rx ry h r => ?_⟩
  obtain ⟨h1, h2, h⟩ := h
  obtain ⟨f1, g1⟩ := Bool.and_eq_true_iff.mp h1
  obtain ⟨f2, g2⟩ := Bool.and_eq_true_iff.mp h2
  exact ⟨py x, py y, rep_dp f1 (rx.mono t.bs.leH), rep_dp f2 (ry.mono t.bs.leH), g1, g2, R1.val r t bl_rep h⟩
def isNon : D → Bool
  | .non => true
  | _ => false
theorem rep_isNon {c : Ct} {B : Hp} : ∀ {d : D} {v : V}, Rep c B d v → decide (v = .non) = isNon d
  | .non, v, h => by rw [rep_non h]; rfl
  | .bl b, v, h => by rw [rep_bl h]; rfl
  | .int i, v, h => by rw [rep_int h]; rfl
  | .str x, v, h => by rw [rep_str h]; rfl
  | .tup ds, v, h => by obtain ⟨a, xs, rfl, _⟩ := rep_tup h; rfl
  | .lst ds, v, h => by obtain ⟨a, xs, rfl, _⟩ := rep_lst h; rfl
  | .dic _, _, h => by unfold Rep at h; obtain ⟨a, xs, rfl, _⟩ := h; rfl
  | .obj _ _, _, h => by unfold Rep at h; obtain ⟨a, C, dx, xs, rfl, _⟩ := h; rfl
  | .exc _ _, _, h => by unfold Rep at h; obtain ⟨a, C, dx, xs, rfl, _⟩ := h; rfl
  | .st, _, h => by unfold Rep at h; obtain ⟨a, g, l, _, rfl⟩ := h; rfl
  | .scr _, _, h => by unfold Rep at h; obtain ⟨a, rfl, _⟩ := h; rfl
  | .dtp, _, h => by unfold Rep at h; obtain ⟨a, kvs, rfl, _⟩ := h; rfl
def dIsN : D → D → (D → Prop) → Prop := fun x y P => match y with
  | .non => P (.bl (isNon x))
  | _ => False
def dNotN : D → D → (D → Prop) → Prop := fun x y P => match y with
  | .non => P (.bl (!isNon x))
  | _ => False
theorem o_isN : OpD X (compareOp .Is) dIsN := by
  refine ⟨_, op_isN, fun q L H0 B0 σ H s B x y v u P Q t rx ry h r => ?_⟩
  unfold dIsN at h
  split at h
  · rw [rep_non ry]
    exact ⟨rfl, by rw [rep_isNon rx]; exact R1.val r t bl_rep h⟩
  · exact h.elim
theorem o_notN : OpD X (compareOp .IsNot) dNotN := by
  refine ⟨_, op_notN, fun q L H0 B0 σ H s B x y v u P Q t rx ry h r => ?_⟩
  unfold dNotN at h
  split at h
  · rw [rep_non ry]
    exact ⟨rfl, by rw [rep_isNon rx]; exact R1.val r t bl_rep h⟩
  · exact h.elim
def dIsB : D → D → (D → Prop) → Prop
  | .bl a, .bl b, P => P (.bl (decide (a = b)))
  | _, _, _ => False
theorem o_isB : OpD X (compareOp .Is) dIsB := by
  refine ⟨_, op_isBl, fun q L H0 B0 σ H s B x y v u P Q t rx ry h r => ?_⟩
  unfold dIsB at h
  split at h
  · rw [rep_bl rx, rep_bl ry]
    exact ⟨_, _, rfl, rfl, R1.val r t bl_rep h⟩
  · exact h.elim
/-- x in a list of data -/
def dIn (neg : Bool) : D → D → (D → Prop) → Prop := fun x y P => match y with
  | .lst ds => okD x = true ∧ okD (.lst ds) = true ∧ P (.bl (if neg then !ds.any fun z => PyData.eqv (py z) (py x) else ds.any fun z => PyData.eqv (py z) (py x)))
  | .tup ds => okD x = true ∧ okD (.tup ds) = true ∧ P (.bl (if neg then !ds.any fun z => PyData.eqv (py z) (py x) else ds.any fun z => PyData.eqv (py z) (py x)))
  | _ => False
/-- in, of a list or a tuple -/
def rInLT (K : PySem.W.Frag) (neg : Bool) : R2 := fun x y H Q => ∃ d ds, Dp K H x d ∧ ((Dp K H y (.list ds) ∧ SeqAt.shaped (.list ds) = true) ∨ (Dp K H y (.tuple ds) ∧ SeqAt.shaped (.tuple ds) = true)) ∧ SeqAt.shaped d = true ∧ Q (.bl (if neg then !ds.any fun z => PyData.eqv z d else ds.any fun z => PyData.eqv z d)) H
theorem op_inLT {X : Cx} (hu : X.A.units + 65 < cLine) : OpR X (compareOp .In) (rInLT X.K false) := by
  intro pins s σ H x y v u Q I rx ry h
  obtain ⟨d, ds, hd, he, sd, q⟩ := h
  obtain ⟨as, r1⟩ := Dp.reads I d x v hd rx
  rcases he with ⟨he, se⟩ | ⟨he, se⟩
  · obtain ⟨bs, r2⟩ := Dp.reads I (.list ds) y u he ry
    exact SeqAt.in_list_reads r2 r1 (SeqAt.canLay_of_shaped se) (SeqAt.canLay_of_shaped sd) (PyProof.Rows.room_in_shaped sd hu) ⟨.bl _, H, I, rfl, q⟩
  · obtain ⟨bs, r2⟩ := Dp.reads I (.tuple ds) y u he ry
    exact SeqAt.in_tuple_reads r2 r1 (SeqAt.canLay_of_shaped se) (SeqAt.canLay_of_shaped sd) (PyProof.Rows.room_in_shaped sd hu) ⟨.bl _, H, I, rfl, q⟩
theorem op_notInLT {X : Cx} (hu : X.A.units + 65 < cLine) : OpR X (compareOp .NotIn) (rInLT X.K true) := by
  intro pins s σ H x y v u Q I rx ry h
  obtain ⟨d, ds, hd, he, sd, q⟩ := h
  obtain ⟨as, r1⟩ := Dp.reads I d x v hd rx
  rcases he with ⟨he, se⟩ | ⟨he, se⟩
  · obtain ⟨bs, r2⟩ := Dp.reads I (.list ds) y u he ry
    exact SeqAt.notIn_list_reads r2 r1 (SeqAt.canLay_of_shaped se) (SeqAt.canLay_of_shaped sd) (PyProof.Rows.room_in_shaped sd hu) ⟨.bl _, H, I, rfl, q⟩
  · obtain ⟨bs, r2⟩ := Dp.reads I (.tuple ds) y u he ry
    exact SeqAt.notIn_tuple_reads r2 r1 (SeqAt.canLay_of_shaped se) (SeqAt.canLay_of_shaped sd) (PyProof.Rows.room_in_shaped sd hu) ⟨.bl _, H, I, rfl, q⟩
theorem pyL_map : ∀ ds : List D, pyL ds = ds.map py
  | [] => by unfold pyL; rfl
  | d :: ds => by unfold pyL; rw [pyL_map ds]; rfl
theorem any_pyL (ds : List D) (p : PyData → Bool) : (pyL ds).any p = ds.any fun z => p (py z) := by
  rw [pyL_map, List.any_map]; rfl
theorem o_in (hu : X.A.units + 65 < cLine) : OpD X (compareOp .In) (dIn false) := by
  refine ⟨_, op_inLT hu, fun q L H0 B0 σ H s B x y v u P Q t rx ry h r => ?_⟩
  unfold dIn at h
  split at h
  · obtain ⟨h1, h2, h⟩ := h
    obtain ⟨f1, g1⟩ := Bool.and_eq_true_iff.mp h1
    obtain ⟨f2, g2⟩ := Bool.and_eq_true_iff.mp h2
    have q2 := rep_dp f2 (ry.mono t.bs.leH)
    have e2 : ∀ ds, py (.lst ds) = .list (pyL ds) := fun ds => by unfold py; rfl
    rw [e2] at q2 g2
    exact ⟨py x, _, rep_dp f1 (rx.mono t.bs.leH), .inl ⟨q2, g2⟩, g1, by rw [any_pyL]; exact R1.val r t bl_rep h⟩
  · obtain ⟨h1, h2, h⟩ := h
    obtain ⟨f1, g1⟩ := Bool.and_eq_true_iff.mp h1
    obtain ⟨f2, g2⟩ := Bool.and_eq_true_iff.mp h2
    have q2 := rep_dp f2 (ry.mono t.bs.leH)
    have e2 : ∀ ds, py (.tup ds) = .tuple (pyL ds) := fun ds => by unfold py; rfl
    rw [e2] at q2 g2
    exact ⟨py x, _, rep_dp f1 (rx.mono t.bs.leH), .inr ⟨q2, g2⟩, g1, by rw [any_pyL]; exact R1.val r t bl_rep h⟩
  · exact h.elim
theorem o_notIn (hu : X.A.units + 65 < cLine) : OpD X (compareOp .NotIn) (dIn true) := by
  refine ⟨_, op_notInLT hu, fun q L H0 B0 σ H s B x y v u P Q t rx ry h r => ?_⟩
  unfold dIn at h
  split at h
  · obtain ⟨h1, h2, h⟩ := h
    obtain ⟨f1, g1⟩ := Bool.and_eq_true_iff.mp h1
    obtain ⟨f2, g2⟩ := Bool.and_eq_true_iff.mp h2
    have q2 := rep_dp f2 (ry.mono t.bs.leH)
    have e2 : ∀ ds, py (.lst ds) = .list (pyL ds) := fun ds => by unfold py; rfl
    rw [e2] at q2 g2
    exact ⟨py x, _, rep_dp f1 (rx.mono t.bs.leH), .inl ⟨q2, g2⟩, g1, by rw [any_pyL]; exact R1.val r t bl_rep h⟩
  · obtain ⟨h1, h2, h⟩ := h
    obtain ⟨f1, g1⟩ := Bool.and_eq_true_iff.mp h1
    obtain ⟨f2, g2⟩ := Bool.and_eq_true_iff.mp h2
    have q2 := rep_dp f2 (ry.mono t.bs.leH)
    have e2 : ∀ ds, py (.tup ds) = .tuple (pyL ds) := fun ds => by unfold py; rfl
    rw [e2] at q2 g2
    exact ⟨py x, _, rep_dp f1 (rx.mono t.bs.leH), .inr ⟨q2, g2⟩, g1, by rw [any_pyL]; exact R1.val r t bl_rep h⟩
  · exact h.elim
/-- a < b < c -/
def dChain (R R' : D → D → (D → Prop) → Prop) (Fa Fb Fc : DF) : DF := fun s P ex => Fa s (fun x s1 => Fb s1 (fun y s2 => R x y fun z => match z with
  | .bl true => Fc s2 (fun w s3 => R' y w fun z' => P z' s3) ex
  | .bl false => P (.bl false) s2
  | _ => False) ex) ex
theorem d_chain {c : Expr} {Fc : DF} {op op' : CmpOp} {R R' : D → D → (D → Prop) → Prop} (ho : OpD X (compareOp op) R) (ho' : OpD X (compareOp op') R') (ha : DPE X W a Fa) (hb : DPE X W b Fb) (hc : DPE X W c Fc)
    (hm : lastMarks [op, op'] [b, c] = false := by with_unfolding_all rfl) : DPE X W (.Compare a [op, op'] [b, c] pos) (dChain R R' Fa Fb Fc) := by
  obtain ⟨r, h1, h2⟩ := ho.ex
  obtain ⟨r', h1', h2'⟩ := ho'.ex
  refine ⟨pe_mono (fun σ H Q ⟨q, L, H0, B0, s, B, P, ex, t, f, rt, e⟩ => ?_) (pe_chain h1 h1' ha.pe hb.pe hc.pe hm)⟩
  refine ⟨q, L, H0, B0, s, B, _, ex, t, f, fun v H1 x s1 B1 t1 l1 r1 p1 => ⟨q, L, H0, B0, s1, B1, _, ex, t1, p1, fun u H2 y s2 B2 t2 l2 r2 p2 => ?_, e.le l1⟩, e⟩
  refine h2 q L H0 B0 σ H2 s2 B2 x y v u _ _ t2 (r1.mono l2) r2 p2 (fun z H3 d s3 B3 t3 l3 r3 ⟨es, p3⟩ => ?_)
  subst es
  try dsimp only at p3
  split at p3
  · rw [rep_bl r3]
    refine ⟨true, rfl, ?_⟩
    refine iteT ⟨q, L, H0, B0, s3, B3, _, ex, t3, p3, fun w H4 dw s4 B4 t4 l4 r4 p4 => ?_, e.le ((l1.trans l2).trans l3)⟩
    exact h2' q L H0 B0 σ H4 s4 B4 y dw u w _ Q t4 (r2.mono (l3.trans l4)) r4 p4 (fun w H5 d5 s5 B5 t5 l5 r5 ⟨es, p5⟩ => rt w H5 d5 s5 B5 t5 (l1.trans (l2.trans (l3.trans (l4.trans l5)))) r5 (by rw [es]; exact p5))
  · rw [rep_bl r3]
    refine ⟨false, rfl, ?_⟩
    exact iteF (rt _ _ _ _ _ t3 ((l1.trans l2).trans l3) bl_rep p3)
  · exact p3.elim
/-! ### and, or, not as values of truth; tests -/
def dAnd (Fa Fb : DF) : DF := fun s P ex => Fa s (fun x s1 => match x with
  | .bl true => Fb s1 P ex
  | .bl false => P (.bl false) s1
  | _ => False) ex
def dOr (Fa Fb : DF) : DF := fun s P ex => Fa s (fun x s1 => match x with
  | .bl true => P (.bl true) s1
  | .bl false => Fb s1 P ex
  | _ => False) ex
def dNot (Fa : DF) : DF := fun s P ex => Fa s (fun x s1 => match x with
  | .bl k => P (.bl (!k)) s1
  | _ => False) ex
theorem d_one {op} (h : DPE X W a Fa) : DPE X W (.BoolOp op [a] pos) Fa := ⟨pe_one h.pe⟩
theorem d_and {rest : List Expr} (ha : DPE X W a Fa) (hb : DPE X W (.BoolOp .And (b :: rest) pos) Fb) : DPE X W (.BoolOp .And (a :: b :: rest) pos) (dAnd Fa Fb) := by
  refine ⟨pe_mono (fun σ H Q ⟨q, L, H0, B0, s, B, P, ex, t, f, rt, e⟩ => ⟨q, L, H0, B0, s, B, _, ex, t, f, fun v H1 x s1 B1 t1 l1 r1 p1 => ?_, e⟩) (pe_and ha.pe hb.pe)⟩
  try dsimp only at p1
  split at p1
  · rw [rep_bl r1]
    exact ⟨true, rfl, iteT ⟨q, L, H0, B0, s1, B1, P, ex, t1, p1, rt.le l1, e.le l1⟩⟩
  · rw [rep_bl r1]
    exact ⟨false, rfl, iteF (rt _ _ _ _ _ t1 l1 bl_rep p1)⟩
  · exact p1.elim
theorem d_or {rest : List Expr} (ha : DPE X W a Fa) (hb : DPE X W (.BoolOp .Or (b :: rest) pos) Fb) : DPE X W (.BoolOp .Or (a :: b :: rest) pos) (dOr Fa Fb) := by
  refine ⟨pe_mono (fun σ H Q ⟨q, L, H0, B0, s, B, P, ex, t, f, rt, e⟩ => ⟨q, L, H0, B0, s, B, _, ex, t, f, fun v H1 x s1 B1 t1 l1 r1 p1 => ?_, e⟩) (pe_or ha.pe hb.pe)⟩
  try dsimp only at p1
  split at p1
  · rw [rep_bl r1]
    exact ⟨true, rfl, iteT (rt _ _ _ _ _ t1 l1 bl_rep p1)⟩
  · rw [rep_bl r1]
    exact ⟨false, rfl, iteF ⟨q, L, H0, B0, s1, B1, P, ex, t1, p1, rt.le l1, e.le l1⟩⟩
  · exact p1.elim
theorem d_not (ha : DPE X W a Fa) : DPE X W (.UnaryOp .Not a pos) (dNot Fa) := by
  refine ⟨pe_mono (fun σ H Q ⟨q, L, H0, B0, s, B, P, ex, t, f, rt, e⟩ => ⟨q, L, H0, B0, s, B, _, ex, t, f, fun v H1 x s1 B1 t1 l1 r1 p1 => ?_, e⟩) (pe_not ha.pe)⟩
  try dsimp only at p1
  split at p1
  · rw [rep_bl r1]
    exact ⟨_, rfl, rt _ _ _ _ _ t1 l1 bl_rep p1⟩
  · exact p1.elim
/-- a value as a test -/
def dTest (F : DF) : DFT := fun s P ex => F s (fun x s1 => match x with
  | .bl k => P k s1
  | _ => False) ex
theorem d_test (ha : DPE X W a Fa) (he : ∀ whole, isTrue a X.env whole = (do let v ← whole; standAt a.pos; holding [v] (truthy v)) := by intro _; rfl) : DPT X W a (dTest Fa) := by
  refine ⟨pt_mono (fun σ H Q ⟨q, L, H0, B0, s, B, P, ex, t, f, rt, e⟩ => ⟨q, L, H0, B0, s, B, _, ex, t, f, fun v H1 x s1 B1 t1 l1 r1 p1 => ?_, e⟩) (pt_val ha.pe he)⟩
  try dsimp only at p1
  split at p1
  · rw [rep_bl r1]
    exact ⟨_, rfl, rt _ _ _ _ t1 l1 p1⟩
  · exact p1.elim
theorem d_cmpT {op : CmpOp} {R : D → D → (D → Prop) → Prop} (ho : OpD X (compareOp op) R) (ha : DPE X W a Fa) (hb : DPE X W b Fb) (hm : behindInMarks op b = false) : DPT X W (.Compare a [op] [b] pos) (dTest (dOp R Fa Fb)) := by
  obtain ⟨r, h1, h2⟩ := ho.ex
  refine ⟨pt_mono (fun σ H Q ⟨q, L, H0, B0, s, B, P, ex, t, f, rt, e⟩ => ?_) (pt_cmpR h1 ha.pe hb.pe hm)⟩
  refine lft_op (W := W) h2 σ H _ ⟨q, L, H0, B0, s, B, _, ex, t, f, fun v H1 x s1 B1 t1 l1 r1 p1 => ?_, e⟩
  try dsimp only at p1
  split at p1
  · rw [rep_bl r1]
    exact ⟨_, rfl, rt _ _ _ _ t1 l1 p1⟩
  · exact p1.elim
def tAndD (Fa Fb : DFT) : DFT := fun s P ex => Fa s (fun k s1 => if k = true then Fb s1 P ex else P false s1) ex
def tOrD (Fa Fb : DFT) : DFT := fun s P ex => Fa s (fun k s1 => if k = true then P true s1 else Fb s1 P ex) ex
def tNotD (Fa : DFT) : DFT := fun s P ex => Fa s (fun k s1 => P (!k) s1) ex
theorem d_tnot {F : DFT} (ha : DPT X W a F) : DPT X W (.UnaryOp .Not a pos) (tNotD F) :=
  ⟨pt_mono (fun σ H Q ⟨q, L, H0, B0, s, B, P, ex, t, f, rt, e⟩ => ⟨q, L, H0, B0, s, B, _, ex, t, f, fun k H1 s1 B1 t1 l1 p1 => rt _ _ _ _ t1 l1 p1, e⟩) (pt_not ha.pt)⟩
structure DPW (X : Cx) (W : WX) (e : Expr) (F : DFT) : Prop where pw : PW X e (LftT X W F)
theorem DPW.pt {F : DFT} (h : DPW X W e F) : DPT X W e F := ⟨h.pw.pt⟩
theorem pw_mono {e : Expr} {t t' : TT} (h : ∀ σ H Q, t' σ H Q → t σ H Q) (p : PW X e t) : PW X e t' := ⟨fun wh pins s σ H Q I q => p.run wh pins s σ H Q I (h σ H Q q)⟩
theorem d_tand1 {F : DFT} (h : DPT X W a F) : DPW X W (.BoolOp .And [a] pos) F := ⟨pw_and1 h.pt⟩
theorem d_tor1 {F : DFT} (h : DPT X W a F) : DPW X W (.BoolOp .Or [a] pos) F := ⟨pw_or1 h.pt⟩
theorem d_tand {Ga Gb : DFT} {rest : List Expr} (ha : DPT X W a Ga) (hb : DPW X W (.BoolOp .And (b :: rest) pos) Gb) : DPW X W (.BoolOp .And (a :: b :: rest) pos) (tAndD Ga Gb) := by
  refine ⟨pw_mono (fun σ H Q ⟨q, L, H0, B0, s, B, P, ex, t, f, rt, e⟩ => ⟨q, L, H0, B0, s, B, _, ex, t, f, fun k H1 s1 B1 t1 l1 p1 => ?_, e⟩) (pw_and ha.pt hb.pw)⟩
  cases k with
  | true => exact iteT ⟨q, L, H0, B0, s1, B1, P, ex, t1, p1, rt.le l1, e.le l1⟩
  | false => exact iteF (rt _ _ _ _ t1 l1 p1)
theorem d_tor {Ga Gb : DFT} {rest : List Expr} (ha : DPT X W a Ga) (hb : DPW X W (.BoolOp .Or (b :: rest) pos) Gb) : DPW X W (.BoolOp .Or (a :: b :: rest) pos) (tOrD Ga Gb) := by
  refine ⟨pw_mono (fun σ H Q ⟨q, L, H0, B0, s, B, P, ex, t, f, rt, e⟩ => ⟨q, L, H0, B0, s, B, _, ex, t, f, fun k H1 s1 B1 t1 l1 p1 => ?_, e⟩) (pw_or ha.pt hb.pw)⟩
  cases k with
  | true => exact iteT (rt _ _ _ _ t1 l1 p1)
  | false => exact iteF ⟨q, L, H0, B0, s1, B1, P, ex, t1, p1, rt.le l1, e.le l1⟩
def dIfE (Ft : DFT) (Fa Fb : DF) : DF := fun s P ex => Ft s (fun k s1 => if k = true then Fa s1 P ex else Fb s1 P ex) ex
theorem d_ifE {c : Expr} {Ft : DFT} (hc : DPT X W c Ft) (ha : DPE X W a Fa) (hb : DPE X W b Fb) : DPE X W (.IfExp c a b pos) (dIfE Ft Fa Fb) := by
  refine ⟨pe_mono (fun σ H Q ⟨q, L, H0, B0, s, B, P, ex, t, f, rt, e⟩ => ⟨q, L, H0, B0, s, B, _, ex, t, f, fun k H1 s1 B1 t1 l1 p1 => ?_, e⟩) (pe_ifExp hc.pt ha.pe hb.pe)⟩
  cases k with
  | true => exact iteT ⟨q, L, H0, B0, s1, B1, P, ex, t1, p1, rt.le l1, e.le l1⟩
  | false => exact iteF ⟨q, L, H0, B0, s1, B1, P, ex, t1, p1, rt.le l1, e.le l1⟩
/-! ### arguments, displays -/
def aNil : DFA := fun s P _ => P [] s
def aCons (F : DF) (G : DFA) : DFA := fun s P ex => F s (fun d s1 => G s1 (fun ds s2 => P (d :: ds) s2) ex) ex
theorem d_nil : DPA X W [] aNil := ⟨pa_mono (fun σ H Q ⟨q, L, H0, B0, s, B, P, ex, t, f, rt, e⟩ => rt [] H [] s B t (Le.refl B) repL_nil f) pa_nil⟩
theorem d_cons {es : List Expr} {G : DFA} (ha : DPE X W e Fa) (hr : DPA X W es G) (hs : starEach (e :: es) X.env = (false, eval e X.env) :: starEach es X.env := by rfl) : DPA X W (e :: es) (aCons Fa G) :=
  ⟨pa_mono (fun σ H Q ⟨q, L, H0, B0, s, B, P, ex, t, f, rt, e⟩ => ⟨q, L, H0, B0, s, B, _, ex, t, f, fun v H1 x s1 B1 t1 l1 r1 p1 => ⟨q, L, H0, B0, s1, B1, _, ex, t1, p1, fun vs H2 ds s2 B2 t2 l2 r2 p2 =>
    rt _ _ _ _ _ t2 (l1.trans l2) (repL_cons (r1.mono l2) r2) p2, e.le l1⟩, e⟩) (pa_cons ha.pe hr.pa hs)⟩
def dTup (G : DFA) : DF := fun s P ex => G s (fun ds s1 => ds.length ≤ 100000 ∧ P (.tup ds) s1) ex
def dLst (G : DFA) : DF := fun s P ex => G s (fun ds s1 => ds.length ≤ 100000 ∧ P (.lst ds) s1) ex
theorem d_tup {x1} {es : List Expr} {G : DFA} (h : DPA X W es G) : DPE X W (.Tuple es x1 pos) (dTup G) :=
  ⟨pe_mono (fun σ H Q ⟨q, L, H0, B0, s, B, P, ex, t, f, rt, e⟩ => ⟨q, L, H0, B0, s, B, _, ex, t, f, fun vs H1 ds s1 B1 t1 l1 r1 p1 => ⟨by rw [repL_len r1]; exact sz p1.1, fun p hp =>
    rt _ _ _ _ _ (t1.alloc hp (fun _ z => by cases z)) (l1.trans (Le.upd (t1.bs.nB hp))) (tup_rep upd_same (r1.mono (Le.upd (t1.bs.nB hp)))) p1.2⟩, e⟩) (pe_tup h.pa)⟩
theorem d_lst {es : List Expr} {G : DFA} (h : DPA X W es G) : DPO X W (.List es pos) (dLst G) :=
  ⟨pe_mono (fun σ H Q ⟨q, L, H0, B0, s, B, P, ex, t, f, rt, e⟩ => ⟨q, L, H0, B0, s, B, _, ex, t, f, fun vs H1 ds s1 B1 t1 l1 r1 p1 => ⟨by rw [repL_len r1]; exact sz p1.1, fun p hp =>
    rt p (.lst vs) H1 (.lst ds) s1 B1 t1 l1 hp ⟨vs, rfl, r1⟩ p1.2⟩, e⟩) (pe_lst h.pa)⟩
/-! ### subscripts, slices -/
def dIx : D → D → (D → Prop) → Prop
  | .tup ds, .int i, P => ∃ d, atI ds i = some d ∧ P d
  | .lst ds, .int i, P => ∃ d, atI ds i = some d ∧ P d
  | _, _, _ => False
theorem repL_atI {c : Ct} {B : Hp} {ds : List D} {xs : List V} {i : Int} {d : D} (r : RepL c B ds xs) (h : atI ds i = some d) : ∃ x, atI xs i = some x ∧ Rep c B d x := by
  unfold atI at h ⊢
  rw [repL_len r]
  cases e : ixN ds.length i with
  | none => rw [e] at h; cases h
  | some j =>
    rw [e] at h
    exact repL_get r h
theorem d_ix (ha : DPE X W a Fa) (hb : DPE X W b Fb) (hs : PlainIx b := by intro _ _; rfl) : DPE X W (.Subscript a b pos) (dOp dIx Fa Fb) := by
  refine ⟨pe_mono (lft_op fun q L H0 B0 σ H s B x y v u P Q t rx ry h r => ?_) (pe_ix ix_seq ha.pe hb.pe hs)⟩
  unfold dIx at h
  split at h
  · obtain ⟨d, h1, h⟩ := h
    obtain ⟨p, xs, rfl, ha, hx⟩ := rep_tup rx
    obtain ⟨z, h2, h3⟩ := repL_atI hx h1
    rw [rep_int ry]
    exact .inr (.inl ⟨p, xs, _, z, rfl, rfl, t.bs.leH.sqT ha, h2, R1.val r t h3 h⟩)
  · obtain ⟨d, h1, h⟩ := h
    obtain ⟨p, xs, rfl, ha, hx⟩ := rep_lst rx
    obtain ⟨z, h2, h3⟩ := repL_atI hx h1
    rw [rep_int ry]
    exact .inl ⟨p, xs, _, z, rfl, rfl, SqL.of (t.bs.leH _ _ ha), h2, R1.val r t h3 h⟩
  · exact h.elim
end
end DL

set_option Elab.async false
set_option linter.all false
set_option maxRecDepth 100000
set_option maxHeartbeats 4000000
namespace DL
open PySem L2
variable [Tb]
section
variable {X : Cx} {W : WX} {a b e : Expr} {es : List Expr} {Fa Fb : DF} {G : DFA} {pos p : Pos}
def hasSl (s : DS) (i : Nat) : Prop := match s.sl[i]? with
  | some (some _) => True
  | _ => False
theorem At.slot {c : Ct} {L : List (Addr × HO)} {H0 B0 H B : Hp} {σ : L2.St} {s : DS} (t : At c L H0 B0 σ H s B) {i : Nat} (h : hasSl s i) : ∃ v, σ[i]? = some (some v) := by
  unfold hasSl at h
  split at h
  · rename_i x e
    cases x with
    | fz d => obtain ⟨v, h1, _⟩ := t.fz i d e; exact ⟨v, h1⟩
    | ow d => obtain ⟨q, o, h1, _⟩ := t.ow i d e; exact ⟨_, h1⟩
  · exact h.elim
/-- the list that slot i owns, at its address -/
theorem At.ownL {c : Ct} {L : List (Addr × HO)} {H0 B0 H B : Hp} {σ : L2.St} {s : DS} (t : At c L H0 B0 σ H s B) {i : Nat} {ds : List D} (h : s.sl[i]? = some (some (.ow (.lst ds)))) :
    ∃ p xs, σ[i]? = some (some (V.ref p)) ∧ H p = some (.lst xs) ∧ RepL c B ds xs := by
  obtain ⟨q, o, h1, h2, h3, h4, xs, e, h5⟩ := t.ow i _ h
  exact ⟨q, xs, h1, by rw [h4, e], h5⟩
/-- an item of what slot i owns (or holds), the slot looked up behind the index -/
def dIxV (i : Nat) (Fb : DF) : DF := fun s P ex => hasSl s i ∧ Fb s (fun k s1 => match s1.sl[i]? with
  | some (some (.ow (.lst ds))) => (match k with | .int z => ∃ d, atI ds z = some d ∧ P d s1 | _ => False)
  | some (some (.fz x)) => dIx x k fun d => P d s1
  | _ => False) ex
theorem d_ixV (i : Nat) {x : Str} (hb : DPE X W b Fb) (hN : X.N[i]? = some x := by rfl) (hv : Vis X.env.scope x := by first | exact Or.inl rfl | exact Or.inr (Or.inl rfl) | exact Or.inr (Or.inr rfl)) (hs : PlainIx b := by intro _ _; rfl) (hd : (x == ("__debug__" : Str)) = false := by decide)
    (hcd : (x == ("__classdict__" : Str)) = false := by decide) : DPE X W (.Subscript (.Name x p) b pos) (dIxV i Fb) := by
  refine ⟨pe_mono (fun σ H Q ⟨q, L, H0, B0, s, B, P, ex, t, f, rt, e⟩ => ?_) (pe_ix ix_seq (pe_var hN hv hd hcd) hb.pe hs)⟩
  obtain ⟨h0, f⟩ := f
  obtain ⟨v, hv⟩ := t.slot h0
  refine ⟨v, hv, q, L, H0, B0, s, B, _, ex, t, f, fun u H1 k s1 B1 t1 l1 r1 p1 => ?_, e⟩
  dsimp only at p1
  split at p1
  · rename_i ds e1
    split at p1
    · obtain ⟨d, h1, h⟩ := p1
      obtain ⟨pp, xs, g1, g2, g3⟩ := t1.ownL e1
      rw [hv] at g1
      cases g1
      obtain ⟨z, h2, h3⟩ := repL_atI g3 h1
      rw [rep_int r1]
      exact .inl ⟨pp, xs, _, z, rfl, rfl, SqL.of g2, h2, rt _ _ _ _ _ t1 l1 h3 h⟩
    · exact p1.elim
  · rename_i y e1
    obtain ⟨v', h1, h2⟩ := t1.fz i y e1
    rw [hv] at h1
    cases h1
    unfold dIx at p1
    split at p1
    · obtain ⟨d, h1, h⟩ := p1
      obtain ⟨pp, xs, rfl, ha, hx⟩ := rep_tup h2
      obtain ⟨z, h2, h3⟩ := repL_atI hx h1
      rw [rep_int r1]
      exact .inr (.inl ⟨pp, xs, _, z, rfl, rfl, t1.bs.leH.sqT ha, h2, rt _ _ _ _ _ t1 l1 h3 h⟩)
    · obtain ⟨d, h1, h⟩ := p1
      obtain ⟨pp, xs, rfl, ha, hx⟩ := rep_lst h2
      obtain ⟨z, h2, h3⟩ := repL_atI hx h1
      rw [rep_int r1]
      exact .inl ⟨pp, xs, _, z, rfl, rfl, SqL.of (t1.bs.leH _ _ ha), h2, rt _ _ _ _ _ t1 l1 h3 h⟩
    · exact p1.elim
  · exact p1.elim
/-! ### slices of tuples and lists -/
abbrev DFO := DS → (Option Int → DS → Prop) → XD → Prop
def RetP (c : Ct) (L : List (Addr × HO)) (H0 B0 : Hp) (σ : L2.St) (B : Hp) (P : Option Int → DS → Prop) (Q : Option Int → Hp → Prop) : Prop := ∀ b H' s' B', At c L H0 B0 σ H' s' B' → Le B B' → P b s' → Q b H'
def LftP (X : Cx) (W : WX) (F : DFO) : TO := fun σ H Q => ∃ q L H0 B0 s B P ex, At (cx X q) L H0 B0 σ H s B ∧ F s P ex ∧ RetP (cx X q) L H0 B0 σ B P Q ∧ Exs (cx X q) L H0 B0 σ B ex W
structure DPP (X : Cx) (W : WX) (e : Option Expr) (F : DFO) : Prop where po : PO X e (LftP X W F)
theorem po_mono {e : Option Expr} {t t' : TO} (h : ∀ σ H Q, t' σ H Q → t σ H Q) (p : PO X e t) : PO X e t' := ⟨fun pins s σ H Q I q => p.run pins s σ H Q I (h σ H Q q)⟩
def oNo : DFO := fun s P _ => P none s
def oAt (F : DF) : DFO := fun s P ex => F s (fun d s1 => match d with | .int i => P (some i) s1 | _ => False) ex
theorem d_oNo : DPP X W none oNo := ⟨po_mono (fun σ H Q ⟨q, L, H0, B0, s, B, P, ex, t, f, rt, e⟩ => rt none H s B t (Le.refl B) f) po_none⟩
theorem d_oAt (h : DPE X W a Fa) : DPP X W (some a) (oAt Fa) := ⟨po_mono (fun σ H Q ⟨q, L, H0, B0, s, B, P, ex, t, f, rt, e⟩ => ⟨q, L, H0, B0, s, B, _, ex, t, f, fun v H1 x s1 B1 t1 l1 r1 p1 => by
  dsimp only at p1
  split at p1
  · rw [rep_int r1]
    exact ⟨_, rfl, rt _ _ _ _ t1 l1 p1⟩
  · exact p1.elim, e⟩) (po_some h.pe)⟩
def cutD (xs : List D) (lo hi : Option Int) : List D := (xs.drop (HT.sIx xs.length 0 lo)).take (HT.sIx xs.length xs.length hi - HT.sIx xs.length 0 lo)
def dSl (F : DF) (Gl Gh : DFO) : DF := fun s P ex => F s (fun x s1 => Gl s1 (fun l s2 => Gh s2 (fun h s3 => match x with
  | .tup ds => P (.tup (cutD ds l h)) s3
  | .lst ds => P (.lst (cutD ds l h)) s3
  | _ => False) ex) ex) ex
theorem repL_cut {c : Ct} {B : Hp} {ds : List D} {xs : List V} (r : RepL c B ds xs) (l h : Option Int) : RepL c B (cutD ds l h) (cutV xs l h) := by
  unfold cutD cutV
  rw [repL_len r]
  exact repL_take _ (repL_drop _ r)
theorem cutD_all {ds : List D} {l h : Option Int} (e : HT.sIx ds.length 0 l = 0 ∧ HT.sIx ds.length ds.length h = ds.length) : cutD ds l h = ds := by
  unfold cutD
  rw [e.1, e.2, List.drop_zero, Nat.sub_zero, List.take_length]
theorem d_sl {lo hi : Option Expr} {Gl Gh : DFO} {p2 : Pos} (he : DPE X W e Fa) (hl : DPP X W lo Gl) (hh : DPP X W hi Gh) : DPE X W (.Subscript e (.Slice lo hi none p2) pos) (dSl Fa Gl Gh) := by
  refine ⟨pe_mono (fun σ H Q ⟨q, L, H0, B0, s, B, P, ex, t, f, rt, e⟩ => ?_) (pe_slice (sl_list.or sl_tupA) he.pe hl.po hh.po)⟩
  refine ⟨q, L, H0, B0, s, B, _, ex, t, f, fun v H1 x s1 B1 t1 l1 r1 p1 => ⟨q, L, H0, B0, s1, B1, _, ex, t1, p1, fun lo H2 s2 B2 t2 l2 p2 => ⟨q, L, H0, B0, s2, B2, _, ex, t2, p2, fun hi H3 s3 B3 t3 l3 p3 => ?_, e.le (l1.trans l2)⟩, e.le l1⟩, e⟩
  have l := l1.trans (l2.trans l3)
  have r := r1.mono (l2.trans l3)
  split at p3
  · obtain ⟨a, xs, rfl, ha, hx⟩ := rep_tup r
    rename_i ds
    refine .inr ⟨a, xs, rfl, t3.bs.leH.sqT ha, fun z => ?_, fun _ pp hp => ?_⟩
    · rw [repL_len hx] at z
      rw [cutD_all z] at p3
      exact rt _ _ _ _ _ t3 l r p3
    · exact rt _ _ _ _ _ (t3.alloc hp (fun _ z => by cases z)) (l.trans (Le.upd (t3.bs.nB hp))) (tup_rep upd_same (repL_cut (hx.mono (Le.upd (t3.bs.nB hp))) _ _)) p3
  · obtain ⟨a, xs, rfl, ha, hx⟩ := rep_lst r
    refine .inl ⟨a, xs, rfl, SqL.of (t3.bs.leH _ _ ha), fun pp hp => ?_⟩
    exact rt _ _ _ _ _ (t3.alloc hp (fun _ z => by cases z)) (l.trans (Le.upd (t3.bs.nB hp))) (lst_rep upd_same (repL_cut (hx.mono (Le.upd (t3.bs.nB hp))) _ _)) p3
  · exact p3.elim
/-! ### built-ins by name -/
structure CallD (X : Cx) (f : Value) (R : List D → (D → Prop) → Prop) : Prop where
  ex : ∃ r : List V → Hp → VK → Prop, CallR X f r ∧ ∀ q L H0 B0 σ H s B xs vs P Q, At (cx X q) L H0 B0 σ H s B → RepL (cx X q) B xs vs → R xs P → R1 (cx X q) L H0 B0 σ B s P Q → r vs H Q
def dCB (R : List D → (D → Prop) → Prop) (G : DFA) : DF := fun s P ex => G s (fun ds s1 => R ds fun d => P d s1) ex
theorem lft_cb {r : List V → Hp → VK → Prop} {R : List D → (D → Prop) → Prop} (h2 : ∀ q L H0 B0 σ H s B xs vs P Q, At (cx X q) L H0 B0 σ H s B → RepL (cx X q) B xs vs → R xs P → R1 (cx X q) L H0 B0 σ B s P Q → r vs H Q) :
    ∀ σ H Q, LftE X W (dCB R G) σ H Q → tCB r (LftA X W G) σ H Q := fun σ H Q ⟨q, L, H0, B0, s, B, P, ex, t, f, rt, e⟩ => ⟨q, L, H0, B0, s, B, _, ex, t, f, fun vs H1 ds s1 B1 t1 l1 r1 p1 =>
  h2 q L H0 B0 σ H1 s1 B1 ds vs _ Q t1 r1 p1 fun w H2 d s2 B2 t2 l2 r2 ⟨es, p2⟩ => rt w H2 d s2 B2 t2 (l1.trans l2) r2 (by rw [es]; exact p2), e⟩
theorem d_callB {id : String} {x : Str} {R : List D → (D → Prop) → Prop} (hc : CallD X (.builtin id) R) (hg : Gl X x) (hm : X.mg x = none) (hv : bootBuiltins x = some (.builtin id)) (ha : DPA X W (e :: es) G) (hn : x ≠ "__name__" := by decide) (hdb : (x == ("__debug__" : Str)) = false := by decide)
    (he : starEach (e :: es) X.env = (false, eval e X.env) :: starEach es X.env := by rfl) (hpl : (backTo pos (starEach es X.env)).any (·.1) = false := by rfl) : DPE X W (.Call (.Name x p) (e :: es) [] pos) (dCB R G) := by
  obtain ⟨r, h1, h2⟩ := hc.ex
  exact ⟨pe_mono (lft_cb h2) (pe_callB h1 hg hm hv ha.pa hn hdb he hpl)⟩
theorem d_callTy {T : String} {x : Str} {R : List D → (D → Prop) → Prop} (hc : CallD X (.type T) R) (hg : Gl X x) (hm : X.mg x = none) (hv : bootBuiltins x = some (.type T)) (ha : DPA X W (e :: es) G) (hn : x ≠ "__name__" := by decide) (hdb : (x == ("__debug__" : Str)) = false := by decide)
    (he : starEach (e :: es) X.env = (false, eval e X.env) :: starEach es X.env := by rfl) (hpl : (backTo pos (starEach es X.env)).any (·.1) = false := by rfl) : DPE X W (.Call (.Name x p) (e :: es) [] pos) (dCB R G) := by
  obtain ⟨r, h1, h2⟩ := hc.ex
  exact ⟨pe_mono (lft_cb h2) (pe_callTy h1 hg hm hv ha.pa hn hdb he hpl)⟩
theorem repL_1 {c : Ct} {B : Hp} {d : D} {vs : List V} (h : RepL c B [d] vs) : ∃ v, vs = [v] ∧ Rep c B d v := by
  unfold RepL at h
  obtain ⟨x, xr, rfl, h1, h2⟩ := h
  unfold RepL at h2
  subst h2
  exact ⟨x, rfl, h1⟩
theorem repL_2 {c : Ct} {B : Hp} {d d2 : D} {vs : List V} (h : RepL c B [d, d2] vs) : ∃ v v2, vs = [v, v2] ∧ Rep c B d v ∧ Rep c B d2 v2 := by
  unfold RepL at h
  obtain ⟨x, xr, rfl, h1, h2⟩ := h
  obtain ⟨y, rfl, h3⟩ := repL_1 h2
  exact ⟨x, y, rfl, h1, h3⟩
def cLen : List D → (D → Prop) → Prop
  | [.tup ds], P => P (.int ds.length)
  | [.lst ds], P => P (.int ds.length)
  | [.str x], P => x.length ≤ 100000 ∧ P (.int x.length)
  | [.scr ns], P => P (.int ns.length)
  | _, _ => False
theorem c_len : CallD X (.builtin "len") cLen := by
  refine ⟨_, call_len, fun q L H0 B0 σ H s B xs vs P Q t rx h r => ?_⟩
  unfold cLen at h
  split at h
  · obtain ⟨v, rfl, h1⟩ := repL_1 rx
    obtain ⟨a, xs, rfl, ha, hx⟩ := rep_tup h1
    exact ⟨_, xs.length, rfl, .inr ⟨xs, t.bs.leH.sqT ha, rfl⟩, by rw [repL_len hx]; exact R1.val r t int_rep h⟩
  · obtain ⟨v, rfl, h1⟩ := repL_1 rx
    obtain ⟨a, xs, rfl, ha, hx⟩ := rep_lst h1
    exact ⟨_, xs.length, rfl, .inl ⟨xs, SqL.of (t.bs.leH _ _ ha), rfl⟩, by rw [repL_len hx]; exact R1.val r t int_rep h⟩
  · obtain ⟨v, rfl, h1⟩ := repL_1 rx
    rw [rep_str h1]
    exact ⟨_, _, rfl, ⟨sz h.1, rfl⟩, R1.val r t int_rep h.2⟩
  · obtain ⟨v, rfl, h1⟩ := repL_1 rx
    unfold Rep at h1
    obtain ⟨a, rfl, h2⟩ := h1
    refine ⟨_, _, rfl, .inl ⟨_, t.bs.leH.sqL h2, rfl⟩, ?_⟩
    rw [List.length_map]
    exact R1.val r t int_rep h
  · exact h.elim
def cAbs : List D → (D → Prop) → Prop
  | [.int i], P => P (.int (if i < 0 then -i else i))
  | _, _ => False
theorem c_abs : CallD X (.builtin "abs") cAbs := by
  refine ⟨_, call_abs, fun q L H0 B0 σ H s B xs vs P Q t rx h r => ?_⟩
  unfold cAbs at h
  split at h
  · obtain ⟨v, rfl, h1⟩ := repL_1 rx
    rw [rep_int h1]
    exact ⟨_, rfl, R1.val r t int_rep h⟩
  · exact h.elim
def cMin2 : List D → (D → Prop) → Prop
  | [.int i, .int j], P => P (.int (if j < i then j else i))
  | _, _ => False
theorem c_min2 (hc : X.calm = true) : CallD X (.builtin "min") cMin2 := by
  refine ⟨_, call_min2 hc, fun q L H0 B0 σ H s B xs vs P Q t rx h r => ?_⟩
  unfold cMin2 at h
  split at h
  · obtain ⟨v, w, rfl, h1, h2⟩ := repL_2 rx
    rw [rep_int h1, rep_int h2]
    exact ⟨_, _, rfl, R1.val r t int_rep h⟩
  · exact h.elim
def cInt : List D → (D → Prop) → Prop
  | [.int i], P => P (.int i)
  | [.bl k], P => P (.int (if k then 1 else 0))
  | _, _ => False
theorem c_int : CallD X (.type "int") cInt := by
  refine ⟨_, call_int1, fun q L H0 B0 σ H s B xs vs P Q t rx h r => ?_⟩
  unfold cInt at h
  split at h
  · obtain ⟨v, rfl, h1⟩ := repL_1 rx
    rw [rep_int h1]
    exact .inl ⟨_, rfl, R1.val r t int_rep h⟩
  · obtain ⟨v, rfl, h1⟩ := repL_1 rx
    rw [rep_bl h1]
    exact .inr ⟨_, rfl, R1.val r t int_rep h⟩
  · exact h.elim
def cTuple : List D → (D → Prop) → Prop
  | [.tup ds], P => P (.tup ds)
  | [.lst ds], P => P (.tup ds)
  | _, _ => False
theorem c_tuple : CallD X (.type "tuple") cTuple := by
  refine ⟨_, call_tuple_of, fun q L H0 B0 σ H s B xs vs P Q t rx h r => ?_⟩
  unfold cTuple at h
  split at h
  · obtain ⟨v, rfl, h1⟩ := repL_1 rx
    obtain ⟨a, xs, rfl, ha, hx⟩ := rep_tup h1
    exact ⟨a, xs, rfl, .inr ⟨t.bs.leH.sqT ha, R1.val r t h1 h⟩⟩
  · obtain ⟨v, rfl, h1⟩ := repL_1 rx
    obtain ⟨a, xs, rfl, ha, hx⟩ := rep_lst h1
    exact ⟨a, xs, rfl, .inl ⟨SqL.of (t.bs.leH _ _ ha), fun l hl => R1.new r t hl (fun _ z => by cases z) (tup_rep upd_same (hx.mono (Le.upd (t.bs.nB hl)))) h⟩⟩
  · exact h.elim
/-- all(xs) of truths -/
def blsOf : List D → Option (List Bool)
  | [] => some []
  | .bl b :: r => (blsOf r).map (b :: ·)
  | _ :: _ => none
theorem repL_bls {c : Ct} {B : Hp} : ∀ {ds : List D} {xs : List V} {bs : List Bool}, blsOf ds = some bs → RepL c B ds xs → xs = bs.map V.bl
  | [], _, bs, e, h => by
    unfold blsOf at e
    cases e
    unfold RepL at h
    exact h
  | d :: ds, _, bs, e, h => by
    unfold RepL at h
    obtain ⟨x, xr, rfl, h1, h2⟩ := h
    unfold blsOf at e
    split at e
    · rename_i q; cases q
    · rename_i b r q
      cases q
      cases e2 : blsOf ds with
      | none => rw [e2] at e; cases e
      | some cs =>
        rw [e2] at e
        cases e
        rw [rep_bl h1, repL_bls e2 h2]
        rfl
    · cases e
def cAll : List D → (D → Prop) → Prop
  | [.lst ds], P => ∃ bs, blsOf ds = some bs ∧ P (.bl (bs.all id))
  | _, _ => False
theorem c_all (h0 : CallR X (.builtin "all") (rAll X.K)) : CallD X (.builtin "all") cAll := by
  refine ⟨_, h0, fun q L H0 B0 σ H s B xs vs P Q t rx h r => ?_⟩
  unfold cAll at h
  split at h
  · obtain ⟨bs, e, h⟩ := h
    obtain ⟨v, rfl, h1⟩ := repL_1 rx
    obtain ⟨a, xs, rfl, ha, hx⟩ := rep_lst h1
    exact ⟨a, bs, rfl, SqL.of (by rw [← repL_bls e hx]; exact t.bs.leH _ _ ha), R1.val r t bl_rep h⟩
  · exact h.elim
/-- list(x): a new list -/
def dListO (F : DF) : DF := fun s P ex => F s (fun d s1 => match d with
  | .tup ds => P (.lst ds) s1
  | .lst ds => P (.lst ds) s1
  | _ => False) ex
theorem d_listO (hm : X.mg "list" = none) (ha : DPE X W a Fa) (hg : Gl X "list" := by rfl) (he : starEach [a] X.env = (false, eval a X.env) :: starEach [] X.env := by rfl) : DPO X W (.Call (.Name "list" p) [a] [] pos) (dListO Fa) := by
  refine ⟨pe_mono (fun σ H Q ⟨q, L, H0, B0, s, B, P, ex, t, f, rt, e⟩ => ?_) (pe_callTy call_list_of hg hm PyProof.Rows.boot_list (pa_cons ha.pe pa_nil he) (by decide) (by decide) he (by rfl))⟩
  refine ⟨q, L, H0, B0, s, B, _, ex, t, f, fun v H1 x s1 B1 t1 l1 r1 p1 => ?_, e⟩
  dsimp only at p1
  split at p1
  · obtain ⟨a, xs, rfl, ha, hx⟩ := rep_tup r1
    exact ⟨a, xs, rfl, .inr (t1.bs.leH.sqT ha), fun l hl => rt l (.lst xs) H1 (.lst _) s1 B1 t1 l1 hl ⟨xs, rfl, hx⟩ p1⟩
  · obtain ⟨a, xs, rfl, ha, hx⟩ := rep_lst r1
    exact ⟨a, xs, rfl, .inl (SqL.of (t1.bs.leH _ _ ha)), fun l hl => rt l (.lst xs) H1 (.lst _) s1 B1 t1 l1 hl ⟨xs, rfl, hx⟩ p1⟩
  · exact p1.elim
/-- a + b of lists: a new list -/
def dCatO (Fa Fb : DF) : DF := fun s P ex => Fa s (fun x s1 => Fb s1 (fun y s2 => match x, y with
  | .lst ds, .lst es => ds.length + es.length ≤ 100000 ∧ P (.lst (ds ++ es)) s2
  | _, _ => False) ex) ex
theorem d_catO (ha : DPE X W a Fa) (hb : DPE X W b Fb) : DPO X W (.BinOp a .Add b pos) (dCatO Fa Fb) := by
  refine ⟨pe_mono (fun σ H Q ⟨q, L, H0, B0, s, B, P, ex, t, f, rt, e⟩ => ?_) (pe_op op_cat ha.pe hb.pe)⟩
  refine ⟨q, L, H0, B0, s, B, _, ex, t, f, fun v H1 x s1 B1 t1 l1 r1 p1 => ⟨q, L, H0, B0, s1, B1, _, ex, t1, p1, fun u H2 y s2 B2 t2 l2 r2 p2 => ?_, e.le l1⟩, e⟩
  dsimp only at p2
  split at p2
  · obtain ⟨a, xs, rfl, ha, hx⟩ := rep_lst (r1.mono l2)
    obtain ⟨b, ys, rfl, hb, hy⟩ := rep_lst r2
    exact ⟨a, b, xs, ys, rfl, rfl, t2.bs.leH _ _ ha, t2.bs.leH _ _ hb, by rw [repL_len hx, repL_len hy]; exact sz p2.1, fun pp hp => rt pp (.lst _) H2 (.lst _) s2 B2 t2 (l1.trans l2) hp ⟨_, rfl, repL_app hy hx⟩ p2.2⟩
  · exact p2.elim
/-! ### isinstance -/
def tyName : D → Option String
  | .non => some "NoneType" | .bl _ => some "bool" | .int _ => some "int" | .str _ => some "str"
  | .tup _ => some "tuple" | .lst _ => some "list" | .dic _ => some "dict" | .dtp => some "dict"
  | _ => none
theorem tyX_of {c : Ct} {B H : Hp} (le : Le B H) : ∀ {d : D} {v : V} {t : String}, tyName d = some t → Rep c B d v → TyX c.K H v (.type t)
  | .non, v, t, e, h => by cases e; rw [rep_non h]; exact .base .non
  | .bl b, v, t, e, h => by cases e; rw [rep_bl h]; exact .base (.bl _)
  | .int i, v, t, e, h => by cases e; rw [rep_int h]; exact .base (.int _)
  | .str x, v, t, e, h => by cases e; rw [rep_str h]; exact .base (.str _)
  | .tup ds, v, t, e, h => by
    cases e
    obtain ⟨a, xs, rfl, ha, hx⟩ := rep_tup h
    rcases le.sqT ha with (h | ⟨o, h⟩) | ⟨o, its, n, h1, h2, _⟩
    · exact .base (.tup h)
    · exact .fTuple h
    · exact .kTuple h1 h2
  | .lst ds, v, t, e, h => by
    cases e
    obtain ⟨a, xs, rfl, ha, hx⟩ := rep_lst h
    exact .base (.lst (le _ _ ha))
  | .dic _, v, t, e, h => by
    cases e
    unfold Rep at h
    obtain ⟨a, xs, rfl, ha, hx⟩ := h
    exact .base (.dK (le _ _ ha))
  | .obj _ _, _, _, e, _ => by cases e
  | .exc _ _, _, _, e, _ => by cases e
  | .st, _, _, e, _ => by cases e
  | .scr _, _, _, e, _ => by cases e
  | .dtp, v, t, e, h => by
    cases e
    unfold Rep at h
    obtain ⟨a, xs, rfl, ha⟩ := h
    exact .base (.dT (le _ _ ha))
def dIsTy (n : String) (F : DF) : DF := fun s P ex => F s (fun d s1 => ∃ t r, tyName d = some t ∧ kitB t n = some r ∧ P (.bl r) s1) ex
theorem d_isTy {n : String} {x : Str} {p2 : Pos} (hm : X.mg "isinstance" = none) (hmx : X.mg x = none) (hv : bootBuiltins x = some (.type n)) (ha : DPE X W a Fa) (hg : Gl X "isinstance" := by rfl) (hgx : Gl X x := by rfl) (hn : x ≠ "__name__" := by decide) (hdb : (x == ("__debug__" : Str)) = false := by decide)
    (he : starEach [a, .Name x p2] X.env = (false, eval a X.env) :: starEach [.Name x p2] X.env := by rfl) (he2 : starEach [.Name x p2] X.env = (false, eval (.Name x p2) X.env) :: starEach [] X.env := by rfl) (hpl : (backTo pos (starEach [.Name x p2] X.env)).any (·.1) = false := by rfl) :
    DPE X W (.Call (.Name "isinstance" p) [a, .Name x p2] [] pos) (dIsTy n Fa) := by
  refine ⟨pe_mono (fun σ H Q ⟨q, L, H0, B0, s, B, P, ex, t, f, rt, e⟩ => ?_) (pe_callB call_isi hg hm (by decide +kernel) (pa_cons ha.pe (pa_cons (pe_bltn (v := .ty n) hgx hmx hv rfl hn hdb) pa_nil he2) he) (by decide) (by decide) he hpl)⟩
  refine ⟨q, L, H0, B0, s, B, _, ex, t, f, fun v H1 x s1 B1 t1 l1 r1 ⟨ty, r, h1, h2, p1⟩ => ?_, e⟩
  exact ⟨v, .ty n, .type ty, .type n, r, rfl, .ty n, tyX_of t1.bs.leH h1 r1, kit_ty h2, rt _ _ _ _ _ t1 l1 bl_rep p1⟩
end
/-! ### own defs: a promise over data -/
abbrev PF := List D → Nat → (Sl → Nat → Prop) → (Str → List (Str × D) → Nat → Prop) → Prop
def spD (K : PySem.W.Frag) (mg : Str → Option Value) (n : Nat) (S : PF) : Sp := fun vs H Q E => ∃ q B ds T post ex, vs.length = n ∧ Bs ⟨K, mg, q⟩ H B H B T ∧ RepL ⟨K, mg, q⟩ B ds vs ∧ S ds T post ex ∧
  (∀ v H' B' d T', Bs ⟨K, mg, q⟩ H B H' B' T' → Rep ⟨K, mg, q⟩ B' d v → post (.fz d) T' → Q v H') ∧
  (∀ p o H' B' d T', Bs ⟨K, mg, q⟩ H B H' B' T' → H' p = none → RepO ⟨K, mg, q⟩ B' d o → post (.ow d) T' → Q (.ref p) (upd H' p o)) ∧
  (∀ n fs cls dd H' B' T', Bs ⟨K, mg, q⟩ H B H' B' T' → ExcR ⟨K, mg, q⟩ B' n fs cls dd → ex n fs T' → E cls dd H')
/-- the def x keeps the promise S (by at most level k) -/
structure Kn (P : Program) (w : World) (K : PySem.W.Frag) (mg : Str → Option Value) (base : Heap) (CX : CXT) (k : Nat) (x : Str) (ps : List Str) (S : PF) : Prop where
  ex : ∃ f fd, FnOk P w K mg base CX k f fd ps (spD K mg ps.length S) ∧ mg x = some (.ref f) ∧ PySem.W.keepIn K (.ref f) = true ∧ Binds K fd ps []
section
variable {X : Cx} {W : WX} {a b e : Expr} {es : List Expr} {Fa Fb : DF} {G : DFA} {pos p : Pos}
abbrev noX : Str → List (Str × D) → Nat → Prop := fun _ _ _ => False
def dCall (S : PF) (n : Nat) (G : DFA) : DF := fun s P ex => G s (fun ds s1 => ds.length = n ∧ S ds s1.T (fun x T' => P x.d (s1.tick T')) noX) ex
def dCallO (S : PF) (n : Nat) (G : DFA) : DF := fun s P ex => G s (fun ds s1 => ds.length = n ∧ S ds s1.T (fun x T' => match x with | .ow d => P d (s1.tick T') | _ => False) noX) ex
/-- what a call hands on -/
theorem sp_of {q : Dr} {L : List (Addr × HO)} {H0 B0 H1 B1 : Hp} {σ : L2.St} {s1 : DS} {vs : List V} {ds : List D} {n : Nat} {S : PF} {Q : VK} {E : XK} {post : Sl → Nat → Prop} {ex : Str → List (Str × D) → Nat → Prop}
    (t : At (cx X q) L H0 B0 σ H1 s1 B1) (r : RepL (cx X q) B1 ds vs) (hl : ds.length = n) (h : S ds s1.T post ex)
    (h1 : ∀ v H' B' d T', At (cx X q) L H0 B0 σ H' (s1.tick T') B' → Le B1 B' → Rep (cx X q) B' d v → post (.fz d) T' → Q v H')
    (h2 : ∀ p o H' B' d T', At (cx X q) L H0 B0 σ H' (s1.tick T') B' → Le B1 B' → H' p = none → RepO (cx X q) B' d o → post (.ow d) T' → Q (.ref p) (upd H' p o))
    (h3 : ∀ m fs cls dd H' B' T', At (cx X q) L H0 B0 σ H' (s1.tick T') B' → Le B1 B' → ExcR (cx X q) B' m fs cls dd → ex m fs T' → E cls dd H') : spD X.K X.mg n S vs H1 Q E :=
  ⟨q, B1, ds, s1.T, post, ex, by rw [repL_len r, hl], t.bs.self, r, h, fun v H' B' d T' b => h1 v H' B' d T' (t.call b) b.leB, fun p o H' B' d T' b => h2 p o H' B' d T' (t.call b) b.leB, fun m fs cls dd H' B' T' b => h3 m fs cls dd H' B' T' (t.call b) b.leB⟩
theorem d_call {k n : Nat} {x : Str} {ps : List Str} {S : PF} (F : Kn X.prog X.w X.K X.mg X.base CX0 k x ps S) (hr : Room k X.A) (ha : DPA X W (e :: es) G) (hn : ps.length = n := by rfl) (hg : Gl X x := by rfl) (hdb : (x == ("__debug__" : Str)) = false := by decide)
    (he : starEach (e :: es) X.env = (false, eval e X.env) :: starEach es X.env := by rfl) (hpl : (backTo pos (starEach es X.env)).any (·.1) = false := by rfl) : DPE X W (.Call (.Name x p) (e :: es) [] pos) (dCall S n G) := by
  subst hn
  obtain ⟨f, fd, h1, h2, h3, h4⟩ := F.ex
  refine ⟨pe_mono (fun σ H Q ⟨q, L, H0, B0, s, B, P, ex, t, f, rt, e⟩ => ?_) (pe_call h1 hr hg h2 h3 h4 .nil pass0 ha.pa hdb he hpl)⟩
  refine ⟨q, L, H0, B0, s, B, _, ex, t, f, fun vs H1 ds s1 B1 t1 l1 r1 p1 => ?_, e⟩
  show spD X.K X.mg ps.length S (vs ++ []) H1 Q E0
  rw [List.append_nil]
  exact sp_of t1 r1 p1.1 p1.2 (fun v H' B' d T' t2 l2 r2 p2 => rt _ _ _ _ _ t2 (l1.trans l2) r2 p2)
    (fun p o H' B' d T' t2 l2 hp ro p2 => rt _ _ _ _ _ (t2.alloc hp ro.ntb) (l1.trans (l2.trans (Le.upd (t2.bs.nB hp)))) ((ro.mono (Le.upd (t2.bs.nB hp))).rep upd_same) p2) (fun _ _ _ _ _ _ _ _ _ _ z => z.elim)
theorem d_callO {k n : Nat} {x : Str} {ps : List Str} {S : PF} (F : Kn X.prog X.w X.K X.mg X.base CX0 k x ps S) (hr : Room k X.A) (ha : DPA X W (e :: es) G) (hn : ps.length = n := by rfl) (hg : Gl X x := by rfl) (hdb : (x == ("__debug__" : Str)) = false := by decide)
    (he : starEach (e :: es) X.env = (false, eval e X.env) :: starEach es X.env := by rfl) (hpl : (backTo pos (starEach es X.env)).any (·.1) = false := by rfl) : DPO X W (.Call (.Name x p) (e :: es) [] pos) (dCallO S n G) := by
  subst hn
  obtain ⟨f, fd, h1, h2, h3, h4⟩ := F.ex
  refine ⟨pe_mono (fun σ H Q ⟨q, L, H0, B0, s, B, P, ex, t, f, rt, e⟩ => ?_) (pe_call h1 hr hg h2 h3 h4 .nil pass0 ha.pa hdb he hpl)⟩
  refine ⟨q, L, H0, B0, s, B, _, ex, t, f, fun vs H1 ds s1 B1 t1 l1 r1 p1 => ?_, e⟩
  show spD X.K X.mg ps.length S (vs ++ []) H1 Q E0
  rw [List.append_nil]
  exact sp_of t1 r1 p1.1 p1.2 (fun v H' B' d T' t2 l2 r2 p2 => p2.elim) (fun p o H' B' d T' t2 l2 hp ro p2 => rt _ _ _ _ _ _ t2 (l1.trans l2) hp ro p2) (fun _ _ _ _ _ _ _ _ _ _ z => z.elim)
end
end DL

set_option Elab.async false
set_option linter.all false
set_option maxRecDepth 100000
set_option maxHeartbeats 4000000
namespace DL
open PySem L2
variable [Tb]
structure DE where
  nx : DS → Prop
  rt : Sl → Nat → Prop
  bk : DS → Prop := fun _ => False
  ct : DS → Prop := fun _ => False
  ex : XD := fun _ _ _ => False
abbrev DG := DE → DS → Prop
/-- the ends over data are the ends over the heap -/
structure ER (c : Ct) (L : List (Addr × HO)) (H0 B0 A : Hp) (E : DE) (W : WX) (D : Ends) : Prop where
  nx : ∀ σ H s B, At c L H0 B0 σ H s B → Le A B → E.nx s → D.nx σ H
  bk : ∀ σ H s B, At c L H0 B0 σ H s B → Le A B → E.bk s → D.bk σ H
  ct : ∀ σ H s B, At c L H0 B0 σ H s B → Le A B → E.ct s → D.ct σ H
  rt : ∀ σ v H s B d, At c L H0 B0 σ H s B → Le A B → Rep c B d v → E.rt (.fz d) s.T → D.rt v H
  ro : ∀ σ p o H s B d, At c L H0 B0 σ H s B → Le A B → H p = none → RepO c B d o → E.rt (.ow d) s.T → D.rt (.ref p) (upd H p o)
  ex : ∀ σ n fs s H B cls dd, At c L H0 B0 σ H s B → Le A B → ExcR c B n fs cls dd → E.ex n fs s → W cls dd σ H
theorem ER.le {c : Ct} {L : List (Addr × HO)} {H0 B0 A A' : Hp} {E : DE} {W : WX} {D : Ends} (l : Le A A') (r : ER c L H0 B0 A E W D) : ER c L H0 B0 A' E W D :=
  ⟨fun σ H s B t k => r.nx σ H s B t (l.trans k), fun σ H s B t k => r.bk σ H s B t (l.trans k), fun σ H s B t k => r.ct σ H s B t (l.trans k), fun σ v H s B d t k => r.rt σ v H s B d t (l.trans k), fun σ p o H s B d t k => r.ro σ p o H s B d t (l.trans k), fun σ n fs s H B cls dd t k => r.ex σ n fs s H B cls dd t (l.trans k)⟩
def LftS (X : Cx) (W : WX) (G : DG) : TS := fun D σ H => ∃ q L H0 B0 s B E, At (cx X q) L H0 B0 σ H s B ∧ G E s ∧ ER (cx X q) L H0 B0 B E W D
structure DPS (X : Cx) (W : WX) (st : Stmt) (G : DG) : Prop where ps : PS X st (LftS X W G)
structure DPSs (X : Cx) (W : WX) (st : List Stmt) (G : DG) : Prop where ps : PSs X st (LftS X W G)
section
variable {X : Cx} {W : WX} {a b e : Expr} {es : List Expr} {Fa Fb : DF} {G G1 G2 : DG} {pos p : Pos} {st : Stmt} {rest : List Stmt}
/-- the wish of an expression is that of its statement -/
theorem ER.exs {c : Ct} {L : List (Addr × HO)} {H0 B0 B : Hp} {σ : L2.St} {E : DE} {D : Ends} (r : ER c L H0 B0 B E W D) : Exs c L H0 B0 σ B E.ex W := fun n fs s' H' B' cls dd t l x h => r.ex σ n fs s' H' B' cls dd t l x h
def gNil : DG := fun E s => E.nx s
def gSeq (G1 G2 : DG) : DG := fun E s => G1 { E with nx := G2 E } s
theorem g_nil : DPSs X W [] gNil := ⟨pss_mono (fun D σ H ⟨q, L, H0, B0, s, B, E, t, g, r⟩ => r.nx σ H s B t (Le.refl B) g) pss_nil⟩
theorem g_one (h : DPS X W st G) : DPSs X W [st] G := ⟨pss_one h.ps⟩
theorem g_cons (h1 : DPS X W st G1) (h2 : DPSs X W rest G2) : DPSs X W (st :: rest) (gSeq G1 G2) :=
  ⟨pss_mono (fun D σ H ⟨q, L, H0, B0, s, B, E, t, g, r⟩ => ⟨q, L, H0, B0, s, B, { E with nx := G2 E }, t, g, ⟨fun σ1 H1 s1 B1 t1 l1 g1 => ⟨q, L, H0, B0, s1, B1, E, t1, g1, r.le l1⟩, r.bk, r.ct, r.rt, r.ro, r.ex⟩⟩) (pss_cons h1.ps h2.ps)⟩
def gPass : DG := fun E s => E.nx s
theorem g_pass : DPS X W (.Pass pos) gPass := ⟨ps_mono (fun D σ H ⟨q, L, H0, B0, s, B, E, t, g, r⟩ => r.nx σ H s B t (Le.refl B) g) ps_pass⟩
def gBreak : DG := fun E s => E.bk s
def gCont : DG := fun E s => E.ct s
theorem g_break : DPS X W (.Break pos) gBreak := ⟨ps_mono (fun D σ H ⟨q, L, H0, B0, s, B, E, t, g, r⟩ => r.bk σ H s B t (Le.refl B) g) ps_break⟩
theorem g_cont : DPS X W (.Continue pos) gCont := ⟨ps_mono (fun D σ H ⟨q, L, H0, B0, s, B, E, t, g, r⟩ => r.ct σ H s B t (Le.refl B) g) ps_continue⟩
/-- x = e -/
def gSet (i : Nat) (F : DF) : DG := fun E s => F s (fun d s1 => E.nx (s1.put i (.fz d))) E.ex
def gSetO (i : Nat) (F : DF) : DG := fun E s => F s (fun d s1 => E.nx (s1.put i (.ow d))) E.ex
theorem g_set {i : Nat} {x : Str} {pos' : Pos} (hN : X.N.Nodup) (he : DPE X W e Fa) (hi : X.N[i]? = some x := by rfl) (hx : Loc X.env.scope x := by first | exact Or.inl rfl | exact Or.inr rfl) (hs : swapsWith e (some (.Name x pos')) pos.line X.env = pure false := by rfl)
    (hf : X.fn x = true ∨ X.env.scope.names.lookup x = some .local := by first | exact .inl rfl | exact .inr rfl) (hw : swappedStores [.Name x pos'] e X.env = pure none := by rfl) : DPS X W (.Assign [.Name x pos'] e pos) (gSet i Fa) :=
  ⟨ps_mono (fun D σ H ⟨q, L, H0, B0, s, B, E, t, g, r⟩ => ⟨q, L, H0, B0, s, B, _, E.ex, t, g, fun v H1 d s1 B1 t1 l1 r1 p1 => r.nx _ _ _ _ (t1.setFz r1) l1 p1, r.exs⟩) (ps_asg he.pe (pg_name (i := i) hN hi hx hf) hs hw)⟩
theorem g_setO {i : Nat} {x : Str} {pos' : Pos} (hN : X.N.Nodup) (he : DPO X W e Fa) (hi : X.N[i]? = some x := by rfl) (hx : Loc X.env.scope x := by first | exact Or.inl rfl | exact Or.inr rfl) (hs : swapsWith e (some (.Name x pos')) pos.line X.env = pure false := by rfl)
    (hf : X.fn x = true ∨ X.env.scope.names.lookup x = some .local := by first | exact .inl rfl | exact .inr rfl) (hw : swappedStores [.Name x pos'] e X.env = pure none := by rfl) : DPS X W (.Assign [.Name x pos'] e pos) (gSetO i Fa) :=
  ⟨ps_mono (fun D σ H ⟨q, L, H0, B0, s, B, E, t, g, r⟩ => ⟨q, L, H0, B0, s, B, _, E.ex, t, g, fun pp o H1 d s1 B1 t1 l1 hp ro p1 => r.nx _ _ _ _ (t1.setOw hp ro) l1 p1, r.exs⟩) (ps_asg he.pe (pg_name (i := i) hN hi hx hf) hs hw)⟩
/-- e alone -/
def gDrop (F : DF) : DG := fun E s => F s (fun _ s1 => E.nx s1) E.ex
theorem g_drop (he : DPE X W e Fa) (hs : swapsWith e none pos.line X.env = pure false := by rfl) : DPS X W (.Expr e pos) (gDrop Fa) :=
  ⟨ps_mono (fun D σ H ⟨q, L, H0, B0, s, B, E, t, g, r⟩ => ⟨q, L, H0, B0, s, B, _, E.ex, t, g, fun v H1 d s1 B1 t1 l1 r1 p1 => r.nx _ _ _ _ t1 l1 p1, r.exs⟩) (ps_expr he.pe hs)⟩
def gDoc : DG := fun E s => E.nx s
/-- return e -/
def gRet (F : DF) : DG := fun E s => F s (fun d s1 => E.rt (.fz d) s1.T) E.ex
theorem g_ret (he : DPE X W e Fa) : DPS X W (.Return (some e) pos) (gRet Fa) :=
  ⟨ps_mono (fun D σ H ⟨q, L, H0, B0, s, B, E, t, g, r⟩ => ⟨q, L, H0, B0, s, B, _, E.ex, t, g, fun v H1 d s1 B1 t1 l1 r1 p1 => r.rt _ _ _ _ _ _ t1 l1 r1 p1, r.exs⟩) (ps_ret he.pe)⟩
def gRetN : DG := fun E s => E.rt (.fz .non) s.T
theorem g_retN : DPS X W (.Return none pos) gRetN := ⟨ps_mono (fun D σ H ⟨q, L, H0, B0, s, B, E, t, g, r⟩ => r.rt σ .non H s B .non t (Le.refl B) non_rep g) ps_retN⟩
def gRetO (F : DF) : DG := fun E s => F s (fun d s1 => E.rt (.ow d) s1.T) E.ex
theorem g_retO (he : DPO X W e Fa) : DPS X W (.Return (some e) pos) (gRetO Fa) :=
  ⟨ps_mono (fun D σ H ⟨q, L, H0, B0, s, B, E, t, g, r⟩ => ⟨q, L, H0, B0, s, B, _, E.ex, t, g, fun pp o H1 d s1 B1 t1 l1 hp ro p1 => r.ro _ _ _ _ _ _ _ t1 l1 hp ro p1, r.exs⟩) (ps_ret he.pe)⟩
/-- return of what slot i owns -/
def gRetV (i : Nat) : DG := fun E s => match s.sl[i]? with
  | some (some (.ow d)) => E.rt (.ow d) s.T
  | _ => False
theorem g_retV (i : Nat) {x : Str} (hN : X.N[i]? = some x := by rfl) (hv : Vis X.env.scope x := by first | exact Or.inl rfl | exact Or.inr (Or.inl rfl) | exact Or.inr (Or.inr rfl)) (hd : (x == ("__debug__" : Str)) = false := by decide)
    (hcd : (x == ("__classdict__" : Str)) = false := by decide) : DPS X W (.Return (some (.Name x p)) pos) (gRetV i) := by
  refine ⟨ps_mono (fun D σ H ⟨q, L, H0, B0, s, B, E, t, g, r⟩ => ?_) (ps_ret (pe_var hN hv hd hcd))⟩
  unfold gRetV at g
  split at g
  · rename_i d h
    obtain ⟨pp, o, h1, h2, h3, h4, t2⟩ := t.take h
    refine ⟨_, h1, ?_⟩
    rw [h3]
    exact r.ro _ _ _ _ _ _ _ t2 (Le.refl B) h2 h4 g
  · exact g.elim
/-- if -/
def gIf (F : DFT) (G1 G2 : DG) : DG := fun E s => F s (fun k s1 => if k = true then G1 E s1 else G2 E s1) E.ex
theorem g_if {c : Expr} {F : DFT} {xs ys : List Stmt} (hc : DPT X W c F) (ha : DPSs X W xs G1) (hb : DPSs X W ys G2) : DPS X W (.If c xs ys pos) (gIf F G1 G2) := by
  refine ⟨ps_mono (fun D σ H ⟨q, L, H0, B0, s, B, E, t, g, r⟩ => ⟨q, L, H0, B0, s, B, _, E.ex, t, g, fun k H1 s1 B1 t1 l1 p1 => ?_, r.exs⟩) (ps_if hc.pt ha.ps hb.ps)⟩
  cases k with
  | true => exact iteT ⟨q, L, H0, B0, s1, B1, E, t1, p1, r.le l1⟩
  | false => exact iteF ⟨q, L, H0, B0, s1, B1, E, t1, p1, r.le l1⟩
/-! ### targets -/
abbrev DTg := D → DS → (DS → Prop) → Prop
theorem wipe_len : ∀ (vs : List Nat) (σ : L2.St), (wipe σ vs).length = σ.length
  | [], _ => rfl
  | v :: vs, σ => by
    show ((wipe σ vs).set v none).length = σ.length
    rw [List.length_set, wipe_len vs σ]
theorem wipe_get : ∀ (vs : List Nat) (σ : L2.St) (j : Nat), (wipe σ vs)[j]? = if j ∈ vs then (σ[j]?).map (fun _ => none) else σ[j]?
  | [], σ, j => by simp [wipe]
  | v :: vs, σ, j => by
    show ((wipe σ vs).set v none)[j]? = _
    rw [List.getElem?_set, wipe_get vs σ j, wipe_len]
    by_cases h : v = j
    · subst h
      simp only [if_true, List.mem_cons, true_or]
      by_cases h2 : v < σ.length
      · simp [h2]
      · simp [h2]
    · rw [if_neg h]
      have h' : ¬ j = v := fun z => h z.symm
      simp only [List.mem_cons, h', false_or]
theorem wipe_ext {σ τ : L2.St} {vs : List Nat} (hl : σ.length = τ.length) (h : ∀ j, j ∉ vs → σ[j]? = τ[j]?) : wipe σ vs = wipe τ vs := by
  apply List.ext_getElem?
  intro j
  rw [wipe_get, wipe_get]
  by_cases m : j ∈ vs
  · rw [if_pos m, if_pos m]
    by_cases h2 : j < σ.length
    · have h3 : j < τ.length := by omega
      simp [h2, h3]
    · have h3 : ¬ j < τ.length := by omega
      simp [h2, h3]
  · rw [if_neg m, if_neg m]; exact h j m
theorem wipe_wipe {σ : L2.St} {vs : List Nat} : wipe (wipe σ vs) vs = wipe σ vs := wipe_ext (wipe_len _ _) fun j m => by rw [wipe_get, if_neg m]
theorem wipe_set {σ : L2.St} {vs : List Nat} {i : Nat} {x : Option V} (h : i ∈ vs) : wipe (σ.set i x) vs = wipe σ vs := wipe_ext (by rw [List.length_set]) fun j m => by
  rw [List.getElem?_set_ne]
  intro z
  exact m (z ▸ h)
/-- a target's reading: it stores in the slots vs alone -/
def LftG (X : Cx) (T : DTg) (vs : List Nat) : TG := fun v σ H Q => ∃ q L H0 B0 s B d K, At (cx X q) L H0 B0 σ H s B ∧ Rep (cx X q) B d v ∧ T d s K ∧ (∀ σ' s', At (cx X q) L H0 B0 σ' H s' B → wipe σ' vs = wipe σ vs → K s' → Q σ' H)
structure DPG (X : Cx) (tg : Expr) (T : DTg) (vs : List Nat) : Prop where pg : PG X tg (LftG X T vs)
abbrev DTgs := List D → DS → (DS → Prop) → Prop
def LftGs (X : Cx) (T : DTgs) (ws : List Nat) : TGs := fun v σ H Q => ∃ q L H0 B0 s B d K, At (cx X q) L H0 B0 σ H s B ∧ RepL (cx X q) B d v ∧ T d s K ∧ (∀ σ' s', At (cx X q) L H0 B0 σ' H s' B → wipe σ' ws = wipe σ ws → K s' → Q σ' H)
structure DPGs (X : Cx) (tg : List Expr) (T : DTgs) (vs : List Nat) : Prop where pg : PGs X tg (LftGs X T vs)
theorem pg_mono {tg : Expr} {t t' : TG} (h : ∀ v σ H Q, t' v σ H Q → t v σ H Q) (p : PG X tg t) : PG X tg t' := ⟨fun pins s σ H v u Q I r q => p.run pins s σ H v u Q I r (h v σ H Q q)⟩
theorem pgs_mono {tg : List Expr} {t t' : TGs} (h : ∀ v σ H Q, t' v σ H Q → t v σ H Q) (p : PGs X tg t) : PGs X tg t' := ⟨fun pins s σ H v u Q I r q => p.run pins s σ H v u Q I r (h v σ H Q q)⟩
def tgN (i : Nat) : DTg := fun d s K => K (s.put i (.fz d))
def tgNil : DTgs := fun ds s K => match ds with
  | [] => K s
  | _ => False
def tgCons (T : DTg) (U : DTgs) : DTgs := fun ds s K => match ds with
  | d :: r => T d s fun s1 => U r s1 K
  | _ => False
def tgTup (n : Nat) (U : DTgs) : DTg := fun d s K => match d with
  | .tup ds => ds.length = n ∧ U ds s K
  | _ => False
theorem t_name {vs : List Nat} {i : Nat} {x : Str} (hN : X.N.Nodup) (hm : i ∈ vs := by decide) (hi : X.N[i]? = some x := by rfl) (hx : Loc X.env.scope x := by first | exact Or.inl rfl | exact Or.inr rfl) (hf : X.fn x = true ∨ X.env.scope.names.lookup x = some .local := by first | exact .inl rfl | exact .inr rfl) : DPG X (.Name x pos) (tgN i) vs :=
  ⟨pg_mono (fun v σ H Q ⟨q, L, H0, B0, s, B, d, K, t, r, k, h⟩ => h _ _ (t.setFz r) (wipe_set hm) k) (pg_name (i := i) hN hi hx hf)⟩
theorem t_nil {vs : List Nat} : DPGs X [] tgNil vs := ⟨pgs_mono (fun v σ H Q ⟨q, L, H0, B0, s, B, d, K, t, r, k, h⟩ => by
  unfold tgNil at k
  split at k
  · unfold RepL at r
    exact ⟨r, h _ _ t rfl k⟩
  · exact k.elim) pgs_nil⟩
theorem t_cons {vs : List Nat} {T : DTg} {U : DTgs} (h1 : DPG X e T vs) (h2 : DPGs X es U vs) (hs : (assignEach (e :: es) X.env).map (·.2) = assign e X.env :: (assignEach es X.env).map (·.2) := by rfl) : DPGs X (e :: es) (tgCons T U) vs := by
  refine ⟨pgs_mono (fun v σ H Q ⟨q, L, H0, B0, s, B, d, K, t, r, k, h⟩ => ?_) (pgs_cons h1.pg h2.pg hs)⟩
  unfold tgCons at k
  split at k
  · unfold RepL at r
    obtain ⟨x, xr, rfl, r1, r2⟩ := r
    exact ⟨x, xr, rfl, q, L, H0, B0, s, B, _, _, t, r1, k, fun σ' s' t' w' k' => ⟨q, L, H0, B0, s', B, _, _, t', r2, k', fun σ4 s4 t4 w4 k4 => h σ4 s4 t4 (w4.trans w') k4⟩⟩
  · exact k.elim
theorem t_tup {vs : List Nat} {k0 n : Nat} {U : DTgs} (hc : X.calm = true) (h : DPGs X es U vs) (hn : (assignEach es X.env).length = n := by rfl) (hst : (assignEach es X.env).findIdx? (·.1) = none := by rfl) : DPG X (.Tuple es k0 pos) (tgTup n U) vs := by
  refine ⟨pg_mono (fun v σ H Q ⟨q, L, H0, B0, s, B, d, K, t, r, k, h⟩ => ?_) (pg_tup hc h.pg hn hst)⟩
  unfold tgTup at k
  split at k
  · obtain ⟨a, xs, rfl, ha, hx⟩ := rep_tup r
    exact ⟨a, xs, rfl, t.bs.leH.sqT ha, by rw [repL_len hx]; exact k.1, q, L, H0, B0, s, B, _, _, t, hx, k.2, h⟩
  · exact k.elim
/-- a, b = e -/
def gUnp (T : DTg) (F : DF) : DG := fun E s => F s (fun d s1 => T d s1 E.nx) E.ex
theorem g_unp {vs : List Nat} {tg : Expr} {T : DTg} (ht : DPG X tg T vs) (he : DPE X W e Fa) (hs : swapsWithSole [tg] e pos.line X.env = pure false := by rfl) (hw : swappedStores [tg] e X.env = pure none := by rfl) (h1 : (assignEach [tg] X.env).map (·.2) = [assign tg X.env] := by rfl) : DPS X W (.Assign [tg] e pos) (gUnp T Fa) :=
  ⟨ps_mono (fun D σ H ⟨q, L, H0, B0, s, B, E, t, g, r⟩ => ⟨q, L, H0, B0, s, B, _, E.ex, t, g, fun v H1 d s1 B1 t1 l1 r1 p1 => ⟨q, L, H0, B0, s1, B1, d, _, t1, r1, p1, fun σ' s' t' _ k' => r.nx _ _ _ _ t' l1 k'⟩, r.exs⟩) (ps_asg he.pe ht.pg hs hw h1)⟩
/-- a, b = x, y: no tuple is made -/
def gPar (i j : Nat) (G : DFA) : DG := fun E s => G s (fun ds s1 => match ds with
  | [d, d2] => E.nx ((s1.put i (.fz d)).put j (.fz d2))
  | _ => False) E.ex
theorem g_par {i j : Nat} {x y : Str} {G : DFA} {px py pt : Pos} {kt k2 pt2} (hc : X.calm = true) (hN : X.N.Nodup) (ha : DPA X W [a, b] G) (hij : i ≠ j := by decide) (hi : X.N[i]? = some x := by rfl) (hj : X.N[j]? = some y := by rfl)
    (hx : X.env.scope.names.lookup x = some .local := by rfl) (hy : X.env.scope.names.lookup y = some .local := by rfl)
    (hw : swappedStores [.Tuple [.Name x px, .Name y py] kt pt] (.Tuple [a, b] k2 pt2) X.env = pure (some [x, y]) := by rfl)
    (hs : swapsWithSole [.Tuple [.Name x px, .Name y py] kt pt] (.Tuple [a, b] k2 pt2) pos.line X.env = pure false := by rfl) : DPS X W (.Assign [.Tuple [.Name x px, .Name y py] kt pt] (.Tuple [a, b] k2 pt2) pos) (gPar i j G) := by
  refine ⟨ps_mono (fun D σ H ⟨q, L, H0, B0, s, B, E, t, g, r⟩ => ⟨q, L, H0, B0, s, B, _, E.ex, t, g, fun vs H1 ds s1 B1 t1 l1 r1 p1 => ?_, r.exs⟩) (ps_par hc hN hi hj hij hx hy ha.pa hw hs)⟩
  dsimp only at p1
  split at p1
  · obtain ⟨v, w, rfl, r2, r3⟩ := repL_2 r1
    exact ⟨v, w, rfl, r.nx _ _ _ _ ((t1.setFz r2).setFz r3) l1 p1⟩
  · exact p1.elim
/-! ### what slot i owns, changed -/
/-- x.append(e) -/
def gApp (i : Nat) (F : DF) : DG := fun E s => match s.sl[i]? with
  | some (some (.ow (.lst _))) => F s (fun d s1 => match s1.sl[i]? with
    | some (some (.ow (.lst ds))) => ds.length < 100000 ∧ E.nx (s1.put i (.ow (.lst (ds ++ [d]))))
    | _ => False) E.ex
  | _ => False
theorem g_app (i : Nat) {x : Str} {ap cp : Pos} (he : DPE X W e Fa) (hN : X.N[i]? = some x := by rfl) (hv : Vis X.env.scope x := by first | exact Or.inl rfl | exact Or.inr (Or.inl rfl) | exact Or.inr (Or.inr rfl))
    (hse : starEach [e] X.env = (false, eval e X.env) :: starEach [] X.env := by rfl) (hd : (x == ("__debug__" : Str)) = false := by decide) (hcd : (x == ("__classdict__" : Str)) = false := by decide)
    (hbase : attributeBase (.Name x p) "append" X.env (eval (.Name x p) X.env) = eval (.Name x p) X.env := by rfl)
    (hfew : ((backTo cp (starEach [e] X.env)).all (fun x => !x.1) && (backToKw cp (keywordEach [] X.env)).all (fun x => x.1.isSome) && decide (([e] : List Expr).length + ([] : List Keyword).length + (if ([] : List Keyword).isEmpty then 0 else 1) < 30)) = true := by rfl)
    (hline : (ap.endLine == cp.line) = true := by rfl)
    (hs : swapsWith (.Call (.Attribute (.Name x p) "append" ap) [e] [] cp) none pos.line X.env = pure false := by rfl) : DPS X W (.Expr (.Call (.Attribute (.Name x p) "append" ap) [e] [] cp) pos) (gApp i Fa) := by
  refine ⟨ps_mono (fun D σ H ⟨q, L, H0, B0, s, B, E, t, g, r⟩ => ?_) (ps_expr (pe_bm PySem.F.plainAttrs_list PySem.F.slot_list_append PySem.F.type_list_append mt_append (pe_var hN hv hd hcd) (pa_cons he.pe pa_nil hse) hbase hfew hline hse) hs)⟩
  unfold gApp at g
  split at g
  · rename_i ds0 e0
    obtain ⟨pp, xs, h1, h2, h3⟩ := t.ownL e0
    refine ⟨_, h1, .inl ⟨rfl, xs, SqL.of h2⟩, q, L, H0, B0, s, B, _, E.ex, t, g, fun v H1 d s1 B1 t1 l1 r1 p1 => ?_, r.exs⟩
    dsimp only at p1
    split at p1
    · rename_i ds e1
      obtain ⟨p2, ys, g1, g2, g3⟩ := t1.ownL e1
      rw [h1] at g1
      cases g1
      refine ⟨_, ys, v, rfl, rfl, g2, by rw [repL_len g3]; exact szl p1.1, ?_⟩
      exact r.nx _ _ _ _ (t1.change (d' := .lst _) e1 h1 ⟨_, rfl, repL_app (repL_cons r1 repL_nil) g3⟩) l1 p1.2
    · exact p1.elim
  · exact g.elim
/-- x.pop(e), 0 ≤ e -/
def dPopAt (i : Nat) (F : DF) : DF := fun s P ex => match s.sl[i]? with
  | some (some (.ow (.lst _))) => F s (fun d s1 => match s1.sl[i]?, d with
    | some (some (.ow (.lst ds))), .int z => 0 ≤ z ∧ z < ds.length ∧ ds.length ≤ 100000 ∧ ∀ y, ds[z.toNat]? = some y → P y (s1.put i (.ow (.lst (ds.eraseIdx z.toNat))))
    | _, _ => False) ex
  | _ => False
theorem d_popAt (i : Nat) {x : Str} {ap : Pos} (he : DPE X W e Fa) (hN : X.N[i]? = some x := by rfl) (hv : Vis X.env.scope x := by first | exact Or.inl rfl | exact Or.inr (Or.inl rfl) | exact Or.inr (Or.inr rfl))
    (hse : starEach [e] X.env = (false, eval e X.env) :: starEach [] X.env := by rfl) (hd : (x == ("__debug__" : Str)) = false := by decide) (hcd : (x == ("__classdict__" : Str)) = false := by decide)
    (hbase : attributeBase (.Name x p) "pop" X.env (eval (.Name x p) X.env) = eval (.Name x p) X.env := by rfl)
    (hfew : ((backTo pos (starEach [e] X.env)).all (fun x => !x.1) && (backToKw pos (keywordEach [] X.env)).all (fun x => x.1.isSome) && decide (([e] : List Expr).length + ([] : List Keyword).length + (if ([] : List Keyword).isEmpty then 0 else 1) < 30)) = true := by rfl)
    (hline : (ap.endLine == pos.line) = true := by rfl) : DPE X W (.Call (.Attribute (.Name x p) "pop" ap) [e] [] pos) (dPopAt i Fa) := by
  refine ⟨pe_mono (fun σ H Q ⟨q, L, H0, B0, s, B, P, ex, t, f, rt, e⟩ => ?_) (pe_bm PySem.F.plainAttrs_list PySem.F.slot_list_pop PySem.F.type_list_pop mt_popAt (pe_var hN hv hd hcd) (pa_cons he.pe pa_nil hse) hbase hfew hline hse)⟩
  unfold dPopAt at f
  split at f
  · rename_i ds0 e0
    obtain ⟨pp, xs, h1, h2, h3⟩ := t.ownL e0
    refine ⟨_, h1, .inl ⟨rfl, xs, SqL.of h2⟩, q, L, H0, B0, s, B, _, ex, t, f, fun v H1 d s1 B1 t1 l1 r1 p1 => ?_, e⟩
    dsimp only at p1
    split at p1
    · rename_i ds z e1
      obtain ⟨p2, ys, g1, g2, g3⟩ := t1.ownL e1
      rw [h1] at g1
      cases g1
      obtain ⟨k1, k2, k3, k4⟩ := p1
      have hlt : z.toNat < ds.length := by omega
      obtain ⟨w, w1, w2⟩ := repL_get g3 (List.getElem?_eq_getElem hlt)
      rw [rep_int r1]
      refine ⟨_, ys, z, z.toNat, w, rfl, rfl, g2, by omega, by omega, ?_, w1, ?_⟩
      · unfold seqIndex?
        rw [repL_len g3]
        have n1 : ¬ z < 0 := by omega
        simp only [n1, if_false]
        rw [if_pos (by simp only [Bool.and_eq_true, decide_eq_true_eq]; omega)]
      · exact rt w _ _ _ _ (t1.change (d' := .lst _) e1 h1 ⟨_, rfl, repL_era g3⟩) l1 w2 (k4 _ (List.getElem?_eq_getElem hlt))
    · exact p1.elim
  · exact f.elim
end
end DL

set_option Elab.async false
set_option linter.all false
set_option maxRecDepth 100000
set_option maxHeartbeats 4000000
namespace DL
open PySem L2 PyProof.Rows
variable [Tb]
/-! ### what a loop walks, by data -/
def IsIt (c : Ct) (J : It) (items : List D) (B : Hp) : Prop := ∃ (G : Hp → Prop) (Y : Nat → Hp → V → Hp → Prop), Walk J items.length G Y ∧ (∀ H B', Le B B' → Le B' H → G H) ∧
  ∀ i L H0 B0 σ s H B1 x H', At c L H0 B0 σ H s B1 → Le B B1 → i < items.length → Y i H x H' → ∃ d B2, items[i]? = some d ∧ Le B1 B2 ∧ Rep c B2 d x ∧ At c L H0 B0 σ H' s B2
def RetI (c : Ct) (L : List (Addr × HO)) (H0 B0 : Hp) (σ : L2.St) (B : Hp) (P : List D → DS → Prop) (R : It → Hp → Prop) : Prop := ∀ J items H' s' B', At c L H0 B0 σ H' s' B' → Le B B' → IsIt c J items B' → P items s' → R J H'
def LftI (X : Cx) (W : WX) (F : DFA) : TI := fun σ H R => ∃ q L H0 B0 s B P ex, At (cx X q) L H0 B0 σ H s B ∧ F s P ex ∧ RetI (cx X q) L H0 B0 σ B P R ∧ Exs (cx X q) L H0 B0 σ B ex W
structure DPI (X : Cx) (W : WX) (tg iter : Expr) (F : DFA) : Prop where pi : PI X tg iter (LftI X W F)
theorem pi_mono {X : Cx} {tg iter : Expr} {t t' : TI} (h : ∀ σ H Q, t' σ H Q → t σ H Q) (p : PI X tg iter t) : PI X tg iter t' := ⟨fun pins s σ H Q I q => p.run pins s σ H Q I (h σ H Q q)⟩
theorem isIt_list {c : Ct} {a : Addr} {xs : List V} {ds : List D} {B : Hp} (h : SqL c.K B a xs) (r : RepL c B ds xs) : IsIt c (Itl c.K a) ds B := by
  refine ⟨_, _, by rw [← repL_len r]; exact walk_list (xs := xs), fun H B' l1 l2 => (l1.trans l2).sqL h, fun i L H0 B0 σ s H B1 x H' t l hi y => ?_⟩
  obtain ⟨rfl, y⟩ := y
  obtain ⟨d, h1, h2⟩ := repL_gets r y
  exact ⟨d, B1, h1, Le.refl B1, h2.mono l, t⟩
theorem isIt_tup {c : Ct} {a : Addr} {xs : List V} {ds : List D} {B : Hp} (h : SqT c.K B a xs) (r : RepL c B ds xs) : IsIt c (Itt c.K a) ds B := by
  refine ⟨_, _, by rw [← repL_len r]; exact walk_tup (xs := xs), fun H B' l1 l2 => (l1.trans l2).sqT h, fun i L H0 B0 σ s H B1 x H' t l hi y => ?_⟩
  obtain ⟨rfl, y⟩ := y
  obtain ⟨d, h1, h2⟩ := repL_gets r y
  exact ⟨d, B1, h1, Le.refl B1, h2.mono l, t⟩
theorem repL_ints {c : Ct} {B : Hp} : ∀ ns : List Int, RepL c B (ns.map D.int) (ns.map V.int)
  | [] => repL_nil
  | n :: ns => repL_cons int_rep (repL_ints ns)
section
variable {X : Cx} {W : WX} {tg a b e : Expr} {es : List Expr} {Fa Fb : DF} {pos p : Pos}
def iSq (K : PySem.W.Frag) (tl : TE) : TI := fun σ H R => tl σ H fun x H1 => ∃ a, x = .ref a ∧ ((∃ xs, SqL K H1 a xs ∧ R (Itl K a) H1) ∨ ∃ xs, SqT K H1 a xs ∧ R (Itt K a) H1)
/-- any list or tuple -/
theorem pi_sq {l : Expr} {tl : TE} (hl : PE X l tl) : PI X tg l (iSq X.K tl) := by
  constructor
  intro pins s σ H R I h
  refine wpAny_mono (hl.run pins s σ H _ I h) (fun v s1 hv => ?_) (fun _ _ z => z)
  obtain ⟨x, H1, I1, r1, a, e, hh⟩ := hv
  subst e
  cases r1
  have nw : s1.heap.objs.size ≤ s1.heap.objs.size := Nat.le_refl _
  have fp : ∀ b ∈ [s1.heap.objs.size], FpOk X pins H1 b := fun b hb => by
    obtain rfl : b = s1.heap.objs.size := by simpa using hb
    exact I1.fpOk nw (I1.hok.fresh nw)
  rcases hh with ⟨xs, hq, q⟩ | ⟨xs, hq, q⟩
  · obtain ⟨its, rv, pl, hz⟩ := I1.list hq
    exact wpAny_pyIter_list pl.isList ⟨s1.heap.objs.size, [s1.heap.objs.size], _, _, H1, rfl, I1.kept (t' := s1.toks) fun b o e => Heap.get?_push_of_some _ e, turn_list a _, ⟨_, Heap.get?_push_size _ rfl, rfl, rfl⟩, fp, q⟩
  · obtain ⟨its, rv, pl, hz⟩ := I1.tuple hq
    exact wpAny_pyIter_tuple (show s1.heap.IsTuple a its.toArray from pl) ⟨s1.heap.objs.size, [s1.heap.objs.size], _, _, H1, rfl, I1.kept (t' := s1.toks) fun b o e => Heap.get?_push_of_some _ e, turn_tuple a _, ⟨_, Heap.get?_push_size _ rfl, rfl, rfl⟩, fp, q⟩
def itemsOf : D → Option (List D)
  | .tup ds => some ds
  | .lst ds => some ds
  | .scr ns => some (ns.map D.int)
  | _ => none
def iSeq (F : DF) : DFA := fun s P ex => F s (fun d s1 => ∃ ds, itemsOf d = some ds ∧ P ds s1) ex
theorem i_seq (h : DPE X W a Fa) : DPI X W tg a (iSeq Fa) := by
  refine ⟨pi_mono (fun σ H R ⟨q, L, H0, B0, s, B, P, ex, t, f, rt, e⟩ => ⟨q, L, H0, B0, s, B, _, ex, t, f, fun v H1 d s1 B1 t1 l1 r1 ⟨ds, h1, p1⟩ => ?_, e⟩) (pi_sq h.pe)⟩
  cases d with
  | tup es =>
    cases h1
    obtain ⟨a, xs, rfl, ha, hx⟩ := rep_tup r1
    exact ⟨a, rfl, .inr ⟨xs, t1.bs.leH.sqT ha, rt _ _ _ _ _ t1 l1 (isIt_tup ha hx) p1⟩⟩
  | lst es =>
    cases h1
    obtain ⟨a, xs, rfl, ha, hx⟩ := rep_lst r1
    exact ⟨a, rfl, .inl ⟨xs, SqL.of (t1.bs.leH _ _ ha), rt _ _ _ _ _ t1 l1 (isIt_list (SqL.of ha) hx) p1⟩⟩
  | scr ns =>
    cases h1
    unfold Rep at r1
    obtain ⟨a, rfl, h2⟩ := r1
    exact ⟨a, rfl, .inl ⟨_, t1.bs.leH.sqL h2, rt _ _ _ _ _ t1 l1 (isIt_list h2 (repL_ints ns)) p1⟩⟩
  | _ => cases h1
def rangeD (lo : Int) (n : Nat) : List D := (List.range n).map fun i => D.int (lo + (i : Nat))
theorem rangeD_len {lo : Int} {n : Nat} : (rangeD lo n).length = n := by unfold rangeD; rw [List.length_map, List.length_range]
theorem isIt_range {c : Ct} {lo : Int} {n : Nat} {B : Hp} : IsIt c (Itr lo n) (rangeD lo n) B := by
  refine ⟨_, _, by rw [rangeD_len]; exact walk_range, fun _ _ _ _ => trivial, fun i L H0 B0 σ s H B1 x H' t l hi y => ?_⟩
  obtain ⟨rfl, rfl⟩ := y
  rw [rangeD_len] at hi
  exact ⟨.int (lo + (i : Nat)), B1, by unfold rangeD; simp [hi], Le.refl B1, int_rep, t⟩
def iRng1D (F : DF) : DFA := fun s P ex => F s (fun d s1 => match d with
  | .int j => j < 4611686018427387904 ∧ -4611686018427387904 ≤ j ∧ P (rangeD 0 j.toNat) s1
  | _ => False) ex
theorem i_range1 (hm : X.mg "range" = none) (ha : DPE X W a Fa) (hg : Gl X "range" := by rfl) (hs : starEach [a] X.env = [(false, eval a X.env)] := by rfl) : DPI X W tg (.Call (.Name "range" p) [a] [] pos) (iRng1D Fa) := by
  refine ⟨pi_mono (fun σ H R ⟨q, L, H0, B0, s, B, P, ex, t, f, rt, e⟩ => ⟨q, L, H0, B0, s, B, _, ex, t, f, fun v H1 d s1 B1 t1 l1 r1 p1 => ?_, e⟩) (pi_range1 hg hm (pa_cons ha.pe pa_nil hs) hs)⟩
  dsimp only at p1
  split at p1
  · rw [rep_int r1]
    exact ⟨_, rfl, p1.2.1, p1.1, rt _ _ _ _ _ t1 l1 isIt_range p1.2.2⟩
  · exact p1.elim
def iRng2D (Fa Fb : DF) : DFA := fun s P ex => Fa s (fun d s1 => Fb s1 (fun d2 s2 => match d, d2 with
  | .int i, .int j => (i < 4611686018427387904 ∧ -4611686018427387904 ≤ i ∧ j < 4611686018427387904 ∧ -4611686018427387904 ≤ j) ∧ P (rangeD i (j - i).toNat) s2
  | _, _ => False) ex) ex
theorem i_range2 (hm : X.mg "range" = none) (ha : DPE X W a Fa) (hb : DPE X W b Fb) (hg : Gl X "range" := by rfl) (hs : starEach [a, b] X.env = [(false, eval a X.env), (false, eval b X.env)] := by rfl) (hs2 : starEach [b] X.env = [(false, eval b X.env)] := by rfl) :
    DPI X W tg (.Call (.Name "range" p) [a, b] [] pos) (iRng2D Fa Fb) := by
  refine ⟨pi_mono (fun σ H R ⟨q, L, H0, B0, s, B, P, ex, t, f, rt, e⟩ => ⟨q, L, H0, B0, s, B, _, ex, t, f, fun v H1 d s1 B1 t1 l1 r1 p1 => ⟨q, L, H0, B0, s1, B1, _, ex, t1, p1, fun v2 H2 d2 s2 B2 t2 l2 r2 p2 => ?_, e.le l1⟩, e⟩) (pi_range2 hg hm (pa_cons ha.pe (pa_cons hb.pe pa_nil (by rw [hs2]; rfl)) (by rw [hs, hs2])) hs hs2)⟩
  dsimp only at p2
  split at p2
  · obtain ⟨⟨h1, h2, h3, h4⟩, p2⟩ := p2
    rw [rep_int (r1.mono l2), rep_int r2]
    exact ⟨_, _, rfl, ⟨h2, h1, h4, h3⟩, rt _ _ _ _ _ t2 (l1.trans l2) isIt_range p2⟩
  · exact p2.elim
/-! ### for -/
def forD (T : DTg) (G : DG) : List D → DE → DS → Prop
  | [], E, s => E.nx s
  | d :: ds, E, s => T d s fun s1 => G { E with nx := forD T G ds E, ct := forD T G ds E, bk := E.nx } s1
def gFor (I : DFA) (T : DTg) (G : DG) : DG := fun E s => I s (fun ds s1 => forD T G ds E s1) E.ex
theorem drop_get {α : Type} {l : List α} {i : Nat} {x : α} (h : l[i]? = some x) : l.drop i = x :: l.drop (i + 1) := by
  obtain ⟨h1, h2⟩ := List.getElem?_eq_some_iff.mp h
  rw [List.drop_eq_getElem_cons h1, h2]
theorem g_for {vs : List Nat} {I : DFA} {T : DTg} {G : DG} {body : List Stmt} (hp : PassesOwn (model X.prog X.w) X.A X.env X.xe) (hc : X.calm = true) (hi : DPI X W tg a I) (ht : DPG X tg T vs) (hb : DPSs X W body G)
    (hs : ∀ x, foldedSetIterable a X.env x = pure x := by intro _; rfl) : DPS X W (.For tg a body [] pos) (gFor I T G) := by
  refine ⟨ps_mono (fun D σ H ⟨q, L, H0, B0, s, B, E, t, g, r⟩ => ⟨q, L, H0, B0, s, B, _, E.ex, t, g, fun J items H1 s1 B1 t1 l1 it pp => ?_, r.exs⟩) (ps_for hp hc hi.pi ht.pg hb.ps hs)⟩
  obtain ⟨Gi, Y, w, hG, hY⟩ := it
  refine for_it w (fun i σ H => ∃ s B, At (cx X q) L H0 B0 σ H s B ∧ Le B1 B ∧ forD T G (items.drop i) E s) ⟨s1, B1, t1, Le.refl B1, pp⟩ (fun i σ H _ ⟨s2, B2, t2, l2, _⟩ => hG H B2 l2 t2.bs.leH) (fun i x σ2 H2 H3 hi ⟨s2, B2, t2, l2, f2⟩ y => ?_) (fun σ H ⟨s2, B2, t2, l2, f2⟩ => ?_)
  · obtain ⟨d, B3, h1, l3, r3, t3⟩ := hY i L H0 B0 σ2 s2 H2 B2 x H3 t2 l2 hi y
    rw [drop_get h1] at f2
    refine ⟨q, L, H0, B0, s2, B3, d, _, t3, r3, f2, fun σ' s' t' _ g' => ?_⟩
    exact ⟨q, L, H0, B0, s', B3, _, t', g', ⟨fun σ4 H4 s4 B4 t4 l4 n4 => ⟨s4, B4, t4, (l2.trans l3).trans l4, n4⟩, fun σ4 H4 s4 B4 t4 l4 n4 => r.nx _ _ _ _ t4 (((l1.trans l2).trans l3).trans l4) n4, fun σ4 H4 s4 B4 t4 l4 n4 => ⟨s4, B4, t4, (l2.trans l3).trans l4, n4⟩,
      fun σ v H s B d t k => r.rt σ v H s B d t (((l1.trans l2).trans l3).trans k), fun σ p o H s B d t k => r.ro σ p o H s B d t (((l1.trans l2).trans l3).trans k), fun σ n fs s H B cls dd t k => r.ex σ n fs s H B cls dd t (((l1.trans l2).trans l3).trans k)⟩⟩
  · rw [List.drop_length] at f2
    exact r.nx _ _ _ _ t2 (l1.trans l2) f2
/-! ### while -/
def whileD (F : DFT) (G : DG) : Nat → DE → DS → Prop
  | 0, _, _ => False
  | n + 1, E, s => F s (fun k s1 => if k = true then G { E with nx := whileD F G n E, ct := whileD F G n E, bk := E.nx } s1 else E.nx s1) E.ex
def gWhile (F : DFT) (G : DG) : DG := fun E s => ∃ n, whileD F G n E s
theorem g_while {c : Expr} {F : DFT} {G : DG} {body : List Stmt} (hp : PassesOwn (model X.prog X.w) X.A X.env X.xe) (hc : DPT X W c F) (hb : DPSs X W body G) : DPS X W (.While c body [] pos) (gWhile F G) := by
  refine ⟨ps_mono (fun D σ H ⟨q, L, H0, B0, s, B, E, t, ⟨n, g⟩, r⟩ => ?_) (ps_while hp hc.pt hb.ps)⟩
  refine ⟨fun m σ H => ∃ s B', At (cx X q) L H0 B0 σ H s B' ∧ Le B B' ∧ whileD F G m E s, ⟨n, s, B, t, Le.refl B, g⟩, fun m σ H ⟨s1, B1, t1, l1, g1⟩ => ?_⟩
  cases m with
  | zero => exact g1.elim
  | succ m =>
    refine ⟨q, L, H0, B0, s1, B1, _, E.ex, t1, g1, fun k H2 s2 B2 t2 l2 p2 => ?_, r.exs.le l1⟩
    cases k with
    | true =>
      refine iteT ⟨fun σ H => ∃ s B', At (cx X q) L H0 B0 σ H s B' ∧ Le B B' ∧ whileD F G m E s, fun σ' H' z => ⟨m, Nat.lt_succ_self m, z⟩, q, L, H0, B0, s2, B2, _, t2, p2, ?_⟩
      have l := l1.trans l2
      exact ⟨fun σ4 H4 s4 B4 t4 l4 n4 => ⟨s4, B4, t4, l.trans l4, n4⟩, fun σ4 H4 s4 B4 t4 l4 n4 => r.nx _ _ _ _ t4 (l.trans l4) n4, fun σ4 H4 s4 B4 t4 l4 n4 => ⟨s4, B4, t4, l.trans l4, n4⟩,
        fun σ v H s B d t k => r.rt σ v H s B d t (l.trans k), fun σ p o H s B d t k => r.ro σ p o H s B d t (l.trans k), fun σ n fs s H B cls dd t k => r.ex σ n fs s H B cls dd t (l.trans k)⟩
    | false => exact iteF (r.nx _ _ _ _ t2 (l1.trans l2) p2)
end
end DL

set_option Elab.async false
set_option linter.all false
set_option maxRecDepth 100000
set_option maxHeartbeats 4000000
namespace DL
open PySem L2
variable [Tb]
/-! ### list comprehensions -/
def wipeD : List (Option Sl) → List Nat → List (Option Sl)
  | l, [] => l
  | l, v :: vs => (wipeD l vs).set v none
def DS.wipe (s : DS) (vs : List Nat) : DS := ⟨wipeD s.sl vs, s.T⟩
theorem wipeD_len : ∀ (vs : List Nat) (l : List (Option Sl)), (wipeD l vs).length = l.length
  | [], _ => rfl
  | v :: vs, l => by
    show ((wipeD l vs).set v none).length = l.length
    rw [List.length_set, wipeD_len vs l]
theorem wipeD_get : ∀ {vs : List Nat} {l : List (Option Sl)} {j : Nat} {x : Sl}, (wipeD l vs)[j]? = some (some x) → j ∉ vs ∧ l[j]? = some (some x)
  | [], _, _, _, h => ⟨by simp, h⟩
  | v :: vs, l, j, x, h => by
    have h' : ((wipeD l vs).set v none)[j]? = some (some x) := h
    rcases get_set h' with ⟨rfl, q⟩ | ⟨n, q⟩
    · cases q
    · obtain ⟨h1, h2⟩ := wipeD_get q
      exact ⟨fun m => (List.mem_cons.mp m).elim (fun z => n z.symm) h1, h2⟩
section
variable {c : Ct} {L : List (Addr × HO)} {H0 B0 H B : Hp} {σ τ : L2.St} {s : DS}
/-- slots vs forgotten; the slots may stand elsewhere in what is forgotten -/
theorem At.wiped (t : At c L H0 B0 σ H s B) {vs : List Nat} (hl : σ.length = τ.length) (h : ∀ j, j ∉ vs → τ[j]? = σ[j]?) : At c L H0 B0 τ H (s.wipe vs) B := by
  refine ⟨t.bs, by show (wipeD s.sl vs).length ≤ _; rw [wipeD_len, ← hl]; exact t.len, fun i d e => ?_, fun i d e => ?_, fun i j d f p e1 e2 e3 e4 => ?_, fun x hx => ?_⟩
  · obtain ⟨m, e⟩ := wipeD_get e
    obtain ⟨v, h1, h2⟩ := t.fz i d e
    exact ⟨v, (h i m).trans h1, h2⟩
  · obtain ⟨m, e⟩ := wipeD_get e
    obtain ⟨p, o, h1, h2⟩ := t.ow i d e
    exact ⟨p, o, (h i m).trans h1, h2⟩
  · obtain ⟨m1, e1⟩ := wipeD_get e1
    obtain ⟨m2, e2⟩ := wipeD_get e2
    rw [h i m1] at e3
    rw [h j m2] at e4
    exact t.inj i j d f p e1 e2 e3 e4
  · obtain ⟨h1, h2, h3, h4, h5⟩ := t.hold x hx
    refine ⟨h1, h2, h3, h4, fun i d e z => ?_⟩
    obtain ⟨m, e⟩ := wipeD_get e
    rw [h i m] at z
    exact h5 i d e z
theorem At.wipe (t : At c L H0 B0 σ H s B) (vs : List Nat) : At c L H0 B0 (L2.wipe σ vs) H (s.wipe vs) B := t.wiped (wipe_len vs σ).symm fun j m => by rw [wipe_get, if_neg m]
theorem At.unwipe {vs : List Nat} (t : At c L H0 B0 (L2.wipe σ vs) H s B) : At c L H0 B0 σ H (s.wipe vs) B := t.wiped (wipe_len vs σ) fun j m => by rw [wipe_get, if_neg m]
theorem At.holdSet {p : Addr} {o o' : HO} (t : At c ((p, o) :: L) H0 B0 σ H s B) (nc : ∀ q, o ≠ LamX.CodeO p q) (nt : ∀ ps, o' ≠ .tbl ps) (nL : ∀ x ∈ L, x.1 ≠ p) : At c ((p, o') :: L) H0 B0 σ (upd H p o') s B := by
  obtain ⟨h1, h2, t2⟩ := t.let nc nL
  have t3 := t2.holdNew h1 nt
  rw [show upd (Hp.less H p) p o' = upd H p o' from by rw [h2, upd_upd, ← h2]] at t3
  exact t3
end
/-- one turn after another: acc is made so far -/
def lcD (vs : List Nat) (T : DTg) (Ft : DFT) (Fe : DF) : List D → List D → DS → (List D → DS → Prop) → Prop
  | [], acc, s, P => P acc (s.wipe vs)
  | d :: ds, acc, s, P => T d s fun s1 => Ft s1 (fun k s2 => if k = true then Fe s2 (fun y s3 => acc.length < 100000 ∧ lcD vs T Ft Fe ds (acc ++ [y]) (s3.wipe vs) P) (fun _ _ _ => False) else lcD vs T Ft Fe ds acc (s2.wipe vs) P) (fun _ _ _ => False)
def dLc (vs : List Nat) (I : DFA) (T : DTg) (Ft : DFT) (Fe : DF) : DF := fun s P ex => I s (fun ds s1 => lcD vs T Ft Fe ds [] (s1.wipe vs) fun ys s2 => P (.lst ys) s2) ex
abbrev W0 : WX := fun _ _ _ _ => False
structure DPTs (X : Cx) (ifs : List Expr) (F : DFT) : Prop where pts : PTs X ifs (LftT X W0 F)
def tAll : DFT := fun s P _ => P true s
theorem ts_nil {X : Cx} : DPTs X [] tAll := ⟨⟨fun pins s σ H Q I ⟨q, L, H0, B0, s1, B, P, ex, t, f, rt, e⟩ => pts_nil.run pins s σ H Q I (rt true H s1 B t (Le.refl B) f)⟩⟩
theorem ts_one {X : Cx} {e : Expr} {F : DFT} (h : DPT X W0 e F) : DPTs X [e] F := ⟨pts_one h.pt⟩
section
variable {X : Cx} {W : WX} {elt tg iter : Expr} {ifs : List Expr} {scope : Scope} {own : List (Str × Nat)} {pos spos py : Pos} {I : DFA} {T : DTg} {Ft : DFT} {Fe : DF}
theorem lft_lc {vs : List Nat} : ∀ σ H Q, LftO X W (dLc vs I T Ft Fe) σ H Q → tLc (LftI X W I) (LftG X T vs) (LftT X W0 Ft) (LftE X W0 Fe) vs σ H Q := by
  rintro σ H Q ⟨q, L, H0, B0, s, B, P, ex, t, f, rt, e⟩
  refine ⟨q, L, H0, B0, s, B, _, ex, t, f, fun J items H1 s1 B1 t1 l1 it pp => ?_, e⟩
  intro D hD
  obtain ⟨Gi, Y, w, hG, hY⟩ := it
  have nL : ∀ x ∈ L, x.1 ≠ D := fun x hx z => by
    obtain ⟨h1, _⟩ := t1.hold x hx
    rw [z, hD] at h1
    cases h1
  refine lc_it w (fun i H => ∃ s B acc ds, At (cx X q) ((D, .lst acc) :: L) H0 B0 (L2.wipe σ vs) H s B ∧ Le B1 B ∧ RepL (cx X q) B ds acc ∧ lcD vs T Ft Fe (items.drop i) ds s fun ys s2 => P (.lst ys) s2)
    ⟨s1.wipe vs, B1, [], [], (t1.wipe vs).holdNew hD (fun _ z => by cases z), Le.refl B1, repL_nil, pp⟩ (fun i H _ ⟨s2, B2, acc, ds, t2, l2, _⟩ => hG H B2 l2 t2.bs.leH) (fun i x H2 H3 hi ⟨s2, B2, acc, ds, t2, l2, ra, f2⟩ y => ?_) (fun H ⟨s2, B2, acc, ds, t2, l2, ra, f2⟩ => ?_)
  · obtain ⟨d, B3, h1, l3, r3, t3⟩ := hY i _ H0 B0 _ s2 H2 B2 x H3 t2 l2 hi y
    rw [drop_get h1] at f2
    refine ⟨q, _, H0, B0, s2, B3, d, _, t3, r3, f2, fun σ4 s4 t4 w4 f4 => ⟨w4.trans wipe_wipe, q, _, H0, B0, s4, B3, _, _, t4, f4, fun k H5 s5 B5 t5 l5 f5 => ?_, fun _ _ _ _ _ _ _ _ _ _ z => z.elim⟩⟩
    have we : L2.wipe σ4 vs = L2.wipe σ vs := w4.trans wipe_wipe
    cases k with
    | false =>
      refine iteF ⟨s5.wipe vs, B5, acc, ds, ?_, (l2.trans l3).trans l5, ra.mono (l3.trans l5), f5⟩
      rw [← we]
      exact t5.wipe vs
    | true =>
      refine iteT ⟨q, _, H0, B0, s5, B5, _, _, t5, f5, fun v H6 y s6 B6 t6 l6 r6 ⟨hz, f6⟩ => ?_, fun _ _ _ _ _ _ _ _ _ _ z => z.elim⟩
      obtain ⟨g1, _⟩ := t6.hold (D, .lst acc) List.mem_cons_self
      have ra6 := ra.mono ((l3.trans l5).trans l6)
      refine ⟨acc, g1, by rw [repL_len ra6]; exact szl hz, s6.wipe vs, B6, acc ++ [v], ds ++ [y], ?_, ((l2.trans l3).trans l5).trans l6, repL_app (repL_cons r6 repL_nil) ra6, f6⟩
      rw [← we]
      exact (t6.holdSet (fun q z => by unfold LamX.CodeO at z; cases z) (fun _ z => by cases z) nL).wipe vs
  · rw [List.drop_length] at f2
    obtain ⟨h1, h2, t3⟩ := t2.let (fun q z => by unfold LamX.CodeO at z; cases z) nL
    rw [h2]
    exact rt D (.lst acc) _ (.lst ds) (s2.wipe vs) B2 t3.unwipe (l1.trans l2) h1 ⟨acc, rfl, ra⟩ f2
theorem d_lc {vs : List Nat} (hc : X.calm = true) (hN : X.N.Nodup) (hi : DPI X W tg iter I) (ok : BlkOk X.N X.env.scope scope own)
    (hg : ∀ (s : Shared) (H : Hp) (C : Addr) (cl : List (Str × Addr)) (fp : List Addr), DPG (X.blk s H scope (compEnvC scope cl C X.env) fp) tg T vs)
    (ht : ∀ (s : Shared) (H : Hp) (C : Addr) (cl : List (Str × Addr)) (fp : List Addr), DPTs (X.blk s H scope (compEnvC scope cl C X.env) fp) ifs Ft)
    (he : ∀ (s : Shared) (H : Hp) (C : Addr) (cl : List (Str × Addr)) (fp : List Addr), DPE (X.blk s H scope (compEnvC scope cl C X.env) fp) W0 elt Fe) (hs : ∀ x, foldedSetIterable iter X.env x = pure x := by intro _; rfl) (hvs : own.map (·.2) = vs := by rfl) :
    DPO X W (.ListComp elt [⟨tg, iter, ifs, 0⟩] scope pos) (dLc vs I T Ft Fe) := by
  subst hvs
  exact ⟨pe_mono lft_lc (pe_lc hc hN hi.pi ok (fun s H C cl fp => (hg s H C cl fp).pg) (fun s H C cl fp => (ht s H C cl fp).pts) (fun s H C cl fp => (he s H C cl fp).pe) hs)⟩
/-- x = [..] -/
theorem g_setLc {vs : List Nat} {i : Nat} {y : Str} (hc : X.calm = true) (hN : X.N.Nodup) (hi : DPI X W tg iter I) (ok : BlkOk X.N X.env.scope scope own)
    (hg : ∀ (s : Shared) (H : Hp) (C : Addr) (cl : List (Str × Addr)) (fp : List Addr), DPG (X.blk s H scope (compEnvC scope cl C X.env) fp) tg T vs)
    (ht : ∀ (s : Shared) (H : Hp) (C : Addr) (cl : List (Str × Addr)) (fp : List Addr), DPTs (X.blk s H scope (compEnvC scope cl C X.env) fp) ifs Ft)
    (he : ∀ (s : Shared) (H : Hp) (C : Addr) (cl : List (Str × Addr)) (fp : List Addr), DPE (X.blk s H scope (compEnvC scope cl C X.env) fp) W0 elt Fe)
    (hsw : swapsWith (.ListComp elt [⟨tg, iter, ifs, 0⟩] scope pos) (some (.Name y py)) spos.line X.env = pure true) (hy : X.N[i]? = some y := by rfl) (hyl : X.env.scope.names.lookup y = some .local := by rfl) (hs : ∀ x, foldedSetIterable iter X.env x = pure x := by intro _; rfl) (hvs : own.map (·.2) = vs := by rfl) :
    DPS X W (.Assign [.Name y py] (.ListComp elt [⟨tg, iter, ifs, 0⟩] scope pos) spos) (gSetO i (dLc vs I T Ft Fe)) := by
  subst hvs
  exact ⟨ps_mono (fun D σ H ⟨q, L, H0, B0, s, B, E, t, g, r⟩ => lft_lc (W := W) σ H _ ⟨q, L, H0, B0, s, B, _, E.ex, t, g, fun pp o H1 d s1 B1 t1 l1 hp ro p1 => r.nx _ _ _ _ (t1.setOw hp ro) l1 p1, r.exs⟩)
    (ps_setLc hc hN hy hyl hsw hi.pi ok (fun s H C cl fp => (hg s H C cl fp).pg) (fun s H C cl fp => (ht s H C cl fp).pts) (fun s H C cl fp => (he s H C cl fp).pe) hs)⟩
end
/-! ### a def keeps its promise -/
section
variable {P : Program} {w : World} {K : PySem.W.Frag} {mg : Str → Option Value} {base : Heap}
def startD (n : Nat) (ds : List D) (T : Nat) : DS := ⟨(ds.map fun d => some (Sl.fz d)) ++ List.replicate (n - ds.length) none, T⟩
theorem start_at {c : Ct} {H B : Hp} {T : Nat} {N : List Str} {vs : List V} {ds : List D} (b : Bs c H B H B T) (r : RepL c B ds vs) : At c [] H B (L2.start N vs) H (startD N.length ds T) B := by
  have hl := repL_len r
  have get : ∀ i x, (startD N.length ds T).sl[i]? = some (some x) → ∃ (d : D) (v : V), x = Sl.fz d ∧ (L2.start N vs)[i]? = some (some v) ∧ Rep c B d v := fun i x h => by
    unfold startD at h
    dsimp only at h
    by_cases hi : i < ds.length
    · rw [List.getElem?_append_left (by simpa using hi), List.getElem?_map, List.getElem?_eq_getElem hi] at h
      cases h
      obtain ⟨v, h1, h2⟩ := repL_get r (List.getElem?_eq_getElem hi)
      refine ⟨_, v, rfl, ?_, h2⟩
      unfold L2.start
      rw [List.getElem?_append_left (by simp only [List.length_map]; omega), List.getElem?_map, h1]
      rfl
    · rw [List.getElem?_append_right (by simpa using hi), List.getElem?_replicate] at h
      split at h
      · cases h
      · cases h
  refine ⟨b, ?_, fun i d h => ?_, fun i d h => ?_, fun i j d e p h => ?_, fun x hx => absurd hx (by simp)⟩
  · unfold startD L2.start
    simp only [List.length_append, List.length_map, List.length_replicate]
    omega
  · obtain ⟨d', v, e, h1, h2⟩ := get i _ h
    cases e
    exact ⟨v, h1, h2⟩
  · obtain ⟨d', v, e, _⟩ := get i _ h
    cases e
  · obtain ⟨d', v, e, _⟩ := get i _ h
    cases e
/-- what is wanted behind a body -/
def endsOf (post : Sl → Nat → Prop) (ex : Str → List (Str × D) → Nat → Prop) : DE := { nx := fun s => post (.fz .non) s.T, rt := post, ex := fun n fs s => ex n fs s.T }
theorem fn_ok {x qual : Str} {st : Stmt} {f : Addr} {fd : FuncData} {N ps : List Str} {k : Nat} {S : PF} {G : DG} (F : Fun K x qual st f fd) (Sc : FnScope N ps (defScope st))
    (hbody : ∀ (cdv : Value) (A : Around) (outer : List Env) (s : Shared) (H : Hp) (E : XK), Room k (A.deeper (PyProof.Rows.envOfC qual (defScope st) s.heap.objs.size f cdv)) → DPSs (cxOf CX0 P w K mg base N qual (defScope st) f cdv A outer s H E).nox W0 (defBody st) G)
    (hG : ∀ ds T post ex, ds.length = ps.length → S ds T post ex → G (endsOf post (fun _ _ _ => False)) (startD N.length ds T)) : FnOk P w K mg base CX0 (k + 1) f fd ps (spD K mg ps.length S) := by
  refine F.ok Sc (fun vs H Q E h => ?_) (fun cdv A outer s H vs Q E hr h => ⟨_, (hbody cdv A outer s H E hr).ps, ?_⟩)
  · obtain ⟨q, B, ds, T, post, ex, h1, _⟩ := h
    exact h1
  · obtain ⟨q, B, ds, T, post, ex, h1, b, r, hS, c1, c2, c3⟩ := h
    refine ⟨q, [], H, B, _, B, _, start_at b r, hG ds T post ex (by rw [← repL_len r, h1]) hS, ⟨fun σ H s B t l n => c1 _ _ _ _ _ t.bs non_rep n, fun _ _ _ _ _ _ z => z.elim, fun _ _ _ _ _ _ z => z.elim, fun σ v H s B d t l r n => c1 _ _ _ _ _ t.bs r n, fun σ p o H s B d t l hp ro n => c2 _ _ _ _ _ _ t.bs hp ro n, fun _ _ _ _ _ _ _ _ _ _ _ z => z.elim⟩⟩
end
end DL

set_option Elab.async false
set_option linter.all false
set_option maxRecDepth 100000
set_option maxHeartbeats 4000000
theorem L2.Room.units65 {k : Nat} {A : PySem.Around} (r : L2.Room k A) : A.units + 65 < PySem.cLine := by have := r.un; omega
namespace DL
open PySem L2
variable [Tb]
section
variable {X : Cx} {W : WX} {a b e : Expr} {es : List Expr} {Fa Fb Fc : DF} {G G1 G2 : DG} {pos p : Pos}
theorem d_gint {x : Str} {i : Int} (h : ∃ t, X.mg x = some (.int i t)) (hg : Gl X x := by rfl) (hd : (x == ("__debug__" : Str)) = false := by decide) : DPE X W (.Name x pos) (dC (.int i)) := by
  obtain ⟨t, h⟩ := h
  exact d_glob (v := .int i) (fun _ _ => int_rep) hg h ⟨t, rfl⟩ hd
theorem call_all : CallR X (.builtin "all") (rAll X.K) → CallR X (.builtin "all") (rAll X.K) := id
/-- len(x), x what slot i owns -/
def dLenV (i : Nat) : DF := fun s P _ => match s.sl[i]? with
  | some (some (.ow (.lst ds))) => P (.int ds.length) s
  | some (some (.fz (.lst ds))) => P (.int ds.length) s
  | some (some (.fz (.tup ds))) => P (.int ds.length) s
  | _ => False
theorem d_lenV (i : Nat) {x : Str} (hm : X.mg "len" = none) (hg : Gl X "len" := by rfl) (hN : X.N[i]? = some x := by rfl) (hv : Vis X.env.scope x := by first | exact Or.inl rfl | exact Or.inr (Or.inl rfl) | exact Or.inr (Or.inr rfl))
    (hse : starEach [.Name x p] X.env = (false, eval (.Name x p) X.env) :: starEach [] X.env := by rfl) (hpl : (backTo pos (starEach [] X.env)).any (·.1) = false := by rfl) (hd : (x == ("__debug__" : Str)) = false := by decide)
    (hcd : (x == ("__classdict__" : Str)) = false := by decide) {p2 : Pos} : DPE X W (.Call (.Name "len" p2) [.Name x p] [] pos) (dLenV i) := by
  refine ⟨pe_mono (fun σ H Q ⟨q, L, H0, B0, s, B, P, ex, t, f, rt, e⟩ => ?_) (pe_callB call_len_seq hg hm PySem.boot_len (pa_cons (pe_var hN hv hd hcd) pa_nil hse) (by decide) (by decide) hse hpl)⟩
  unfold dLenV at f
  split at f
  · rename_i ds e1
    obtain ⟨pp, xs, h1, h2, h3⟩ := t.ownL e1
    refine ⟨_, h1, pp, xs, rfl, .inl (SqL.of h2), ?_⟩
    rw [repL_len h3]
    exact rt _ _ _ _ _ t (Le.refl B) int_rep f
  · rename_i ds e1
    obtain ⟨v, h1, h2⟩ := t.fz i _ e1
    obtain ⟨a, xs, rfl, ha, hx⟩ := rep_lst h2
    refine ⟨_, h1, a, xs, rfl, .inl (SqL.of (t.bs.leH _ _ ha)), ?_⟩
    rw [repL_len hx]
    exact rt _ _ _ _ _ t (Le.refl B) int_rep f
  · rename_i ds e1
    obtain ⟨v, h1, h2⟩ := t.fz i _ e1
    obtain ⟨a, xs, rfl, ha, hx⟩ := rep_tup h2
    refine ⟨_, h1, a, xs, rfl, .inr (t.bs.leH.sqT ha), ?_⟩
    rw [repL_len hx]
    exact rt _ _ _ _ _ t (Le.refl B) int_rep f
  · exact f.elim
/-- x == [], x != [], x what slot i owns -/
def dEmptyT (i : Nat) (neg : Bool) : DFT := fun s P _ => match s.sl[i]? with
  | some (some (.ow (.lst ds))) => okD (.lst ds) = true ∧ P (if neg then !ds.isEmpty else ds.isEmpty) s
  | _ => False
theorem own_dp {c : Ct} {L : List (Addr × HO)} {H0 B0 H B : Hp} {σ : L2.St} {s : DS} (t : At c L H0 B0 σ H s B) {i : Nat} {ds : List D} (h : s.sl[i]? = some (some (.ow (.lst ds)))) (ok : okD (.lst ds) = true) :
    ∃ p, σ[i]? = some (some (V.ref p)) ∧ Dp c.K H (.ref p) (.list (pyL ds)) ∧ SeqAt.shaped (.list (pyL ds)) = true := by
  obtain ⟨f1, g1⟩ := Bool.and_eq_true_iff.mp ok
  obtain ⟨pp, xs, h1, h2, h3⟩ := t.ownL h
  have e2 : py (.lst ds) = .list (pyL ds) := by unfold py; rfl
  rw [e2] at g1
  unfold flatD at f1
  exact ⟨pp, h1, .lst (SqL.of h2) (repL_dp f1 (h3.mono t.bs.leH)), g1⟩
theorem nil_dp {K : PySem.W.Frag} {H : Hp} {p : Addr} (h : H p = some (.lst [])) : Dp K H (.ref p) (.list []) := .lst (SqL.of h) .nil
theorem eqv_nil (ds : List D) : PyData.eqv (.list (pyL ds)) (.list []) = ds.isEmpty := by
  cases ds with
  | nil => rfl
  | cons d ds => unfold pyL; rfl
theorem Dp.more {K : PySem.W.Frag} {H : Hp} {p : Addr} {o : HO} {ds : List PyData} {v : V} (hp : H p = none) (h : Dp K H v (.list ds)) (hs : DpAll K H [] [] → True) : True := trivial
theorem d_emptyEq (i : Nat) {x : Str} {p1 : Pos} (hu : X.A.units + 64 < cLine) (hN : X.N[i]? = some x := by rfl) (hv : Vis X.env.scope x := by first | exact Or.inl rfl | exact Or.inr (Or.inl rfl) | exact Or.inr (Or.inr rfl)) (hm : behindInMarks .Eq (.List [] p1) = false := by rfl)
    (hd : (x == ("__debug__" : Str)) = false := by decide) (hcd : (x == ("__classdict__" : Str)) = false := by decide) : DPT X W (.Compare (.Name x p) [.Eq] [.List [] p1] pos) (dEmptyT i false) := by
  refine ⟨pt_mono (fun σ H Q ⟨q, L, H0, B0, s, B, P, ex, t, f, rt, e⟩ => ?_) (pt_cmpR (op_eqD hu) (pe_var hN hv hd hcd) (pe_lst pa_nil) hm)⟩
  unfold dEmptyT at f
  split at f
  · rename_i ds e1
    obtain ⟨ok, f⟩ := f
    obtain ⟨pp, h1, _⟩ := own_dp t e1 ok
    refine ⟨_, h1, by show 0 ≤ sizeLine; decide, fun p2 hp => ?_⟩
    have t2 := t.alloc (o := .lst []) hp (fun _ z => by cases z)
    obtain ⟨pp', h1', h2, h3⟩ := own_dp t2 e1 ok
    rw [h1] at h1'
    cases h1'
    refine ⟨_, _, h2, nil_dp upd_same, h3, by decide +kernel, _, rfl, ?_⟩
    rw [eqv_nil]
    exact rt _ _ _ _ t2 (Le.upd (t.bs.nB hp)) f
  · exact f.elim
theorem d_emptyNe (i : Nat) {x : Str} {p1 : Pos} (hu : X.A.units + 64 < cLine) (hN : X.N[i]? = some x := by rfl) (hv : Vis X.env.scope x := by first | exact Or.inl rfl | exact Or.inr (Or.inl rfl) | exact Or.inr (Or.inr rfl)) (hm : behindInMarks .NotEq (.List [] p1) = false := by rfl)
    (hd : (x == ("__debug__" : Str)) = false := by decide) (hcd : (x == ("__classdict__" : Str)) = false := by decide) : DPT X W (.Compare (.Name x p) [.NotEq] [.List [] p1] pos) (dEmptyT i true) := by
  refine ⟨pt_mono (fun σ H Q ⟨q, L, H0, B0, s, B, P, ex, t, f, rt, e⟩ => ?_) (pt_cmpR (op_neD hu) (pe_var hN hv hd hcd) (pe_lst pa_nil) hm)⟩
  unfold dEmptyT at f
  split at f
  · rename_i ds e1
    obtain ⟨ok, f⟩ := f
    obtain ⟨pp, h1, _⟩ := own_dp t e1 ok
    refine ⟨_, h1, by show 0 ≤ sizeLine; decide, fun p2 hp => ?_⟩
    have t2 := t.alloc (o := .lst []) hp (fun _ z => by cases z)
    obtain ⟨pp', h1', h2, h3⟩ := own_dp t2 e1 ok
    rw [h1] at h1'
    cases h1'
    refine ⟨_, _, h2, nil_dp upd_same, h3, by decide +kernel, _, rfl, ?_⟩
    rw [eqv_nil]
    exact rt _ _ _ _ t2 (Le.upd (t.bs.nB hp)) f
  · exact f.elim
/-- x = [..], x frozen -/
theorem g_setLcF {vs : List Nat} {elt tg iter : Expr} {ifs : List Expr} {scope : Scope} {own : List (Str × Nat)} {spos py : Pos} {I : DFA} {T : DTg} {Ft : DFT} {Fe : DF} {i : Nat} {y : Str} (hc : X.calm = true) (hN : X.N.Nodup) (hi : DPI X W tg iter I) (ok : BlkOk X.N X.env.scope scope own)
    (hg : ∀ (s : Shared) (H : Hp) (C : Addr) (cl : List (Str × Addr)) (fp : List Addr), DPG (X.blk s H scope (compEnvC scope cl C X.env) fp) tg T vs)
    (ht : ∀ (s : Shared) (H : Hp) (C : Addr) (cl : List (Str × Addr)) (fp : List Addr), DPTs (X.blk s H scope (compEnvC scope cl C X.env) fp) ifs Ft)
    (he : ∀ (s : Shared) (H : Hp) (C : Addr) (cl : List (Str × Addr)) (fp : List Addr), DPE (X.blk s H scope (compEnvC scope cl C X.env) fp) W0 elt Fe)
    (hsw : swapsWith (.ListComp elt [⟨tg, iter, ifs, 0⟩] scope pos) (some (.Name y py)) spos.line X.env = pure true) (hy : X.N[i]? = some y := by rfl) (hyl : X.env.scope.names.lookup y = some .local := by rfl) (hs : ∀ x, foldedSetIterable iter X.env x = pure x := by intro _; rfl) (hvs : own.map (·.2) = vs := by rfl) :
    DPS X W (.Assign [.Name y py] (.ListComp elt [⟨tg, iter, ifs, 0⟩] scope pos) spos) (gSet i (dLc vs I T Ft Fe)) := by
  subst hvs
  exact ⟨ps_mono (fun D σ H ⟨q, L, H0, B0, s, B, E, t, g, r⟩ => lft_lc (W := W) σ H _ ⟨q, L, H0, B0, s, B, _, E.ex, t, g, fun pp o H1 d s1 B1 t1 l1 hp ro p1 =>
    r.nx _ _ _ _ ((t1.alloc hp ro.ntb).setFz ((ro.mono (Le.upd (t1.bs.nB hp))).rep upd_same)) (l1.trans (Le.upd (t1.bs.nB hp))) p1, r.exs⟩)
    (ps_setLc hc hN hy hyl hsw hi.pi ok (fun s H C cl fp => (hg s H C cl fp).pg) (fun s H C cl fp => (ht s H C cl fp).pts) (fun s H C cl fp => (he s H C cl fp).pe) hs)⟩
/-! ### two names at once, one or both of them own what they get -/
theorem At.held {c : Ct} {L : List (Addr × HO)} {H0 B0 H B : Hp} {σ : L2.St} {s : DS} {p : Addr} {o : HO} (t : At c ((p, o) :: L) H0 B0 σ H s B) : H p = some o := (t.hold _ List.mem_cons_self).1
section
variable {x y : Str} {px py pt : Pos} {kt k2 : Nat} {pt2 : Pos} {i j : Nat}
def gParOO (i j : Nat) (Fa Fb : DF) : DG := fun E s => Fa s (fun d s1 => Fb s1 (fun d2 s2 => E.nx ((s2.put i (.ow d)).put j (.ow d2))) (fun _ _ _ => False)) (fun _ _ _ => False)
def gParOF (i j : Nat) (Fa Fb : DF) : DG := fun E s => Fa s (fun d s1 => Fb s1 (fun d2 s2 => E.nx ((s2.put i (.ow d)).put j (.fz d2))) (fun _ _ _ => False)) (fun _ _ _ => False)
def gParFO (i j : Nat) (Fa Fb : DF) : DG := fun E s => Fa s (fun d s1 => Fb s1 (fun d2 s2 => E.nx ((s2.put i (.fz d)).put j (.ow d2))) (fun _ _ _ => False)) (fun _ _ _ => False)
theorem noE {c : Ct} {L : List (Addr × HO)} {H0 B0 B : Hp} {σ : L2.St} {W : WX} : Exs c L H0 B0 σ B (fun _ _ _ => False) W := fun _ _ _ _ _ _ _ _ _ _ z => z.elim
theorem At.useHeld {c : Ct} {L : List (Addr × HO)} {H0 B0 H B : Hp} {σ : L2.St} {s : DS} {p : Addr} {o : HO} {d : D} (t : At c ((p, o) :: L) H0 B0 σ H s B) (ro : RepO c B d o) (nL : ∀ x ∈ L, x.1 ≠ p) (i : Nat) : At c L H0 B0 (σ.set i (some (.ref p))) H (s.put i (.ow d)) B := by
  obtain ⟨h1, h2, t2⟩ := t.let (fun q => ro.nco p q) nL
  have t3 := t2.setOw (i := i) h1 ro
  rw [← h2] at t3
  exact t3
theorem nL_of {c : Ct} {L : List (Addr × HO)} {H0 B0 H B : Hp} {σ : L2.St} {s : DS} (t : At c L H0 B0 σ H s B) {p : Addr} (hp : H p = none) : ∀ x ∈ L, x.1 ≠ p := fun x hx z => by
  obtain ⟨h1, _⟩ := t.hold x hx
  rw [z, hp] at h1
  cases h1
theorem g_parOO (hc : X.calm = true) (hN : X.N.Nodup) (ha : DPO X W a Fa) (hb : DPO X W b Fb) (hij : i ≠ j := by decide) (hi : X.N[i]? = some x := by rfl) (hj : X.N[j]? = some y := by rfl)
    (hx : X.env.scope.names.lookup x = some .local := by rfl) (hy : X.env.scope.names.lookup y = some .local := by rfl)
    (hw : swappedStores [.Tuple [.Name x px, .Name y py] kt pt] (.Tuple [a, b] k2 pt2) X.env = pure (some [x, y]) := by rfl)
    (hs : swapsWithSole [.Tuple [.Name x px, .Name y py] kt pt] (.Tuple [a, b] k2 pt2) pos.line X.env = pure false := by rfl) (hs1 : starEach [a, b] X.env = (false, eval a X.env) :: starEach [b] X.env := by rfl) (hs2 : starEach [b] X.env = (false, eval b X.env) :: starEach [] X.env := by rfl) :
    DPS X W (.Assign [.Tuple [.Name x px, .Name y py] kt pt] (.Tuple [a, b] k2 pt2) pos) (gParOO i j Fa Fb) := by
  refine ⟨ps_mono (fun D σ H ⟨q, L, H0, B0, s, B, E, t, g, r⟩ => ⟨q, L, H0, B0, s, B, _, _, t, g, fun p1 o1 H1 d s1 B1 t1 l1 hp1 ro1 f1 => ?_, noE⟩) (ps_par hc hN hi hj hij hx hy (pa_cons ha.pe (pa_cons hb.pe pa_nil hs2) hs1) hw hs)⟩
  refine ⟨q, (p1, o1) :: L, H0, B0, s1, B1, _, _, t1.holdNew hp1 ro1.ntb, f1, fun p2 o2 H2 d2 s2 B2 t2 l2 hp2 ro2 f2 => ?_, noE⟩
  exact ⟨_, _, rfl, r.nx _ _ _ _ ((t2.useHeld (ro1.mono l2) (nL_of t1 hp1) i).setOw hp2 ro2) (l1.trans l2) f2⟩
theorem g_parOF (hc : X.calm = true) (hN : X.N.Nodup) (ha : DPO X W a Fa) (hb : DPE X W b Fb) (hij : i ≠ j := by decide) (hi : X.N[i]? = some x := by rfl) (hj : X.N[j]? = some y := by rfl)
    (hx : X.env.scope.names.lookup x = some .local := by rfl) (hy : X.env.scope.names.lookup y = some .local := by rfl)
    (hw : swappedStores [.Tuple [.Name x px, .Name y py] kt pt] (.Tuple [a, b] k2 pt2) X.env = pure (some [x, y]) := by rfl)
    (hs : swapsWithSole [.Tuple [.Name x px, .Name y py] kt pt] (.Tuple [a, b] k2 pt2) pos.line X.env = pure false := by rfl) (hs1 : starEach [a, b] X.env = (false, eval a X.env) :: starEach [b] X.env := by rfl) (hs2 : starEach [b] X.env = (false, eval b X.env) :: starEach [] X.env := by rfl) :
    DPS X W (.Assign [.Tuple [.Name x px, .Name y py] kt pt] (.Tuple [a, b] k2 pt2) pos) (gParOF i j Fa Fb) := by
  refine ⟨ps_mono (fun D σ H ⟨q, L, H0, B0, s, B, E, t, g, r⟩ => ⟨q, L, H0, B0, s, B, _, _, t, g, fun p1 o1 H1 d s1 B1 t1 l1 hp1 ro1 f1 => ?_, noE⟩) (ps_par hc hN hi hj hij hx hy (pa_cons ha.pe (pa_cons hb.pe pa_nil hs2) hs1) hw hs)⟩
  refine ⟨q, (p1, o1) :: L, H0, B0, s1, B1, _, _, t1.holdNew hp1 ro1.ntb, f1, fun v2 H2 d2 s2 B2 t2 l2 r2 f2 => ?_, noE⟩
  exact ⟨_, _, rfl, r.nx _ _ _ _ ((t2.useHeld (ro1.mono l2) (nL_of t1 hp1) i).setFz r2) (l1.trans l2) f2⟩
theorem g_parFO (hc : X.calm = true) (hN : X.N.Nodup) (ha : DPE X W a Fa) (hb : DPO X W b Fb) (hij : i ≠ j := by decide) (hi : X.N[i]? = some x := by rfl) (hj : X.N[j]? = some y := by rfl)
    (hx : X.env.scope.names.lookup x = some .local := by rfl) (hy : X.env.scope.names.lookup y = some .local := by rfl)
    (hw : swappedStores [.Tuple [.Name x px, .Name y py] kt pt] (.Tuple [a, b] k2 pt2) X.env = pure (some [x, y]) := by rfl)
    (hs : swapsWithSole [.Tuple [.Name x px, .Name y py] kt pt] (.Tuple [a, b] k2 pt2) pos.line X.env = pure false := by rfl) (hs1 : starEach [a, b] X.env = (false, eval a X.env) :: starEach [b] X.env := by rfl) (hs2 : starEach [b] X.env = (false, eval b X.env) :: starEach [] X.env := by rfl) :
    DPS X W (.Assign [.Tuple [.Name x px, .Name y py] kt pt] (.Tuple [a, b] k2 pt2) pos) (gParFO i j Fa Fb) := by
  refine ⟨ps_mono (fun D σ H ⟨q, L, H0, B0, s, B, E, t, g, r⟩ => ⟨q, L, H0, B0, s, B, _, _, t, g, fun v1 H1 d s1 B1 t1 l1 r1 f1 => ?_, noE⟩) (ps_par hc hN hi hj hij hx hy (pa_cons ha.pe (pa_cons hb.pe pa_nil hs2) hs1) hw hs)⟩
  refine ⟨q, L, H0, B0, s1, B1, _, _, t1, f1, fun p2 o2 H2 d2 s2 B2 t2 l2 hp2 ro2 f2 => ?_, noE⟩
  exact ⟨_, _, rfl, r.nx _ _ _ _ ((t2.setFz (r1.mono l2)).setOw hp2 ro2) (l1.trans l2) f2⟩
end
/-! ### .. where a name is captured: a tuple is made on the way -/
section
variable {x y : Str} {px py pt : Pos} {kt : Nat} {pt2 : Pos} {k2 : Nat} {i j : Nat}
theorem sqT_new {K : PySem.W.Frag} {H : Hp} {p : Addr} {xs : List V} : SqT K (upd H p (.tup xs)) p xs := .inl (.inl upd_same)
theorem two_le : (2 : Nat) ≤ sizeLine := by decide
theorem g_tupOF (hc : X.calm = true) (hN : X.N.Nodup) (ha : DPO X W a Fa) (hb : DPE X W b Fb) (hi : X.N[i]? = some x := by rfl) (hj : X.N[j]? = some y := by rfl)
    (hx : Loc X.env.scope x := by first | exact Or.inl rfl | exact Or.inr rfl) (hy : Loc X.env.scope y := by first | exact Or.inl rfl | exact Or.inr rfl) (hfx : X.fn x = true ∨ X.env.scope.names.lookup x = some .local := by first | exact .inl rfl | exact .inr rfl) (hfy : X.fn y = true ∨ X.env.scope.names.lookup y = some .local := by first | exact .inl rfl | exact .inr rfl)
    (hs : swapsWithSole [.Tuple [.Name x px, .Name y py] kt pt] (.Tuple [a, b] k2 pt2) pos.line X.env = pure false := by rfl) (hw : swappedStores [.Tuple [.Name x px, .Name y py] kt pt] (.Tuple [a, b] k2 pt2) X.env = pure none := by rfl) (h1 : (assignEach [.Tuple [.Name x px, .Name y py] kt pt] X.env).map (·.2) = [assign (.Tuple [.Name x px, .Name y py] kt pt) X.env] := by rfl)
    (hs1 : starEach [a, b] X.env = (false, eval a X.env) :: starEach [b] X.env := by rfl) (hs2 : starEach [b] X.env = (false, eval b X.env) :: starEach [] X.env := by rfl)
    (hn : (assignEach [.Name x px, .Name y py] X.env).length = 2 := by rfl) (hst : (assignEach [.Name x px, .Name y py] X.env).findIdx? (·.1) = none := by rfl)
    (e1 : (assignEach [.Name x px, .Name y py] X.env).map (·.2) = assign (.Name x px) X.env :: (assignEach [.Name y py] X.env).map (·.2) := by rfl) (e2 : (assignEach [.Name y py] X.env).map (·.2) = assign (.Name y py) X.env :: (assignEach [] X.env).map (·.2) := by rfl) :
    DPS X W (.Assign [.Tuple [.Name x px, .Name y py] kt pt] (.Tuple [a, b] k2 pt2) pos) (gParOF i j Fa Fb) := by
  refine ⟨ps_mono (fun D σ H ⟨q, L, H0, B0, s, B, E, t, g, r⟩ => ⟨q, L, H0, B0, s, B, _, _, t, g, fun p1 o1 H1 d s1 B1 t1 l1 hp1 ro1 f1 => ?_, noE⟩) (ps_asg (pe_tup (pa_cons ha.pe (pa_cons hb.pe pa_nil hs2) hs1)) (pg_tup hc (pgs_cons (pg_name (i := i) hN hi hx hfx) (pgs_cons (pg_name (i := j) hN hj hy hfy) pgs_nil e2) e1) hn hst) hs hw h1)⟩
  refine ⟨q, (p1, o1) :: L, H0, B0, s1, B1, _, _, t1.holdNew hp1 ro1.ntb, f1, fun v2 H2 d2 s2 B2 t2 l2 r2 f2 => ⟨two_le, fun p3 hp3 => ?_⟩, noE⟩
  have t3 := t2.alloc (o := .tup [.ref p1, v2]) hp3 (fun _ z => by cases z)
  have l3 : Le B2 (upd B2 p3 (.tup [.ref p1, v2])) := Le.upd (t2.bs.nB hp3)
  exact ⟨p3, _, rfl, sqT_new, rfl, _, _, rfl, _, _, rfl, rfl, r.nx _ _ _ _ ((t3.useHeld ((ro1.mono l2).mono l3) (nL_of t1 hp1) i).setFz (r2.mono l3)) ((l1.trans l2).trans l3) f2⟩
end
/-! ### x[i] = v, x what a slot owns -/
def putAt (s : DS) (i : Nat) (k : D) (d : D) (K : DS → Prop) : Prop := match s.sl[i]?, k with
  | some (some (.ow (.lst ds))), .int z => 0 ≤ z ∧ z < ds.length ∧ K (s.put i (.ow (.lst (ds.set z.toNat d))))
  | _, _ => False
def gPut (i : Nat) (F Fk : DF) : DG := fun E s => F s (fun d s1 => hasSl s1 i ∧ Fk s1 (fun k s2 => putAt s2 i k d E.nx) E.ex) E.ex
def gPut2 (i j : Nat) (F Fk Fl : DF) : DG := fun E s => F s (fun d s1 => hasSl s1 i ∧ Fk s1 (fun k s2 => putAt s2 i k d fun s3 => hasSl s3 j ∧ Fl s3 (fun l s4 => putAt s4 j l d E.nx) E.ex) E.ex) E.ex
theorem ixN_of {n : Nat} {z : Int} (h0 : 0 ≤ z) (h : z < n) : ixN n z = some z.toNat := by
  unfold ixN
  rw [if_pos h0, if_pos h]
/-- one such store, from the index's reading on -/
theorem put_run {q : Dr} {L : List (Addr × HO)} {H0 B0 H B : Hp} {σ : L2.St} {s : DS} {i : Nat} {o : V} {v u : V} {k d : D} {K : DS → Prop} {Q : Hp → Prop} (t : At (cx X q) L H0 B0 σ H s B) (ho : σ[i]? = some (some o)) (rk : Rep (cx X q) B k u) (rd : Rep (cx X q) B d v) (h : putAt s i k d K)
    (hQ : ∀ H' s', At (cx X q) L H0 B0 σ H' s' B → K s' → Q H') : rSetL o u v H Q := by
  unfold putAt at h
  split at h
  · rename_i ds z e1
    obtain ⟨h0, h1, h2⟩ := h
    obtain ⟨pp, xs, g1, g2, g3⟩ := t.ownL e1
    rw [ho] at g1
    cases g1
    rw [rep_int rk]
    exact ⟨pp, xs, z, z.toNat, rfl, rfl, g2, by rw [repL_len g3]; exact ixN_of h0 h1, hQ _ _ (t.change (d' := .lst _) e1 ho ⟨_, rfl, repL_set g3 rd⟩) h2⟩
  · exact h.elim
theorem g_put (i : Nat) {x : Str} {p1 p2 : Pos} (he : DPE X W e Fa) (hk : DPE X W b Fb) (hN : X.N[i]? = some x := by rfl) (hv : Vis X.env.scope x := by first | exact Or.inl rfl | exact Or.inr (Or.inl rfl) | exact Or.inr (Or.inr rfl))
    (hs : swapsWithSole [.Subscript (.Name x p1) b p2] e pos.line X.env = pure false := by rfl) (hw : swappedStores [.Subscript (.Name x p1) b p2] e X.env = pure none := by rfl) (h1 : (assignEach [.Subscript (.Name x p1) b p2] X.env).map (·.2) = [assign (.Subscript (.Name x p1) b p2) X.env] := by rfl)
    (ha : ∀ v, assign (.Subscript (.Name x p1) b p2) X.env v = (do
      let ov ← holding [v] (eval (.Name x p1) X.env)
      let iv ← holding [v, ov] (eval b X.env)
      standAt p2
      holding [v, ov, iv] (setItem ov iv v)
      release [v, ov, iv] []) := by intro _; rfl)
    (hd : (x == ("__debug__" : Str)) = false := by decide) (hcd : (x == ("__classdict__" : Str)) = false := by decide) : DPS X W (.Assign [.Subscript (.Name x p1) b p2] e pos) (gPut i Fa Fb) := by
  refine ⟨ps_mono (fun D σ H ⟨q, L, H0, B0, s, B, E, t, g, r⟩ => ⟨q, L, H0, B0, s, B, _, E.ex, t, g, fun v H1 d s1 B1 t1 l1 r1 ⟨h0, f1⟩ => ?_, r.exs⟩) (ps_asg he.pe (pg_sub (pe_var hN hv hd hcd) hk.pe set_list ha) hs hw h1)⟩
  obtain ⟨o, ho⟩ := t1.slot h0
  refine ⟨o, ho, q, L, H0, B0, s1, B1, _, E.ex, t1, f1, fun u H2 k s2 B2 t2 l2 r2 f2 => ?_, r.exs.le l1⟩
  exact put_run t2 ho r2 (r1.mono l2) f2 fun H' s' t' n => r.nx _ _ _ _ t' (l1.trans l2) n
theorem g_put2 (i j : Nat) {x y : Str} {c : Expr} {p1 p2 p3 p4 : Pos} (he : DPE X W e Fa) (hk : DPE X W b Fb) (hl : DPE X W c Fc) (hN : X.N[i]? = some x := by rfl) (hM : X.N[j]? = some y := by rfl) (hv : Vis X.env.scope x := by first | exact Or.inl rfl | exact Or.inr (Or.inl rfl) | exact Or.inr (Or.inr rfl)) (hv2 : Vis X.env.scope y := by first | exact Or.inl rfl | exact Or.inr (Or.inl rfl) | exact Or.inr (Or.inr rfl))
    (hw : swappedStores [.Subscript (.Name x p1) b p2, .Subscript (.Name y p3) c p4] e X.env = pure none := by rfl) (h1 : (assignEach [.Subscript (.Name x p1) b p2, .Subscript (.Name y p3) c p4] X.env).map (·.2) = [assign (.Subscript (.Name x p1) b p2) X.env, assign (.Subscript (.Name y p3) c p4) X.env] := by rfl)
    (ha : ∀ v, assign (.Subscript (.Name x p1) b p2) X.env v = (do
      let ov ← holding [v] (eval (.Name x p1) X.env)
      let iv ← holding [v, ov] (eval b X.env)
      standAt p2
      holding [v, ov, iv] (setItem ov iv v)
      release [v, ov, iv] []) := by intro _; rfl)
    (ha2 : ∀ v, assign (.Subscript (.Name y p3) c p4) X.env v = (do
      let ov ← holding [v] (eval (.Name y p3) X.env)
      let iv ← holding [v, ov] (eval c X.env)
      standAt p4
      holding [v, ov, iv] (setItem ov iv v)
      release [v, ov, iv] []) := by intro _; rfl)
    (hd : (x == ("__debug__" : Str)) = false := by decide) (hcd : (x == ("__classdict__" : Str)) = false := by decide) (hd2 : (y == ("__debug__" : Str)) = false := by decide) (hcd2 : (y == ("__classdict__" : Str)) = false := by decide) :
    DPS X W (.Assign [.Subscript (.Name x p1) b p2, .Subscript (.Name y p3) c p4] e pos) (gPut2 i j Fa Fb Fc) := by
  refine ⟨ps_mono (fun D σ H ⟨q, L, H0, B0, s, B, E, t, g, r⟩ => ⟨q, L, H0, B0, s, B, _, E.ex, t, g, fun v H1 d s1 B1 t1 l1 r1 ⟨h0, f1⟩ => ?_, r.exs⟩) (ps_asg2 he.pe (pg_sub (pe_var hN hv hd hcd) hk.pe set_list ha) (pg_sub (pe_var hM hv2 hd2 hcd2) hl.pe set_list ha2) h1 hw)⟩
  obtain ⟨o, ho⟩ := t1.slot h0
  refine ⟨o, ho, q, L, H0, B0, s1, B1, _, E.ex, t1, f1, fun u H2 k s2 B2 t2 l2 r2 f2 => ?_, r.exs.le l1⟩
  refine put_run t2 ho r2 (r1.mono l2) f2 fun H3 s3 t3 ⟨h3, f3⟩ => ?_
  obtain ⟨o2, ho2⟩ := t3.slot h3
  refine ⟨o2, ho2, q, L, H0, B0, s3, B2, _, E.ex, t3, f3, fun u H4 k s4 B4 t4 l4 r4 f4 => ?_, r.exs.le (l1.trans l2)⟩
  exact put_run t4 ho2 r4 (r1.mono (l2.trans l4)) f4 fun H' s' t' n => r.nx _ _ _ _ t' ((l1.trans l2).trans l4) n
/-! ### x.index(e) of truths, numbers, texts -/
def flatB : D → Bool
  | .non => true | .bl _ => true | .int _ => true | .str _ => true
  | _ => false
def eqB : D → D → Bool := fun x y => PyData.eqv (py x) (py y)
def toV : D → V
  | .non => .non | .bl b => .bl b | .int i => .int i | .str x => .str x
  | _ => .non
theorem rep_toV {c : Ct} {B : Hp} : ∀ {d : D} {v : V}, flatB d = true → Rep c B d v → v = toV d
  | .non, _, _, h => rep_non h
  | .bl b, _, _, h => rep_bl h
  | .int i, _, _, h => rep_int h
  | .str x, _, _, h => rep_str h
  | .tup _, _, f, _ => by cases f
  | .lst _, _, f, _ => by cases f
  | .dic _, _, f, _ => by cases f
  | .obj _ _, _, f, _ => by cases f
  | .exc _ _, _, f, _ => by cases f
  | .st, _, f, _ => by cases f
  | .scr _, _, f, _ => by cases f
  | .dtp, _, f, _ => by cases f
theorem repL_toV {c : Ct} {B : Hp} : ∀ {ds : List D} {vs : List V}, ds.all flatB = true → RepL c B ds vs → vs = ds.map toV
  | [], _, _, h => by unfold RepL at h; exact h
  | d :: ds, _, f, h => by
    unfold RepL at h
    obtain ⟨x, xr, rfl, h1, h2⟩ := h
    rw [List.all_cons, Bool.and_eq_true] at f
    rw [rep_toV f.1 h1, repL_toV f.2 h2]
    rfl
theorem flat_toV {d : D} (h : flatB d = true) : flatV (toV d) = true := by cases d <;> first | rfl | cases h
theorem eqV_toV {x y : D} (h1 : flatB x = true) (h2 : flatB y = true) : eqV (toV x) (toV y) = eqB x y := by
  cases x <;> first | (exfalso; cases h1; done) | (cases y <;> first | (exfalso; cases h2; done) | rfl | (unfold eqB py PyData.eqv toV eqV; first | rfl | (simp)))
/-- the list at slot i, owned or not -/
def lstAt (s : DS) (i : Nat) : Option (List D) := match s.sl[i]? with
  | some (some (.ow (.lst ds))) => some ds
  | some (some (.fz (.lst ds))) => some ds
  | _ => none
theorem At.lstAt {c : Ct} {L : List (Addr × HO)} {H0 B0 H B : Hp} {σ : L2.St} {s : DS} (t : At c L H0 B0 σ H s B) {i : Nat} {ds : List D} (h : DL.lstAt s i = some ds) : ∃ p xs, σ[i]? = some (some (V.ref p)) ∧ H p = some (.lst xs) ∧ RepL c B ds xs := by
  unfold DL.lstAt at h
  split at h
  · rename_i e
    cases h
    exact t.ownL e
  · rename_i e
    cases h
    obtain ⟨v, h1, h2⟩ := t.fz i _ e
    obtain ⟨a, xs, rfl, ha, hx⟩ := rep_lst h2
    exact ⟨a, xs, h1, t.bs.leH _ _ ha, hx⟩
  · cases h
def dIndex (i : Nat) (F : DF) : DF := fun s P ex => (lstAt s i).isSome = true ∧ F s (fun d s1 => ∃ ds, lstAt s1 i = some ds ∧ flatB d = true ∧ ds.all flatB = true ∧ ∃ (j : Nat) (z : D), ds[j]? = some z ∧ eqB z d = true ∧ (∀ (m : Nat) (z' : D), m < j → ds[m]? = some z' → eqB z' d = false) ∧ P (.int (j : Nat)) s1) ex
theorem d_index (i : Nat) {x : Str} {ap : Pos} (he : DPE X W e Fa) (hN : X.N[i]? = some x := by rfl) (hv : Vis X.env.scope x := by first | exact Or.inl rfl | exact Or.inr (Or.inl rfl) | exact Or.inr (Or.inr rfl))
    (hse : starEach [e] X.env = (false, eval e X.env) :: starEach [] X.env := by rfl) (hd : (x == ("__debug__" : Str)) = false := by decide) (hcd : (x == ("__classdict__" : Str)) = false := by decide)
    (hbase : attributeBase (.Name x p) "index" X.env (eval (.Name x p) X.env) = eval (.Name x p) X.env := by rfl)
    (hfew : ((backTo pos (starEach [e] X.env)).all (fun x => !x.1) && (backToKw pos (keywordEach [] X.env)).all (fun x => x.1.isSome) && decide (([e] : List Expr).length + ([] : List Keyword).length + (if ([] : List Keyword).isEmpty then 0 else 1) < 30)) = true := by rfl)
    (hline : (ap.endLine == pos.line) = true := by rfl) : DPE X W (.Call (.Attribute (.Name x p) "index" ap) [e] [] pos) (dIndex i Fa) := by
  refine ⟨pe_mono (fun σ H Q ⟨q, L, H0, B0, s, B, P, ex, t, f, rt, e⟩ => ?_) (pe_bm PySem.F.plainAttrs_list PySem.F.slot_list_index PySem.F.type_list_index mt_index (pe_var hN hv hd hcd) (pa_cons he.pe pa_nil hse) hbase hfew hline hse)⟩
  obtain ⟨f0, f⟩ := f
  obtain ⟨ds0, e0⟩ := Option.isSome_iff_exists.mp f0
  obtain ⟨pp, xs, h1, h2, h3⟩ := t.lstAt e0
  refine ⟨_, h1, .inl ⟨rfl, xs, SqL.of h2⟩, q, L, H0, B0, s, B, _, ex, t, f, fun v H1 d s1 B1 t1 l1 r1 p1 => ?_, e⟩
  obtain ⟨ds, e1, k1, k2, j, z, k3, k4, k5, k6⟩ := p1
  obtain ⟨p2, ys, g1, g2, g3⟩ := t1.lstAt e1
  rw [h1] at g1
  cases g1
  have hz : flatB z = true := List.all_eq_true.mp k2 z (List.mem_of_getElem? k3)
  rw [rep_toV k1 r1]
  rw [repL_toV k2 g3] at g2
  refine ⟨pp, ds.map toV, toV d, j, toV z, rfl, rfl, SqL.of g2, flat_toV k1, ?_, by rw [List.getElem?_map, k3]; rfl, by rw [eqV_toV hz k1]; exact k4, fun m z' hm hz' => ?_, rt _ _ _ _ _ t1 l1 int_rep k6⟩
  · rw [List.all_map, List.all_eq_true]
    exact fun y hy => flat_toV (List.all_eq_true.mp k2 y hy)
  · rw [List.getElem?_map] at hz'
    cases q3 : ds[m]? with
    | none => rw [q3] at hz'; cases hz'
    | some w =>
      rw [q3] at hz'
      cases hz'
      rw [eqV_toV (List.all_eq_true.mp k2 w (List.mem_of_getElem? q3)) k1]
      exact k5 m w hm q3
end
end DL

set_option Elab.async false
set_option linter.all false
set_option maxRecDepth 100000
set_option maxHeartbeats 4000000
namespace DL
open PySem L2
variable [Tb]
/-! ### the draws' state: what its dict holds -/
abbrev kS (x : Str) : Key := .inr x
abbrev stK (g l : Addr) (left turn : Int) : List (Key × V) := [(.inr "great", .ref g), (.inr "cells", .ref l), (.inr "left", .int left), (.inr "turn", .int turn)]
section
variable {g l : Addr} {left turn z : Int}
theorem st_great : valV (stK g l left turn) (kS "great") = some (.ref g) := by simp [valV, stK, kS, List.find?]
theorem st_cells : valV (stK g l left turn) (kS "cells") = some (.ref l) := by
  have h1 : ¬ ("great" : Str) = "cells" := by decide +kernel
  simp [valV, stK, kS, List.find?, h1]
theorem st_left : valV (stK g l left turn) (kS "left") = some (.int left) := by
  have h1 : ¬ ("great" : Str) = "left" := by decide +kernel
  have h2 : ¬ ("cells" : Str) = "left" := by decide +kernel
  simp [valV, stK, kS, List.find?, h1, h2]
theorem st_turn : valV (stK g l left turn) (kS "turn") = some (.int turn) := by
  have h1 : ¬ ("great" : Str) = "turn" := by decide +kernel
  have h2 : ¬ ("cells" : Str) = "turn" := by decide +kernel
  have h3 : ¬ ("left" : Str) = "turn" := by decide +kernel
  simp [valV, stK, kS, List.find?, h1, h2, h3]
theorem st_putTurn : putK (stK g l left turn) (kS "turn") (.int z) = stK g l left z := by
  have h1 : ¬ ("great" : Str) = "turn" := by decide +kernel
  have h2 : ¬ ("cells" : Str) = "turn" := by decide +kernel
  have h3 : ¬ ("left" : Str) = "turn" := by decide +kernel
  simp [putK, stK, kS, h1, h2, h3]
theorem st_putLeft : putK (stK g l left turn) (kS "left") (.int z) = stK g l z turn := by
  have h1 : ¬ ("great" : Str) = "left" := by decide +kernel
  have h2 : ¬ ("cells" : Str) = "left" := by decide +kernel
  have h4 : ¬ ("turn" : Str) = "left" := by decide +kernel
  simp [putK, stK, kS, h1, h2, h4]
end
/-- the state stands at a -/
structure StAt (H : Hp) (a g l : Addr) (gs ls : List Int) (left turn : Int) : Prop where
  ag : a ≠ g
  al : a ≠ l
  gl : g ≠ l
  st : H a = some (.dK (stK g l left turn))
  gr : H g = some (.lst (gs.map V.int))
  ce : H l = some (.lst (ls.map V.int))
  g0 : ∀ x ∈ gs, 0 ≤ x
  gn : gs.length ≤ 63
  l0 : ∀ x ∈ ls, 0 ≤ x
  ln : ls.length ≤ 63
  left0 : 0 ≤ left
  turn0 : 0 ≤ turn
theorem small_k {n : Nat} (h : n ≤ 1000) : n < sizeLine := Nat.lt_of_le_of_lt h (by decide)
section
variable {H : Hp} {a g l : Addr} {left turn z : Int}
theorem get_great (h : H a = some (.dK (stK g l left turn))) : DGet H a (.str "great") (some (.ref g)) := by
  have q := DGet.k (k := kS "great") h
  rw [st_great] at q
  exact q
theorem get_cells (h : H a = some (.dK (stK g l left turn))) : DGet H a (.str "cells") (some (.ref l)) := by
  have q := DGet.k (k := kS "cells") h
  rw [st_cells] at q
  exact q
theorem get_left (h : H a = some (.dK (stK g l left turn))) : DGet H a (.str "left") (some (.int left)) := by
  have q := DGet.k (k := kS "left") h
  rw [st_left] at q
  exact q
theorem get_turn (h : H a = some (.dK (stK g l left turn))) : DGet H a (.str "turn") (some (.int turn)) := by
  have q := DGet.k (k := kS "turn") h
  rw [st_turn] at q
  exact q
theorem put_turn (h : H a = some (.dK (stK g l left turn))) : DPut H a (.str "turn") (.int z) (upd H a (.dK (stK g l left z))) := by
  have q := DPut.k (k := kS "turn") (v := .int z) h (small_k (by simp [stK]))
  rw [st_putTurn] at q
  exact q
theorem put_left (h : H a = some (.dK (stK g l left turn))) : DPut H a (.str "left") (.int z) (upd H a (.dK (stK g l z turn))) := by
  have q := DPut.k (k := kS "left") (v := .int z) h (small_k (by simp [stK]))
  rw [st_putLeft] at q
  exact q
end
/-- _law_blended: a number that is not negative; the turn goes on -/
def spBlend : Sp := fun vs H Q _ => ∃ a g l gs ls left turn, vs = [.ref a] ∧ StAt H a g l gs ls left turn ∧ turn < 1099511627776 ∧
  ∀ r H', 0 ≤ r → H' a = some (.dK (stK g l left (turn + 1))) → (∀ b o, b ≠ a → H b = some o → H' b = some o) → Q (.int r) H'
theorem blend_next {b c t p : Int} (hp : 0 < p) : 0 ≤ (b * 69621 + c + t).fmod p ∧ (b * 69621 + c + t).fmod p < p := by
  rw [Int.fmod_eq_emod_of_nonneg _ (Int.le_of_lt hp)]
  exact ⟨Int.emod_nonneg _ (by omega), Int.emod_lt_of_pos _ hp⟩
theorem at_map {ns : List Int} {i : Nat} {x : V} (h : (ns.map V.int)[i]? = some x) : ∃ z, x = .int z ∧ z ∈ ns := by
  rw [List.getElem?_map] at h
  cases e : ns[i]? with
  | none => rw [e] at h; cases h
  | some z => rw [e] at h; cases h; exact ⟨z, rfl, List.mem_of_getElem? e⟩
section
variable {c : Ct} {H H' B : Hp} {T T' : Nat} {a g l : Addr} {gs ls gs' ls' : List Int} {left turn left' turn' : Int}
theorem stAt_of (hq : c.q.dr = some (a, g, l)) (d : DrawR c H T) : ∃ gs ls left turn, StAt H a g l gs ls left turn ∧ turn ≤ T := by
  unfold DrawR at d
  rw [hq] at d
  obtain ⟨h1, h2, h3, gs, ls, le, tu, q1, q2, q3, q4, q5, q6, q7, q8, q9, q10⟩ := d
  exact ⟨gs, ls, le, tu, ⟨h1, h2, h3, q1, q2, q3, q4, q5, q6, q7, q8, q9⟩, q10⟩
theorem Bs.moved (b : Bs c H B H B T) (hq : c.q.dr = some (a, g, l)) (S : StAt H a g l gs ls left turn) (S' : StAt H' a g l gs' ls' left' turn') (ht : turn' ≤ T') (keep : ∀ b o, b ≠ a → b ≠ g → H b = some o → H' b = some o) : Bs c H B H' B T' := by
  have dr : c.drs = [a, g, l] := by unfold Ct.drs; rw [hq]
  have na : ∀ {b}, b ∉ c.drs → b ≠ a ∧ b ≠ g := fun {b} h => by
    rw [dr] at h
    simp only [List.mem_cons, List.not_mem_nil, or_false, not_or] at h
    exact ⟨h.1, h.2.1⟩
  refine ⟨Le.refl B, fun a h1 h2 => absurd h1 h2, fun b o h1 h2 _ => keep b o (na h2).1 (na h2).2 h1, fun b o e => ?_, b.avoid, b.ntb, b.dr0, fun b h => ?_, ?_, fun x hx => ?_⟩
  · have nb : b ∉ c.drs := fun z => by rw [‹Bs c H B H B T›.avoid b z] at e; cases e
    exact keep b o (na nb).1 (na nb).2 (‹Bs c H B H B T›.leH b o e)
  · by_cases z1 : b = a
    · rw [z1]; exact nFr S'.st (fun _ z => by cases z)
    · by_cases z2 : b = g
      · rw [z2]; exact nFr S'.gr (fun _ z => by cases z)
      · exact fun f => h fun u e => f u (keep b u z1 z2 e)
  · unfold DrawR
    rw [hq]
    exact ⟨S'.ag, S'.al, S'.gl, _, _, _, _, S'.st, S'.gr, S'.ce, S'.g0, S'.gn, S'.l0, S'.ln, S'.left0, S'.turn0, ht⟩
  · obtain ⟨ps, e1, e2, e3⟩ := b.tabs x hx
    have ne : ∀ {b : Addr} {o : HO}, H b = some o → (∀ xs, o ≠ .lst xs) → (∀ xs, o ≠ .dK xs) → H' b = some o := fun {b o} e n1 n2 => keep b o (fun z => by
      rw [z, S.st] at e
      exact n2 _ (Option.some.inj e).symm) (fun z => by
      rw [z, S.gr] at e
      exact n1 _ (Option.some.inj e).symm) e
    refine ⟨ps, ne e1 (fun _ z => by cases z) (fun _ z => by cases z), e2, fun pos cv hc => ?_⟩
    obtain ⟨cc, q1, q2⟩ := e3 pos cv hc
    exact ⟨cc, q1, ne q2 (fun _ z => by unfold LamX.CodeO at z; cases z) (fun _ z => by unfold LamX.CodeO at z; cases z)⟩
end
/-- a drawn number; what it costs -/
def S__law_draw : PF := fun ds T post _ => ∃ n, ds = [.st, .int n] ∧ 0 < n ∧ n < 1606938044258990275541962092341162602522202993782792835301376 ∧ T < 1099511627776 ∧ ∀ r, 0 ≤ r → r < n → post (.fz (.int r)) (T + 1)
theorem shaped_ints (gs : List Int) : SeqAt.shaped (.list (gs.map PyData.int)) = true := by
  have h1 : ∀ gs : List Int, PyData.canLayAll0 (gs.map PyData.int) = true := fun gs => by
    induction gs with
    | nil => simp [PyData.canLayAll0]
    | cons z zs ih => simp [PyData.canLayAll0, PyData.canLay0, ih]
  have h2 : ∀ gs : List Int, PyData.depthAll (gs.map PyData.int) = 0 := fun gs => by
    induction gs with
    | nil => simp [PyData.depthAll]
    | cons z zs ih => simp [PyData.depthAll, PyData.depth, ih]
  unfold SeqAt.shaped
  simp [PyData.canLay0, PyData.depth, h1, h2]
theorem dp_ints {K : PySem.W.Frag} {H : Hp} : ∀ gs : List Int, DpAll K H (gs.map V.int) (gs.map PyData.int)
  | [] => .nil
  | z :: zs => .cons (.int z) (dp_ints zs)
theorem eqv_ints (gs : List Int) : PyData.eqv (.list (gs.map PyData.int)) (.list []) = gs.isEmpty := by cases gs <;> rfl
end DL

set_option Elab.async false
set_option linter.all false
set_option maxRecDepth 100000
set_option maxHeartbeats 4000000
namespace DL
open PySem L2 PySem.Spec PyProof.Rows
variable [Tb]
/-! ### a caught error that stays -/
section
variable {X : Cx} {pins : List (Addr × Obj)} {σ : L2.St} {H : Hp} {s : Shared}
theorem HOk.track {P : Program} {w : World} {h : Heap} {a : Addr} {o : HO} (x : HOk P w H h) (hn : H a = none) (new : ObjOk P w (upd H a o) h a o) : HOk P w (upd H a o) h := fun b u e => by
  by_cases z : b = a
  · rw [z, upd_same] at e
    cases e
    rw [z]
    exact new
  · rw [upd_ne z] at e
    exact (x b u e).stay (fun c v _ q => q) (fun c q => by rw [upd_ne (ne_of_none q hn)]; exact q) fun c xs q => by rw [upd_ne (ne_of_none q hn)]; exact q
/-- an object that was not there at the entry is known from now on -/
theorem Inv.track (I : Inv X pins σ H s) {a : Addr} {o : HO} (n0 : X.s_0.heap.get? a = none) (hn : H a = none) (nl : a ≠ X.env.locals) (nc : ∀ x c, X.env.cells.lookup x = some c → c ≠ a) (np : ∀ p ∈ X.pn ++ pins, p.1 ≠ a)
    (new : ObjOk X.prog X.w (upd H a o) s.heap a o) : Inv X pins σ (upd H a o) s := by
  refine ⟨I.ok, I.os, I.bare, ⟨fun b u e q => I.base.keep b u e q, fun b u e q => I.base.slot b u e q, fun b u e q r => ?_, I.base.there, fun b xs e => ?_, fun b u v e => ?_, fun b ps e => ?_⟩, I.loc, I.cell, ?_, fun x c e => ?_, fun p hp => ?_, HOk.track I.hok hn new, I.len⟩
  · rw [upd_ne fun z => by rw [z, n0] at e; cases e]; exact I.base.free b u e q r
  · have q := I.base.tups b xs e
    rw [upd_ne (ne_of_none q hn)]; exact q
  · have q := I.base.frzs b u v e
    rw [upd_ne (ne_of_none q hn)]; exact q
  · obtain ⟨m, q⟩ := I.base.tbls b ps e
    exact ⟨m, by rw [upd_ne (ne_of_none q hn)]; exact q⟩
  · rw [upd_ne nl.symm]; exact I.free
  · rw [upd_ne (nc x c e)]; exact I.freeC x c e
  · obtain ⟨h1, h2, h3⟩ := I.pin p hp
    exact ⟨h1, by rw [upd_ne (np p hp)]; exact h2, h3⟩
end
/-- what the clause «except x as n: y = n» leaves: y holds the error, which is known -/
def wHold (K : PySem.W.Frag) (c : Value) (i j ln : Nat) (D : Ends) : WX := fun cls d σ H =>
  PySem.W.exmOne K cls c = some true ∧ (σ.length = ln → ∀ a, H a = none → D.nx ((((σ.set i (some (.ref a))).set j (some (.ref a))).set i none)) (upd H a (ExcO a cls d)))
section
variable {X : Cx} {body : List Stmt} {x n y : Str} {np nn py ap pos' pos : Pos} {i j : Nat} {c : Value} {tb : WX → TS}
theorem ps_try_hold (hs : X.stack = X.env :: X.outer) (hf : X.env.frame = some X.env.locals) (hN : X.N.Nodup) (hi : X.N[i]? = some n) (hln : X.env.kindOf n = some .local) (hj : X.N[j]? = some y) (hly : X.env.kindOf y = some .local) (hc : Names X x c) (hx0 : X.ex = []) (hij : X.N[i]? = some n) (hsw : swapsWithSole [.Name y py] (.Name n nn) ap.line X.env = pure false) (hsto : swappedStores [.Name y py] (.Name n nn) X.env = pure none) (hd : (n == ("__debug__" : Str)) = false) (hcd : (n == ("__classdict__" : Str)) = false)
    (h1 : (assignEach [.Name y py] X.env).map (·.2) = [assign (.Name y py) X.env])
    (hb : ∀ (W : WX) (pn : List (Addr × Obj)) (xe : Value → Shared → Prop), Takes (X.tr pn xe) W → PassesOwn (model X.prog X.w) X.A X.env xe → PSs (X.tr pn xe) body (tb W)) :
    PS X (.Try body [.ExceptHandler (some (.Name x np)) (some n) [.Assign [.Name y py] (.Name n nn) ap] pos'] [] [] pos) (fun D σ H => tb (wHold X.K c i j X.N.length D) D σ H) := by
  constructor
  intro pins s σ H D I h
  have ok := I.ok
  have hfr : X.A.frames = some (X.env :: X.outer) := by rw [ok.frames, hs]
  apply wpAny_Try_except
  let catch' : Value → Shared → Prop := fun e s₁ => wpAny (model X.prog X.w) X.A (noteFrame e X.env) (fun _ s₂ => wpAny (model X.prog X.w) X.A (setFlight e none) (fun _ s₃ =>
    wpAny (model X.prog X.w) X.A (handleBy e X.env [.ExceptHandler (some (.Name x np)) (some n) [.Assign [.Name y py] (.Name n nn) ap] pos']) (SP X pins D) X.xe s₃) X.xe s₂) X.xe s₁
  have tk : Takes (X.tr (X.pn ++ pins) catch') (wHold X.K c i j X.N.length D) := by
    intro u s' xx
    obtain ⟨a, B, sI, pins', σ', H', cls, d, rfl, J', nb, up, sky, na, os, ag, hb1, hyes⟩ := xx
    have J : Inv X pins σ' H' sI := J'.ofTry ok
    have sky' : Sky B (X.env :: X.outer) a (Zc cls d) X.env.locals s'.heap := by rw [← hs]; exact sky
    refine Sky.land Zc.steady hfr hf sky' fun h3 fl3 up3 => ?_
    have J3 : Inv X pins σ' H' { s' with heap := h3 } := J.landed nb fl3.1 (up.trans up3) os ag
    obtain ⟨oe3, vs3, he3, hz3, hd3⟩ := fl3.there
    have notFr : ∀ {h : Heap} {o : Obj} {vs : Array Value}, h.FunFrames B (X.env :: X.outer) → h.get? a = some o → o.data = .fields vs → a ∉ frs (X.env :: X.outer) := by
      intro h o vs ff e dd hm
      obtain ⟨_, o', e', hnf⟩ := ff.mem hm
      rw [e] at e'
      cases e'
      exact hnf _ dd
    have nfr := notFr fl3.2.2.1 he3 hd3
    have nL : a ≠ X.env.locals := fun z => nfr (List.mem_filterMap.mpr ⟨X.env, List.mem_cons_self, by rw [hf, z]⟩)
    have nF : a ∉ X.fs := fun hm => by
      obtain ⟨e, he, q⟩ := List.mem_filterMap.mp hm
      exact nfr (List.mem_filterMap.mpr ⟨e, List.mem_cons_of_mem _ he, q⟩)
    have nI : sI.heap.get? a = none := by
      cases e : sI.heap.get? a with
      | none => rfl
      | some o =>
        have q := nb a o e (by rw [hs]; exact nfr)
        rw [fl3.2.1] at q
        cases q
    have S3 := J3.suite he3 hd3 na nL nF
    refine wpAny_handleBy_cons (codeAny_handlers_test ?_) (by intro q; cases q)
    have LT : PySem.W.Looks (model X.prog X.w) h3 (typeOf (.ref a)) cls := fun A Q E s k q => wpAny_typeOf_ref (k _ _ he3) (by rw [hz3.1]; exact q)
    have LM := PySem.W.exm_one (M := model X.prog X.w) J3.kIn LT hb1
    have test : ∀ {Q : Value → Shared → Prop} {E : Value → Shared → Prop}, Q c { s' with heap := h3 } → wpAny (model X.prog X.w) (X.A.mark (some (.ref a))) (eval (.Name x np) X.env) Q E { s' with heap := h3 } := by
      intro Q E q
      obtain ⟨hg, hdbg, hm | ⟨hm, hv, hnn⟩⟩ := hc
      · exact ld_glob (X := X.suite a ((a, oe3) :: (X.pn ++ pins))) S3 hg hm q hdbg
      · exact ld_blt (X := X.suite a ((a, oe3) :: (X.pn ++ pins))) S3 hg hm hv q hnn hdbg
    refine test (LM.here (codeAny_handlers_suite_as (HandSPX.lands_againZ fl3 fun h4 fl4 up4 => ?_)))
    have J4 : Inv X pins σ' H' { s' with heap := h4 } := J.landed nb fl4.1 ((up.trans up3).trans up4) os ag
    obtain ⟨oe4, vs4, he4, hz4, hd4⟩ := fl4.there
    have S4 := J4.suite he4 hd4 na nL nF
    refine store_ok (X := X.suite a ((a, oe4) :: (X.pn ++ pins))) (v := .ref a) S4 hN hi (.inl hln) rfl (fun s5 S5 => ?_) (.inr hln)
    have hsu : PSs (X.suite a ((a, oe4) :: (X.pn ++ pins))) [.Assign [.Name y py] (.Name n nn) ap] (tAsg (tVar i) (gName j)) :=
      pss_one (ps_asg (X := X.suite a ((a, oe4) :: (X.pn ++ pins))) (pe_var (X := X.suite a ((a, oe4) :: (X.pn ++ pins))) hi (.inl hln) hd hcd) (pg_name (X := X.suite a ((a, oe4) :: (X.pn ++ pins))) (i := j) hN hj (.inl hly) (.inr hly)) hsw hsto h1)
    have hlen : i < (σ'.set i (some (V.ref a))).length := by
      rw [List.length_set, J.len]
      exact (List.getElem?_eq_some_iff.mp hi).1
    refine wpAny_mono (hsu.run [] s5 (σ'.set i (some (.ref a))) H' { nx := fun σ6 H6 => σ6 = (σ'.set i (some (.ref a))).set j (some (.ref a)) ∧ H6 = H', rt := fun _ _ => False } S5 ⟨.ref a, by rw [List.getElem?_set_self (by rw [List.length_set] at hlen; exact hlen)], rfl, rfl⟩) (fun f s6 hsp => ?_) (fun _ _ z => False.elim z)
    cases f with
    | next =>
      obtain ⟨σ6, H6, S6, e6, eH⟩ := hsp
      subst e6 eH
      have I6 : Inv X ((a, oe4) :: pins) ((σ'.set i (some (.ref a))).set j (some (.ref a))) H6 s6 := (S6.unsuite ok).pins_of fun p hp => by
        rcases List.mem_cons.mp hp with e | hp
        · exact S6.pin p (List.mem_append_left _ (by rw [e]; exact List.mem_cons_self))
        · exact S6.pin p (List.mem_append_left _ (List.mem_cons_of_mem _ (List.mem_append_right _ hp)))
      refine gone_ok I6 hN hi hln fun s7 I7 => ?_
      obtain ⟨g1, g2, g3, g4, g5⟩ := I7.pin (a, oe4) (List.mem_append_right _ List.mem_cons_self)
      have n0 : X.s_0.heap.get? a = none := by
        cases e : X.s_0.heap.get? a with
        | none => rfl
        | some o =>
          obtain ⟨o', q⟩ := J.base.there a o e (by rw [hx0]; simp)
          rw [nI] at q
          cases q
      have ncl : ∀ x c, X.env.cells.lookup x = some c → c ≠ a := fun x c e z => by
        obtain ⟨v, o, q, _⟩ := J.cell x c e
        rw [z, nI] at q
        cases q
      have npn : ∀ p ∈ X.pn ++ pins, p.1 ≠ a := fun p hp z => by
        obtain ⟨q, _⟩ := J.pin p hp
        rw [z, nI] at q
        cases q
      have I8 : Inv X pins (((σ'.set i (some (.ref a))).set j (some (.ref a))).set i none) H6 s7 := I7.pins_of fun p hp => I7.pin p (List.mem_append_right _ (List.mem_cons_of_mem _ hp))
      have new : ObjOk X.prog X.w (upd H6 a (ExcO a cls d)) s7.heap a (ExcO a cls d) := ⟨⟨oe4, vs4, g1, hz4, hd4⟩, ⟨oe4, g1⟩, fun h1 h2 ⟨o, v, q1, q2⟩ st => ⟨o, v, st o q1, q2⟩⟩
      exact ⟨_, _, Inv.track I8 n0 g2 g3 ncl npn new, hyes J.len a na⟩
    | brk => obtain ⟨_, _, _, z⟩ := hsp; exact z.elim
    | cont => obtain ⟨_, _, _, z⟩ := hsp; exact z.elim
    | ret u => obtain ⟨_, _, _, _, _, z⟩ := hsp; exact z.elim
  refine wpAny_mono ((hb (wHold X.K c i j X.N.length D) (X.pn ++ pins) catch' tk PassesOwn.looking).run [] s σ H D (I.toTry _) h) (fun f s1 hsp => ?_) (fun e s1 he => he)
  cases f with
  | next =>
    obtain ⟨σ', H', J', q⟩ := hsp
    exact wpAny_execs_nil ⟨σ', H', J'.ofTry ok, q⟩
  | brk =>
    obtain ⟨σ', H', J', q⟩ := hsp
    exact ⟨σ', H', J'.ofTry ok, q⟩
  | cont =>
    obtain ⟨σ', H', J', q⟩ := hsp
    exact ⟨σ', H', J'.ofTry ok, q⟩
  | ret u =>
    obtain ⟨v, σ', H', J', r, q⟩ := hsp
    exact ⟨v, σ', H', J'.ofTry ok, r, q⟩
end
end DL

set_option Elab.async false
set_option linter.all false
set_option maxRecDepth 100000
set_option maxHeartbeats 4000000
namespace DL
open PySem L2
variable [Tb]
/-! ### defs that may raise -/
section
variable {P : Program} {w : World} {K : PySem.W.Frag} {mg : Str → Option Value} {base : Heap}
theorem fn_okX {x qual : Str} {st : Stmt} {f : Addr} {fd : FuncData} {N ps : List Str} {k : Nat} {S : PF} {G : DG} (F : Fun K x qual st f fd) (Sc : FnScope N ps (defScope st))
    (hbody : ∀ (cdv : Value) (A : Around) (outer : List Env) (s : Shared) (H : Hp) (E : XK), Room k (A.deeper (PyProof.Rows.envOfC qual (defScope st) s.heap.objs.size f cdv)) → DPSs (cxOf (L2.CX P w) P w K mg base N qual (defScope st) f cdv A outer s H E) (fun cls d _ H' => E cls d H') (defBody st) G)
    (hG : ∀ ds T post ex, ds.length = ps.length → S ds T post ex → G (endsOf post ex) (startD N.length ds T)) : FnOk P w K mg base (L2.CX P w) (k + 1) f fd ps (spD K mg ps.length S) := by
  refine F.okX Sc (fun vs H Q E h => ?_) (fun cdv A outer s H vs Q E hr h => ⟨_, (hbody cdv A outer s H E hr).ps, ?_⟩)
  · obtain ⟨q, B, ds, T, post, ex, h1, _⟩ := h
    exact h1
  · obtain ⟨q, B, ds, T, post, ex, h1, b, r, hS, c1, c2, c3⟩ := h
    refine ⟨q, [], H, B, _, B, _, start_at b r, hG ds T post ex (by rw [← repL_len r, h1]) hS, ⟨fun σ H s B t l n => c1 _ _ _ _ _ t.bs non_rep n, fun _ _ _ _ _ _ z => z.elim, fun _ _ _ _ _ _ z => z.elim, fun σ v H s B d t l r n => c1 _ _ _ _ _ t.bs r n, fun σ p o H s B d t l hp ro n => c2 _ _ _ _ _ _ t.bs hp ro n, fun σ n fs s H B cls dd t l x n' => c3 _ _ _ _ _ _ _ t.bs x n'⟩⟩
end
/-- an own error class without __init__ -/
structure ExcT (K : PySem.W.Frag) (mg : Str → Option Value) (n : Str) : Prop where
  ex : ∃ C, mg n = some (.ref C) ∧ PySem.W.excIn K C [.type "ValueError", .type "Exception", .type "BaseException", .type "object"] "ValueError.__new__" = true ∧ PySem.W.keepIn K (.ref C) = true ∧ PySem.W.subIn K (.ref C) (.type "BaseException") = some true ∧ PySem.W.typeIn K (.ref C) = some (.type "type")
section
variable {X : Cx} {W : WX} {a b e : Expr} {es : List Expr} {Fa Fb : DF} {G : DFA} {pos p : Pos} {st : Stmt}
def gRaise (n : Str) : DG := fun E s => E.ex n [] s
theorem g_raise {n m : Str} {j : Nat} {p2 p3 : Pos} (hc : X.calm = true) (tk : Takes X W) (T : ExcT X.K X.mg n) (hg : Gl X n := by rfl) (hdb : (n == ("__debug__" : Str)) = false := by decide) :
    DPS X W (.Raise (some (.Call (.Name n p) [.Constant (.str m) j p2] [] p3)) none pos) (gRaise n) := by
  obtain ⟨C, h1, h2, h3, h4, h5⟩ := T.ex
  refine ⟨ps_mono (fun D σ H ⟨q, L, H0, B0, s, B, E, t, g, r⟩ => ?_) (ps_raise hc tk (pmk_own PySem.F.excBase_ValueError h2 h1 h3 (raises_own h4 h5) hg hdb))⟩
  exact r.ex σ n [] s H B _ _ t (Le.refl B) ⟨C, [], rfl, h1, rfl, by unfold RepF; rfl⟩ g
/-- a statement that is never reached -/
def gNever : DG := fun _ _ => False
theorem g_never : DPS X W st gNever := ⟨ps_mono (fun D σ H ⟨q, L, H0, B0, s, B, E, t, g, r⟩ => g.elim) ps_never⟩
/-! ### calls of defs that may raise; new instances -/
abbrev wE (E : XK) : WX := fun cls d _ H => E cls d H
/-- in a place where nothing is raised -/
theorem d_callX0 {k n : Nat} {x : Str} {ps : List Str} {S : PF} (F : Kn X.prog X.w X.K X.mg X.base (L2.CX X.prog X.w) k x ps S) (hr : Room k X.A) (ha : DPA X W (e :: es) G) (hn : ps.length = n := by rfl) (hg : Gl X x := by rfl) (hdb : (x == ("__debug__" : Str)) = false := by decide)
    (he : starEach (e :: es) X.env = (false, eval e X.env) :: starEach es X.env := by rfl) (hpl : (backTo pos (starEach es X.env)).any (·.1) = false := by rfl) : DPE X W (.Call (.Name x p) (e :: es) [] pos) (dCall S n G) := by
  subst hn
  obtain ⟨f, fd, h1, h2, h3, h4⟩ := F.ex
  refine ⟨pe_mono (fun σ H Q ⟨q, L, H0, B0, s, B, P, ex, t, f, rt, e⟩ => ?_) (pe_call h1 hr hg h2 h3 h4 .nil passL ha.pa hdb he hpl)⟩
  refine ⟨q, L, H0, B0, s, B, _, ex, t, f, fun vs H1 ds s1 B1 t1 l1 r1 p1 => ?_, e⟩
  show spD X.K X.mg ps.length S (vs ++ []) H1 Q E0
  rw [List.append_nil]
  exact sp_of t1 r1 p1.1 p1.2 (fun v H' B' d T' t2 l2 r2 p2 => rt _ _ _ _ _ t2 (l1.trans l2) r2 p2)
    (fun p o H' B' d T' t2 l2 hp ro p2 => rt _ _ _ _ _ (t2.alloc hp ro.ntb) (l1.trans (l2.trans (Le.upd (t2.bs.nB hp)))) ((ro.mono (Le.upd (t2.bs.nB hp))).rep upd_same) p2) (fun _ _ _ _ _ _ _ _ _ _ z => z.elim)
def dCallX (S : PF) (n : Nat) (G : DFA) : DF := fun s P ex => G s (fun ds s1 => ds.length = n ∧ S ds s1.T (fun x T' => P x.d (s1.tick T')) (fun m fs T' => ex m fs (s1.tick T'))) ex
theorem d_callX {E : XK} {k n : Nat} {x : Str} {ps : List Str} {S : PF} (tk : Takes X (wE E)) (F : Kn X.prog X.w X.K X.mg X.base (L2.CX X.prog X.w) k x ps S) (hr : Room k X.A) (ha : DPA X (wE E) (e :: es) G) (hn : ps.length = n := by rfl) (hg : Gl X x := by rfl) (hdb : (x == ("__debug__" : Str)) = false := by decide)
    (he : starEach (e :: es) X.env = (false, eval e X.env) :: starEach es X.env := by rfl) (hpl : (backTo pos (starEach es X.env)).any (·.1) = false := by rfl) : DPE X (wE E) (.Call (.Name x p) (e :: es) [] pos) (dCallX S n G) := by
  subst hn
  obtain ⟨f, fd, h1, h2, h3, h4⟩ := F.ex
  refine ⟨pe_mono (fun σ H Q ⟨q, L, H0, B0, s, B, P, ex, t, f, rt, e⟩ => ?_) (pe_call h1 hr hg h2 h3 h4 .nil (passes_call tk fun _ _ _ _ z => z) ha.pa hdb he hpl)⟩
  refine ⟨q, L, H0, B0, s, B, _, ex, t, f, fun vs H1 ds s1 B1 t1 l1 r1 p1 => ?_, e⟩
  show spD X.K X.mg ps.length S (vs ++ []) H1 Q E
  rw [List.append_nil]
  exact sp_of t1 r1 p1.1 p1.2 (fun v H' B' d T' t2 l2 r2 p2 => rt _ _ _ _ _ t2 (l1.trans l2) r2 p2)
    (fun p o H' B' d T' t2 l2 hp ro p2 => rt _ _ _ _ _ (t2.alloc hp ro.ntb) (l1.trans (l2.trans (Le.upd (t2.bs.nB hp)))) ((ro.mono (Le.upd (t2.bs.nB hp))).rep upd_same) p2)
    (fun m fs cls dd H' B' T' t2 l2 x z => e m fs _ H' B' cls dd t2 (l1.trans l2) x z)
end
/-- what __init__ promises: the instance that it was handed is filled -/
def spI (K : PySem.W.Frag) (mg : Str → Option Value) (cn : Str) (n : Nat) (S : PF) : Sp := fun vs H Q E => ∃ q B x C dx ds T post ex vs', vs = .ref x :: vs' ∧ vs'.length = n ∧ mg cn = some (.ref C) ∧ H x = some (.ins C dx []) ∧ Bs ⟨K, mg, q⟩ (Hp.less H x) B (Hp.less H x) B T ∧ RepL ⟨K, mg, q⟩ B ds vs' ∧ S ds T post ex ∧
  (∀ o H' B' d T', Bs ⟨K, mg, q⟩ (Hp.less H x) B H' B' T' → H' x = none → RepO ⟨K, mg, q⟩ B' d o → post (.ow d) T' → Q .non (upd H' x o)) ∧
  (∀ m fs cls dd H' B' T', Bs ⟨K, mg, q⟩ (Hp.less H x) B H' B' T' → ExcR ⟨K, mg, q⟩ B' m fs cls dd → ex m fs T' → E cls dd H')
structure KnI (P : Program) (w : World) (K : PySem.W.Frag) (mg : Str → Option Value) (base : Heap) (CX : CXT) (k : Nat) (x : Str) (ps : List Str) (S : PF) : Prop where
  ex : ∃ C f fd, Mk K C f ∧ FnOk P w K mg base CX k f fd ("self" :: ps) (spI K mg x ps.length S) ∧ mg x = some (.ref C) ∧ Binds K fd ("self" :: ps) []
section
variable {X : Cx} {W : WX} {a b e : Expr} {es : List Expr} {Fa Fb : DF} {G : DFA} {pos p : Pos} {st : Stmt}
theorem less_new {H : Hp} {x dx C : Addr} (nx : H x = none) (ne : dx ≠ x) : Hp.less (upd (upd H dx (.own x)) x (.ins C dx [])) x = upd H dx (.own x) := by
  funext a
  by_cases z : a = x
  · rw [z, less_same, upd_ne ne.symm, nx]
  · rw [less_ne z, upd_ne z]
/-- a new instance, from its arguments on -/
theorem spI_of {q : Dr} {L : List (Addr × HO)} {H0 B0 H1 B1 : Hp} {σ : L2.St} {s1 : DS} {vs : List V} {ds : List D} {n : Nat} {S : PF} {Q : VK} {E : XK} {P : D → DS → Prop} {ex : XD} {cn : Str} {C x dx : Addr}
    (t : At (cx X q) L H0 B0 σ H1 s1 B1) (r : RepL (cx X q) B1 ds vs) (hl : ds.length = n) (hm : X.mg cn = some (.ref C)) (nx : H1 x = none) (ndx : H1 dx = none) (ne : dx ≠ x) (h : S ds s1.T (fun y T' => match y with | .ow d => P d (s1.tick T') | _ => False) (fun m fs T' => ex m fs (s1.tick T')))
    (h2 : ∀ o H' B' d T', At (cx X q) L H0 B0 σ H' (s1.tick T') B' → Le B1 B' → H' x = none → RepO (cx X q) B' d o → P d (s1.tick T') → Q (.ref x) (upd H' x o))
    (h3 : ∀ m fs cls dd H' B' T', At (cx X q) L H0 B0 σ H' (s1.tick T') B' → Le B1 B' → ExcR (cx X q) B' m fs cls dd → ex m fs (s1.tick T') → E cls dd H') :
    spI X.K X.mg cn n S (.ref x :: vs) (upd (upd H1 dx (.own x)) x (.ins C dx [])) (fun v H2 => v = .non ∧ Q (.ref x) H2) E := by
  have b0 : Bs (cx X q) H0 B0 (upd H1 dx (.own x)) B1 s1.T := t.bs.own ndx
  have keep : ∀ {b o}, H1 b = some o → (upd H1 dx (.own x)) b = some o := fun {b o} e => by rw [upd_ne (ne_of_none e ndx)]; exact e
  have t0 : At (cx X q) L H0 B0 σ (upd H1 dx (.own x)) s1 B1 := by
    refine ⟨b0, t.len, t.fz, fun i d h => ?_, t.inj, fun y hy => ?_⟩
    · obtain ⟨p, o, g1, g2, g3, g4, g5⟩ := t.ow i d h
      exact ⟨p, o, g1, g2, g3, keep g4, g5⟩
    · obtain ⟨g1, g2, g3, g4, g5⟩ := t.hold y hy
      exact ⟨keep g1, g2, g3, g4, g5⟩
  refine ⟨q, B1, x, C, dx, ds, s1.T, _, _, vs, rfl, by rw [repL_len r, hl], hm, upd_same, ?_, r, h, fun o H' B' d T' b hx ro pp => ⟨rfl, ?_⟩, fun m fs cls dd H' B' T' b xr z => ?_⟩
  · rw [less_new nx ne]
    exact b0.self
  · rw [less_new nx ne] at b
    exact h2 o H' B' d T' (t0.call b) b.leB hx ro pp
  · rw [less_new nx ne] at b
    exact h3 m fs cls dd H' B' T' (t0.call b) b.leB xr z
def dMake (S : PF) (n : Nat) (G : DFA) : DF := fun s P ex => G s (fun ds s1 => ds.length = n ∧ S ds s1.T (fun y T' => match y with | .ow d => P d (s1.tick T') | _ => False) (fun m fs T' => ex m fs (s1.tick T'))) ex
/-- C(..), in a place where it may raise -/
theorem d_make {E : XK} {k n : Nat} {x : Str} {ps : List Str} {S : PF} (tk : Takes X (wE E)) (F : KnI X.prog X.w X.K X.mg X.base (L2.CX X.prog X.w) k x ps S) (hr : Room (k + 1) X.A) (ha : DPA X (wE E) (e :: es) G) (hn : ps.length = n := by rfl) (hg : Gl X x := by rfl) (hdb : (x == ("__debug__" : Str)) = false := by decide)
    (he : starEach (e :: es) X.env = (false, eval e X.env) :: starEach es X.env := by rfl) (hpl : (backTo pos (starEach es X.env)).any (·.1) = false := by rfl) : DPO X (wE E) (.Call (.Name x p) (e :: es) [] pos) (dMake S n G) := by
  subst hn
  obtain ⟨C, f, fd, M, h1, h2, h4⟩ := F.ex
  refine ⟨pe_mono (fun σ H Q ⟨q, L, H0, B0, s, B, P, ex, t, f, rt, e⟩ => ?_) (pe_make M h1 hr hg h2 h4 .nil (passes_call tk fun _ _ _ _ z => z) ha.pa hdb he hpl)⟩
  refine ⟨q, L, H0, B0, s, B, _, ex, t, f, fun vs H1 ds s1 B1 t1 l1 r1 p1 => fun x dx nx ndx ne => ?_, e⟩
  rw [List.append_nil]
  exact spI_of t1 r1 p1.1 h2 nx ndx ne p1.2 (fun o H' B' d T' t2 l2 hx ro pp => rt _ _ _ _ _ _ t2 (l1.trans l2) hx ro pp) (fun m fs cls dd H' B' T' t2 l2 xr z => e m fs _ H' B' cls dd t2 (l1.trans l2) xr z)
/-- .. where nothing is raised -/
def dMake0 (S : PF) (n : Nat) (G : DFA) : DF := fun s P ex => G s (fun ds s1 => ds.length = n ∧ S ds s1.T (fun y T' => match y with | .ow d => P d (s1.tick T') | _ => False) noX) ex
theorem d_make0 {k n : Nat} {x : Str} {ps : List Str} {S : PF} (F : KnI X.prog X.w X.K X.mg X.base (L2.CX X.prog X.w) k x ps S) (hr : Room (k + 1) X.A) (ha : DPA X W (e :: es) G) (hn : ps.length = n := by rfl) (hg : Gl X x := by rfl) (hdb : (x == ("__debug__" : Str)) = false := by decide)
    (he : starEach (e :: es) X.env = (false, eval e X.env) :: starEach es X.env := by rfl) (hpl : (backTo pos (starEach es X.env)).any (·.1) = false := by rfl) : DPO X W (.Call (.Name x p) (e :: es) [] pos) (dMake0 S n G) := by
  subst hn
  obtain ⟨C, f, fd, M, h1, h2, h4⟩ := F.ex
  refine ⟨pe_mono (fun σ H Q ⟨q, L, H0, B0, s, B, P, ex, t, f, rt, e⟩ => ?_) (pe_make M h1 hr hg h2 h4 .nil passL ha.pa hdb he hpl)⟩
  refine ⟨q, L, H0, B0, s, B, _, ex, t, f, fun vs H1 ds s1 B1 t1 l1 r1 p1 => fun x dx nx ndx ne => ?_, e⟩
  rw [List.append_nil]
  exact spI_of (ex := fun _ _ _ => False) t1 r1 p1.1 h2 nx ndx ne p1.2 (fun o H' B' d T' t2 l2 hx ro pp => rt _ _ _ _ _ _ t2 (l1.trans l2) hx ro pp) (fun m fs cls dd H' B' T' t2 l2 xr z => z.elim)
/-! ### an attribute of an instance -/
def dFld (cn f : Str) (F : DF) : DF := fun s P ex => F s (fun d s1 => match d with
  | .obj n fs => n = cn ∧ ∃ v, fs.lookup f = some v ∧ P v s1
  | _ => False) ex
theorem repF_look {c : Ct} {B : Hp} : ∀ {fs : List (Str × D)} {xs : List (Str × V)} {f : Str} {d : D}, RepF c B fs xs → fs.lookup f = some d → ∃ v, xs.lookup f = some v ∧ Rep c B d v
  | [], _, f, d, _, h => by simp at h
  | (g, e) :: fs, _, f, d, r, h => by
    unfold RepF at r
    obtain ⟨x, xr, rfl, h1, h2⟩ := r
    rw [List.lookup_cons] at h ⊢
    cases q : f == g with
    | true => rw [q] at h; cases h; exact ⟨x, rfl, h1⟩
    | false => rw [q] at h; exact repF_look h2 h
theorem d_fld {cn f : Str} (T : ∃ C, X.mg cn = some (.ref C) ∧ Cls X.K C ∧ NoAttr X.K C f) (ha : DPE X W a Fa) (hb : attributeBase a f X.env (eval a X.env) = eval a X.env := by rfl) : DPE X W (.Attribute a f pos) (dFld cn f Fa) := by
  refine ⟨pe_mono (fun σ H Q ⟨q, L, H0, B0, s, B, P, ex, t, f', rt, e⟩ => ⟨q, L, H0, B0, s, B, _, ex, t, f', fun v H1 x s1 B1 t1 l1 r1 p1 => ?_, e⟩) (pe_fld ha.pe hb)⟩
  dsimp only at p1
  split at p1
  · obtain ⟨rfl, y, h1, p1⟩ := p1
    unfold Rep at r1
    obtain ⟨a, C, dx, xs, rfl, m, hH, hF⟩ := r1
    obtain ⟨v, h2, h3⟩ := repF_look hF h1
    obtain ⟨C', m', c1, c2⟩ := T
    have e : C = C' := by
      have z := m.symm.trans m'
      cases z
      rfl
    subst e
    exact ⟨a, C, dx, xs, v, rfl, t1.bs.leH _ _ hH, c1, c2, h2, rt _ _ _ _ _ t1 l1 h3 p1⟩
  · exact p1.elim
end
end DL

set_option Elab.async false
set_option linter.all false
set_option maxRecDepth 100000
set_option maxHeartbeats 4000000
namespace DL
open PySem L2
variable [Tb]
/-! ### _law_caught: what a call raises, as a value -/
def TCaught (K : PySem.W.Frag) (CP : Addr) : (XK → Hp → VK → Prop) → Hp → VK → Prop := fun tl H Q =>
  tl (fun cls d H' => PySem.W.exmOne K cls (.ref CP) = some true ∧ ∀ a, H' a = none → Q (.ref a) (upd H' a (ExcO a cls d))) H (fun _ H' => ∃ v, (some (some V.non) : Option (Option V)) = some (some v) ∧ Q v H')
theorem nd0 : (["work", "caught", "error"] : List Str).Nodup := by decide +kernel
section
variable {X : Cx}
theorem caught_gives {q : Str} {sg : Scope} {g CP : Addr} {cdg : Value} {j : Nat} {p1 p2 p3 p4 p5 p6 p7 p8 p9 p10 p11 p12 p13 p14 : Pos} (h1 : sg.names.lookup ("caught" : Str) = some .local) (h2 : sg.names.lookup ("error" : Str) = some .local) (hge : sg.names.lookup ("PullError" : Str) = some .globalImplicit) (hme : X.mg "PullError" = some (.ref CP)) :
    LamX.GivesTo X ["work", "caught", "error"] "_law_caught" sg g cdg
      [.Assign [.Name "caught" p1] (.Constant .none j p2) p3, .Try [.Expr (.Call (.Name "work" p4) [] [] p5) p6] [.ExceptHandler (some (.Name "PullError" p7)) (some "error") [.Assign [.Name "caught" p8] (.Name "error" p9) p10] p11] [] [] p12, .Return (some (.Name "caught" p13)) p14]
      "work" q (TCaught X.K CP) := by
  intro f c' s H Q tl act hc h
  let Y : Cx := (cxOf C8.CX0 X.prog X.w X.K X.mg X.base ["work", "caught", "error"] "_law_caught" sg g cdg X.A X.stack s H C8.E0).nox
  have nd : Y.N.Nodup := nd0
  have hgl : Gl Y "PullError" := hge
  have e1 : Loc Y.env.scope "caught" := .inl h1
  refine ⟨_, pss_cons (X := Y) (ps_set (i := 1) nd rfl e1 pe_non) (pss_cons (ps_try_hold (X := Y) (i := 2) (j := 1) (c := .ref CP)
    (tb := fun W D σ H => ∃ Ech : XK, (∀ cls d σ' H', Ech cls d H' → W cls d σ' H') ∧ σ[0]? = some (some (.ref f)) ∧ H c' = some (LamX.CodeO c' q) ∧ tl Ech H (fun _ H' => D.nx σ H'))
    rfl rfl nd rfl h2 rfl h1 ⟨hgl, by decide, .inl hme⟩ rfl rfl (by rfl) (by rfl) (by decide) (by decide) (by rfl) (fun W pn xe tk _ => ?_)) (pss_one (ps_ret (pe_var (i := 1) rfl (.inl h1) (by decide) (by decide))))), ?_⟩
  · constructor
    intro pins s' σ H' D I h'
    obtain ⟨Ech, hW, g1, g2, g3⟩ := h'
    have hp := act W pn xe Ech p4 p5 tk hW
    have hq := pss_one (ps_expr (pos := p6) hp)
    exact hq.run pins s' σ H' D I ⟨g1, g2, g3⟩
  · refine ⟨fun cls d H' => PySem.W.exmOne X.K cls (.ref CP) = some true ∧ ∀ a, H' a = none → Q (.ref a) (upd H' a (ExcO a cls d)), fun cls d σ' H' ⟨e1, e2⟩ => ⟨e1, fun hl a ha => ⟨_, ?_, e2 a ha⟩⟩, rfl, hc, ?_⟩
    · have hl : σ'.length = 3 := hl
      rw [List.getElem?_set_ne (by decide), List.getElem?_set_self (by rw [List.length_set, hl]; decide)]
    · exact h
end
end DL

set_option Elab.async false
set_option linter.all false
set_option maxRecDepth 100000
set_option maxHeartbeats 4000000
namespace DL
open PySem L2
variable [Tb]
/-! ### a lambda handed to _law_caught -/
theorem ntb_code {a : Addr} {q : Str} : ∀ ps, LamX.CodeO a q ≠ .tbl ps := fun ps z => by unfold LamX.CodeO at z; cases z
theorem ntb_exc {a : Addr} {cls : Value} {d : Option Addr} : ∀ ps, ExcO a cls d ≠ .tbl ps := fun ps z => by unfold ExcO at z; cases z
section
variable {c : Ct} {L : List (Addr × HO)} {H0 B0 H B H1 : Hp} {σ : L2.St} {s : DS} {T : Nat}
theorem Fr.ofExt {p : Addr} (e : LamX.ExtN H H1) (h : Fr H1 p) : Fr H p := fun o ho => Classical.byContradiction fun n => by
  have q := e p o ho fun ps z => n ⟨ps, z⟩
  obtain ⟨ps, z⟩ := h o q
  exact n ⟨ps, z⟩
theorem DrawR.ext (d : DrawR c H T) (e : LamX.ExtN H H1) : DrawR c H1 T := by
  unfold DrawR at d ⊢
  cases q : c.q.dr with
  | none => trivial
  | some x =>
    obtain ⟨a, g, l⟩ := x
    rw [q] at d
    obtain ⟨h1, h2, h3, gs, ls, le, tu, q1, q2, q3, qr⟩ := d
    exact ⟨h1, h2, h3, gs, ls, le, tu, e _ _ q1 (fun ps z => by unfold stH at z; cases z), e _ _ q2 (fun ps z => by cases z), e _ _ q3 (fun ps z => by cases z), qr⟩
theorem Bs.ext (b : Bs c H0 B0 H B T) (e : LamX.ExtN H H1) (t : LamX.Tabs Tb.tb H1) : Bs c H0 B0 H1 B T :=
  ⟨b.leB, b.new, fun a o h1 h2 h3 => e _ _ (b.frame a o h1 h2 h3) h3, fun a o h => e _ _ (b.leH a o h) fun ps z => b.ntb a ps (by rw [h, z]), b.avoid, b.ntb, b.dr0, fun a h f => b.some0 a h (f.ofExt e), b.draw.ext e, t⟩
theorem At.ext (t : At c L H0 B0 σ H s B) (e : LamX.ExtN H H1) (ts : LamX.Tabs Tb.tb H1) : At c L H0 B0 σ H1 s B :=
  ⟨t.bs.ext e ts, t.len, t.fz, fun i d h => by
    obtain ⟨p, o, g1, g2, g3, g4, g5⟩ := t.ow i d h
    exact ⟨p, o, g1, g2, g3, e _ _ g4 g5.ntb, g5⟩, t.inj, fun x hx => by
    obtain ⟨g1, g2, g3, g4, g5⟩ := t.hold x hx
    exact ⟨e _ _ g1 g4, g2, g3, g4, g5⟩⟩
end
/-- the def _law_caught of a law: it calls what it gets, and hands back a PullError that comes out -/
structure KnC (K : PySem.W.Frag) (mg : Str → Option Value) (CP : Addr) : Prop where
  ex : ∃ g st fd, Fun K "_law_caught" "_law_caught" st g fd ∧ mg "_law_caught" = some (.ref g) ∧ PySem.W.keepIn K (.ref g) = true ∧ Binds K fd ["work"] [] ∧ FnScope ["work", "caught", "error"] ["work"] (defScope st) ∧ Vis (defScope st) "work" ∧
    ∀ (X : Cx) (cdv : Value) (q : Str), X.mg = mg → LamX.GivesTo X ["work", "caught", "error"] "_law_caught" (defScope st) g cdv (defBody st) "work" q (TCaught X.K CP)
/-- where a lambda may stand: the maker's code object, its table -/
structure LamIn (X : Cx) : Prop where
  ex : ∃ c P, X.env.code = .ref c ∧ LamX.TabB X.base X.mg c P ∧ (P, X.env.qual ++ "<lambda>") ∈ Tb.tb ∧ ∀ p ∈ Tb.tb, p.1 = P → p.2 = X.env.qual ++ "<lambda>"
def dCaught (ms : List Str) (F : DF) : DF := fun s P _ => F s (fun _ s1 => P .non s1) (fun m fs s1 => m ∈ ms ∧ P (.exc m fs) s1)
section
variable {X : Cx} {W : WX}
theorem d_caught {CP : Addr} {ms : List Str} {k : Nat} {params : Arguments} {body : Expr} {scope : Scope} {F : DF} {p lpos pos : Pos} (C : KnC X.K X.mg CP) (hms : ∀ m ∈ ms, ∀ C, X.mg m = some (.ref C) → PySem.W.exmOne X.K (.ref C) (.ref CP) = some true) (I : LamIn X) (hr : Room (k + 2) X.A) (L : LamX.LamS X.env.scope scope)
    (hbody : ∀ (A : Around) (outer : List Env) (s : Shared) (H : Hp) (E : XK) (f c' : Addr), Room k (A.deeper (LamX.lamEnv X scope s.heap.objs.size f c')) → DPE (LamX.lamCx X A outer s H E scope f c') (wE E) body F)
    (hg : Gl X "_law_caught" := by rfl) (hdef : defaultsOf params X.env = ([], []) := by rfl)
    (hbind : ∀ (q : Str) (cl : List (Str × Addr)) (pm cv ctv : Value), bindArgs (PySem.W.kla_fn "<lambda>" q params body scope cl pm cv ctv) ⟨[], []⟩ = pure [] := by intros; rfl) :
    DPE X W (.Call (.Name "_law_caught" p) [.Lambda params body scope lpos] [] pos) (dCaught ms F) := by
  obtain ⟨g, st, fd, Fn, mg, kg, hb, Sg, hva, gives⟩ := C.ex
  obtain ⟨oc, od, kV, doc, pm, an, cdv, ct, osl, rfl, lk, hcd⟩ := Fn.ex
  obtain ⟨c, Pt, hcode, TB, hmT, hu⟩ := I.ex
  refine ⟨pe_mono (fun σ H Q ⟨q, L, H0, B0, s, B, P, ex, t, f, rt, e⟩ => ?_) (LamX.pe_lamcall (X := X) (T := Tb.tb) (t := fun E => LftE X (wE E) F) hg mg kg lk hcd hb Sg rfl hva (gives X cdv _ rfl) TB hcode hmT hu hr L hdef hbind (fun A outer s H E f c' hr' => (hbody A outer s H E f c' hr').pe))⟩
  refine ⟨t.bs.tabs, fun H1 eN T1 => ⟨q, L, H0, B0, s, B, _, _, t.ext eN T1, f, fun v H2 d s2 B2 t2 l2 r2 p2 => ⟨.non, rfl, ?_⟩, fun n fs s2 H2 B2 cls dd t2 l2 x z => ?_⟩⟩
  · exact rt _ _ _ _ _ t2 l2 (by unfold Rep; rfl) p2
  · obtain ⟨hm, hp⟩ := z
    obtain ⟨C, xs, rfl, hmC, hdd, hF⟩ := x
    refine ⟨hms n hm C hmC, fun a ha => ?_⟩
    have hB := t2.bs.nB ha
    refine rt _ _ _ _ _ (t2.alloc ha ntb_exc) (l2.trans (Le.upd hB)) ?_ hp
    unfold Rep
    refine ⟨a, C, dd, xs, rfl, hmC, upd_same, ?_, hF.mono (Le.upd hB)⟩
    cases dd with
    | some d => exact Le.upd hB _ _ hdd
    | none => exact hdd
end
/-- a def that makes lambdas: its code object is known -/
structure FunL (K : PySem.W.Frag) (x qual : Str) (st : Stmt) (f : Addr) (fd : FuncData) (c : Addr) : Prop where
  ex : ∃ (oc : Value) (od : Option Addr) (kV doc pm : Value) (an : Option Addr) (ct : Value) (osl : Array (Option Value)),
    fd = PySem.W.fnOf x qual (defArgs st) (defBody st) (defScope st) .none kV doc pm an (.ref c) ct ∧ K.lookup f = some ⟨oc, od, .func fd, osl⟩ ∧ PySem.W.codeIn K (.ref c) qual = true
section
variable {P : Program} {w : World} {K : PySem.W.Frag} {mg : Str → Option Value} {base : Heap}
/-- THE RULE for such a def: no error leaves it -/
theorem fn_okL {x qual : Str} {st : Stmt} {f c : Addr} {fd : FuncData} {N ps : List Str} {k : Nat} {S : PF} {G : DG} (F : FunL K x qual st f fd c) (Sc : FnScope N ps (defScope st))
    (hbody : ∀ (A : Around) (outer : List Env) (s : Shared) (H : Hp) (E : XK), Room k (A.deeper (PyProof.Rows.envOfC qual (defScope st) s.heap.objs.size f (.ref c))) → DPSs (cxOf CX0 P w K mg base N qual (defScope st) f (.ref c) A outer s H E).nox W0 (defBody st) G)
    (hG : ∀ ds T post ex, ds.length = ps.length → S ds T post ex → G (endsOf post (fun _ _ _ => False)) (startD N.length ds T)) : FnOk P w K mg base CX0 (k + 1) f fd ps (spD K mg ps.length S) := by
  obtain ⟨oc, od, kV, doc, pm, an, ct, osl, rfl, lk, hcd⟩ := F.ex
  refine fn_of lk hcd Sc (fun vs H Q E h => ?_) (fun A outer s H vs Q E hr h => ⟨_, (hbody A outer s H E hr).ps.nox, ?_⟩)
  · obtain ⟨q, B, ds, T, post, ex, h1, _⟩ := h
    exact h1
  · obtain ⟨q, B, ds, T, post, ex, h1, b, r, hS, c1, c2, c3⟩ := h
    refine ⟨q, [], H, B, _, B, _, start_at b r, hG ds T post ex (by rw [← repL_len r, h1]) hS, ⟨fun σ H s B t l n => c1 _ _ _ _ _ t.bs non_rep n, fun _ _ _ _ _ _ z => z.elim, fun _ _ _ _ _ _ z => z.elim, fun σ v H s B d t l r n => c1 _ _ _ _ _ t.bs r n, fun σ p o H s B d t l hp ro n => c2 _ _ _ _ _ _ t.bs hp ro n, fun _ _ _ _ _ _ _ _ _ _ _ z => z.elim⟩⟩
end
end DL

set_option Elab.async false
set_option linter.all false
set_option maxRecDepth 100000
set_option maxHeartbeats 4000000
namespace DL
open PySem L2 PyProof.Rows
variable [Tb]
/-! ### isinstance with an own class -/
/-- what an exception class must say for isinstance -/
structure ExcI (K : PySem.W.Frag) (D : Addr) : Prop where
  hc : (PySem.W.clsIn K D).isSome = true
  hg : PySem.W.findIn K (.ref D) "__getattribute__" = some (some (.builtin "BaseException.__getattribute__"))
  hk : PySem.W.findIn K (.ref D) "__getattr__" = some none
  hs : PySem.W.subIn K (.ref D) (.type "BaseException") = some true
  ha : PySem.W.findIn K (.ref D) "__class__" = some (some (.builtin "object.__class__"))
  hn : PySem.W.specialIn K (.builtin "object.__class__") "__get__" = some (some (.builtin "getset_descriptor.__get__"))
  ht : PySem.W.takesIn K (.builtin "object.__class__") = some true
  hm : PySem.W.mroIn K D (.type "object") = some true
theorem exc_inst {P : Program} {w : World} {H : Hp} {s : Shared} {a C : Addr} {d : Option Addr} (hok : HOk P w H s.heap) (ha : H a = some (ExcO a (.ref C) d)) (hd : ∀ dd, d = some dd → ∃ xs, H dd = some (.xd xs)) : ∃ oe od, PySem.W.InstAt s.heap a oe C od := by
  obtain ⟨⟨oe, vs, h1, hz, hdt⟩, _⟩ := (show ObjOk P w H s.heap a (ExcO a (.ref C) d) from hok a _ ha)
  cases d with
  | none => exact ⟨oe, none, h1, hz.1, by unfold PySem.W.notCls; rw [hdt] <;> rfl, by rw [hz.2]; trivial⟩
  | some dd =>
    obtain ⟨xs, hx⟩ := hd dd rfl
    obtain ⟨mA, hns, _⟩ := (show ObjOk P w H s.heap dd (.xd xs) from hok dd _ hx)
    obtain ⟨od, ho, _⟩ := lookIn_ns hns
    exact ⟨oe, some od, h1, hz.1, by unfold PySem.W.notCls; rw [hdt] <;> rfl, by rw [hz.2]; exact ho⟩
def rIsOwn (K : PySem.W.Frag) : List V → Hp → VK → Prop := fun xs H Q => ∃ (x : V) (C : Addr) (t : Value) (b : Bool), xs = [x, .ref C] ∧ PySem.W.kitOne K t (.ref C) = some b ∧
  (TyX K H x t ∨ ∃ a Ce d, x = .ref a ∧ t = .ref Ce ∧ H a = some (ExcO a (.ref Ce) d) ∧ (∀ dd, d = some dd → ∃ xs, H dd = some (.xd xs)) ∧ ExcI K Ce) ∧ Q (.bl b) H
theorem call_isOwn {X : Cx} : CallR X (.builtin "isinstance") (rIsOwn X.K) := by
  intro pins s σ H xs us Q I r h
  obtain ⟨x, C, t, b, rfl, e, ty | ⟨a, Ce, d, rfl, rfl, ha, hd, ei⟩, q⟩ := h
  · obtain ⟨u1, u2, rfl, r1, r2⟩ := vals2 r
    cases (show u2 = Value.ref C from r2)
    obtain ⟨P, Z, p, hx⟩ := kit_of I r1 ty
    exact PySem.W.kia_one Z I.kIn p e hx fun tk => ⟨.bl b, H, I.tok tk, rfl, q⟩
  · obtain ⟨u1, u2, rfl, r1, r2⟩ := vals2 r
    cases (show u2 = Value.ref C from r2)
    cases (show u1 = Value.ref a from r1)
    obtain ⟨oe, od, J⟩ := exc_inst I.hok ha hd
    exact PySem.W.kia_one (PySem.W.kitx_exc ei.hc ei.hg ei.hk ei.hs ei.ha ei.hn ei.ht ei.hm) I.kIn J e (fun z => nomatch z) fun tk => ⟨.bl b, H, I.tok tk, rfl, q⟩
/-- the facts of a class that isinstance asks about: of own instances (os), of own errors (es) -/
structure IsO (K : PySem.W.Frag) (mg : Str → Option Value) (cn : Str) (os es : List (Str × Bool)) : Prop where
  ex : ∃ C, mg cn = some (.ref C) ∧ (∀ n ∈ ["NoneType", "bool", "int", "str", "tuple", "list", "dict"], PySem.W.kitOne K (.type n) (.ref C) = some false) ∧
    (∀ n b, os.lookup n = some b → ∃ Cn, mg n = some (.ref Cn) ∧ C8.InsC K Cn ∧ PySem.W.kitOne K (.ref Cn) (.ref C) = some b) ∧
    (∀ n b, es.lookup n = some b → ∃ Cn, mg n = some (.ref Cn) ∧ ExcI K Cn ∧ PySem.W.kitOne K (.ref Cn) (.ref C) = some b)
def isO (os es : List (Str × Bool)) : D → Option Bool
  | .obj n _ => os.lookup n
  | .exc n _ => es.lookup n
  | d => (tyName d).map fun _ => false
def dIsO (os es : List (Str × Bool)) (F : DF) : DF := fun s P ex => F s (fun d s1 => ∃ b, isO os es d = some b ∧ P (.bl b) s1) ex
theorem tyName_in {d : D} {t : String} (h : tyName d = some t) : t ∈ ["NoneType", "bool", "int", "str", "tuple", "list", "dict"] := by
  cases d <;> cases h <;> decide
section
variable {X : Cx} {W : WX} {a : Expr} {Fa : DF} {pos p : Pos}
theorem d_isO {x : Str} {os es : List (Str × Bool)} {p2 : Pos} (hm : X.mg "isinstance" = none) (T : IsO X.K X.mg x os es) (ha : DPE X W a Fa) (hg : Gl X "isinstance" := by rfl) (hgx : Gl X x := by rfl) (hdb : (x == ("__debug__" : Str)) = false := by decide)
    (he : starEach [a, .Name x p2] X.env = (false, eval a X.env) :: starEach [.Name x p2] X.env := by rfl) (he2 : starEach [.Name x p2] X.env = (false, eval (.Name x p2) X.env) :: starEach [] X.env := by rfl) (hpl : (backTo pos (starEach [.Name x p2] X.env)).any (·.1) = false := by rfl) :
    DPE X W (.Call (.Name "isinstance" p) [a, .Name x p2] [] pos) (dIsO os es Fa) := by
  obtain ⟨C, hC, hb, ho, hx⟩ := T.ex
  refine ⟨pe_mono (fun σ H Q ⟨q, L, H0, B0, s, B, P, ex, t, f, rt, e⟩ => ?_) (pe_callB call_isOwn hg hm (by decide +kernel) (pa_cons ha.pe (pa_cons (pe_glob (v := .ref C) hgx hC rfl hdb) pa_nil he2) he) (by decide) (by decide) he hpl)⟩
  refine ⟨q, L, H0, B0, s, B, _, ex, t, f, fun v H1 x s1 B1 t1 l1 r1 ⟨b, h1, p1⟩ => ?_, e⟩
  have base : ∀ ty, tyName x = some ty → b = false → rIsOwn X.K [v, .ref C] H1 Q := fun ty h2 h3 => by
    subst h3
    exact ⟨v, C, .type ty, false, rfl, hb ty (tyName_in h2), .inl (tyX_of t1.bs.leH h2 r1), rt _ _ _ _ _ t1 l1 bl_rep p1⟩
  show rIsOwn X.K [v, .ref C] H1 Q
  cases x with
  | obj n fs =>
    obtain ⟨Cn, m1, c1, k1⟩ := ho n b h1
    unfold Rep at r1
    obtain ⟨a, C2, dx, xs, rfl, m2, hH, hF⟩ := r1
    have e : C2 = Cn := by
      have z := m2.symm.trans m1
      cases z
      rfl
    subst e
    exact ⟨.ref a, C, .ref C2, b, rfl, k1, .inl (.base (.ins (t1.bs.leH _ _ hH) c1.cl c1.ha c1.hn c1.htk c1.hm)), rt _ _ _ _ _ t1 l1 bl_rep p1⟩
  | exc n fs =>
    obtain ⟨Cn, m1, c1, k1⟩ := hx n b h1
    unfold Rep at r1
    obtain ⟨a, C2, dd, xs, rfl, m2, hH, hd, hF⟩ := r1
    have e : C2 = Cn := by
      have z := m2.symm.trans m1
      cases z
      rfl
    subst e
    refine ⟨.ref a, C, .ref C2, b, rfl, k1, .inr ⟨a, C2, dd, rfl, rfl, t1.bs.leH _ _ hH, fun d e => ?_, c1⟩, rt _ _ _ _ _ t1 l1 bl_rep p1⟩
    subst e
    exact ⟨xs, t1.bs.leH _ _ hd⟩
  | st => cases h1
  | scr ns => cases h1
  | _ => exact base _ rfl (by cases h1; rfl)
/-! ### an attribute of a caught error -/
def dXf (n : Str) (f : Str) (F : DF) : DF := fun s P ex => F s (fun d s1 => match d with
  | .exc m fs => m = n ∧ ∃ v, fs.lookup f = some v ∧ P v s1
  | _ => False) ex
theorem pe_xfT {e : Expr} {te : TE} {n : Str} {C : Addr} (T : XfC X.K C) (hno : PySem.W.findIn X.K (.ref C) n = some none) (he : PE X e te) (hb : attributeBase e n X.env (eval e X.env) = eval e X.env := by rfl) :
    PE X (.Attribute e n pos) (fun σ H Q => te σ H fun x H1 => ∃ a dd fs v, x = .ref a ∧ H1 a = some (ExcO a (.ref C) (some dd)) ∧ H1 dd = some (.xd fs) ∧ fs.lookup n = some v ∧ Q v H1) := by
  refine ⟨fun pins s σ H Q I h => ?_⟩
  refine attr_of hb (thn (he.run pins s σ H _ I h) fun u s1 hh => ?_)
  obtain ⟨x, H1, I1, rx, a, dd, fs, v, ex, ha, ea, l, q⟩ := hh
  subst ex
  obtain rfl : u = Value.ref a := rx
  obtain ⟨⟨oe, vs, h1, hz, hd⟩, _⟩ := (show ObjOk X.prog X.w H1 s1.heap a (ExcO a (.ref C) (some dd)) from I1.hok a _ ha)
  have hx : ObjOk X.prog X.w H1 s1.heap dd (.xd fs) := I1.hok dd _ ea
  obtain ⟨mA, hns, hr⟩ := hx
  obtain ⟨od, ho, hl⟩ := lookIn_ns hns
  obtain ⟨u, hu, ru⟩ := RelO.some_of (v := v) (o := mA n) (by rw [← l]; exact hr n)
  have J : PySem.W.InstAt s1.heap a oe C (some od) := ⟨h1, hz.1, by unfold PySem.W.notCls; rw [hd] <;> rfl, by rw [hz.2]; exact ho⟩
  exact HandSPX.exc_get I1.kIn J T.ga T.gg T.exC (PySem.W.findObj_own T.hdC hno rfl (by rw [hl, hu])) (handed_of ru) ⟨v, H1, I1.tok _, ru, q⟩
theorem d_xf {n f : Str} (T : ∃ C, X.mg n = some (.ref C) ∧ XfC X.K C ∧ PySem.W.findIn X.K (.ref C) f = some none) (ha : DPE X W a Fa) (hb : attributeBase a f X.env (eval a X.env) = eval a X.env := by rfl) : DPE X W (.Attribute a f pos) (dXf n f Fa) := by
  obtain ⟨C, m1, c1, c2⟩ := T
  refine ⟨pe_mono (fun σ H Q ⟨q, L, H0, B0, s, B, P, ex, t, f', rt, e⟩ => ⟨q, L, H0, B0, s, B, _, ex, t, f', fun v H1 x s1 B1 t1 l1 r1 p1 => ?_, e⟩) (pe_xfT c1 c2 ha.pe hb)⟩
  dsimp only at p1
  split at p1
  · obtain ⟨rfl, y, h1, p1⟩ := p1
    unfold Rep at r1
    obtain ⟨a, C2, dd, xs, rfl, m2, hH, hd, hF⟩ := r1
    have e : C2 = C := by
      have z := m2.symm.trans m1
      cases z
      rfl
    subst e
    obtain ⟨v, h2, h3⟩ := repF_look hF h1
    cases dd with
    | none => 
      have hd : xs = [] := hd
      subst hd
      simp at h2
    | some dd => exact ⟨a, dd, xs, v, rfl, t1.bs.leH _ _ hH, t1.bs.leH _ _ hd, h2, rt _ _ _ _ _ t1 l1 h3 p1⟩
  · exact p1.elim
end
end DL

set_option Elab.async false
set_option linter.all false
set_option maxRecDepth 100000
set_option maxHeartbeats 4000000
namespace DL
open PySem L2
/-! ### the end: from the head's facts to the law's promise -/
/-- the tables' names: one for each def that makes lambdas (its name, its qual) -/
def tbOf (K : PySem.W.Frag) (tf : List He.Defn) : List (Addr × Str) := tf.map fun p => ((He.cT K p).2, p.1 ++ (".<locals>." : Str) ++ ("<lambda>" : Str))
/-- the law's own promise -/
def spLaw [Tb] (K : PySem.W.Frag) : Sp := fun vs H Q _ => ∃ (a : Addr) (ns : List Int), vs = [.ref a] ∧ SqL K H a (ns.map V.int) ∧ ns.length ≤ 63 ∧ LamX.Tabs Tb.tb H ∧ ∀ H', Q (.bl true) H'
/-- what a law's text proves of its own defs, over any base -/
def LawFn (l : PySem.W.OpenLaw) (fa : List He.Fa) (fn : List He.DefD) (tf : List He.Defn) (ex : PySem.W.Frag → Bool) (k : Nat) : Prop :=
  ∀ (w : World) (K : PySem.W.Frag) (h : Heap) (mg : Str → Option Value) (f : Addr), K.In h → h.Ns mainGlobals mg → mg ("law" : Str) = some (.ref f) → He.SaysX fa fn [] tf ex w h K →
    ∃ fd : FuncData, (∀ (s : Shared) (v : Value), BindsTo s fd ⟨[v], []⟩ [("script", v)]) ∧ ∀ base : Heap, K.In base → base.Ns mainGlobals mg → (∀ p ∈ tf, LamX.TabB base mg (He.cT K p).1 (He.cT K p).2) → (letI : Tb := ⟨tbOf K tf⟩; FnOk l.prog w K mg base CX0 k f fd ["script"] (spLaw K))
theorem law_at {l : PySem.W.OpenLaw} {fa : List He.Fa} {fn : List He.DefD} {tf : List He.Defn} {ex : PySem.W.Frag → Bool} {k : Nat} (F : LawFn l fa fn tf ex k) {w : World} {h : Heap} {mg : Str → Option Value} {f : Addr} {K : PySem.W.Frag} (X : K.In h) (G : h.Ns mainGlobals mg) (hm : mg ("law" : Str) = some (.ref f)) (c : He.SaysX fa fn [] tf ex w h K) :
    LamX.LawAtS l w K CX0 k 63 "script" mg f h := by
  obtain ⟨fd, hb, hF⟩ := F w K h mg f X G hm c
  letI : Tb := ⟨tbOf K tf⟩
  refine ⟨fd, tf.map (He.cT K), spLaw K, fun p hp => ?_, fun p hp => ?_, fun p hp => ?_, hb, fun H a ns hl hbits hT hS => ⟨a, ns, rfl, hS, hl, fun p hp => ?_, fun _ => rfl⟩, fun base h1 h2 h3 => hF base h1 h2 fun p hp => h3 _ (List.mem_map.mpr ⟨p, hp, rfl⟩)⟩
  · obtain ⟨q, hq, rfl⟩ := List.mem_map.mp hp
    exact c.empty q hq
  · obtain ⟨q, hq, rfl⟩ := List.mem_map.mp hp
    exact c.out q hq
  · obtain ⟨q, hq, rfl⟩ := List.mem_map.mp hp
    exact PySem.W.codeHd_of_K X (c.hd q hq)
  · obtain ⟨q, hq, rfl⟩ := List.mem_map.mp hp
    exact LamX.TabS.nil (hT _ (List.mem_map.mpr ⟨q, hq, rfl⟩))
theorem law_walk {l : PySem.W.OpenLaw} {q : Program} {loose : List Str} {XP : (Str → Option Value) → Heap → Prop} {n : Nat} {fa : List He.Fa} {fn : List He.DefD} {tf : List He.Defn} {ex : PySem.W.Frag → Bool} {d : DefRec} {k : Nat} (hn : l.most = some 63) (hdf : d.params.defaults = []) (hr : Room k callerA) (hd : d.name = ("law" : Str)) (F : LawFn l fa fn tf ex k) :
    PySem.W.WalkO q loose XP (He.hookX n fa fn [] tf ex).says l.row.toRowW d [] (fun f vs => PySem.call f vs) :=
  LamX.walk_ofTsE (n := 63) (k := k) (x := "script") (CX := fun _ => CX0) hn (by decide) hdf hr (fun w mg f h Y G hm => by
    obtain ⟨K, KX, c⟩ := Y
    exact ⟨K, KX, law_at F KX G (by rw [← hd]; exact hm) c⟩) fun _ _ _ _ _ z => z
end DL

set_option Elab.async false
set_option linter.all false
set_option maxRecDepth 100000
set_option maxHeartbeats 4000000
namespace Law
open PySem L2 DL
/-! ### what the shared defs promise -/
def plainD (d : D) : Bool := (tyName d).isSome
def plainDs : D → Bool
  | .tup xs => xs.all plainD
  | d => plainD d
def isInt : D → Bool
  | .int _ => true
  | _ => false
def within : D → Int → Int → Bool
  | .int i, lo, hi => decide (lo ≤ i) && decide (i ≤ hi)
  | _, _, _ => false
def isTup (n : Nat) : D → Bool
  | .tup xs => decide (xs.length = n)
  | _ => false
def doorNum : D → Bool
  | .int i => (decide (-999 ≤ i) && decide (i ≤ 999)) && decide (i ≠ 0)
  | _ => false
def isDoor (r : Int) : D → Bool
  | .tup [a, x, b, y] => (within a 0 (r - 1) && within b 0 (r - 1)) && (doorNum x && doorNum y)
  | _ => false
def areDoors (r : Int) : D → Bool
  | .tup xs => decide (xs.length ≤ 20) && xs.all (isDoor r)
  | _ => false
def S_is_number : PF := fun ds T post _ => ∃ d, ds = [d] ∧ plainD d = true ∧ post (.fz (.bl (isInt d))) T
def S_is_number_within : PF := fun ds T post _ => ∃ d lo hi, ds = [d, .int lo, .int hi] ∧ plainD d = true ∧ post (.fz (.bl (within d lo hi))) T
def S_is_tuple_of : PF := fun ds T post _ => ∃ d n, ds = [d, .int (n : Nat)] ∧ plainD d = true ∧ post (.fz (.bl (isTup n d))) T
def S_is_room_count : PF := fun ds T post _ => ∃ d, ds = [d] ∧ plainD d = true ∧ post (.fz (.bl (within d 1 12))) T
def S__is_door_number : PF := fun ds T post _ => ∃ d, ds = [d] ∧ plainD d = true ∧ post (.fz (.bl (doorNum d))) T
def S_is_door : PF := fun ds T post _ => ∃ r d, ds = [.int r, d] ∧ plainD d = true ∧ plainDs d = true ∧ post (.fz (.bl (isDoor r d))) T
def S_are_doors : PF := fun ds T post _ => ∃ r d, ds = [.int r, d] ∧ plainD d = true ∧ (∀ xs, d = .tup xs → ∀ x ∈ xs, plainD x = true ∧ plainDs x = true) ∧ post (.fz (.bl (areDoors r d))) T
end Law

set_option Elab.async false
set_option linter.all false
set_option maxRecDepth 100000
set_option maxHeartbeats 4000000
namespace DL
open PySem L2
/-! ### loops by an invariant -/
theorem forD_inv {T : DTg} {G : DG} {E : DE} (I : Nat → DS → Prop) : ∀ (items : List D) (k : Nat) (s : DS), (∀ i d s, items[i]? = some d → I (k + i) s → ∀ R : DS → Prop, (∀ s', I (k + i + 1) s' → R s') → T d s fun s1 => G { E with nx := R, ct := R, bk := E.nx } s1) → I k s →
    (∀ s, I (k + items.length) s → E.nx s) → forD T G items E s
  | [], k, s, _, h, e => e s h
  | d :: ds, k, s, st, h, e => by
    refine st 0 d s rfl h _ fun s' h' => ?_
    refine forD_inv I ds (k + 1) s' (fun i d' s2 hi hI R hR => ?_) h' (fun s2 h2 => e s2 ?_)
    · refine st (i + 1) d' s2 hi ?_ R fun s3 h3 => hR s3 ?_
      · rw [show k + (i + 1) = k + 1 + i from by omega]; exact hI
      · rw [show k + 1 + i + 1 = k + (i + 1) + 1 from by omega]; exact h3
    · rw [show k + (d :: ds).length = k + 1 + ds.length from by simp only [List.length_cons]; omega]; exact h2
theorem gFor_inv {F : DFA} {T : DTg} {G : DG} {E : DE} {s : DS} (I : Nat → DS → Prop) (items : List D) (hF : ∀ P : List D → DS → Prop, (∀ s1, I 0 s1 → P items s1) → F s P E.ex)
    (st : ∀ i d s, items[i]? = some d → I i s → ∀ R : DS → Prop, (∀ s', I (i + 1) s' → R s') → T d s fun s1 => G { E with nx := R, ct := R, bk := E.nx } s1) (e : ∀ s, I items.length s → E.nx s) : gFor F T G E s :=
  hF _ fun s1 h1 => forD_inv I items 0 s1 (fun i d s hi hI R hR => st i d s hi (by rwa [Nat.zero_add] at hI) R fun s' h' => hR s' (by rwa [Nat.zero_add])) h1 fun s h => e s (by rwa [Nat.zero_add] at h)
theorem whileD_inv {F : DFT} {G : DG} {E : DE} (I : Nat → DS → Prop) (st : ∀ m s, I m s → ∀ R : DS → Prop, (∀ m' s', m' < m → I m' s' → R s') → F s (fun k s1 => if k = true then G { E with nx := R, ct := R, bk := E.nx } s1 else E.nx s1) E.ex) :
    ∀ (n m : Nat) (s : DS), m < n → I m s → whileD F G n E s
  | 0, m, s, h, _ => absurd h (Nat.not_lt_zero m)
  | n + 1, m, s, h, hI => st m s hI _ fun m' s' hm h' => whileD_inv I st n m' s' (by omega) h'
theorem gWhile_inv {F : DFT} {G : DG} {E : DE} {s : DS} {m : Nat} (I : Nat → DS → Prop) (hI : I m s) (st : ∀ m s, I m s → ∀ R : DS → Prop, (∀ m' s', m' < m → I m' s' → R s') → F s (fun k s1 => if k = true then G { E with nx := R, ct := R, bk := E.nx } s1 else E.nx s1) E.ex) : gWhile F G E s :=
  ⟨m + 1, whileD_inv I st (m + 1) m s (Nat.lt_succ_self m) hI⟩
theorem lcD_inv {vs : List Nat} {T : DTg} {Ft : DFT} {Fe : DF} (I : Nat → List D → DS → Prop) : ∀ (items : List D) (k : Nat) (acc : List D) (s : DS) (P : List D → DS → Prop),
    (∀ i d acc s, items[i]? = some d → I (k + i) acc s → ∀ R : List D → DS → Prop, (∀ acc' s', I (k + i + 1) acc' s' → R acc' s') → T d s fun s1 => Ft s1 (fun q s2 => if q = true then Fe s2 (fun y s3 => acc.length < 100000 ∧ R (acc ++ [y]) (s3.wipe vs)) (fun _ _ _ => False) else R acc (s2.wipe vs)) (fun _ _ _ => False)) → I k acc s →
    (∀ acc s, I (k + items.length) acc s → P acc (s.wipe vs)) → lcD vs T Ft Fe items acc s P
  | [], k, acc, s, P, _, h, e => e acc s h
  | d :: ds, k, acc, s, P, st, h, e => by
    refine st 0 d acc s rfl h (fun acc' s' => lcD vs T Ft Fe ds acc' s' P) fun acc' s' h' => ?_
    refine lcD_inv I ds (k + 1) acc' s' P (fun i d' a2 s2 hi hI R hR => ?_) h' (fun a2 s2 h2 => e a2 s2 ?_)
    · refine st (i + 1) d' a2 s2 hi ?_ R fun a3 s3 h3 => hR a3 s3 ?_
      · rw [show k + (i + 1) = k + 1 + i from by omega]; exact hI
      · rw [show k + 1 + i + 1 = k + (i + 1) + 1 from by omega]; exact h3
    · rw [show k + (d :: ds).length = k + 1 + ds.length from by simp only [List.length_cons]; omega]; exact h2
theorem dLc_inv {vs : List Nat} {Fi : DFA} {T : DTg} {Ft : DFT} {Fe : DF} {s : DS} {P : D → DS → Prop} {ex : XD} (I : Nat → List D → DS → Prop) (items : List D) (hF : ∀ Q : List D → DS → Prop, (∀ s1, I 0 [] (s1.wipe vs) → Q items s1) → Fi s Q ex)
    (st : ∀ i d acc s, items[i]? = some d → I i acc s → ∀ R : List D → DS → Prop, (∀ acc' s', I (i + 1) acc' s' → R acc' s') → T d s fun s1 => Ft s1 (fun q s2 => if q = true then Fe s2 (fun y s3 => acc.length < 100000 ∧ R (acc ++ [y]) (s3.wipe vs)) (fun _ _ _ => False) else R acc (s2.wipe vs)) (fun _ _ _ => False))
    (e : ∀ acc s, I items.length acc s → P (.lst acc) (s.wipe vs)) : dLc vs Fi T Ft Fe s P ex :=
  hF _ fun s1 h1 => lcD_inv I items 0 [] (s1.wipe vs) _ (fun i d a s hi hI R hR => st i d a s hi (by rwa [Nat.zero_add] at hI) R fun a' s' h' => hR a' s' (by rwa [Nat.zero_add])) h1 fun a s h => e a s (by rwa [Nat.zero_add] at h)
theorem take_succ_get {α : Type} {l : List α} {i : Nat} {x : α} (h : l[i]? = some x) : l.take (i + 1) = l.take i ++ [x] := by
  rw [List.take_add_one, h]
  rfl
theorem get_lt {α : Type} {l : List α} {i : Nat} {x : α} (h : l[i]? = some x) : i < l.length := (List.getElem?_eq_some_iff.mp h).1
theorem get_mem {α : Type} {l : List α} {i : Nat} {x : α} (h : l[i]? = some x) : x ∈ l := List.mem_of_getElem? h
/-- [f(x) for x in items], the slots fixed -/
theorem lc_map {vs : List Nat} {Fi : DFA} {T : DTg} {Fe : DF} {s s0 : DS} {P : D → DS → Prop} {ex : XD} (g : D → D) (items : List D) (hz : items.length ≤ 100000) (hF : ∀ Q : List D → DS → Prop, (∀ s1, s1.wipe vs = s0 → Q items s1) → Fi s Q ex) (h0 : s0.wipe vs = s0)
    (st : ∀ d ∈ items, ∀ R : D → DS → Prop, (∀ s3 : DS, s3.wipe vs = s0 → R (g d) s3) → T d s0 fun s1 => Fe s1 R (fun _ _ _ => False)) (e : P (.lst (items.map g)) s0) : dLc vs Fi T tAll Fe s P ex := by
  refine dLc_inv (fun i acc s => acc = (items.take i).map g ∧ s = s0) items (fun Q hQ => hF Q fun s1 h1 => hQ s1 ⟨rfl, h1⟩) (fun i d acc s hi ⟨ha, hs⟩ R hR => ?_) (fun acc s ⟨ha, hs⟩ => ?_)
  · subst hs
    have hl := get_lt hi
    show T d s fun s1 => if (true : Bool) = true then Fe s1 (fun y s3 => acc.length < 100000 ∧ R (acc ++ [y]) (s3.wipe vs)) (fun _ _ _ => False) else R acc (s1.wipe vs)
    simp only [if_true]
    refine st d (get_mem hi) _ fun s3 h3 => ⟨?_, hR _ _ ⟨?_, h3⟩⟩
    · rw [ha, List.length_map, List.length_take]; omega
    · rw [ha, take_succ_get hi, List.map_append]; rfl
  · subst hs
    rw [ha, List.take_length, h0]
    exact e
end DL

set_option Elab.async false
set_option linter.all false
set_option maxRecDepth 100000
set_option maxHeartbeats 4000000
namespace Law
open PySem L2 DL
def G_is_number : DG := (gRet (dAnd (dIsTy "int" (dVar 0)) (dNot (dIsTy "bool" (dVar 0)))))
def G_is_number_within : DG := (gRet (dAnd (dCall S_is_number 1 (aCons (dVar 0) aNil)) (dChain (dCmpI fun i j => decide (i ≤ j)) (dCmpI fun i j => decide (i ≤ j)) (dVar 1) (dVar 0) (dVar 2))))
def G_is_tuple_of : DG := (gRet (dAnd (dIsTy "tuple" (dVar 0)) (dOp dEq (dCB cLen (aCons (dVar 0) aNil)) (dVar 1))))
def G_is_room_count : DG := (gRet (dCall S_is_number_within 3 (aCons (dVar 0) (aCons (dC (.int 1)) (aCons (dC (.int 12)) aNil)))))
def G__is_door_number : DG := (gRet (dAnd (dCall S_is_number_within 3 (aCons (dVar 0) (aCons (dNeg (dC (.int 999))) (aCons (dC (.int 999)) aNil)))) (dOp dNe (dVar 0) (dC (.int 0)))))
def G_is_door : DG := (gSeq (gIf (tNotD (dTest (dCall S_is_tuple_of 2 (aCons (dVar 1) (aCons (dC (.int 4)) aNil))))) (gRet (dC (.bl false))) gNil)
    (gSeq (gUnp (tgTup 4 (tgCons (tgN 2) (tgCons (tgN 3) (tgCons (tgN 4) (tgCons (tgN 5) tgNil))))) (dVar 1))
    (gSeq (gSet 6 (dAnd (dCall S_is_number_within 3 (aCons (dVar 2) (aCons (dC (.int 0)) (aCons (dOp dSub (dVar 0) (dC (.int 1))) aNil)))) (dCall S_is_number_within 3 (aCons (dVar 4) (aCons (dC (.int 0)) (aCons (dOp dSub (dVar 0) (dC (.int 1))) aNil))))))
    (gRet (dAnd (dVar 6) (dAnd (dCall S__is_door_number 1 (aCons (dVar 3) aNil)) (dCall S__is_door_number 1 (aCons (dVar 5) aNil))))))))
def G_are_doors : DG := (gSeq (gIf (tOrD (tNotD (dTest (dIsTy "tuple" (dVar 1)))) (dTest (dOp (dCmpI fun i j => decide (j < i)) (dCB cLen (aCons (dVar 1) aNil)) (dC (.int 20))))) (gRet (dC (.bl false))) gNil)
    (gRet (dCB cAll (aCons (dLc [2] (iSeq (dVar 1)) (tgN 2) tAll (dCall S_is_door 2 (aCons (dVar 0) (aCons (dVar 2) aNil)))) aNil))))
theorem m_is_number : ∀ (ds : List D) T post ex, ds.length = 1 → S_is_number ds T post ex → G_is_number (endsOf post ex) (startD 1 ds T) := by
  rintro ds T post ex _ ⟨d, rfl, hd, hp⟩
  cases d with
  | int i => exact ⟨"int", true, rfl, by decide +kernel, "int", false, rfl, by decide +kernel, hp⟩
  | bl b => exact ⟨"bool", true, rfl, by decide +kernel, "bool", true, rfl, by decide +kernel, hp⟩
  | non => exact ⟨_, false, rfl, by decide +kernel, hp⟩
  | str x => exact ⟨_, false, rfl, by decide +kernel, hp⟩
  | tup x => exact ⟨_, false, rfl, by decide +kernel, hp⟩
  | lst x => exact ⟨_, false, rfl, by decide +kernel, hp⟩
  | dic x => exact ⟨_, false, rfl, by decide +kernel, hp⟩
  | dtp => exact ⟨_, false, rfl, by decide +kernel, hp⟩
  | obj _ _ => cases hd
  | exc _ _ => cases hd
  | st => cases hd
  | scr _ => cases hd
theorem m_is_number_within : ∀ (ds : List D) T post ex, ds.length = 3 → S_is_number_within ds T post ex → G_is_number_within (endsOf post ex) (startD 3 ds T) := by
  rintro ds T post ex _ ⟨d, lo, hi, rfl, hd, hp⟩
  refine ⟨rfl, d, rfl, hd, ?_⟩
  cases d with
  | int i =>
    show (match D.bl (decide (lo ≤ i)) with | .bl true => post (.fz (.bl (decide (i ≤ hi)))) T | .bl false => post (.fz (.bl false)) T | _ => False)
    have hp : post (.fz (.bl (decide (lo ≤ i) && decide (i ≤ hi)))) T := hp
    cases e : decide (lo ≤ i) <;> rw [e] at hp <;> exact hp
  | obj _ _ => cases hd
  | exc _ _ => cases hd
  | st => cases hd
  | scr _ => cases hd
  | _ => exact hp
theorem eqv_int (i j : Int) : PyData.eqv (py (.int i)) (py (.int j)) = decide (i = j) := by
  show (i == j) = decide (i = j)
  by_cases h : i = j
  · simp [h]
  · simp [h]
theorem m_is_tuple_of : ∀ (ds : List D) T post ex, ds.length = 2 → S_is_tuple_of ds T post ex → G_is_tuple_of (endsOf post ex) (startD 2 ds T) := by
  rintro ds T post ex _ ⟨d, n, rfl, hd, hp⟩
  cases d with
  | tup xs =>
    refine ⟨"tuple", true, rfl, by decide +kernel, ?_⟩
    refine ⟨rfl, rfl, ?_⟩
    rw [eqv_int]
    have hp : post (.fz (.bl (decide (xs.length = n)))) T := hp
    have e : decide ((xs.length : Int) = (n : Int)) = decide (xs.length = n) := decide_eq_decide.mpr (by omega)
    rw [e]
    exact hp
  | obj _ _ => cases hd
  | exc _ _ => cases hd
  | st => cases hd
  | scr _ => cases hd
  | _ => exact ⟨_, false, rfl, by decide +kernel, hp⟩
theorem m_is_room_count : ∀ (ds : List D) T post ex, ds.length = 1 → S_is_room_count ds T post ex → G_is_room_count (endsOf post ex) (startD 1 ds T) := by
  rintro ds T post ex _ ⟨d, rfl, hd, hp⟩
  exact ⟨rfl, d, 1, 12, rfl, hd, hp⟩
theorem m__is_door_number : ∀ (ds : List D) T post ex, ds.length = 1 → S__is_door_number ds T post ex → G__is_door_number (endsOf post ex) (startD 1 ds T) := by
  rintro ds T post ex _ ⟨d, rfl, hd, hp⟩
  refine ⟨rfl, d, -999, 999, rfl, hd, ?_⟩
  cases d with
  | int i =>
    show (match D.bl (decide (-999 ≤ i) && decide (i ≤ 999)) with | .bl true => (okD (.int i) = true ∧ okD (.int 0) = true ∧ post (.fz (.bl (!PyData.eqv (py (.int i)) (py (.int 0))))) T) | .bl false => post (.fz (.bl false)) T | _ => False)
    rw [eqv_int]
    have hp : post (.fz (.bl ((decide (-999 ≤ i) && decide (i ≤ 999)) && decide (i ≠ 0)))) T := hp
    cases e : (decide (-999 ≤ i) && decide (i ≤ 999)) <;> rw [e] at hp
    · exact hp
    · refine ⟨rfl, rfl, ?_⟩
      have e2 : (!decide (i = 0)) = (true && decide (i ≠ 0)) := by simp
      rw [e2]
      exact hp
  | obj _ _ => cases hd
  | exc _ _ => cases hd
  | st => cases hd
  | scr _ => cases hd
  | _ => exact hp
theorem m_is_door : ∀ (ds : List D) T post ex, ds.length = 2 → S_is_door ds T post ex → G_is_door (endsOf post ex) (startD 7 ds T) := by
  rintro ds T post ex _ ⟨r, d, rfl, hd, hd2, hp⟩
  refine ⟨rfl, d, 4, rfl, hd, ?_⟩
  cases e : isTup 4 d with
  | false =>
    have e2 : isDoor r d = false := by
      unfold isDoor
      split
      · simp [isTup] at e
      · rfl
    rw [e2] at hp
    exact hp
  | true =>
    obtain ⟨a, x, b, y, rfl⟩ : ∃ a x b y, d = .tup [a, x, b, y] := by
      cases d with
      | tup xs =>
        have : xs.length = 4 := by simpa [isTup] using e
        match xs, this with
        | [a, x, b, y], _ => exact ⟨a, x, b, y, rfl⟩
      | _ => cases e
    have hd2 : ([a, x, b, y].all plainD) = true := hd2
    simp only [List.all_cons, List.all_nil, Bool.and_eq_true, Bool.and_true] at hd2
    obtain ⟨pa, px, pb, py'⟩ := hd2
    refine ⟨rfl, rfl, a, 0, r - 1, rfl, pa, ?_⟩
    have hp : post (.fz (.bl ((within a 0 (r - 1) && within b 0 (r - 1)) && (doorNum x && doorNum y)))) T := hp
    cases e1 : within a 0 (r - 1) with
    | false =>
      rw [e1] at hp
      exact hp
    | true =>
      rw [e1] at hp
      refine ⟨rfl, b, 0, r - 1, rfl, pb, ?_⟩
      cases e2 : within b 0 (r - 1) with
      | false =>
        rw [e2] at hp
        exact hp
      | true =>
        rw [e2] at hp
        refine ⟨rfl, x, rfl, px, ?_⟩
        cases e3 : doorNum x with
        | false =>
          rw [e3] at hp
          exact hp
        | true =>
          rw [e3] at hp
          exact ⟨rfl, y, rfl, py', hp⟩

theorem bls_map (g : D → Bool) : ∀ xs : List D, blsOf (xs.map fun x => .bl (g x)) = some (xs.map g)
  | [] => rfl
  | x :: xs => by
    show (blsOf (xs.map fun x => .bl (g x))).map (g x :: ·) = _
    rw [bls_map g xs]
    rfl
theorem m_are_doors : ∀ (ds : List D) T post ex, ds.length = 2 → S_are_doors ds T post ex → G_are_doors (endsOf post ex) (startD 3 ds T) := by
  rintro ds T post ex _ ⟨r, d, rfl, hd, hd2, hp⟩
  cases d with
  | tup xs =>
    refine ⟨"tuple", true, rfl, by decide +kernel, ?_⟩
    have hp : post (.fz (.bl (decide (xs.length ≤ 20) && xs.all (isDoor r)))) T := hp
    by_cases hl : xs.length ≤ 20
    · have e1 : decide ((20 : Int) < (xs.length : Int)) = false := by simp; omega
      rw [decide_eq_true hl, Bool.true_and] at hp
      show (match D.bl (decide ((20 : Int) < (xs.length : Int))) with | .bl k => if k = true then post (.fz (.bl false)) T else gRet (dCB cAll (aCons (dLc [2] (iSeq (dVar 1)) (tgN 2) tAll (dCall S_is_door 2 (aCons (dVar 0) (aCons (dVar 2) aNil)))) aNil)) (endsOf post ex) (startD 3 [.int r, .tup xs] T) | _ => False)
      rw [e1]
      show gRet (dCB cAll (aCons (dLc [2] (iSeq (dVar 1)) (tgN 2) tAll (dCall S_is_door 2 (aCons (dVar 0) (aCons (dVar 2) aNil)))) aNil)) (endsOf post ex) (startD 3 [.int r, .tup xs] T)
      have key : dLc [2] (iSeq (dVar 1)) (tgN 2) tAll (dCall S_is_door 2 (aCons (dVar 0) (aCons (dVar 2) aNil))) (startD 3 [.int r, .tup xs] T) (fun d s1 => cAll [d] fun z => post (.fz z) s1.T) (endsOf post ex).ex := by
        refine lc_map (s0 := startD 3 [.int r, .tup xs] T) (fun x => .bl (isDoor r x)) xs (by omega) (fun Q h => ⟨xs, rfl, h _ rfl⟩) rfl (fun d hd R hR => ?_) ?_
        · obtain ⟨p1, p2⟩ := hd2 xs rfl d hd
          exact ⟨rfl, r, d, rfl, p1, p2, hR _ rfl⟩
        · refine ⟨xs.map (isDoor r), bls_map _ xs, ?_⟩
          rw [show (xs.map (isDoor r)).all id = xs.all (isDoor r) from by simp [List.all_map, Function.comp_def]]
          exact hp
      exact key
    · have e1 : decide ((20 : Int) < (xs.length : Int)) = true := by simp; omega
      rw [decide_eq_false hl, Bool.false_and] at hp
      show (match D.bl (decide ((20 : Int) < (xs.length : Int))) with | .bl k => if k = true then post (.fz (.bl false)) T else gRet (dCB cAll (aCons (dLc [2] (iSeq (dVar 1)) (tgN 2) tAll (dCall S_is_door 2 (aCons (dVar 0) (aCons (dVar 2) aNil)))) aNil)) (endsOf post ex) (startD 3 [.int r, .tup xs] T) | _ => False)
      rw [e1]
      exact hp
  | obj _ _ => cases hd
  | exc _ _ => cases hd
  | st => cases hd
  | scr _ => cases hd
  | _ => exact ⟨_, false, rfl, by decide +kernel, hp⟩
end Law

set_option linter.all false
namespace Law
/-! ### rooms that doors lead to from room 0 -/
inductive Reach (es : List (Nat × Nat)) : Nat → Prop
  | zero : Reach es 0
  | fwd {a b : Nat} (h : (a, b) ∈ es) (r : Reach es a) : Reach es b
  | bwd {a b : Nat} (h : (a, b) ∈ es) (r : Reach es b) : Reach es a
def setB (bs : List Bool) (e : Nat × Nat) : List Bool := if (bs.getD e.1 false || bs.getD e.2 false) = true then (bs.set e.1 true).set e.2 true else bs
def passB (es : List (Nat × Nat)) (bs : List Bool) : List Bool := es.foldl setB bs
def iterB (es : List (Nat × Nat)) : Nat → List Bool → List Bool
  | 0, bs => bs
  | k + 1, bs => passB es (iterB es k bs)
def LeB (bs cs : List Bool) : Prop := bs.length = cs.length ∧ ∀ i, bs.getD i false = true → cs.getD i false = true
theorem LeB.refl (bs : List Bool) : LeB bs bs := ⟨rfl, fun _ h => h⟩
theorem LeB.trans {a b c : List Bool} (h : LeB a b) (g : LeB b c) : LeB a c := ⟨h.1.trans g.1, fun i q => g.2 i (h.2 i q)⟩
theorem getD_set {bs : List Bool} {i j : Nat} : (bs.set i true).getD j false = if i = j ∧ j < bs.length then true else bs.getD j false := by
  simp only [List.getD_eq_getElem?_getD, List.getElem?_set]
  by_cases h : i = j
  · subst h
    by_cases l : i < bs.length
    · simp [l]
    · simp [l]
  · simp [h]
theorem setB_len (bs : List Bool) (e : Nat × Nat) : (setB bs e).length = bs.length := by
  unfold setB
  split <;> simp
theorem setB_le (bs : List Bool) (e : Nat × Nat) : LeB bs (setB bs e) := by
  refine ⟨(setB_len bs e).symm, fun i h => ?_⟩
  unfold setB
  split
  · rw [getD_set, getD_set]
    split
    · rfl
    · split
      · rfl
      · exact h
  · exact h
theorem passB_le (es : List (Nat × Nat)) : ∀ bs, LeB bs (passB es bs) := by
  induction es with
  | nil => exact fun bs => LeB.refl bs
  | cons e es ih => exact fun bs => (setB_le bs e).trans (ih (setB bs e))
theorem LeB.anti {a b : List Bool} (h : LeB a b) (g : LeB b a) : a = b := by
  apply List.ext_getElem h.1
  intro i h1 h2
  have e1 : a.getD i false = a[i] := by simp [List.getD_eq_getElem?_getD, h1]
  have e2 : b.getD i false = b[i] := by simp [List.getD_eq_getElem?_getD, h2]
  rw [← e1, ← e2]
  cases q : a.getD i false with
  | true => exact (h.2 i q).symm
  | false =>
    cases q2 : b.getD i false with
    | false => rfl
    | true => rw [g.2 i q2] at q; cases q
def cnt : List Bool → Nat
  | [] => 0
  | b :: bs => (if b = true then 1 else 0) + cnt bs
theorem cnt_le_len : ∀ bs : List Bool, cnt bs ≤ bs.length
  | [] => Nat.le_refl _
  | b :: bs => by
    have := cnt_le_len bs
    simp only [cnt, List.length_cons]
    split <;> omega
theorem cnt_le : ∀ (a b : List Bool), LeB a b → cnt a ≤ cnt b ∧ (cnt a = cnt b → a = b)
  | [], [], _ => ⟨Nat.le_refl _, fun _ => rfl⟩
  | [], _ :: _, h => by have := h.1; simp at this
  | _ :: _, [], h => by have := h.1; simp at this
  | x :: a, y :: b, h => by
    have hl : LeB a b := ⟨by have := h.1; simpa using this, fun i q => by have := h.2 (i + 1); simpa using this (by simpa using q)⟩
    have h0 : x = true → y = true := by have := h.2 0; simpa using this
    obtain ⟨i1, i2⟩ := cnt_le a b hl
    cases x <;> cases y
    · exact ⟨by simp [cnt]; exact i1, fun e => by rw [i2 (by simpa [cnt] using e)]⟩
    · refine ⟨by simp [cnt]; omega, fun e => ?_⟩
      simp [cnt] at e
      omega
    · exact absurd (h0 rfl) (by simp)
    · exact ⟨by simp [cnt]; exact i1, fun e => by rw [i2 (by simpa [cnt] using e)]⟩
theorem iterB_len (es : List (Nat × Nat)) (bs : List Bool) : ∀ k, (iterB es k bs).length = bs.length
  | 0 => rfl
  | k + 1 => (passB_le es _).1.symm.trans (iterB_len es bs k)
theorem iterB_grow (es : List (Nat × Nat)) (bs : List Bool) (h0 : 1 ≤ cnt bs) : ∀ k, passB es (iterB es k bs) = iterB es k bs ∨ k + 1 ≤ cnt (iterB es k bs)
  | 0 => .inr h0
  | k + 1 => by
    rcases iterB_grow es bs h0 k with h | h
    · left
      show passB es (passB es (iterB es k bs)) = passB es (iterB es k bs)
      rw [h, h]
    · obtain ⟨c1, c2⟩ := cnt_le _ _ (passB_le es (iterB es k bs))
      by_cases e : cnt (iterB es k bs) = cnt (passB es (iterB es k bs))
      · left
        have := c2 e
        show passB es (passB es (iterB es k bs)) = passB es (iterB es k bs)
        rw [← this, ← this]
      · right
        show k + 1 + 1 ≤ cnt (passB es (iterB es k bs))
        omega
theorem iterB_fix (es : List (Nat × Nat)) (bs : List Bool) (h0 : 1 ≤ cnt bs) : passB es (iterB es bs.length bs) = iterB es bs.length bs := by
  rcases iterB_grow es bs h0 bs.length with h | h
  · exact h
  · have := cnt_le_len (iterB es bs.length bs)
    rw [iterB_len] at this
    omega
theorem passB_fix : ∀ (es : List (Nat × Nat)) (bs : List Bool), passB es bs = bs → ∀ e ∈ es, setB bs e = bs
  | [], _, _, e, he => absurd he (by simp)
  | d :: es, bs, h, e, he => by
    have h1 := setB_le bs d
    have h2 := passB_le es (setB bs d)
    have h3 : passB es (setB bs d) = bs := h
    rw [h3] at h2
    have e1 : setB bs d = bs := (h1.anti h2).symm
    rw [e1] at h3
    rcases List.mem_cons.mp he with rfl | he
    · exact e1
    · exact passB_fix es bs h3 e he
theorem closed_of {bs : List Bool} {e : Nat × Nat} (h : setB bs e = bs) (h1 : e.1 < bs.length) (h2 : e.2 < bs.length) : bs.getD e.1 false = true ↔ bs.getD e.2 false = true := by
  unfold setB at h
  split at h
  · have a1 : ((bs.set e.1 true).set e.2 true).getD e.1 false = true := by
      rw [getD_set, getD_set]
      split
      · rfl
      · rw [if_pos ⟨rfl, h1⟩]
    have a2 : ((bs.set e.1 true).set e.2 true).getD e.2 false = true := by
      rw [getD_set, if_pos ⟨rfl, by simpa using h2⟩]
    rw [h] at a1 a2
    exact ⟨fun _ => a2, fun _ => a1⟩
  · rename_i q
    simp only [Bool.or_eq_true, not_or] at q
    exact ⟨fun z => absurd z q.1, fun z => absurd z q.2⟩
theorem reach_closed {es : List (Nat × Nat)} {bs : List Bool} (h0 : bs.getD 0 false = true) (h : passB es bs = bs) (hl : ∀ e ∈ es, e.1 < bs.length ∧ e.2 < bs.length) : ∀ {i : Nat}, Reach es i → bs.getD i false = true := by
  intro i r
  induction r with
  | zero => exact h0
  | fwd m r ih => exact (closed_of (passB_fix es bs h _ m) (hl _ m).1 (hl _ m).2).mp ih
  | bwd m r ih => exact (closed_of (passB_fix es bs h _ m) (hl _ m).1 (hl _ m).2).mpr ih
theorem setB_sound {es : List (Nat × Nat)} {bs : List Bool} {e : Nat × Nat} (he : e ∈ es) (h : ∀ i, bs.getD i false = true → Reach es i) : ∀ i, (setB bs e).getD i false = true → Reach es i := by
  intro i q
  unfold setB at q
  split at q
  · rename_i c
    have r : Reach es e.1 ∧ Reach es e.2 := by
      rw [Bool.or_eq_true] at c
      rcases c with c | c
      · have := h _ c
        exact ⟨this, .fwd (a := e.1) (b := e.2) he this⟩
      · have := h _ c
        exact ⟨.bwd (a := e.1) (b := e.2) he this, this⟩
    rw [getD_set, getD_set] at q
    split at q
    · rename_i z; rw [← z.1]; exact r.2
    · split at q
      · rename_i z; rw [← z.1]; exact r.1
      · exact h i q
  · exact h i q
theorem passB_sound {es : List (Nat × Nat)} : ∀ (ds : List (Nat × Nat)) (bs : List Bool), (∀ e ∈ ds, e ∈ es) → (∀ i, bs.getD i false = true → Reach es i) → ∀ i, (passB ds bs).getD i false = true → Reach es i
  | [], _, _, h => h
  | d :: ds, bs, hs, h => passB_sound ds (setB bs d) (fun e he => hs e (List.mem_cons_of_mem _ he)) (setB_sound (hs d (List.mem_cons_self ..)) h)
theorem iterB_sound {es : List (Nat × Nat)} {bs : List Bool} (h : ∀ i, bs.getD i false = true → Reach es i) : ∀ k i, (iterB es k bs).getD i false = true → Reach es i
  | 0 => h
  | k + 1 => passB_sound es _ (fun _ he => he) (iterB_sound h k)
theorem iterB_le (es : List (Nat × Nat)) (bs : List Bool) : ∀ k, LeB bs (iterB es k bs)
  | 0 => LeB.refl bs
  | k + 1 => (iterB_le es bs k).trans (passB_le es _)
/-- the start: room 0 alone -/
def startB (n : Nat) : List Bool := (List.range n).map fun i => decide (i = 0)
theorem startB_len (n : Nat) : (startB n).length = n := by simp [startB]
theorem startB_get (n i : Nat) : (startB n).getD i false = true ↔ i = 0 ∧ 0 < n := by
  unfold startB
  rw [List.getD_eq_getElem?_getD, List.getElem?_map]
  by_cases h : i < n
  · simp [h]; omega
  · simp [h]; omega
theorem startB_cnt (n : Nat) (h : 1 ≤ n) : 1 ≤ cnt (startB n) := by
  cases n with
  | zero => omega
  | succ n =>
    unfold startB
    rw [List.range_succ_eq_map]
    simp only [List.map_cons, cnt]
    simp
/-- what the rounds leave: true where doors lead -/
theorem reached {es : List (Nat × Nat)} {n : Nat} (hn : 1 ≤ n) (hl : ∀ e ∈ es, e.1 < n ∧ e.2 < n) : ∀ i, (iterB es n (startB n)).getD i false = true ↔ (Reach es i ∧ i < n) := by
  intro i
  have hf : passB es (iterB es n (startB n)) = iterB es n (startB n) := by
    have := iterB_fix es (startB n) (startB_cnt n hn)
    rwa [startB_len] at this
  have hlen : (iterB es n (startB n)).length = n := by rw [iterB_len, startB_len]
  constructor
  · intro h
    refine ⟨iterB_sound (fun j q => ?_) n i h, ?_⟩
    · rw [((startB_get n j).mp q).1]; exact .zero
    · refine Classical.byContradiction fun z => ?_
      rw [List.getD_eq_getElem?_getD, List.getElem?_eq_none (by rw [hlen]; omega)] at h
      cases h
  · intro ⟨r, _⟩
    exact reach_closed ((iterB_le es (startB n) n).2 0 ((startB_get n 0).mpr ⟨rfl, hn⟩)) hf (fun e he => by rw [hlen]; exact hl e he) r
/-- the least room that no doors lead to -/
def ApartIs (es : List (Nat × Nat)) (n : Nat) : Option Nat → Prop
  | none => ∀ i, i < n → Reach es i
  | some k => k < n ∧ ¬ Reach es k ∧ ∀ i, i < k → Reach es i
theorem ApartIs.uniq {es : List (Nat × Nat)} {n : Nat} : ∀ {a b : Option Nat}, ApartIs es n a → ApartIs es n b → a = b
  | none, none, _, _ => rfl
  | none, some k, h, g => absurd (h k g.1) g.2.1
  | some k, none, h, g => absurd (g k h.1) h.2.1
  | some j, some k, h, g => by
    rcases Nat.lt_trichotomy j k with q | q | q
    · exact absurd (g.2.2 j q) h.2.1
    · rw [q]
    · exact absurd (h.2.2 k q) g.2.1
end Law

set_option Elab.async false
set_option linter.all false
set_option maxRecDepth 100000
set_option maxHeartbeats 4000000
namespace Law
open PySem L2 DL
variable [Tb]
/-! ### _least_apart -/
def intOf : D → Nat
  | .int i => i.toNat
  | _ => 0
/-- a door's two rooms -/
def endsD : D → Nat × Nat
  | .tup (a :: _ :: b :: _) => (intOf a, intOf b)
  | _ => (0, 0)
/-- a door of n rooms -/
structure DoorOf (n : Nat) (d : D) : Prop where
  ex : ∃ (a b : Nat) (x y : D), d = .tup [.int a, x, .int b, y] ∧ a < n ∧ b < n
def apD : Option Nat → D
  | none => .non
  | some k => .int k
def S__least_apart : PF := fun ds T post _ => ∃ (n : Nat) (xs : List D) (o : Option Nat), ds = [.int n, .tup xs] ∧ 1 ≤ n ∧ n ≤ 12 ∧ xs.length ≤ 1000 ∧ (∀ d ∈ xs, DoorOf n d) ∧ ApartIs (xs.map endsD) n o ∧ post (.fz (apD o)) T
def G__least_apart : DG := (gSeq (gSetO 2 (dLc [6] (iRng1D (dVar 0)) (tgN 6) tAll (dOp dEq (dVar 6) (dC (.int 0)))))
    (gSeq (gFor (iRng1D (dVar 0)) (tgN 3) (gFor (iSeq (dVar 1)) (tgTup 4 (tgCons (tgN 4) (tgCons (tgN 3) (tgCons (tgN 5) (tgCons (tgN 3) tgNil))))) (gIf (tOrD (dTest (dIxV 2 (dVar 4))) (dTest (dIxV 2 (dVar 5)))) (gPut2 2 2 (dC (.bl true)) (dVar 4) (dVar 5)) gNil)))
    (gSeq (gIf (dTest (dCB cAll (aCons (dVar 2) aNil))) (gRet (dC .non)) gNil)
    (gRet (dIndex 2 (dC (.bl false)))))))
def G_la2 : DG := (gSeq (gFor (iRng1D (dVar 0)) (tgN 3) (gFor (iSeq (dVar 1)) (tgTup 4 (tgCons (tgN 4) (tgCons (tgN 3) (tgCons (tgN 5) (tgCons (tgN 3) tgNil))))) (gIf (tOrD (dTest (dIxV 2 (dVar 4))) (dTest (dIxV 2 (dVar 5)))) (gPut2 2 2 (dC (.bl true)) (dVar 4) (dVar 5)) gNil)))
    (gSeq (gIf (dTest (dCB cAll (aCons (dVar 2) aNil))) (gRet (dC .non)) gNil)
    (gRet (dIndex 2 (dC (.bl false))))))
theorem rangeD_get {lo : Int} {n i : Nat} {d : D} (h : (rangeD lo n)[i]? = some d) : d = .int (lo + (i : Nat)) ∧ i < n := by
  unfold rangeD at h
  rw [List.getElem?_map] at h
  cases q : (List.range n)[i]? with
  | none => rw [q] at h; cases h
  | some j =>
    rw [q] at h
    cases h
    have := List.getElem?_eq_some_iff.mp q
    obtain ⟨h1, h2⟩ := this
    simp at h1 h2
    subst h2
    exact ⟨rfl, h1⟩
abbrev blsD (bs : List Bool) : List D := bs.map D.bl
theorem atI_bls {bs : List Bool} {a : Nat} (h : a < bs.length) : atI (blsD bs) (a : Int) = some (.bl (bs.getD a false)) := by
  unfold atI
  rw [ixN_of (by omega) (by simp [blsD]; omega)]
  show (blsD bs)[a]? = some (.bl (bs.getD a false))
  unfold blsD
  rw [List.getElem?_map, List.getD_eq_getElem?_getD, List.getElem?_eq_getElem h]
  rfl
def laSt (n : Nat) (xs : List D) (T : Nat) (bs : List Bool) (v3 v4 v5 v6 : Option Sl) : DS := ⟨[some (.fz (.int n)), some (.fz (.tup xs)), some (.ow (.lst (blsD bs))), v3, v4, v5, v6], T⟩
theorem set_bls (bs : List Bool) (a : Nat) : (blsD bs).set a (.bl true) = blsD (bs.set a true) := by
  simp [blsD, List.map_set]
def laG : D → D
  | .int i => .bl (decide (i = 0))
  | d => d
theorem laG_map (n : Nat) : (rangeD 0 n).map laG = blsD (startB n) := by
  unfold rangeD blsD startB
  rw [List.map_map, List.map_map]
  apply List.map_congr_left
  intro i _
  show D.bl (decide ((0 : Int) + (i : Int) = 0)) = D.bl (decide (i = 0))
  congr 1
  exact decide_eq_decide.mpr (by omega)
theorem bls_map' (bs : List Bool) : blsOf (blsD bs) = some bs := by
  have := bls_map (fun d => match d with | .bl b => b | _ => false) (bs.map D.bl)
  rw [List.map_map, List.map_map] at this
  simpa [Function.comp_def] using this
theorem la_step {n : Nat} {xs : List D} {T : Nat} {bs : List Bool} {a b : Nat} {v3 v6 : Option Sl} {E : DE} (hl : bs.length = n) (ha : a < n) (hb : b < n) (hR : ∀ v3 v4 v5 v6, E.nx (laSt n xs T (setB bs (a, b)) v3 v4 v5 v6)) :
    gIf (tOrD (dTest (dIxV 2 (dVar 4))) (dTest (dIxV 2 (dVar 5)))) (gPut2 2 2 (dC (D.bl true)) (dVar 4) (dVar 5)) gNil E (laSt n xs T bs v3 (some (.fz (.int a))) (some (.fz (.int b))) v6) := by
  have put : (bs.getD a false || bs.getD b false) = true → gPut2 2 2 (dC (D.bl true)) (dVar 4) (dVar 5) E (laSt n xs T bs v3 (some (.fz (.int a))) (some (.fz (.int b))) v6) := fun q => by
    refine ⟨trivial, (show (0 : Int) ≤ (a : Int) from by omega), (show (a : Int) < ((blsD bs).length : Int) from by simp [blsD]; omega), trivial, (show (0 : Int) ≤ (b : Int) from by omega), (show (b : Int) < (((blsD bs).set a (.bl true)).length : Int) from by simp [blsD]; omega), ?_⟩
    have h := hR v3 (some (.fz (.int a))) (some (.fz (.int b))) v6
    unfold setB at h
    rw [if_pos q] at h
    show E.nx ⟨[some (.fz (.int n)), some (.fz (.tup xs)), some (.ow (.lst (((blsD bs).set a (.bl true)).set b (.bl true)))), v3, some (.fz (.int a)), some (.fz (.int b)), v6], T⟩
    rw [set_bls, set_bls]
    exact h
  refine ⟨trivial, _, atI_bls (by omega), ?_⟩
  cases q : bs.getD a false with
  | true => exact put (by rw [q]; rfl)
  | false =>
    refine ⟨trivial, _, atI_bls (by omega), ?_⟩
    cases q2 : bs.getD b false with
    | true => exact put (by rw [q, q2]; rfl)
    | false =>
      have h := hR v3 (some (.fz (.int a))) (some (.fz (.int b))) v6
      unfold setB at h
      rw [q, q2] at h
      exact h
theorem m_la2 {n : Nat} {xs : List D} {o : Option Nat} {T : Nat} {post : Sl → Nat → Prop} {ex : Str → List (Str × D) → Nat → Prop} (h1 : 1 ≤ n) (h12 : n ≤ 12) (hx : xs.length ≤ 1000) (hd : ∀ d ∈ xs, DoorOf n d) (hl : ∀ e ∈ xs.map endsD, e.1 < n ∧ e.2 < n)
    (ha : ApartIs (xs.map endsD) n o) (hp : post (.fz (apD o)) T) : G_la2 (endsOf post ex) (laSt n xs T (startB n) none none none none) := by
  have hlen : ∀ k, (iterB (xs.map endsD) k (startB n)).length = n := fun k => by rw [iterB_len, startB_len]
  refine gFor_inv (fun i s => ∃ v3 v4 v5 v6, s = laSt n xs T (iterB (xs.map endsD) i (startB n)) v3 v4 v5 v6) (rangeD 0 n) (fun P h => ⟨by omega, by omega, h _ ⟨_, _, _, _, rfl⟩⟩) ?_ ?_
  · rintro i d s hi ⟨v3, v4, v5, v6, rfl⟩ R hR
    show gFor _ _ _ _ (laSt n xs T (iterB (xs.map endsD) i (startB n)) (some (.fz d)) v4 v5 v6)
    refine gFor_inv (fun j s => ∃ v3 v4 v5 v6, s = laSt n xs T (passB ((xs.map endsD).take j) (iterB (xs.map endsD) i (startB n))) v3 v4 v5 v6) xs (fun P h => ⟨xs, rfl, h _ ⟨_, _, _, _, rfl⟩⟩) ?_ ?_
    · rintro j d s hj ⟨v3, v4, v5, v6, rfl⟩ R2 hR2
      obtain ⟨a, b, x, y, rfl, la, lb⟩ := (hd d (get_mem hj)).ex
      have hnext : passB ((xs.map endsD).take (j + 1)) (iterB (xs.map endsD) i (startB n)) = setB (passB ((xs.map endsD).take j) (iterB (xs.map endsD) i (startB n))) (a, b) := by
        have : (xs.map endsD)[j]? = some (a, b) := by rw [List.getElem?_map, hj]; rfl
        rw [take_succ_get this, passB, List.foldl_append]
        rfl
      have hbl : (passB ((xs.map endsD).take j) (iterB (xs.map endsD) i (startB n))).length = n := by rw [← (passB_le _ _).1, hlen]
      have hR3 : ∀ v3 v4 v5 v6, R2 (laSt n xs T (setB (passB ((xs.map endsD).take j) (iterB (xs.map endsD) i (startB n))) (a, b)) v3 v4 v5 v6) := fun v3 v4 v5 v6 => hR2 _ ⟨v3, v4, v5, v6, by rw [hnext]⟩
      exact ⟨rfl, la_step hbl la lb hR3⟩
    · rintro s ⟨v3, v4, v5, v6, rfl⟩
      refine hR _ ⟨v3, v4, v5, v6, ?_⟩
      rw [show ((xs.map endsD).take xs.length) = xs.map endsD from by rw [← List.length_map (f := endsD), List.take_length]]
      rfl
  · rintro s ⟨v3, v4, v5, v6, rfl⟩
    rw [rangeD_len]
    have hr := reached (es := xs.map endsD) h1 hl
    have hln := hlen n
    generalize iterB (xs.map endsD) n (startB n) = bs at hr hln ⊢
    refine ⟨bs, bls_map' bs, ?_⟩
    cases q : bs.all id with
    | true =>
      cases o with
      | none => exact hp
      | some k =>
        refine absurd ((hr k).mp ?_).1 ha.2.1
        rw [List.getD_eq_getElem?_getD, List.getElem?_eq_getElem (by rw [hln]; exact ha.1)]
        exact List.all_eq_true.mp q _ (List.getElem_mem _)
    | false =>
      have ex1 : ∃ k, k < n ∧ bs.getD k false = false := by
        obtain ⟨b, hb, e⟩ := List.all_eq_false.mp q
        obtain ⟨k, hk, e2⟩ := List.mem_iff_getElem.mp hb
        refine ⟨k, by rw [← hln]; exact hk, ?_⟩
        rw [List.getD_eq_getElem?_getD, List.getElem?_eq_getElem hk, e2]
        simpa using e
      cases o with
      | none =>
        obtain ⟨k, hk, e⟩ := ex1
        have := (hr k).mpr ⟨ha k hk, hk⟩
        rw [e] at this
        cases this
      | some k =>
        have hk : k < bs.length := by rw [hln]; exact ha.1
        have ek : bs.getD k false = false := by
          cases z : bs.getD k false with
          | false => rfl
          | true => exact absurd ((hr k).mp z).1 ha.2.1
        refine ⟨rfl, blsD bs, rfl, rfl, by simp [blsD, DL.flatB], k, .bl (bs.getD k false), ?_, by rw [ek]; rfl, fun m z' hm hz => ?_, hp⟩
        · unfold blsD
          rw [List.getElem?_map, List.getD_eq_getElem?_getD, List.getElem?_eq_getElem hk]
          rfl
        · unfold blsD at hz
          rw [List.getElem?_map, List.getElem?_eq_getElem (by omega)] at hz
          cases hz
          have := (hr m).mpr ⟨ha.2.2 m hm, by omega⟩
          rw [List.getD_eq_getElem?_getD, List.getElem?_eq_getElem (by omega)] at this
          rw [show bs[m] = true from this]
          rfl
theorem m__least_apart : ∀ (ds : List D) T post ex, ds.length = 2 → S__least_apart ds T post ex → G__least_apart (endsOf post ex) (startD 7 ds T) := by
  rintro ds T post ex _ ⟨n, xs, o, rfl, h1, h12, hx, hd, ha, hp⟩
  have hl : ∀ e ∈ xs.map endsD, e.1 < n ∧ e.2 < n := fun e he => by
    obtain ⟨d, hm, rfl⟩ := List.mem_map.mp he
    obtain ⟨a, b, x, y, rfl, ha, hb⟩ := (hd d hm).ex
    exact ⟨by simpa [endsD, intOf] using ha, by simpa [endsD, intOf] using hb⟩
  have key : dLc [6] (iRng1D (dVar 0)) (tgN 6) tAll (dOp dEq (dVar 6) (dC (.int 0))) (startD 7 [.int n, .tup xs] T) (fun d s1 => G_la2 (endsOf post ex) (s1.put 2 (.ow d))) (endsOf post ex).ex := by
    refine lc_map (s0 := startD 7 [.int n, .tup xs] T) laG (rangeD 0 n) (by rw [rangeD_len]; omega) (fun Q h => ⟨by omega, by omega, h _ rfl⟩) rfl (fun d hm R hR => ?_) ?_
    · obtain ⟨i, hi, e⟩ := List.mem_iff_getElem.mp hm
      obtain ⟨rfl, _⟩ := rangeD_get (by rw [List.getElem?_eq_getElem hi, e])
      refine ⟨rfl, rfl, ?_⟩
      rw [eqv_int]
      exact hR _ rfl
    · rw [laG_map]
      exact m_la2 h1 h12 hx hd hl ha hp
  exact key
end Law

set_option Elab.async false
set_option linter.all false
set_option maxRecDepth 100000
set_option maxHeartbeats 4000000
namespace DL
open PySem L2
/-! ### what may be compared: plain data of small depth -/
mutual
def okN : Nat → D → Bool
  | _, .non => true | _, .bl _ => true | _, .int _ => true | _, .str x => PyData.strOk x
  | n + 1, .tup ds => okNs n ds
  | n + 1, .lst ds => okNs n ds
  | _, _ => false
def okNs : Nat → List D → Bool
  | _, [] => true
  | n, d :: ds => okN n d && okNs n ds
end
theorem okNs_iff {n : Nat} : ∀ {ds : List D}, okNs n ds = true ↔ ∀ d ∈ ds, okN n d = true
  | [] => by simp [okNs]
  | d :: ds => by simp [okNs, okNs_iff (ds := ds)]
mutual
theorem okN_ok : ∀ {n : Nat} {d : D}, okN n d = true → flatD d = true ∧ PyData.canLay0 (py d) = true ∧ PyData.depth (py d) ≤ n
  | _, .non, _ => by simp [flatD, py, PyData.canLay0, PyData.depth]
  | _, .bl _, _ => by simp [flatD, py, PyData.canLay0, PyData.depth]
  | _, .int _, _ => by simp [flatD, py, PyData.canLay0, PyData.depth]
  | _, .str x, h => by
    unfold okN at h
    simp [flatD, py, PyData.canLay0, PyData.depth, h]
  | 0, .tup _, h => by unfold okN at h; cases h
  | 0, .lst _, h => by unfold okN at h; cases h
  | n + 1, .tup ds, h => by
    unfold okN at h
    obtain ⟨h1, h2, h3⟩ := okNs_ok h
    refine ⟨by unfold flatD; exact h1, by unfold py PyData.canLay0; exact h2, ?_⟩
    unfold py PyData.depth
    omega
  | n + 1, .lst ds, h => by
    unfold okN at h
    obtain ⟨h1, h2, h3⟩ := okNs_ok h
    refine ⟨by unfold flatD; exact h1, by unfold py PyData.canLay0; exact h2, ?_⟩
    unfold py PyData.depth
    omega
  | _, .dic _, h => by unfold okN at h; cases h
  | _, .obj _ _, h => by unfold okN at h; cases h
  | _, .exc _ _, h => by unfold okN at h; cases h
  | _, .st, h => by unfold okN at h; cases h
  | _, .scr _, h => by unfold okN at h; cases h
  | _, .dtp, h => by unfold okN at h; cases h
theorem okNs_ok : ∀ {n : Nat} {ds : List D}, okNs n ds = true → flatDs ds = true ∧ PyData.canLayAll0 (pyL ds) = true ∧ PyData.depthAll (pyL ds) ≤ n
  | _, [], _ => by simp [flatDs, pyL, PyData.canLayAll0, PyData.depthAll]
  | n, d :: ds, h => by
    unfold okNs at h
    obtain ⟨a, b⟩ := Bool.and_eq_true_iff.mp h
    obtain ⟨h1, h2, h3⟩ := okN_ok a
    obtain ⟨g1, g2, g3⟩ := okNs_ok b
    refine ⟨by unfold flatDs; rw [h1, g1]; rfl, by unfold pyL PyData.canLayAll0; rw [h2, g2]; rfl, ?_⟩
    unfold pyL PyData.depthAll
    omega
end
theorem okD_of {n : Nat} {d : D} (h : okN n d = true) (hn : n ≤ 64 := by decide) : okD d = true := by
  obtain ⟨h1, h2, h3⟩ := okN_ok h
  unfold okD SeqAt.shaped
  rw [h1, h2, decide_eq_true (by omega)]
  rfl
end DL

set_option Elab.async false
set_option linter.all false
set_option maxRecDepth 100000
set_option maxHeartbeats 4000000
namespace Law
open PySem L2 DL
variable [Tb]
/-! ### drawing -/
abbrev TM : Nat := 1099511627776
def seqIs (d : D) (xs : List D) : Prop := d = .lst xs ∨ d = .tup xs
def S__law_pick : PF := fun ds T post _ => ∃ d xs, ds = [.st, d] ∧ seqIs d xs ∧ 0 < xs.length ∧ xs.length ≤ 100000 ∧ T < TM ∧ ∀ x ∈ xs, post (.fz x) (T + 1)
def sizeOk (z : Int) : Prop := z ≠ 0 ∧ -12 ≤ z ∧ z ≤ 12
def S__law_size : PF := fun ds T post _ => ds = [.st] ∧ T + 1 < TM ∧ ∀ z, sizeOk z → post (.fz (.int z)) (T + 2)
def S__law_mixed : PF := fun ds T post _ => ∃ xs, ds = [.st, .lst xs] ∧ xs.length ≤ 10000 ∧ (∀ x ∈ xs, okN 8 x = true) ∧ T + xs.length ≤ TM ∧ ∀ ys, ys.Perm xs → post (.fz (.lst ys)) (T + xs.length)
def G__law_pick : DG := (gRet (dIxV 1 (dCall S__law_draw 2 (aCons (dVar 0) (aCons (dCB cLen (aCons (dVar 1) aNil)) aNil)))))
def G__law_mixed : DG := (gSeq (gParOO 2 3 (dListO (dVar 1)) (dLst aNil))
    (gSeq (gWhile (dEmptyT 2 true) (gApp 3 (dPopAt 2 (dCall S__law_draw 2 (aCons (dVar 0) (aCons (dLenV 2) aNil))))))
    (gRet (dVar 3))))
def G__law_size : DG := (gSeq (gSet 1 (dCall S__law_pick 2 (aCons (dVar 0) (aCons (dLst (aCons (dC (.int 2)) (aCons (dC (.int 3)) (aCons (dC (.int 1)) (aCons (dC (.int 4)) (aCons (dC (.int 6)) (aCons (dC (.int 2)) (aCons (dC (.int 1)) (aCons (dC (.int 3)) (aCons (dC (.int 5)) (aCons (dC (.int 8)) (aCons (dC (.int 9)) (aCons (dC (.int 12)) aNil))))))))))))) aNil))))
    (gRet (dOp dMul (dVar 1) (dCall S__law_pick 2 (aCons (dVar 0) (aCons (dLst (aCons (dC (.int 1)) (aCons (dC (.int 1)) (aCons (dC (.int 1)) (aCons (dNeg (dC (.int 1))) aNil))))) aNil))))))
theorem atI_of {xs : List D} {r : Int} (h0 : 0 ≤ r) (h : r < xs.length) : ∃ d, atI xs r = some d ∧ d ∈ xs ∧ xs[r.toNat]? = some d := by
  have hl : r.toNat < xs.length := by omega
  refine ⟨xs[r.toNat], ?_, List.getElem_mem _, List.getElem?_eq_getElem hl⟩
  unfold atI
  rw [ixN_of h0 h]
  exact List.getElem?_eq_getElem hl
theorem m__law_pick : ∀ (ds : List D) T post ex, ds.length = 2 → S__law_pick ds T post ex → G__law_pick (endsOf post ex) (startD 2 ds T) := by
  rintro ds T post ex _ ⟨d, xs, rfl, hs, h0, hl, hT, hp⟩
  have fin : ∀ r : Int, 0 ≤ r → r < xs.length → ∃ d, atI xs r = some d ∧ post (.fz d) (T + 1) := fun r r0 r1 => by
    obtain ⟨d, e, m, _⟩ := atI_of r0 r1
    exact ⟨d, e, hp d m⟩
  rcases hs with rfl | rfl
  · exact ⟨trivial, rfl, xs.length, rfl, by omega, by omega, hT, fun r r0 r1 => fin r r0 r1⟩
  · exact ⟨trivial, rfl, xs.length, rfl, by omega, by omega, hT, fun r r0 r1 => fin r r0 r1⟩
theorem m__law_size : ∀ (ds : List D) T post ex, ds.length = 1 → S__law_size ds T post ex → G__law_size (endsOf post ex) (startD 2 ds T) := by
  rintro ds T post ex _ ⟨rfl, hT, hp⟩
  refine ⟨by decide, rfl, _, _, rfl, .inl rfl, by decide, by decide, (show T < TM from by omega), fun x hx => ?_⟩
  have hx : ∃ z : Int, x = .int z ∧ 1 ≤ z ∧ z ≤ 12 := by
    simp only [List.mem_cons, List.not_mem_nil, or_false] at hx
    rcases hx with rfl | rfl | rfl | rfl | rfl | rfl | rfl | rfl | rfl | rfl | rfl | rfl <;> exact ⟨_, rfl, by decide, by decide⟩
  obtain ⟨z, rfl, z1, z2⟩ := hx
  refine ⟨by decide, rfl, _, _, rfl, .inl rfl, by decide, by decide, (by show T + 1 < TM; omega), fun y hy => ?_⟩
  have hy : ∃ w : Int, y = .int w ∧ (w = 1 ∨ w = -1) := by
    simp only [List.mem_cons, List.not_mem_nil, or_false] at hy
    rcases hy with rfl | rfl | rfl | rfl
    · exact ⟨_, rfl, .inl rfl⟩
    · exact ⟨_, rfl, .inl rfl⟩
    · exact ⟨_, rfl, .inl rfl⟩
    · exact ⟨_, rfl, .inr rfl⟩
  obtain ⟨w, rfl, hw⟩ := hy
  refine ⟨.inl ⟨by omega, by omega⟩, hp (z * w) ?_⟩
  rcases hw with rfl | rfl
  · exact ⟨by omega, by omega, by omega⟩
  · exact ⟨by omega, by omega, by omega⟩
def mxSt (xs left found : List D) (T : Nat) : DS := ⟨[some (.fz .st), some (.fz (.lst xs)), some (.ow (.lst left)), some (.ow (.lst found))], T⟩
theorem perm_erase {α : Type} {l : List α} {i : Nat} {y : α} (h : l[i]? = some y) : (y :: l.eraseIdx i).Perm l := by
  induction l generalizing i with
  | nil => cases h
  | cons a l ih =>
    cases i with
    | zero => cases h; exact List.Perm.refl _
    | succ i => exact (List.Perm.swap _ _ _).trans ((ih h).cons a)
theorem m__law_mixed : ∀ (ds : List D) T post ex, ds.length = 2 → S__law_mixed ds T post ex → G__law_mixed (endsOf post ex) (startD 4 ds T) := by
  rintro ds T post ex _ ⟨xs, rfl, hl, hok, hT, hp⟩
  refine ⟨by decide, ?_⟩
  show gWhile _ _ _ (mxSt xs xs [] T)
  refine gWhile_inv (m := xs.length) (fun m s => ∃ left found, s = mxSt xs left found (T + found.length) ∧ left.length = m ∧ (found ++ left).Perm xs) ⟨xs, [], rfl, rfl, List.Perm.refl _⟩ ?_
  rintro m s ⟨left, found, rfl, rfl, hP⟩ R hR
  have hlen : found.length + left.length = xs.length := by rw [← hP.length_eq, List.length_append]
  have hokl : ∀ x ∈ left, okN 8 x = true := fun x hx => hok x (hP.mem_iff.mp (List.mem_append_right _ hx))
  refine ⟨okD_of (n := 9) (by unfold okN; exact okNs_iff.mpr hokl), ?_⟩
  cases left with
  | nil =>
    have h2 := hp found (by simpa using hP)
    have e : found.length = xs.length := by simpa using hlen
    show post (.fz (.lst found)) (T + found.length)
    rw [e]
    exact h2
  | cons a l =>
    have hz : (a :: l).length ≤ xs.length := by omega
    refine ⟨rfl, (a :: l).length, rfl, by simp, by omega, ?_, fun r r0 r1 => ⟨r0, r1, by omega, fun y hy => ⟨?_, hR ((a :: l).eraseIdx r.toNat).length _ ?_ ⟨(a :: l).eraseIdx r.toNat, found ++ [y], ?_, rfl, ?_⟩⟩⟩⟩
    · show T + found.length < 1099511627776
      have : (a :: l).length = l.length + 1 := rfl
      have e : TM = 1099511627776 := rfl
      omega
    · omega
    · have hr : r.toNat < (a :: l).length := by omega
      rw [List.length_eraseIdx_of_lt hr]
      have : (a :: l).length = l.length + 1 := rfl
      omega
    · show mxSt xs ((a :: l).eraseIdx r.toNat) (found ++ [y]) (T + found.length + 1) = _
      rw [List.length_append]
      rfl
    · have p1 := perm_erase hy
      have p2 : (found ++ [y] ++ (a :: l).eraseIdx r.toNat).Perm (found ++ (y :: (a :: l).eraseIdx r.toNat)) := by rw [List.append_assoc]; exact List.Perm.refl _
      exact (p2.trans (p1.append_left found)).trans hP
end Law

set_option Elab.async false
set_option linter.all false
set_option maxRecDepth 100000
set_option maxHeartbeats 4000000
namespace Law
open PySem L2 DL
variable [Tb]
/-! ### doors drawn -/
structure DoorIs (n : Nat) (d : D) : Prop where
  ex : ∃ (a b : Nat) (x y : Int), d = .tup [.int a, .int x, .int b, .int y] ∧ a < n ∧ b < n ∧ sizeOk x ∧ sizeOk y
theorem DoorIs.of {n : Nat} {d : D} (h : DoorIs n d) : DoorOf n d := by
  obtain ⟨a, b, x, y, e, ha, hb, _, _⟩ := h.ex
  exact ⟨a, b, .int x, .int y, e, ha, hb⟩
theorem DoorIs.ok {n : Nat} {d : D} (h : DoorIs n d) : okN 8 d = true := by
  obtain ⟨a, b, x, y, rfl, _⟩ := h.ex
  rfl
theorem Reach.mono {es fs : List (Nat × Nat)} (h : ∀ e ∈ es, e ∈ fs ∨ (e.2, e.1) ∈ fs) {i : Nat} (r : Reach es i) : Reach fs i := by
  induction r with
  | zero => exact .zero
  | fwd m _ ih =>
    rcases h _ m with q | q
    · exact .fwd q ih
    · exact .bwd q ih
  | bwd m _ ih =>
    rcases h _ m with q | q
    · exact .bwd q ih
    · exact .fwd q ih
def S__law_doors : PF := fun ds T post _ => ∃ n m : Nat, ds = [.st, .int n, .int m] ∧ 1 ≤ n ∧ n ≤ 1000 ∧ m ≤ 1000 ∧ T + 100000 ≤ TM ∧
  ∀ xs T', (∀ d ∈ xs, DoorIs n d) → xs.length ≤ n - 1 + m → (∀ i, i < n → Reach (xs.map endsD) i) → T ≤ T' → T' ≤ T + 20 * (n + m) → post (.fz (.tup xs)) T'
def G__law_doors : DG := (gSeq (gSetO 3 (dLst aNil))
    (gSeq (gFor (iRng2D (dC (.int 1)) (dVar 1)) (tgN 4) (gApp 3 (dTup (aCons (dCall S__law_draw 2 (aCons (dVar 0) (aCons (dVar 4) aNil))) (aCons (dCall S__law_size 1 (aCons (dVar 0) aNil)) (aCons (dVar 4) (aCons (dCall S__law_size 1 (aCons (dVar 0) aNil)) aNil)))))))
    (gSeq (gFor (iRng1D (dCall S__law_draw 2 (aCons (dVar 0) (aCons (dOp dAdd (dVar 2) (dC (.int 1))) aNil)))) (tgN 5) (gSeq (gPar 6 7 (aCons (dCall S__law_draw 2 (aCons (dVar 0) (aCons (dVar 1) aNil))) (aCons (dCall S__law_draw 2 (aCons (dVar 0) (aCons (dVar 1) aNil))) aNil)))
    (gApp 3 (dTup (aCons (dVar 6) (aCons (dCall S__law_size 1 (aCons (dVar 0) aNil)) (aCons (dVar 7) (aCons (dCall S__law_size 1 (aCons (dVar 0) aNil)) aNil))))))))
    (gSeq (gSetO 3 (dLc [8] (iSeq (dVar 3)) (tgN 8) tAll (dIfE (dTest (dOp dEq (dCall S__law_draw 2 (aCons (dVar 0) (aCons (dC (.int 2)) aNil))) (dC (.int 0)))) (dVar 8) (dTup (aCons (dIxV 8 (dC (.int 2))) (aCons (dIxV 8 (dC (.int 3))) (aCons (dIxV 8 (dC (.int 0))) (aCons (dIxV 8 (dC (.int 1))) aNil))))))))
    (gRet (dCB cTuple (aCons (dCall S__law_mixed 2 (aCons (dVar 0) (aCons (dVar 3) aNil))) aNil)))))))
def drSt (n m : Nat) (xs : List D) (v4 v5 v6 v7 : Option Sl) (T : Nat) : DS := ⟨[some (.fz .st), some (.fz (.int n)), some (.fz (.int m)), some (.ow (.lst xs)), v4, v5, v6, v7, none], T⟩
/-- the last two statements -/
def G_dr4 : DG := (gRet (dCB cTuple (aCons (dCall S__law_mixed 2 (aCons (dVar 0) (aCons (dVar 3) aNil))) aNil)))
def F_dr3 : DF := dIfE (dTest (dOp dEq (dCall S__law_draw 2 (aCons (dVar 0) (aCons (dC (.int 2)) aNil))) (dC (.int 0)))) (dVar 8) (dTup (aCons (dIxV 8 (dC (.int 2))) (aCons (dIxV 8 (dC (.int 3))) (aCons (dIxV 8 (dC (.int 0))) (aCons (dIxV 8 (dC (.int 1))) aNil)))))
def G_dr3 : DG := gSeq (gSetO 3 (dLc [8] (iSeq (dVar 3)) (tgN 8) tAll F_dr3)) G_dr4
theorem m_dr3 {n m : Nat} {xs : List D} {v4 v5 v6 v7 : Option Sl} {T1 : Nat} {post : Sl → Nat → Prop} {ex : Str → List (Str × D) → Nat → Prop} (hd : ∀ d ∈ xs, DoorIs n d) (hl : xs.length ≤ 2000) (hr : ∀ i, i < n → Reach (xs.map endsD) i) (hT : T1 + 2 * xs.length ≤ TM)
    (hp : ∀ ys T', (∀ d ∈ ys, DoorIs n d) → ys.length = xs.length → (∀ i, i < n → Reach (ys.map endsD) i) → T' = T1 + 2 * xs.length → post (.fz (.tup ys)) T') : G_dr3 (endsOf post ex) (drSt n m xs v4 v5 v6 v7 T1) := by
  have key : dLc [8] (iSeq (dVar 3)) (tgN 8) tAll F_dr3 (drSt n m xs v4 v5 v6 v7 T1) (fun d s1 => G_dr4 (endsOf post ex) (s1.put 3 (.ow d))) (endsOf post ex).ex := by
    refine dLc_inv (fun i acc s => s = ⟨[some (.fz .st), some (.fz (.int n)), some (.fz (.int m)), some (.fz (.lst xs)), v4, v5, v6, v7, none], T1 + i⟩ ∧ acc.length = i ∧ (∀ d ∈ acc, DoorIs n d) ∧ ∀ e ∈ (xs.take i).map endsD, e ∈ acc.map endsD ∨ (e.2, e.1) ∈ acc.map endsD) xs (fun Q h => ⟨xs, rfl, h _ ⟨rfl, rfl, fun d h => absurd h (by simp), fun e h => absurd h (by simp)⟩⟩) ?_ ?_
    · rintro i d acc s hi ⟨rfl, ha, hdd, he⟩ R hR
      obtain ⟨a, b, x, y, rfl, la, lb, sx, sy⟩ := (hd d (get_mem hi)).ex
      have hil := get_lt hi
      have e1 : endsD (.tup [.int a, .int x, .int b, .int y]) = (a, b) := rfl
      have e2 : endsD (.tup [.int b, .int y, .int a, .int x]) = (b, a) := rfl
      refine ⟨rfl, 2, rfl, by decide, by decide, (show T1 + i < TM from by omega), fun r r0 r1 => ⟨rfl, rfl, ?_⟩⟩
      show (if (PyData.eqv (py (.int r)) (py (.int 0))) = true then _ else _)
      rw [eqv_int]
      by_cases hr0 : r = 0
      · rw [decide_eq_true hr0, if_pos rfl]
        refine ⟨by omega, hR _ _ ⟨rfl, by rw [List.length_append, ha]; rfl, fun d h => ?_, fun e h => ?_⟩⟩
        · rcases List.mem_append.mp h with h | h
          · exact hdd d h
          · rw [List.mem_singleton.mp h]; exact ⟨a, b, x, y, rfl, la, lb, sx, sy⟩
        · rw [take_succ_get hi, List.map_append] at h
          rw [List.map_append]
          rcases List.mem_append.mp h with h | h
          · rcases he e h with q | q
            · exact .inl (List.mem_append_left _ q)
            · exact .inr (List.mem_append_left _ q)
          · exact .inl (List.mem_append_right _ h)
      · rw [decide_eq_false hr0, if_neg (by simp)]
        refine ⟨trivial, .int b, rfl, trivial, .int y, rfl, trivial, .int a, rfl, trivial, .int x, rfl, (by show 4 ≤ 100000; decide), by omega, hR _ _ ⟨rfl, by rw [List.length_append, ha]; rfl, fun d h => ?_, fun e h => ?_⟩⟩
        · rcases List.mem_append.mp h with h | h
          · exact hdd d h
          · rw [List.mem_singleton.mp h]; exact ⟨b, a, y, x, rfl, lb, la, sy, sx⟩
        · rw [take_succ_get hi, List.map_append] at h
          rw [List.map_append]
          rcases List.mem_append.mp h with h | h
          · rcases he e h with q | q
            · exact .inl (List.mem_append_left _ q)
            · exact .inr (List.mem_append_left _ q)
          · rw [List.map_singleton, List.mem_singleton] at h
            subst h
            exact .inr (List.mem_append_right _ (by simp [e1, e2]))
    · rintro acc s ⟨rfl, ha, hdd, he⟩
      refine ⟨rfl, acc, rfl, by omega, fun x hx => (hdd x hx).ok, (show T1 + xs.length + acc.length ≤ TM from by omega), fun ys hy => ?_⟩
      refine hp ys _ (fun d h => hdd d (hy.mem_iff.mp h)) (by rw [hy.length_eq, ha]) (fun i hi => ?_) (by show T1 + xs.length + acc.length = _; omega)
      refine Reach.mono (fun e h => ?_) (hr i hi)
      rw [List.take_length] at he
      have pm := hy.map endsD
      rcases he e h with q | q
      · exact .inl (pm.mem_iff.mpr q)
      · exact .inr (pm.mem_iff.mpr q)
  exact key

/-- one door more -/
theorem dr_app {n : Nat} {xs : List D} {a b : Nat} {x y : Int} (hd : ∀ d ∈ xs, DoorIs n d) (ha : a < n) (hb : b < n) (hx : sizeOk x) (hy : sizeOk y) : ∀ d ∈ xs ++ [D.tup [.int a, .int x, .int b, .int y]], DoorIs n d := fun d h => by
  rcases List.mem_append.mp h with h | h
  · exact hd d h
  · rw [List.mem_singleton.mp h]; exact ⟨a, b, x, y, rfl, ha, hb, hx, hy⟩
theorem reach_app {xs : List D} {d : D} {i : Nat} (r : Reach (xs.map endsD) i) : Reach ((xs ++ [d]).map endsD) i := r.mono fun e h => .inl (by rw [List.map_append]; exact List.mem_append_left _ h)
def G_dr2 : DG := gSeq (gFor (iRng1D (dCall S__law_draw 2 (aCons (dVar 0) (aCons (dOp dAdd (dVar 2) (dC (.int 1))) aNil)))) (tgN 5) (gSeq (gPar 6 7 (aCons (dCall S__law_draw 2 (aCons (dVar 0) (aCons (dVar 1) aNil))) (aCons (dCall S__law_draw 2 (aCons (dVar 0) (aCons (dVar 1) aNil))) aNil)))
    (gApp 3 (dTup (aCons (dVar 6) (aCons (dCall S__law_size 1 (aCons (dVar 0) aNil)) (aCons (dVar 7) (aCons (dCall S__law_size 1 (aCons (dVar 0) aNil)) aNil)))))))) G_dr3
theorem m_dr2 {n m : Nat} {xs : List D} {v4 v5 v6 v7 : Option Sl} {T T1 : Nat} {post : Sl → Nat → Prop} {ex : Str → List (Str × D) → Nat → Prop} (h1 : 1 ≤ n) (hn : n ≤ 1000) (hm : m ≤ 1000) (hd : ∀ d ∈ xs, DoorIs n d) (hl : xs.length = n - 1) (hr : ∀ i, i < n → Reach (xs.map endsD) i)
    (hT : T + 100000 ≤ TM) (hT1 : T1 = T + 5 * (n - 1)) (hp : ∀ ys T', (∀ d ∈ ys, DoorIs n d) → ys.length ≤ n - 1 + m → (∀ i, i < n → Reach (ys.map endsD) i) → T ≤ T' → T' ≤ T + 20 * (n + m) → post (.fz (.tup ys)) T') : G_dr2 (endsOf post ex) (drSt n m xs v4 v5 v6 v7 T1) := by
  refine ⟨rfl, m + 1, rfl, by omega, by omega, (show T1 < TM from by omega), fun r r0 r1 => ⟨by omega, by omega, ?_⟩⟩
  have hk : r.toNat ≤ m := by omega
  refine forD_inv (fun i s => ∃ ys v4 v5 v6 v7, s = drSt n m ys v4 v5 v6 v7 (T1 + 1 + 6 * i) ∧ (∀ d ∈ ys, DoorIs n d) ∧ ys.length = n - 1 + i ∧ ∀ j, j < n → Reach (ys.map endsD) j) (rangeD 0 r.toNat) 0 _ ?_ ⟨xs, v4, v5, v6, v7, rfl, hd, by omega, hr⟩ ?_
  · rintro i d s hi ⟨ys, v4, v5, v6, v7, rfl, hd, hl, hr⟩ R hR
    have hi2 := (rangeD_get hi).2
    rw [Nat.zero_add] at hl hR
    show gSeq _ _ _ (drSt n m ys v4 (some (.fz d)) v6 v7 (T1 + 1 + 6 * (0 + i)))
    rw [Nat.zero_add]
    refine ⟨rfl, n, rfl, by omega, by omega, (show T1 + 1 + 6 * i < TM from by omega), fun a a0 a1 => ?_⟩
    refine ⟨rfl, n, rfl, by omega, by omega, (show T1 + 1 + 6 * i + 1 < TM from by omega), fun b b0 b1 => ?_⟩
    refine ⟨rfl, rfl, (show T1 + 1 + 6 * i + 2 + 1 < TM from by omega), fun x hx => ?_⟩
    refine ⟨rfl, rfl, (show T1 + 1 + 6 * i + 4 + 1 < TM from by omega), fun y hy => ?_⟩
    refine ⟨by show 4 ≤ 100000; decide, (show ys.length < 100000 from by omega), ?_⟩
    obtain ⟨a, rfl⟩ := Int.eq_ofNat_of_zero_le a0
    obtain ⟨b, rfl⟩ := Int.eq_ofNat_of_zero_le b0
    exact hR _ ⟨ys ++ [.tup [.int a, .int x, .int b, .int y]], v4, some (.fz d), some (.fz (.int a)), some (.fz (.int b)), by rw [show T1 + 1 + 6 * (i + 1) = T1 + 1 + 6 * i + 2 + 2 + 2 from by omega]; rfl, dr_app hd (by omega) (by omega) hx hy, by rw [List.length_append, hl]; simp; omega, fun j hj => reach_app (hr j hj)⟩
  · rintro s ⟨ys, v4, v5, v6, v7, rfl, hd, hl, hr⟩
    rw [rangeD_len, Nat.zero_add] at hl
    rw [rangeD_len]
    refine m_dr3 hd (by omega) hr (by omega) fun zs T' q1 q2 q3 q4 => hp zs T' q1 (by omega) q3 (by omega) (by omega)
theorem m__law_doors : ∀ (ds : List D) T post ex, ds.length = 3 → S__law_doors ds T post ex → G__law_doors (endsOf post ex) (startD 9 ds T) := by
  rintro ds T post ex _ ⟨n, m, rfl, h1, hn, hm, hT, hp⟩
  refine ⟨by decide, ⟨by decide, by decide, by omega, by omega⟩, ?_⟩
  have e : ((n : Int) - 1).toNat = n - 1 := by omega
  have key : forD (tgN 4) (gApp 3 (dTup (aCons (dCall S__law_draw 2 (aCons (dVar 0) (aCons (dVar 4) aNil))) (aCons (dCall S__law_size 1 (aCons (dVar 0) aNil)) (aCons (dVar 4) (aCons (dCall S__law_size 1 (aCons (dVar 0) aNil)) aNil)))))) (rangeD 1 ((n : Int) - 1).toNat) { endsOf post ex with nx := G_dr2 (endsOf post ex) } (drSt n m [] none none none none T) := by
    rw [e]
    refine forD_inv (fun i s => ∃ ys v4 v5 v6 v7, s = drSt n m ys v4 v5 v6 v7 (T + 5 * i) ∧ (∀ d ∈ ys, DoorIs n d) ∧ ys.length = i ∧ ∀ j, j < i + 1 → Reach (ys.map endsD) j) (rangeD 1 (n - 1)) 0 _ ?_ ⟨[], _, _, _, _, rfl, fun d h => absurd h (by simp), rfl, fun j hj => by rw [show j = 0 from by omega]; exact .zero⟩ ?_
    · rintro i d s hi ⟨ys, v4, v5, v6, v7, rfl, hd, hl, hr⟩ R hR
      obtain ⟨rfl, hi2⟩ := rangeD_get hi
      rw [Nat.zero_add] at hl hR hr
      have hroom : (1 : Int) + (i : Int) = ((1 + i : Nat) : Int) := by omega
      rw [hroom]
      rw [Nat.zero_add]
      refine ⟨rfl, _, rfl, by omega, by omega, (show T + 5 * i < TM from by omega), fun a a0 a1 => ?_⟩
      refine ⟨rfl, rfl, (show T + 5 * i + 1 + 1 < TM from by omega), fun x hx => ?_⟩
      refine ⟨rfl, rfl, (show T + 5 * i + 3 + 1 < TM from by omega), fun y hy => ?_⟩
      refine ⟨by show 4 ≤ 100000; decide, (show ys.length < 100000 from by omega), ?_⟩
      obtain ⟨a, rfl⟩ := Int.eq_ofNat_of_zero_le a0
      refine hR _ ⟨ys ++ [.tup [.int a, .int x, .int ((1 + i : Nat) : Int), .int y]], _, v5, v6, v7, by rw [show T + 5 * (i + 1) = T + 5 * i + 1 + 2 + 2 from by omega]; rfl, dr_app hd (by omega) (by omega) hx hy, by rw [List.length_append, hl]; rfl, fun j hj => ?_⟩
      by_cases q : j < i + 1
      · exact reach_app (hr j q)
      · have ej : j = 1 + i := by omega
        subst ej
        refine .fwd (a := a) ?_ (reach_app (hr a (by omega)))
        rw [List.map_append]
        exact List.mem_append_right _ (by rw [List.map_singleton]; exact List.mem_singleton.mpr rfl)
    · rintro s ⟨ys, v4, v5, v6, v7, rfl, hd, hl, hr⟩
      rw [rangeD_len, Nat.zero_add] at hl hr
      rw [rangeD_len, Nat.zero_add]
      exact m_dr2 h1 hn hm hd hl (fun j hj => hr j (by omega)) hT rfl hp
  exact key
end Law

set_option Elab.async false
set_option linter.all false
set_option maxRecDepth 100000
set_option maxHeartbeats 4000000
namespace DL
open PySem L2
variable [Tb]
/-! ### the law's own frame -/
theorem scr_part {K : PySem.W.Frag} {H : Hp} {a : Addr} {xs : List V} (h : SqL K H a xs) : ∃ B : Hp, Le B H ∧ SqL K B a xs ∧ (∀ b ps, B b ≠ some (.tbl ps)) ∧ ∀ b, B b ≠ none → b = a := by
  rcases h with (h | ⟨o, h⟩) | h
  · refine ⟨fun b => if b = a then H a else none, fun b o e => ?_, .inl (.inl ?_), fun b ps e => ?_, fun b e => ?_⟩
    · dsimp only at e
      split at e
      · rename_i z; rw [z]; exact e
      · cases e
    · dsimp only; rw [if_pos rfl]; exact h
    · dsimp only at e
      split at e
      · rw [h] at e; cases e
      · cases e
    · refine Classical.byContradiction fun z => e ?_
      dsimp only
      rw [if_neg z]
  · refine ⟨fun b => if b = a then H a else none, fun b o e => ?_, .inl (.inr ⟨o, ?_⟩), fun b ps e => ?_, fun b e => ?_⟩
    · dsimp only at e
      split at e
      · rename_i z; rw [z]; exact e
      · cases e
    · dsimp only; rw [if_pos rfl]; exact h
    · dsimp only at e
      split at e
      · rw [h] at e; cases e
      · cases e
    · refine Classical.byContradiction fun z => e ?_
      dsimp only
      rw [if_neg z]
  · exact ⟨fun _ => none, fun b o e => (by cases e), .inr h, fun b ps e => (by cases e), fun b e => absurd rfl e⟩
theorem bs_none {K : PySem.W.Frag} {mg : Str → Option Value} {H B : Hp} {T : Nat} (le : Le B H) (nt : ∀ b ps, B b ≠ some (.tbl ps)) (ts : LamX.Tabs Tb.tb H) : Bs ⟨K, mg, ⟨none⟩⟩ H B H B T :=
  ⟨Le.refl B, fun a h1 h2 => absurd h1 h2, fun a o h _ _ => h, le, fun a h => absurd h (by simp [Ct.drs]), nt, fun a h => absurd h (by simp [Ct.drs]), fun a h => h, trivial, ts⟩
theorem bs_st {K : PySem.W.Frag} {mg : Str → Option Value} {H B : Hp} {T : Nat} {p g l : Addr} {gs ls : List Int} {left turn : Int} (S : StAt H p g l gs ls left turn) (hT : turn ≤ T) (le : Le B H) (hp : B p = none) (hg : B g = none) (hl : B l = none) (nt : ∀ b ps, B b ≠ some (.tbl ps)) (ts : LamX.Tabs Tb.tb H) :
    Bs ⟨K, mg, ⟨some (p, g, l)⟩⟩ H B H B T := by
  have dr : ∀ a ∈ (⟨K, mg, ⟨some (p, g, l)⟩⟩ : Ct).drs, a = p ∨ a = g ∨ a = l := fun a h => by simpa [Ct.drs] using h
  refine ⟨Le.refl B, fun a h1 h2 => absurd h1 h2, fun a o h _ _ => h, le, fun a h => ?_, nt, fun a h => ?_, fun a h => h, ?_, ts⟩
  · rcases dr a h with rfl | rfl | rfl
    · exact hp
    · exact hg
    · exact hl
  · rcases dr a h with rfl | rfl | rfl
    · exact nFr S.st fun ps z => by cases z
    · exact nFr S.gr fun ps z => by cases z
    · exact nFr S.ce fun ps z => by cases z
  · exact ⟨S.ag, S.al, S.gl, gs, ls, left, turn, S.st, S.gr, S.ce, S.g0, S.gn, S.l0, S.ln, S.left0, S.turn0, hT⟩
/-- what _law_begun promises -/
def spBegun (K : PySem.W.Frag) : Sp := fun vs H Q _ => ∃ (a : Addr) (ns : List Int), vs = [.ref a] ∧ SqL K H a (ns.map V.int) ∧ ns.length ≤ 63 ∧ LamX.Tabs Tb.tb H ∧
  ∀ (p g l : Addr) (gs ls : List Int) (H' : Hp), StAt H' p g l gs ls 0 0 → Fr H p → Fr H g → Fr H l → (∀ b o, H b = some o → (∀ ps, o ≠ .tbl ps) → H' b = some o) → LamX.Tabs Tb.tb H' → Q (.ref p) H'
section
variable {P : Program} {w : World} {K : PySem.W.Frag} {mg : Str → Option Value} {base : Heap}
/-- the law: its first statement, the rest over the draws' state -/
theorem law_okG {st : Stmt} {f fB : Addr} {fd fdB : FuncData} {N : List Str} {k : Nat} {G : DG} {rest : List Stmt} {p1 p2 p3 p4 p5 : Pos} (F : Fun K "law" "law" st f fd) (Sc : FnScope N ["script"] (defScope st)) (hbd : defBody st = .Assign [.Name "state" p1] (.Call (.Name "_law_begun" p2) [.Name "script" p3] [] p4) p5 :: rest) (hN : N = ("script" : Str) :: ("state" : Str) :: N.drop 2)
    (hl0 : Vis (defScope st) "script") (hl1 : (defScope st).names.lookup ("state" : Str) = some .local) (hgl : (defScope st).names.lookup ("_law_begun" : Str) = some .globalImplicit)
    (GB : FnOk P w K mg base CX0 k fB fdB ["script"] (spBegun K)) (mB : mg "_law_begun" = some (.ref fB)) (kB : PySem.W.keepIn K (.ref fB) = true) (bB : Binds K fdB ["script"] [])
    (hrest : ∀ (cdv : Value) (A : Around) (outer : List Env) (s : Shared) (H : Hp) (E : XK), Room k (A.deeper (PyProof.Rows.envOfC "law" (defScope st) s.heap.objs.size f cdv)) → DPSs (cxOf CX0 P w K mg base N "law" (defScope st) f cdv A outer s H E).nox W0 rest G)
    (hG : ∀ ns : List Int, ns.length ≤ 63 → G (endsOf (fun x _ => x = .fz (.bl true)) (fun _ _ _ => False)) ⟨some (.fz (.scr ns)) :: some (.fz .st) :: List.replicate (N.length - 2) none, 0⟩) : FnOk P w K mg base CX0 (k + 1) f fd ["script"] (spLaw K) := by
  refine F.ok Sc (fun vs H Q E h => ?_) (fun cdv A outer s H vs Q E hr h => ?_)
  · obtain ⟨a, ns, rfl, _⟩ := h
    rfl
  · obtain ⟨a, ns, rfl, hS, hl, hT, hQ⟩ := h
    rw [hbd]
    have nd := Sc.nd
    generalize hM : N.drop 2 = N' at hN
    clear hM
    subst hN
    have h0 : (("script" : Str) :: ("state" : Str) :: N')[0]? = some ("script" : Str) := rfl
    have h1 : (("script" : Str) :: ("state" : Str) :: N')[1]? = some ("state" : Str) := rfl
    refine ⟨_, pss_cons (ps_set (i := 1) nd h1 (Or.inl hl1) (pe_call GB hr hgl mB kB bB .nil pass0 (pa_cons (pe_var (i := 0) h0 hl0 (by decide) (by decide)) pa_nil))) (hrest cdv A outer s H E hr).ps, ?_⟩
    refine ⟨.ref a, rfl, a, ns, rfl, hS, hl, hT, fun p g l gs ls H' S np ng nl kp T' => ?_⟩
    obtain ⟨B, le, hB, nt, only⟩ := scr_part hS
    have bn : ∀ {b}, Fr H b → B b = none := fun {b} e => by
      cases q : B b with
      | none => rfl
      | some o =>
        obtain ⟨ps, z⟩ := e o (le b o q)
        exact absurd (by rw [q, z]) (nt b ps)
    have b := bs_st (K := K) (mg := mg) (T := 0) S (Int.le_refl 0) (fun b o e => kp b o (le b o e) fun ps z => nt b ps (by rw [e, z])) (bn np) (bn ng) (bn nl) nt T'
    refine ⟨⟨some (p, g, l)⟩, [], H', B, ⟨some (.fz (.scr ns)) :: some (.fz .st) :: List.replicate N'.length none, 0⟩, B, endsOf (fun x _ => x = .fz (.bl true)) (fun _ _ _ => False), ⟨b, ?_, fun i d e => ?_, fun i d e => ?_, fun i j d e q h => ?_, fun x hx => absurd hx (by simp)⟩, hG ns hl, ⟨fun _ _ _ _ _ _ z => (by cases z), fun _ _ _ _ _ _ z => z.elim, fun _ _ _ _ _ _ z => z.elim, fun σ v H s B d t l r n => ?_, fun σ p o H s B d t l hp ro n => (by cases n), fun _ _ _ _ _ _ _ _ _ _ _ z => z.elim⟩⟩
    · show _ ≤ ((L2.start (("script" : Str) :: ("state" : Str) :: N') [.ref a]).set 1 (some (.ref p))).length
      rw [List.length_set]
      simp [L2.start]
    · match i, e with
      | 0, e => cases e; exact ⟨.ref a, rfl, by unfold Rep; exact ⟨a, rfl, hB⟩⟩
      | 1, e => cases e; exact ⟨.ref p, rfl, by unfold Rep; exact ⟨p, g, l, rfl, rfl⟩⟩
      | i + 2, e =>
        have e : (List.replicate N'.length (none : Option Sl))[i]? = some (some (.fz d)) := e
        rw [List.getElem?_replicate] at e
        split at e <;> cases e
    · match i, e with
      | 0, e => cases e
      | 1, e => cases e
      | i + 2, e =>
        have e : (List.replicate N'.length (none : Option Sl))[i]? = some (some (.ow d)) := e
        rw [List.getElem?_replicate] at e
        split at e <;> cases e
    · match i, h with
      | 0, e => cases e
      | 1, e => cases e
      | i + 2, e =>
        have e : (List.replicate N'.length (none : Option Sl))[i]? = some (some (.ow d)) := e
        rw [List.getElem?_replicate] at e
        split at e <;> cases e
    · cases n
      rw [rep_bl r]
      exact hQ _
end
end DL

set_option Elab.async false
set_option linter.all false
set_option maxRecDepth 100000
set_option maxHeartbeats 4000000
namespace DL
open PySem L2
/-! ### from the head's facts to known defs and classes -/
structure DefAt (K : PySem.W.Frag) (mg : Str → Option Value) (x : Str) (st : Stmt) (ps : List Str) : Prop where
  ex : ∃ f fd, Fun K x x st f fd ∧ mg x = some (.ref f) ∧ PySem.W.keepIn K (.ref f) = true ∧ Binds K fd ps []
section
variable {K : PySem.W.Frag} {h : Heap} {mg : Str → Option Value} {x : Str} {st : Stmt} {ps : List Str}
theorem defAt_of (X : K.In h) (G : h.Ns mainGlobals mg) (cg : (He.Fa.glo x).ok K = true) (Fd : ∃ fd, FunD K x x (defArgs st) (defBody st) (defScope st) [] [] (He.ga K x) fd)
    (hb : ∀ (kV doc pm : Value) (an : Option Addr) (cdv ct : Value) (us : List Value), us.length = ps.length → bindArgs (PySem.W.fnOf x x (defArgs st) (defBody st) (defScope st) .none kV doc pm an cdv ct) ⟨us, []⟩ = pure (ps.zip us)) : DefAt K mg x st ps := by
  obtain ⟨fd, F⟩ := Fd
  have F' := He5.fun_of F
  exact ⟨He.ga K x, fd, F', He.glo_ok X G cg, F'.kp, F'.binds hb⟩
variable {P : Program} {w : World} {base : Heap}
theorem DefAt.kn [Tb] {CX : CXT} {k : Nat} {S : PF} (D : DefAt K mg x st ps) (ok : ∀ f fd, Fun K x x st f fd → FnOk P w K mg base CX k f fd ps (spD K mg ps.length S)) : Kn P w K mg base CX k x ps S := by
  obtain ⟨f, fd, F, m, kp, b⟩ := D.ex
  exact ⟨f, fd, ok f fd F, m, kp, b⟩
/-! classes -/
theorem knI_of [Tb] {k : Nat} {S : PF} {q : Str} (X : K.In h) (G : h.Ns mainGlobals mg) (cg : (He.Fa.glo x).ok K = true) (cm : (He.Fa.mkr x).ok K = true) (Fd : ∃ fd, FunD K "__init__" q (defArgs st) (defBody st) (defScope st) [] [] (He.ma K (He.ga K x) "__init__") fd)
    (hb : ∀ (kV doc pm : Value) (an : Option Addr) (cdv ct : Value) (us : List Value), us.length = (("self" : Str) :: ps).length → bindArgs (PySem.W.fnOf "__init__" q (defArgs st) (defBody st) (defScope st) .none kV doc pm an cdv ct) ⟨us, []⟩ = pure ((("self" : Str) :: ps).zip us))
    (ok : ∀ f fd, Fun K "__init__" q st f fd → FnOk P w K mg base (L2.CX P w) k f fd (("self" : Str) :: ps) (spI K mg x ps.length S)) : KnI P w K mg base (L2.CX P w) k x ps S := by
  obtain ⟨fd, F⟩ := Fd
  have F' := He5.fun_of F
  exact ⟨He.ga K x, _, fd, He.mkr_ok cm, ok _ fd F', He.glo_ok X G cg, F'.binds hb⟩
theorem excT_of (X : K.In h) (G : h.Ns mainGlobals mg) (cg : (He.Fa.glo x).ok K = true) (ce : (He.Fa.exc x).ok K = true) : ExcT K mg x := by
  obtain ⟨h1, h2, h3, h4⟩ := He.exc_ok ce
  exact ⟨He.ga K x, He.glo_ok X G cg, h1, h2, h3, h4⟩
/-- what the head's one Bool asks of classes -/
def objB (K : PySem.W.Frag) (C : Addr) : Bool := He.eqO (PySem.W.findIn K (.ref C) "__class__") (some (some (.builtin "object.__class__"))) && (decide (PySem.W.mroIn K C (.type "object") = some true) && (He.eqO (PySem.W.specialIn K (.builtin "object.__class__") "__get__") (some (some (.builtin "getset_descriptor.__get__"))) && decide (PySem.W.takesIn K (.builtin "object.__class__") = some true)))
def excB (K : PySem.W.Frag) (C : Addr) : Bool := (PySem.W.clsIn K C).isSome && (He.eqO (PySem.W.findIn K (.ref C) "__getattribute__") (some (some (.builtin "BaseException.__getattribute__"))) && (He.eqO (PySem.W.findIn K (.ref C) "__getattr__") (some none) && (decide (PySem.W.subIn K (.ref C) (.type "BaseException") = some true) && objB K C)))
def kitsB (K : PySem.W.Frag) (cn : Str) (os es : List (Str × Bool)) : Bool := (["NoneType", "bool", "int", "str", "tuple", "list", "dict"].all fun n => decide (PySem.W.kitOne K (.type n) (.ref (He.ga K cn)) = some false)) && ((os ++ es).all fun p => decide (PySem.W.kitOne K (.ref (He.ga K p.1)) (.ref (He.ga K cn)) = some p.2))
theorem excB_ok {C : Addr} (c : excB K C = true) : ExcI K C := by
  obtain ⟨c1, c⟩ := He.ba c
  obtain ⟨c2, c⟩ := He.ba c
  obtain ⟨c3, c⟩ := He.ba c
  obtain ⟨c4, c⟩ := He.ba c
  obtain ⟨c5, c⟩ := He.ba c
  obtain ⟨c6, c⟩ := He.ba c
  obtain ⟨c7, c8⟩ := He.ba c
  exact ⟨c1, He.eqO_ok c2, He.eqO_ok c3, of_decide_eq_true c4, He.eqO_ok c5, He.eqO_ok c7, of_decide_eq_true c8, of_decide_eq_true c6⟩
theorem objB_ok {x : Str} (cc : (He.Fa.cls x).ok K = true) (c : objB K (He.ga K x) = true) (hk : PySem.W.kitOne K (.ref (He.ga K x)) (.ref (He.ga K x)) = some true) : C8.InsC K (He.ga K x) := by
  obtain ⟨c5, c⟩ := He.ba c
  obtain ⟨c6, c⟩ := He.ba c
  obtain ⟨c7, c8⟩ := He.ba c
  exact ⟨He.cls_ok cc, He.eqO_ok c5, He.eqO_ok c7, of_decide_eq_true c8, of_decide_eq_true c6, hk⟩
theorem lookup_in {l : List (Str × Bool)} {n : Str} {b : Bool} (h : l.lookup n = some b) : (n, b) ∈ l := PySem.mem_of_lookup h
theorem isO_of {cn : Str} {os es : List (Str × Bool)} (X : K.In h) (G : h.Ns mainGlobals mg) (cg : (He.Fa.glo cn).ok K = true) (ck : kitsB K cn os es = true) (co : ∀ p ∈ os, (He.Fa.glo p.1).ok K = true ∧ C8.InsC K (He.ga K p.1)) (ce : ∀ p ∈ es, (He.Fa.glo p.1).ok K = true ∧ ExcI K (He.ga K p.1)) : IsO K mg cn os es := by
  obtain ⟨c1, c2⟩ := He.ba ck
  refine ⟨He.ga K cn, He.glo_ok X G cg, fun n hn => of_decide_eq_true (List.all_eq_true.mp c1 n hn), fun n b hl => ?_, fun n b hl => ?_⟩
  · obtain ⟨g, i⟩ := co (n, b) (lookup_in hl)
    exact ⟨He.ga K n, He.glo_ok X G g, i, of_decide_eq_true (List.all_eq_true.mp c2 (n, b) (List.mem_append_left _ (lookup_in hl)))⟩
  · obtain ⟨g, i⟩ := ce (n, b) (lookup_in hl)
    exact ⟨He.ga K n, He.glo_ok X G g, i, of_decide_eq_true (List.all_eq_true.mp c2 (n, b) (List.mem_append_right _ (lookup_in hl)))⟩
theorem Kn.up [Tb] {CX : CXT} {k j : Nat} {S : PF} (h : Kn P w K mg base CX k x ps S) (hk : k ≤ j) : Kn P w K mg base CX j x ps S := by
  obtain ⟨f, fd, o, r⟩ := h.ex
  exact ⟨f, fd, o.mono hk, r⟩
end
end DL

set_option Elab.async false
set_option linter.all false
set_option maxRecDepth 100000
set_option maxHeartbeats 4000000
namespace Law
open PySem L2 DL
variable [Tb]
def F_abs : DF := dCB cAbs (aCons (dVar 2) aNil)
def F_big : DF := dOp dPow (dC (.int 10)) (dC (.int 18))
def F_great : DF := dLc [2] (iSeq (dVar 0)) (tgN 2) (dTest (dOp (dCmpI fun i j => decide (j ≤ i)) F_abs F_big)) (dOp dSub F_abs F_big)
def F_cells : DF := dLc [2] (iSeq (dVar 0)) (tgN 2) tAll F_abs
def absI (z : Int) : Int := if z < 0 then -z else z
theorem absI_0 (z : Int) : 0 ≤ absI z := by unfold absI; split <;> omega
def bigI : Int := 10 ^ (18 : Int).toNat
theorem map_get {ns : List Int} {i : Nat} {d : D} (hi : (ns.map D.int)[i]? = some d) : ∃ z, ns[i]? = some z ∧ D.int z = d := by
  rw [List.getElem?_map] at hi
  cases q : ns[i]? with
  | none => rw [q] at hi; cases hi
  | some z => rw [q] at hi; exact ⟨z, rfl, Option.some.inj hi⟩
theorem m_great (ns : List Int) (hl : ns.length ≤ 63) (T : Nat) (P : D → DS → Prop) (ex : XD) (h : ∀ gs : List Int, (∀ x ∈ gs, 0 ≤ x) → gs.length ≤ 63 → P (.lst (gs.map D.int)) (startD 3 [.scr ns] T)) : F_great (startD 3 [.scr ns] T) P ex := by
  refine dLc_inv (fun i acc s => s = startD 3 [.scr ns] T ∧ ∃ gs : List Int, acc = gs.map D.int ∧ (∀ x ∈ gs, 0 ≤ x) ∧ gs.length ≤ i) (ns.map D.int) (fun Q hQ => ⟨_, rfl, hQ _ ⟨rfl, [], rfl, fun x h => absurd h (by simp), Nat.le_refl _⟩⟩) ?_ ?_
  · rintro i d acc s hi ⟨rfl, gs, rfl, h0, hn⟩ R hR
    obtain ⟨z, hz, rfl⟩ := map_get hi
    have hil := get_lt hz
    have pw : CPow 10 18 := ⟨by decide, by decide, by decide⟩
    refine ⟨pw, ?_⟩
    show (match D.bl (decide (bigI ≤ absI z)) with | .bl k => (if k = true then dOp dSub F_abs F_big ((startD 3 [.scr ns] T).put 2 (.fz (.int z))) (fun y s3 => (gs.map D.int).length < 100000 ∧ R (gs.map D.int ++ [y]) (s3.wipe [2])) (fun _ _ _ => False) else R (gs.map D.int) (((startD 3 [.scr ns] T).put 2 (.fz (.int z))).wipe [2])) | _ => False)
    by_cases q : bigI ≤ absI z
    · rw [decide_eq_true q]
      refine ⟨pw, (by rw [List.length_map]; omega), hR _ _ ⟨rfl, gs ++ [absI z - bigI], by rw [List.map_append]; rfl, fun x hx => ?_, by rw [List.length_append]; simp; omega⟩⟩
      rcases List.mem_append.mp hx with hx | hx
      · exact h0 x hx
      · rw [List.mem_singleton.mp hx]; omega
    · rw [decide_eq_false q]
      exact hR _ _ ⟨rfl, gs, rfl, h0, by omega⟩
  · rintro acc s ⟨rfl, gs, rfl, h0, hn⟩
    rw [List.length_map] at hn
    exact h gs h0 (by omega)
theorem m_cells (ns : List Int) (hl : ns.length ≤ 63) (v1 : Option Sl) (T : Nat) (P : D → DS → Prop) (ex : XD) (h : ∀ ls : List Int, (∀ x ∈ ls, 0 ≤ x) → ls.length ≤ 63 → P (.lst (ls.map D.int)) ⟨[some (.fz (.scr ns)), v1, none], T⟩) : F_cells ⟨[some (.fz (.scr ns)), v1, none], T⟩ P ex := by
  refine lc_map (s0 := ⟨[some (.fz (.scr ns)), v1, none], T⟩) (fun d => match d with | .int z => .int (absI z) | d => d) (ns.map D.int) (by rw [List.length_map]; omega) (fun Q hQ => ⟨_, rfl, hQ _ rfl⟩) rfl (fun d hd R hR => ?_) ?_
  · obtain ⟨z, _, rfl⟩ := List.mem_map.mp hd
    exact hR _ rfl
  · rw [List.map_map]
    have e := h (ns.map absI) (fun x hx => by obtain ⟨z, _, rfl⟩ := List.mem_map.mp hx; exact absI_0 z) (by rw [List.length_map]; exact hl)
    rw [List.map_map] at e
    exact e
theorem repL_ints_eq {c : Ct} {B : Hp} : ∀ {ns : List Int} {xs : List V}, RepL c B (ns.map D.int) xs → xs = ns.map V.int
  | [], xs, h => by unfold RepL at h; exact h
  | n :: ns, xs, h => by
    obtain ⟨x, xr, rfl, h1, h2⟩ := (by unfold RepL at h; exact h)
    rw [rep_int h1, repL_ints_eq h2]
    rfl
theorem st_merge {g l : Addr} : mergeK [] (stK g l 0 0) = stK g l 0 0 := by
  have h1 : ¬ ("great" : Str) = "cells" := by decide +kernel
  have h2 : ¬ ("great" : Str) = "left" := by decide +kernel
  have h3 : ¬ ("cells" : Str) = "left" := by decide +kernel
  have h4 : ¬ ("great" : Str) = "turn" := by decide +kernel
  have h5 : ¬ ("cells" : Str) = "turn" := by decide +kernel
  have h6 : ¬ ("left" : Str) = "turn" := by decide +kernel
  simp [mergeK, putK, stK, h1, h2, h3, h4, h5, h6]
/-- what House makes of two values; where rooms are apart, nothing is said -/
def S_House : PF := fun ds T post ex => ∃ r d, ds = [r, d] ∧ plainD r = true ∧ plainD d = true ∧ (∀ xs, d = .tup xs → ∀ x ∈ xs, plainD x = true ∧ plainDs x = true) ∧
  (within r 1 12 = false → ex "BadRooms" [] T) ∧ (∀ n : Nat, r = .int n → within r 1 12 = true → (areDoors n d = false → ex "BadDoors" [] T) ∧ (areDoors n d = true → ∃ xs, d = .tup xs ∧ ApartIs (xs.map endsD) n none ∧ post (.ow (.obj "House" [("rooms", r), ("doors", d)])) T))
theorem doorOf_of {n : Nat} {d : D} (h : isDoor n d = true) : DoorOf n d := by
  unfold isDoor at h
  split at h
  · rename_i a x b y
    simp only [Bool.and_eq_true] at h
    obtain ⟨⟨h1, h2⟩, _⟩ := h
    have f : ∀ {z : D}, within z 0 ((n : Int) - 1) = true → ∃ m : Nat, z = .int m ∧ m < n := fun {z} h => by
      cases z with
      | int i =>
        have h : (decide (0 ≤ i) && decide (i ≤ (n : Int) - 1)) = true := h
        simp only [Bool.and_eq_true, decide_eq_true_eq] at h
        obtain ⟨m, rfl⟩ := Int.eq_ofNat_of_zero_le h.1
        exact ⟨m, rfl, by omega⟩
      | _ => cases h
    obtain ⟨m1, rfl, l1⟩ := f h1
    obtain ⟨m2, rfl, l2⟩ := f h2
    exact ⟨m1, m2, _, _, rfl, l1, l2⟩
  · cases h
end Law

set_option Elab.async false
set_option linter.all false
set_option maxRecDepth 100000
set_option maxHeartbeats 4000000
namespace Law
open PySem L2 DL
variable [Tb]
/-- is it this truth -/
def isTrue (d : D) (b : Bool) : Bool := match d with
  | .bl c => c == b
  | _ => false
def S__law_is_truth : PF := fun ds T post _ => ∃ c b : Bool, ds = [.bl c, .bl b] ∧ post (.fz (.bl (c == b))) T
def G__law_is_truth : DG := (gRet (dIfE (dTest (dVar 1)) (dOp dIsB (dVar 0) (dC (.bl true))) (dOp dIsB (dVar 0) (dC (.bl false)))))
theorem m__law_is_truth : ∀ (ds : List D) T post ex, ds.length = 2 → S__law_is_truth ds T post ex → G__law_is_truth (endsOf post ex) (startD 2 ds T) := by
  rintro ds T post ex _ ⟨c, b, rfl, hp⟩
  cases b <;> cases c <;> exact hp
def S__law_wk_house : PF := fun ds T post _ => ∃ n m : Nat, ds = [.st, .int n, .int m] ∧ 1 ≤ n ∧ n ≤ 12 ∧ m ≤ 100 ∧ T + 200000 ≤ TM ∧
  ∀ r xs T', 1 ≤ r → r ≤ n → (∀ d ∈ xs, DoorIs r d) → xs.length ≤ r - 1 + m → (∀ i, i < r → Reach (xs.map endsD) i) → T ≤ T' → T' ≤ T + 1 + 20 * (n + m) → post (.fz (.tup [.int (r : Nat), .tup xs])) T'
def G__law_wk_house : DG := (gSeq (gSet 3 (dOp dAdd (dC (.int 1)) (dCall S__law_draw 2 (aCons (dVar 0) (aCons (dVar 1) aNil)))))
    (gRet (dTup (aCons (dVar 3) (aCons (dCall S__law_doors 3 (aCons (dVar 0) (aCons (dVar 3) (aCons (dVar 2) aNil)))) aNil)))))
theorem m__law_wk_house : ∀ (ds : List D) T post ex, ds.length = 3 → S__law_wk_house ds T post ex → G__law_wk_house (endsOf post ex) (startD 4 ds T) := by
  rintro ds T post ex _ ⟨n, m, rfl, h1, hn, hm, hT, hp⟩
  refine ⟨rfl, n, rfl, by omega, by omega, (show T < TM from by omega), fun r r0 r1 => ?_⟩
  obtain ⟨r, rfl⟩ := Int.eq_ofNat_of_zero_le r0
  have e : (1 : Int) + (r : Int) = ((1 + r : Nat) : Int) := by omega
  show gRet (dTup (aCons (dVar 3) (aCons (dCall S__law_doors 3 (aCons (dVar 0) (aCons (dVar 3) (aCons (dVar 2) aNil)))) aNil))) (endsOf post ex) ⟨[some (.fz .st), some (.fz (.int n)), some (.fz (.int m)), some (.fz (.int ((1 : Int) + (r : Int))))], T + 1⟩
  rw [e]
  refine ⟨rfl, 1 + r, m, rfl, by omega, by omega, by omega, (show T + 1 + 100000 ≤ TM from by omega), fun xs T' q1 q2 q3 q4 q5 => ⟨by show 2 ≤ 100000; decide, ?_⟩⟩
  have q4 : T + 1 ≤ T' := q4
  have q5 : T' ≤ T + 1 + 20 * (1 + r + m) := q5
  exact hp (1 + r) xs T' (by omega) (by omega) q1 (by omega) q3 (by omega) (by omega)
def S__law_free_doors : PF := fun ds T post _ => ∃ n : Nat, ds = [.st, .int n] ∧ 1 ≤ n ∧ n ≤ 1000 ∧ T + 1000 ≤ TM ∧ ∀ xs T', (∀ d ∈ xs, DoorIs n d) → xs.length ≤ 6 → T ≤ T' → T' ≤ T + 100 → post (.fz (.tup xs)) T'
def G__law_free_doors : DG := (gSeq (gSetO 2 (dLst aNil))
    (gSeq (gFor (iRng1D (dCall S__law_draw 2 (aCons (dVar 0) (aCons (dC (.int 7)) aNil)))) (tgN 3) (gSeq (gPar 4 5 (aCons (dCall S__law_draw 2 (aCons (dVar 0) (aCons (dVar 1) aNil))) (aCons (dCall S__law_draw 2 (aCons (dVar 0) (aCons (dVar 1) aNil))) aNil)))
    (gApp 2 (dTup (aCons (dVar 4) (aCons (dCall S__law_size 1 (aCons (dVar 0) aNil)) (aCons (dVar 5) (aCons (dCall S__law_size 1 (aCons (dVar 0) aNil)) aNil))))))))
    (gRet (dCB cTuple (aCons (dVar 2) aNil)))))
theorem m__law_free_doors : ∀ (ds : List D) T post ex, ds.length = 2 → S__law_free_doors ds T post ex → G__law_free_doors (endsOf post ex) (startD 6 ds T) := by
  rintro ds T post ex _ ⟨n, rfl, h1, hn, hT, hp⟩
  refine ⟨by decide, ?_⟩
  refine ⟨rfl, 7, rfl, by decide, by decide, (show T < TM from by omega), fun r r0 r1 => ⟨by omega, by omega, ?_⟩⟩
  have hk : r.toNat ≤ 6 := by omega
  refine forD_inv (fun i s => ∃ ys v3 v4 v5, s = ⟨[some (.fz .st), some (.fz (.int n)), some (.ow (.lst ys)), v3, v4, v5], T + 1 + 6 * i⟩ ∧ (∀ d ∈ ys, DoorIs n d) ∧ ys.length = i) (rangeD 0 r.toNat) 0 _ ?_ ⟨[], _, _, _, rfl, fun d h => absurd h (by simp), rfl⟩ ?_
  · rintro i d s hi ⟨ys, v3, v4, v5, rfl, hd, hl⟩ R hR
    have hi2 := (rangeD_get hi).2
    rw [Nat.zero_add] at hl hR
    rw [Nat.zero_add]
    refine ⟨rfl, n, rfl, by omega, by omega, (show T + 1 + 6 * i < TM from by omega), fun a a0 a1 => ?_⟩
    refine ⟨rfl, n, rfl, by omega, by omega, (show T + 1 + 6 * i + 1 < TM from by omega), fun b b0 b1 => ?_⟩
    refine ⟨rfl, rfl, (show T + 1 + 6 * i + 2 + 1 < TM from by omega), fun x hx => ?_⟩
    refine ⟨rfl, rfl, (show T + 1 + 6 * i + 4 + 1 < TM from by omega), fun y hy => ?_⟩
    refine ⟨by show 4 ≤ 100000; decide, (show ys.length < 100000 from by omega), ?_⟩
    obtain ⟨a, rfl⟩ := Int.eq_ofNat_of_zero_le a0
    obtain ⟨b, rfl⟩ := Int.eq_ofNat_of_zero_le b0
    exact hR _ ⟨ys ++ [.tup [.int a, .int x, .int b, .int y]], _, _, _, by rw [show T + 1 + 6 * (i + 1) = T + 1 + 6 * i + 2 + 2 + 2 from by omega]; rfl, dr_app hd (by omega) (by omega) hx hy, by rw [List.length_append, hl]; rfl⟩
  · rintro s ⟨ys, v3, v4, v5, rfl, hd, hl⟩
    rw [rangeD_len, Nat.zero_add] at hl
    rw [rangeD_len]
    exact hp ys _ hd (by omega) (show T ≤ T + 1 + 6 * (0 + r.toNat) from by omega) (show T + 1 + 6 * (0 + r.toNat) ≤ T + 100 from by omega)
end Law

set_option Elab.async false
set_option linter.all false
set_option maxRecDepth 100000
set_option maxHeartbeats 4000000
namespace DL
open PySem L2
variable [Tb]
/-! ### calls by keywords alone -/
structure DPK (X : Cx) (W : WX) (kws : List Keyword) (G : DFA) : Prop where pk : PK X kws (LftA X W G)
theorem pk_mono {X : Cx} {e : List Keyword} {t t' : TA} (h : ∀ σ H Q, t' σ H Q → t σ H Q) (p : PK X e t) : PK X e t' := ⟨fun pos pins s σ H Q I q => p.run pos pins s σ H Q I (h σ H Q q)⟩
section
variable {X : Cx} {W : WX} {e : Expr} {kws : List Keyword} {F : DF} {G : DFA} {kpos p pos : Pos} {nm : Option Str}
theorem k_nil : DPK X W [] aNil := ⟨pk_mono (fun σ H Q ⟨q, L, H0, B0, s, B, P, ex, t, f, rt, x⟩ => rt [] H [] s B t (Le.refl B) (by unfold RepL; rfl) f) pk_nil⟩
theorem k_cons (ha : DPE X W e F) (hr : DPK X W kws G) : DPK X W (⟨nm, e, kpos⟩ :: kws) (aCons F G) :=
  ⟨pk_mono (fun σ H Q ⟨q, L, H0, B0, s, B, P, ex, t, f, rt, x⟩ => ⟨q, L, H0, B0, s, B, _, ex, t, f, fun v H1 d s1 B1 t1 l1 r1 p1 => ⟨q, L, H0, B0, s1, B1, _, ex, t1, p1, fun vs H2 ds s2 B2 t2 l2 r2 p2 => rt _ _ _ _ _ t2 (l1.trans l2) (repL_cons (r1.mono l2) r2) p2, x.le l1⟩, x⟩) (pk_cons ha.pe hr.pk)⟩
/-- the values, in the order of the parameters -/
def pick {α : Type} (π : List Nat) (d : α) (us ws : List α) : List α := us ++ π.map fun i => ws.getD i d
theorem vals_getD : ∀ {zs : List V} {ws : List Value} (i : Nat), Vals zs ws → RelV (zs.getD i .non) (ws.getD i .none)
  | _, _, i, .nil => by
    have e1 : ([] : List V).getD i .non = .non := by simp
    have e2 : ([] : List Value).getD i .none = .none := by simp
    rw [e1, e2]
    rfl
  | _, _, 0, .cons h _ => h
  | _, _, i + 1, .cons _ r => vals_getD i r
theorem vals_app : ∀ {a b : List V} {c d : List Value}, Vals a c → Vals b d → Vals (a ++ b) (c ++ d)
  | _, _, _, _, .nil, r => r
  | _, _, _, _, .cons h t, r => .cons h (vals_app t r)
theorem vals_pick (π : List Nat) {vs zs : List V} {us ws : List Value} (r : Vals vs us) (q : Vals zs ws) : Vals (pick π .non vs zs) (pick π .none us ws) := by
  refine vals_app r ?_
  induction π with
  | nil => exact .nil
  | cons i π ih => exact .cons (vals_getD i q) ih
theorem repL_getD {c : Ct} {B : Hp} : ∀ {ds : List D} {vs : List V} (i : Nat), RepL c B ds vs → Rep c B (ds.getD i .non) (vs.getD i .non)
  | [], vs, i, h => by
    unfold RepL at h
    subst h
    have e1 : ([] : List D).getD i .non = .non := by simp
    have e2 : ([] : List V).getD i .non = .non := by simp
    rw [e1, e2]
    unfold Rep
    rfl
  | d :: ds, vs, i, h => by
    unfold RepL at h
    obtain ⟨x, xr, rfl, h1, h2⟩ := h
    cases i with
    | zero => exact h1
    | succ i => exact repL_getD i h2
theorem repL_pick {c : Ct} {B : Hp} (π : List Nat) {ds : List D} {vs : List V} (h : RepL c B ds vs) : RepL c B (pick π .non [] ds) (pick π .non [] vs) := by
  induction π with
  | nil => unfold pick RepL; rfl
  | cons i π ih => exact repL_cons (repL_getD i h) ih
/-- a def that is called by keywords -/
structure KnK (P : Program) (w : World) (K : PySem.W.Frag) (mg : Str → Option Value) (base : Heap) (CX : CXT) (k : Nat) (x : Str) (ps ks : List Str) (π : List Nat) (S : PF) : Prop where
  ex : ∃ f fd, FnOk P w K mg base CX k f fd ps (spD K mg ps.length S) ∧ mg x = some (.ref f) ∧ PySem.W.keepIn K (.ref f) = true ∧ KBn K fd ps 0 ks (pick π .none) (pick π .non)
/-- x(k = v, ..) -/
theorem pe_kw0 {CX : CXT} {k : Nat} {x : Str} {f : Addr} {fd : FuncData} {ps ks : List Str} {sp : Sp} {E : XK} {tk : TA} {g : List Value → List Value → List Value} {gV : List V → List V → List V} (F : FnOk X.prog X.w X.K X.mg X.base CX k f fd ps sp) (hr : Room k X.A) (hg : Gl X x) (hm : X.mg x = some (.ref f)) (hk : PySem.W.keepIn X.K (.ref f) = true)
    (hb : KBn X.K fd ps 0 ks g gV) (hx : Passes CX X E) (hkw : PK X kws tk) (h1 : (backToKw pos (keywordEach kws X.env)).all (·.1.isSome) = true := by rfl) (h2 : (backToKw pos (keywordEach kws X.env)).filterMap (·.1) = ks := by rfl)
    (hdb : (x == ("__debug__" : Str)) = false := by decide) (h3 : ((backTo pos (starEach [] X.env)).any (·.1) || (backToKw pos (keywordEach kws X.env)).any (·.1.isNone)) = false := by rfl) :
    PE X (.Call (.Name x p) [] kws pos) (fun σ H Q => tk σ H fun zs H2 => zs.length = ks.length ∧ sp (gV [] zs) H2 Q E) := by
  constructor
  intro pins s σ H Q I h
  refine wpAny_Call_Name_kw (ld_glob I hg hm (PySem.W.callWith_KW0 (h₀ := X.base) I.ok.mod.kin hk h1 (thn (hkw.run pos pins s σ H _ I h) fun ws s2 ⟨zs, H2, I2, rz, l2, q2⟩ => ⟨I2.kIn, ?_⟩) h3) hdb)
  rw [h2]
  exact run_fnN F hr hb hx I2 .nil rz rfl l2 q2
def dCallK (S : PF) (m : Nat) (π : List Nat) (G : DFA) : DF := fun s P ex => G s (fun ds s1 => ds.length = m ∧ S (pick π .non [] ds) s1.T (fun x T' => P x.d (s1.tick T')) noX) ex
theorem d_callK {k m : Nat} {x : Str} {ps ks : List Str} {π : List Nat} {S : PF} (F : KnK X.prog X.w X.K X.mg X.base CX0 k x ps ks π S) (hr : Room k X.A) (ha : DPK X W kws G) (hn : ks.length = m := by rfl) (hp : π.length = ps.length := by rfl) (hg : Gl X x := by rfl) (hdb : (x == ("__debug__" : Str)) = false := by decide)
    (h1 : (backToKw pos (keywordEach kws X.env)).all (·.1.isSome) = true := by rfl) (h2 : (backToKw pos (keywordEach kws X.env)).filterMap (·.1) = ks := by rfl) (h3 : ((backTo pos (starEach [] X.env)).any (·.1) || (backToKw pos (keywordEach kws X.env)).any (·.1.isNone)) = false := by rfl) :
    DPE X W (.Call (.Name x p) [] kws pos) (dCallK S m π G) := by
  subst hn
  obtain ⟨f, fd, f1, f2, f3, f4⟩ := F.ex
  refine ⟨pe_mono (fun σ H Q ⟨q, L, H0, B0, s, B, P, ex, t, f, rt, e⟩ => ?_) (pe_kw0 f1 hr hg f2 f3 f4 pass0 ha.pk h1 h2 hdb h3)⟩
  refine ⟨q, L, H0, B0, s, B, _, ex, t, f, fun vs H1 ds s1 B1 t1 l1 r1 p1 => ⟨by rw [repL_len r1]; exact p1.1, ?_⟩, e⟩
  exact sp_of t1 (repL_pick π r1) (by unfold pick; simp [hp]) p1.2 (fun v H' B' d T' t2 l2 r2 p2 => rt _ _ _ _ _ t2 (l1.trans l2) r2 p2)
    (fun p o H' B' d T' t2 l2 hp ro p2 => rt _ _ _ _ _ (t2.alloc hp ro.ntb) (l1.trans (l2.trans (Le.upd (t2.bs.nB hp)))) ((ro.mono (Le.upd (t2.bs.nB hp))).rep upd_same) p2) (fun _ _ _ _ _ _ _ _ _ _ z => z.elim)
def dCallKX (S : PF) (m : Nat) (π : List Nat) (G : DFA) : DF := fun s P ex => G s (fun ds s1 => ds.length = m ∧ S (pick π .non [] ds) s1.T (fun x T' => P x.d (s1.tick T')) (fun n fs T' => ex n fs (s1.tick T'))) ex
theorem d_callKX {E : XK} {k m : Nat} {x : Str} {ps ks : List Str} {π : List Nat} {S : PF} (tk : Takes X (wE E)) (F : KnK X.prog X.w X.K X.mg X.base (L2.CX X.prog X.w) k x ps ks π S) (hr : Room k X.A) (ha : DPK X (wE E) kws G) (hn : ks.length = m := by rfl) (hp : π.length = ps.length := by rfl) (hg : Gl X x := by rfl) (hdb : (x == ("__debug__" : Str)) = false := by decide)
    (h1 : (backToKw pos (keywordEach kws X.env)).all (·.1.isSome) = true := by rfl) (h2 : (backToKw pos (keywordEach kws X.env)).filterMap (·.1) = ks := by rfl) (h3 : ((backTo pos (starEach [] X.env)).any (·.1) || (backToKw pos (keywordEach kws X.env)).any (·.1.isNone)) = false := by rfl) :
    DPE X (wE E) (.Call (.Name x p) [] kws pos) (dCallKX S m π G) := by
  subst hn
  obtain ⟨f, fd, f1, f2, f3, f4⟩ := F.ex
  refine ⟨pe_mono (fun σ H Q ⟨q, L, H0, B0, s, B, P, ex, t, f, rt, e⟩ => ?_) (pe_kw0 f1 hr hg f2 f3 f4 (passes_call tk fun _ _ _ _ z => z) ha.pk h1 h2 hdb h3)⟩
  refine ⟨q, L, H0, B0, s, B, _, ex, t, f, fun vs H1 ds s1 B1 t1 l1 r1 p1 => ⟨by rw [repL_len r1]; exact p1.1, ?_⟩, e⟩
  exact sp_of t1 (repL_pick π r1) (by unfold pick; simp [hp]) p1.2 (fun v H' B' d T' t2 l2 r2 p2 => rt _ _ _ _ _ t2 (l1.trans l2) r2 p2)
    (fun p o H' B' d T' t2 l2 hp ro p2 => rt _ _ _ _ _ (t2.alloc hp ro.ntb) (l1.trans (l2.trans (Le.upd (t2.bs.nB hp)))) ((ro.mono (Le.upd (t2.bs.nB hp))).rep upd_same) p2)
    (fun m fs cls dd H' B' T' t2 l2 x z => e m fs _ H' B' cls dd t2 (l1.trans l2) x z)
/-- .. of a def that may raise, where nothing is raised -/
theorem d_callKX0 {k m : Nat} {x : Str} {ps ks : List Str} {π : List Nat} {S : PF} (F : KnK X.prog X.w X.K X.mg X.base (L2.CX X.prog X.w) k x ps ks π S) (hr : Room k X.A) (ha : DPK X W kws G) (hn : ks.length = m := by rfl) (hp : π.length = ps.length := by rfl) (hg : Gl X x := by rfl) (hdb : (x == ("__debug__" : Str)) = false := by decide)
    (h1 : (backToKw pos (keywordEach kws X.env)).all (·.1.isSome) = true := by rfl) (h2 : (backToKw pos (keywordEach kws X.env)).filterMap (·.1) = ks := by rfl) (h3 : ((backTo pos (starEach [] X.env)).any (·.1) || (backToKw pos (keywordEach kws X.env)).any (·.1.isNone)) = false := by rfl) :
    DPE X W (.Call (.Name x p) [] kws pos) (dCallK S m π G) := by
  subst hn
  obtain ⟨f, fd, f1, f2, f3, f4⟩ := F.ex
  refine ⟨pe_mono (fun σ H Q ⟨q, L, H0, B0, s, B, P, ex, t, f, rt, e⟩ => ?_) (pe_kw0 f1 hr hg f2 f3 f4 passL ha.pk h1 h2 hdb h3)⟩
  refine ⟨q, L, H0, B0, s, B, _, ex, t, f, fun vs H1 ds s1 B1 t1 l1 r1 p1 => ⟨by rw [repL_len r1]; exact p1.1, ?_⟩, e⟩
  exact sp_of t1 (repL_pick π r1) (by unfold pick; simp [hp]) p1.2 (fun v H' B' d T' t2 l2 r2 p2 => rt _ _ _ _ _ t2 (l1.trans l2) r2 p2)
    (fun p o H' B' d T' t2 l2 hp ro p2 => rt _ _ _ _ _ (t2.alloc hp ro.ntb) (l1.trans (l2.trans (Le.upd (t2.bs.nB hp)))) ((ro.mono (Le.upd (t2.bs.nB hp))).rep upd_same) p2) (fun _ _ _ _ _ _ _ _ _ _ z => z.elim)
/-- a class that is made by keywords -/
structure KnIK (P : Program) (w : World) (K : PySem.W.Frag) (mg : Str → Option Value) (base : Heap) (CX : CXT) (k : Nat) (x : Str) (ps ks : List Str) (π : List Nat) (S : PF) : Prop where
  ex : ∃ C f fd, Mk K C f ∧ FnOk P w K mg base CX k f fd (("self" : Str) :: ps) (spI K mg x ps.length S) ∧ mg x = some (.ref C) ∧ KBn K fd (("self" : Str) :: ps) 1 ks (pick π .none) (pick π .non)
def dMakeK (S : PF) (m : Nat) (π : List Nat) (G : DFA) : DF := fun s P ex => G s (fun ds s1 => ds.length = m ∧ S (pick π .non [] ds) s1.T (fun y T' => match y with | .ow d => P d (s1.tick T') | _ => False) (fun n fs T' => ex n fs (s1.tick T'))) ex
theorem d_makeK {E : XK} {k m : Nat} {x : Str} {ps ks : List Str} {π : List Nat} {S : PF} (tk : Takes X (wE E)) (F : KnIK X.prog X.w X.K X.mg X.base (L2.CX X.prog X.w) k x ps ks π S) (hr : Room (k + 1) X.A) (ha : DPK X (wE E) kws G) (hn : ks.length = m := by rfl) (hp : π.length = ps.length := by rfl) (hg : Gl X x := by rfl) (hdb : (x == ("__debug__" : Str)) = false := by decide)
    (h1 : (backToKw pos (keywordEach kws X.env)).all (·.1.isSome) = true := by rfl) (h2 : (backToKw pos (keywordEach kws X.env)).filterMap (·.1) = ks := by rfl) (h3 : ((backTo pos (starEach [] X.env)).any (·.1) || (backToKw pos (keywordEach kws X.env)).any (·.1.isNone)) = false := by rfl) :
    DPO X (wE E) (.Call (.Name x p) [] kws pos) (dMakeK S m π G) := by
  subst hn
  obtain ⟨C, f, fd, M, f1, f2, f4⟩ := F.ex
  refine ⟨pe_mono (fun σ H Q ⟨q, L, H0, B0, s, B, P, ex, t, f, rt, e⟩ => ?_) (pe_makeK0 M f1 hr hg f2 f4 (passes_call tk fun _ _ _ _ z => z) ha.pk h1 h2 hdb h3)⟩
  refine ⟨q, L, H0, B0, s, B, _, ex, t, f, fun vs H1 ds s1 B1 t1 l1 r1 p1 => ⟨rfl, by rw [repL_len r1]; exact p1.1, fun x dx nx ndx ne => ?_⟩, e⟩
  exact spI_of t1 (repL_pick π r1) (by unfold pick; simp [hp]) f2 nx ndx ne p1.2 (fun o H' B' d T' t2 l2 hx ro pp => rt _ _ _ _ _ _ t2 (l1.trans l2) hx ro pp) (fun m fs cls dd H' B' T' t2 l2 xr z => e m fs _ H' B' cls dd t2 (l1.trans l2) xr z)
def dMakeK0 (S : PF) (m : Nat) (π : List Nat) (G : DFA) : DF := fun s P ex => G s (fun ds s1 => ds.length = m ∧ S (pick π .non [] ds) s1.T (fun y T' => match y with | .ow d => P d (s1.tick T') | _ => False) noX) ex
theorem d_makeK0 {k m : Nat} {x : Str} {ps ks : List Str} {π : List Nat} {S : PF} (F : KnIK X.prog X.w X.K X.mg X.base (L2.CX X.prog X.w) k x ps ks π S) (hr : Room (k + 1) X.A) (ha : DPK X W kws G) (hn : ks.length = m := by rfl) (hp : π.length = ps.length := by rfl) (hg : Gl X x := by rfl) (hdb : (x == ("__debug__" : Str)) = false := by decide)
    (h1 : (backToKw pos (keywordEach kws X.env)).all (·.1.isSome) = true := by rfl) (h2 : (backToKw pos (keywordEach kws X.env)).filterMap (·.1) = ks := by rfl) (h3 : ((backTo pos (starEach [] X.env)).any (·.1) || (backToKw pos (keywordEach kws X.env)).any (·.1.isNone)) = false := by rfl) :
    DPO X W (.Call (.Name x p) [] kws pos) (dMakeK0 S m π G) := by
  subst hn
  obtain ⟨C, f, fd, M, f1, f2, f4⟩ := F.ex
  refine ⟨pe_mono (fun σ H Q ⟨q, L, H0, B0, s, B, P, ex, t, f, rt, e⟩ => ?_) (pe_makeK0 M f1 hr hg f2 f4 passL ha.pk h1 h2 hdb h3)⟩
  refine ⟨q, L, H0, B0, s, B, _, ex, t, f, fun vs H1 ds s1 B1 t1 l1 r1 p1 => ⟨rfl, by rw [repL_len r1]; exact p1.1, fun x dx nx ndx ne => ?_⟩, e⟩
  exact spI_of (ex := fun _ _ _ => False) t1 (repL_pick π r1) (by unfold pick; simp [hp]) f2 nx ndx ne p1.2 (fun o H' B' d T' t2 l2 hx ro pp => rt _ _ _ _ _ _ t2 (l1.trans l2) hx ro pp) (fun m fs cls dd H' B' T' t2 l2 xr z => z.elim)
end
end DL

set_option Elab.async false
set_option linter.all false
set_option maxRecDepth 100000
set_option maxHeartbeats 4000000
namespace DL
open PySem L2
variable [Tb]
/-! ### dicts of no pair, of one pair -/
section
variable {X : Cx} {W : WX} {e ke : Expr} {F : DF} {pos p : Pos}
theorem d_dict0 : DPO X W (.Dict [] [] pos) (dC (.dic [])) := ⟨pe_mono (fun σ H Q ⟨q, L, H0, B0, s, B, P, ex, t, f, rt, x⟩ => fun p hp => rt p _ H (.dic []) s B t (Le.refl B) hp ⟨[], rfl, by unfold RepK; rfl⟩ f) pe_dnewK⟩
def dDict1 (k : Key) (F : DF) : DF := fun s P ex => F s (fun d s1 => P (.dic [(k, d)]) s1) ex
theorem d_dict1 {k : Key} (hk : PE X ke (tC (kV k))) (he : DPE X W e F) : DPO X W (.Dict [some ke] [e] pos) (dDict1 k F) := by
  refine ⟨pe_mono (fun σ H Q ⟨q, L, H0, B0, s, B, P, ex, t, f, rt, x⟩ => ?_) (pe_disp (pps_cons hk he.pe pps_nil) rfl rfl (by simp) (by show 1 ≤ 15; decide))⟩
  intro p hp
  refine ⟨q, _, H0, B0, s, B, _, ex, t.holdNew (o := .dK []) hp (fun ps z => by cases z), f, fun v H1 d s1 B1 t1 l1 r1 p1 => ?_, fun n fs s' H' B' cls dd t' l' xr z => ?_⟩
  · obtain ⟨h1, _⟩ := t1.hold (p, .dK []) List.mem_cons_self
    obtain ⟨g1, g2, g3⟩ := t1.let (fun z e => by unfold LamX.CodeO at e; cases e) (fun y hy z => by
      obtain ⟨w1, _⟩ := t.hold y hy
      rw [z, hp] at w1
      cases w1)
    refine ⟨h1, [(k, v)], rfl, (by show 1 ≤ 15; decide), ?_⟩
    show Q (.ref p) (upd H1 p (.dK [(k, v)]))
    rw [show upd H1 p (.dK [(k, v)]) = upd (Hp.less H1 p) p (.dK [(k, v)]) from by rw [g2, upd_upd, ← g2]]
    exact rt p _ _ (.dic [(k, d)]) s1 B1 g3 l1 g1 ⟨_, rfl, by unfold RepK; exact ⟨v, [], rfl, r1, by unfold RepK; rfl⟩⟩ p1
  · exact x n fs s' H' B' cls dd ⟨t'.bs, t'.len, t'.fz, t'.ow, t'.inj, fun y hy => t'.hold y (List.mem_cons_of_mem _ hy)⟩ l' xr z
end
end DL

set_option Elab.async false
set_option linter.all false
set_option maxRecDepth 100000
set_option maxHeartbeats 4000000
namespace DL
open PySem L2
/-! ### defs that make lambdas, from the head's facts -/
abbrev lamName (x : Str) : Str := x ++ (".<locals>." : Str) ++ ("<lambda>" : Str)
structure DefL [Tb] (K : PySem.W.Frag) (mg : Str → Option Value) (base : Heap) (x : Str) (st : Stmt) (ps : List Str) : Prop where
  ex : ∃ f fd c Pt, FunL K x x st f fd c ∧ mg x = some (.ref f) ∧ PySem.W.keepIn K (.ref f) = true ∧ Binds K fd ps [] ∧ LamX.TabB base mg c Pt ∧ (Pt, lamName x) ∈ Tb.tb ∧ ∀ p ∈ Tb.tb, p.1 = Pt → p.2 = lamName x
section
variable {K : PySem.W.Frag} {h base : Heap} {mg : Str → Option Value} {x : Str} {st : Stmt} {ps : List Str} {tf : List He.Defn}
theorem nodup_at {α β : Type} {f : α → β} : ∀ {l : List α}, (l.map f).Nodup → ∀ {a b : α}, a ∈ l → b ∈ l → f a = f b → a = b
  | [], _, _, _, h, _, _ => absurd h (by simp)
  | x :: l, nd, a, b, ha, hb, e => by
    rw [List.map_cons, List.nodup_cons] at nd
    rcases List.mem_cons.mp ha with rfl | ha1
    · rcases List.mem_cons.mp hb with rfl | hb1
      · rfl
      · exact absurd (by rw [e]; exact List.mem_map.mpr ⟨b, hb1, rfl⟩) nd.1
    · rcases List.mem_cons.mp hb with rfl | hb1
      · exact absurd (by rw [← e]; exact List.mem_map.mpr ⟨a, ha1, rfl⟩) nd.1
      · exact nodup_at nd.2 ha1 hb1 e
theorem defL_of (X : K.In h) (G : h.Ns mainGlobals mg) (cg : (He.Fa.glo x).ok K = true) (Fd : ∃ fd, FunD K x x (defArgs st) (defBody st) (defScope st) [] [] (He.ga K x) fd)
    (hb : ∀ (kV doc pm : Value) (an : Option Addr) (cdv ct : Value) (us : List Value), us.length = ps.length → bindArgs (PySem.W.fnOf x x (defArgs st) (defBody st) (defScope st) .none kV doc pm an cdv ct) ⟨us, []⟩ = pure (ps.zip us))
    (hp : (x, none) ∈ tf) (hT : ∀ p ∈ tf, LamX.TabB base mg (He.cT K p).1 (He.cT K p).2) (hn : (tf.map fun p => (He.cT K p).2).Nodup) : letI : Tb := ⟨tbOf K tf⟩; DefL K mg base x st ps := by
  letI : Tb := ⟨tbOf K tf⟩
  obtain ⟨fd, F⟩ := Fd
  have F' := He5.fun_of F
  have kp := F'.kp
  have bd := F'.binds hb
  obtain ⟨oc, od, kV, doc, pm, an, cdv, ct, osl, rfl, lk, hcd⟩ := F'.ex
  obtain ⟨c, rfl⟩ := He.codeIn_ref hcd
  have ec : He.codeOf K (x, none) = c := He.codeOf_eq lk rfl
  refine ⟨He.ga K x, _, c, (He.cT K (x, none)).2, ⟨oc, od, kV, doc, pm, an, ct, osl, rfl, lk, hcd⟩, He.glo_ok X G cg, kp, bd, ?_, List.mem_map.mpr ⟨(x, none), hp, rfl⟩, fun p hpm e => ?_⟩
  · have q := hT _ hp
    have e2 : (He.cT K (x, none)).1 = c := ec
    rw [e2] at q
    exact q
  · obtain ⟨z, hz, rfl⟩ := List.mem_map.mp hpm
    have := nodup_at hn hz hp e
    rw [this]
variable {P : Program} {w : World}
theorem DefL.kn [Tb] {k : Nat} {S : PF} {G : DG} {N : List Str} (D : DefL K mg base x st ps) (Sc : FnScope N ps (defScope st))
    (hbody : ∀ (f c : Addr) (A : Around) (outer : List Env) (s : Shared) (H : Hp) (E : XK), LamIn (cxOf CX0 P w K mg base N x (defScope st) f (.ref c) A outer s H E).nox → Room k (A.deeper (PyProof.Rows.envOfC x (defScope st) s.heap.objs.size f (.ref c))) → DPSs (cxOf CX0 P w K mg base N x (defScope st) f (.ref c) A outer s H E).nox W0 (defBody st) G)
    (hG : ∀ ds T post ex, ds.length = ps.length → S ds T post ex → G (endsOf post (fun _ _ _ => False)) (startD N.length ds T)) : Kn P w K mg base CX0 (k + 1) x ps S := by
  obtain ⟨f, fd, c, Pt, F, m, kp, b, tb, hm, hu⟩ := D.ex
  exact ⟨f, fd, fn_okL F Sc (fun A outer s H E hr => hbody f c A outer s H E ⟨c, Pt, rfl, tb, hm, hu⟩ hr) hG, m, kp, b⟩
end
end DL

set_option Elab.async false
set_option linter.all false
set_option maxRecDepth 100000
set_option maxHeartbeats 4000000
namespace DL
open PySem PySem.Spec PyProof.Rows PySem.Calls
/-! ### t[::-1], t a tuple -/
theorem adj_rev (n : Nat) : Builtin.Slice.sliceAdjust none none (-1) (n : Int) = ((n : Int) - 1, -1) := by
  unfold Builtin.Slice.sliceAdjust
  simp
theorem places_rev (n : Nat) : Builtin.Slice.slicePlaces ((n : Int) - 1) (-1) (-1) = n := by
  unfold Builtin.Slice.slicePlaces
  simp
  omega
theorem fm_same {α β : Type} {f g : α → Option β} : ∀ {l : List α}, (∀ a ∈ l, f a = g a) → l.filterMap f = l.filterMap g
  | [], _ => rfl
  | a :: l, h => by
    rw [List.filterMap_cons, List.filterMap_cons, h a (List.mem_cons_self ..), fm_same fun b hb => h b (List.mem_cons_of_mem _ hb)]
theorem pick_rev (xs : Array Value) : ((List.range xs.size).filterMap fun (k : Nat) => xs[(((xs.size : Int) - 1) + (k : Int) * (-1)).toNat]?) = xs.toList.reverse := by
  have e : ((List.range xs.size).filterMap fun (k : Nat) => xs[(((xs.size : Int) - 1) + (k : Int) * (-1)).toNat]?) = ((List.range xs.size).map fun k => xs.size - 1 - k).filterMap (xs[·]?) := by
    rw [List.filterMap_map]
    refine fm_same fun k hk => ?_
    have hk : k < xs.size := List.mem_range.mp hk
    have : (((xs.size : Int) - 1) + (k : Int) * (-1)).toNat = xs.size - 1 - k := by omega
    show xs[(((xs.size : Int) - 1) + (k : Int) * (-1)).toNat]? = xs[xs.size - 1 - k]?
    rw [this]
  rw [e, PySem.W.krv_range, List.filterMap_reverse, PySem.W.krv_all]
section
variable {prog : Program} {w : World} {A : Around} {E : Value → Shared → Prop} {s : Shared}
theorem applied_rev {sl : Addr} {vl vu vs : Value} {n : Nat} {Q : Int × Int × Nat → Shared → Prop} (hs : s.heap.IsSliceOf sl vl vu vs) (pl : IsPart vl none) (pu : IsPart vu none) (ps : IsPart vs (some (-1))) (h : Q ((n : Int) - 1, -1, n) s) :
    wpAny (model prog w) A (Builtin.Slice.sliceApplied (.ref sl) (pure (n : Int))) Q E s := by
  obtain ⟨os, ho, hc, hd⟩ := id hs
  unfold Builtin.Slice.sliceApplied Builtin.Slice.sliceFields
  refine wpAny_bind (wpAny_bind (wpAny_field ho hd (x := vl) rfl (wpAny_bind (wpAny_field ho hd (x := vu) rfl (wpAny_bind (wpAny_field ho hd (x := vs) rfl (wpAny_pure ?_)))))))
  refine wpAny_bind (HT.slicePart_ ps ?_)
  show wpAny _ _ (if ((-1 : Int) == 0) = true then _ else _) _ _ s
  rw [if_neg (show ¬ ((-1 : Int) == 0) = true by decide)]
  refine wpAny_bind (HT.slicePart_ pl (wpAny_bind (HT.slicePart_ pu (wpAny_bind (wpAny_pure ?_)))))
  show wpAny _ _ (match Builtin.Slice.sliceAdjust none none (-1) (n : Int) with | (a, b) => pure (a, (-1 : Int), Builtin.Slice.slicePlaces a b (-1))) _ _ s
  rw [adj_rev n]
  show wpAny _ _ (pure ((n : Int) - 1, (-1 : Int), Builtin.Slice.slicePlaces ((n : Int) - 1) (-1) (-1))) _ _ s
  rw [places_rev]
  exact wpAny_pure h
theorem item_rev {t sl : Addr} {items : Array Value} {vl vu vs : Value} {Q : Value → Shared → Prop} (ht : IsTup s.heap t items) (hs : s.heap.IsSliceOf sl vl vu vs) (pl : IsPart vl none) (pu : IsPart vu none) (ps : IsPart vs (some (-1))) (hz : items.size ≤ sizeLine)
    (h : Q (.ref s.heap.objs.size) { s with heap := s.heap.push { cls := .type "tuple", data := .seq items.toList.reverse.toArray } }) : wpAny (model prog w) A (getItem (.ref t) (.ref sl)) Q E s := by
  have fits : sizeOk (.seq items.toList.reverse.toArray) := by
    show items.toList.reverse.toArray.size ≤ sizeLine
    simpa using hz
  obtain ⟨os, ho, hc, hd⟩ := id hs
  have ty : s.TypeIs (.ref sl) "slice" := ⟨os, ho, hc⟩
  unfold getItem
  first
    | refine wpAny_holding (wpAny_bind (wpAny_pure (wpAny_bind (wpAny_sequenceKey ht.typeIs (by decide) ?_))))
    | refine wpAny_bind (wpAny_pure (wpAny_bind (wpAny_sequenceKey ht.typeIs (by decide) ?_)))
    | refine wpAny_holding (wpAny_bind (wpAny_sequenceKey ht.typeIs (by decide) ?_))
    | refine wpAny_bind (wpAny_sequenceKey ht.typeIs (by decide) ?_)
  refine wpAny_bind (wpAny_callSpecial?_slot (name := Str.ofString "__getitem__") ht.typeIs slot_tuple_getitem (wpAny_call_entry slot_tuple_getitem ht.typeIs entry_tuple_getitem ?_ (args_tuple_getitem _ _)))
  show wpAny _ _ (Builtin.Tuple.tupleItemsOf (.ref t) >>= _) _ _ s
  refine wpAny_bind (tupleItemsOf_ ht (wpAny_bind (wpAny_typeOf ty ?_)))
  rw [if_pos (show (Value.type "slice" == Value.type "slice") = true by decide)]
  refine wpAny_bind (applied_rev hs pl pu ps ?_)
  show wpAny _ _ (if (((items.size : Int) - 1) == 0 && (-1 : Int) == 1 && items.size == items.size) = true then _ else _) _ _ s
  rw [if_neg (show ¬ (((items.size : Int) - 1) == 0 && (-1 : Int) == 1 && items.size == items.size) = true by simp), pick_rev]
  first
    | exact wpAny_bind (m := Builtin.Tuple.tupleExact _) (wpAny_newObj_type (wpAny_pure ⟨_, rfl, wpAny_pure h⟩) fits)
    | exact wpAny_bind (wpAny_bind (m := Builtin.Tuple.tupleExact _) (wpAny_newObj_type (wpAny_pure (wpAny_pure ⟨_, rfl, wpAny_pure h⟩)) fits))
    | exact wpAny_bind (m := Builtin.Tuple.tupleExact _) (wpAny_newObj_type (wpAny_bind (wpAny_pure (wpAny_pure ⟨_, rfl, wpAny_pure h⟩))) fits)
    | exact wpAny_bind (wpAny_bind (m := Builtin.Tuple.tupleExact _) (wpAny_newObj_type (wpAny_pure ⟨_, rfl, wpAny_pure h⟩) fits))
end
section
open L2
variable {X : Cx} {W : WX} {e : Expr} {k : Nat} {p1 p2 p3 pos : Pos}
def tRev (K : PySem.W.Frag) (te : TE) : TE := fun σ H Q => te σ H fun x H1 => ∃ a, x = .ref a ∧ ((∃ xs, SqL K H1 a xs ∧ ∀ p, H1 p = none → Q (.ref p) (upd H1 p (.lst xs.reverse))) ∨ (∃ xs, SqT K H1 a xs ∧ ∀ p, H1 p = none → Q (.ref p) (upd H1 p (.tup xs.reverse))))
/-- e[::-1] -/
theorem pe_rev {te : TE} (he : PE X e te) : PE X (.Subscript e (.Slice none none (some (.UnaryOp .USub (.Constant (.int 1) k p1) p2)) p3) pos) (tRev X.K te) := by
  constructor
  intro pins s σ H Q I h
  refine Subscript_ (thn (he.run pins s σ H _ I h) fun v s1 ⟨x, H1, I1, r1, a, ex, q⟩ => ?_)
  subst ex
  cases r1
  have st : PO X (some (.UnaryOp .USub (.Constant (.int 1) k p1) p2)) (tPart (tUn (rU fun i => .int (-i)) (tC (.int 1)))) := po_some (pe_un un_neg pe_int)
  refine wpAny_Slice (thn (po_none.run pins s1 σ H1 (fun o G => o = none ∧ G = H1) I1 ⟨rfl, rfl⟩) fun vl s2 ⟨l, H2, I2, pl, el, e2⟩ => thn (po_none.run pins s2 σ H2 (fun o G => o = none ∧ G = H2) I2 ⟨rfl, rfl⟩) fun vu s3 ⟨u, H3, I3, pu, eu, e3⟩ => thn (st.run pins s3 σ H3 (fun o G => o = some (-1) ∧ G = H3) I3 ⟨1, rfl, -1, rfl, rfl, rfl⟩) fun vs s4 ⟨o, H4, I4, ps, eo, e4⟩ => ?_)
  subst el e2 eu e3 eo e4
  have I5 : Inv X pins σ H4 { s4 with heap := s4.heap.push { cls := .type "slice", data := .fields #[vl, vu, vs] } } := I4.kept (t' := s4.toks) fun b ob q => Heap.get?_push_of_some _ q
  rcases q with ⟨xs, hx, q⟩ | ⟨xs, hx, q⟩
  · obtain ⟨its, r, ht, hz⟩ := I5.list hx
    have hl := r.length
    refine tail_any (ops := [.ref a, .ref s4.heap.objs.size]) ht.isList.typeIs (PySem.slot_list_getitem.lookup) (wpAny_getItem_list_slice ht.isList (Heap.IsSliceOf.new _ vl vu vs) pl pu ps (by decide) ?_ (by rw [List.size_toArray]; omega)) (by with_unfolding_all rfl)
    rw [PySem.W.krv_pick]
    exact ⟨.ref _, _, I5.laid (t' := s4.toks) (o := .lst xs.reverse) (fun b ob q => Heap.get?_push_of_some _ q) (Nat.le_refl _) ⟨by rw [List.length_reverse]; exact hz, _, 0, r.reverse, Heap.get?_push_size _ rfl⟩, rfl, q _ (I5.hok.fresh (Nat.le_refl _))⟩
  · obtain ⟨its, r, ht, hz⟩ := I5.tuple hx
    have hl := r.length
    refine tail_any (ops := [.ref a, .ref s4.heap.objs.size]) ht.typeIs (slot_tuple_getitem.lookup) (item_rev ht (Heap.IsSliceOf.new _ vl vu vs) pl pu ps (by rw [List.size_toArray]; omega) ?_) (by with_unfolding_all rfl)
    exact ⟨.ref _, _, I5.laid (t' := s4.toks) (o := .tup xs.reverse) (fun b ob q => Heap.get?_push_of_some _ q) (Nat.le_refl _) ⟨by rw [List.length_reverse]; exact hz, _, r.reverse, IsTup.new _ _⟩, rfl, q _ (I5.hok.fresh (Nat.le_refl _))⟩
variable [Tb]
theorem repL_rev {c : Ct} {B : Hp} : ∀ {ds : List D} {xs : List V}, RepL c B ds xs → RepL c B ds.reverse xs.reverse
  | [], xs, h => by
    unfold RepL at h
    subst h
    unfold RepL
    rfl
  | d :: ds, xs, h => by
    unfold RepL at h
    obtain ⟨x, xr, rfl, h1, h2⟩ := h
    rw [List.reverse_cons, List.reverse_cons]
    exact repL_app (repL_cons h1 repL_nil) (repL_rev h2)
def dRev (F : DF) : DF := fun s P ex => F s (fun d s1 => match d with
  | .tup ds => P (.tup ds.reverse) s1
  | .lst ds => P (.lst ds.reverse) s1
  | _ => False) ex
theorem d_rev {F : DF} (he : DPE X W e F) : DPE X W (.Subscript e (.Slice none none (some (.UnaryOp .USub (.Constant (.int 1) k p1) p2)) p3) pos) (dRev F) := by
  refine ⟨pe_mono (fun σ H Q ⟨q, L, H0, B0, s, B, P, ex, t, f, rt, x⟩ => ⟨q, L, H0, B0, s, B, _, ex, t, f, fun v H1 d s1 B1 t1 l1 r1 p1 => ?_, x⟩) (pe_rev he.pe)⟩
  dsimp only at p1
  split at p1
  · obtain ⟨a, xs, rfl, ha, hx⟩ := rep_tup r1
    exact ⟨a, rfl, .inr ⟨xs, t1.bs.leH.sqT ha, fun p hp => rt _ _ _ _ _ (t1.alloc hp (fun _ z => by cases z)) (l1.trans (Le.upd (t1.bs.nB hp))) (tup_rep upd_same (repL_rev (hx.mono (Le.upd (t1.bs.nB hp))))) p1⟩⟩
  · obtain ⟨a, xs, rfl, ha, hx⟩ := rep_lst r1
    exact ⟨a, rfl, .inl ⟨xs, SqL.of (t1.bs.leH _ _ ha), fun p hp => rt _ _ _ _ _ (t1.alloc hp (fun _ z => by cases z)) (l1.trans (Le.upd (t1.bs.nB hp))) (lst_rep upd_same (repL_rev (hx.mono (Le.upd (t1.bs.nB hp))))) p1⟩⟩
  · exact p1.elim
end
/-! ### zip -/
section
open L2
variable [Tb]
def zipD (xs ys : List D) : List D := (xs.zip ys).map fun p => .tup [p.1, p.2]
theorem walk_zt {K : PySem.W.Frag} {a b : Addr} {xs ys : List V} {n : Nat} (hn : n = min xs.length ys.length) : Walk (RZ.ItzT K a b) n (fun H => SqT K H a xs ∧ SqT K H b ys) (YPair (fun i => xs[i]?) (fun i => ys[i]?)) := by
  subst hn
  refine ⟨fun i H hi g => ?_, fun H g => ⟨xs, ys, g.1, g.2, by omega⟩, fun i H v H' hi g y => ?_⟩
  · exact ⟨xs, ys, xs[i]'(by omega), ys[i]'(by omega), g.1, g.2, List.getElem?_eq_getElem (by omega), List.getElem?_eq_getElem (by omega)⟩
  · obtain ⟨T, x, y', e1, e2, e3, e4, e5⟩ := y
    exact ⟨T, x, y', e1, e2, e3, e4 xs g.1, e5 ys g.2⟩
theorem zipD_len (xs ys : List D) : (zipD xs ys).length = min xs.length ys.length := by unfold zipD; simp
theorem zipD_get {xs ys : List D} {i : Nat} {x y : D} (h1 : xs[i]? = some x) (h2 : ys[i]? = some y) : (zipD xs ys)[i]? = some (.tup [x, y]) := by
  unfold zipD
  rw [List.getElem?_map, (List.getElem?_zip_eq_some (z := (x, y))).mpr ⟨h1, h2⟩]
  rfl
theorem yields_pair {c : Ct} {B : Hp} {ds es : List D} {f g : Nat → Option V} (hf : ∀ i x, i < (zipD ds es).length → f i = some x → ∃ d, ds[i]? = some d ∧ Rep c B d x) (hg : ∀ i y, i < (zipD ds es).length → g i = some y → ∃ e, es[i]? = some e ∧ Rep c B e y) :
    ∀ i L H0 B0 σ s H B1 x H', At c L H0 B0 σ H s B1 → Le B B1 → i < (zipD ds es).length → YPair f g i H x H' → ∃ d B2, (zipD ds es)[i]? = some d ∧ Le B1 B2 ∧ Rep c B2 d x ∧ At c L H0 B0 σ H' s B2 := by
  intro i L H0 B0 σ s H B1 v H' t l hi y
  obtain ⟨T, x, y, rfl, nT, rfl, e1, e2⟩ := y
  obtain ⟨d, d1, r1⟩ := hf i x hi e1
  obtain ⟨e, d2, r2⟩ := hg i y hi e2
  have nB := t.bs.nB nT
  exact ⟨.tup [d, e], _, zipD_get d1 d2, Le.upd nB, tup_rep upd_same (repL_cons ((r1.mono l).mono (Le.upd nB)) (repL_cons ((r2.mono l).mono (Le.upd nB)) repL_nil)), t.alloc nT (fun _ z => by cases z)⟩
variable {X : Cx} {W : WX} {tg a b e : Expr} {Fa Fb : DF} {pos p tpos : Pos} {elts : List Expr} {kk : Nat}
def iZip2 (Fa Fb : DF) : DFA := fun s P ex => Fa s (fun d s1 => Fb s1 (fun e s2 => match d, e with
  | .tup xs, .tup ys => P (zipD xs ys) s2
  | .lst xs, .lst ys => P (zipD xs ys) s2
  | _, _ => False) ex) ex
theorem i_zip (hm : X.mg "zip" = none) (ha : DPE X W a Fa) (hb : DPE X W b Fb) (hg : Gl X "zip" := by rfl) (hs : starEach [a, b] X.env = (false, eval a X.env) :: starEach [b] X.env := by rfl) (hs2 : starEach [b] X.env = (false, eval b X.env) :: starEach [] X.env := by rfl) (hpl : (backTo pos (starEach [b] X.env)).any (·.1) = false := by rfl) :
    DPI X W (.Tuple elts kk tpos) (.Call (.Name "zip" p) [a, b] [] pos) (iZip2 Fa Fb) := by
  refine ⟨pi_mono (fun σ H R ⟨q, L, H0, B0, s, B, P, ex, t, f, rt, x⟩ => ⟨q, L, H0, B0, s, B, _, ex, t, f, fun v H1 d s1 B1 t1 l1 r1 p1 => ⟨q, L, H0, B0, s1, B1, _, ex, t1, p1, fun v2 H2 d2 s2 B2 t2 l2 r2 p2 => ?_, x.le l1⟩, x⟩) (RZ.pi_zipA hg hm (pa_cons ha.pe (pa_cons hb.pe pa_nil hs2) hs) hs hpl)⟩
  dsimp only at p2
  split at p2
  · rename_i xs ys
    obtain ⟨u, us, rfl, h1, g1⟩ := rep_tup (r1.mono l2)
    obtain ⟨w, ws, rfl, h2, g2⟩ := rep_tup r2
    refine ⟨u, w, us, ws, rfl, .inr ⟨t2.bs.leH.sqT h1, t2.bs.leH.sqT h2, rt _ _ _ _ _ t2 (l1.trans l2) ?_ p2⟩⟩
    exact ⟨_, _, walk_zt (xs := us) (ys := ws) (by rw [zipD_len, repL_len g1, repL_len g2]), fun H B' k1 k2 => ⟨(k1.trans k2).sqT h1, (k1.trans k2).sqT h2⟩, yields_pair (fun i x _ e => repL_gets g1 e) (fun i y _ e => repL_gets g2 e)⟩
  · rename_i xs ys
    obtain ⟨u, us, rfl, h1, g1⟩ := rep_lst (r1.mono l2)
    obtain ⟨w, ws, rfl, h2, g2⟩ := rep_lst r2
    refine ⟨u, w, us, ws, rfl, .inl ⟨SqL.of (t2.bs.leH _ _ h1), SqL.of (t2.bs.leH _ _ h2), rt _ _ _ _ _ t2 (l1.trans l2) ?_ p2⟩⟩
    exact ⟨_, _, walk_zip (xs := us) (ys := ws) (by rw [zipD_len, repL_len g1, repL_len g2]), fun H B' k1 k2 => ⟨SqL.of ((k1.trans k2) _ _ h1), SqL.of ((k1.trans k2) _ _ h2)⟩, yields_pair (fun i x _ e => repL_gets g1 e) (fun i y _ e => repL_gets g2 e)⟩
  · exact p2.elim
/-! ### enumerate, of a list -/
def iEnumL (Fa : DF) : DFA := fun s P ex => Fa s (fun d s1 => match d with
  | .lst xs => P (zipD (rangeD 0 xs.length) xs) s1
  | _ => False) ex
theorem i_enumL (hm : X.mg "enumerate" = none) (ha : DPE X W a Fa) (hg : Gl X "enumerate" := by rfl) (hs : starEach [a] X.env = [(false, eval a X.env)] := by rfl) : DPI X W (.Tuple elts kk tpos) (.Call (.Name "enumerate" p) [a] [] pos) (iEnumL Fa) := by
  refine ⟨pi_mono (fun σ H R ⟨q, L, H0, B0, s, B, P, ex, t, f, rt, x⟩ => ⟨q, L, H0, B0, s, B, _, ex, t, f, fun v H1 d s1 B1 t1 l1 r1 p1 => ?_, x⟩) (pi_enum hg hm (pa_cons ha.pe pa_nil hs) hs)⟩
  dsimp only at p1
  split at p1
  · rename_i xs
    obtain ⟨u, us, rfl, h1, g1⟩ := rep_lst r1
    have hl : (zipD (rangeD 0 xs.length) xs).length = us.length := by rw [zipD_len, rangeD_len, Nat.min_self, repL_len g1]
    refine ⟨u, us, rfl, SqL.of (t1.bs.leH _ _ h1), rt _ _ _ _ _ t1 l1 ?_ p1⟩
    exact ⟨_, _, by rw [hl]; exact walk_enum (xs := us), fun H B' k1 k2 => SqL.of ((k1.trans k2) _ _ h1), yields_pair (fun i x hi e => by
      cases e
      refine ⟨.int ((0 : Int) + (i : Nat)), ?_, by rw [Int.zero_add]; exact int_rep⟩
      rw [zipD_len, rangeD_len, Nat.min_self] at hi
      unfold rangeD
      simp [hi]) (fun i y _ e => repL_gets g1 e)⟩
  · exact p1.elim
end
end DL

set_option Elab.async false
set_option linter.all false
set_option maxRecDepth 100000
set_option maxHeartbeats 4000000
namespace DL
open PySem L2
variable [Tb]
/-! ### x.pop(), x what slot i owns -/
theorem repL_dropLast {c : Ct} {B : Hp} : ∀ {ds : List D} {xs : List V}, RepL c B ds xs → RepL c B ds.dropLast xs.dropLast
  | [], xs, h => by
    unfold RepL at h
    subst h
    unfold RepL
    rfl
  | [d], xs, h => by
    unfold RepL at h
    obtain ⟨x, xr, rfl, h1, h2⟩ := h
    unfold RepL at h2
    subst h2
    unfold RepL
    rfl
  | d :: e :: ds, xs, h => by
    unfold RepL at h
    obtain ⟨x, xr, rfl, h1, h2⟩ := h
    obtain ⟨y, yr, rfl, h3, h4⟩ := (show ∃ y yr, xr = y :: yr ∧ Rep c B e y ∧ RepL c B ds yr by unfold RepL at h2; exact h2)
    exact repL_cons h1 (repL_dropLast h2)
def dPop0 (i : Nat) : DF := fun s P _ => match s.sl[i]? with
  | some (some (.ow (.lst ds))) => ∃ y, ds[ds.length - 1]? = some y ∧ P y (s.put i (.ow (.lst ds.dropLast)))
  | _ => False
section
variable {X : Cx} {W : WX} {p pos ap : Pos}
theorem d_pop0 (i : Nat) {x : Str} (hN : X.N[i]? = some x := by rfl) (hv : Vis X.env.scope x := by first | exact Or.inl rfl | exact Or.inr (Or.inl rfl) | exact Or.inr (Or.inr rfl)) (hd : (x == ("__debug__" : Str)) = false := by decide) (hcd : (x == ("__classdict__" : Str)) = false := by decide)
    (hbase : attributeBase (.Name x p) "pop" X.env (eval (.Name x p) X.env) = eval (.Name x p) X.env := by rfl) (hline : (ap.endLine == pos.line) = true := by rfl) : DPE X W (.Call (.Attribute (.Name x p) "pop" ap) [] [] pos) (dPop0 i) := by
  refine ⟨pe_mono (fun σ H Q ⟨q, L, H0, B0, s, B, P, ex, t, f, rt, e⟩ => ?_) (pe_bm0 PySem.F.plainAttrs_list PySem.F.slot_list_pop PySem.F.type_list_pop mt_pop (pe_var hN hv hd hcd) hbase hline)⟩
  unfold dPop0 at f
  split at f
  · rename_i ds e0
    obtain ⟨y, hy, k⟩ := f
    obtain ⟨pp, xs, h1, h2, h3⟩ := t.ownL e0
    obtain ⟨w, w1, w2⟩ := repL_get h3 hy
    refine ⟨_, h1, .inl ⟨rfl, xs, SqL.of h2⟩, _, xs, w, rfl, rfl, h2, by rw [repL_len h3]; exact w1, ?_⟩
    exact rt w _ _ _ _ (t.change (d' := .lst _) e0 h1 ⟨_, rfl, repL_dropLast h3⟩) (Le.refl B) w2 k
  · exact f.elim
end
end DL

set_option Elab.async false
set_option linter.all false
set_option maxRecDepth 100000
set_option maxHeartbeats 4000000
namespace DL
open PySem L2
variable [Tb]
/-! ### three names at once -/
section
variable {X : Cx} {W : WX} {a b d : Expr} {Fa Fb Fd : DF} {G : DFA} {x y z : Str} {px py pz pt pos : Pos} {kt k2 : Nat} {pt2 : Pos} {i j l : Nat}
def gPar3 (i j l : Nat) (G : DFA) : DG := fun E s => G s (fun ds s1 => match ds with
  | [d1, d2, d3] => E.nx (((s1.put i (.fz d1)).put j (.fz d2)).put l (.fz d3))
  | _ => False) E.ex
def gPar3FOO (i j l : Nat) (Fa Fb Fd : DF) : DG := fun E s => Fa s (fun d1 s1 => Fb s1 (fun d2 s2 => Fd s2 (fun d3 s3 => E.nx (((s3.put i (.fz d1)).put j (.ow d2)).put l (.ow d3))) (fun _ _ _ => False)) (fun _ _ _ => False)) (fun _ _ _ => False)
theorem g_par3FOO (hc : X.calm = true) (hN : X.N.Nodup) (ha : DPE X W a Fa) (hb : DPO X W b Fb) (hd : DPO X W d Fd) (hij : i ≠ j := by decide) (hil : i ≠ l := by decide) (hjl : j ≠ l := by decide) (hi : X.N[i]? = some x := by rfl) (hj : X.N[j]? = some y := by rfl) (hl : X.N[l]? = some z := by rfl)
    (hx : X.env.scope.names.lookup x = some .local := by rfl) (hy : X.env.scope.names.lookup y = some .local := by rfl) (hz : X.env.scope.names.lookup z = some .local := by rfl)
    (hw : swappedStores [.Tuple [.Name x px, .Name y py, .Name z pz] kt pt] (.Tuple [a, b, d] k2 pt2) X.env = pure (some [x, y, z]) := by rfl)
    (hs : swapsWithSole [.Tuple [.Name x px, .Name y py, .Name z pz] kt pt] (.Tuple [a, b, d] k2 pt2) pos.line X.env = pure false := by rfl) (h1 : starEach [a, b, d] X.env = (false, eval a X.env) :: starEach [b, d] X.env := by rfl) (h2 : starEach [b, d] X.env = (false, eval b X.env) :: starEach [d] X.env := by rfl) (h3 : starEach [d] X.env = (false, eval d X.env) :: starEach [] X.env := by rfl) :
    DPS X W (.Assign [.Tuple [.Name x px, .Name y py, .Name z pz] kt pt] (.Tuple [a, b, d] k2 pt2) pos) (gPar3FOO i j l Fa Fb Fd) := by
  refine ⟨ps_mono (fun D σ H ⟨q, L, H0, B0, s, B, E, t, g, r⟩ => ⟨q, L, H0, B0, s, B, _, _, t, g, fun v1 H1 d1 s1 B1 t1 l1 r1 f1 => ?_, noE⟩) (ps_par3 hc hN hi hj hl hij hil hjl hx hy hz (pa_cons ha.pe (pa_cons hb.pe (pa_cons hd.pe pa_nil h3) h2) h1) hw hs)⟩
  refine ⟨q, L, H0, B0, s1, B1, _, _, t1, f1, fun p2 o2 H2 d2 s2 B2 t2 l2 hp2 ro2 f2 => ?_, noE⟩
  refine ⟨q, (p2, o2) :: L, H0, B0, s2, B2, _, _, t2.holdNew hp2 ro2.ntb, f2, fun p3 o3 H3 d3 s3 B3 t3 l3 hp3 ro3 f3 => ?_, noE⟩
  have t4 := (t3.setFz (i := i) (r1.mono (l2.trans l3)))
  exact ⟨_, _, _, rfl, r.nx _ _ _ _ ((t4.useHeld (ro2.mono l3) (nL_of t2 hp2) j).setOw hp3 ro3) ((l1.trans l2).trans l3) f3⟩
end
/-! ### a chained comparison as a test -/
section
variable {X : Cx} {W : WX} {a b c : Expr} {Fa Fb Fc : DF} {pos : Pos}
theorem lft_chain {R R' : D → D → (D → Prop) → Prop} {r r' : R2} (h2 : ∀ q L H0 B0 σ H s B x y v u P Q, At (cx X q) L H0 B0 σ H s B → Rep (cx X q) B x v → Rep (cx X q) B y u → R x y P → Ret (cx X q) L H0 B0 σ B (fun d s' => s' = s ∧ P d) Q → r v u H Q)
    (h2' : ∀ q L H0 B0 σ H s B x y v u P Q, At (cx X q) L H0 B0 σ H s B → Rep (cx X q) B x v → Rep (cx X q) B y u → R' x y P → Ret (cx X q) L H0 B0 σ B (fun d s' => s' = s ∧ P d) Q → r' v u H Q) :
    ∀ σ H Q, LftE X W (dChain R R' Fa Fb Fc) σ H Q → tChain r r' (LftE X W Fa) (LftE X W Fb) (LftE X W Fc) σ H Q := by
  rintro σ H Q ⟨q, L, H0, B0, s, B, P, ex, t, f, rt, e⟩
  refine ⟨q, L, H0, B0, s, B, _, ex, t, f, fun v H1 x s1 B1 t1 l1 r1 p1 => ⟨q, L, H0, B0, s1, B1, _, ex, t1, p1, fun u H2 y s2 B2 t2 l2 r2 p2 => ?_, e.le l1⟩, e⟩
  refine h2 q L H0 B0 σ H2 s2 B2 x y v u _ _ t2 (r1.mono l2) r2 p2 (fun z H3 d s3 B3 t3 l3 r3 ⟨es, p3⟩ => ?_)
  subst es
  try dsimp only at p3
  split at p3
  · rw [rep_bl r3]
    refine ⟨true, rfl, ?_⟩
    refine iteT ⟨q, L, H0, B0, s3, B3, _, ex, t3, p3, fun w H4 dw s4 B4 t4 l4 r4 p4 => ?_, e.le ((l1.trans l2).trans l3)⟩
    exact h2' q L H0 B0 σ H4 s4 B4 y dw u w _ Q t4 (r2.mono (l3.trans l4)) r4 p4 (fun w H5 d5 s5 B5 t5 l5 r5 ⟨es, p5⟩ => rt w H5 d5 s5 B5 t5 (l1.trans (l2.trans (l3.trans (l4.trans l5)))) r5 (by rw [es]; exact p5))
  · rw [rep_bl r3]
    refine ⟨false, rfl, ?_⟩
    exact iteF (rt _ _ _ _ _ t3 ((l1.trans l2).trans l3) bl_rep p3)
  · exact p3.elim
theorem d_chainT {op op' : CmpOp} {R R' : D → D → (D → Prop) → Prop} (ho : OpD X (compareOp op) R) (ho' : OpD X (compareOp op') R') (ha : DPE X W a Fa) (hb : DPE X W b Fb) (hc : DPE X W c Fc)
    (hm : lastMarks [op, op'] [b, c] = false := by with_unfolding_all rfl) : DPT X W (.Compare a [op, op'] [b, c] pos) (dTest (dChain R R' Fa Fb Fc)) := by
  obtain ⟨r, h1, h2⟩ := ho.ex
  obtain ⟨r', h1', h2'⟩ := ho'.ex
  refine ⟨pt_mono (fun σ H Q ⟨q, L, H0, B0, s, B, P, ex, t, f, rt, e⟩ => ?_) (pt_chain h1 h1' ha.pe hb.pe hc.pe hm)⟩
  refine lft_chain (W := W) h2 h2' σ H _ ⟨q, L, H0, B0, s, B, _, ex, t, f, fun v H1 x s1 B1 t1 l1 r1 p1 => ?_, e⟩
  try dsimp only at p1
  split at p1
  · rw [rep_bl r1]
    exact ⟨_, rfl, rt _ _ _ _ t1 l1 p1⟩
  · exact p1.elim
end
end DL

set_option Elab.async false
set_option linter.all false
set_option maxRecDepth 100000
set_option maxHeartbeats 4000000
namespace Law
open PySem L2 DL
variable [Tb]
/-! ### passes of a house -/
def houseD (n : Nat) (xs : List D) : D := .obj "House" [("rooms", .int n), ("doors", .tup xs)]
def S_need_house : PF := fun ds T post ex => ∃ d b, ds = [d] ∧ isO [("House", true)] [] d = some b ∧ (b = true → post (.fz .non) T) ∧ (b = false → ex "BadHouse" [] T)
def G_need_house : DG := (gIf (tNotD (dTest (dIsO [("House", true)] [] (dVar 0)))) (gRaise "BadHouse") gNil)
theorem m_need_house : ∀ (ds : List D) T post ex, ds.length = 1 → S_need_house ds T post ex → G_need_house (endsOf post ex) (startD 1 ds T) := by
  rintro ds T post ex _ ⟨d, b, rfl, h, h1, h2⟩
  refine ⟨b, h, ?_⟩
  cases b with
  | true => exact h1 rfl
  | false => exact h2 rfl
theorem ne_rd : (("doors" : Str) == ("rooms" : Str)) = false := by decide +kernel
theorem look_rooms {n : Nat} {xs : List D} : ([("rooms", .int n), ("doors", .tup xs)] : List (Str × D)).lookup ("rooms" : Str) = some (.int n) := by simp [List.lookup]
theorem look_doors {n : Nat} {xs : List D} : ([("rooms", .int n), ("doors", .tup xs)] : List (Str × D)).lookup ("doors" : Str) = some (.tup xs) := by
  rw [List.lookup_cons, ne_rd]
  simp [List.lookup]
def S_is_room : PF := fun ds T post _ => ∃ n xs d, ds = [houseD n xs, d] ∧ plainD d = true ∧ post (.fz (.bl (within d 0 ((n : Int) - 1)))) T
def G_is_room : DG := (gRet (dCall S_is_number_within 3 (aCons (dVar 1) (aCons (dC (.int 0)) (aCons (dOp dSub (dFld "House" "rooms" (dVar 0)) (dC (.int 1))) aNil)))))
theorem m_is_room : ∀ (ds : List D) T post ex, ds.length = 2 → S_is_room ds T post ex → G_is_room (endsOf post ex) (startD 2 ds T) := by
  rintro ds T post ex _ ⟨n, xs, d, rfl, hd, hp⟩
  exact ⟨rfl, _, look_rooms, rfl, d, 0, (n : Int) - 1, rfl, hd, hp⟩
def isPass (m : Nat) : D → Bool
  | .tup [a, b] => within a 0 ((m : Int) - 1) && within b 0 1
  | _ => false
def S_is_pass : PF := fun ds T post _ => ∃ n xs d, ds = [houseD n xs, d] ∧ plainD d = true ∧ plainDs d = true ∧ post (.fz (.bl (isPass xs.length d))) T
def G_is_pass : DG := (gSeq (gIf (tNotD (dTest (dCall S_is_tuple_of 2 (aCons (dVar 1) (aCons (dC (.int 2)) aNil))))) (gRet (dC (.bl false))) gNil)
    (gSeq (gUnp (tgTup 2 (tgCons (tgN 2) (tgCons (tgN 3) tgNil))) (dVar 1))
    (gRet (dAnd (dCall S_is_number_within 3 (aCons (dVar 2) (aCons (dC (.int 0)) (aCons (dOp dSub (dCB cLen (aCons (dFld "House" "doors" (dVar 0)) aNil)) (dC (.int 1))) aNil)))) (dCall S_is_number_within 3 (aCons (dVar 3) (aCons (dC (.int 0)) (aCons (dC (.int 1)) aNil))))))))
theorem m_is_pass : ∀ (ds : List D) T post ex, ds.length = 2 → S_is_pass ds T post ex → G_is_pass (endsOf post ex) (startD 4 ds T) := by
  rintro ds T post ex _ ⟨n, xs, d, rfl, hd, hd2, hp⟩
  refine ⟨rfl, d, 2, rfl, hd, ?_⟩
  cases e : isTup 2 d with
  | false =>
    have e2 : isPass xs.length d = false := by
      unfold isPass
      split
      · simp [isTup] at e
      · rfl
    rw [e2] at hp
    exact hp
  | true =>
    obtain ⟨a, b, rfl⟩ : ∃ a b, d = .tup [a, b] := by
      cases d with
      | tup ys =>
        have : ys.length = 2 := by simpa [isTup] using e
        match ys, this with
        | [a, b], _ => exact ⟨a, b, rfl⟩
      | _ => cases e
    have hd2 : ([a, b].all plainD) = true := hd2
    simp only [List.all_cons, List.all_nil, Bool.and_eq_true, Bool.and_true] at hd2
    refine ⟨rfl, rfl, _, look_doors, rfl, a, 0, (xs.length : Int) - 1, rfl, hd2.1, ?_⟩
    have hp : post (.fz (.bl (within a 0 ((xs.length : Int) - 1) && within b 0 1))) T := hp
    cases e1 : within a 0 ((xs.length : Int) - 1) with
    | false =>
      rw [e1] at hp
      exact hp
    | true =>
      rw [e1] at hp
      exact ⟨rfl, b, 0, 1, rfl, hd2.2, hp⟩
/-- a door seen from the side s -/
def gate (s : Int) (a x b y : D) : List D := if s = 0 then [a, x, b, y] else [b, y, a, x]
def S_ends_of : PF := fun ds T post _ => ∃ (n i : Nat) (s : Int) (xs : List D) (a x b y : D), ds = [houseD n xs, .tup [.int i, .int s]] ∧ xs[i]? = some (.tup [a, x, b, y]) ∧ post (.fz (.tup (gate s a x b y))) T
def G_ends_of : DG := (gSeq (gUnp (tgTup 2 (tgCons (tgN 2) (tgCons (tgN 3) tgNil))) (dVar 1))
    (gSeq (gUnp (tgTup 4 (tgCons (tgN 4) (tgCons (tgN 5) (tgCons (tgN 6) (tgCons (tgN 7) tgNil))))) (dOp dIx (dFld "House" "doors" (dVar 0)) (dVar 2)))
    (gSeq (gIf (dTest (dOp dEq (dVar 3) (dC (.int 0)))) (gRet (dTup (aCons (dVar 4) (aCons (dVar 5) (aCons (dVar 6) (aCons (dVar 7) aNil)))))) gNil)
    (gRet (dTup (aCons (dVar 6) (aCons (dVar 7) (aCons (dVar 4) (aCons (dVar 5) aNil)))))))))
theorem atI_nat {xs : List D} {i : Nat} {d : D} (h : xs[i]? = some d) : atI xs (i : Int) = some d := by
  unfold atI
  rw [ixN_of (by omega) (by have := get_lt h; omega)]
  exact h
theorem m_ends_of : ∀ (ds : List D) T post ex, ds.length = 2 → S_ends_of ds T post ex → G_ends_of (endsOf post ex) (startD 8 ds T) := by
  rintro ds T post ex _ ⟨n, i, s, xs, a, x, b, y, rfl, hi, hp⟩
  refine ⟨rfl, rfl, _, look_doors, _, atI_nat hi, rfl, rfl, rfl, ?_⟩
  rw [eqv_int]
  unfold gate at hp
  by_cases z : s = 0
  · rw [if_pos z] at hp
    rw [decide_eq_true z]
    exact ⟨by show 4 ≤ 100000; decide, hp⟩
  · rw [if_neg z] at hp
    rw [decide_eq_false z]
    exact ⟨by show 4 ≤ 100000; decide, hp⟩
def S__law_gate : PF := fun ds T post _ => ∃ (i : Nat) (s : Int) (xs : List D) (a x b y : D), ds = [.tup xs, .tup [.int i, .int s]] ∧ xs[i]? = some (.tup [a, x, b, y]) ∧ post (.fz (.tup (gate s a x b y))) T
def G__law_gate : DG := (gSeq (gUnp (tgTup 4 (tgCons (tgN 2) (tgCons (tgN 3) (tgCons (tgN 4) (tgCons (tgN 5) tgNil))))) (dIxV 0 (dIxV 1 (dC (.int 0)))))
    (gRet (dIfE (dTest (dOp dEq (dIxV 1 (dC (.int 1))) (dC (.int 0)))) (dTup (aCons (dVar 2) (aCons (dVar 3) (aCons (dVar 4) (aCons (dVar 5) aNil))))) (dTup (aCons (dVar 4) (aCons (dVar 5) (aCons (dVar 2) (aCons (dVar 3) aNil))))))))
theorem m__law_gate : ∀ (ds : List D) T post ex, ds.length = 2 → S__law_gate ds T post ex → G__law_gate (endsOf post ex) (startD 6 ds T) := by
  rintro ds T post ex _ ⟨i, s, xs, a, x, b, y, rfl, hi, hp⟩
  refine ⟨trivial, trivial, .int i, rfl, _, atI_nat hi, rfl, trivial, .int s, rfl, rfl, rfl, ?_⟩
  rw [eqv_int]
  unfold gate at hp
  by_cases z : s = 0
  · rw [if_pos z] at hp
    rw [decide_eq_true z]
    exact ⟨by show 4 ≤ 100000; decide, hp⟩
  · rw [if_neg z] at hp
    rw [decide_eq_false z]
    exact ⟨by show 4 ≤ 100000; decide, hp⟩
def sides (m : Nat) : List D := (List.range m).flatMap fun i => [.tup [.int (i : Nat), .int 0], .tup [.int (i : Nat), .int 1]]
def S__law_sides : PF := fun ds T post _ => ∃ m : Nat, ds = [.int m] ∧ m ≤ 1000 ∧ post (.fz (.lst (sides m))) T
def G__law_sides : DG := (gSeq (gSet 1 (dLst aNil))
    (gSeq (gFor (iRng1D (dVar 0)) (tgN 2) (gSet 1 (dOp dAdd (dVar 1) (dLst (aCons (dTup (aCons (dVar 2) (aCons (dC (.int 0)) aNil))) (aCons (dTup (aCons (dVar 2) (aCons (dC (.int 1)) aNil))) aNil))))))
    (gRet (dVar 1))))
theorem sides_len (m : Nat) : (sides m).length = 2 * m := by
  unfold sides
  induction m with
  | zero => rfl
  | succ m ih => rw [List.range_succ, List.flatMap_append, List.length_append, ih]; simp; omega
theorem m__law_sides : ∀ (ds : List D) T post ex, ds.length = 1 → S__law_sides ds T post ex → G__law_sides (endsOf post ex) (startD 3 ds T) := by
  rintro ds T post ex _ ⟨m, rfl, hm, hp⟩
  refine ⟨by decide, ?_⟩
  have key : gFor (iRng1D (dVar 0)) (tgN 2) (gSet 1 (dOp dAdd (dVar 1) (dLst (aCons (dTup (aCons (dVar 2) (aCons (dC (.int 0)) aNil))) (aCons (dTup (aCons (dVar 2) (aCons (dC (.int 1)) aNil))) aNil))))) { endsOf post ex with nx := gRet (dVar 1) (endsOf post ex) } ⟨[some (.fz (.int m)), some (.fz (.lst [])), none], T⟩ := by
    refine gFor_inv (fun i s => ∃ v, s = ⟨[some (.fz (.int m)), some (.fz (.lst (sides i))), v], T⟩) (rangeD 0 m) (fun P h => ⟨by omega, by omega, h _ ⟨_, rfl⟩⟩) ?_ ?_
    · rintro i d s hi ⟨v, rfl⟩ R hR
      obtain ⟨rfl, hi2⟩ := rangeD_get hi
      have hl := sides_len i
      refine ⟨(by show 2 ≤ 100000; decide), (by show 2 ≤ 100000; decide), (by show 2 ≤ 100000; decide), (show (sides i).length + 2 ≤ 100000 by omega), hR _ ⟨some (.fz (.int ((0 : Int) + (i : Nat)))), ?_⟩⟩
      have e : sides (i + 1) = sides i ++ [.tup [.int ((0 : Int) + (i : Nat)), .int 0], .tup [.int ((0 : Int) + (i : Nat)), .int 1]] := by
        unfold sides
        rw [List.range_succ, List.flatMap_append, Int.zero_add]
        simp
      rw [e]
      rfl
    · rintro s ⟨v, rfl⟩
      rw [rangeD_len]
      exact hp
  exact key
/-- the passes from a room -/
def fromRoom (xs : List D) (r : Int) (st : D) : Bool := match st with
  | .tup [.int i, .int s] => (match xs[i.toNat]? with
    | some (.tup [.int a, _, .int b, _]) => decide ((if s = 0 then a else b) = r)
    | _ => false)
  | _ => false
def S__law_steps : PF := fun ds T post _ => ∃ (n : Nat) (xs : List D) (r : Int), ds = [.tup xs, .int r] ∧ (∀ d ∈ xs, DoorIs n d) ∧ xs.length ≤ 1000 ∧ post (.fz (.lst ((sides xs.length).filter (fromRoom xs r)))) T
def G__law_steps : DG := (gSeq (gSet 2 (dLc [3, 4] (iSeq (dCall S__law_sides 1 (aCons (dCB cLen (aCons (dVar 0) aNil)) aNil))) (tgTup 2 (tgCons (tgN 3) (tgCons (tgN 4) tgNil))) tAll (dTup (aCons (dVar 3) (aCons (dVar 4) aNil)))))
    (gRet (dLc [5] (iSeq (dVar 2)) (tgN 5) (dTest (dOp dEq (dOp dIx (dCall S__law_gate 2 (aCons (dVar 0) (aCons (dVar 5) aNil))) (dC (.int 0))) (dVar 1))) (dVar 5))))
theorem mem_sides {m : Nat} {d : D} (h : d ∈ sides m) : ∃ (i : Nat) (s : Int), i < m ∧ (s = 0 ∨ s = 1) ∧ d = .tup [.int i, .int s] := by
  unfold sides at h
  obtain ⟨i, hi, hd⟩ := List.mem_flatMap.mp h
  have hi := List.mem_range.mp hi
  simp only [List.mem_cons, List.not_mem_nil, or_false] at hd
  rcases hd with rfl | rfl
  · exact ⟨i, 0, hi, .inl rfl, rfl⟩
  · exact ⟨i, 1, hi, .inr rfl, rfl⟩
def F_keep : DFT := dTest (dOp dEq (dOp dIx (dCall S__law_gate 2 (aCons (dVar 0) (aCons (dVar 5) aNil))) (dC (.int 0))) (dVar 1))
theorem m__law_steps : ∀ (ds : List D) T post ex, ds.length = 2 → S__law_steps ds T post ex → G__law_steps (endsOf post ex) (startD 6 ds T) := by
  rintro ds T post ex _ ⟨n, xs, r, rfl, hd, hl, hp⟩
  have hsl := sides_len xs.length
  have second : dLc [5] (iSeq (dVar 2)) (tgN 5) F_keep (dVar 5) ⟨[some (.fz (.tup xs)), some (.fz (.int r)), some (.fz (.lst (sides xs.length))), none, none, none], T⟩ (fun d s1 => post (.fz d) s1.T) (endsOf post ex).ex := by
    refine dLc_inv (fun i acc s => s = ⟨[some (.fz (.tup xs)), some (.fz (.int r)), some (.fz (.lst (sides xs.length))), none, none, none], T⟩ ∧ acc = ((sides xs.length).take i).filter (fromRoom xs r)) (sides xs.length) (fun Q h => ⟨_, rfl, h _ ⟨rfl, rfl⟩⟩) ?_ ?_
    · rintro i d acc s hi ⟨rfl, ha⟩ R hR
      obtain ⟨j, t, hj, ht, rfl⟩ := mem_sides (get_mem hi)
      obtain ⟨a, b, x, y, ed, la, lb, _, _⟩ := (hd xs[j] (List.getElem_mem _)).ex
      have ej : xs[j]? = some (.tup [.int a, .int x, .int b, .int y]) := by rw [List.getElem?_eq_getElem hj, ed]
      have ef : fromRoom xs r (.tup [.int j, .int t]) = decide ((if t = 0 then (a : Int) else (b : Int)) = r) := by
        unfold fromRoom
        simp [ej]
      have eg : atI (gate t (.int a) (.int x) (.int b) (.int y)) 0 = some (.int (if t = 0 then (a : Int) else (b : Int))) := by
        unfold gate
        split <;> rfl
      have hz : acc.length ≤ i := by
        rw [ha]
        exact Nat.le_trans (List.length_filter_le _ _) (by rw [List.length_take]; omega)
      have hil := get_lt hi
      refine ⟨rfl, j, t, xs, .int a, .int x, .int b, .int y, rfl, ej, _, eg, rfl, rfl, ?_⟩
      rw [eqv_int, ← ef]
      have nxt : ((sides xs.length).take (i + 1)).filter (fromRoom xs r) = acc ++ (if fromRoom xs r (.tup [.int j, .int t]) = true then [.tup [.int j, .int t]] else []) := by
        rw [take_succ_get hi, List.filter_append, ← ha]
        congr 1
        cases q : fromRoom xs r (.tup [.int j, .int t]) <;> simp [q]
      cases q : fromRoom xs r (.tup [.int j, .int t]) with
      | true =>
        rw [q] at nxt
        exact ⟨by omega, hR _ _ ⟨rfl, nxt.symm⟩⟩
      | false =>
        rw [q] at nxt
        refine hR _ _ ⟨rfl, ?_⟩
        rw [nxt]
        simp
    · rintro acc s ⟨rfl, ha⟩
      rw [List.take_length] at ha
      rw [ha]
      exact hp
  have first : dLc [3, 4] (iSeq (dCall S__law_sides 1 (aCons (dCB cLen (aCons (dVar 0) aNil)) aNil))) (tgTup 2 (tgCons (tgN 3) (tgCons (tgN 4) tgNil))) tAll (dTup (aCons (dVar 3) (aCons (dVar 4) aNil))) (startD 6 [.tup xs, .int r] T) (fun d s1 => gRet (dLc [5] (iSeq (dVar 2)) (tgN 5) F_keep (dVar 5)) (endsOf post ex) (s1.put 2 (.fz d))) (endsOf post ex).ex := by
    refine lc_map (s0 := startD 6 [.tup xs, .int r] T) id (sides xs.length) (by omega) (fun Q h => ⟨rfl, xs.length, rfl, hl, _, rfl, h _ rfl⟩) rfl (fun d hm R hR => ?_) ?_
    · obtain ⟨j, t, hj, ht, rfl⟩ := mem_sides hm
      exact ⟨rfl, by show 2 ≤ 100000; decide, hR _ rfl⟩
    · rw [List.map_id]
      exact second
  exact first
end Law

set_option Elab.async false
set_option linter.all false
set_option maxRecDepth 100000
set_option maxHeartbeats 4000000
namespace Law
open PySem L2 DL
variable [Tb]
/-! ### walks judged -/
/-- a pass's two rooms -/
def roomsOf (xs : List D) : D → Option (Int × Int)
  | .tup [.int i, .int s] => (match xs[i.toNat]? with
    | some (.tup [.int a, _, .int b, _]) => some (if s = 0 then (a, b) else (b, a))
    | _ => none)
  | _ => none
def hangs (xs : List D) : Int → List D → Bool
  | _, [] => true
  | r, st :: rest => match roomsOf xs st with
    | some (a, b) => if a = r then hangs xs b rest else false
    | none => false
theorem pass_is {m : Nat} {d : D} (h : isPass m d = true) : ∃ (i : Nat) (s : Int), i < m ∧ (s = 0 ∨ s = 1) ∧ d = .tup [.int i, .int s] := by
  unfold isPass at h
  split at h
  · rename_i a b
    simp only [Bool.and_eq_true] at h
    obtain ⟨h1, h2⟩ := h
    cases a with
    | int i =>
      cases b with
      | int s =>
        have h1 : (decide (0 ≤ i) && decide (i ≤ (m : Int) - 1)) = true := h1
        have h2 : (decide (0 ≤ s) && decide (s ≤ 1)) = true := h2
        simp only [Bool.and_eq_true, decide_eq_true_eq] at h1 h2
        obtain ⟨j, rfl⟩ := Int.eq_ofNat_of_zero_le h1.1
        exact ⟨j, s, by omega, by omega, rfl⟩
      | _ => cases h2
    | _ => cases h1
  · cases h
def S__hang_together : PF := fun ds T post _ => ∃ (n : Nat) (xs : List D) (r : Int) (ss : List D), ds = [houseD n xs, .int r, .tup ss] ∧ (∀ d ∈ xs, DoorOf n d) ∧ (∀ st ∈ ss, isPass xs.length st = true) ∧ post (.fz (.bl (hangs xs r ss))) T
def G_hang_body : DG := gSeq (gUnp (tgTup 4 (tgCons (tgN 5) (tgCons (tgN 6) (tgCons (tgN 7) (tgCons (tgN 6) tgNil))))) (dCall S_ends_of 2 (aCons (dVar 0) (aCons (dVar 4) aNil))))
    (gSeq (gIf (dTest (dOp dNe (dVar 5) (dVar 3))) (gRet (dC (.bl false))) gNil)
    (gSet 3 (dVar 7)))
def G__hang_together : DG := (gSeq (gSet 3 (dVar 1))
    (gSeq (gFor (iSeq (dVar 2)) (tgN 4) G_hang_body)
    (gRet (dC (.bl true)))))
theorem m__hang_together : ∀ (ds : List D) T post ex, ds.length = 3 → S__hang_together ds T post ex → G__hang_together (endsOf post ex) (startD 8 ds T) := by
  rintro ds T post ex _ ⟨n, xs, r, ss, rfl, hd, hs, hp⟩
  have key : gFor (iSeq (dVar 2)) (tgN 4) G_hang_body { endsOf post ex with nx := gRet (dC (.bl true)) (endsOf post ex) } ⟨[some (.fz (houseD n xs)), some (.fz (.int r)), some (.fz (.tup ss)), some (.fz (.int r)), none, none, none, none], T⟩ := by
    refine gFor_inv (fun i s => ∃ r' v4 v5 v6 v7, s = ⟨[some (.fz (houseD n xs)), some (.fz (.int r)), some (.fz (.tup ss)), some (.fz (.int r')), v4, v5, v6, v7], T⟩ ∧ hangs xs r ss = hangs xs r' (ss.drop i)) ss (fun P h => ⟨ss, rfl, h _ ⟨r, _, _, _, _, rfl, rfl⟩⟩) ?_ ?_
    · rintro i d s hi ⟨r', v4, v5, v6, v7, rfl, hh⟩ R hR
      obtain ⟨j, t, hj, ht, rfl⟩ := pass_is (hs d (get_mem hi))
      obtain ⟨a, b, x, y, ed, la, lb⟩ := (hd xs[j] (List.getElem_mem _)).ex
      have ej : xs[j]? = some (.tup [.int a, x, .int b, y]) := by rw [List.getElem?_eq_getElem hj, ed]
      have er : roomsOf xs (.tup [.int j, .int t]) = some (if t = 0 then ((a : Int), (b : Int)) else ((b : Int), (a : Int))) := by
        unfold roomsOf
        simp [ej]
      rw [drop_get hi] at hh
      have hh : hangs xs r ss = (if (if t = 0 then ((a : Int), (b : Int)) else ((b : Int), (a : Int))).1 = r' then hangs xs (if t = 0 then ((a : Int), (b : Int)) else ((b : Int), (a : Int))).2 (ss.drop (i + 1)) else false) := by
        rw [hh]
        conv => lhs; unfold hangs
        rw [er]
      have fin : ∀ (u v : Int) (w1 w2 : D), gate t (.int a) x (.int b) y = [.int u, w1, .int v, w2] → hangs xs r ss = (if u = r' then hangs xs v (ss.drop (i + 1)) else false) → tgN 4 (.tup [.int j, .int t]) ⟨[some (.fz (houseD n xs)), some (.fz (.int r)), some (.fz (.tup ss)), some (.fz (.int r')), v4, v5, v6, v7], T⟩ fun s1 => G_hang_body { { endsOf post ex with nx := gRet (dC (.bl true)) (endsOf post ex) } with nx := R, ct := R, bk := gRet (dC (.bl true)) (endsOf post ex) } s1 := fun u v w1 w2 eg h2 => by
        refine ⟨rfl, n, j, t, xs, .int a, x, .int b, y, rfl, ej, ?_⟩
        rw [eg]
        refine ⟨rfl, rfl, rfl, ?_⟩
        rw [eqv_int]
        by_cases z : u = r'
        · rw [decide_eq_true z]
          rw [if_pos z] at h2
          exact hR _ ⟨v, _, _, _, _, rfl, h2⟩
        · rw [decide_eq_false z]
          rw [if_neg z] at h2
          rw [h2] at hp
          exact hp
      by_cases z : t = 0
      · subst z
        exact fin a b x y rfl hh
      · simp only [if_neg z] at hh
        exact fin b a y x (by unfold gate; rw [if_neg z]) hh
    · rintro s ⟨r', v4, v5, v6, v7, rfl, hh⟩
      rw [List.drop_length] at hh
      rw [show hangs xs r ss = true from hh.trans (by unfold hangs; rfl)] at hp
      exact hp
  exact key
def intIn : D → Int
  | .int i => i
  | _ => 0
def isWalk (n : Nat) (xs : List D) : D → Bool
  | .tup [r, .tup ps, .tup ss] => within r 0 ((n : Int) - 1) && (decide (ps.length = ss.length + 1) && ps.all isInt) && (ss.all (isPass xs.length) && hangs xs (intIn r) ss)
  | _ => false
def allPlain : D → Bool
  | .tup ps => ps.all plainD
  | _ => true
def allSteps : D → Bool
  | .tup ss => ss.all fun x => plainD x && plainDs x
  | _ => true
/-- what is_walk may be asked about -/
def askable : D → Bool
  | .tup [r, p, s] => plainD r && plainD p && plainD s && allPlain p && allSteps s
  | d => plainD d
def S_is_walk : PF := fun ds T post ex => ∃ h d b, ds = [h, d] ∧ isO [("House", true)] [] h = some b ∧ (b = false → ex "BadHouse" [] T) ∧
  (b = true → ∃ n xs, h = houseD n xs ∧ (∀ d ∈ xs, DoorOf n d) ∧ xs.length ≤ 1000 ∧ askable d = true ∧ (∀ r ps ss, d = .tup [r, .tup ps, .tup ss] → ps.length ≤ 10000 ∧ ss.length ≤ 10000) ∧ post (.fz (.bl (isWalk n xs d))) T)
def isFrame (n : Nat) (xs : List D) : D → Bool
  | .tup [r, p, .tup ss] => within r 0 ((n : Int) - 1) && isTup (ss.length + 1) p && (ss.all (isPass xs.length) && hangs xs (intIn r) ss)
  | _ => false
def S_is_frame : PF := fun ds T post _ => ∃ n xs d, ds = [houseD n xs, d] ∧ (∀ d ∈ xs, DoorOf n d) ∧ xs.length ≤ 1000 ∧ askable d = true ∧ (∀ r ps ss, d = .tup [r, .tup ps, .tup ss] → ss.length ≤ 10000) ∧ post (.fz (.bl (isFrame n xs d))) T
def G_is_frame3 : DG := (gRet (dAnd (dCB cAll (aCons (dLc [5] (iSeq (dVar 4)) (tgN 5) tAll (dCall S_is_pass 2 (aCons (dVar 0) (aCons (dVar 5) aNil)))) aNil)) (dCall S__hang_together 3 (aCons (dVar 0) (aCons (dVar 2) (aCons (dVar 4) aNil))))))
def G_is_frame : DG := (gSeq (gIf (tNotD (dTest (dCall S_is_tuple_of 2 (aCons (dVar 1) (aCons (dC (.int 3)) aNil))))) (gRet (dC (.bl false))) gNil)
    (gSeq (gUnp (tgTup 3 (tgCons (tgN 2) (tgCons (tgN 3) (tgCons (tgN 4) tgNil)))) (dVar 1))
    (gSeq (gIf (tOrD (tNotD (dTest (dCall S_is_room 2 (aCons (dVar 0) (aCons (dVar 2) aNil))))) (tOrD (tNotD (dTest (dIsTy "tuple" (dVar 4)))) (tNotD (dTest (dCall S_is_tuple_of 2 (aCons (dVar 3) (aCons (dOp dAdd (dCB cLen (aCons (dVar 4) aNil)) (dC (.int 1))) aNil))))))) (gRet (dC (.bl false))) gNil)
    G_is_frame3)))
def G_is_walk : DG := (gSeq (gDrop (dCallX S_need_house 1 (aCons (dVar 0) aNil)))
    (gRet (dAnd (dCall S_is_frame 2 (aCons (dVar 0) (aCons (dVar 1) aNil))) (dCB cAll (aCons (dLc [2] (iSeq (dIxV 1 (dC (.int 1)))) (tgN 2) tAll (dCall S_is_number 1 (aCons (dVar 2) aNil))) aNil)))))
theorem plain_ty {d : D} (h : plainD d = true) : ∃ t, tyName d = some t := by
  unfold plainD at h
  exact Option.isSome_iff_exists.mp h
theorem isTy_tuple {d : D} (h : plainD d = true) : ∃ t r, tyName d = some t ∧ kitB t "tuple" = some r ∧ (r = true ↔ ∃ xs, d = .tup xs) := by
  cases d with
  | tup xs => exact ⟨_, true, rfl, by decide +kernel, by simp⟩
  | obj _ _ => cases h
  | exc _ _ => cases h
  | st => cases h
  | scr _ => cases h
  | _ => exact ⟨_, false, rfl, by decide +kernel, by simp⟩
theorem w3 {n : Nat} {xs ss : List D} {d p : D} {r : Int} {T : Nat} {post : Sl → Nat → Prop} {ex : Str → List (Str × D) → Nat → Prop} (hd : ∀ d ∈ xs, DoorOf n d) (hl : ss.length ≤ 10000) (hs : ∀ x ∈ ss, plainD x = true ∧ plainDs x = true)
    (hp : post (.fz (.bl (ss.all (isPass xs.length) && hangs xs r ss))) T) : G_is_frame3 (endsOf post ex) ⟨[some (.fz (houseD n xs)), some (.fz d), some (.fz (.int r)), some (.fz p), some (.fz (.tup ss)), none], T⟩ := by
  have key : dLc [5] (iSeq (dVar 4)) (tgN 5) tAll (dCall S_is_pass 2 (aCons (dVar 0) (aCons (dVar 5) aNil))) ⟨[some (.fz (houseD n xs)), some (.fz d), some (.fz (.int r)), some (.fz p), some (.fz (.tup ss)), none], T⟩
      (fun d s1 => cAll [d] fun z => match z with | .bl true => dCall S__hang_together 3 (aCons (dVar 0) (aCons (dVar 2) (aCons (dVar 4) aNil))) s1 (fun d s1 => post (.fz d) s1.T) (endsOf post ex).ex | .bl false => post (.fz (.bl false)) s1.T | _ => False) (endsOf post ex).ex := by
    refine lc_map (s0 := ⟨[some (.fz (houseD n xs)), some (.fz d), some (.fz (.int r)), some (.fz p), some (.fz (.tup ss)), none], T⟩) (fun x => .bl (isPass xs.length x)) ss (by omega) (fun Q h => ⟨ss, rfl, h _ rfl⟩) rfl (fun x hx R hR => ?_) ?_
    · obtain ⟨p1, p2⟩ := hs x hx
      exact ⟨rfl, n, xs, x, rfl, p1, p2, hR _ rfl⟩
    · refine ⟨ss.map (isPass xs.length), bls_map _ ss, ?_⟩
      rw [show (ss.map (isPass xs.length)).all id = ss.all (isPass xs.length) from by simp [List.all_map, Function.comp_def]]
      cases z : ss.all (isPass xs.length) with
      | false =>
        rw [z] at hp
        exact hp
      | true =>
        rw [z, Bool.true_and] at hp
        exact ⟨rfl, n, xs, r, ss, rfl, hd, fun st hst => List.all_eq_true.mp z st hst, hp⟩
  exact key
theorem tup3 {d : D} (h : isTup 3 d = true) : ∃ r p s, d = .tup [r, p, s] := by
  cases d with
  | tup ys =>
    have : ys.length = 3 := by simpa [isTup] using h
    match ys, this with
    | [a, b, c], _ => exact ⟨a, b, c, rfl⟩
  | _ => cases h
theorem ask_plain {d : D} (ha : askable d = true) : plainD d = true := by
  unfold askable at ha
  split at ha
  · rfl
  · exact ha
theorem m_is_frame : ∀ (ds : List D) T post ex, ds.length = 2 → S_is_frame ds T post ex → G_is_frame (endsOf post ex) (startD 6 ds T) := by
  rintro ds T post ex _ ⟨n, xs, d, rfl, hd, hl, ha, hz, hp⟩
  refine ⟨rfl, d, 3, rfl, ask_plain ha, ?_⟩
  cases e3 : isTup 3 d with
  | false =>
    have e4 : isFrame n xs d = false := by
      unfold isFrame
      split
      · simp [isTup] at e3
      · rfl
    rw [e4] at hp
    exact hp
  | true =>
    obtain ⟨r, p, s, rfl⟩ := tup3 e3
    have ha : (plainD r && plainD p && plainD s && allPlain p && allSteps s) = true := ha
    simp only [Bool.and_eq_true] at ha
    obtain ⟨⟨⟨⟨pr, pp⟩, ps⟩, a1⟩, a2⟩ := ha
    refine ⟨rfl, rfl, n, xs, r, rfl, pr, ?_⟩
    have no : isFrame n xs (.tup [r, p, s]) = false → post (.fz (.bl false)) T := fun z => by rw [z] at hp; exact hp
    cases er : within r 0 ((n : Int) - 1) with
    | false =>
      refine no ?_
      unfold isFrame
      split
      · rename_i q
        cases q
        rw [er]
        rfl
      · rfl
    | true =>
      obtain ⟨t2, b2, j1, j2, j3⟩ := isTy_tuple ps
      refine ⟨t2, b2, j1, j2, ?_⟩
      cases b2 with
      | false =>
        refine no ?_
        unfold isFrame
        split
        · rename_i q
          cases q
          exact absurd (j3.mpr ⟨_, rfl⟩) (by simp)
        · rfl
      | true =>
        obtain ⟨ss, rfl⟩ := j3.mp rfl
        refine ⟨rfl, p, ss.length + 1, rfl, pp, ?_⟩
        have hp2 : post (.fz (.bl (within r 0 ((n : Int) - 1) && isTup (ss.length + 1) p && (ss.all (isPass xs.length) && hangs xs (intIn r) ss)))) T := hp
        rw [er, Bool.true_and] at hp2
        cases e5 : isTup (ss.length + 1) p with
        | false =>
          rw [e5] at hp2
          exact hp2
        | true =>
          rw [e5, Bool.true_and] at hp2
          obtain ⟨ps', rfl⟩ : ∃ ps', p = .tup ps' := by
            cases p with
            | tup ps' => exact ⟨ps', rfl⟩
            | _ => cases e5
          cases r with
          | int r =>
            refine w3 hd (hz _ ps' ss rfl) (fun x hx => ?_) hp2
            have := List.all_eq_true.mp a2 x hx
            simpa using this
          | _ => cases er
theorem walk_frame (n : Nat) (xs : List D) (r : D) (ps ss : List D) : isWalk n xs (.tup [r, .tup ps, .tup ss]) = (isFrame n xs (.tup [r, .tup ps, .tup ss]) && ps.all isInt) := by
  show (within r 0 ((n : Int) - 1) && (decide (ps.length = ss.length + 1) && ps.all isInt) && (ss.all (isPass xs.length) && hangs xs (intIn r) ss)) = (within r 0 ((n : Int) - 1) && decide (ps.length = ss.length + 1) && (ss.all (isPass xs.length) && hangs xs (intIn r) ss) && ps.all isInt)
  generalize within r 0 ((n : Int) - 1) = b1
  generalize decide (ps.length = ss.length + 1) = b2
  generalize ps.all isInt = b3
  generalize (ss.all (isPass xs.length) && hangs xs (intIn r) ss) = b4
  cases b1 <;> cases b2 <;> cases b3 <;> cases b4 <;> rfl
theorem frame_is {n : Nat} {xs : List D} {d : D} (h : isFrame n xs d = true) : ∃ r ps ss, d = .tup [r, .tup ps, .tup ss] := by
  unfold isFrame at h
  split at h
  · rename_i r p ss
    simp only [Bool.and_eq_true] at h
    have h2 := h.1.2
    cases p with
    | tup ps => exact ⟨r, ps, ss, rfl⟩
    | _ => cases h2
  · cases h
theorem noFrame {n : Nat} {xs : List D} {d : D} (h : isFrame n xs d = false) : isWalk n xs d = false := by
  cases e : isWalk n xs d with
  | false => rfl
  | true =>
    have h2 := e
    unfold isWalk at h2
    split at h2
    · rename_i r ps ss
      rw [walk_frame, h] at e
      cases e
    · cases h2
theorem m_is_walk : ∀ (ds : List D) T post ex, ds.length = 2 → S_is_walk ds T post ex → G_is_walk (endsOf post ex) (startD 3 ds T) := by
  rintro ds T post ex _ ⟨h, d, b, rfl, hb, h0, h1⟩
  refine ⟨rfl, h, b, rfl, hb, fun e => ?_, fun e => h0 e⟩
  obtain ⟨n, xs, rfl, hd, hl, ha, hz, hp⟩ := h1 e
  refine ⟨rfl, n, xs, d, rfl, hd, hl, ha, fun r p ss q => ?_, ?_⟩
  · exact (hz r p ss q).2
  · cases ef : isFrame n xs d with
    | false =>
      rw [noFrame ef] at hp
      exact hp
    | true =>
      obtain ⟨r, ps, ss, rfl⟩ := frame_is ef
      rw [walk_frame, ef, Bool.true_and] at hp
      have key : dLc [2] (iSeq (dIxV 1 (dC (.int 1)))) (tgN 2) tAll (dCall S_is_number 1 (aCons (dVar 2) aNil)) ⟨[some (.fz (houseD n xs)), some (.fz (.tup [r, .tup ps, .tup ss])), none], T⟩
          (fun d s1 => cAll [d] fun z => post (.fz z) s1.T) (endsOf post ex).ex := by
        have ha : (plainD r && true && true && ps.all plainD && allSteps (.tup ss)) = true := ha
        simp only [Bool.and_eq_true] at ha
        refine lc_map (s0 := ⟨[some (.fz (houseD n xs)), some (.fz (.tup [r, .tup ps, .tup ss])), none], T⟩) (fun x => .bl (isInt x)) ps (by have := (hz r ps ss rfl).1; omega) (fun Q h => ⟨trivial, _, rfl, ps, rfl, h _ rfl⟩) rfl (fun x hx R hR => ?_) ?_
        · exact ⟨rfl, x, rfl, List.all_eq_true.mp ha.1.2 x hx, hR _ rfl⟩
        · refine ⟨ps.map isInt, bls_map _ ps, ?_⟩
          rw [show (ps.map isInt).all id = ps.all isInt from by simp [List.all_map, Function.comp_def]]
          exact hp
      exact key
end Law

set_option Elab.async false
set_option linter.all false
set_option maxRecDepth 100000
set_option maxHeartbeats 4000000
namespace Law
open PySem L2 DL
variable [Tb]
def S__law_is_whole : PF := S_is_number
def G__law_is_whole : DG := (gRet (dAnd (dIsTy "int" (dVar 0)) (dNot (dIsTy "bool" (dVar 0)))))
theorem m__law_is_whole : ∀ (ds : List D) T post ex, ds.length = 1 → S__law_is_whole ds T post ex → G__law_is_whole (endsOf post ex) (startD 1 ds T) := m_is_number
/-- a walk is asked for -/
def S_need_walk : PF := fun ds T post ex => (∃ h d, ds = [h, d] ∧ isO [("House", true)] [] h = some false ∧ ex "BadHouse" [] T) ∨ (∃ n xs d, ds = [houseD n xs, d] ∧ (∀ d ∈ xs, DoorOf n d) ∧ xs.length ≤ 1000 ∧ askable d = true ∧ (∀ r ps ss, d = .tup [r, .tup ps, .tup ss] → ps.length ≤ 10000 ∧ ss.length ≤ 10000) ∧
  (isWalk n xs d = true → post (.fz .non) T) ∧ (isWalk n xs d = false → ex "BadWalk" [] T))
def G_need_walk : DG := (gIf (tNotD (dTest (dCallX S_is_walk 2 (aCons (dVar 0) (aCons (dVar 1) aNil))))) (gRaise "BadWalk") gNil)
theorem m_need_walk : ∀ (ds : List D) T post ex, ds.length = 2 → S_need_walk ds T post ex → G_need_walk (endsOf post ex) (startD 2 ds T) := by
  rintro ds T post ex _ (⟨h, d, rfl, hh, hx⟩ | ⟨n, xs, d, rfl, hd, hl, ha, hz, h1, h2⟩)
  · exact ⟨rfl, h, d, false, rfl, hh, fun _ => hx, fun z => absurd z (by simp)⟩
  refine ⟨rfl, houseD n xs, d, true, rfl, rfl, (fun z => absurd z (by simp)), fun _ => ⟨n, xs, rfl, hd, hl, ha, hz, ?_⟩⟩
  cases e : isWalk n xs d with
  | true => exact h1 e
  | false => exact h2 e
/-- where passes lead -/
def goes (xs : List D) : Int → List D → Option Int
  | r, [] => some r
  | r, st :: rest => match roomsOf xs st with
    | some (a, b) => if a = r then goes xs b rest else none
    | none => none
theorem hangs_goes {xs : List D} : ∀ (ss : List D) (r : Int), hangs xs r ss = (goes xs r ss).isSome
  | [], r => rfl
  | st :: rest, r => by
    unfold hangs goes
    cases roomsOf xs st with
    | none => rfl
    | some p =>
      obtain ⟨a, b⟩ := p
      by_cases z : a = r
      · simp only [if_pos z]
        exact hangs_goes rest b
      · simp only [if_neg z]
        rfl
theorem goes_app {xs : List D} : ∀ (ss ts : List D) (r e : Int), goes xs r ss = some e → goes xs r (ss ++ ts) = goes xs e ts
  | [], ts, r, e, h => by
    cases h
    rfl
  | st :: rest, ts, r, e, h => by
    unfold goes at h
    rw [List.cons_append]
    conv => lhs; unfold goes
    cases q : roomsOf xs st with
    | none => rw [q] at h; cases h
    | some p =>
      obtain ⟨a, b⟩ := p
      rw [q] at h
      by_cases z : a = r
      · simp only [if_pos z] at h ⊢
        exact goes_app rest ts b e h
      · simp only [if_neg z] at h
        cases h
/-- a pass of good doors, seen -/
theorem pass_see {n : Nat} {xs : List D} (hd : ∀ d ∈ xs, DoorIs n d) {st : D} (h : isPass xs.length st = true) : ∃ (i : Nat) (s : Int) (a b : Nat) (x y : Int), st = .tup [.int i, .int s] ∧ (s = 0 ∨ s = 1) ∧ i < xs.length ∧ xs[i]? = some (.tup [.int a, .int x, .int b, .int y]) ∧ a < n ∧ b < n ∧ sizeOk x ∧ sizeOk y := by
  obtain ⟨i, s, hi, hs, rfl⟩ := pass_is h
  obtain ⟨a, b, x, y, ed, la, lb, sx, sy⟩ := (hd xs[i] (List.getElem_mem _)).ex
  exact ⟨i, s, a, b, x, y, rfl, hs, hi, by rw [List.getElem?_eq_getElem hi, ed], la, lb, sx, sy⟩
def pullOk (d : D) : Prop := ∃ z : Int, d = .int z ∧ -1000 ≤ z ∧ z ≤ 1000
def S__law_pulls : PF := fun ds T post _ => ∃ n xs st, ds = [.st, .tup xs, st] ∧ (∀ d ∈ xs, DoorIs n d) ∧ isPass xs.length st = true ∧ T + 2 ≤ TM ∧ ∀ d, pullOk d → post (.fz d) (T + 2)
def G__law_pulls : DG := (gSeq (gIf (dTest (dOp dEq (dCall S__law_draw 2 (aCons (dVar 0) (aCons (dC (.int 2)) aNil))) (dC (.int 0)))) (gRet (dOp dSub (dCall S__law_draw 2 (aCons (dVar 0) (aCons (dC (.int 7)) aNil))) (dC (.int 3)))) gNil)
    (gRet (dOp dMul (dOp dIx (dCall S__law_gate 2 (aCons (dVar 1) (aCons (dVar 2) aNil))) (dC (.int 1))) (dOp dSub (dCall S__law_draw 2 (aCons (dVar 0) (aCons (dC (.int 5)) aNil))) (dC (.int 2))))))
theorem m__law_pulls : ∀ (ds : List D) T post ex, ds.length = 3 → S__law_pulls ds T post ex → G__law_pulls (endsOf post ex) (startD 3 ds T) := by
  rintro ds T post ex _ ⟨n, xs, st, rfl, hd, hs, hT, hp⟩
  obtain ⟨i, s, a, b, x, y, rfl, hs, hi, ej, la, lb, sx, sy⟩ := pass_see hd hs
  refine ⟨rfl, 2, rfl, by decide, by decide, (show T < TM from by omega), fun r r0 r1 => ⟨rfl, rfl, ?_⟩⟩
  have ee : PyData.eqv (py (Sl.fz (D.int r)).d) (py (.int 0)) = decide (r = 0) := eqv_int r 0
  rw [ee]
  by_cases z : r = 0
  · rw [decide_eq_true z]
    refine ⟨rfl, 7, rfl, by decide, by decide, (show T + 1 < TM from by omega), fun k k0 k1 => hp _ ⟨k - 3, rfl, by omega, by omega⟩⟩
  · rw [decide_eq_false z]
    have eg : atI (gate s (.int a) (.int x) (.int b) (.int y)) 1 = some (.int (if s = 0 then x else y)) := by
      unfold gate
      split <;> rfl
    refine ⟨rfl, i, s, xs, .int a, .int x, .int b, .int y, rfl, ej, _, eg, rfl, 5, rfl, by decide, by decide, (show T + 1 < TM from by omega), fun k k0 k1 => ?_⟩
    have hb : -12 ≤ (if s = 0 then x else y) ∧ (if s = 0 then x else y) ≤ 12 := by
      split
      · exact ⟨sx.2.1, sx.2.2⟩
      · exact ⟨sy.2.1, sy.2.2⟩
    refine ⟨.inl ⟨by omega, by omega⟩, hp _ ⟨_, rfl, ?_, ?_⟩⟩
    · have h1 : k - 2 = -2 ∨ k - 2 = -1 ∨ k - 2 = 0 ∨ k - 2 = 1 ∨ k - 2 = 2 := by omega
      rcases h1 with q | q | q | q | q <;> rw [q] <;> omega
    · have h1 : k - 2 = -2 ∨ k - 2 = -1 ∨ k - 2 = 0 ∨ k - 2 = 1 ∨ k - 2 = 2 := by omega
      rcases h1 with q | q | q | q | q <;> rw [q] <;> omega
end Law

set_option Elab.async false
set_option linter.all false
set_option maxRecDepth 100000
set_option maxHeartbeats 4000000
namespace Law
open PySem L2 DL
variable [Tb]
/-! ### walks drawn -/
structure Stroll (n : Nat) (xs : List D) (r : Int) (ps ss : List D) (e : Int) : Prop where
  pu : ∀ d ∈ ps, pullOk d
  st : ∀ d ∈ ss, isPass xs.length d = true
  go : goes xs r ss = some e
  en : ∃ k : Nat, e = k ∧ k < n
def S__law_strolled : PF := fun ds T post _ => ∃ (n m : Nat) (xs : List D) (r : Nat), ds = [.st, .tup xs, .int r, .int m] ∧ (∀ d ∈ xs, DoorIs n d) ∧ r < n ∧ xs.length ≤ 1000 ∧ m ≤ 100 ∧ T + 10000 ≤ TM ∧
  ∀ ps ss e T', Stroll n xs r ps ss e → ps.length = ss.length + 1 → ss.length ≤ m → T ≤ T' → T' ≤ T + 2 + 10 * m → post (.fz (.tup [.int r, .tup ps, .tup ss])) T'
def G_str1 : DG := (gSeq (gSet 9 (dCall S__law_pick 2 (aCons (dVar 0) (aCons (dVar 8) aNil))))
    (gSeq (gIf (tAndD (dEmptyT 6 true) (dTest (dOp dEq (dCall S__law_draw 2 (aCons (dVar 0) (aCons (dC (.int 3)) aNil))) (dC (.int 0))))) (gSet 9 (dTup (aCons (dOp dIx (dIxV 6 (dNeg (dC (.int 1)))) (dC (.int 0))) (aCons (dOp dSub (dC (.int 1)) (dOp dIx (dIxV 6 (dNeg (dC (.int 1)))) (dC (.int 1)))) aNil)))) gNil)
    (gSeq (gApp 5 (dCall S__law_pulls 3 (aCons (dVar 0) (aCons (dVar 1) (aCons (dVar 9) aNil)))))
    (gSeq (gApp 6 (dVar 9))
    (gSet 4 (dOp dIx (dCall S__law_gate 2 (aCons (dVar 1) (aCons (dVar 9) aNil))) (dC (.int 2))))))))
def G_str2 : DG := (gSeq (gSet 8 (dCall S__law_steps 2 (aCons (dVar 1) (aCons (dVar 4) aNil))))
    (gIf (dTest (dOp dNe (dVar 8) (dLst aNil))) G_str1 gNil))
def G_str3 : DG := (gRet (dTup (aCons (dVar 2) (aCons (dCB cTuple (aCons (dOp dAdd (dVar 5) (dLst (aCons (dOp dSub (dCall S__law_draw 2 (aCons (dVar 0) (aCons (dC (.int 9)) aNil))) (dC (.int 4))) aNil))) aNil)) (aCons (dCB cTuple (aCons (dVar 6) aNil)) aNil)))))
def G__law_strolled : DG := (gSeq (gPar3FOO 4 5 6 (dVar 2) (dLst aNil) (dLst aNil))
    (gSeq (gFor (iRng1D (dCall S__law_draw 2 (aCons (dVar 0) (aCons (dOp dAdd (dVar 3) (dC (.int 1))) aNil)))) (tgN 7) G_str2)
    G_str3))
def stSt (xs : List D) (r m e : Int) (ps ss : List D) (v7 v8 v9 : Option Sl) (T : Nat) : DS := ⟨[some (.fz .st), some (.fz (.tup xs)), some (.fz (.int r)), some (.fz (.int m)), some (.fz (.int e)), some (.ow (.lst ps)), some (.ow (.lst ss)), v7, v8, v9], T⟩
/-- one pass more -/
theorem Stroll.more {n : Nat} {xs ps ss : List D} {r e : Int} (h : Stroll n xs r ps ss e) (hd : ∀ d ∈ xs, DoorIs n d) {p st : D} (hp : pullOk p) (hs : isPass xs.length st = true) (ha : ∃ b, roomsOf xs st = some (e, b)) : ∃ b, roomsOf xs st = some (e, b) ∧ Stroll n xs r (ps ++ [p]) (ss ++ [st]) b := by
  obtain ⟨b, hb⟩ := ha
  refine ⟨b, hb, fun d hd => ?_, fun d hd => ?_, ?_, ?_⟩
  · rcases List.mem_append.mp hd with q | q
    · exact h.pu d q
    · rw [List.mem_singleton.mp q]; exact hp
  · rcases List.mem_append.mp hd with q | q
    · exact h.st d q
    · rw [List.mem_singleton.mp q]; exact hs
  · rw [goes_app ss [st] r e h.go]
    unfold goes
    rw [hb]
    simp [goes]
  · obtain ⟨i, s, a, c, x, y, rfl, hs', hi, ej, la, lc, _, _⟩ := pass_see hd hs
    unfold roomsOf at hb
    simp [ej] at hb
    by_cases z : s = 0
    · rw [if_pos z] at hb
      cases hb
      exact ⟨c, rfl, lc⟩
    · rw [if_neg z] at hb
      cases hb
      exact ⟨a, rfl, la⟩
theorem room_seen {xs : List D} {i : Nat} {s : Int} {a b : Nat} {x y : D} (ej : xs[i]? = some (.tup [.int a, x, .int b, y])) : roomsOf xs (.tup [.int i, .int s]) = some (if s = 0 then ((a : Int), (b : Int)) else ((b : Int), (a : Int))) := by
  unfold roomsOf
  simp [ej]
theorem gate_2 {s : Int} {a b x y : D} : atI (gate s a x b y) 2 = some (if s = 0 then b else a) := by
  unfold gate
  split <;> rfl
/-- from the pulls on -/
theorem m_str_end {n : Nat} {xs ps ss : List D} {r m e : Int} {v7 v8 : Option Sl} {st : D} {T : Nat} {E : DE} (h : Stroll n xs r ps ss e) (hd : ∀ d ∈ xs, DoorIs n d) (hs : isPass xs.length st = true) (ha : ∃ b, roomsOf xs st = some (e, b)) (h1 : ps.length < 1000) (h2 : ss.length < 1000) (hT : T + 2 ≤ TM)
    (hE : ∀ p b, pullOk p → Stroll n xs r (ps ++ [p]) (ss ++ [st]) b → E.nx (stSt xs r m b (ps ++ [p]) (ss ++ [st]) v7 v8 (some (.fz st)) (T + 2))) :
    gSeq (gApp 5 (dCall S__law_pulls 3 (aCons (dVar 0) (aCons (dVar 1) (aCons (dVar 9) aNil))))) (gSeq (gApp 6 (dVar 9)) (gSet 4 (dOp dIx (dCall S__law_gate 2 (aCons (dVar 1) (aCons (dVar 9) aNil))) (dC (.int 2))))) E (stSt xs r m e ps ss v7 v8 (some (.fz st)) T) := by
  obtain ⟨i, s, a, c, x, y, rfl, hs', hi, ej, la, lc, _, _⟩ := pass_see hd hs
  refine ⟨rfl, n, xs, _, rfl, hd, hs, hT, fun p hp => ⟨(show ps.length < 100000 from by omega), (show ss.length < 100000 from by omega), rfl, i, s, xs, _, _, _, _, rfl, ej, _, gate_2, ?_⟩⟩
  obtain ⟨b, hb, h3⟩ := h.more hd hp hs ha
  have eb : b = if s = 0 then (c : Int) else (a : Int) := by
    rw [room_seen ej] at hb
    by_cases z : s = 0
    · rw [if_pos z] at hb
      cases hb
      rw [if_pos z]
    · rw [if_neg z] at hb
      cases hb
      rw [if_neg z]
  have k := hE p b hp h3
  rw [eb] at k
  by_cases z : s = 0
  · rw [if_pos z] at k ⊢
    exact k
  · rw [if_neg z] at k ⊢
    exact k
theorem goes_last {xs : List D} {l : D} {e : Int} : ∀ (init : List D) (r : Int), goes xs r (init ++ [l]) = some e → ∃ a, roomsOf xs l = some (a, e)
  | [], r, h => by
    unfold goes at h
    cases q : roomsOf xs l with
    | none => simp [q] at h
    | some p =>
      obtain ⟨a, b⟩ := p
      simp only [List.nil_append, q] at h
      by_cases z : a = r
      · simp only [if_pos z, goes] at h
        cases h
        exact ⟨a, rfl⟩
      · simp only [if_neg z] at h
        cases h
  | st :: rest, r, h => by
    rw [List.cons_append] at h
    unfold goes at h
    cases q : roomsOf xs st with
    | none => simp [q] at h
    | some p =>
      obtain ⟨a, b⟩ := p
      simp only [q] at h
      by_cases z : a = r
      · simp only [if_pos z] at h
        exact goes_last rest b h
      · simp only [if_neg z] at h
        cases h
theorem atI_last {l : D} (init : List D) : atI (init ++ [l]) (-1) = some l := by
  unfold atI ixN
  have e : (-1 + (((init ++ [l]).length : Nat) : Int)).toNat = init.length := by simp; omega
  have e2 : -(((init ++ [l]).length : Nat) : Int) ≤ -1 := by simp; omega
  rw [if_neg (by omega), if_pos e2, e]
  simp
theorem m_str1 {n : Nat} {xs ps ss some' : List D} {r m e : Int} {v7 v9 : Option Sl} {T : Nat} {E : DE} (h : Stroll n xs r ps ss e) (hd : ∀ d ∈ xs, DoorIs n d) (hso : ∀ st ∈ some', isPass xs.length st = true ∧ ∃ b, roomsOf xs st = some (e, b)) (hn : 0 < some'.length) (hl : some'.length ≤ 100000) (h1 : ps.length < 1000) (h2 : ss.length < 1000) (hT : T + 10 ≤ TM)
    (hE : ∀ p st b T' v9, pullOk p → Stroll n xs r (ps ++ [p]) (ss ++ [st]) b → T ≤ T' → T' ≤ T + 4 → E.nx (stSt xs r m b (ps ++ [p]) (ss ++ [st]) v7 (some (.fz (.lst some'))) v9 T')) : G_str1 E (stSt xs r m e ps ss v7 (some (.fz (.lst some'))) v9 T) := by
  refine ⟨rfl, .lst some', some', rfl, .inl rfl, hn, hl, (show T < TM from by omega), fun st hst => ?_⟩
  obtain ⟨hp, ha⟩ := hso st hst
  have oks : okD (.lst ss) = true := okD_of (n := 9) (by
    unfold okN
    refine okNs_iff.mpr fun d hd => ?_
    obtain ⟨i, s, _, _, rfl⟩ := pass_is (h.st d hd)
    rfl)
  refine ⟨oks, ?_⟩
  have rest : ∀ (T' : Nat) (st : D), isPass xs.length st = true → (∃ b, roomsOf xs st = some (e, b)) → T ≤ T' → T' ≤ T + 2 → gSeq (gApp 5 (dCall S__law_pulls 3 (aCons (dVar 0) (aCons (dVar 1) (aCons (dVar 9) aNil))))) (gSeq (gApp 6 (dVar 9)) (gSet 4 (dOp dIx (dCall S__law_gate 2 (aCons (dVar 1) (aCons (dVar 9) aNil))) (dC (.int 2))))) E (stSt xs r m e ps ss v7 (some (.fz (.lst some'))) (some (.fz st)) T') := fun T' st hp ha k1 k2 =>
    m_str_end h hd hp ha h1 h2 (by omega) fun p b hp' hS => hE p st b (T' + 2) _ hp' hS (by omega) (by omega)
  rcases List.eq_nil_or_concat ss with z | ⟨init, l, z⟩
  · subst z
    exact rest (T + 1) st hp ha (by omega) (by omega)
  · rw [List.concat_eq_append] at z
    subst z
    have hne : (!(init ++ [l]).isEmpty) = true := by simp
    show (if (if true then !(init ++ [l]).isEmpty else (init ++ [l]).isEmpty) = true then _ else _)
    rw [if_pos rfl, if_pos hne]
    refine ⟨rfl, 3, rfl, by decide, by decide, (show T + 1 < TM from by omega), fun k k0 k1 => ⟨rfl, rfl, ?_⟩⟩
    have ee : PyData.eqv (py (Sl.fz (D.int k)).d) (py (.int 0)) = decide (k = 0) := eqv_int k 0
    rw [ee]
    by_cases z : k = 0
    · rw [decide_eq_true z]
      obtain ⟨a, hl2⟩ := goes_last init r h.go
      obtain ⟨i, s, a', c, x, y, rfl, hs', hi, ej, la, lc, _, _⟩ := pass_see hd (h.st l (List.mem_append_right _ (List.mem_singleton.mpr rfl)))
      refine ⟨trivial, _, atI_last init, .int i, rfl, trivial, _, atI_last init, .int s, rfl, (by show 2 ≤ 100000; decide), ?_⟩
      refine rest (T + 2) (.tup [.int i, .int (1 - s)]) ?_ ?_ (by omega) (by omega)
      · unfold isPass within
        simp
        omega
      · rw [room_seen ej] at hl2 ⊢
        rcases hs' with rfl | rfl
        · simp at hl2
          obtain ⟨_, rfl⟩ := hl2
          exact ⟨a', by simp⟩
        · simp at hl2
          obtain ⟨_, rfl⟩ := hl2
          exact ⟨c, by simp⟩
    · rw [decide_eq_false z]
      exact rest (T + 2) st hp ha (by omega) (by omega)
theorem eqv_nil (ds : List D) : PyData.eqv (py (.lst ds)) (py (.lst [])) = ds.isEmpty := by
  cases ds <;> simp [py, pyL, PyData.eqv, PyData.eqvAll]
theorem from_ok {n : Nat} {xs : List D} {e : Int} (hd : ∀ d ∈ xs, DoorIs n d) {st : D} (h : st ∈ (sides xs.length).filter (fromRoom xs e)) : isPass xs.length st = true ∧ ∃ b, roomsOf xs st = some (e, b) := by
  obtain ⟨h1, h2⟩ := List.mem_filter.mp h
  obtain ⟨i, s, hi, hs, rfl⟩ := mem_sides h1
  obtain ⟨a, b, x, y, ed, _⟩ := (hd xs[i] (List.getElem_mem _)).ex
  have ej : xs[i]? = some (.tup [.int a, .int x, .int b, .int y]) := by rw [List.getElem?_eq_getElem hi, ed]
  refine ⟨?_, ?_⟩
  · unfold isPass within
    simp
    omega
  · unfold fromRoom at h2
    simp [ej] at h2
    rw [room_seen ej]
    by_cases z : s = 0
    · rw [if_pos z] at h2 ⊢
      exact ⟨b, by rw [h2]⟩
    · rw [if_neg z] at h2 ⊢
      exact ⟨a, by rw [h2]⟩
theorem m_str2 {n : Nat} {xs ps ss : List D} {r m e : Int} {v7 v8 v9 : Option Sl} {T : Nat} {E : DE} (h : Stroll n xs r ps ss e) (hd : ∀ d ∈ xs, DoorIs n d) (hl : xs.length ≤ 1000) (h1 : ps.length < 1000) (h2 : ss.length < 1000) (hT : T + 10 ≤ TM) (hsame : ∀ v8, E.nx (stSt xs r m e ps ss v7 v8 v9 T))
    (hE : ∀ p st b T' v8 v9, pullOk p → Stroll n xs r (ps ++ [p]) (ss ++ [st]) b → T ≤ T' → T' ≤ T + 4 → E.nx (stSt xs r m b (ps ++ [p]) (ss ++ [st]) v7 v8 v9 T')) : G_str2 E (stSt xs r m e ps ss v7 v8 v9 T) := by
  have hsl := sides_len xs.length
  have hfl := List.length_filter_le (fromRoom xs e) (sides xs.length)
  have hso : ∀ st ∈ (sides xs.length).filter (fromRoom xs e), isPass xs.length st = true ∧ ∃ b, roomsOf xs st = some (e, b) := fun st hst => from_ok hd hst
  have go : ∀ some' : List D, some'.length ≤ 2000 → (∀ st ∈ some', isPass xs.length st = true ∧ ∃ b, roomsOf xs st = some (e, b)) → gIf (dTest (dOp dNe (dVar 8) (dLst aNil))) G_str1 gNil E (stSt xs r m e ps ss v7 (some (.fz (.lst some'))) v9 T) := fun some' hz hso => by
    refine ⟨by decide, okD_of (n := 9) (by
      unfold okN
      refine okNs_iff.mpr fun d hd => ?_
      obtain ⟨i, s, _, _, rfl⟩ := pass_is (hso d hd).1
      rfl), by decide +kernel, ?_⟩
    rw [eqv_nil]
    cases some' with
    | nil => exact hsame _
    | cons st rest => exact m_str1 h hd hso (by simp) (by omega) h1 h2 hT fun p st b T' v9 q1 q2 q3 q4 => hE p st b T' _ v9 q1 q2 q3 q4
  exact ⟨rfl, n, xs, e, rfl, hd, hl, go _ (by omega) hso⟩
theorem m__law_strolled : ∀ (ds : List D) T post ex, ds.length = 4 → S__law_strolled ds T post ex → G__law_strolled (endsOf post ex) (startD 10 ds T) := by
  rintro ds T post ex _ ⟨n, m, xs, r, rfl, hd, hr, hl, hm, hT, hp⟩
  refine ⟨by decide, by decide, ?_⟩
  refine ⟨rfl, m + 1, rfl, by omega, by omega, (show T < TM from by omega), fun k k0 k1 => ⟨by omega, by omega, ?_⟩⟩
  have hk : k.toNat ≤ m := by omega
  have key : forD (tgN 7) G_str2 (rangeD 0 k.toNat) { endsOf post ex with nx := G_str3 (endsOf post ex) } (stSt xs r m r [] [] none none none (T + 1)) := by
    refine forD_inv (fun i s => ∃ e ps ss v7 v8 v9 T', s = stSt xs r m e ps ss v7 v8 v9 T' ∧ Stroll n xs r ps ss e ∧ ps.length = ss.length ∧ ss.length ≤ i ∧ T ≤ T' ∧ T' ≤ T + 1 + 4 * i) (rangeD 0 k.toNat) 0 _ ?_ ⟨r, [], [], _, _, _, _, rfl, ⟨fun d h => absurd h (by simp), fun d h => absurd h (by simp), rfl, ⟨r, rfl, hr⟩⟩, rfl, by simp, by omega, by omega⟩ ?_
    · rintro i d s hi ⟨e, ps, ss, v7, v8, v9, T', rfl, hS, hlen, hi2, t0, t1⟩ R hR
      have hi3 := (rangeD_get hi).2
      refine m_str2 (T := T') (v7 := some (.fz d)) hS hd hl (by omega) (by omega) (by omega) (fun v8 => hR _ ⟨e, ps, ss, _, _, _, _, rfl, hS, hlen, by omega, t0, by omega⟩) fun p st b T2 v8 v9 q1 q2 q3 q4 => hR _ ⟨b, _, _, _, _, _, T2, rfl, q2, ?_, ?_, by omega, by omega⟩
      · simp [hlen]
      · simp; omega
    · rintro s ⟨e, ps, ss, v7, v8, v9, T', rfl, hS, hlen, hi2, t0, t1⟩
      rw [rangeD_len, Nat.zero_add] at hi2 t1
      refine ⟨rfl, 9, rfl, by decide, by decide, (show T' < TM from by omega), fun j j0 j1 => ⟨by show 1 ≤ 100000; decide, (show ps.length + 1 ≤ 100000 from by omega), (by show 3 ≤ 100000; decide), ?_⟩⟩
      refine hp (ps ++ [.int (j - 4)]) ss e (T' + 1) ⟨fun d hd => ?_, hS.st, hS.go, hS.en⟩ (by simp [hlen]) (by omega) (by omega) (by omega)
      rcases List.mem_append.mp hd with q | q
      · exact hS.pu d q
      · rw [List.mem_singleton.mp q]
        exact ⟨j - 4, rfl, by omega, by omega⟩
  exact key
end Law

set_option Elab.async false
set_option linter.all false
set_option maxRecDepth 100000
set_option maxHeartbeats 4000000
namespace Law
open PySem L2 DL
variable [Tb]
/-! ### ends of walks -/
def S__law_end : PF := fun ds T post _ => ∃ (n : Nat) (xs ps ss : List D) (r e : Int), ds = [.tup xs, .tup [.int r, .tup ps, .tup ss]] ∧ (∀ d ∈ xs, DoorIs n d) ∧ (∀ d ∈ ss, isPass xs.length d = true) ∧ goes xs r ss = some e ∧ post (.fz (.int e)) T
def G__law_end : DG := (gRet (dIfE (dTest (dOp dNe (dIxV 1 (dC (.int 2))) (dTup aNil))) (dOp dIx (dCall S__law_gate 2 (aCons (dVar 0) (aCons (dOp dIx (dIxV 1 (dC (.int 2))) (dNeg (dC (.int 1)))) aNil))) (dC (.int 2))) (dIxV 1 (dC (.int 0)))))
theorem eqv_nilT (ds : List D) : PyData.eqv (py (.tup ds)) (py (.tup [])) = ds.isEmpty := by
  cases ds <;> simp [py, pyL, PyData.eqv, PyData.eqvAll]
theorem m__law_end : ∀ (ds : List D) T post ex, ds.length = 2 → S__law_end ds T post ex → G__law_end (endsOf post ex) (startD 2 ds T) := by
  rintro ds T post ex _ ⟨n, xs, ps, ss, r, e, rfl, hd, hs, hg, hp⟩
  have oks : okD (.tup ss) = true := okD_of (n := 9) (by
    unfold okN
    refine okNs_iff.mpr fun d hd => ?_
    obtain ⟨i, s, _, _, rfl⟩ := pass_is (hs d hd)
    rfl)
  refine ⟨trivial, .tup ss, rfl, by decide, oks, by decide +kernel, ?_⟩
  rw [eqv_nilT]
  rcases List.eq_nil_or_concat ss with z | ⟨init, l, z⟩
  · subst z
    cases hg
    exact ⟨trivial, .int r, rfl, hp⟩
  · rw [List.concat_eq_append] at z
    subst z
    rw [show (init ++ [l]).isEmpty = false by simp]
    obtain ⟨a0, hl⟩ := goes_last init r hg
    obtain ⟨i, s, a, c, x, y, rfl, hs', hi, ej, la, lc, _, _⟩ := pass_see hd (hs l (List.mem_append_right _ (List.mem_singleton.mpr rfl)))
    refine ⟨trivial, .tup (init ++ [.tup [.int i, .int s]]), rfl, _, atI_last init, rfl, i, s, xs, _, _, _, _, rfl, ej, _, gate_2, ?_⟩
    rw [room_seen ej] at hl
    by_cases z : s = 0
    · rw [if_pos z] at hl ⊢
      cases hl
      exact hp
    · rw [if_neg z] at hl ⊢
      cases hl
      exact hp
def S_back_of : PF := fun ds T post _ => ∃ (d : D) (s : Int), ds = [.tup [d, .int s]] ∧ post (.fz (.tup [d, .int (1 - s)])) T
def G_back_of : DG := (gSeq (gUnp (tgTup 2 (tgCons (tgN 1) (tgCons (tgN 2) tgNil))) (dVar 0))
    (gRet (dTup (aCons (dVar 1) (aCons (dOp dSub (dC (.int 1)) (dVar 2)) aNil)))))
theorem m_back_of : ∀ (ds : List D) T post ex, ds.length = 1 → S_back_of ds T post ex → G_back_of (endsOf post ex) (startD 3 ds T) := by
  rintro ds T post ex _ ⟨d, s, rfl, hp⟩
  exact ⟨rfl, by show 2 ≤ 100000; decide, hp⟩
end Law

set_option Elab.async false
set_option linter.all false
set_option maxRecDepth 100000
set_option maxHeartbeats 4000000
namespace Law
open PySem L2 DL
variable [Tb]
/-! ### walks backwards -/
def turnD : D → D
  | .tup [d, .int s] => .tup [d, .int (1 - s)]
  | d => d
def negD : D → D
  | .int z => .int (-z)
  | d => d
def walkD (r : Int) (ps ss : List D) : D := .tup [.int r, .tup ps, .tup ss]
def backD (e : Int) (ps ss : List D) : D := walkD e (ps.reverse.map negD) (ss.reverse.map turnD)
/-- a walk of a good house -/
structure WalkOf (n : Nat) (xs : List D) (r : Int) (ps ss : List D) (e : Int) : Prop where
  pu : ∀ d ∈ ps, ∃ z : Int, d = .int z
  st : ∀ d ∈ ss, isPass xs.length d = true
  go : goes xs r ss = some e
  ln : ps.length = ss.length + 1
  mx : ss.length ≤ 9000
def S__law_back : PF := fun ds T post _ => ∃ n xs r ps ss e, ds = [.tup xs, walkD r ps ss] ∧ (∀ d ∈ xs, DoorIs n d) ∧ WalkOf n xs r ps ss e ∧ post (.fz (backD e ps ss)) T
def F_bk1 : DF := dLc [3] (iSeq (dRev (dIxV 1 (dC (.int 2))))) (tgN 3) tAll (dTup (aCons (dIxV 3 (dC (.int 0))) (aCons (dOp dSub (dC (.int 1)) (dIxV 3 (dC (.int 1)))) aNil)))
def F_bk2 : DF := dLc [4] (iSeq (dRev (dIxV 1 (dC (.int 1))))) (tgN 4) tAll (dOp dSub (dC (.int 0)) (dVar 4))
def G_bk2 : DG := (gRet (dTup (aCons (dCall S__law_end 2 (aCons (dVar 0) (aCons (dVar 1) aNil))) (aCons (dCB cTuple (aCons F_bk2 aNil)) (aCons (dVar 2) aNil)))))
def G__law_back : DG := (gSeq (gSet 2 (dCB cTuple (aCons F_bk1 aNil))) G_bk2)
theorem m__law_back : ∀ (ds : List D) T post ex, ds.length = 2 → S__law_back ds T post ex → G__law_back (endsOf post ex) (startD 5 ds T) := by
  rintro ds T post ex _ ⟨n, xs, r, ps, ss, e, rfl, hd, hw, hp⟩
  have hl := hw.ln
  have hm := hw.mx
  have second : F_bk2 ⟨[some (.fz (.tup xs)), some (.fz (walkD r ps ss)), some (.fz (.tup (ss.reverse.map turnD))), none, none], T⟩ (fun d s1 => cTuple [d] fun z => aCons (dVar 2) aNil s1 (fun ds s2 => (D.int e :: z :: ds).length ≤ 100000 ∧ (endsOf post ex).rt (.fz (.tup (.int e :: z :: ds))) s2.T) (endsOf post ex).ex) (endsOf post ex).ex := by
    refine lc_map (s0 := ⟨[some (.fz (.tup xs)), some (.fz (walkD r ps ss)), some (.fz (.tup (ss.reverse.map turnD))), none, none], T⟩) negD ps.reverse (by simp; omega) (fun Q h => ⟨trivial, _, rfl, ps.reverse, rfl, h _ rfl⟩) rfl (fun d hdd R hR => ?_) ?_
    · obtain ⟨z, rfl⟩ := hw.pu d (List.mem_reverse.mp hdd)
      have k := hR ⟨[some (.fz (.tup xs)), some (.fz (walkD r ps ss)), some (.fz (.tup (ss.reverse.map turnD))), none, some (.fz (.int z))], T⟩ rfl
      show R (.int (0 - z)) _
      rw [Int.zero_sub]
      exact k
    · exact ⟨by show 3 ≤ 100000; decide, hp⟩
  have first : F_bk1 (startD 5 [.tup xs, walkD r ps ss] T) (fun d s1 => cTuple [d] fun z => G_bk2 (endsOf post ex) (s1.put 2 (.fz z))) (endsOf post ex).ex := by
    refine lc_map (s0 := startD 5 [.tup xs, walkD r ps ss] T) turnD ss.reverse (by simp; omega) (fun Q h => ⟨trivial, _, rfl, ss.reverse, rfl, h _ rfl⟩) rfl (fun d hdd R hR => ?_) ?_
    · obtain ⟨i, s, _, _, rfl⟩ := pass_is (hw.st d (List.mem_reverse.mp hdd))
      exact ⟨trivial, .int i, rfl, trivial, .int s, rfl, by show 2 ≤ 100000; decide, hR _ rfl⟩
    · refine ⟨rfl, n, xs, ps, ss, r, e, rfl, hd, hw.st, hw.go, ?_⟩
      exact second
  exact first
end Law

set_option Elab.async false
set_option linter.all false
set_option maxRecDepth 100000
set_option maxHeartbeats 4000000
namespace Law
open PySem L2 DL
variable [Tb]
/-! ### rooms of a walk, and the program's own walk backwards -/
def S_room_after : PF := fun ds T post _ => ∃ (n : Nat) (xs ps ss : List D) (r e : Int) (k : Nat), ds = [houseD n xs, walkD r ps ss, .int k] ∧ (∀ d ∈ xs, DoorIs n d) ∧ (∀ d ∈ ss, isPass xs.length d = true) ∧ k ≤ ss.length ∧ goes xs r (ss.take k) = some e ∧ post (.fz (.int e)) T
def G_room_after : DG := (gSeq (gUnp (tgTup 3 (tgCons (tgN 3) (tgCons (tgN 4) (tgCons (tgN 5) tgNil)))) (dVar 1))
    (gSeq (gIf (dTest (dOp dEq (dVar 2) (dC (.int 0)))) (gRet (dVar 3)) gNil)
    (gRet (dOp dIx (dCall S_ends_of 2 (aCons (dVar 0) (aCons (dIxV 5 (dOp dSub (dVar 2) (dC (.int 1)))) aNil))) (dC (.int 2))))))
theorem m_room_after : ∀ (ds : List D) T post ex, ds.length = 3 → S_room_after ds T post ex → G_room_after (endsOf post ex) (startD 6 ds T) := by
  rintro ds T post ex _ ⟨n, xs, ps, ss, r, e, k, rfl, hd, hs, hk, hg, hp⟩
  refine ⟨rfl, rfl, rfl, ?_⟩
  have ee : PyData.eqv (py (D.int (k : Int))) (py (.int 0)) = decide ((k : Int) = 0) := eqv_int k 0
  rw [ee]
  by_cases z : (k : Int) = 0
  · rw [decide_eq_true z]
    have hz : k = 0 := by omega
    subst hz
    cases hg
    exact hp
  · rw [decide_eq_false z]
    have hj : k - 1 < ss.length := by omega
    have el : ss[k - 1]? = some ss[k - 1] := List.getElem?_eq_getElem hj
    have et : ss.take k = ss.take (k - 1) ++ [ss[k - 1]] := by
      have := take_succ_get el
      rwa [show k - 1 + 1 = k by omega] at this
    rw [et] at hg
    obtain ⟨a0, hl⟩ := goes_last _ r hg
    obtain ⟨i, s, a, c, x, y, es, hs', hi, ej, la, lc, _, _⟩ := pass_see hd (hs _ (List.getElem_mem hj))
    rw [es] at hl el
    have ea : atI ss ((k : Int) - 1) = some (.tup [.int i, .int s]) := by
      have := atI_nat el
      rwa [show ((k - 1 : Nat) : Int) = (k : Int) - 1 by omega] at this
    refine ⟨trivial, _, ea, rfl, n, i, s, xs, _, _, _, _, rfl, ej, _, gate_2, ?_⟩
    rw [room_seen ej] at hl
    by_cases z : s = 0
    · rw [if_pos z] at hl ⊢
      cases hl
      exact hp
    · rw [if_neg z] at hl ⊢
      cases hl
      exact hp
def S_last_room : PF := fun ds T post _ => ∃ (n : Nat) (xs ps ss : List D) (r e : Int), ds = [houseD n xs, walkD r ps ss] ∧ (∀ d ∈ xs, DoorIs n d) ∧ (∀ d ∈ ss, isPass xs.length d = true) ∧ goes xs r ss = some e ∧ post (.fz (.int e)) T
def G_last_room : DG := (gRet (dCall S_room_after 3 (aCons (dVar 0) (aCons (dVar 1) (aCons (dCB cLen (aCons (dIxV 1 (dC (.int 2))) aNil)) aNil)))))
theorem m_last_room : ∀ (ds : List D) T post ex, ds.length = 2 → S_last_room ds T post ex → G_last_room (endsOf post ex) (startD 2 ds T) := by
  rintro ds T post ex _ ⟨n, xs, ps, ss, r, e, rfl, hd, hs, hg, hp⟩
  exact ⟨trivial, .tup ss, rfl, rfl, n, xs, ps, ss, r, e, ss.length, rfl, hd, hs, Nat.le_refl _, by rw [List.take_length]; exact hg, hp⟩
def S_backwards : PF := fun ds T post _ => ∃ n xs r ps ss e, ds = [houseD n xs, walkD r ps ss] ∧ (∀ d ∈ xs, DoorIs n d) ∧ WalkOf n xs r ps ss e ∧ post (.fz (backD e ps ss)) T
def F_bw1 : DF := dLc [6] (iSeq (dRev (dVar 4))) (tgN 6) tAll (dCall S_back_of 1 (aCons (dVar 6) aNil))
def F_bw2 : DF := dLc [7] (iSeq (dRev (dVar 3))) (tgN 7) tAll (dNeg (dVar 7))
def G_bw2 : DG := (gRet (dTup (aCons (dCall S_last_room 2 (aCons (dVar 0) (aCons (dVar 1) aNil))) (aCons (dCB cTuple (aCons F_bw2 aNil)) (aCons (dVar 5) aNil)))))
def G_bw1 : DG := gSeq (gSet 5 (dCB cTuple (aCons F_bw1 aNil))) G_bw2
def G_backwards : DG := (gSeq (gUnp (tgTup 3 (tgCons (tgN 2) (tgCons (tgN 3) (tgCons (tgN 4) tgNil)))) (dVar 1)) G_bw1)
theorem m_backwards : ∀ (ds : List D) T post ex, ds.length = 2 → S_backwards ds T post ex → G_backwards (endsOf post ex) (startD 8 ds T) := by
  rintro ds T post ex _ ⟨n, xs, r, ps, ss, e, rfl, hd, hw, hp⟩
  have hl := hw.ln
  have hm := hw.mx
  let h5 : Option Sl := some (.fz (.tup (ss.reverse.map turnD)))
  have second : F_bw2 ⟨[some (.fz (houseD n xs)), some (.fz (walkD r ps ss)), some (.fz (.int r)), some (.fz (.tup ps)), some (.fz (.tup ss)), h5, none, none], T⟩
      (fun d s1 => cTuple [d] fun z => aCons (dVar 5) aNil s1 (fun ds s2 => (D.int e :: z :: ds).length ≤ 100000 ∧ (endsOf post ex).rt (.fz (.tup (.int e :: z :: ds))) s2.T) (endsOf post ex).ex) (endsOf post ex).ex := by
    refine lc_map (s0 := ⟨[some (.fz (houseD n xs)), some (.fz (walkD r ps ss)), some (.fz (.int r)), some (.fz (.tup ps)), some (.fz (.tup ss)), h5, none, none], T⟩) negD ps.reverse (by simp; omega) (fun Q h => ⟨ps.reverse, rfl, h _ rfl⟩) rfl (fun d hdd R hR => ?_) ?_
    · obtain ⟨z, rfl⟩ := hw.pu d (List.mem_reverse.mp hdd)
      exact hR ⟨[some (.fz (houseD n xs)), some (.fz (walkD r ps ss)), some (.fz (.int r)), some (.fz (.tup ps)), some (.fz (.tup ss)), h5, none, some (.fz (.int z))], T⟩ rfl
    · exact ⟨by show 3 ≤ 100000; decide, hp⟩
  have first : F_bw1 ⟨[some (.fz (houseD n xs)), some (.fz (walkD r ps ss)), some (.fz (.int r)), some (.fz (.tup ps)), some (.fz (.tup ss)), none, none, none], T⟩
      (fun d s1 => cTuple [d] fun z => G_bw2 (endsOf post ex) (s1.put 5 (.fz z))) (endsOf post ex).ex := by
    refine lc_map (s0 := ⟨[some (.fz (houseD n xs)), some (.fz (walkD r ps ss)), some (.fz (.int r)), some (.fz (.tup ps)), some (.fz (.tup ss)), none, none, none], T⟩) turnD ss.reverse (by simp; omega) (fun Q h => ⟨ss.reverse, rfl, h _ rfl⟩) rfl (fun d hdd R hR => ?_) ?_
    · obtain ⟨i, s, _, _, rfl⟩ := pass_is (hw.st d (List.mem_reverse.mp hdd))
      exact ⟨rfl, .int i, s, rfl, hR _ rfl⟩
    · refine ⟨rfl, n, xs, ps, ss, r, e, rfl, hd, hw.st, hw.go, ?_⟩
      exact second
  refine ⟨rfl, ?_⟩
  exact first
end Law

set_option Elab.async false
set_option linter.all false
set_option maxRecDepth 100000
set_option maxHeartbeats 4000000
namespace Law
open PySem L2 DL
variable [Tb]
/-! ### back, and rooms asked for -/
theorem isWalk_of {n : Nat} {xs ps ss : List D} {r e : Int} (hw : WalkOf n xs r ps ss e) (h0 : 0 ≤ r) (h1 : r < n) : isWalk n xs (walkD r ps ss) = true := by
  have a1 : within (.int r) 0 ((n : Int) - 1) = true := by
    simp [within]
    omega
  have a2 : ps.all isInt = true := List.all_eq_true.mpr fun d hd => by
    obtain ⟨z, rfl⟩ := hw.pu d hd
    rfl
  have a3 : ss.all (isPass xs.length) = true := List.all_eq_true.mpr hw.st
  have a4 : hangs xs r ss = true := by
    rw [hangs_goes, hw.go]
    rfl
  show (within (.int r) 0 ((n : Int) - 1) && (decide (ps.length = ss.length + 1) && ps.all isInt) && (ss.all (isPass xs.length) && hangs xs r ss)) = true
  rw [a1, a2, a3, a4, decide_eq_true hw.ln]
  rfl
theorem askable_of {n : Nat} {xs ps ss : List D} {r e : Int} (hw : WalkOf n xs r ps ss e) : askable (walkD r ps ss) = true := by
  have a1 : ps.all plainD = true := List.all_eq_true.mpr fun d hd => by
    obtain ⟨z, rfl⟩ := hw.pu d hd
    rfl
  have a2 : (ss.all fun x => plainD x && plainDs x) = true := List.all_eq_true.mpr fun d hd => by
    obtain ⟨i, s, _, _, rfl⟩ := pass_is (hw.st d hd)
    rfl
  show (true && true && true && ps.all plainD && ss.all fun x => plainD x && plainDs x) = true
  rw [a1, a2]
  rfl
/-- what need_walk asks, of a good walk -/
theorem need_of {n : Nat} {xs ps ss : List D} {r e : Int} {T : Nat} {post : Sl → Nat → Prop} {ex : Str → List (Str × D) → Nat → Prop} (hd : ∀ d ∈ xs, DoorIs n d) (hx : xs.length ≤ 1000) (hw : WalkOf n xs r ps ss e) (h0 : 0 ≤ r) (h1 : r < n) (h : post (.fz .non) T) :
    S_need_walk [houseD n xs, walkD r ps ss] T post ex := by
  refine .inr ⟨n, xs, walkD r ps ss, rfl, fun d hd' => (hd d hd').of, hx, askable_of hw, fun r' ps' ss' he => ?_, fun _ => h, fun hf => ?_⟩
  · have hl := hw.ln
    have hm := hw.mx
    cases he
    exact ⟨by omega, by omega⟩
  · rw [isWalk_of hw h0 h1] at hf
    cases hf
def S_back : PF := fun ds T post _ => ∃ n xs r ps ss e, ds = [houseD n xs, walkD r ps ss] ∧ (∀ d ∈ xs, DoorIs n d) ∧ xs.length ≤ 1000 ∧ WalkOf n xs r ps ss e ∧ 0 ≤ r ∧ r < n ∧ post (.fz (backD e ps ss)) T
def G_back : DG := (gSeq (gDrop (dCallX S_need_walk 2 (aCons (dVar 0) (aCons (dVar 1) aNil))))
    (gRet (dCall S_backwards 2 (aCons (dVar 0) (aCons (dVar 1) aNil)))))
theorem m_back : ∀ (ds : List D) T post ex, ds.length = 2 → S_back ds T post ex → G_back (endsOf post ex) (startD 2 ds T) := by
  rintro ds T post ex _ ⟨n, xs, r, ps, ss, e, rfl, hd, hx, hw, h0, h1, hp⟩
  exact ⟨rfl, need_of hd hx hw h0 h1 ⟨rfl, n, xs, r, ps, ss, e, rfl, hd, hw, hp⟩⟩
def S_need_room : PF := fun ds T post ex => ∃ n xs d, ds = [houseD n xs, d] ∧ plainD d = true ∧ (within d 0 ((n : Int) - 1) = true → post (.fz .non) T) ∧ (within d 0 ((n : Int) - 1) = false → ex "BadRoom" [] T)
def G_need_room : DG := (gIf (tNotD (dTest (dCall S_is_room 2 (aCons (dVar 0) (aCons (dVar 1) aNil))))) (gRaise "BadRoom") gNil)
theorem m_need_room : ∀ (ds : List D) T post ex, ds.length = 2 → S_need_room ds T post ex → G_need_room (endsOf post ex) (startD 2 ds T) := by
  rintro ds T post ex _ ⟨n, xs, d, rfl, hd, h1, h2⟩
  refine ⟨rfl, n, xs, d, rfl, hd, ?_⟩
  cases e : within d 0 ((n : Int) - 1) with
  | true => exact h1 e
  | false => exact h2 e
def S_standing : PF := fun ds T post _ => ∃ (n : Nat) (xs : List D) (r : Int), ds = [houseD n xs, .int r] ∧ 0 ≤ r ∧ r < n ∧ post (.fz (walkD r [.int 0] [])) T
def G_standing : DG := (gSeq (gDrop (dCallX S_need_house 1 (aCons (dVar 0) aNil)))
    (gSeq (gDrop (dCallX S_need_room 2 (aCons (dVar 0) (aCons (dVar 1) aNil))))
    (gRet (dTup (aCons (dVar 1) (aCons (dTup (aCons (dC (.int 0)) aNil)) (aCons (dTup aNil) aNil)))))))
theorem m_standing : ∀ (ds : List D) T post ex, ds.length = 2 → S_standing ds T post ex → G_standing (endsOf post ex) (startD 2 ds T) := by
  rintro ds T post ex _ ⟨n, xs, r, rfl, h0, h1, hp⟩
  refine ⟨rfl, houseD n xs, true, rfl, rfl, (fun _ => ⟨rfl, n, xs, .int r, rfl, rfl, fun _ => ⟨?_, ?_, ?_, hp⟩, fun hf => ?_⟩), fun z => absurd z (by simp)⟩
  · show 1 ≤ 100000; decide
  · show 0 ≤ 100000; decide
  · show 3 ≤ 100000; decide
  · simp [within] at hf
    omega
end Law

set_option Elab.async false
set_option linter.all false
set_option maxRecDepth 100000
set_option maxHeartbeats 4000000
namespace Law
open PySem L2 DL
variable [Tb]
/-! ### walks joined -/
theorem cut_init (p0 : List D) (l : D) : cutD (p0 ++ [l]) none (some (-1)) = p0 := by
  have e1 : HT.sIx (p0 ++ [l]).length 0 none = 0 := rfl
  have e2 : HT.sIx (p0 ++ [l]).length (p0 ++ [l]).length (some (-1)) = p0.length := by
    simp [HT.sIx]
    try omega
  unfold cutD
  rw [e1, e2]
  simp
theorem cut_tail (y : D) (q0 : List D) : cutD (y :: q0) (some 1) none = q0 := by
  have e1 : HT.sIx (y :: q0).length 0 (some 1) = 1 := by
    simp [HT.sIx]
    try omega
  have e2 : HT.sIx (y :: q0).length (y :: q0).length none = q0.length + 1 := rfl
  unfold cutD
  rw [e1, e2]
  simp
def joinD (r : Int) (p0 : List D) (m : Int) (q0 s0 t0 : List D) : D := walkD r (p0 ++ [.int m] ++ q0) (s0 ++ t0)
def S_joined_up : PF := fun ds T post _ => ∃ (r z e y : Int) (p0 q0 s0 t0 : List D), ds = [walkD r (p0 ++ [.int z]) s0, walkD e (.int y :: q0) t0] ∧ p0.length + 1 + q0.length ≤ 100000 ∧ s0.length + t0.length ≤ 100000 ∧ post (.fz (joinD r p0 (z + y) q0 s0 t0)) T
def G_joined_up : DG := (gSeq (gUnp (tgTup 3 (tgCons (tgN 2) (tgCons (tgN 3) (tgCons (tgN 4) tgNil)))) (dVar 0))
    (gSeq (gUnp (tgTup 3 (tgCons (tgN 5) (tgCons (tgN 6) (tgCons (tgN 7) tgNil)))) (dVar 1))
    (gRet (dTup (aCons (dVar 2) (aCons (dOp dAdd (dOp dAdd (dSl (dVar 3) oNo (oAt (dNeg (dC (.int 1))))) (dTup (aCons (dOp dAdd (dIxV 3 (dNeg (dC (.int 1)))) (dIxV 6 (dC (.int 0)))) aNil))) (dSl (dVar 6) (oAt (dC (.int 1))) oNo)) (aCons (dOp dAdd (dVar 4) (dVar 7)) aNil)))))))
theorem m_joined_up : ∀ (ds : List D) T post ex, ds.length = 2 → S_joined_up ds T post ex → G_joined_up (endsOf post ex) (startD 8 ds T) := by
  rintro ds T post ex _ ⟨r, z, e, y, p0, q0, s0, t0, rfl, h1, h2, hp⟩
  have h3 : 3 ≤ 100000 := by decide
  have a2 : atI (.int y :: q0) 0 = some (.int y) := atI_nat (i := 0) rfl
  have ha : p0.length + [D.int (z + y)].length ≤ 100000 := by
    show p0.length + 1 ≤ 100000
    omega
  have hb : (p0 ++ [D.int (z + y)]).length + q0.length ≤ 100000 := by
    rw [List.length_append]
    exact h1
  rw [← cut_tail (.int y) q0] at hb hp
  refine ⟨rfl, rfl, trivial, .int z, atI_last p0, trivial, .int y, a2, by show 1 ≤ 100000; decide, ?_⟩
  rw [cut_init]
  exact ⟨ha, hb, h2, h3, hp⟩
def S__law_joined : PF := S_joined_up
def G__law_joined : DG := (gSeq (gSet 2 (dOp dAdd (dOp dIx (dIxV 0 (dC (.int 1))) (dNeg (dC (.int 1)))) (dOp dIx (dIxV 1 (dC (.int 1))) (dC (.int 0)))))
    (gRet (dTup (aCons (dIxV 0 (dC (.int 0))) (aCons (dOp dAdd (dOp dAdd (dSl (dIxV 0 (dC (.int 1))) oNo (oAt (dNeg (dC (.int 1))))) (dTup (aCons (dVar 2) aNil))) (dSl (dIxV 1 (dC (.int 1))) (oAt (dC (.int 1))) oNo)) (aCons (dOp dAdd (dIxV 0 (dC (.int 2))) (dIxV 1 (dC (.int 2)))) aNil))))))
theorem m__law_joined : ∀ (ds : List D) T post ex, ds.length = 2 → S__law_joined ds T post ex → G__law_joined (endsOf post ex) (startD 3 ds T) := by
  rintro ds T post ex _ ⟨r, z, e, y, p0, q0, s0, t0, rfl, h1, h2, hp⟩
  have h3 : 3 ≤ 100000 := by decide
  have a2 : atI (.int y :: q0) 0 = some (.int y) := atI_nat (i := 0) rfl
  have ha : p0.length + [D.int (z + y)].length ≤ 100000 := by
    show p0.length + 1 ≤ 100000
    omega
  have hb : (p0 ++ [D.int (z + y)]).length + q0.length ≤ 100000 := by
    rw [List.length_append]
    exact h1
  rw [← cut_tail (.int y) q0] at hb hp
  refine ⟨trivial, .tup (p0 ++ [.int z]), rfl, .int z, atI_last p0, trivial, .tup (.int y :: q0), rfl, .int y, a2, trivial, .int r, rfl, trivial, .tup (p0 ++ [.int z]), rfl, by show 1 ≤ 100000; decide, ?_⟩
  rw [cut_init]
  exact ⟨ha, trivial, .tup (.int y :: q0), rfl, hb, trivial, .tup s0, rfl, trivial, .tup t0, rfl, h2, h3, hp⟩
def S_joined : PF := fun ds T post _ => ∃ (n : Nat) (xs : List D) (r z e y f : Int) (p0 q0 s0 t0 : List D), ds = [houseD n xs, walkD r (p0 ++ [.int z]) s0, walkD e (.int y :: q0) t0] ∧ (∀ d ∈ xs, DoorIs n d) ∧ xs.length ≤ 1000 ∧ WalkOf n xs r (p0 ++ [.int z]) s0 e ∧ WalkOf n xs e (.int y :: q0) t0 f ∧ 0 ≤ r ∧ r < n ∧ 0 ≤ e ∧ e < n ∧ post (.fz (joinD r p0 (z + y) q0 s0 t0)) T
def G_joined : DG := (gSeq (gDrop (dCallX S_need_walk 2 (aCons (dVar 0) (aCons (dVar 1) aNil))))
    (gSeq (gDrop (dCallX S_need_walk 2 (aCons (dVar 0) (aCons (dVar 2) aNil))))
    (gSeq (gIf (dTest (dOp dNe (dCall S_last_room 2 (aCons (dVar 0) (aCons (dVar 1) aNil))) (dIxV 2 (dC (.int 0))))) (gRaise "Elsewhere") gNil)
    (gRet (dCall S_joined_up 2 (aCons (dVar 1) (aCons (dVar 2) aNil)))))))
theorem m_joined : ∀ (ds : List D) T post ex, ds.length = 3 → S_joined ds T post ex → G_joined (endsOf post ex) (startD 3 ds T) := by
  rintro ds T post ex _ ⟨n, xs, r, z, e, y, f, p0, q0, s0, t0, rfl, hd, hx, h1, h2, r0, r1, e0, e1, hp⟩
  have l1 := h1.ln
  have l2 := h2.ln
  have m1 := h1.mx
  have m2 := h2.mx
  rw [List.length_append, List.length_singleton] at l1
  rw [List.length_cons] at l2
  have ee : PyData.eqv (py (Sl.fz (D.int e)).d) (py (.int e)) = true := by
    show PyData.eqv (py (D.int e)) (py (.int e)) = true
    rw [eqv_int]
    simp
  refine ⟨rfl, need_of hd hx h1 r0 r1 ⟨rfl, need_of hd hx h2 e0 e1 ⟨rfl, n, xs, p0 ++ [.int z], s0, r, e, rfl, hd, h1.st, h1.go, trivial, .int e, rfl, rfl, rfl, ?_⟩⟩⟩
  rw [ee]
  exact ⟨rfl, r, z, e, y, p0, q0, s0, t0, rfl, by omega, by omega, hp⟩
end Law

set_option Elab.async false
set_option linter.all false
set_option maxRecDepth 100000
set_option maxHeartbeats 4000000
namespace Law
open PySem L2 DL
variable [Tb]
/-! ### three walks, one after another -/
theorem Stroll.walk {n : Nat} {xs ps ss : List D} {r e : Int} (h : Stroll n xs r ps ss e) (hl : ps.length = ss.length + 1) (hm : ss.length ≤ 9000) : WalkOf n xs r ps ss e :=
  ⟨fun d hd => by
    obtain ⟨z, rfl, _⟩ := h.pu d hd
    exact ⟨z, rfl⟩, h.st, h.go, hl, hm⟩
def S__law_three : PF := fun ds T post _ => ∃ (n : Nat) (xs : List D), ds = [.st, .int n, .tup xs] ∧ 0 < n ∧ n ≤ 1000 ∧ (∀ d ∈ xs, DoorIs n d) ∧ xs.length ≤ 1000 ∧ T + 20000 ≤ TM ∧
  ∀ (r a b c : Int) p1 s1 p2 s2 p3 s3 T', 0 ≤ r → r < n → Stroll n xs r p1 s1 a → p1.length = s1.length + 1 → s1.length ≤ 6 → Stroll n xs a p2 s2 b → p2.length = s2.length + 1 → s2.length ≤ 6 → Stroll n xs b p3 s3 c → p3.length = s3.length + 1 → s3.length ≤ 6 → T ≤ T' → T' ≤ T + 200 →
    post (.fz (.tup [walkD r p1 s1, walkD a p2 s2, walkD b p3 s3])) T'
def G__law_three : DG := (gSeq (gSet 3 (dCall S__law_strolled 4 (aCons (dVar 0) (aCons (dVar 2) (aCons (dCall S__law_draw 2 (aCons (dVar 0) (aCons (dVar 1) aNil))) (aCons (dC (.int 6)) aNil))))))
    (gSeq (gSet 4 (dCall S__law_strolled 4 (aCons (dVar 0) (aCons (dVar 2) (aCons (dCall S__law_end 2 (aCons (dVar 2) (aCons (dVar 3) aNil))) (aCons (dC (.int 6)) aNil))))))
    (gRet (dTup (aCons (dVar 3) (aCons (dVar 4) (aCons (dCall S__law_strolled 4 (aCons (dVar 0) (aCons (dVar 2) (aCons (dCall S__law_end 2 (aCons (dVar 2) (aCons (dVar 4) aNil))) (aCons (dC (.int 6)) aNil))))) aNil)))))))
theorem m__law_three : ∀ (ds : List D) T post ex, ds.length = 3 → S__law_three ds T post ex → G__law_three (endsOf post ex) (startD 5 ds T) := by
  rintro ds T post ex _ ⟨n, xs, rfl, hn, hm, hd, hx, hT, hp⟩
  refine ⟨rfl, n, rfl, by omega, by omega, (show T < TM from by omega), fun r r0 r1 => ?_⟩
  obtain ⟨k, rfl⟩ : ∃ k : Nat, r = k := ⟨r.toNat, by omega⟩
  refine ⟨rfl, n, 6, xs, k, rfl, hd, by omega, hx, by decide, (show T + 1 + 10000 ≤ TM from by omega), fun p1 s1 a T1 w1 l1 m1 t1 u1 => ?_⟩
  have x1 : T + 1 ≤ T1 := t1
  have y1 : T1 ≤ T + 1 + 2 + 10 * 6 := u1
  obtain ⟨ka, rfl, la⟩ := w1.en
  refine ⟨rfl, n, xs, p1, s1, k, ka, rfl, hd, w1.st, w1.go, ?_⟩
  refine ⟨rfl, n, 6, xs, ka, rfl, hd, la, hx, by decide, (show T1 + 10000 ≤ TM from by omega), fun p2 s2 b T2 w2 l2 m2 t2 u2 => ?_⟩
  have x2 : T1 ≤ T2 := t2
  have y2 : T2 ≤ T1 + 2 + 10 * 6 := u2
  obtain ⟨kb, rfl, lb⟩ := w2.en
  refine ⟨rfl, n, xs, p2, s2, ka, kb, rfl, hd, w2.st, w2.go, ?_⟩
  refine ⟨rfl, n, 6, xs, kb, rfl, hd, lb, hx, by decide, (show T2 + 10000 ≤ TM from by omega), fun p3 s3 c T3 w3 l3 m3 t3 u3 => ⟨by show 3 ≤ 100000; decide, ?_⟩⟩
  have x3 : T2 ≤ T3 := t3
  have y3 : T3 ≤ T2 + 2 + 10 * 6 := u3
  exact hp k ka kb c p1 s1 p2 s2 p3 s3 T3 (by omega) (by omega) w1 l1 m1 w2 l2 m2 w3 l3 m3 (by omega) (by omega)
end Law

set_option Elab.async false
set_option linter.all false
set_option maxRecDepth 100000
set_option maxHeartbeats 4000000
namespace DL
open PySem L2
variable [Tb]
/-! ### any, is not True, isinstance of two types -/
section
variable {X : Cx} {W : WX} {a : Expr} {Fa : DF} {pos p : Pos}
def cAny : List D → (D → Prop) → Prop
  | [.lst ds], P => ∃ bs, blsOf ds = some bs ∧ P (.bl (bs.any id))
  | _, _ => False
theorem c_any (h0 : CallR X (.builtin "any") (rAny X.K)) : CallD X (.builtin "any") cAny := by
  refine ⟨_, h0, fun q L H0 B0 σ H s B xs vs P Q t rx h r => ?_⟩
  unfold cAny at h
  split at h
  · obtain ⟨bs, e, h⟩ := h
    obtain ⟨v, rfl, h1⟩ := repL_1 rx
    obtain ⟨a, xs, rfl, ha, hx⟩ := rep_lst h1
    exact ⟨a, bs, rfl, SqL.of (by rw [← repL_bls e hx]; exact t.bs.leH _ _ ha), R1.val r t bl_rep h⟩
  · exact h.elim
def dNotB : D → D → (D → Prop) → Prop
  | .bl a, .bl b, P => P (.bl (!decide (a = b)))
  | _, _, _ => False
theorem o_notB : OpD X (compareOp .IsNot) dNotB := by
  refine ⟨_, op_notBl, fun q L H0 B0 σ H s B x y v u P Q t rx ry h r => ?_⟩
  unfold dNotB at h
  split at h
  · rw [rep_bl rx, rep_bl ry]
    exact ⟨_, _, rfl, rfl, R1.val r t bl_rep h⟩
  · exact h.elim
def kitB2 (t n m : String) : Option Bool := match kitB t n with
  | some true => some true
  | some false => kitB t m
  | none => none
theorem kit_two {K : PySem.W.Frag} {t n m : String} {r : Bool} (h : kitB2 t n m = some r) : PySem.W.kitAny K (.type t) [.type n, .type m] = some r := by
  unfold kitB2 at h
  split at h
  · rename_i e
    cases h
    unfold PySem.W.kitAny
    rw [kit_ty e]
  · rename_i e
    unfold PySem.W.kitAny
    rw [kit_ty e]
    dsimp only
    unfold PySem.W.kitAny
    rw [kit_ty h]
    cases r <;> rfl
  · cases h
def dIsTy2 (n m : String) (F : DF) : DF := fun s P ex => F s (fun d s1 => ∃ t r, tyName d = some t ∧ kitB2 t n m = some r ∧ P (.bl r) s1) ex
theorem d_isTy2 {n m : String} {x y : Str} {p2 p3 tp : Pos} {x1} (hm : X.mg "isinstance" = none) (hmx : X.mg x = none) (hmy : X.mg y = none) (hv : bootBuiltins x = some (.type n)) (hw : bootBuiltins y = some (.type m)) (ha : DPE X W a Fa) (hg : Gl X "isinstance" := by rfl) (hgx : Gl X x := by rfl) (hgy : Gl X y := by rfl) (hn : x ≠ "__name__" := by decide) (hny : y ≠ "__name__" := by decide)
    (hdb : (x == ("__debug__" : Str)) = false := by decide) (hdy : (y == ("__debug__" : Str)) = false := by decide)
    (he : starEach [a, .Tuple [.Name x p2, .Name y p3] x1 tp] X.env = (false, eval a X.env) :: starEach [.Tuple [.Name x p2, .Name y p3] x1 tp] X.env := by rfl)
    (he2 : starEach [.Tuple [.Name x p2, .Name y p3] x1 tp] X.env = (false, eval (.Tuple [.Name x p2, .Name y p3] x1 tp) X.env) :: starEach [] X.env := by rfl)
    (he3 : starEach [.Name x p2, .Name y p3] X.env = (false, eval (.Name x p2) X.env) :: starEach [.Name y p3] X.env := by rfl) (he4 : starEach [.Name y p3] X.env = (false, eval (.Name y p3) X.env) :: starEach [] X.env := by rfl)
    (hpl : (backTo pos (starEach [.Tuple [.Name x p2, .Name y p3] x1 tp] X.env)).any (·.1) = false := by rfl) :
    DPE X W (.Call (.Name "isinstance" p) [a, .Tuple [.Name x p2, .Name y p3] x1 tp] [] pos) (dIsTy2 n m Fa) := by
  refine ⟨pe_mono (fun σ H Q ⟨q, L, H0, B0, s, B, P, ex, t, f, rt, e⟩ => ?_) (pe_callB call_isiT hg hm (by decide +kernel) (pa_cons ha.pe (pa_cons (pe_tup (pa_cons (pe_bltn (v := .ty n) hgx hmx hv rfl hn hdb) (pa_cons (pe_bltn (v := .ty m) hgy hmy hw rfl hny hdy) pa_nil he4) he3)) pa_nil he2) he) (by decide) (by decide) he hpl)⟩
  refine ⟨q, L, H0, B0, s, B, _, ex, t, f, fun v H1 x s1 B1 t1 l1 r1 ⟨ty, r, h1, h2, p1⟩ => ?_, e⟩
  refine ⟨(by decide : 2 ≤ sizeLine), fun tp hp => ?_⟩
  have hB := t1.bs.nB hp
  have t2 := t1.alloc (o := HO.tup [.ty n, .ty m]) hp (fun _ z => by cases z)
  exact ⟨v, tp, [.ty n, .ty m], .type ty, [.type n, .type m], r, rfl, upd_same, .cons (.ty n) (.cons (.ty m) .nil), tyX_of t2.bs.leH h1 (r1.mono (Le.upd hB)), kit_two h2, rt _ _ _ _ _ t2 (l1.trans (Le.upd hB)) bl_rep p1⟩
end
/-! ### a dict of one pair, its key a tuple -/
def tDispT1 (tk tv : TE) : TE := fun σ H Q => ∀ p, H p = none → tPairs [(tk, tv)] σ (upd H p (.dT [])) fun ps H2 => H2 p = some (.dT []) ∧ ∃ (b : Addr) (ks : List Key) (y : V), ps = [(.ref b, y)] ∧ H2 b = some (.tup (ks.map kV)) ∧ Q (.ref p) (upd H2 p (.dT [(ks, y)]))
theorem pe_dispT1 {X : Cx} {ke ve : Expr} {pos : Pos} {tk tv : TE} (hk : PE X ke tk) (hv : PE X ve tv) (hu : X.A.units < cLine) : PE X (.Dict [some ke] [ve] pos) (tDispT1 tk tv) := by
  refine ⟨fun pins s σ H Q I q => ?_⟩
  have hn := I.hok.fresh (Nat.le_refl s.heap.objs.size)
  have I1 := I.laid (a := s.heap.objs.size) (o := .dT []) (h' := s.heap.push { cls := .type "dict", data := .dict #[] }) (t' := s.toks) (fun _ _ q => Heap.get?_push_of_some _ q) (Nat.le_refl _) (dt_empty s.heap I.big)
  have h := pps_cons (pos := pos) hk hv pps_nil
  rw [arm_eval_Dict, zip_pairTrees [some ke] [ve] X.env pos rfl rfl, dictDisplay_pairs (pairTrees [some ke] [ve] X.env pos) (fun z => by cases z) (by show 1 < 17; decide)]
  refine wpAny_bind (wpAny_standAt (wpAny_bind (wpAny_subDictH (knd := tupleKind (mixKind X.prog X.w)) hu (by show 1 ≤ 15; decide) ?_)))
  refine thn (h.run pins _ σ _ _ I1 (q _ hn)) fun ws s2 ⟨ps, H2, I2, rel, e, b, ks, y, ep, eb, q2⟩ => ?_
  subst ep
  obtain ⟨z, hd, xs, r0, dd⟩ := dt_of I2.hok e
  cases r0
  cases rel with
  | @cons pa pw l1 l2 hh tt =>
    cases tt
    obtain ⟨w1, w2⟩ := pw
    obtain ⟨h1, h2⟩ := hh
    cases (show w1 = Value.ref b from h1)
    refine ⟨[(ks, b, w2)], ⟨rfl, rfl, key_of I2.hok eb, trivial⟩, dd, fun h' tk dd' hs => wpAny_pure ⟨.ref s.heap.objs.size, _, ?_, rfl, q2⟩⟩
    obtain ⟨o, es, ep, hq, g2, g3, g4, g5, g6⟩ := dd'
    refine d_write I2 (by rw [e]; exact True.intro) hs ⟨o, hq⟩ ⟨(by rw [sizeLine_eq]; simp), hd, [(ks, b, w2)], .cons ⟨rfl, ?_, h2⟩ .nil, o, es, ep, hq, g2, g3, g4, g6⟩
    rw [upd_ne (ne_of eb e (fun z => nomatch z))]
    exact eb
section
variable {X : Cx} {W : WX} {es : List Expr} {ve : Expr} {G : DFA} {F : DF} {pos kp : Pos}
theorem repL_int {c : Ct} {B : Hp} : ∀ {is : List Int} {xs : List V}, RepL c B (is.map D.int) xs → xs = (is.map Sum.inl : List Key).map kV
  | [], xs, h => by unfold List.map at h; unfold RepL at h; rw [h]; rfl
  | i :: is, xs, h => by
    rw [List.map_cons] at h
    unfold RepL at h
    obtain ⟨x, xr, rfl, h1, h2⟩ := h
    rw [rep_int h1, repL_int h2]
    rfl
def dDictT (G : DFA) (F : DF) : DF := fun s P ex => G s (fun ds s1 => ∃ is : List Int, ds = is.map D.int ∧ is.length ≤ 100 ∧ F s1 (fun _ s2 => P .dtp s2) ex) ex
theorem d_dictT {x1} (hu : X.A.units + 64 < cLine) (hk : DPA X W es G) (hv : DPE X W ve F) : DPE X W (.Dict [some (.Tuple es x1 kp)] [ve] pos) (dDictT G F) := by
  refine ⟨pe_mono (fun σ H Q ⟨q, L, H0, B0, s, B, P, ex, t, f, rt, x⟩ => ?_) (pe_dispT1 (pe_tup hk.pa) hv.pe (by omega))⟩
  intro p hp
  have ht := t.holdNew (o := .dT []) hp (fun ps z => by cases z)
  have exs : ∀ {B1 : Hp}, Le B B1 → Exs (cx X q) ((p, .dT []) :: L) H0 B0 σ B1 ex W := fun {B1} l n fs s' H' B' cls dd t' l' xr z => x n fs s' H' B' cls dd ⟨t'.bs, t'.len, t'.fz, t'.ow, t'.inj, fun y hy => t'.hold y (List.mem_cons_of_mem _ hy)⟩ (l.trans l') xr z
  refine ⟨q, _, H0, B0, s, B, _, ex, ht, f, fun vs H1 ds s1 B1 t1 l1 r1 p1 => ?_, exs (Le.refl B)⟩
  obtain ⟨is, rfl, hl, p1⟩ := p1
  have hvs := repL_int r1
  have hlen : vs.length ≤ 100 := by rw [repL_len r1, List.length_map]; exact hl
  refine ⟨sz (by omega), fun b hb => ?_⟩
  have hB := t1.bs.nB hb
  have t2 := t1.alloc (o := HO.tup vs) hb (fun _ z => by cases z)
  refine ⟨q, _, H0, B0, s1, _, _, ex, t2, p1, fun v H2 d s2 B2 t3 l3 r3 p3 => ?_, exs (l1.trans (Le.upd hB))⟩
  obtain ⟨h1, _⟩ := t3.hold (p, .dT []) List.mem_cons_self
  obtain ⟨g1, g2, g3⟩ := t3.let (fun z e => by unfold LamX.CodeO at e; cases e) (fun y hy z => by
    obtain ⟨w1, _⟩ := t.hold y hy
    rw [z, hp] at w1
    cases w1)
  refine ⟨h1, b, is.map Sum.inl, v, rfl, ?_, ?_⟩
  · rw [← hvs]
    exact t3.bs.leH b _ (l3 b _ upd_same)
  · rw [show upd H2 p (.dT [(is.map Sum.inl, v)]) = upd (Hp.less H2 p) p (.dT [(is.map Sum.inl, v)]) from by rw [g2, upd_upd, ← g2]]
    refine rt (.ref p) _ .dtp s2 _ (g3.alloc g1 (fun _ z => by cases z)) (l1.trans ((Le.upd hB).trans (l3.trans (Le.upd (g3.bs.nB g1))))) ?_ p3
    unfold Rep
    exact ⟨p, _, rfl, upd_same⟩
end
end DL

set_option Elab.async false
set_option linter.all false
set_option maxRecDepth 100000
set_option maxHeartbeats 4000000
namespace DL
open PySem L2
/-! ### defs called by keywords, from the head's facts -/
section
variable {P : Program} {w : World} {K : PySem.W.Frag} {mg : Str → Option Value} {base : Heap} {x : Str} {st : Stmt} {ps ks : List Str} {π : List Nat}
theorem knK_of [Tb] {CX : CXT} {k : Nat} {S : PF} (D : DefAt K mg x st ps)
    (hb : ∀ (kV doc pm : Value) (an : Option Addr) (cdv ct : Value) (ws : List Value), ws.length = ks.length → bindArgs (PySem.W.fnOf x x (defArgs st) (defBody st) (defScope st) .none kV doc pm an cdv ct) ⟨[], ks.zip ws⟩ = pure (ps.zip (pick π .none [] ws)))
    (ok : ∀ f fd, Fun K x x st f fd → FnOk P w K mg base CX k f fd ps (spD K mg ps.length S)) : KnK P w K mg base CX k x ps ks π S := by
  obtain ⟨f, fd, F, m, kp, b⟩ := D.ex
  refine ⟨f, fd, ok f fd F, m, kp, ⟨fun s us ws _ h1 h2 => ?_, fun r q => vals_pick π r q⟩⟩
  cases us with
  | cons a r => cases h1
  | nil =>
    obtain ⟨oc, od, kV, doc, pm, an, cdv, ct, osl, rfl, lk, hcd⟩ := F.ex
    exact .of_eq (hb kV doc pm an cdv ct ws h2)
theorem KnK.up [Tb] {CX : CXT} {k j : Nat} {S : PF} (h : KnK P w K mg base CX k x ps ks π S) (hk : k ≤ j) : KnK P w K mg base CX j x ps ks π S := by
  obtain ⟨f, fd, o, r⟩ := h.ex
  exact ⟨f, fd, o.mono hk, r⟩
end
theorem KnI.up [Tb] {P : Program} {w : World} {K : PySem.W.Frag} {mg : Str → Option Value} {base : Heap} {CX : CXT} {x : Str} {ps : List Str} {k j : Nat} {S : PF} (h : KnI P w K mg base CX k x ps S) (hk : k ≤ j) : KnI P w K mg base CX j x ps S := by
  obtain ⟨C, f, fd, m, o, r⟩ := h.ex
  exact ⟨C, f, fd, m, o.mono hk, r⟩
theorem divW {i n : Int} (h0 : 0 < n) (h1 : n < 1606938044258990275541962092341162602522202993782792835301376) : CDivW i n := by
  refine wide_div (b := 200) h0 ?_ (by decide) (by decide)
  have e : (2 : Nat) ^ 200 = 1606938044258990275541962092341162602522202993782792835301376 := by decide +kernel
  rw [e]
  omega
/-! ### the law, where it makes lambdas itself -/
section
variable [Tb] {P : Program} {w : World} {K : PySem.W.Frag} {mg : Str → Option Value} {base : Heap}
theorem law_okL {st : Stmt} {f fB c : Addr} {fd fdB : FuncData} {N : List Str} {k : Nat} {G : DG} {rest : List Stmt} {p1 p2 p3 p4 p5 : Pos} (F : FunL K "law" "law" st f fd c) (Sc : FnScope N ["script"] (defScope st)) (hbd : defBody st = .Assign [.Name "state" p1] (.Call (.Name "_law_begun" p2) [.Name "script" p3] [] p4) p5 :: rest) (hN : N = ("script" : Str) :: ("state" : Str) :: N.drop 2)
    (hl0 : Vis (defScope st) "script") (hl1 : (defScope st).names.lookup ("state" : Str) = some .local) (hgl : (defScope st).names.lookup ("_law_begun" : Str) = some .globalImplicit)
    (GB : FnOk P w K mg base CX0 k fB fdB ["script"] (spBegun K)) (mB : mg "_law_begun" = some (.ref fB)) (kB : PySem.W.keepIn K (.ref fB) = true) (bB : Binds K fdB ["script"] [])
    (hrest : ∀ (A : Around) (outer : List Env) (s : Shared) (H : Hp) (E : XK), Room k (A.deeper (PyProof.Rows.envOfC "law" (defScope st) s.heap.objs.size f (.ref c))) → DPSs (cxOf CX0 P w K mg base N "law" (defScope st) f (.ref c) A outer s H E).nox W0 rest G)
    (hG : ∀ ns : List Int, ns.length ≤ 63 → G (endsOf (fun x _ => x = .fz (.bl true)) (fun _ _ _ => False)) ⟨some (.fz (.scr ns)) :: some (.fz .st) :: List.replicate (N.length - 2) none, 0⟩) : FnOk P w K mg base CX0 (k + 1) f fd ["script"] (spLaw K) := by
  obtain ⟨oc, od, kV, doc, pm, an, ct, osl, rfl, lk, hcd⟩ := F.ex
  refine fn_of lk hcd Sc (fun vs H Q E h => ?_) (fun A outer s H vs Q E hr h => ?_)
  · obtain ⟨a, ns, rfl, _⟩ := h
    rfl
  · obtain ⟨a, ns, rfl, hS, hl, hT, hQ⟩ := h
    rw [hbd]
    have nd := Sc.nd
    generalize hM : N.drop 2 = N' at hN
    clear hM
    subst hN
    have h0 : (("script" : Str) :: ("state" : Str) :: N')[0]? = some ("script" : Str) := rfl
    have h1 : (("script" : Str) :: ("state" : Str) :: N')[1]? = some ("state" : Str) := rfl
    have hr3 := (hrest A outer s H E hr).ps
    have hf : PSs (cxOf CX0 P w K mg base (("script" : Str) :: ("state" : Str) :: N') "law" (defScope st) f (.ref c) A outer s H E).nox (.Assign [.Name "state" p1] (.Call (.Name "_law_begun" p2) [.Name "script" p3] [] p4) p5 :: rest) _ := pss_cons (ps_set (i := 1) nd h1 (Or.inl hl1) (pe_call GB hr hgl mB kB bB .nil pass0 (pa_cons (pe_var (i := 0) h0 hl0 (by decide) (by decide)) pa_nil))) hr3
    refine ⟨_, hf.nox, ?_⟩
    refine ⟨.ref a, rfl, a, ns, rfl, hS, hl, hT, fun p g l gs ls H' S np ng nl kp T' => ?_⟩
    obtain ⟨B, le, hB, nt, only⟩ := scr_part hS
    have bn : ∀ {b}, Fr H b → B b = none := fun {b} e => by
      cases q : B b with
      | none => rfl
      | some o =>
        obtain ⟨ps, z⟩ := e o (le b o q)
        exact absurd (by rw [q, z]) (nt b ps)
    have b := bs_st (K := K) (mg := mg) (T := 0) S (Int.le_refl 0) (fun b o e => kp b o (le b o e) fun ps z => nt b ps (by rw [e, z])) (bn np) (bn ng) (bn nl) nt T'
    refine ⟨⟨some (p, g, l)⟩, [], H', B, ⟨some (.fz (.scr ns)) :: some (.fz .st) :: List.replicate N'.length none, 0⟩, B, endsOf (fun x _ => x = .fz (.bl true)) (fun _ _ _ => False), ⟨b, ?_, fun i d e => ?_, fun i d e => ?_, fun i j d e q h => ?_, fun x hx => absurd hx (by simp)⟩, hG ns hl, ⟨fun _ _ _ _ _ _ z => (by cases z), fun _ _ _ _ _ _ z => z.elim, fun _ _ _ _ _ _ z => z.elim, fun σ v H s B d t l r n => ?_, fun σ p o H s B d t l hp ro n => (by cases n), fun _ _ _ _ _ _ _ _ _ _ _ z => z.elim⟩⟩
    · show _ ≤ ((L2.start (("script" : Str) :: ("state" : Str) :: N') [.ref a]).set 1 (some (.ref p))).length
      rw [List.length_set]
      simp [L2.start]
    · match i, e with
      | 0, e => cases e; exact ⟨.ref a, rfl, by unfold Rep; exact ⟨a, rfl, hB⟩⟩
      | 1, e => cases e; exact ⟨.ref p, rfl, by unfold Rep; exact ⟨p, g, l, rfl, rfl⟩⟩
      | i + 2, e =>
        have e : (List.replicate N'.length (none : Option Sl))[i]? = some (some (.fz d)) := e
        rw [List.getElem?_replicate] at e
        split at e <;> cases e
    · match i, e with
      | 0, e => cases e
      | 1, e => cases e
      | i + 2, e =>
        have e : (List.replicate N'.length (none : Option Sl))[i]? = some (some (.ow d)) := e
        rw [List.getElem?_replicate] at e
        split at e <;> cases e
    · match i, h with
      | 0, e => cases e
      | 1, e => cases e
      | i + 2, e =>
        have e : (List.replicate N'.length (none : Option Sl))[i]? = some (some (.ow d)) := e
        rw [List.getElem?_replicate] at e
        split at e <;> cases e
    · cases n
      rw [rep_bl r]
      exact hQ _
end
end DL

set_option Elab.async false
set_option linter.all false
set_option maxRecDepth 100000
set_option maxHeartbeats 4000000
namespace DL
open PySem
open AutoSeq1 (wpAny_loadPart')
/-! ### enumerate, of a tuple -/
abbrev tupIt (l : Addr) : Obj := { cls := .type "tuple_iterator", data := .fields #[.ref l, .int 0 0] }
abbrev enumOf (it : Addr) : Obj := { cls := .type "enumerate", data := .fields #[.none, .bool false, .ref it, rawInt 0, .none, .none] }
theorem enum_newT (l : Addr) (its : Array Value) (n : Nat) (dct : Option Addr) (sl : Array (Option Value)) :
    Meets (Builtin.«enumerate.__new__» ⟨[.type "enumerate", .ref l], []⟩) (fun _ R s => s.heap.get? l = some { cls := .type "tuple", dict := dct, data := .seq its n, slots := sl } ∧ R (.ok (.ret (.ref (s.heap.push (tupIt l)).objs.size))) { s with heap := (s.heap.push (tupIt l)).push (enumOf s.heap.objs.size) }) :=
  .of_wp fun pg w A R s h => by
    obtain ⟨hp, g, d, tk, os⟩ := s; obtain ⟨hl, h⟩ := h
    have hsub := sub_enumerate; have hT : Heap.IsTuple (Shared.heap ⟨hp, g, d, tk, os⟩) l its := ⟨_, hl, rfl, n, rfl⟩
    wp_walk using wpAny_loadPart' hl
    refine wpAny_stack_any fun st => wpAny_pure ?_
    split
    · rename_i c _ _ _ _ _
      cases (c == Value.type "enumerate") <;> (wp_walk using wpAny_loadPart' hl, wpAny_pyIter_tuple hT) <;> exact ⟨_, rfl, h⟩
    · wp_walk using wpAny_loadPart' hl, wpAny_pyIter_tuple hT
      exact ⟨_, rfl, h⟩
theorem call_enumT {prog : Program} {w : World} {A : Around} {E Q : Value → Shared → Prop} {s : Shared} {l : Addr} {its : Array Value} (hT : s.heap.IsTuple l its)
    (h : ∀ h', IsEnum h' (s.heap.objs.size + 1) s.heap.objs.size 0 .none → h'.IsTupleIter s.heap.objs.size l 0 → h'.objs.size = s.heap.objs.size + 2 → (∀ b o, s.heap.get? b = some o → h'.get? b = some o) → Q (.ref (s.heap.objs.size + 1)) { s with heap := h' }) : wpAny (model prog w) A (call (.type "enumerate") [.ref l]) Q E s := by
  obtain ⟨⟨c, dct, dt, sl⟩, hl, hc, n, hd⟩ := hT
  simp only at hc hd
  subst hc hd
  refine callType_new F.called_enumerate (by decide) (F.typeCall_enumerate_1 _) (F.newCall_enumerate_1 _) (fun ob => F.args_object_init_2 ob _) F.entry_enumerate_new (enum_newT l its n dct sl) ⟨hl, ?_⟩
  have hz : (s.heap.push (tupIt l)).objs.size = s.heap.objs.size + 1 := Heap.size_push ..
  show _ ∧ _
  rw [hz]
  have he : IsEnum ((s.heap.push (tupIt l)).push (enumOf s.heap.objs.size)) (s.heap.objs.size + 1) s.heap.objs.size 0 .none := by
    have q := Heap.get?_push_size (s.heap.push (tupIt l)) (o := enumOf s.heap.objs.size) rfl
    rw [hz] at q
    exact q
  refine ⟨⟨_, he, rfl⟩, h _ he ⟨_, Heap.get?_push_of_some _ (Heap.get?_push_size _ rfl), rfl, rfl⟩ (by rw [Heap.size_push, hz]) fun b o x => Heap.get?_push_of_some _ (Heap.get?_push_of_some _ x)⟩
end DL

set_option Elab.async false
set_option linter.all false
set_option maxRecDepth 100000
set_option maxHeartbeats 4000000
namespace DL
open PySem L2 PySem.Spec PyProof.Rows
/-- the tuple at a as it stands at each turn, each item in a new pair -/
def IteT (K : PySem.W.Frag) (a : Addr) : It :=
  ⟨fun i H => ∃ (xs : List V) (x : V), SqT K H a xs ∧ xs[i]? = some x, fun i H v H' => ∃ (T : Addr) (x : V), v = .ref T ∧ H T = none ∧ H' = upd H T (.tup [.int (i : Nat), x]) ∧ (∀ xs, SqT K H a xs → xs[i]? = some x), fun i H => ∃ xs : List V, SqT K H a xs ∧ xs.length = i⟩
theorem turn_enT {P : Program} {w : World} {K : PySem.W.Frag} {elts : List Expr} {kk : Nat} {tpos : Pos} (a e it : Addr) (hne : a ≠ it) (hae : a ≠ e) :
    Turn P w K (.Tuple elts kk tpos) (IteT K a) [e, it] e (fun i h => ((∃ old, IsEnum h e it ((i : Nat) : Int) old) ∧ h.IsTupleIter it a i) ∧ e ≠ it) where
  mem := by simp
  obj := fun i h st b hb => by
    obtain ⟨⟨⟨old, he⟩, ⟨o, ho, hc, hd⟩⟩, _⟩ := st
    have e' : b = e ∨ b = it := by simpa using hb
    rcases e' with z | z <;> rw [z]
    · exact ⟨_, he, fun v q => nomatch q⟩
    · exact ⟨o, ho, fun v q => by rw [hd] at q; cases q⟩
  keep := fun i h h' st k => let ⟨⟨⟨old, he⟩, hi⟩, hn⟩ := st; ⟨⟨⟨old, k e (by simp) _ he⟩, hi.at fun o q => k it (by simp) o q⟩, hn⟩
  item := by
    intro X hP hw hK hc i pins s σ H E I hf st hg
    subst hP hw hK
    obtain ⟨⟨⟨old, he⟩, hit⟩, hn⟩ := st
    obtain ⟨xs, x, hq, hx⟩ := hg
    obtain ⟨its, rv, p, hz⟩ := I.tuple hq
    obtain ⟨u, hu, ru⟩ := rv.get hx
    have hel : e < s.heap.objs.size := Heap.lt_size he
    have hil : it < s.heap.objs.size := by obtain ⟨_, q, _⟩ := hit; exact Heap.lt_size q
    have hli : i < its.toArray.size := by
      have := List.getElem?_eq_some_iff.mp hu
      simpa using this.1
    have D := Draws.tuple (prog := X.prog) (w := X.w) (A := X.A.in1) (I.ok.hd hc) it a hne its.toArray
    refine wpAny_pyNext_enum_itemD (i := i) D he ⟨hit, p⟩ hli hn (by simp [hn, Ne.symm hae]) fun y h' tk hP ho hs' hT hsz hk => ?_
    have ey : y = u := by
      have h2 : its.toArray[i]? = some u := by simpa using hu
      rw [h2] at hP
      exact (Option.some.inj hP).symm
    subst ey
    refine ⟨_, rfl, wpAny_letOwnedTupleGo_enum (s := { s with heap := h', toks := tk + 1 }) ho fun h'' he' sb => ?_⟩
    have hT2 : h''.get? s.heap.objs.size = some { cls := .type "tuple", data := .seq #[.int i tk, y] } := (sb.2 _ (Nat.ne_of_gt hel)).trans hT
    have new : ObjOk X.prog X.w (upd H s.heap.objs.size (.tup [.int (i : Nat), x])) h'' s.heap.objs.size (.tup [.int (i : Nat), x]) := ⟨by show 2 ≤ sizeLine; decide, [.int i tk, y], .cons ⟨_, rfl⟩ (.cons ru .nil), ⟨_, hT2, rfl, _, rfl⟩⟩
    have I1 : Inv X pins σ (upd H s.heap.objs.size (.tup [.int (i : Nat), x])) { s with heap := h'', toks := tk + 1 } := I.turnedNew (ch := [e, it]) (fun b ob hb q => (sb.2 b (fun z => hb (by simp [z]))).trans (hk b ob (fun z => hb (by simp [z])) (fun z => hb (by simp [z])) q)) hf (Nat.le_refl _) new
    refine ⟨.ref s.heap.objs.size, _, I1, rfl, ⟨_, x, rfl, I.hok.fresh (Nat.le_refl _), rfl, fun ys hy => by rw [I.tuple_inj hy hq]; exact hx⟩, ⟨⟨⟨y, ?_⟩, hs'.1.at fun o q => (sb.2 it (Ne.symm hn)).trans q⟩, hn⟩, fun b hb => ?_⟩
    · rw [show ((i + 1 : Nat) : Int) = (i : Int) + 1 from by omega]; exact he'
    · have hb' : b < s.heap.objs.size := by
        have e' : b = e ∨ b = it := by simpa using hb
        rcases e' with z | z <;> rw [z]
        · exact hel
        · exact hil
      rw [upd_ne (Nat.ne_of_lt hb')]
      exact (hf b hb).1
  done := by
    intro X hP hw hK hc i pins s σ H E I hf st hg
    subst hP hw hK
    obtain ⟨⟨⟨old, he⟩, hit⟩, hn⟩ := st
    obtain ⟨xs, hq, hx⟩ := hg
    obtain ⟨its, rv, p, hz⟩ := I.tuple hq
    obtain ⟨f0, f1, f2, f3, f4, f5⟩ := hf it (by simp)
    have hl := rv.length
    have D := Draws.tuple (prog := X.prog) (w := X.w) (A := X.A.in1) (I.ok.hd hc) it a hne its.toArray
    have ei : i = its.toArray.size := by simp; omega
    subst ei
    exact wpAny_pyNext_enum_endD D he ⟨hit, p⟩ fun h' eb => ⟨rfl, I.turned (t' := s.toks) (fun b o hb q => eb b o hb q) f0 f1 f3 f4 f5⟩
  self := fun A i s Q E st h => let ⟨⟨⟨_, he⟩, _⟩, _⟩ := st; wpAny_pyIter_enum he h
theorem walk_enT {K : PySem.W.Frag} {a : Addr} {xs : List V} : Walk (IteT K a) xs.length (fun H => SqT K H a xs) (YPair (fun i => some (.int (i : Nat))) (fun i => xs[i]?)) := by
  refine ⟨fun i _ hi q => ⟨xs, xs[i], q, by simp [hi]⟩, fun _ q => ⟨xs, q, rfl⟩, fun i H v H' _ q y => ?_⟩
  obtain ⟨T, x, h1, h2, h3, h4⟩ := y
  exact ⟨T, .int (i : Nat), x, h1, h2, h3, rfl, h4 xs q⟩
def iEnT (K : PySem.W.Frag) (ta : TA) : TI := fun σ H R => ta σ H fun vs H1 => ∃ a xs, vs = [.ref a] ∧ SqT K H1 a xs ∧ R (IteT K a) H1
theorem pi_enT {X : Cx} {e : Expr} {ta : TA} {p pos tpos : Pos} {elts : List Expr} {kk : Nat} (hg : Gl X "enumerate") (hm : X.mg "enumerate" = none) (ha : PA X [e] ta) (hs : starEach [e] X.env = [(false, eval e X.env)] := by rfl) : PI X (.Tuple elts kk tpos) (.Call (.Name "enumerate" p) [e] [] pos) (iEnT X.K ta) := by
  refine ⟨fun pins s σ H R I h => Call_ (ld_blt I hg hm boot_enumerate (PyProof.Rows.callWith_type1 (thn (ha.run pos pins s σ H _ I h) fun us s1 ⟨vs, H1, I1, r1, q1⟩ => ?_) hs rfl))⟩
  obtain ⟨a, xs, ex, hq, q⟩ := q1
  subst ex
  cases r1 with
  | cons r rr =>
    cases rr
    cases r
    obtain ⟨its, rv, p', hz⟩ := I1.tuple hq
    have ha' : a < s1.heap.objs.size := by obtain ⟨_, q, _⟩ := p'; exact Heap.lt_size q
    refine call_enumT p' fun h' he hit hsz hk => wpAny_pyIter_enum he ?_
    have I2 : Inv X pins σ H1 { s1 with heap := h' } := I1.kept (t' := s1.toks) hk
    refine ⟨s1.heap.objs.size + 1, [s1.heap.objs.size + 1, s1.heap.objs.size], _, _, H1, rfl, I2, turn_enT a (s1.heap.objs.size + 1) s1.heap.objs.size (Nat.ne_of_lt ha') (Nat.ne_of_lt (Nat.lt_succ_of_lt ha')), ⟨⟨⟨.none, he⟩, hit⟩, Nat.succ_ne_self _⟩, fun b hb => ?_, q⟩
    have hle : s1.heap.objs.size ≤ b := by
      have e' : b = s1.heap.objs.size + 1 ∨ b = s1.heap.objs.size := by simpa using hb
      rcases e' with z | z <;> rw [z]
      · exact Nat.le_add_right _ _
      · exact Nat.le_refl _
    exact I1.fpOk hle (I1.hok.fresh hle)
section
variable [Tb] {X : Cx} {W : WX} {a : Expr} {Fa : DF} {pos p tpos : Pos} {elts : List Expr} {kk : Nat}
def iEnumT (Fa : DF) : DFA := fun s P ex => Fa s (fun d s1 => match d with
  | .tup xs => P (zipD (rangeD 0 xs.length) xs) s1
  | _ => False) ex
theorem i_enumT (hm : X.mg "enumerate" = none) (ha : DPE X W a Fa) (hg : Gl X "enumerate" := by rfl) (hs : starEach [a] X.env = [(false, eval a X.env)] := by rfl) : DPI X W (.Tuple elts kk tpos) (.Call (.Name "enumerate" p) [a] [] pos) (iEnumT Fa) := by
  refine ⟨pi_mono (fun σ H R ⟨q, L, H0, B0, s, B, P, ex, t, f, rt, x⟩ => ⟨q, L, H0, B0, s, B, _, ex, t, f, fun v H1 d s1 B1 t1 l1 r1 p1 => ?_, x⟩) (pi_enT hg hm (pa_cons ha.pe pa_nil hs) hs)⟩
  dsimp only at p1
  split at p1
  · rename_i xs
    obtain ⟨u, us, rfl, h1, g1⟩ := rep_tup r1
    have hl : (zipD (rangeD 0 xs.length) xs).length = us.length := by rw [zipD_len, rangeD_len, Nat.min_self, repL_len g1]
    refine ⟨u, us, rfl, t1.bs.leH.sqT h1, rt _ _ _ _ _ t1 l1 ?_ p1⟩
    exact ⟨_, _, by rw [hl]; exact walk_enT (xs := us), fun H B' k1 k2 => (k1.trans k2).sqT h1, yields_pair (fun i x hi e => by
      cases e
      refine ⟨.int ((0 : Int) + (i : Nat)), ?_, by rw [Int.zero_add]; exact int_rep⟩
      rw [zipD_len, rangeD_len, Nat.min_self] at hi
      unfold rangeD
      simp [hi]) (fun i y _ e => repL_gets g1 e)⟩
  · exact p1.elim
end
end DL

set_option Elab.async false
set_option linter.all false
set_option maxRecDepth 100000
set_option maxHeartbeats 4000000
namespace DL
open PySem L2
variable [Tb]
section
variable {X : Cx} {W : WX} {a b d e : Expr} {Fa Fb Fd : DF} {x y z : Str} {px py pz pt pos p : Pos} {kt k2 : Nat} {pt2 : Pos} {i j l : Nat}
/-! ### three new lists at once -/
def gPar3OOO (i j l : Nat) (Fa Fb Fd : DF) : DG := fun E s => Fa s (fun d1 s1 => Fb s1 (fun d2 s2 => Fd s2 (fun d3 s3 => E.nx (((s3.put i (.ow d1)).put j (.ow d2)).put l (.ow d3))) (fun _ _ _ => False)) (fun _ _ _ => False)) (fun _ _ _ => False)
theorem g_par3OOO (hc : X.calm = true) (hN : X.N.Nodup) (ha : DPO X W a Fa) (hb : DPO X W b Fb) (hd : DPO X W d Fd) (hij : i ≠ j := by decide) (hil : i ≠ l := by decide) (hjl : j ≠ l := by decide) (hi : X.N[i]? = some x := by rfl) (hj : X.N[j]? = some y := by rfl) (hl : X.N[l]? = some z := by rfl)
    (hx : X.env.scope.names.lookup x = some .local := by rfl) (hy : X.env.scope.names.lookup y = some .local := by rfl) (hz : X.env.scope.names.lookup z = some .local := by rfl)
    (hw : swappedStores [.Tuple [.Name x px, .Name y py, .Name z pz] kt pt] (.Tuple [a, b, d] k2 pt2) X.env = pure (some [x, y, z]) := by rfl)
    (hs : swapsWithSole [.Tuple [.Name x px, .Name y py, .Name z pz] kt pt] (.Tuple [a, b, d] k2 pt2) pos.line X.env = pure false := by rfl) (h1 : starEach [a, b, d] X.env = (false, eval a X.env) :: starEach [b, d] X.env := by rfl) (h2 : starEach [b, d] X.env = (false, eval b X.env) :: starEach [d] X.env := by rfl) (h3 : starEach [d] X.env = (false, eval d X.env) :: starEach [] X.env := by rfl) :
    DPS X W (.Assign [.Tuple [.Name x px, .Name y py, .Name z pz] kt pt] (.Tuple [a, b, d] k2 pt2) pos) (gPar3OOO i j l Fa Fb Fd) := by
  refine ⟨ps_mono (fun D σ H ⟨q, L, H0, B0, s, B, E, t, g, r⟩ => ⟨q, L, H0, B0, s, B, _, _, t, g, fun p1 o1 H1 d1 s1 B1 t1 l1 hp1 ro1 f1 => ?_, noE⟩) (ps_par3 hc hN hi hj hl hij hil hjl hx hy hz (pa_cons ha.pe (pa_cons hb.pe (pa_cons hd.pe pa_nil h3) h2) h1) hw hs)⟩
  refine ⟨q, (p1, o1) :: L, H0, B0, s1, B1, _, _, t1.holdNew hp1 ro1.ntb, f1, fun p2 o2 H2 d2 s2 B2 t2 l2 hp2 ro2 f2 => ?_, noE⟩
  refine ⟨q, (p2, o2) :: (p1, o1) :: L, H0, B0, s2, B2, _, _, t2.holdNew hp2 ro2.ntb, f2, fun p3 o3 H3 d3 s3 B3 t3 l3 hp3 ro3 f3 => ?_, noE⟩
  have n2 := nL_of t2 hp2
  have n1 := nL_of t1 hp1
  have t4 := (t3.useHeld (ro2.mono l3) n2 j).useHeld (ro1.mono (l2.trans l3)) n1 i
  have es : (s3.put j (.ow d2)).put i (.ow d1) = (s3.put i (.ow d1)).put j (.ow d2) := by
    unfold DS.put
    rw [List.set_comm _ _ (Ne.symm hij)]
  rw [es, List.set_comm _ _ (Ne.symm hij)] at t4
  exact ⟨_, _, _, rfl, r.nx _ _ _ _ (t4.setOw hp3 ro3) ((l1.trans l2).trans l3) f3⟩
/-! ### x[e] = v, any index -/
def putN (s : DS) (i : Nat) (k : D) (d : D) (K : DS → Prop) : Prop := match s.sl[i]?, k with
  | some (some (.ow (.lst ds))), .int z => ∃ j, ixN ds.length z = some j ∧ K (s.put i (.ow (.lst (ds.set j d))))
  | _, _ => False
def gPutN (i : Nat) (F Fk : DF) : DG := fun E s => F s (fun d s1 => hasSl s1 i ∧ Fk s1 (fun k s2 => putN s2 i k d E.nx) E.ex) E.ex
theorem g_putN (i : Nat) {x : Str} {p1 p2 : Pos} (he : DPE X W e Fa) (hk : DPE X W b Fb) (hN : X.N[i]? = some x := by rfl) (hv : Vis X.env.scope x := by first | exact Or.inl rfl | exact Or.inr (Or.inl rfl) | exact Or.inr (Or.inr rfl))
    (hs : swapsWithSole [.Subscript (.Name x p1) b p2] e pos.line X.env = pure false := by rfl) (hw : swappedStores [.Subscript (.Name x p1) b p2] e X.env = pure none := by rfl) (h1 : (assignEach [.Subscript (.Name x p1) b p2] X.env).map (·.2) = [assign (.Subscript (.Name x p1) b p2) X.env] := by rfl)
    (ha : ∀ v, assign (.Subscript (.Name x p1) b p2) X.env v = (do
      let ov ← holding [v] (eval (.Name x p1) X.env)
      let iv ← holding [v, ov] (eval b X.env)
      standAt p2
      holding [v, ov, iv] (setItem ov iv v)
      release [v, ov, iv] []) := by intro _; rfl)
    (hd : (x == ("__debug__" : Str)) = false := by decide) (hcd : (x == ("__classdict__" : Str)) = false := by decide) : DPS X W (.Assign [.Subscript (.Name x p1) b p2] e pos) (gPutN i Fa Fb) := by
  refine ⟨ps_mono (fun D σ H ⟨q, L, H0, B0, s, B, E, t, g, r⟩ => ⟨q, L, H0, B0, s, B, _, E.ex, t, g, fun v H1 d s1 B1 t1 l1 r1 ⟨h0, f1⟩ => ?_, r.exs⟩) (ps_asg he.pe (pg_sub (pe_var hN hv hd hcd) hk.pe set_list ha) hs hw h1)⟩
  obtain ⟨o, ho⟩ := t1.slot h0
  refine ⟨o, ho, q, L, H0, B0, s1, B1, _, E.ex, t1, f1, fun u H2 k s2 B2 t2 l2 r2 f2 => ?_, r.exs.le l1⟩
  unfold putN at f2
  dsimp only at f2
  split at f2
  · rename_i ds z e1
    obtain ⟨j, h0, h2⟩ := f2
    obtain ⟨pp, xs, g1, g2, g3⟩ := t2.ownL e1
    rw [ho] at g1
    cases g1
    rw [rep_int r2]
    exact ⟨pp, xs, z, j, rfl, rfl, g2, by rw [repL_len g3]; exact h0, r.nx _ _ _ _ (t2.change (d' := .lst _) e1 ho ⟨_, rfl, repL_set g3 (r1.mono l2)⟩) (l1.trans l2) h2⟩
  · exact f2.elim
/-! ### an own list as a test -/
def dTruL (i : Nat) : DFT := fun s P _ => match s.sl[i]? with
  | some (some (.ow (.lst ds))) => P (!ds.isEmpty) s
  | _ => False
theorem d_truL (i : Nat) (hN : X.N[i]? = some x := by rfl) (hv : Vis X.env.scope x := by first | exact Or.inl rfl | exact Or.inr (Or.inl rfl) | exact Or.inr (Or.inr rfl)) (he : ∀ whole, isTrue (.Name x p) X.env whole = (do let v ← whole; standAt (Expr.Name x p).pos; holding [v] (truthy v)) := by intro _; rfl)
    (hd : (x == ("__debug__" : Str)) = false := by decide) (hcd : (x == ("__classdict__" : Str)) = false := by decide) : DPT X W (.Name x p) (dTruL i) := by
  refine ⟨pt_mono (fun σ H Q ⟨q, L, H0, B0, s, B, P, ex, t, f, rt, x⟩ => ?_) (pt_truth (pe_var hN hv hd hcd) he)⟩
  unfold dTruL at f
  split at f
  · rename_i ds e1
    obtain ⟨pp, xs, g1, g2, g3⟩ := t.ownL e1
    refine ⟨_, g1, !ds.isEmpty, .inl ⟨xs, SqL.of g2, ?_⟩, rt _ _ _ _ t (Le.refl B) f⟩
    have := repL_len g3
    cases ds <;> cases xs <;> first | rfl | cases this
  · exact f.elim
end
end DL

set_option Elab.async false
set_option linter.all false
set_option maxRecDepth 100000
set_option maxHeartbeats 4000000
namespace Law
open PySem L2 DL
variable [Tb]
/-! ### passes as pairs; plain forms -/
abbrev P2 := Nat × Int
def stD (q : P2) : D := .tup [.int q.1, .int q.2]
def turn (q : P2) : P2 := (q.1, 1 - q.2)
def lvN (xs : List D) (q : P2) : Int := match xs[q.1]? with
  | some (.tup [_, .int x, _, .int y]) => if q.2 = 0 then x else y
  | _ => 1
def arN (xs : List D) (q : P2) : Int := match xs[q.1]? with
  | some (.tup [_, .int x, _, .int y]) => if q.2 = 0 then y else x
  | _ => 1
def mag (i : Int) : Int := if i < 0 then -i else i
theorem mag_pos {i : Int} (h : i ≠ 0) : 0 < mag i := by unfold mag; split <;> omega
theorem turn_turn (q : P2) : turn (turn q) = q := by
  obtain ⟨i, s⟩ := q
  show (i, 1 - (1 - s)) = (i, s)
  rw [show (1 : Int) - (1 - s) = s from by omega]
/-- a pass of a good house -/
structure Pas (n : Nat) (xs : List D) (q : P2) : Prop where
  sd : q.2 = 0 ∨ q.2 = 1
  ex : ∃ (a b : Nat) (x y : Int), xs[q.1]? = some (.tup [.int a, .int x, .int b, .int y]) ∧ a < n ∧ b < n ∧ sizeOk x ∧ sizeOk y
theorem Pas.turn {n : Nat} {xs : List D} {q : P2} (h : Pas n xs q) : Pas n xs (turn q) := ⟨by
  rcases h.sd with e | e
  · right; show 1 - q.2 = 1; omega
  · left; show 1 - q.2 = 0; omega, h.ex⟩
theorem lv_turn {n : Nat} {xs : List D} {q : P2} (h : Pas n xs q) : lvN xs (turn q) = arN xs q := by
  obtain ⟨a, b, x, y, e, _⟩ := h.ex
  unfold lvN arN
  rw [show (turn q).1 = q.1 from rfl, e]
  show (if 1 - q.2 = 0 then x else y) = (if q.2 = 0 then y else x)
  rcases h.sd with z | z <;> rw [z] <;> rfl
theorem ar_turn {n : Nat} {xs : List D} {q : P2} (h : Pas n xs q) : arN xs (turn q) = lvN xs q := by
  have := lv_turn h.turn
  rw [turn_turn] at this
  exact this.symm
theorem Pas.size {n : Nat} {xs : List D} {q : P2} (h : Pas n xs q) : sizeOk (lvN xs q) ∧ sizeOk (arN xs q) := by
  obtain ⟨a, b, x, y, e, _, _, sx, sy⟩ := h.ex
  unfold lvN arN
  rw [e]
  show sizeOk (if q.2 = 0 then x else y) ∧ sizeOk (if q.2 = 0 then y else x)
  split <;> exact ⟨‹_›, ‹_›⟩
theorem rooms_turn {n : Nat} {xs : List D} {q : P2} (h : Pas n xs q) {a b : Int} (e : roomsOf xs (stD q) = some (a, b)) : roomsOf xs (stD (turn q)) = some (b, a) := by
  obtain ⟨c, d, x, y, ed, _⟩ := h.ex
  have e1 := room_seen (s := q.2) ed
  have e2 := room_seen (s := (turn q).2) (i := (turn q).1) (xs := xs) (show xs[(turn q).1]? = _ from ed)
  have e3 : roomsOf xs (stD q) = _ := e1
  rw [e3] at e
  show roomsOf xs (stD (turn q)) = _
  refine e2.trans ?_
  show some (if 1 - q.2 = 0 then ((c : Int), (d : Int)) else ((d : Int), (c : Int))) = some (b, a)
  rcases h.sd with z | z <;> rw [z] at e ⊢ <;> simp at e ⊢ <;> exact ⟨e.2, e.1⟩
theorem rooms_ex {n : Nat} {xs : List D} {q : P2} (h : Pas n xs q) : ∃ a b : Nat, roomsOf xs (stD q) = some ((a : Int), (b : Int)) ∧ a < n ∧ b < n := by
  obtain ⟨c, d, x, y, ed, lc, ld, _⟩ := h.ex
  have e1 : roomsOf xs (stD q) = _ := room_seen (s := q.2) ed
  by_cases z : q.2 = 0
  · exact ⟨c, d, by rw [e1, if_pos z], lc, ld⟩
  · exact ⟨d, c, by rw [e1, if_neg z], ld, lc⟩
abbrev RZ3 := List P2 × List Int × Int
def redS (xs : List D) (z : RZ3) (w : P2 × Int) : RZ3 :=
  if z.2.2.fmod (mag (lvN xs w.1)) = 0 ∧ z.1.getLast? = some (turn w.1) then (z.1.dropLast, z.2.1.dropLast, z.2.1.getLastD 0 + (w.2 + arN xs w.1 * ((z.2.2 - z.2.2.fmod (mag (lvN xs w.1))).fdiv (lvN xs w.1))))
  else (z.1 ++ [w.1], z.2.1 ++ [z.2.2.fmod (mag (lvN xs w.1))], w.2 + arN xs w.1 * ((z.2.2 - z.2.2.fmod (mag (lvN xs w.1))).fdiv (lvN xs w.1)))
def Rng (xs : List D) (zs : List Int) (q : P2) (i : Nat) : Prop := 0 ≤ zs.getD i 0 ∧ zs.getD i 0 < mag (lvN xs q)
def Spot (xs : List D) (zs : List Int) (qs : List P2) (q : P2) (i : Nat) : Prop := qs[i + 1]? = some (turn q) ∧ (zs.getD (i + 1) 0).fmod (mag (arN xs q)) = 0
def Plain (xs : List D) (zs : List Int) (qs : List P2) : Prop := ∀ i q, qs[i]? = some q → Rng xs zs q i ∧ ¬ Spot xs zs qs q i
noncomputable def plainB (xs : List D) (zs : List Int) (qs : List P2) : Bool := @decide (Plain xs zs qs) (Classical.propDecidable _)
theorem plainB_true {xs : List D} {zs : List Int} {qs : List P2} (h : Plain xs zs qs) : plainB xs zs qs = true := by unfold plainB; exact @decide_eq_true _ (Classical.propDecidable _) h
theorem plainB_false {xs : List D} {zs : List Int} {qs : List P2} (h : ¬ Plain xs zs qs) : plainB xs zs qs = false := by unfold plainB; exact @decide_eq_false _ (Classical.propDecidable _) h
theorem plainB_iff {xs : List D} {zs : List Int} {qs : List P2} : plainB xs zs qs = true ↔ Plain xs zs qs := ⟨fun h => @of_decide_eq_true _ (Classical.propDecidable _) h, plainB_true⟩
theorem getD_app {zs : List Int} {z : Int} {i : Nat} (h : i < zs.length) : (zs ++ [z]).getD i 0 = zs.getD i 0 := by
  rw [List.getD_eq_getElem?_getD, List.getD_eq_getElem?_getD, List.getElem?_append_left h]
theorem getD_last {zs : List Int} {z : Int} : (zs ++ [z]).getD zs.length 0 = z := by
  rw [List.getD_eq_getElem?_getD, List.getElem?_append_right (Nat.le_refl _)]
  simp
theorem getD_dropLast {zs : List Int} {i : Nat} (h : i < zs.length - 1) : zs.dropLast.getD i 0 = zs.getD i 0 := by
  rw [List.getD_eq_getElem?_getD, List.getD_eq_getElem?_getD, List.getElem?_dropLast, if_pos h]
theorem fmod_rng {h m : Int} (hm : 0 < m) : 0 ≤ h.fmod m ∧ h.fmod m < m := by
  rw [Int.fmod_eq_emod_of_nonneg _ (by omega)]
  exact ⟨Int.emod_nonneg _ (by omega), Int.emod_lt_of_pos _ hm⟩
theorem fmod_self {h m : Int} (h0 : 0 ≤ h) (h1 : h < m) : h.fmod m = h := by
  rw [Int.fmod_eq_emod_of_nonneg _ (by omega)]
  exact Int.emod_eq_of_lt h0 h1
/-- what the passes gone through have come to is plain -/
theorem red_plain {n : Nat} {xs : List D} {K : List P2} {A : List Int} {h : Int} {w : P2 × Int} (hl : A.length = K.length) (hP : Plain xs A K) (hK : ∀ q ∈ K, Pas n xs q) (hw : Pas n xs w.1) : (redS xs (K, A, h) w).2.1.length = (redS xs (K, A, h) w).1.length ∧ Plain xs (redS xs (K, A, h) w).2.1 (redS xs (K, A, h) w).1 := by
  unfold redS
  have hm := mag_pos hw.size.1.1
  obtain ⟨g0, g1⟩ := fmod_rng (h := h) hm
  dsimp only
  split
  · refine ⟨by simp [hl], fun i q e => ?_⟩
    rw [List.getElem?_dropLast] at e
    split at e
    · rename_i hi
      obtain ⟨r, ns⟩ := hP i q e
      refine ⟨?_, fun sp => ns ?_⟩
      · unfold Rng at r ⊢
        rw [getD_dropLast (by rw [hl]; exact hi)]
        exact r
      · obtain ⟨s1, s2⟩ := sp
        rw [List.getElem?_dropLast] at s1
        split at s1
        · rename_i hi2
          exact ⟨s1, by rw [getD_dropLast (by rw [hl]; exact hi2)] at s2; exact s2⟩
        · cases s1
    · cases e
  · rename_i nc
    refine ⟨by simp [hl], fun i q e => ?_⟩
    by_cases hi : i < K.length
    · rw [List.getElem?_append_left hi] at e
      obtain ⟨r, ns⟩ := hP i q e
      refine ⟨?_, fun sp => ?_⟩
      · unfold Rng at r ⊢
        rw [getD_app (by rw [hl]; exact hi)]
        exact r
      · obtain ⟨s1, s2⟩ := sp
        by_cases hi2 : i + 1 < K.length
        · rw [List.getElem?_append_left hi2] at s1
          rw [getD_app (by rw [hl]; exact hi2)] at s2
          exact ns ⟨s1, s2⟩
        · have ei : i + 1 = K.length := by omega
          rw [List.getElem?_append_right (by omega), ei, Nat.sub_self] at s1
          have es : w.1 = turn q := by simpa using s1
          rw [ei, ← hl, getD_last] at s2
          have eq2 : K.getLast? = some q := by
            rw [List.getLast?_eq_getElem?, show K.length - 1 = i from by omega]
            exact e
          have pq : Pas n xs q := hK q (List.mem_of_getElem? e)
          have el : lvN xs w.1 = arN xs q := by rw [es]; exact lv_turn pq
          rw [← el] at s2
          rw [fmod_self g0 g1] at s2
          exact nc ⟨s2, by rw [eq2, es, turn_turn]⟩
    · have hlt := (List.getElem?_eq_some_iff.mp e).1
      rw [List.length_append] at hlt
      have ei : i = K.length := by simp at hlt; omega
      subst ei
      rw [List.getElem?_append_right (Nat.le_refl _), Nat.sub_self] at e
      have eq2 : w.1 = q := by simpa using e
      subst eq2
      refine ⟨?_, fun sp => ?_⟩
      · unfold Rng
        rw [← hl, getD_last]
        exact ⟨g0, g1⟩
      · obtain ⟨s1, _⟩ := sp
        rw [List.getElem?_append_right (by omega)] at s1
        simp at s1
theorem red_mem {xs : List D} {z : RZ3} {w : P2 × Int} {p : P2} (h : p ∈ (redS xs z w).1) : p ∈ z.1 ∨ p = w.1 := by
  unfold redS at h
  split at h
  · exact .inl ((List.dropLast_sublist _).subset h)
  · rcases List.mem_append.mp h with h | h
    · exact .inl h
    · exact .inr (by simpa using h)
theorem plain_more {xs : List D} {A : List Int} {K : List P2} {h : Int} (hl : A.length = K.length) (hP : Plain xs A K) : Plain xs (A ++ [h]) K := fun i q e => by
  obtain ⟨r, ns⟩ := hP i q e
  have hi := (List.getElem?_eq_some_iff.mp e).1
  refine ⟨?_, fun sp => ns ?_⟩
  · unfold Rng at r ⊢
    rw [getD_app (by rw [hl]; exact hi)]
    exact r
  · obtain ⟨s1, s2⟩ := sp
    have hi2 := (List.getElem?_eq_some_iff.mp s1).1
    exact ⟨s1, by rw [getD_app (by rw [hl]; exact hi2)] at s2; exact s2⟩
/-- a plain walk stays as it is -/
theorem red_same {n : Nat} {xs : List D} {zs : List Int} {qs : List P2} (hP : Plain xs zs qs) (hq : ∀ q ∈ qs, Pas n xs q) (hl : zs.length = qs.length + 1) {i : Nat} {q : P2} (e : qs[i]? = some q) :
    redS xs (qs.take i, zs.take i, zs.getD i 0) (q, zs.getD (i + 1) 0) = (qs.take (i + 1), zs.take (i + 1), zs.getD (i + 1) 0) := by
  obtain ⟨⟨r0, r1⟩, ns⟩ := hP i q e
  have hi := (List.getElem?_eq_some_iff.mp e).1
  have pq := hq q (List.mem_of_getElem? e)
  unfold redS
  dsimp only
  rw [fmod_self r0 r1]
  have h0 : (zs.getD i 0 - zs.getD i 0).fdiv (lvN xs q) = 0 := by rw [Int.sub_self, Int.zero_fdiv]
  rw [if_neg, h0, Int.mul_zero, Int.add_zero]
  · rw [List.take_add_one, e, List.take_add_one, show zs[i]? = some (zs.getD i 0) from by rw [List.getD_eq_getElem?_getD, List.getElem?_eq_getElem (show i < zs.length from by omega)]; rfl]
    rfl
  · rintro ⟨c1, c2⟩
    have hi0 : 0 < i := by
      cases i with
      | zero => simp at c2
      | succ j => omega
    have e1 : qs[i - 1]? = some (turn q) := by
      rw [List.getLast?_eq_getElem?, List.length_take, Nat.min_eq_left (by omega), List.getElem?_take, if_pos (by omega)] at c2
      exact c2
    obtain ⟨_, ns1⟩ := hP (i - 1) (turn q) e1
    refine ns1 ⟨?_, ?_⟩
    · rw [show i - 1 + 1 = i from by omega, turn_turn]
      exact e
    · rw [show i - 1 + 1 = i from by omega, c1]
      exact Int.zero_fmod _
theorem goes_split {xs : List D} : ∀ (ss ts : List D) (r e : Int), goes xs r (ss ++ ts) = some e → ∃ m, goes xs r ss = some m ∧ goes xs m ts = some e
  | [], ts, r, e, h => ⟨r, rfl, h⟩
  | st :: rest, ts, r, e, h => by
    rw [List.cons_append] at h
    unfold goes at h
    cases q : roomsOf xs st with
    | none => rw [q] at h; cases h
    | some p =>
      obtain ⟨a, b⟩ := p
      rw [q] at h
      by_cases z : a = r
      · simp only [if_pos z] at h
        obtain ⟨m, h1, h2⟩ := goes_split rest ts b e h
        refine ⟨m, ?_, h2⟩
        unfold goes
        rw [q]
        simp only [if_pos z]
        exact h1
      · simp only [if_neg z] at h
        cases h
theorem goes_one {xs : List D} {m e : Int} {t : D} (h : goes xs m [t] = some e) : roomsOf xs t = some (m, e) := by
  unfold goes at h
  cases q : roomsOf xs t with
  | none => rw [q] at h; cases h
  | some p =>
    obtain ⟨a, b⟩ := p
    rw [q] at h
    by_cases z : a = m
    · simp only [if_pos z] at h
      unfold goes at h
      cases h
      rw [z]
    · simp only [if_neg z] at h
      cases h
theorem one_goes {xs : List D} {m e : Int} {t : D} (h : roomsOf xs t = some (m, e)) : goes xs m [t] = some e := by
  unfold goes
  rw [h]
  show (if m = m then goes xs e [] else none) = _
  rw [if_pos rfl]
  rfl
theorem red_goes {n : Nat} {xs : List D} {K : List P2} {A : List Int} {h r e b : Int} {w : P2 × Int} (hK : ∀ q ∈ K, Pas n xs q) (hw : Pas n xs w.1) (hg : goes xs r (K.map stD) = some e) (hr : roomsOf xs (stD w.1) = some (e, b)) : goes xs r ((redS xs (K, A, h) w).1.map stD) = some b := by
  unfold redS
  split
  · rename_i c
    obtain ⟨_, c2⟩ := c
    have c2 : K.getLast? = some (turn w.1) := c2
    obtain ⟨K0, rfl⟩ := List.getLast?_eq_some_iff.mp c2
    rw [List.map_append] at hg
    obtain ⟨m, h1, h2⟩ := goes_split _ _ _ _ hg
    have h3 := rooms_turn hw hr
    have h4 := goes_one (t := stD (turn w.1)) h2
    rw [h3] at h4
    cases h4
    show goes xs r ((K0 ++ [turn w.1]).dropLast.map stD) = _
    rw [List.dropLast_concat]
    exact h1
  · rw [List.map_append, goes_app _ _ _ _ hg]
    exact one_goes hr
end Law

set_option Elab.async false
set_option linter.all false
set_option maxRecDepth 100000
set_option maxHeartbeats 4000000
namespace Law
open PySem L2 DL
variable [Tb]
/-! ### walks of pairs -/
def wkD (r : Int) (zs : List Int) (qs : List P2) : D := walkD r (zs.map D.int) (qs.map stD)
structure Wk (n : Nat) (xs : List D) (r : Int) (zs : List Int) (qs : List P2) (e : Int) : Prop where
  pa : ∀ q ∈ qs, Pas n xs q
  go : goes xs r (qs.map stD) = some e
  ln : zs.length = qs.length + 1
  mx : qs.length ≤ 1000
  r0 : 0 ≤ r
  rn : r < n
theorem Pas.pass {n : Nat} {xs : List D} {q : P2} (h : Pas n xs q) : isPass xs.length (stD q) = true := by
  obtain ⟨a, b, x, y, e, _⟩ := h.ex
  have hl := (List.getElem?_eq_some_iff.mp e).1
  show ((decide ((0 : Int) ≤ (q.1 : Int)) && decide ((q.1 : Int) ≤ (xs.length : Int) - 1)) && (decide (0 ≤ q.2) && decide (q.2 ≤ 1))) = true
  have h1 := h.sd
  simp only [Bool.and_eq_true, decide_eq_true_eq]
  refine ⟨⟨by omega, by omega⟩, by omega, by omega⟩
theorem Wk.of {n : Nat} {xs : List D} {r : Int} {zs : List Int} {qs : List P2} {e : Int} (h : Wk n xs r zs qs e) : WalkOf n xs r (zs.map D.int) (qs.map stD) e :=
  ⟨fun d hd => by
    obtain ⟨z, _, rfl⟩ := List.mem_map.mp hd
    exact ⟨z, rfl⟩, fun d hd => by
    obtain ⟨q, hq, rfl⟩ := List.mem_map.mp hd
    exact (h.pa q hq).pass, h.go, by rw [List.length_map, List.length_map]; exact h.ln, by rw [List.length_map]; have := h.mx; omega⟩
theorem ints_of : ∀ ps : List D, (∀ d ∈ ps, ∃ z : Int, d = .int z) → ∃ zs : List Int, ps = zs.map D.int
  | [], _ => ⟨[], rfl⟩
  | d :: ps, h => by
    obtain ⟨z, rfl⟩ := h d List.mem_cons_self
    obtain ⟨zs, e⟩ := ints_of ps fun x hx => h x (List.mem_cons_of_mem _ hx)
    exact ⟨z :: zs, by rw [e]; rfl⟩
theorem pas_of {n : Nat} {xs : List D} (hd : ∀ d ∈ xs, DoorIs n d) {st : D} (h : isPass xs.length st = true) : ∃ q, st = stD q ∧ Pas n xs q := by
  obtain ⟨i, s, a, b, x, y, rfl, hs, hi, ej, la, lb, sx, sy⟩ := pass_see hd h
  exact ⟨(i, s), rfl, hs, a, b, x, y, ej, la, lb, sx, sy⟩
theorem passes_of {n : Nat} {xs : List D} (hd : ∀ d ∈ xs, DoorIs n d) : ∀ ss : List D, (∀ d ∈ ss, isPass xs.length d = true) → ∃ qs : List P2, ss = qs.map stD ∧ ∀ q ∈ qs, Pas n xs q
  | [], _ => ⟨[], rfl, fun q h => absurd h (by simp)⟩
  | d :: ss, h => by
    obtain ⟨q, rfl, hq⟩ := pas_of hd (h d List.mem_cons_self)
    obtain ⟨qs, e, hqs⟩ := passes_of hd ss fun x hx => h x (List.mem_cons_of_mem _ hx)
    refine ⟨q :: qs, by rw [e]; rfl, fun p hp => ?_⟩
    rcases List.mem_cons.mp hp with rfl | hp
    · exact hq
    · exact hqs p hp
theorem wk_of {n : Nat} {xs ps ss : List D} {r e : Int} (hd : ∀ d ∈ xs, DoorIs n d) (h : Stroll n xs r ps ss e) (hl : ps.length = ss.length + 1) (hm : ss.length ≤ 1000) (h0 : 0 ≤ r) (h1 : r < n) : ∃ zs qs, (.tup [.int r, .tup ps, .tup ss] : D) = wkD r zs qs ∧ Wk n xs r zs qs e := by
  obtain ⟨zs, rfl⟩ := ints_of ps fun d hd => by
    obtain ⟨z, rfl, _⟩ := h.pu d hd
    exact ⟨z, rfl⟩
  obtain ⟨qs, rfl, hq⟩ := passes_of hd ss h.st
  rw [List.length_map, List.length_map] at hl
  rw [List.length_map] at hm
  exact ⟨zs, qs, rfl, hq, h.go, hl, hm, h0, h1⟩
theorem eqv_st (p q : P2) : PyData.eqv (py (stD p)) (py (stD q)) = decide (p = q) := by
  obtain ⟨i, s⟩ := p
  obtain ⟨j, t⟩ := q
  show ((((i : Int) == (j : Int)) && ((s == t) && true)) : Bool) = decide ((i, s) = (j, t))
  by_cases h1 : i = j
  · subst h1
    by_cases h2 : s = t
    · subst h2
      simp
    · simp [h2]
  · have : ¬ ((i : Int) = (j : Int)) := by omega
    simp [h1, this]
theorem st_at {qs : List P2} {i : Nat} {q : P2} (h : qs[i]? = some q) : atI (qs.map stD) (i : Int) = some (stD q) := atI_nat (by rw [List.getElem?_map, h]; rfl)
theorem st_at1 {qs : List P2} {i : Nat} {q : P2} (h : qs[i + 1]? = some q) : atI (qs.map stD) ((i : Int) + 1) = some (stD q) := by
  rw [show (i : Int) + 1 = ((i + 1 : Nat) : Int) from by omega]
  exact st_at h
theorem int_at {zs : List Int} {i : Nat} (h : i < zs.length) : atI (zs.map D.int) (i : Int) = some (.int (zs.getD i 0)) := atI_nat (by rw [List.getElem?_map, List.getD_eq_getElem?_getD, List.getElem?_eq_getElem h]; rfl)
theorem int_at1 {zs : List Int} {i : Nat} (h : i + 1 < zs.length) : atI (zs.map D.int) ((i : Int) + 1) = some (.int (zs.getD (i + 1) 0)) := by
  rw [show (i : Int) + 1 = ((i + 1 : Nat) : Int) from by omega]
  exact int_at h
theorem gate_pas {n : Nat} {xs : List D} {q : P2} (h : Pas n xs q) : ∃ (a b : Nat) (x y : Int), xs[q.1]? = some (.tup [.int a, .int x, .int b, .int y]) ∧ ∃ c d : Nat, roomsOf xs (stD q) = some ((c : Int), (d : Int)) ∧ c < n ∧ d < n ∧ gate q.2 (.int a) (.int x) (.int b) (.int y) = [.int c, .int (lvN xs q), .int d, .int (arN xs q)] := by
  obtain ⟨a, b, x, y, e, la, lb, _⟩ := h.ex
  refine ⟨a, b, x, y, e, ?_⟩
  have e1 : roomsOf xs (stD q) = _ := room_seen (s := q.2) e
  unfold lvN arN
  rw [e]
  by_cases z : q.2 = 0
  · exact ⟨a, b, by rw [e1, if_pos z], la, lb, by unfold gate; simp [z]⟩
  · exact ⟨b, a, by rw [e1, if_neg z], lb, la, by unfold gate; simp [z]⟩
theorem ends_pas {n : Nat} {xs : List D} {q : P2} {T : Nat} {post : Sl → Nat → Prop} {ex : Str → List (Str × D) → Nat → Prop} (h : Pas n xs q) (hp : ∀ c d : Nat, roomsOf xs (stD q) = some ((c : Int), (d : Int)) → c < n → d < n → post (.fz (.tup [.int c, .int (lvN xs q), .int d, .int (arN xs q)])) T) : S_ends_of [houseD n xs, stD q] T post ex := by
  obtain ⟨a, b, x, y, e, c, d, e1, lc, ld, eg⟩ := gate_pas h
  exact ⟨n, q.1, q.2, xs, .int a, .int x, .int b, .int y, rfl, e, by rw [eg]; exact hp c d e1 lc ld⟩
theorem lgate_pas {n : Nat} {xs : List D} {q : P2} {T : Nat} {post : Sl → Nat → Prop} {ex : Str → List (Str × D) → Nat → Prop} (h : Pas n xs q) (hp : ∀ c d : Nat, roomsOf xs (stD q) = some ((c : Int), (d : Int)) → c < n → d < n → post (.fz (.tup [.int c, .int (lvN xs q), .int d, .int (arN xs q)])) T) : S__law_gate [.tup xs, stD q] T post ex := by
  obtain ⟨a, b, x, y, e, c, d, e1, lc, ld, eg⟩ := gate_pas h
  exact ⟨q.1, q.2, xs, .int a, .int x, .int b, .int y, rfl, e, by rw [eg]; exact hp c d e1 lc ld⟩
/-! ### _turns_back, _can_shorten -/
def S__turns_back : PF := fun ds T post _ => ∃ (r : Int) (zs : List Int) (qs : List P2) (i : Nat) (q : P2), ds = [wkD r zs qs, .int i] ∧ qs[i]? = some q ∧ ∀ b : Bool, (b = true ↔ qs[i + 1]? = some (turn q)) → post (.fz (.bl b)) T
def G__turns_back : DG := (gSeq (gSet 2 (dIxV 0 (dC (.int 2))))
    (gRet (dAnd (dOp (dCmpI fun i j => decide (i < j)) (dOp dAdd (dVar 1) (dC (.int 1))) (dCB cLen (aCons (dVar 2) aNil))) (dOp dEq (dIxV 2 (dOp dAdd (dVar 1) (dC (.int 1)))) (dCall S_back_of 1 (aCons (dIxV 2 (dVar 1)) aNil))))))
theorem m__turns_back : ∀ (ds : List D) T post ex, ds.length = 2 → S__turns_back ds T post ex → G__turns_back (endsOf post ex) (startD 3 ds T) := by
  rintro ds T post ex _ ⟨r, zs, qs, i, q, rfl, hq, hp⟩
  refine ⟨trivial, _, rfl, ?_⟩
  show (match D.bl (decide ((i : Int) + 1 < ((qs.map stD).length : Int))) with | .bl true => dOp dEq (dIxV 2 (dOp dAdd (dVar 1) (dC (.int 1)))) (dCall S_back_of 1 (aCons (dIxV 2 (dVar 1)) aNil)) ⟨[some (.fz (wkD r zs qs)), some (.fz (.int i)), some (.fz (.tup (qs.map stD)))], T⟩ (fun d s1 => post (.fz d) s1.T) (endsOf post ex).ex | .bl false => post (.fz (.bl false)) T | _ => False)
  rw [List.length_map]
  by_cases h : i + 1 < qs.length
  · rw [decide_eq_true (show (i : Int) + 1 < (qs.length : Int) from by omega)]
    have e1 : qs[i + 1]? = some qs[i + 1] := List.getElem?_eq_getElem h
    refine ⟨trivial, _, st_at1 e1, ?_⟩
    refine ⟨trivial, _, st_at hq, rfl, .int q.1, q.2, rfl, ?_⟩
    refine ⟨rfl, rfl, ?_⟩
    have e2 : PyData.eqv (py (stD qs[i + 1])) (py (stD (turn q))) = decide (qs[i + 1] = turn q) := eqv_st _ _
    show post (.fz (.bl (PyData.eqv (py (stD qs[i + 1])) (py (stD (turn q)))))) T
    rw [e2]
    refine hp _ ?_
    rw [e1]
    simp
  · rw [decide_eq_false (show ¬ (i : Int) + 1 < (qs.length : Int) from by omega)]
    refine hp false ⟨fun z => (by cases z), fun z => ?_⟩
    exact absurd (List.getElem?_eq_some_iff.mp z).1 h
theorem fmod_mag {z a : Int} (ha : a ≠ 0) : (z.fmod a = 0) ↔ z.fmod (mag a) = 0 := by
  unfold mag
  split
  · exact ⟨fun h => Int.fmod_eq_zero_of_dvd (Int.neg_dvd.mpr (Int.dvd_of_fmod_eq_zero h)), fun h => Int.fmod_eq_zero_of_dvd (Int.neg_dvd.mp (Int.dvd_of_fmod_eq_zero h))⟩
  · exact Iff.rfl
def S__can_shorten : PF := fun ds T post _ => ∃ (n : Nat) (xs : List D) (r : Int) (zs : List Int) (qs : List P2) (e : Int) (i : Nat) (q : P2), ds = [houseD n xs, wkD r zs qs, .int i] ∧ Wk n xs r zs qs e ∧ qs[i]? = some q ∧ ∀ b : Bool, (b = true ↔ Spot xs zs qs q i) → post (.fz (.bl b)) T
def G__can_shorten : DG := (gSeq (gUnp (tgTup 3 (tgCons (tgN 3) (tgCons (tgN 4) (tgCons (tgN 5) tgNil)))) (dVar 1))
    (gSeq (gSet 6 (dOp dIx (dCall S_ends_of 2 (aCons (dVar 0) (aCons (dIxV 5 (dVar 2)) aNil))) (dC (.int 3))))
    (gRet (dAnd (dCall S__turns_back 2 (aCons (dVar 1) (aCons (dVar 2) aNil))) (dOp dEq (dOp dMod (dIxV 4 (dOp dAdd (dVar 2) (dC (.int 1)))) (dVar 6)) (dC (.int 0)))))))
theorem m__can_shorten : ∀ (ds : List D) T post ex, ds.length = 3 → S__can_shorten ds T post ex → G__can_shorten (endsOf post ex) (startD 7 ds T) := by
  rintro ds T post ex _ ⟨n, xs, r, zs, qs, e, i, q, rfl, hw, hq, hp⟩
  have pq := hw.pa q (List.mem_of_getElem? hq)
  have hi := (List.getElem?_eq_some_iff.mp hq).1
  refine ⟨rfl, trivial, _, st_at hq, rfl, ends_pas pq fun c d _ _ _ => ⟨_, rfl, ?_⟩⟩
  refine ⟨rfl, r, zs, qs, i, q, rfl, hq, fun b hb => ?_⟩
  cases b with
  | false => exact hp false ⟨fun z => (by cases z), fun z => by
      have := hb.mpr z.1
      cases this⟩
  | true =>
    have h1 := hb.mp rfl
    refine ⟨trivial, _, int_at1 (by have := hw.ln; omega), pq.size.2.1, rfl, rfl, ?_⟩
    show post (.fz (.bl (PyData.eqv (py (.int ((zs.getD (i + 1) 0).fmod (arN xs q)))) (py (.int 0))))) T
    rw [eqv_int]
    refine hp _ ?_
    rw [decide_eq_true_iff]
    constructor
    · intro z
      exact ⟨h1, (fmod_mag pq.size.2.1).mp z⟩
    · intro z
      exact (fmod_mag pq.size.2.1).mpr z.2
end Law

set_option Elab.async false
set_option linter.all false
set_option maxRecDepth 100000
set_option maxHeartbeats 4000000
namespace Law
open PySem L2 DL
variable [Tb]
theorem map_st {qs : List P2} {i : Nat} {d : D} (h : (qs.map stD)[i]? = some d) : ∃ q, qs[i]? = some q ∧ d = stD q := by
  rw [List.getElem?_map] at h
  cases e : qs[i]? with
  | none => rw [e] at h; cases h
  | some q =>
    rw [e] at h
    exact ⟨q, rfl, (Option.some.inj h).symm⟩
/-! ### is_plain -/
def S_is_plain : PF := fun ds T post ex => ∃ h d b, ds = [h, d] ∧ isO [("House", true)] [] h = some b ∧ (b = false → ex "BadHouse" [] T) ∧
  (b = true → ∃ n xs, h = houseD n xs ∧ (∀ d ∈ xs, DoorIs n d) ∧ xs.length ≤ 1000 ∧ askable d = true ∧ (∀ r ps ss, d = .tup [r, .tup ps, .tup ss] → ps.length ≤ 10000 ∧ ss.length ≤ 10000) ∧
    ((isWalk n xs d = false ∧ post (.fz (.bl false)) T) ∨ ∃ (r : Int) (zs : List Int) (qs : List P2) (e : Int), d = wkD r zs qs ∧ Wk n xs r zs qs e ∧ post (.fz (.bl (plainB xs zs qs))) T))
def T_ipl2 : DFT := (dTest (dCall S__can_shorten 3 (aCons (dVar 0) (aCons (dVar 1) (aCons (dVar 5) aNil)))))
def T_ipl1 : DFT := (tNotD (dTest (dChain (dCmpI fun i j => decide (i ≤ j)) (dCmpI fun i j => decide (i < j)) (dC (.int 0)) (dIxV 3 (dVar 5)) (dCB cAbs (aCons (dVar 7) aNil)))))
def G_ipl2 : DG := (gIf (tOrD T_ipl1 T_ipl2) (gRet (dC (.bl false))) gNil)
def G_ipl1 : DG := (gSeq (gSet 7 (dOp dIx (dCall S_ends_of 2 (aCons (dVar 0) (aCons (dVar 6) aNil))) (dC (.int 1))))
    G_ipl2)
def G_ipl0 : DG := (gSeq (gUnp (tgTup 3 (tgCons (tgN 2) (tgCons (tgN 3) (tgCons (tgN 4) tgNil)))) (dVar 1))
    (gSeq (gFor (iEnumT (dVar 4)) (tgTup 2 (tgCons (tgN 5) (tgCons (tgN 6) tgNil))) G_ipl1)
    (gRet (dC (.bl true)))))
def G_is_plain : DG := (gSeq (gIf (tNotD (dTest (dCallX S_is_walk 2 (aCons (dVar 0) (aCons (dVar 1) aNil))))) (gRet (dC (.bl false))) gNil)
    G_ipl0)
def iplSt (n : Nat) (xs : List D) (r : Int) (zs : List Int) (qs : List P2) (v5 v6 v7 : Option Sl) (T : Nat) : DS :=
  ⟨[some (.fz (houseD n xs)), some (.fz (wkD r zs qs)), some (.fz (.int r)), some (.fz (.tup (zs.map D.int))), some (.fz (.tup (qs.map stD))), v5, v6, v7], T⟩
theorem ipl2 {n : Nat} {xs : List D} {r e : Int} {zs : List Int} {qs : List P2} {i : Nat} {q : P2} {v6 : Option Sl} {T : Nat} {E : DE} (hw : Wk n xs r zs qs e) (hq : qs[i]? = some q)
    (h1 : Rng xs zs q i → ¬ Spot xs zs qs q i → E.nx (iplSt n xs r zs qs (some (.fz (.int i))) v6 (some (.fz (.int (lvN xs q)))) T)) (h0 : ¬ (Rng xs zs q i ∧ ¬ Spot xs zs qs q i) → E.rt (.fz (.bl false)) T) :
    G_ipl2 E (iplSt n xs r zs qs (some (.fz (.int i))) v6 (some (.fz (.int (lvN xs q)))) T) := by
  have hi := (List.getElem?_eq_some_iff.mp hq).1
  have hz : i < zs.length := by have := hw.ln; omega
  have key : ∀ b : Bool, (b = true ↔ Rng xs zs q i) → (if (!b) = true then E.rt (.fz (.bl false)) T else T_ipl2 (iplSt n xs r zs qs (some (.fz (.int i))) v6 (some (.fz (.int (lvN xs q)))) T) (fun k s1 => if k = true then E.rt (.fz (.bl false)) s1.T else E.nx s1) E.ex) := by
    intro b hb
    cases b with
    | false => exact h0 fun z => absurd (hb.mpr z.1) (by simp)
    | true =>
      refine ⟨rfl, n, xs, r, zs, qs, e, i, q, rfl, hw, hq, fun b hs => ?_⟩
      cases b with
      | false => exact h1 (hb.mp rfl) fun z => absurd (hs.mpr z) (by simp)
      | true => exact h0 fun z => z.2 (hs.mp rfl)
  have key2 : (match D.bl (decide (0 ≤ zs.getD i 0)) with | .bl true => (dCB cAbs (aCons (dVar 7) aNil)) (iplSt n xs r zs qs (some (.fz (.int i))) v6 (some (.fz (.int (lvN xs q)))) T) (fun w s3 => dCmpI (fun i j => decide (i < j)) (.int (zs.getD i 0)) w fun z' => (match z' with | .bl k => (if (!k) = true then E.rt (.fz (.bl false)) s3.T else T_ipl2 s3 (fun k s1 => if k = true then E.rt (.fz (.bl false)) s1.T else E.nx s1) E.ex) | _ => False)) E.ex | .bl false => (if (!false) = true then E.rt (.fz (.bl false)) T else T_ipl2 (iplSt n xs r zs qs (some (.fz (.int i))) v6 (some (.fz (.int (lvN xs q)))) T) (fun k s1 => if k = true then E.rt (.fz (.bl false)) s1.T else E.nx s1) E.ex) | _ => False) := by
    by_cases c0 : 0 ≤ zs.getD i 0
    · rw [decide_eq_true c0]
      refine key (decide (zs.getD i 0 < mag (lvN xs q))) ?_
      rw [decide_eq_true_iff]
      exact ⟨fun z => ⟨c0, z⟩, fun z => z.2⟩
    · rw [decide_eq_false c0]
      exact h0 fun z => c0 z.1.1
  exact ⟨trivial, _, int_at hz, key2⟩
section
theorem ipl0 {n : Nat} {xs : List D} {r e : Int} {zs : List Int} {qs : List P2} {T : Nat} {post : Sl → Nat → Prop} {ex : Str → List (Str × D) → Nat → Prop} (hw : Wk n xs r zs qs e) (hp : post (.fz (.bl (plainB xs zs qs))) T) :
    G_ipl0 (endsOf post ex) ⟨[some (.fz (houseD n xs)), some (.fz (wkD r zs qs)), none, none, none, none, none, none], T⟩ := by
  refine ⟨rfl, ?_⟩
  show gFor (iEnumT (dVar 4)) (tgTup 2 (tgCons (tgN 5) (tgCons (tgN 6) tgNil))) G_ipl1 { endsOf post ex with nx := gRet (dC (.bl true)) (endsOf post ex) } (iplSt n xs r zs qs none none none T)
  have zl : (zipD (rangeD 0 (qs.map stD).length) (qs.map stD)).length = qs.length := by rw [zipD_len, rangeD_len, Nat.min_self, List.length_map]
  refine gFor_inv (fun i s => (∀ j q, j < i → qs[j]? = some q → Rng xs zs q j ∧ ¬ Spot xs zs qs q j) ∧ ∃ v5 v6 v7, s = iplSt n xs r zs qs v5 v6 v7 T) (zipD (rangeD 0 (qs.map stD).length) (qs.map stD)) (fun P hP => hP _ ⟨fun j q hj => absurd hj (by omega), _, _, _, rfl⟩) ?_ ?_
  · rintro i d s hi ⟨hI, v5, v6, v7, rfl⟩ R hR
    have hl : i < qs.length := by rw [← zl]; exact (List.getElem?_eq_some_iff.mp hi).1
    have hq : qs[i]? = some qs[i] := List.getElem?_eq_getElem hl
    have ed : d = .tup [.int i, stD qs[i]] := by
      have h1 : (rangeD 0 (qs.map stD).length)[i]? = some (.int i) := by
        unfold rangeD
        simp [hl]
      have h2 : (qs.map stD)[i]? = some (stD qs[i]) := by rw [List.getElem?_map, hq]; rfl
      rw [zipD_get h1 h2] at hi
      exact (Option.some.inj hi).symm
    subst ed
    have pq := hw.pa qs[i] (List.getElem_mem _)
    refine ⟨rfl, ?_⟩
    refine ⟨rfl, ends_pas pq fun c d _ _ _ => ⟨_, rfl, ?_⟩⟩
    refine ipl2 (E := { endsOf post ex with nx := R, ct := R, bk := gRet (dC (.bl true)) (endsOf post ex) }) (v6 := some (.fz (stD qs[i]))) hw hq (fun h1 h2 => hR _ ⟨fun j p hj hp' => ?_, _, _, _, rfl⟩) (fun no => ?_)
    · by_cases z : j = i
      · subst z
        rw [hq] at hp'
        cases hp'
        exact ⟨h1, h2⟩
      · exact hI j p (by omega) hp'
    · rw [plainB_false (fun hP => no (hP i _ hq))] at hp
      exact hp
  · rintro s ⟨hI, v5, v6, v7, rfl⟩
    rw [plainB_true (fun i q hq => hI i q (by rw [zl]; exact (List.getElem?_eq_some_iff.mp hq).1) hq)] at hp
    exact hp
end
section
theorem m_is_plain : ∀ (ds : List D) T post ex, ds.length = 2 → S_is_plain ds T post ex → G_is_plain (endsOf post ex) (startD 8 ds T) := by
  rintro ds T post ex _ ⟨h, d, b, rfl, hb, h0, h1⟩
  refine ⟨rfl, h, d, b, rfl, hb, h0, fun eb => ?_⟩
  obtain ⟨n, xs, rfl, hd, hx, ha, hl, hp⟩ := h1 eb
  refine ⟨n, xs, rfl, fun d hd' => (hd d hd').of, hx, ha, hl, ?_⟩
  rcases hp with ⟨no, hp⟩ | ⟨r, zs, qs, e, rfl, hw, hp⟩
  · rw [no]
    exact hp
  · rw [show isWalk n xs (wkD r zs qs) = true from isWalk_of hw.of hw.r0 hw.rn]
    exact ipl0 hw hp
end
end Law

set_option Elab.async false
set_option linter.all false
set_option maxRecDepth 100000
set_option maxHeartbeats 4000000
namespace Law
open PySem L2 DL
variable [Tb]
/-! ### _reduced: the mathematics -/
def redN (xs : List D) (zs : List Int) (qs : List P2) : Nat → RZ3
  | 0 => ([], [], zs.getD 0 0)
  | i + 1 => match qs[i]? with
    | some q => redS xs (redN xs zs qs i) (q, zs.getD (i + 1) 0)
    | none => redN xs zs qs i
def redF (xs : List D) (zs : List Int) (qs : List P2) : RZ3 := redN xs zs qs qs.length
def redK (xs : List D) (zs : List Int) (qs : List P2) : List P2 := (redF xs zs qs).1
def redZ (xs : List D) (zs : List Int) (qs : List P2) : List Int := (redF xs zs qs).2.1 ++ [(redF xs zs qs).2.2]
theorem redN_step {xs : List D} {zs : List Int} {qs : List P2} {i : Nat} {q : P2} (h : qs[i]? = some q) : redN xs zs qs (i + 1) = redS xs (redN xs zs qs i) (q, zs.getD (i + 1) 0) := by
  show (match qs[i]? with | some q => redS xs (redN xs zs qs i) (q, zs.getD (i + 1) 0) | none => redN xs zs qs i) = _
  rw [h]
structure RInv (n : Nat) (xs : List D) (r : Int) (zs : List Int) (qs : List P2) (i : Nat) : Prop where
  go : ∃ m, goes xs r ((qs.take i).map stD) = some m ∧ goes xs r ((redN xs zs qs i).1.map stD) = some m
  ln : (redN xs zs qs i).2.1.length = (redN xs zs qs i).1.length
  pl : Plain xs (redN xs zs qs i).2.1 (redN xs zs qs i).1
  pa : ∀ q ∈ (redN xs zs qs i).1, Pas n xs q
  mx : (redN xs zs qs i).1.length ≤ i
theorem redS_len {xs : List D} {z : RZ3} {w : P2 × Int} : (redS xs z w).1.length ≤ z.1.length + 1 := by
  unfold redS
  split
  · show z.1.dropLast.length ≤ _
    rw [List.length_dropLast]
    omega
  · show (z.1 ++ [w.1]).length ≤ _
    rw [List.length_append]
    exact Nat.le_refl _
theorem red_inv {n : Nat} {xs : List D} {r e : Int} {zs : List Int} {qs : List P2} (hw : Wk n xs r zs qs e) : ∀ i, i ≤ qs.length → RInv n xs r zs qs i
  | 0, _ => ⟨⟨r, by rw [List.take_zero]; rfl, rfl⟩, rfl, fun i q h => (by cases h), fun q h => (by cases h), Nat.le_refl _⟩
  | i + 1, hi => by
    obtain ⟨⟨m, g1, g2⟩, ln, pl, pa, mx⟩ := red_inv hw i (by omega)
    have eq1 : qs[i]? = some qs[i] := List.getElem?_eq_getElem (by omega)
    have pq : Pas n xs qs[i] := hw.pa _ (List.getElem_mem _)
    have es := redN_step (xs := xs) (zs := zs) eq1
    have et : (qs.take (i + 1)).map stD = (qs.take i).map stD ++ [stD qs[i]] := by rw [List.take_add_one, eq1, List.map_append]; rfl
    have g3 : goes xs r (((qs.take (i + 1)).map stD) ++ (qs.drop (i + 1)).map stD) = some e := by rw [← List.map_append, List.take_append_drop]; exact hw.go
    obtain ⟨b, g4, _⟩ := goes_split _ _ _ _ g3
    have g5 := g4
    rw [et, goes_app _ _ _ _ g1] at g5
    have g6 := goes_one g5
    obtain ⟨r1, r2⟩ := red_plain (w := (qs[i], zs.getD (i + 1) 0)) (h := (redN xs zs qs i).2.2) ln pl pa pq
    refine ⟨⟨b, g4, ?_⟩, ?_, ?_, ?_, ?_⟩
    · rw [es]
      exact red_goes (w := (qs[i], zs.getD (i + 1) 0)) pa pq g2 g6
    · rw [es]; exact r1
    · rw [es]; exact r2
    · rw [es]
      intro p hp
      rcases red_mem hp with h | h
      · exact pa p h
      · rw [h]; exact pq
    · rw [es]
      have := redS_len (xs := xs) (z := redN xs zs qs i) (w := (qs[i], zs.getD (i + 1) 0))
      omega
theorem red_wk {n : Nat} {xs : List D} {r e : Int} {zs : List Int} {qs : List P2} (hw : Wk n xs r zs qs e) : Wk n xs r (redZ xs zs qs) (redK xs zs qs) e ∧ Plain xs (redZ xs zs qs) (redK xs zs qs) := by
  obtain ⟨⟨m, g1, g2⟩, ln, pl, pa, mx⟩ := red_inv hw qs.length (Nat.le_refl _)
  rw [List.take_length, hw.go] at g1
  cases g1
  refine ⟨⟨pa, g2, ?_, ?_, hw.r0, hw.rn⟩, plain_more ln pl⟩
  · show ((redN xs zs qs qs.length).2.1 ++ [_]).length = _
    rw [List.length_append, ln]
    rfl
  · have := hw.mx
    show (redN xs zs qs qs.length).1.length ≤ _
    omega
theorem redN_same {n : Nat} {xs : List D} {r e : Int} {zs : List Int} {qs : List P2} (hw : Wk n xs r zs qs e) (hP : Plain xs zs qs) : ∀ i, i ≤ qs.length → redN xs zs qs i = (qs.take i, zs.take i, zs.getD i 0)
  | 0, _ => rfl
  | i + 1, hi => by
    have eq1 : qs[i]? = some qs[i] := List.getElem?_eq_getElem (by omega)
    rw [redN_step eq1, redN_same hw hP i (by omega)]
    exact red_same hP hw.pa hw.ln eq1
theorem red_stays {n : Nat} {xs : List D} {r e : Int} {zs : List Int} {qs : List P2} (hw : Wk n xs r zs qs e) (hP : Plain xs zs qs) : redZ xs zs qs = zs ∧ redK xs zs qs = qs := by
  have h := redN_same hw hP qs.length (Nat.le_refl _)
  have hl := hw.ln
  refine ⟨?_, ?_⟩
  · show (redN xs zs qs qs.length).2.1 ++ [(redN xs zs qs qs.length).2.2] = zs
    rw [h]
    show zs.take qs.length ++ [zs.getD qs.length 0] = zs
    rw [List.getD_eq_getElem?_getD, List.getElem?_eq_getElem (show qs.length < zs.length by omega)]
    show zs.take qs.length ++ [zs[qs.length]] = zs
    rw [← List.take_succ_eq_append_getElem, ← hl, List.take_length]
  · show (redN xs zs qs qs.length).1 = qs
    rw [h]
    exact List.take_length
theorem red_iff {n : Nat} {xs : List D} {r e : Int} {zs : List Int} {qs : List P2} (hw : Wk n xs r zs qs e) : (redZ xs zs qs = zs ∧ redK xs zs qs = qs) ↔ Plain xs zs qs := by
  refine ⟨fun ⟨h1, h2⟩ => ?_, red_stays hw⟩
  have h := (red_wk hw).2
  rw [h1, h2] at h
  exact h
end Law

set_option Elab.async false
set_option linter.all false
set_option maxRecDepth 100000
set_option maxHeartbeats 4000000
namespace Law
open PySem L2 DL
variable [Tb]
/-! ### reduction as an action: pulls are added, a pass acts -/
def addZ (Z : RZ3) (z : Int) : RZ3 := (Z.1, Z.2.1, Z.2.2 + z)
def actZ (xs : List D) (Z : RZ3) (q : P2) : RZ3 := redS xs Z (q, 0)
def Z0 : RZ3 := ([], [], 0)
theorem addZ_addZ (Z : RZ3) (a b : Int) : addZ (addZ Z a) b = addZ Z (a + b) := by
  unfold addZ
  simp only [Prod.mk.injEq, true_and]
  omega
theorem addZ_zero (Z : RZ3) : addZ Z 0 = Z := by
  unfold addZ
  rw [Int.add_zero]
theorem redS_act (xs : List D) (Z : RZ3) (q : P2) (z : Int) : redS xs Z (q, z) = addZ (actZ xs Z q) z := by
  unfold actZ redS addZ
  dsimp only
  split
  · simp only [Prod.mk.injEq, true_and]
    omega
  · simp only [Prod.mk.injEq, true_and]
    omega
/-- a good state -/
structure Gd (n : Nat) (xs : List D) (Z : RZ3) : Prop where
  ln : Z.2.1.length = Z.1.length
  pl : Plain xs Z.2.1 Z.1
  pa : ∀ q ∈ Z.1, Pas n xs q
theorem Gd.zero (n : Nat) (xs : List D) : Gd n xs Z0 := ⟨rfl, fun i q h => (by cases h), fun q h => (by cases h)⟩
theorem Gd.add {n : Nat} {xs : List D} {Z : RZ3} (h : Gd n xs Z) (z : Int) : Gd n xs (addZ Z z) := ⟨h.ln, h.pl, h.pa⟩
theorem Gd.act {n : Nat} {xs : List D} {Z : RZ3} {q : P2} (h : Gd n xs Z) (pq : Pas n xs q) : Gd n xs (actZ xs Z q) := by
  obtain ⟨K, A, t⟩ := Z
  obtain ⟨r1, r2⟩ := red_plain (w := (q, 0)) (h := t) h.ln h.pl h.pa pq
  refine ⟨r1, r2, fun p hp => ?_⟩
  rcases red_mem hp with z | z
  · exact h.pa p z
  · rw [z]; exact pq
theorem fmod_shift {h b t : Int} (hb : b ≠ 0) : (h + b * t).fmod (mag b) = h.fmod (mag b) := by
  unfold mag
  split
  · rw [show h + b * t = h + (-b) * (-t) from by rw [Int.neg_mul_neg]]
    rw [Int.add_mul_fmod_self_left]
  · rw [Int.add_mul_fmod_self_left]
theorem fdiv_shift {h b t r : Int} (hb : b ≠ 0) : (h + b * t - r).fdiv b = (h - r).fdiv b + t := by
  rw [show h + b * t - r = h - r + b * t from by omega, Int.add_mul_fdiv_left _ _ hb]
/-- carrying changes nothing -/
theorem act_carry {n : Nat} {xs : List D} {Z : RZ3} {q : P2} (pq : Pas n xs q) (t : Int) : actZ xs (addZ Z (lvN xs q * t)) q = addZ (actZ xs Z q) (arN xs q * t) := by
  have hb := pq.size.1.1
  unfold actZ redS addZ
  dsimp only
  rw [fmod_shift hb, fdiv_shift hb, Int.mul_add]
  split
  · simp only [Prod.mk.injEq, true_and]
    omega
  · simp only [Prod.mk.injEq, true_and]
    omega
theorem fmod_split {h b : Int} (hb : b ≠ 0) : b * ((h - h.fmod (mag b)).fdiv b) = h - h.fmod (mag b) := by
  have h1 : mag b ∣ h - h.fmod (mag b) := Int.dvd_self_sub_fmod
  have h2 : b ∣ h - h.fmod (mag b) := by
    unfold mag at h1 ⊢
    split at h1
    · rename_i z
      rw [if_pos z]
      exact Int.neg_dvd.mp h1
    · rename_i z
      rw [if_neg z]
      exact h1
  exact Int.mul_fdiv_cancel' h2
theorem drop_last {α : Type} {l : List α} {a : α} (h : l.getLast? = some a) : l.dropLast ++ [a] = l := by
  have hn : l ≠ [] := by rintro rfl; simp at h
  rw [List.getLast?_eq_some_getLast hn] at h
  cases h
  exact List.dropLast_concat_getLast hn
/-- a pass and its back change nothing -/
theorem act_back {n : Nat} {xs : List D} {Z : RZ3} {q : P2} (g : Gd n xs Z) (pq : Pas n xs q) : actZ xs (actZ xs Z q) (turn q) = Z := by
  obtain ⟨K, A, h⟩ := Z
  obtain ⟨ln, pl, pa⟩ := g
  dsimp only at ln pl pa
  have b0 := pq.size.1.1
  have a0 := pq.size.2.1
  have ma := mag_pos a0
  by_cases c : h.fmod (mag (lvN xs q)) = 0 ∧ K.getLast? = some (turn q)
  · obtain ⟨c1, c2⟩ := c
    have e1 : actZ xs (K, A, h) q = (K.dropLast, A.dropLast, A.getLastD 0 + (0 + arN xs q * ((h - h.fmod (mag (lvN xs q))).fdiv (lvN xs q)))) := by
      unfold actZ redS
      rw [if_pos ⟨c1, c2⟩]
    have hb : lvN xs q * (h - h.fmod (mag (lvN xs q))).fdiv (lvN xs q) = h := by rw [fmod_split b0, c1]; omega
    have kn : K ≠ [] := by
      rintro rfl
      simp at c2
    have eK : K = K.dropLast ++ [turn q] := by
      have := drop_last c2
      exact this.symm
    have an : A ≠ [] := by
      rintro rfl
      rw [eK] at ln
      simp at ln
    have eA : A = A.dropLast ++ [A.getLastD 0] := by
      cases z : A.getLast? with
      | none => exact absurd (List.getLast?_eq_none_iff.mp z) an
      | some p =>
        have h1 := drop_last z
        have h2 : A.getLastD 0 = p := by
          rw [List.getLastD_eq_getLast?, z]
          rfl
        rw [h2]
        exact h1.symm
    generalize hK' : K.dropLast = K' at *
    generalize hA' : A.dropLast = A' at *
    generalize hp : A.getLastD 0 = p at *
    have lk : A'.length = K'.length := by
      rw [eK, eA] at ln
      simpa using ln
    have at1 : K[K'.length]? = some (turn q) := by
      rw [eK]
      simp
    obtain ⟨⟨r0, r1⟩, _⟩ := pl K'.length (turn q) at1
    have gp : A.getD K'.length 0 = p := by rw [eA, ← lk, getD_last]
    rw [gp, lv_turn pq] at r1
    rw [gp] at r0
    rw [e1]
    generalize ht : (h - h.fmod (mag (lvN xs q))).fdiv (lvN xs q) = t at *
    have hm : (p + (0 + arN xs q * t)).fmod (mag (lvN xs (turn q))) = p := by
      rw [lv_turn pq, Int.zero_add, fmod_shift a0]
      exact fmod_self r0 r1
    unfold actZ redS
    dsimp only
    rw [hm, lv_turn pq, ar_turn pq, turn_turn]
    have hd : (p + (0 + arN xs q * t) - p).fdiv (arN xs q) = t := by
      rw [show p + (0 + arN xs q * t) - p = arN xs q * t from by omega]
      exact Int.mul_fdiv_cancel_left _ a0
    rw [hd, hb, if_neg]
    · rw [← eK, ← eA, Int.zero_add]
    · rintro ⟨p0, z⟩
      have hk : 0 < K'.length := by
        cases K' with
        | nil => simp at z
        | cons x xs => simp
      have at2 : K[K'.length - 1]? = some q := by
        rw [eK, List.getElem?_append_left (by omega)]
        rw [← List.getLast?_eq_getElem?]
        exact z
      obtain ⟨_, ns⟩ := pl (K'.length - 1) q at2
      refine ns ⟨?_, ?_⟩
      · rw [show K'.length - 1 + 1 = K'.length from by omega]
        exact at1
      · rw [show K'.length - 1 + 1 = K'.length from by omega, gp, p0]
        exact Int.zero_fmod _
  · have e1 : actZ xs (K, A, h) q = (K ++ [q], A ++ [h.fmod (mag (lvN xs q))], 0 + arN xs q * ((h - h.fmod (mag (lvN xs q))).fdiv (lvN xs q))) := by
      unfold actZ redS
      rw [if_neg c]
    have hb := fmod_split (h := h) b0
    rw [e1]
    generalize ht : (h - h.fmod (mag (lvN xs q))).fdiv (lvN xs q) = t at *
    have hm : (0 + arN xs q * t).fmod (mag (lvN xs (turn q))) = 0 := by
      rw [lv_turn pq, fmod_shift a0]
      exact Int.zero_fmod _
    unfold actZ redS
    dsimp only
    rw [hm, lv_turn pq, ar_turn pq, turn_turn, if_pos ⟨rfl, by simp⟩]
    have hd : (0 + arN xs q * t - 0).fdiv (arN xs q) = t := by
      rw [show 0 + arN xs q * t - 0 = arN xs q * t from by omega]
      exact Int.mul_fdiv_cancel_left _ a0
    rw [hd, hb]
    simp only [List.dropLast_concat, Prod.mk.injEq, true_and]
    rw [List.getLastD_eq_getLast?, List.getLast?_concat]
    show h.fmod (mag (lvN xs q)) + (0 + (h - h.fmod (mag (lvN xs q)))) = h
    omega
end Law

set_option Elab.async false
set_option linter.all false
set_option maxRecDepth 100000
set_option maxHeartbeats 4000000
namespace Law
open PySem L2 DL
variable [Tb]
/-- pulls and passes, one after another, act upon what has come so far -/
def runZ (xs : List D) : RZ3 → List Int → List P2 → RZ3
  | Z, zs, [] => addZ Z (zs.headD 0)
  | Z, zs, q :: qs => runZ xs (actZ xs (addZ Z (zs.headD 0)) q) zs.tail qs
theorem run_add (xs : List D) (Z : RZ3) (z y : Int) (ys : List Int) (qs : List P2) : runZ xs (addZ Z z) (y :: ys) qs = runZ xs Z ((z + y) :: ys) qs := by
  cases qs with
  | nil =>
    show addZ (addZ Z z) y = addZ Z (z + y)
    exact addZ_addZ _ _ _
  | cons q qs =>
    show runZ xs (actZ xs (addZ (addZ Z z) y) q) ys qs = runZ xs (actZ xs (addZ Z (z + y)) q) ys qs
    rw [addZ_addZ]
theorem run_join (xs : List D) (z y : Int) (B : List Int) (L : List P2) : ∀ (K : List P2) (A : List Int) (Z : RZ3), A.length = K.length → runZ xs Z (A ++ (z + y) :: B) (K ++ L) = runZ xs (runZ xs Z (A ++ [z]) K) (y :: B) L
  | [], [], Z, _ => (run_add xs Z z y B L).symm
  | [], a :: A, Z, h => by simp at h
  | q :: K, [], Z, h => by simp at h
  | q :: K, a :: A, Z, h => run_join xs z y B L K A (actZ xs (addZ Z a) q) (by simpa using h)
theorem Gd.run {n : Nat} {xs : List D} : ∀ (qs : List P2) (zs : List Int) (Z : RZ3), Gd n xs Z → (∀ q ∈ qs, Pas n xs q) → Gd n xs (runZ xs Z zs qs)
  | [], zs, Z, g, _ => g.add _
  | q :: qs, zs, Z, g, h => Gd.run qs zs.tail _ ((g.add _).act (h q List.mem_cons_self)) fun p hp => h p (List.mem_cons_of_mem _ hp)
theorem take_get {zs : List Int} {i : Nat} (h : i < zs.length) : zs.take (i + 1) = zs.take i ++ [zs.getD i 0] := by
  rw [List.take_add_one, List.getElem?_eq_getElem h, List.getD_eq_getElem?_getD, List.getElem?_eq_getElem h]
  rfl
/-- a pass and pulls behind what was done -/
theorem run_snoc (xs : List D) (Z : RZ3) {zs : List Int} {qs : List P2} (h : zs.length = qs.length + 1) (q : P2) (w : Int) : runZ xs Z (zs ++ [w]) (qs ++ [q]) = redS xs (runZ xs Z zs qs) (q, w) := by
  have hn : zs ≠ [] := by rintro rfl; simp at h
  have e : zs = zs.dropLast ++ [zs.getLast hn] := (List.dropLast_concat_getLast hn).symm
  have e2 : zs ++ [w] = zs.dropLast ++ (zs.getLast hn + 0) :: [w] := by
    rw [Int.add_zero]
    conv => lhs; rw [e]
    simp
  rw [e2, run_join xs _ _ _ _ qs zs.dropLast Z (by simp [h]), ← e]
  show addZ (actZ xs (addZ (runZ xs Z zs qs) 0) q) w = _
  rw [addZ_zero, redS_act]
theorem redN_run {n : Nat} {xs : List D} {zs : List Int} {qs : List P2} (hl : zs.length = qs.length + 1) : ∀ i, i ≤ qs.length → redN xs zs qs i = runZ xs Z0 (zs.take (i + 1)) (qs.take i)
  | 0, _ => by
    rw [take_get (by omega)]
    show ([], [], zs.getD 0 0) = addZ Z0 (zs.getD 0 0)
    unfold addZ Z0
    rw [Int.zero_add]
  | i + 1, hi => by
    have eq1 : qs[i]? = some qs[i] := List.getElem?_eq_getElem (by omega)
    rw [redN_step eq1, redN_run (n := n) hl i (by omega), take_get (i := i + 1) (by omega), show qs.take (i + 1) = qs.take i ++ [qs[i]] from by rw [List.take_add_one, eq1]; rfl]
    rw [run_snoc xs Z0 (by rw [List.length_take, List.length_take]; omega)]
theorem redF_run {xs : List D} {zs : List Int} {qs : List P2} (hl : zs.length = qs.length + 1) : redF xs zs qs = runZ xs Z0 zs qs := by
  unfold redF
  rw [redN_run (n := 0) hl _ (Nat.le_refl _), List.take_length, List.take_of_length_le (by omega)]
theorem run_carry {n : Nat} {xs : List D} {q : P2} (pq : Pas n xs q) (Z : RZ3) (x y t : Int) (B : List Int) (L : List P2) : runZ xs Z ((x + lvN xs q * t) :: y :: B) (q :: L) = runZ xs Z (x :: (y + arN xs q * t) :: B) (q :: L) := by
  show runZ xs (actZ xs (addZ Z (x + lvN xs q * t)) q) (y :: B) L = runZ xs (actZ xs (addZ Z x) q) ((y + arN xs q * t) :: B) L
  rw [← addZ_addZ, act_carry pq, run_add, Int.add_comm]
theorem run_cancel {n : Nat} {xs : List D} {q : P2} {Z : RZ3} (g : Gd n xs Z) (pq : Pas n xs q) (x y : Int) (B : List Int) (L : List P2) : runZ xs Z (x :: 0 :: y :: B) (q :: turn q :: L) = runZ xs Z ((x + y) :: B) L := by
  show runZ xs (actZ xs (addZ (actZ xs (addZ Z x) q) 0) (turn q)) (y :: B) L = _
  rw [addZ_zero, act_back (g.add x) pq, run_add]
/-- what has come so far, as a walk -/
def word (xs : List D) (Y : RZ3) (Z : RZ3) : RZ3 := runZ xs Z (Y.2.1 ++ [Y.2.2]) Y.1
theorem word_add (xs : List D) {Y Z : RZ3} (h : Y.2.1.length = Y.1.length) (z : Int) : word xs (addZ Y z) Z = addZ (word xs Y Z) z := by
  obtain ⟨K, A, t⟩ := Y
  have := run_join xs t z [] [] K A Z h
  rw [List.append_nil] at this
  exact this
theorem word_act {n : Nat} {xs : List D} {Y Z : RZ3} {q : P2} (g : Gd n xs Y) (gz : Gd n xs Z) (pq : Pas n xs q) : word xs (actZ xs Y q) Z = actZ xs (word xs Y Z) q := by
  obtain ⟨K, A, h⟩ := Y
  obtain ⟨ln, pl, pa⟩ := g
  dsimp only at ln pl pa
  have b0 := pq.size.1.1
  have hb := fmod_split (h := h) b0
  by_cases c : h.fmod (mag (lvN xs q)) = 0 ∧ K.getLast? = some (turn q)
  · have e1 : actZ xs (K, A, h) q = (K.dropLast, A.dropLast, A.getLastD 0 + (0 + arN xs q * ((h - h.fmod (mag (lvN xs q))).fdiv (lvN xs q)))) := by
      unfold actZ redS
      rw [if_pos c]
    obtain ⟨c1, c2⟩ := c
    rw [c1] at hb
    have eK : K = K.dropLast ++ [turn q] := (drop_last c2).symm
    have an : A ≠ [] := by
      rintro rfl
      rw [eK] at ln
      simp at ln
    have eA : A = A.dropLast ++ [A.getLastD 0] := by
      cases z : A.getLast? with
      | none => exact absurd (List.getLast?_eq_none_iff.mp z) an
      | some p =>
        have h2 : A.getLastD 0 = p := by
          rw [List.getLastD_eq_getLast?, z]
          rfl
        rw [h2]
        exact (drop_last z).symm
    rw [e1, c1]
    rw [show h - 0 = h from by omega] at hb
    generalize hK' : K.dropLast = K' at *
    generalize hA' : A.dropLast = A' at *
    generalize hp : A.getLastD 0 = p at *
    have lk : A'.length = K'.length := by
      rw [eK, eA] at ln
      simpa using ln
    have paK : ∀ p ∈ K', Pas n xs p := fun p hp => pa p (by rw [eK]; exact List.mem_append_left _ hp)
    rw [show h - 0 = h from by omega]
    generalize ht : h.fdiv (lvN xs q) = t at *
    -- to the left
    have l1 : word xs (K', A', p + (0 + arN xs q * t)) Z = addZ (runZ xs Z (A' ++ [p]) K') (arN xs q * t) := by
      have := run_join xs p (arN xs q * t) [] [] K' A' Z lk
      rw [List.append_nil] at this
      unfold word
      dsimp only
      rw [Int.zero_add]
      exact this
    -- to the right
    have r1 : word xs (K, A, h) Z = redS xs (runZ xs Z (A' ++ [p]) K') (turn q, h) := by
      unfold word
      dsimp only
      rw [eK, eA]
      exact run_snoc xs Z (by simp [lk]) _ _
    have gY : Gd n xs (runZ xs Z (A' ++ [p]) K') := Gd.run K' _ Z gz paK
    rw [l1, r1]
    generalize runZ xs Z (A' ++ [p]) K' = Y at gY ⊢
    rw [redS_act, ← hb]
    have e3 : addZ (actZ xs Y (turn q)) (lvN xs q * t) = actZ xs (addZ Y (arN xs q * t)) (turn q) := by
      have := act_carry (Z := Y) pq.turn t
      rw [lv_turn pq, ar_turn pq] at this
      exact this.symm
    rw [e3]
    have := act_back (gY.add (arN xs q * t)) pq.turn
    rw [turn_turn] at this
    exact this.symm
  · have e1 : actZ xs (K, A, h) q = (K ++ [q], A ++ [h.fmod (mag (lvN xs q))], 0 + arN xs q * ((h - h.fmod (mag (lvN xs q))).fdiv (lvN xs q))) := by
      unfold actZ redS
      rw [if_neg c]
    rw [e1]
    generalize ht : (h - h.fmod (mag (lvN xs q))).fdiv (lvN xs q) = t at *
    generalize hr : h.fmod (mag (lvN xs q)) = r at *
    have l1 : word xs (K ++ [q], A ++ [r], 0 + arN xs q * t) Z = redS xs (runZ xs Z (A ++ [r]) K) (q, arN xs q * t) := by
      unfold word
      dsimp only
      rw [Int.zero_add]
      exact run_snoc xs Z (by simp [ln]) _ _
    have l2 : runZ xs Z (A ++ [r + lvN xs q * t]) K = addZ (runZ xs Z (A ++ [r]) K) (lvN xs q * t) := by
      have := run_join xs r (lvN xs q * t) [] [] K A Z ln
      rw [List.append_nil] at this
      exact this
    have r1 : word xs (K, A, h) Z = runZ xs Z (A ++ [r + lvN xs q * t]) K := by
      unfold word
      dsimp only
      rw [hb, show r + (h - r) = h from by omega]
    rw [l1, r1, l2, redS_act, act_carry pq]
theorem run_word {n : Nat} {xs : List D} {Z : RZ3} (gz : Gd n xs Z) : ∀ (qs : List P2) (zs : List Int) (Y : RZ3), Gd n xs Y → (∀ q ∈ qs, Pas n xs q) → word xs (runZ xs Y zs qs) Z = runZ xs (word xs Y Z) zs qs
  | [], zs, Y, g, _ => word_add xs g.ln _
  | q :: qs, zs, Y, g, h => by
    have pq := h q List.mem_cons_self
    show word xs (runZ xs (actZ xs (addZ Y (zs.headD 0)) q) zs.tail qs) Z = runZ xs (actZ xs (addZ (word xs Y Z) (zs.headD 0)) q) zs.tail qs
    rw [run_word gz qs zs.tail _ ((g.add _).act pq) fun p hp => h p (List.mem_cons_of_mem _ hp)]
    rw [word_act (g.add _) gz pq, word_add xs g.ln]
/-- the plain form acts as the walk does -/
theorem run_red {n : Nat} {xs : List D} {Z : RZ3} {zs : List Int} {qs : List P2} (gz : Gd n xs Z) (hl : zs.length = qs.length + 1) (h : ∀ q ∈ qs, Pas n xs q) : runZ xs Z (redZ xs zs qs) (redK xs zs qs) = runZ xs Z zs qs := by
  have h1 := run_word gz qs zs Z0 (Gd.zero n xs) h
  rw [← redF_run hl] at h1
  have h2 : word xs Z0 Z = Z := addZ_zero Z
  rw [h2] at h1
  exact h1
def backZ (zs : List Int) : List Int := zs.reverse.map fun z => -z
def backQ (qs : List P2) : List P2 := qs.reverse.map turn
theorem run_undo {n : Nat} {xs : List D} : ∀ (qs : List P2) (zs : List Int) (Z : RZ3), Gd n xs Z → zs.length = qs.length + 1 → (∀ q ∈ qs, Pas n xs q) → runZ xs (runZ xs Z zs qs) (backZ zs) (backQ qs) = Z
  | [], [z], Z, g, _, _ => by
    show addZ (addZ Z z) (-z) = Z
    rw [addZ_addZ, Int.add_right_neg, addZ_zero]
  | [], [], Z, g, h, _ => by simp at h
  | [], _ :: _ :: _, Z, g, h, _ => by simp at h
  | q :: qs, [], Z, g, h, _ => by simp at h
  | q :: qs, z :: zs, Z, g, h, hp => by
    have pq := hp q List.mem_cons_self
    have hl : zs.length = qs.length + 1 := by simpa using h
    have ih := run_undo qs zs (actZ xs (addZ Z z) q) ((g.add z).act pq) hl fun p hp' => hp p (List.mem_cons_of_mem _ hp')
    have hb : (backZ zs).length = (backQ qs).length + 1 := by
      unfold backZ backQ
      simp [hl]
    have e1 : backZ (z :: zs) = backZ zs ++ [-z] := by unfold backZ; simp
    have e2 : backQ (q :: qs) = backQ qs ++ [turn q] := by unfold backQ; simp
    rw [e1, e2]
    show runZ xs (runZ xs (actZ xs (addZ Z z) q) zs qs) (backZ zs ++ [-z]) (backQ qs ++ [turn q]) = Z
    rw [run_snoc xs _ hb, ih, redS_act, act_back (g.add z) pq, addZ_addZ, Int.add_right_neg, addZ_zero]
theorem backZ_back (zs : List Int) : backZ (backZ zs) = zs := by
  unfold backZ
  simp [Function.comp_def]
theorem backQ_back (qs : List P2) : backQ (backQ qs) = qs := by
  unfold backQ
  simp [Function.comp_def, turn_turn]
end Law

set_option Elab.async false
set_option linter.all false
set_option maxRecDepth 100000
set_option maxHeartbeats 4000000
namespace Law
open PySem L2 DL
variable [Tb]
/-! ### _reduced: its reading -/
theorem tEq {Fa Fb : DF} {s : DS} {P : Bool → DS → Prop} {ex : XD} (h : Fa s (fun x s1 => Fb s1 (fun y s2 => okD x = true ∧ okD y = true ∧ P (PyData.eqv (py x) (py y)) s2) ex) ex) : dTest (dOp dEq Fa Fb) s P ex := h
theorem tNe {Fa Fb : DF} {s : DS} {P : Bool → DS → Prop} {ex : XD} (h : Fa s (fun x s1 => Fb s1 (fun y s2 => okD x = true ∧ okD y = true ∧ P (!PyData.eqv (py x) (py y)) s2) ex) ex) : dTest (dOp dNe Fa Fb) s P ex := h
def rdSt (n : Nat) (xs : List D) (r : Int) (zs : List Int) (qs : List P2) (K : List P2) (A : List Int) (M : List D) (h : Int) (v9 v10 v11 v12 v13 v14 v15 : Option Sl) (T : Nat) : DS :=
  ⟨[some (.fz (houseD n xs)), some (.fz (wkD r zs qs)), some (.fz (.int r)), some (.fz (.tup (zs.map D.int))), some (.fz (.tup (qs.map stD))), some (.ow (.lst (K.map stD))), some (.ow (.lst (A.map D.int))), some (.ow (.lst M)), some (.fz (.int h)), v9, v10, v11, v12, v13, v14, v15], T⟩
def G_rd3 : DG := (gIf (tAndD (dTest (dOp dEq (dVar 14) (dC (.int 0)))) (tAndD (dTruL 5) (dTest (dOp dEq (dIxV 5 (dNeg (dC (.int 1)))) (dCall S_back_of 1 (aCons (dVar 9) aNil)))))) (gSeq (gDrop (dPop0 5))
    (gSeq (gApp 7 (dTup (aCons (dC (.str "cancel")) (aCons (dLenV 5) aNil))))
    (gSet 8 (dOp dAdd (dPop0 6) (dVar 8))))) (gSeq (gApp 5 (dVar 9))
    (gApp 6 (dVar 14))))
def G_rd2b : DG := (gSeq (gIf (dTest (dOp dNe (dVar 15) (dC (.int 0)))) (gApp 7 (dTup (aCons (dC (.str "carry")) (aCons (dLenV 5) (aCons (dVar 15) aNil))))) gNil)
    (gSeq (gSet 8 (dOp dAdd (dVar 10) (dOp dMul (dVar 13) (dVar 15))))
    G_rd3))
def G_rd2 : DG := (gSeq (gSet 14 (dOp dMod (dVar 8) (dCB cAbs (aCons (dVar 12) aNil))))
    (gSeq (gSet 15 (dOp dFdiv (dOp dSub (dVar 8) (dVar 14)) (dVar 12)))
    G_rd2b))
def G_rd1 : DG := (gSeq (gUnp (tgTup 4 (tgCons (tgN 11) (tgCons (tgN 12) (tgCons (tgN 11) (tgCons (tgN 13) tgNil))))) (dCall S_ends_of 2 (aCons (dVar 0) (aCons (dVar 9) aNil))))
    G_rd2)
def G_rd0 : DG := (gRet (dTup (aCons (dTup (aCons (dVar 2) (aCons (dOp dAdd (dCB cTuple (aCons (dVar 6) aNil)) (dTup (aCons (dVar 8) aNil))) (aCons (dCB cTuple (aCons (dVar 5) aNil)) aNil)))) (aCons (dVar 7) aNil))))
def G__reduced : DG := (gSeq (gUnp (tgTup 3 (tgCons (tgN 2) (tgCons (tgN 3) (tgCons (tgN 4) tgNil)))) (dVar 1))
    (gSeq (gPar3OOO 5 6 7 (dLst aNil) (dLst aNil) (dLst aNil))
    (gSeq (gSet 8 (dIxV 3 (dC (.int 0))))
    (gSeq (gFor (iZip2 (dVar 4) (dSl (dVar 3) (oAt (dC (.int 1))) oNo)) (tgTup 2 (tgCons (tgN 9) (tgCons (tgN 10) tgNil))) G_rd1)
    G_rd0))))
theorem rd_push {n : Nat} {xs : List D} {r : Int} {zs : List Int} {qs K : List P2} {A : List Int} {M : List D} {h rest : Int} {q : P2} {v10 v11 v12 v13 v15 : Option Sl} {T : Nat} {E : DE} (hl : A.length = K.length) (hk : K.length < 1000)
    (hn : E.nx (rdSt n xs r zs qs (K ++ [q]) (A ++ [rest]) M h (some (.fz (stD q))) v10 v11 v12 v13 (some (.fz (.int rest))) v15 T)) :
    gSeq (gApp 5 (dVar 9)) (gApp 6 (dVar 14)) E (rdSt n xs r zs qs K A M h (some (.fz (stD q))) v10 v11 v12 v13 (some (.fz (.int rest))) v15 T) := by
  refine ⟨(show (K.map stD).length < 100000 from by rw [List.length_map]; omega), (show (A.map D.int).length < 100000 from by rw [List.length_map]; omega), ?_⟩
  unfold rdSt at hn
  rw [List.map_append, List.map_append] at hn
  exact hn
theorem rd_pop {n : Nat} {xs : List D} {r a : Int} {zs : List Int} {qs K : List P2} {A : List Int} {M : List D} {h rest : Int} {q p : P2} {v10 v11 v12 v13 v15 : Option Sl} {T : Nat} {E : DE} (hm : M.length < 5000)
    (hn : ∀ m, E.nx (rdSt n xs r zs qs K A (M ++ [m]) (a + h) (some (.fz (stD q))) v10 v11 v12 v13 (some (.fz (.int rest))) v15 T)) :
    gSeq (gDrop (dPop0 5)) (gSeq (gApp 7 (dTup (aCons (dC (.str "cancel")) (aCons (dLenV 5) aNil)))) (gSet 8 (dOp dAdd (dPop0 6) (dVar 8)))) E (rdSt n xs r zs qs (K ++ [p]) (A ++ [a]) M h (some (.fz (stD q))) v10 v11 v12 v13 (some (.fz (.int rest))) v15 T) := by
  refine ⟨stD p, ?_, (show (2 : Nat) ≤ 100000 from by omega), (show M.length < 100000 from by omega), .int a, ?_, ?_⟩
  · simp
  · simp
  · have e1 : ((K ++ [p]).map stD).dropLast = K.map stD := by simp
    have e2 : ((A ++ [a]).map D.int).dropLast = A.map D.int := by simp
    have k := hn (.tup [.str "cancel", .int ((((K ++ [p]).map stD).dropLast).length : Nat)])
    unfold rdSt at k
    rw [← e1, ← e2] at k
    rw [e1] at k ⊢
    exact k
theorem rd3 {n : Nat} {xs : List D} {r : Int} {zs : List Int} {qs K : List P2} {A : List Int} {M : List D} {h rest : Int} {q : P2} {v10 v11 v12 v13 v15 : Option Sl} {T : Nat} {E : DE} (hl : A.length = K.length) (hk : K.length < 1000) (hm : M.length < 5000)
    (h1 : rest = 0 → K.getLast? = some (turn q) → ∀ M', M'.length ≤ M.length + 1 → E.nx (rdSt n xs r zs qs K.dropLast A.dropLast M' (A.getLastD 0 + h) (some (.fz (stD q))) v10 v11 v12 v13 (some (.fz (.int rest))) v15 T))
    (h2 : ¬ (rest = 0 ∧ K.getLast? = some (turn q)) → E.nx (rdSt n xs r zs qs (K ++ [q]) (A ++ [rest]) M h (some (.fz (stD q))) v10 v11 v12 v13 (some (.fz (.int rest))) v15 T)) :
    G_rd3 E (rdSt n xs r zs qs K A M h (some (.fz (stD q))) v10 v11 v12 v13 (some (.fz (.int rest))) v15 T) := by
  refine tEq ⟨rfl, rfl, ?_⟩
  rw [eqv_int]
  by_cases hr : rest = 0
  · rw [decide_eq_true hr]
    refine iteT ?_
    rcases List.eq_nil_or_concat K with z | ⟨K0, p, z⟩
    · subst z
      exact rd_push hl hk (h2 fun w => (by cases w.2))
    · rw [List.concat_eq_append] at z
      subst z
      have e1 : (K0 ++ [p]).map stD = K0.map stD ++ [stD p] := by rw [List.map_append]; rfl
      have e2 : (!((K0 ++ [p]).map stD).isEmpty) = true := by rw [e1]; cases K0.map stD <;> rfl
      show (if (!((K0 ++ [p]).map stD).isEmpty) = true then dTest (dOp dEq (dIxV 5 (dNeg (dC (.int 1)))) (dCall S_back_of 1 (aCons (dVar 9) aNil))) (rdSt n xs r zs qs (K0 ++ [p]) A M h (some (.fz (stD q))) v10 v11 v12 v13 (some (.fz (.int rest))) v15 T) _ E.ex else _)
      rw [if_pos e2]
      refine tEq ⟨trivial, stD p, ?_, rfl, .int q.1, q.2, rfl, ?_⟩
      · rw [e1]
        exact atI_last _
      · refine ⟨rfl, rfl, ?_⟩
        show (if PyData.eqv (py (stD p)) (py (stD (turn q))) = true then _ else _)
        rw [eqv_st]
        by_cases hp : p = turn q
        · rw [decide_eq_true hp]
          refine iteT ?_
          rcases List.eq_nil_or_concat A with y | ⟨A0, a, y⟩
          · subst y
            simp at hl
          · rw [List.concat_eq_append] at y
            subst y
            refine rd_pop hm fun m => ?_
            have k := h1 hr (by simp [hp]) (M ++ [m]) (by simp)
            rw [List.dropLast_concat, List.dropLast_concat, show (A0 ++ [a]).getLastD 0 = a from by simp] at k
            exact k
        · rw [decide_eq_false hp]
          refine rd_push hl hk (h2 fun w => hp ?_)
          have := w.2
          simpa using this
  · rw [decide_eq_false hr]
    exact rd_push hl hk (h2 fun w => hr w.1)
theorem rd2 {n : Nat} {xs : List D} {r : Int} {zs : List Int} {qs K : List P2} {A : List Int} {M : List D} {h z x y : Int} {q : P2} {v11 v14 v15 : Option Sl} {T : Nat} {E : DE} (hl : A.length = K.length) (hk : K.length < 1000) (hm : M.length < 4000) (sx : sizeOk x) (sy : sizeOk y) (ex : x = lvN xs q) (ey : y = arN xs q)
    (hn : ∀ M' v14 v15, M'.length ≤ M.length + 2 → E.nx (rdSt n xs r zs qs (redS xs (K, A, h) (q, z)).1 (redS xs (K, A, h) (q, z)).2.1 M' (redS xs (K, A, h) (q, z)).2.2 (some (.fz (stD q))) (some (.fz (.int z))) v11 (some (.fz (.int x))) (some (.fz (.int y))) v14 v15 T)) :
    G_rd2 E (rdSt n xs r zs qs K A M h (some (.fz (stD q))) (some (.fz (.int z))) v11 (some (.fz (.int x))) (some (.fz (.int y))) v14 v15 T) := by
  have mx := mag_pos sx.1
  have b1 := sx.2.1
  have b2 := sx.2.2
  have b3 := sy.2.1
  have b4 := sy.2.2
  refine ⟨(show mag x ≠ 0 from by omega), ?_⟩
  refine ⟨⟨sx.1, by omega⟩, ?_⟩
  generalize ht : (h - h.fmod (mag x)).fdiv x = t
  have key : ∀ M', M'.length ≤ M.length + 1 → gSeq (gSet 8 (dOp dAdd (dVar 10) (dOp dMul (dVar 13) (dVar 15)))) G_rd3 E (rdSt n xs r zs qs K A M' h (some (.fz (stD q))) (some (.fz (.int z))) v11 (some (.fz (.int x))) (some (.fz (.int y))) (some (.fz (.int (h.fmod (mag x))))) (some (.fz (.int t))) T) := fun M' hM' => by
    refine ⟨.inl ⟨by omega, by omega⟩, ?_⟩
    show G_rd3 E (rdSt n xs r zs qs K A M' (z + y * t) (some (.fz (stD q))) (some (.fz (.int z))) v11 (some (.fz (.int x))) (some (.fz (.int y))) (some (.fz (.int (h.fmod (mag x))))) (some (.fz (.int t))) T)
    refine rd3 hl hk (by omega) (fun c1 c2 M2 h2 => ?_) (fun no => ?_)
    · have k := hn M2 (some (.fz (.int (h.fmod (mag x))))) (some (.fz (.int t))) (by omega)
      unfold redS at k
      dsimp only at k
      rw [← ex, ← ey, if_pos ⟨c1, c2⟩, ht] at k
      exact k
    · have k := hn M' (some (.fz (.int (h.fmod (mag x))))) (some (.fz (.int t))) (by omega)
      unfold redS at k
      dsimp only at k
      rw [← ex, ← ey, if_neg no, ht] at k
      exact k
  show G_rd2b E (rdSt n xs r zs qs K A M h (some (.fz (stD q))) (some (.fz (.int z))) v11 (some (.fz (.int x))) (some (.fz (.int y))) (some (.fz (.int (h.fmod (mag x))))) (some (.fz (.int ((h - h.fmod (mag x)).fdiv x)))) T)
  rw [ht]
  refine ⟨rfl, rfl, ?_⟩
  rw [eqv_int]
  by_cases h0 : t = 0
  · rw [decide_eq_true h0]
    exact key M (by omega)
  · rw [decide_eq_false h0]
    exact ⟨(show (3 : Nat) ≤ 100000 from by omega), (show M.length < 100000 from by omega), key (M ++ [_]) (by rw [List.length_append]; exact Nat.le_refl _)⟩
theorem rd1 {n : Nat} {xs : List D} {r e z : Int} {zs : List Int} {qs K : List P2} {A : List Int} {M : List D} {h : Int} {q : P2} {v11 v12 v13 v14 v15 : Option Sl} {T : Nat} {E : DE} (hl : A.length = K.length) (hk : K.length < 1000) (hm : M.length < 4000) (pq : Pas n xs q)
    (hn : ∀ M' v11 v12 v13 v14 v15, M'.length ≤ M.length + 2 → E.nx (rdSt n xs r zs qs (redS xs (K, A, h) (q, z)).1 (redS xs (K, A, h) (q, z)).2.1 M' (redS xs (K, A, h) (q, z)).2.2 (some (.fz (stD q))) (some (.fz (.int z))) v11 v12 v13 v14 v15 T)) :
    G_rd1 E (rdSt n xs r zs qs K A M h (some (.fz (stD q))) (some (.fz (.int z))) v11 v12 v13 v14 v15 T) := by
  refine ⟨rfl, ends_pas pq fun c d _ _ _ => ⟨rfl, ?_⟩⟩
  exact rd2 hl hk hm pq.size.1 pq.size.2 rfl rfl fun M' v14 v15 h => hn M' _ _ _ v14 v15 h
end Law

set_option Elab.async false
set_option linter.all false
set_option maxRecDepth 100000
set_option maxHeartbeats 4000000
namespace Law
open PySem L2 DL
variable [Tb]
/-! ### _reduced, plain_form -/
def S__reduced : PF := fun ds T post _ => ∃ (n : Nat) (xs : List D) (r : Int) (zs : List Int) (qs : List P2) (e : Int), ds = [houseD n xs, wkD r zs qs] ∧ Wk n xs r zs qs e ∧ ∀ M : List D, post (.fz (.tup [wkD r (redZ xs zs qs) (redK xs zs qs), .lst M])) T
theorem zip_item {zs : List Int} {qs : List P2} (hl : zs.length = qs.length + 1) : (∀ (i : Nat) (d : D), (zipD (qs.map stD) (cutD (zs.map D.int) (some 1) none))[i]? = some d → ∃ q, qs[i]? = some q ∧ d = D.tup [stD q, .int (zs.getD (i + 1) 0)]) ∧ (zipD (qs.map stD) (cutD (zs.map D.int) (some 1) none)).length = qs.length := by
  cases zs with
  | nil => simp at hl
  | cons z zs =>
    have e1 : cutD ((z :: zs).map D.int) (some 1) none = zs.map D.int := cut_tail _ _
    have hl2 : zs.length = qs.length := by simp at hl; exact hl
    rw [e1]
    refine ⟨fun i d h => ?_, ?_⟩
    · unfold zipD at h
      rw [List.getElem?_map] at h
      cases e : ((qs.map stD).zip (zs.map D.int))[i]? with
      | none => rw [e] at h; cases h
      | some p =>
        rw [e] at h
        cases h
        obtain ⟨h1, h2⟩ := List.getElem?_zip_eq_some.mp e
        obtain ⟨q, hq, e3⟩ := map_st h1
        refine ⟨q, hq, ?_⟩
        rw [List.getElem?_map] at h2
        cases e4 : zs[i]? with
        | none => rw [e4] at h2; cases h2
        | some y =>
          rw [e4] at h2
          have e6 : p.2 = D.int y := (Option.some.inj h2).symm
          have e5 : (z :: zs).getD (i + 1) 0 = y := by
            show zs.getD i 0 = y
            rw [List.getD_eq_getElem?_getD, e4]
            rfl
          rw [e5, ← e3, ← e6]
    · rw [zipD_len, List.length_map, List.length_map, hl2, Nat.min_self]
section
theorem m__reduced : ∀ (ds : List D) T post ex, ds.length = 2 → S__reduced ds T post ex → G__reduced (endsOf post ex) (startD 16 ds T) := by
  rintro ds T post ex _ ⟨n, xs, r, zs, qs, e, rfl, hw, hp⟩
  obtain ⟨zi, zl⟩ := zip_item hw.ln
  have hmx := hw.mx
  have h0 : atI (zs.map D.int) 0 = some (.int (zs.getD 0 0)) := int_at (i := 0) (by have := hw.ln; omega)
  refine ⟨rfl, (show (0 : Nat) ≤ 100000 from by omega), (show (0 : Nat) ≤ 100000 from by omega), (show (0 : Nat) ≤ 100000 from by omega), trivial, _, h0, ?_⟩
  show gFor (iZip2 (dVar 4) (dSl (dVar 3) (oAt (dC (.int 1))) oNo)) (tgTup 2 (tgCons (tgN 9) (tgCons (tgN 10) tgNil))) G_rd1 { endsOf post ex with nx := G_rd0 (endsOf post ex) } (rdSt n xs r zs qs [] [] [] (zs.getD 0 0) none none none none none none none T)
  refine gFor_inv (fun i s => ∃ M v9 v10 v11 v12 v13 v14 v15, s = rdSt n xs r zs qs (redN xs zs qs i).1 (redN xs zs qs i).2.1 M (redN xs zs qs i).2.2 v9 v10 v11 v12 v13 v14 v15 T ∧ M.length ≤ 2 * i) (zipD (qs.map stD) (cutD (zs.map D.int) (some 1) none)) (fun P hP => hP _ ⟨[], _, _, _, _, _, _, _, rfl, Nat.le_refl _⟩) ?_ ?_
  · rintro i d s hi ⟨M, v9, v10, v11, v12, v13, v14, v15, rfl, hM⟩ R hR
    obtain ⟨q, hq, rfl⟩ := zi i d hi
    have li := (List.getElem?_eq_some_iff.mp hq).1
    obtain ⟨_, ln, pl, pa, mx⟩ := red_inv hw i (by omega)
    refine ⟨rfl, ?_⟩
    refine rd1 (e := e) (E := { endsOf post ex with nx := R, ct := R, bk := G_rd0 (endsOf post ex) }) ln (by omega) (by omega) (hw.pa q (List.mem_of_getElem? hq)) fun M' v11 v12 v13 v14 v15 hM' => hR _ ⟨M', some (.fz (stD q)), some (.fz (.int (zs.getD (i + 1) 0))), v11, v12, v13, v14, v15, ?_, by omega⟩
    rw [redN_step hq]
    rfl
  · rintro s ⟨M, v9, v10, v11, v12, v13, v14, v15, rfl, hM⟩
    rw [zl]
    obtain ⟨_, ln, pl, pa, mx⟩ := red_inv hw qs.length (Nat.le_refl _)
    unfold G_rd0
    have k := hp M
    have e1 : (redZ xs zs qs).map D.int = (redN xs zs qs qs.length).2.1.map D.int ++ [D.int (redN xs zs qs qs.length).2.2] := by
      show ((redN xs zs qs qs.length).2.1 ++ [_]).map D.int = _
      rw [List.map_append]
      rfl
    unfold wkD at k
    rw [e1] at k
    refine ⟨(show (1 : Nat) ≤ 100000 from by omega), ?_, (show (3 : Nat) ≤ 100000 from by omega), (show (2 : Nat) ≤ 100000 from by omega), k⟩
    show ((redN xs zs qs qs.length).2.1.map D.int).length + 1 ≤ 100000
    rw [List.length_map]
    omega
end
def S_plain_form : PF := fun ds T post _ => ∃ (n : Nat) (xs : List D) (r : Int) (zs : List Int) (qs : List P2) (e : Int), ds = [houseD n xs, wkD r zs qs] ∧ (∀ d ∈ xs, DoorIs n d) ∧ xs.length ≤ 1000 ∧ Wk n xs r zs qs e ∧ post (.fz (wkD r (redZ xs zs qs) (redK xs zs qs))) T
def G_plain_form : DG := (gSeq (gDrop (dCallX S_need_walk 2 (aCons (dVar 0) (aCons (dVar 1) aNil))))
    (gRet (dOp dIx (dCall S__reduced 2 (aCons (dVar 0) (aCons (dVar 1) aNil))) (dC (.int 0)))))
theorem wk_lens {n : Nat} {xs : List D} {r e : Int} {zs : List Int} {qs : List P2} (hw : Wk n xs r zs qs e) : ∀ r' ps ss, wkD r zs qs = .tup [r', .tup ps, .tup ss] → ps.length ≤ 10000 ∧ ss.length ≤ 10000 := fun r' ps ss h => by
  have h1 := hw.ln
  have h2 := hw.mx
  unfold wkD walkD at h
  cases h
  rw [List.length_map, List.length_map]
  omega
theorem m_plain_form : ∀ (ds : List D) T post ex, ds.length = 2 → S_plain_form ds T post ex → G_plain_form (endsOf post ex) (startD 2 ds T) := by
  rintro ds T post ex _ ⟨n, xs, r, zs, qs, e, rfl, hd, hl, hw, hp⟩
  have h1 : isWalk n xs (wkD r zs qs) = true := isWalk_of hw.of hw.r0 hw.rn
  refine ⟨rfl, .inr ⟨n, xs, _, rfl, fun d hd' => (hd d hd').of, hl, askable_of hw.of, wk_lens hw, fun _ => ?_, fun z => by rw [h1] at z; cases z⟩⟩
  exact ⟨rfl, n, xs, r, zs, qs, e, rfl, hw, fun M => ⟨_, rfl, hp⟩⟩
end Law

set_option Elab.async false
set_option linter.all false
set_option maxRecDepth 100000
set_option maxHeartbeats 4000000
namespace Law
open PySem L2 DL
variable [Tb]
/-! ### _law_plain -/
def S__law_plain : PF := fun ds T post _ => ∃ (n : Nat) (xs : List D) (r : Int) (zs : List Int) (qs : List P2) (e : Int), ds = [.tup xs, wkD r zs qs] ∧ Wk n xs r zs qs e ∧ post (.fz (wkD r (redZ xs zs qs) (redK xs zs qs))) T
def G_lpA : DG := (gSeq (gDrop (dPop0 3))
    (gSeq (gDrop (dPop0 2))
    (gPutN 2 (dOp dAdd (dOp dAdd (dIxV 2 (dNeg (dC (.int 1)))) (dOp dMul (dOp dFdiv (dVar 10) (dVar 7)) (dVar 9))) (dVar 5)) (dNeg (dC (.int 1))))))
def G_lpB : DG := (gSeq (gSet 11 (dOp dMod (dCB cInt (aCons (dVar 10) aNil)) (dCB cAbs (aCons (dVar 7) aNil))))
    (gSeq (gPutN 2 (dVar 11) (dNeg (dC (.int 1))))
    (gSeq (gApp 3 (dVar 4))
    (gApp 2 (dOp dAdd (dOp dMul (dOp dFdiv (dOp dSub (dVar 10) (dVar 11)) (dVar 7)) (dVar 9)) (dVar 5))))))
def T_lp1 : DFT := (dTest (dOp dEq (dOp dMod (dCB cInt (aCons (dVar 10) aNil)) (dCB cAbs (aCons (dVar 7) aNil))) (dC (.int 0))))
def T_lp2 : DFT := (tAndD (dTest (dOp dEq (dIxV 3 (dNeg (dC (.int 1)))) (dTup (aCons (dIxV 4 (dC (.int 0))) (aCons (dOp dSub (dC (.int 1)) (dIxV 4 (dC (.int 1)))) aNil))))) T_lp1)
def G_lp3 : DG := (gIf (tAndD (dEmptyT 3 true) T_lp2) G_lpA G_lpB)
def G_lp2 : DG := (gSeq (gSet 10 (dIxV 2 (dNeg (dC (.int 1))))) G_lp3)
def G_lp1 : DG := (gSeq (gUnp (tgTup 4 (tgCons (tgN 6) (tgCons (tgN 7) (tgCons (tgN 8) (tgCons (tgN 9) tgNil))))) (dCall S__law_gate 2 (aCons (dVar 0) (aCons (dVar 4) aNil)))) G_lp2)
def G_lp0 : DG := (gRet (dTup (aCons (dIxV 1 (dC (.int 0))) (aCons (dCB cTuple (aCons (dVar 2) aNil)) (aCons (dCB cTuple (aCons (dVar 3) aNil)) aNil)))))
def G__law_plain : DG := (gSeq (gParOO 2 3 (dLst (aCons (dOp dIx (dIxV 1 (dC (.int 1))) (dC (.int 0))) aNil)) (dLst aNil))
    (gSeq (gFor (iZip2 (dIxV 1 (dC (.int 2))) (dSl (dIxV 1 (dC (.int 1))) (oAt (dC (.int 1))) oNo)) (tgTup 2 (tgCons (tgN 4) (tgCons (tgN 5) tgNil))) G_lp1)
    G_lp0))
def lpSt (xs : List D) (r : Int) (zs : List Int) (qs : List P2) (K : List P2) (A : List Int) (h : Int) (v4 v5 v6 v7 v8 v9 v10 v11 : Option Sl) (T : Nat) : DS :=
  ⟨[some (.fz (.tup xs)), some (.fz (wkD r zs qs)), some (.ow (.lst (A.map D.int ++ [.int h]))), some (.ow (.lst (K.map stD))), v4, v5, v6, v7, v8, v9, v10, v11], T⟩
theorem ix_last (l : Nat) : ixN (l + 1) (-1) = some l := by
  unfold ixN
  rw [if_neg (by omega), if_pos (by omega)]
  congr 1
  omega
theorem set_last {a b : D} (xs : List D) : (xs ++ [a]).set xs.length b = xs ++ [b] := by simp
theorem ixl {xs : List D} {a : D} : ixN (xs ++ [a]).length (-1) = some xs.length := by
  rw [List.length_append]
  exact ix_last _
theorem lpB {xs : List D} {r h x y z : Int} {zs : List Int} {qs K : List P2} {A : List Int} {q : P2} {v6 v8 v11 : Option Sl} {T : Nat} {E : DE} (hl : A.length = K.length) (hk : K.length < 1000) (sx : sizeOk x) (sy : sizeOk y)
    (hn : ∀ v11, E.nx (lpSt xs r zs qs (K ++ [q]) (A ++ [h.fmod (mag x)]) (z + y * ((h - h.fmod (mag x)).fdiv x)) (some (.fz (stD q))) (some (.fz (.int z))) v6 (some (.fz (.int x))) v8 (some (.fz (.int y))) (some (.fz (.int h))) v11 T)) :
    G_lpB E (lpSt xs r zs qs K A h (some (.fz (stD q))) (some (.fz (.int z))) v6 (some (.fz (.int x))) v8 (some (.fz (.int y))) (some (.fz (.int h))) v11 T) := by
  have mx := mag_pos sx.1
  have b1 := sx.2.1
  have b2 := sx.2.2
  have b3 := sy.2.1
  have b4 := sy.2.2
  refine ⟨(show mag x ≠ 0 from by omega), trivial, _, ixl, ?_⟩
  rw [set_last]
  refine ⟨(show (K.map stD).length < 100000 from by rw [List.length_map]; omega), ⟨sx.1, by omega⟩, .inr ⟨by omega, by omega⟩, ?_, ?_⟩
  · show (A.map D.int ++ [_]).length < 100000
    rw [List.length_append, List.length_map]
    show A.length + 1 < 100000
    omega
  · have k := hn (some (.fz (.int (h.fmod (mag x)))))
    unfold lpSt at k
    rw [List.map_append, List.map_append, show z + y * ((h - h.fmod (mag x)).fdiv x) = (h - h.fmod (mag x)).fdiv x * y + z from by rw [Int.mul_comm]; omega] at k
    exact k
theorem lpA {xs : List D} {r h x y z a : Int} {zs : List Int} {qs K : List P2} {A : List Int} {q p : P2} {v6 v8 v11 : Option Sl} {T : Nat} {E : DE} (sx : sizeOk x) (sy : sizeOk y) (h0 : h.fmod (mag x) = 0)
    (hn : E.nx (lpSt xs r zs qs K A (a + (z + y * ((h - h.fmod (mag x)).fdiv x))) (some (.fz (stD q))) (some (.fz (.int z))) v6 (some (.fz (.int x))) v8 (some (.fz (.int y))) (some (.fz (.int h))) v11 T)) :
    G_lpA E (lpSt xs r zs qs (K ++ [p]) (A ++ [a]) h (some (.fz (stD q))) (some (.fz (.int z))) v6 (some (.fz (.int x))) v8 (some (.fz (.int y))) (some (.fz (.int h))) v11 T) := by
  have b1 := sx.2.1
  have b2 := sx.2.2
  have b3 := sy.2.1
  have b4 := sy.2.2
  have e1 : ((K ++ [p]).map stD).dropLast = K.map stD := by simp
  have e2 : ((A ++ [a]).map D.int ++ [D.int h]).dropLast = A.map D.int ++ [D.int a] := by simp
  refine ⟨stD p, (by simp), .int h, (by simp), ?_⟩
  rw [e2]
  refine ⟨trivial, _, atI_last _, ⟨sx.1, by omega⟩, .inr ⟨by omega, by omega⟩, trivial, _, ixl, ?_⟩
  rw [set_last]
  unfold lpSt at hn
  rw [← e1, show a + (z + y * ((h - h.fmod (mag x)).fdiv x)) = a + h.fdiv x * y + z from by rw [h0, Int.sub_zero, Int.mul_comm]; omega] at hn
  exact hn
theorem ok_sts (qs : List P2) : okD (.lst (qs.map stD)) = true := okD_of (n := 9) (by
  unfold okN
  refine okNs_iff.mpr fun d hd => ?_
  obtain ⟨q, _, rfl⟩ := List.mem_map.mp hd
  rfl)
theorem lp3 {xs : List D} {r h x y z : Int} {zs : List Int} {qs K : List P2} {A : List Int} {q : P2} {v6 v8 v11 : Option Sl} {T : Nat} {E : DE} (hl : A.length = K.length) (hk : K.length < 1000) (sx : sizeOk x) (sy : sizeOk y) (ex : x = lvN xs q) (ey : y = arN xs q)
    (hn : ∀ v11, E.nx (lpSt xs r zs qs (redS xs (K, A, h) (q, z)).1 (redS xs (K, A, h) (q, z)).2.1 (redS xs (K, A, h) (q, z)).2.2 (some (.fz (stD q))) (some (.fz (.int z))) v6 (some (.fz (.int x))) v8 (some (.fz (.int y))) (some (.fz (.int h))) v11 T)) :
    G_lp3 E (lpSt xs r zs qs K A h (some (.fz (stD q))) (some (.fz (.int z))) v6 (some (.fz (.int x))) v8 (some (.fz (.int y))) (some (.fz (.int h))) v11 T) := by
  have mx := mag_pos sx.1
  have els : ¬ (h.fmod (mag x) = 0 ∧ K.getLast? = some (turn q)) → G_lpB E (lpSt xs r zs qs K A h (some (.fz (stD q))) (some (.fz (.int z))) v6 (some (.fz (.int x))) v8 (some (.fz (.int y))) (some (.fz (.int h))) v11 T) := fun no => lpB hl hk sx sy fun v11 => by
    have k := hn v11
    unfold redS at k
    dsimp only at k
    rw [← ex, ← ey, if_neg no] at k
    exact k
  refine ⟨ok_sts K, ?_⟩
  rcases List.eq_nil_or_concat K with w | ⟨K0, p, w⟩
  · subst w
    exact els fun w => (by cases w.2)
  · rw [List.concat_eq_append] at w
    subst w
    have e1 : (K0 ++ [p]).map stD = K0.map stD ++ [stD p] := by rw [List.map_append]; rfl
    have e2 : (!((K0 ++ [p]).map stD).isEmpty) = true := by rw [e1]; cases K0.map stD <;> rfl
    show (if (!((K0 ++ [p]).map stD).isEmpty) = true then T_lp2 (lpSt xs r zs qs (K0 ++ [p]) A h (some (.fz (stD q))) (some (.fz (.int z))) v6 (some (.fz (.int x))) v8 (some (.fz (.int y))) (some (.fz (.int h))) v11 T) _ E.ex else _)
    rw [if_pos e2]
    have e3 : atI ((K0 ++ [p]).map stD) (-1) = some (stD p) := by rw [e1]; exact atI_last _
    refine ⟨trivial, _, e3, trivial, _, rfl, trivial, _, rfl, (show (2 : Nat) ≤ 100000 from by omega), rfl, rfl, ?_⟩
    show (if PyData.eqv (py (stD p)) (py (stD (turn q))) = true then _ else _)
    rw [eqv_st]
    by_cases hp : p = turn q
    · rw [decide_eq_true hp]
      refine iteT ?_
      refine ⟨(show mag x ≠ 0 from by omega), rfl, rfl, ?_⟩
      show (if PyData.eqv (py (.int (h.fmod (mag x)))) (py (.int 0)) = true then _ else _)
      rw [eqv_int]
      by_cases h0 : h.fmod (mag x) = 0
      · rw [decide_eq_true h0]
        refine iteT ?_
        rcases List.eq_nil_or_concat A with y' | ⟨A0, a, y'⟩
        · subst y'
          simp at hl
        · rw [List.concat_eq_append] at y'
          subst y'
          refine lpA sx sy h0 ?_
          have k := hn v11
          unfold redS at k
          dsimp only at k
          rw [← ex, ← ey, if_pos ⟨h0, by simp [hp]⟩, List.dropLast_concat, List.dropLast_concat, show (A0 ++ [a]).getLastD 0 = a from by simp] at k
          exact k
      · rw [decide_eq_false h0]
        exact els fun w => h0 w.1
    · rw [decide_eq_false hp]
      refine els fun w => hp ?_
      have := w.2
      simpa using this
theorem lp1 {n : Nat} {xs : List D} {r h z : Int} {zs : List Int} {qs K : List P2} {A : List Int} {q : P2} {v6 v7 v8 v9 v10 v11 : Option Sl} {T : Nat} {E : DE} (hl : A.length = K.length) (hk : K.length < 1000) (pq : Pas n xs q)
    (hn : ∀ v6 v7 v8 v9 v10 v11, E.nx (lpSt xs r zs qs (redS xs (K, A, h) (q, z)).1 (redS xs (K, A, h) (q, z)).2.1 (redS xs (K, A, h) (q, z)).2.2 (some (.fz (stD q))) (some (.fz (.int z))) v6 v7 v8 v9 v10 v11 T)) :
    G_lp1 E (lpSt xs r zs qs K A h (some (.fz (stD q))) (some (.fz (.int z))) v6 v7 v8 v9 v10 v11 T) := by
  refine ⟨rfl, lgate_pas pq fun c d _ _ _ => ⟨rfl, trivial, _, atI_last _, ?_⟩⟩
  exact lp3 hl hk pq.size.1 pq.size.2 rfl rfl fun v11 => hn _ _ _ _ _ v11
section
theorem m__law_plain : ∀ (ds : List D) T post ex, ds.length = 2 → S__law_plain ds T post ex → G__law_plain (endsOf post ex) (startD 12 ds T) := by
  rintro ds T post ex _ ⟨n, xs, r, zs, qs, e, rfl, hw, hp⟩
  obtain ⟨zi, zl⟩ := zip_item hw.ln
  have hmx := hw.mx
  have h0 : atI (zs.map D.int) 0 = some (.int (zs.getD 0 0)) := int_at (i := 0) (by have := hw.ln; omega)
  refine ⟨trivial, _, rfl, _, h0, (show (1 : Nat) ≤ 100000 from by omega), (show (0 : Nat) ≤ 100000 from by omega), ?_⟩
  show gFor (iZip2 (dIxV 1 (dC (.int 2))) (dSl (dIxV 1 (dC (.int 1))) (oAt (dC (.int 1))) oNo)) (tgTup 2 (tgCons (tgN 4) (tgCons (tgN 5) tgNil))) G_lp1 { endsOf post ex with nx := G_lp0 (endsOf post ex) } (lpSt xs r zs qs [] [] (zs.getD 0 0) none none none none none none none none T)
  refine gFor_inv (fun i s => ∃ v4 v5 v6 v7 v8 v9 v10 v11, s = lpSt xs r zs qs (redN xs zs qs i).1 (redN xs zs qs i).2.1 (redN xs zs qs i).2.2 v4 v5 v6 v7 v8 v9 v10 v11 T) (zipD (qs.map stD) (cutD (zs.map D.int) (some 1) none)) (fun P hP => ⟨trivial, _, rfl, trivial, _, rfl, hP _ ⟨_, _, _, _, _, _, _, _, rfl⟩⟩) ?_ ?_
  · rintro i d s hi ⟨v4, v5, v6, v7, v8, v9, v10, v11, rfl⟩ R hR
    obtain ⟨q, hq, rfl⟩ := zi i d hi
    have li := (List.getElem?_eq_some_iff.mp hq).1
    obtain ⟨_, ln, pl, pa, mx⟩ := red_inv hw i (by omega)
    refine ⟨rfl, ?_⟩
    refine lp1 (n := n) (E := { endsOf post ex with nx := R, ct := R, bk := G_lp0 (endsOf post ex) }) ln (by omega) (hw.pa q (List.mem_of_getElem? hq)) fun v6 v7 v8 v9 v10 v11 => hR _ ⟨some (.fz (stD q)), some (.fz (.int (zs.getD (i + 1) 0))), v6, v7, v8, v9, v10, v11, ?_⟩
    rw [redN_step hq]
    rfl
  · rintro s ⟨v4, v5, v6, v7, v8, v9, v10, v11, rfl⟩
    rw [zl]
    unfold G_lp0
    have e1 : (redZ xs zs qs).map D.int = (redN xs zs qs qs.length).2.1.map D.int ++ [D.int (redN xs zs qs qs.length).2.2] := by
      show ((redN xs zs qs qs.length).2.1 ++ [_]).map D.int = _
      rw [List.map_append]
      rfl
    unfold wkD at hp
    rw [e1] at hp
    exact ⟨trivial, _, rfl, (show (3 : Nat) ≤ 100000 from by omega), hp⟩
end
end Law

set_option Elab.async false
set_option linter.all false
set_option maxRecDepth 100000
set_option maxHeartbeats 4000000
namespace Law
open PySem L2 DL
variable [Tb]
/-! ### what the law says of plain walks -/
def S__law_pf_turned : PF := fun ds T post _ => ∃ q : P2, ds = [stD q] ∧ post (.fz (stD (turn q))) T
def G__law_pf_turned : DG := (gRet (dTup (aCons (dIxV 0 (dC (.int 0))) (aCons (dOp dSub (dC (.int 1)) (dIxV 0 (dC (.int 1)))) aNil))))
theorem m__law_pf_turned : ∀ (ds : List D) T post ex, ds.length = 1 → S__law_pf_turned ds T post ex → G__law_pf_turned (endsOf post ex) (startD 1 ds T) := by
  rintro ds T post ex _ ⟨q, rfl, hp⟩
  exact ⟨trivial, _, rfl, trivial, _, rfl, (show (2 : Nat) ≤ 100000 from by omega), hp⟩
def S__law_pf_turns : PF := fun ds T post _ => ∃ (xs : List D) (r : Int) (zs : List Int) (qs : List P2) (i : Nat) (q : P2), ds = [.tup xs, wkD r zs qs, .int i] ∧ qs[i]? = some q ∧ ∀ b : Bool, (b = true ↔ qs[i + 1]? = some (turn q)) → post (.fz (.bl b)) T
def G_pt1 : DG := (gRet (dOp dEq (dIxV 3 (dOp dAdd (dVar 2) (dC (.int 1)))) (dCall S__law_pf_turned 1 (aCons (dIxV 3 (dVar 2)) aNil))))
def G__law_pf_turns : DG := (gSeq (gSet 3 (dIxV 1 (dC (.int 2))))
    (gSeq (gIf (tNotD (dTest (dChain (dCmpI fun i j => decide (i ≤ j)) (dCmpI fun i j => decide (i < j)) (dC (.int 0)) (dVar 2) (dOp dSub (dCB cLen (aCons (dVar 3) aNil)) (dC (.int 1)))))) (gRet (dC (.bl false))) gNil)
    G_pt1))
theorem m__law_pf_turns : ∀ (ds : List D) T post ex, ds.length = 3 → S__law_pf_turns ds T post ex → G__law_pf_turns (endsOf post ex) (startD 4 ds T) := by
  rintro ds T post ex _ ⟨xs, r, zs, qs, i, q, rfl, hq, hp⟩
  refine ⟨trivial, _, rfl, ?_⟩
  show (match D.bl (decide ((0 : Int) ≤ (i : Int))) with | .bl true => (match D.bl (decide ((i : Int) < ((qs.map stD).length : Int) - 1)) with | .bl k => (if (!k) = true then post (.fz (.bl false)) T else G_pt1 (endsOf post ex) ⟨[some (.fz (.tup xs)), some (.fz (wkD r zs qs)), some (.fz (.int i)), some (.fz (.tup (qs.map stD)))], T⟩) | _ => False) | .bl false => (if (!false) = true then post (.fz (.bl false)) T else G_pt1 (endsOf post ex) ⟨[some (.fz (.tup xs)), some (.fz (wkD r zs qs)), some (.fz (.int i)), some (.fz (.tup (qs.map stD)))], T⟩) | _ => False)
  rw [List.length_map, decide_eq_true (show (0 : Int) ≤ (i : Int) from by omega)]
  by_cases h : i + 1 < qs.length
  · rw [decide_eq_true (show (i : Int) < (qs.length : Int) - 1 from by omega)]
    have e1 : qs[i + 1]? = some qs[i + 1] := List.getElem?_eq_getElem h
    refine ⟨trivial, _, st_at1 e1, trivial, _, st_at hq, rfl, q, rfl, rfl, rfl, ?_⟩
    show post (.fz (.bl (PyData.eqv (py (stD qs[i + 1])) (py (stD (turn q)))))) T
    rw [eqv_st]
    refine hp _ ?_
    rw [e1]
    simp
  · rw [decide_eq_false (show ¬ (i : Int) < (qs.length : Int) - 1 from by omega)]
    refine hp false ⟨fun z => (by cases z), fun z => ?_⟩
    exact absurd (List.getElem?_eq_some_iff.mp z).1 h
noncomputable def spotB (xs : List D) (zs : List Int) (qs : List P2) (i : Nat) : Bool := @decide (∃ q, qs[i]? = some q ∧ Spot xs zs qs q i) (Classical.propDecidable _)
theorem spotB_true {xs : List D} {zs : List Int} {qs : List P2} {i : Nat} {q : P2} (e : qs[i]? = some q) (h : Spot xs zs qs q i) : spotB xs zs qs i = true := by unfold spotB; exact @decide_eq_true _ (Classical.propDecidable _) ⟨q, e, h⟩
theorem spotB_false {xs : List D} {zs : List Int} {qs : List P2} {i : Nat} {q : P2} (e : qs[i]? = some q) (h : ¬ Spot xs zs qs q i) : spotB xs zs qs i = false := by
  unfold spotB
  refine @decide_eq_false _ (Classical.propDecidable _) ?_
  rintro ⟨p, e2, h2⟩
  rw [e] at e2
  cases e2
  exact h h2
theorem spotB_iff {xs : List D} {zs : List Int} {qs : List P2} {i : Nat} : spotB xs zs qs i = true ↔ ∃ q, qs[i]? = some q ∧ Spot xs zs qs q i := ⟨fun h => @of_decide_eq_true _ (Classical.propDecidable _) h, fun ⟨q, e, h⟩ => spotB_true e h⟩
noncomputable def spotsTo (xs : List D) (zs : List Int) (qs : List P2) (m : Nat) : List D := ((List.range m).filter (spotB xs zs qs)).map fun i : Nat => D.int i
noncomputable def spotsL (xs : List D) (zs : List Int) (qs : List P2) : List D := spotsTo xs zs qs qs.length
theorem spotsTo_succ (xs : List D) (zs : List Int) (qs : List P2) (m : Nat) : spotsTo xs zs qs (m + 1) = spotsTo xs zs qs m ++ (if spotB xs zs qs m = true then [D.int m] else []) := by
  unfold spotsTo
  rw [List.range_succ, List.filter_append, List.map_append]
  congr 1
  by_cases h : spotB xs zs qs m = true
  · rw [if_pos h, List.filter_cons_of_pos h]
    rfl
  · rw [if_neg h, List.filter_cons_of_neg h]
    rfl
theorem spotsTo_len (xs : List D) (zs : List Int) (qs : List P2) (m : Nat) : (spotsTo xs zs qs m).length ≤ m := by
  unfold spotsTo
  rw [List.length_map]
  have := List.length_filter_le (spotB xs zs qs) (List.range m)
  rw [List.length_range] at this
  exact this
theorem spotsL_mem {xs : List D} {zs : List Int} {qs : List P2} {d : D} (h : d ∈ spotsL xs zs qs) : ∃ (i : Nat) (q : P2), d = .int i ∧ qs[i]? = some q ∧ Spot xs zs qs q i := by
  unfold spotsL spotsTo at h
  obtain ⟨i, hi, rfl⟩ := List.mem_map.mp h
  obtain ⟨q, e, s⟩ := spotB_iff.mp (List.mem_filter.mp hi).2
  exact ⟨i, q, rfl, e, s⟩
theorem spotsL_has {xs : List D} {zs : List Int} {qs : List P2} {i : Nat} {q : P2} (e : qs[i]? = some q) (h : Spot xs zs qs q i) : D.int i ∈ spotsL xs zs qs := by
  unfold spotsL spotsTo
  exact List.mem_map.mpr ⟨i, List.mem_filter.mpr ⟨List.mem_range.mpr (List.getElem?_eq_some_iff.mp e).1, spotB_true e h⟩, rfl⟩
theorem spotsL_ints {xs : List D} {zs : List Int} {qs : List P2} : ∀ d ∈ spotsL xs zs qs, ∃ k : Int, d = .int k := fun d h => by
  obtain ⟨i, q, e, _⟩ := spotsL_mem h
  exact ⟨i, e⟩
theorem spotsL_nil {xs : List D} {zs : List Int} {qs : List P2} : spotsL xs zs qs = [] ↔ ∀ i q, qs[i]? = some q → ¬ Spot xs zs qs q i := by
  constructor
  · intro h i q e s
    have := spotsL_has e s
    rw [h] at this
    cases this
  · intro h
    cases z : spotsL xs zs qs with
    | nil => rfl
    | cons d ds =>
      obtain ⟨i, q, _, e, s⟩ := spotsL_mem (d := d) (by rw [z]; exact List.mem_cons_self)
      exact absurd s (h i q e)
def S__law_pf_spots : PF := fun ds T post _ => ∃ (n : Nat) (xs : List D) (r : Int) (zs : List Int) (qs : List P2) (e : Int), ds = [.tup xs, wkD r zs qs] ∧ Wk n xs r zs qs e ∧ post (.fz (.tup (spotsL xs zs qs))) T
def T_ps1 : DFT := (dTest (dOp dEq (dOp dMod (dCB cInt (aCons (dOp dIx (dIxV 1 (dC (.int 1))) (dOp dAdd (dVar 3) (dC (.int 1)))) aNil)) (dCB cAbs (aCons (dVar 4) aNil))) (dC (.int 0))))
def G_ps2 : DG := (gSeq (gSet 4 (dOp dIx (dCall S__law_gate 2 (aCons (dVar 0) (aCons (dOp dIx (dIxV 1 (dC (.int 2))) (dVar 3)) aNil))) (dC (.int 3))))
    (gIf T_ps1 (gApp 2 (dVar 3)) gNil))
def G_ps1 : DG := (gIf (dTest (dCall S__law_pf_turns 3 (aCons (dVar 0) (aCons (dVar 1) (aCons (dVar 3) aNil))))) G_ps2 gNil)
def G_ps0 : DG := (gRet (dCB cTuple (aCons (dVar 2) aNil)))
def G__law_pf_spots : DG := (gSeq (gSetO 2 (dLst aNil))
    (gSeq (gFor (iRng1D (dCB cLen (aCons (dIxV 1 (dC (.int 2))) aNil))) (tgN 3) G_ps1)
    G_ps0))
def psSt (xs : List D) (r : Int) (zs : List Int) (qs : List P2) (js : List D) (v3 v4 : Option Sl) (T : Nat) : DS := ⟨[some (.fz (.tup xs)), some (.fz (wkD r zs qs)), some (.ow (.lst js)), v3, v4], T⟩
theorem ps1 {n : Nat} {xs : List D} {r e : Int} {zs : List Int} {qs : List P2} {js : List D} {i : Nat} {q : P2} {v4 : Option Sl} {T : Nat} {E : DE} (hw : Wk n xs r zs qs e) (hq : qs[i]? = some q) (hj : js.length < 1001) (h1 : Spot xs zs qs q i → ∀ v4, E.nx (psSt xs r zs qs (js ++ [.int i]) (some (.fz (.int i))) v4 T)) (h0 : ¬ Spot xs zs qs q i → ∀ v4, E.nx (psSt xs r zs qs js (some (.fz (.int i))) v4 T)) :
    G_ps1 E (psSt xs r zs qs js (some (.fz (.int i))) v4 T) := by
  have pq := hw.pa q (List.mem_of_getElem? hq)
  have hi := (List.getElem?_eq_some_iff.mp hq).1
  have my := mag_pos pq.size.2.1
  refine ⟨rfl, xs, r, zs, qs, i, q, rfl, hq, fun b hb => ?_⟩
  cases b with
  | false => exact h0 (fun s => by have := hb.mpr s.1; cases this) _
  | true =>
    have s1 := hb.mp rfl
    have li := (List.getElem?_eq_some_iff.mp s1).1
    refine ⟨trivial, _, rfl, _, st_at hq, rfl, lgate_pas pq fun c d _ _ _ => ⟨_, rfl, ?_⟩⟩
    refine ⟨trivial, _, rfl, _, int_at1 (by have := hw.ln; omega), (show mag (arN xs q) ≠ 0 from by omega), rfl, rfl, ?_⟩
    show (if PyData.eqv (py (.int ((zs.getD (i + 1) 0).fmod (mag (arN xs q))))) (py (.int 0)) = true then _ else _)
    rw [eqv_int]
    by_cases hz : (zs.getD (i + 1) 0).fmod (mag (arN xs q)) = 0
    · rw [decide_eq_true hz]
      exact ⟨(show js.length < 100000 from by omega), h1 ⟨s1, hz⟩ _⟩
    · rw [decide_eq_false hz]
      exact h0 (fun s => hz s.2) _
section
theorem m__law_pf_spots : ∀ (ds : List D) T post ex, ds.length = 2 → S__law_pf_spots ds T post ex → G__law_pf_spots (endsOf post ex) (startD 5 ds T) := by
  rintro ds T post ex _ ⟨n, xs, r, zs, qs, e, rfl, hw, hp⟩
  have hmx := hw.mx
  have tl : ((((qs.map stD).length : Nat) : Int)).toNat = qs.length := by rw [List.length_map]; omega
  refine ⟨(show (0 : Nat) ≤ 100000 from by omega), ?_⟩
  show gFor (iRng1D (dCB cLen (aCons (dIxV 1 (dC (.int 2))) aNil))) (tgN 3) G_ps1 { endsOf post ex with nx := G_ps0 (endsOf post ex) } (psSt xs r zs qs [] none none T)
  refine gFor_inv (fun i s => ∃ v3 v4, s = psSt xs r zs qs (spotsTo xs zs qs i) v3 v4 T) (rangeD 0 qs.length) (fun P hP => ?_) ?_ ?_
  · refine ⟨trivial, _, rfl, ?_⟩
    have k := hP (psSt xs r zs qs [] none none T) ⟨none, none, rfl⟩
    rw [← tl] at k
    refine ⟨?_, ?_, k⟩
    · show (((qs.map stD).length : Nat) : Int) < _
      rw [List.length_map]
      omega
    · have : 0 ≤ (((qs.map stD).length : Nat) : Int) := by omega
      show -4611686018427387904 ≤ (((qs.map stD).length : Nat) : Int)
      omega
  · rintro i d s hi ⟨v3, v4, rfl⟩ R hR
    obtain ⟨rfl, hi2⟩ := rangeD_get hi
    have eq1 : qs[i]? = some qs[i] := List.getElem?_eq_getElem hi2
    have hl := spotsTo_len xs zs qs i
    have es := spotsTo_succ xs zs qs i
    rw [Int.zero_add]
    refine ps1 (E := { endsOf post ex with nx := R, ct := R, bk := G_ps0 (endsOf post ex) }) hw eq1 (by omega) (fun sp v4 => hR _ ⟨some (.fz (.int i)), v4, ?_⟩) (fun no v4 => hR _ ⟨some (.fz (.int i)), v4, ?_⟩)
    · rw [es, spotB_true eq1 sp]
      rfl
    · rw [es, spotB_false eq1 no, if_neg (by simp), List.append_nil]
      rfl
  · rintro s ⟨v3, v4, rfl⟩
    rw [rangeD_len]
    unfold G_ps0
    exact hp
end
end Law

set_option Elab.async false
set_option linter.all false
set_option maxRecDepth 100000
set_option maxHeartbeats 4000000
namespace Law
open PySem L2 DL
variable [Tb]
theorem eqv_tnil (ds : List D) : PyData.eqv (py (.tup ds)) (py (.tup [])) = ds.isEmpty := by
  cases ds with
  | nil => rfl
  | cons d ds =>
    unfold py
    rfl
theorem ok_ints {js : List D} (h : ∀ d ∈ js, ∃ k : Int, d = .int k) : okD (.tup js) = true := okD_of (n := 9) (by
  unfold okN
  refine okNs_iff.mpr fun d hd => ?_
  obtain ⟨k, rfl⟩ := h d hd
  rfl)
theorem zip_item2 {zs : List Int} {qs : List P2} (hl : zs.length = qs.length + 1) : (∀ (i : Nat) (d : D), (zipD (zs.map D.int) (qs.map stD))[i]? = some d → ∃ q, qs[i]? = some q ∧ d = D.tup [.int (zs.getD i 0), stD q]) ∧ (zipD (zs.map D.int) (qs.map stD)).length = qs.length := by
  refine ⟨fun i d h => ?_, ?_⟩
  · unfold zipD at h
    rw [List.getElem?_map] at h
    cases e : ((zs.map D.int).zip (qs.map stD))[i]? with
    | none => rw [e] at h; cases h
    | some p =>
      rw [e] at h
      cases h
      obtain ⟨h2, h1⟩ := List.getElem?_zip_eq_some.mp e
      obtain ⟨q, hq, e3⟩ := map_st h1
      refine ⟨q, hq, ?_⟩
      rw [List.getElem?_map] at h2
      cases e4 : zs[i]? with
      | none => rw [e4] at h2; cases h2
      | some y =>
        rw [e4] at h2
        have e6 : p.1 = D.int y := (Option.some.inj h2).symm
        have e5 : zs.getD i 0 = y := by
          rw [List.getD_eq_getElem?_getD, e4]
          rfl
        rw [e5, ← e3, ← e6]
  · rw [zipD_len, List.length_map, List.length_map, hl]
    omega
/-! ### _law_pf_is_plain -/
def S__law_pf_is_plain : PF := fun ds T post _ => ∃ (n : Nat) (xs : List D) (r : Int) (zs : List Int) (qs : List P2) (e : Int), ds = [.tup xs, wkD r zs qs] ∧ Wk n xs r zs qs e ∧ post (.fz (.bl (plainB xs zs qs))) T
def G_ip1 : DG := (gIf (tNotD (dTest (dChain (dCmpI fun i j => decide (i ≤ j)) (dCmpI fun i j => decide (i < j)) (dC (.int 0)) (dVar 2) (dCB cAbs (aCons (dOp dIx (dCall S__law_gate 2 (aCons (dVar 0) (aCons (dVar 3) aNil))) (dC (.int 1))) aNil))))) (gRet (dC (.bl false))) gNil)
def G_ip2 : DG := (gSeq (gFor (iZip2 (dIxV 1 (dC (.int 1))) (dIxV 1 (dC (.int 2)))) (tgTup 2 (tgCons (tgN 2) (tgCons (tgN 3) tgNil))) G_ip1)
    (gRet (dC (.bl true))))
def G__law_pf_is_plain : DG := (gSeq (gIf (dTest (dOp dNe (dCall S__law_pf_spots 2 (aCons (dVar 0) (aCons (dVar 1) aNil))) (dTup aNil))) (gRet (dC (.bl false))) gNil)
    G_ip2)
def ipSt (xs : List D) (r : Int) (zs : List Int) (qs : List P2) (v2 v3 : Option Sl) (T : Nat) : DS := ⟨[some (.fz (.tup xs)), some (.fz (wkD r zs qs)), v2, v3], T⟩
theorem ip1 {n : Nat} {xs : List D} {r e : Int} {zs : List Int} {qs : List P2} {i : Nat} {q : P2} {T : Nat} {E : DE} (hw : Wk n xs r zs qs e) (hq : qs[i]? = some q) (h1 : Rng xs zs q i → E.nx (ipSt xs r zs qs (some (.fz (.int (zs.getD i 0)))) (some (.fz (stD q))) T)) (h0 : ¬ Rng xs zs q i → E.rt (.fz (.bl false)) T) :
    G_ip1 E (ipSt xs r zs qs (some (.fz (.int (zs.getD i 0)))) (some (.fz (stD q))) T) := by
  have pq := hw.pa q (List.mem_of_getElem? hq)
  show (match D.bl (decide (0 ≤ zs.getD i 0)) with | .bl true => (dCB cAbs (aCons (dOp dIx (dCall S__law_gate 2 (aCons (dVar 0) (aCons (dVar 3) aNil))) (dC (.int 1))) aNil)) (ipSt xs r zs qs (some (.fz (.int (zs.getD i 0)))) (some (.fz (stD q))) T) (fun w s3 => dCmpI (fun i j => decide (i < j)) (.int (zs.getD i 0)) w fun z' => (match z' with | .bl k => (if (!k) = true then E.rt (.fz (.bl false)) s3.T else E.nx s3) | _ => False)) E.ex | .bl false => (if (!false) = true then E.rt (.fz (.bl false)) T else E.nx (ipSt xs r zs qs (some (.fz (.int (zs.getD i 0)))) (some (.fz (stD q))) T)) | _ => False)
  by_cases c0 : 0 ≤ zs.getD i 0
  · rw [decide_eq_true c0]
    refine ⟨rfl, lgate_pas pq fun c d _ _ _ => ⟨_, rfl, ?_⟩⟩
    show (if (!decide (zs.getD i 0 < mag (lvN xs q))) = true then E.rt (.fz (.bl false)) T else E.nx (ipSt xs r zs qs (some (.fz (.int (zs.getD i 0)))) (some (.fz (stD q))) T))
    by_cases c1 : zs.getD i 0 < mag (lvN xs q)
    · rw [decide_eq_true c1]
      exact h1 ⟨c0, c1⟩
    · rw [decide_eq_false c1]
      exact h0 fun z => c1 z.2
  · rw [decide_eq_false c0]
    exact h0 fun z => c0 z.1
section
theorem ip2 {n : Nat} {xs : List D} {r e : Int} {zs : List Int} {qs : List P2} {T : Nat} {post : Sl → Nat → Prop} {ex : Str → List (Str × D) → Nat → Prop} (hw : Wk n xs r zs qs e) (ns : ∀ i q, qs[i]? = some q → ¬ Spot xs zs qs q i) (hp : post (.fz (.bl (plainB xs zs qs))) T) : G_ip2 (endsOf post ex) (ipSt xs r zs qs none none T) := by
  obtain ⟨zi, zl⟩ := zip_item2 hw.ln
  refine gFor_inv (fun i s => (∀ j q, j < i → qs[j]? = some q → Rng xs zs q j) ∧ ∃ v2 v3, s = ipSt xs r zs qs v2 v3 T) (zipD (zs.map D.int) (qs.map stD)) (fun P hP => ⟨trivial, _, rfl, trivial, _, rfl, hP _ ⟨fun j q hj => absurd hj (by omega), _, _, rfl⟩⟩) ?_ ?_
  · rintro i d s hi ⟨hI, v2, v3, rfl⟩ R hR
    obtain ⟨q, hq, rfl⟩ := zi i d hi
    refine ⟨rfl, ?_⟩
    refine ip1 (E := { endsOf post ex with nx := R, ct := R, bk := gRet (dC (.bl true)) (endsOf post ex) }) hw hq (fun ok => hR _ ⟨fun j p hj hp' => ?_, some (.fz (.int (zs.getD i 0))), some (.fz (stD q)), rfl⟩) (fun no => ?_)
    · by_cases z : j = i
      · subst z
        rw [hq] at hp'
        cases hp'
        exact ok
      · exact hI j p (by omega) hp'
    · rw [plainB_false (fun hP => no (hP i q hq).1)] at hp
      exact hp
  · rintro s ⟨hI, v2, v3, rfl⟩
    rw [plainB_true (fun i q hq => ⟨hI i q (by rw [zl]; exact (List.getElem?_eq_some_iff.mp hq).1) hq, ns i q hq⟩)] at hp
    exact hp
end
theorem m__law_pf_is_plain : ∀ (ds : List D) T post ex, ds.length = 2 → S__law_pf_is_plain ds T post ex → G__law_pf_is_plain (endsOf post ex) (startD 4 ds T) := by
  rintro ds T post ex _ ⟨n, xs, r, zs, qs, e, rfl, hw, hp⟩
  refine ⟨rfl, n, xs, r, zs, qs, e, rfl, hw, (show (0 : Nat) ≤ 100000 from by omega), ok_ints spotsL_ints, rfl, ?_⟩
  show (if (!PyData.eqv (py (.tup (spotsL xs zs qs))) (py (.tup []))) = true then post (.fz (.bl false)) T else G_ip2 (endsOf post ex) (ipSt xs r zs qs none none T))
  rw [eqv_tnil]
  have hjs := spotsL_nil (xs := xs) (zs := zs) (qs := qs)
  generalize spotsL xs zs qs = js at hjs
  cases js with
  | nil => exact ip2 hw (hjs.mp rfl) hp
  | cons d ds =>
    have h1 : ¬ Plain xs zs qs := fun hP => by
      have := hjs.mpr fun i q hq => (hP i q hq).2
      cases this
    rw [plainB_false h1] at hp
    exact hp
end Law

set_option Elab.async false
set_option linter.all false
set_option maxRecDepth 100000
set_option maxHeartbeats 4000000
namespace Law
open PySem L2 DL
variable [Tb]
theorem cut_take (xs : List D) (i : Nat) (h : i ≤ xs.length) : cutD xs none (some (i : Int)) = xs.take i := by
  have e1 : HT.sIx xs.length 0 none = 0 := rfl
  have e2 : HT.sIx xs.length xs.length (some (i : Int)) = i := by
    rw [HT.sIx_nat]
    omega
  unfold cutD
  rw [e1, e2]
  simp
theorem cut_drop (xs : List D) (i : Nat) (h : i ≤ xs.length) : cutD xs (some (i : Int)) none = xs.drop i := by
  have e1 : HT.sIx xs.length 0 (some (i : Int)) = i := by
    rw [HT.sIx_nat]
    omega
  have e2 : HT.sIx xs.length xs.length none = xs.length := rfl
  unfold cutD
  rw [e1, e2, List.take_of_length_le]
  rw [List.length_drop]
  exact Nat.le_refl _
/-! ### _law_pf_room, _law_pf_put, _law_pf_doors -/
theorem Wk.room {n : Nat} {xs : List D} {r e : Int} {zs : List Int} {qs : List P2} (hw : Wk n xs r zs qs e) (i : Nat) (hi : i < qs.length) : ∃ m b, goes xs r ((qs.take i).map stD) = some m ∧ roomsOf xs (stD qs[i]) = some (m, b) ∧ goes xs r ((qs.take (i + 1)).map stD) = some b := by
  have eq1 : qs[i]? = some qs[i] := List.getElem?_eq_getElem hi
  have et : (qs.take (i + 1)).map stD = (qs.take i).map stD ++ [stD qs[i]] := by rw [List.take_add_one, eq1, List.map_append]; rfl
  have g3 : goes xs r (((qs.take (i + 1)).map stD) ++ (qs.drop (i + 1)).map stD) = some e := by rw [← List.map_append, List.take_append_drop]; exact hw.go
  obtain ⟨b, g4, _⟩ := goes_split _ _ _ _ g3
  have g5 := g4
  rw [et] at g5
  obtain ⟨m, g6, g7⟩ := goes_split _ _ _ _ g5
  exact ⟨m, b, g6, goes_one g7, g4⟩
def S__law_pf_room : PF := fun ds T post _ => ∃ (n : Nat) (xs : List D) (r : Int) (zs : List Int) (qs : List P2) (e : Int) (i : Nat), ds = [.tup xs, wkD r zs qs, .int i] ∧ Wk n xs r zs qs e ∧ i ≤ qs.length ∧ ∀ m : Nat, goes xs r ((qs.take i).map stD) = some (m : Int) → m < n → post (.fz (.int m)) T
def G__law_pf_room : DG := (gRet (dIfE (dTest (dOp (dCmpI fun i j => decide (j < i)) (dVar 2) (dC (.int 0)))) (dOp dIx (dCall S__law_gate 2 (aCons (dVar 0) (aCons (dOp dIx (dIxV 1 (dC (.int 2))) (dOp dSub (dVar 2) (dC (.int 1)))) aNil))) (dC (.int 2))) (dIxV 1 (dC (.int 0)))))
theorem m__law_pf_room : ∀ (ds : List D) T post ex, ds.length = 3 → S__law_pf_room ds T post ex → G__law_pf_room (endsOf post ex) (startD 3 ds T) := by
  rintro ds T post ex _ ⟨n, xs, r, zs, qs, e, i, rfl, hw, hi, hp⟩
  cases i with
  | zero =>
    have k := hp r.toNat (by rw [List.take_zero]; show some r = _; congr 1; have := hw.r0; omega) (by have := hw.rn; have := hw.r0; omega)
    rw [show ((r.toNat : Nat) : Int) = r from by have := hw.r0; omega] at k
    exact ⟨trivial, _, rfl, k⟩
  | succ i =>
    have li : i < qs.length := by omega
    have eq1 : qs[i]? = some qs[i] := List.getElem?_eq_getElem li
    have pq : Pas n xs qs[i] := hw.pa _ (List.getElem_mem _)
    obtain ⟨m, b, g1, g2, g3⟩ := hw.room i li
    show (if decide ((0 : Int) < ((i + 1 : Nat) : Int)) = true then _ else _)
    rw [decide_eq_true (show (0 : Int) < ((i + 1 : Nat) : Int) from by omega)]
    refine iteT ?_
    refine ⟨trivial, _, rfl, stD qs[i], ?_, rfl, lgate_pas pq fun c d hr _ ld => ⟨_, rfl, hp d ?_ ld⟩⟩
    · rw [show ((i + 1 : Nat) : Int) - 1 = (i : Int) from by omega]
      exact st_at eq1
    · rw [hr] at g2
      cases g2
      exact g3
def putZ (zs : List Int) (i : Nat) (a : Int) : List Int := zs.take i ++ [a, 0, zs.getD i 0 - a] ++ zs.drop (i + 1)
def putQ (qs : List P2) (i : Nat) (q : P2) : List P2 := qs.take i ++ [q, turn q] ++ qs.drop i
def S__law_pf_put : PF := fun ds T post _ => ∃ (r : Int) (zs : List Int) (qs : List P2) (i : Nat) (q : P2) (a : Int), ds = [wkD r zs qs, .int i, stD q, .int a] ∧ zs.length = qs.length + 1 ∧ i ≤ qs.length ∧ qs.length ≤ 1000 ∧ post (.fz (wkD r (putZ zs i a) (putQ qs i q))) T
def G__law_pf_put : DG := (gSeq (gPar 4 5 (aCons (dIxV 0 (dC (.int 1))) (aCons (dIxV 0 (dC (.int 2))) aNil)))
    (gSeq (gSet 6 (dTup (aCons (dVar 3) (aCons (dC (.int 0)) (aCons (dOp dSub (dIxV 4 (dVar 1)) (dVar 3)) aNil)))))
    (gSeq (gSet 4 (dOp dAdd (dOp dAdd (dSl (dVar 4) oNo (oAt (dVar 1))) (dVar 6)) (dSl (dVar 4) (oAt (dOp dAdd (dVar 1) (dC (.int 1)))) oNo)))
    (gSeq (gSet 7 (dTup (aCons (dVar 2) (aCons (dCall S__law_pf_turned 1 (aCons (dVar 2) aNil)) aNil))))
    (gRet (dTup (aCons (dIxV 0 (dC (.int 0))) (aCons (dVar 4) (aCons (dOp dAdd (dOp dAdd (dSl (dVar 5) oNo (oAt (dVar 1))) (dVar 7)) (dSl (dVar 5) (oAt (dVar 1)) oNo)) aNil)))))))))
theorem m__law_pf_put : ∀ (ds : List D) T post ex, ds.length = 4 → S__law_pf_put ds T post ex → G__law_pf_put (endsOf post ex) (startD 8 ds T) := by
  rintro ds T post ex _ ⟨r, zs, qs, i, q, a, rfl, hl, hi, hm, hp⟩
  have c1 := cut_take (zs.map D.int) i (by rw [List.length_map]; omega)
  have c2 : cutD (zs.map D.int) (some ((i : Int) + 1)) none = (zs.map D.int).drop (i + 1) := cut_drop (zs.map D.int) (i + 1) (by rw [List.length_map]; omega)
  have c3 := cut_take (qs.map stD) i (by rw [List.length_map]; omega)
  have c4 := cut_drop (qs.map stD) i (by rw [List.length_map]; omega)
  have z1 : (zs.map D.int).take i = (zs.take i).map D.int := List.map_take.symm
  have z2 : (zs.map D.int).drop (i + 1) = (zs.drop (i + 1)).map D.int := List.map_drop.symm
  have z3 : (qs.map stD).take i = (qs.take i).map stD := List.map_take.symm
  have z4 : (qs.map stD).drop i = (qs.drop i).map stD := List.map_drop.symm
  have n1 : (zs.take i).length = i := by rw [List.length_take]; omega
  have n2 : (zs.drop (i + 1)).length ≤ 1001 := by rw [List.length_drop]; omega
  have n3 : (qs.take i).length = i := by rw [List.length_take]; omega
  have n4 : (qs.drop i).length ≤ 1001 := by rw [List.length_drop]; omega
  refine ⟨trivial, _, rfl, trivial, _, rfl, ?_⟩
  refine ⟨trivial, _, int_at (by omega), (show (3 : Nat) ≤ 100000 from by omega), ?_⟩
  show (cutD (zs.map D.int) none (some (i : Int))).length + 3 ≤ 100000 ∧ (cutD (zs.map D.int) none (some (i : Int)) ++ [D.int a, D.int 0, D.int (zs.getD i 0 - a)]).length + (cutD (zs.map D.int) (some ((i : Int) + 1)) none).length ≤ 100000 ∧ _
  rw [c1, c2, z1, z2]
  refine ⟨by rw [List.length_map]; omega, by rw [List.length_append, List.length_map, List.length_map]; show _ + 3 + _ ≤ _; omega, ?_⟩
  refine ⟨rfl, q, rfl, (show (2 : Nat) ≤ 100000 from by omega), trivial, _, rfl, ?_⟩
  show (cutD (qs.map stD) none (some (i : Int))).length + 2 ≤ 100000 ∧ (cutD (qs.map stD) none (some (i : Int)) ++ [stD q, stD (turn q)]).length + (cutD (qs.map stD) (some (i : Int)) none).length ≤ 100000 ∧ _
  rw [c3, c4, z3, z4]
  refine ⟨by rw [List.length_map]; omega, by rw [List.length_append, List.length_map, List.length_map]; show _ + 2 + _ ≤ _; omega, (show (3 : Nat) ≤ 100000 from by omega), ?_⟩
  unfold wkD putZ putQ at hp
  rw [List.map_append, List.map_append, List.map_append, List.map_append] at hp
  exact hp
theorem put_wk {n : Nat} {xs : List D} {r e m b a : Int} {zs : List Int} {qs : List P2} {i : Nat} {q : P2} (hw : Wk n xs r zs qs e) (hi : i ≤ qs.length) (hm : qs.length ≤ 900) (pq : Pas n xs q) (hg : goes xs r ((qs.take i).map stD) = some m) (hr : roomsOf xs (stD q) = some (m, b)) : Wk n xs r (putZ zs i a) (putQ qs i q) e := by
  have hl := hw.ln
  refine ⟨fun p hp => ?_, ?_, ?_, ?_, hw.r0, hw.rn⟩
  · rcases List.mem_append.mp hp with h | h
    · rcases List.mem_append.mp h with h | h
      · exact hw.pa p (List.mem_of_mem_take h)
      · simp only [List.mem_cons, List.not_mem_nil, or_false] at h
        rcases h with rfl | rfl
        · exact pq
        · exact pq.turn
    · exact hw.pa p (List.mem_of_mem_drop h)
  · have g3 : goes xs r (((qs.take i).map stD) ++ (qs.drop i).map stD) = some e := by rw [← List.map_append, List.take_append_drop]; exact hw.go
    rw [goes_app _ _ _ _ hg] at g3
    show goes xs r ((qs.take i ++ [q, turn q] ++ qs.drop i).map stD) = some e
    rw [List.map_append, List.map_append, List.append_assoc, goes_app _ _ _ _ hg]
    have g4 : goes xs m [stD q] = some b := one_goes hr
    have g5 : goes xs b [stD (turn q)] = some m := one_goes (rooms_turn pq hr)
    show goes xs m ([stD q] ++ ([stD (turn q)] ++ (qs.drop i).map stD)) = some e
    rw [goes_app _ _ _ _ g4, goes_app _ _ _ _ g5]
    exact g3
  · show (zs.take i ++ [a, 0, zs.getD i 0 - a] ++ zs.drop (i + 1)).length = (qs.take i ++ [q, turn q] ++ qs.drop i).length + 1
    simp only [List.length_append, List.length_take, List.length_drop, List.length_cons, List.length_nil]
    omega
  · show (qs.take i ++ [q, turn q] ++ qs.drop i).length ≤ 1000
    simp only [List.length_append, List.length_take, List.length_drop, List.length_cons, List.length_nil]
    omega
end Law

set_option Elab.async false
set_option linter.all false
set_option maxRecDepth 100000
set_option maxHeartbeats 4000000
namespace Law
open PySem L2 DL
variable [Tb]
theorem nle {n m : Nat} (h : Nat.ble n m = true) : n ≤ m := Nat.le_of_ble_eq_true h
/-! ### _law_pf_doors -/
def S__law_pf_doors : PF := fun ds T post _ => ds = [.st] ∧ T + 200000 ≤ TM ∧ ∀ (n : Nat) (xs : List D) (T' : Nat), 1 ≤ n → n ≤ 3 → (∀ d ∈ xs, DoorIs n d) → xs.length ≤ 5 → (∀ i, i < n → Reach (xs.map endsD) i) → T ≤ T' → T' ≤ T + 200 → post (.fz (.tup [.int n, .tup xs])) T'
def G__law_pf_doors : DG := (gSeq (gSet 1 (dCall S__law_pick 2 (aCons (dVar 0) (aCons (dLst (aCons (dC (.int 1)) (aCons (dC (.int 2)) (aCons (dC (.int 1)) (aCons (dC (.int 3)) (aCons (dC (.int 2)) (aCons (dC (.int 1)) aNil))))))) aNil))))
    (gSeq (gSet 2 (dCall S__law_doors 3 (aCons (dVar 0) (aCons (dVar 1) (aCons (dIfE (dTest (dOp dEq (dVar 1) (dC (.int 1)))) (dC (.int 3)) (dC (.int 2))) aNil)))))
    (gRet (dTup (aCons (dVar 1) (aCons (dVar 2) aNil))))))
theorem m__law_pf_doors : ∀ (ds : List D) T post ex, ds.length = 1 → S__law_pf_doors ds T post ex → G__law_pf_doors (endsOf post ex) (startD 3 ds T) := by
  rintro ds T post ex _ ⟨rfl, hT, hp⟩
  refine ⟨nle rfl, rfl, .lst _, _, rfl, .inl rfl, nle rfl, nle rfl, (show T < TM from by omega), fun x hx => ?_⟩
  have hx : ∃ n : Nat, x = .int n ∧ 1 ≤ n ∧ n ≤ 3 := by
    simp only [List.mem_cons, List.not_mem_nil, or_false] at hx
    rcases hx with rfl | rfl | rfl | rfl | rfl | rfl
    · exact ⟨1, rfl, by omega, by omega⟩
    · exact ⟨2, rfl, by omega, by omega⟩
    · exact ⟨1, rfl, by omega, by omega⟩
    · exact ⟨3, rfl, by omega, by omega⟩
    · exact ⟨2, rfl, by omega, by omega⟩
    · exact ⟨1, rfl, by omega, by omega⟩
  obtain ⟨n, rfl, h1, h3⟩ := hx
  refine ⟨rfl, rfl, ?_⟩
  show (if PyData.eqv (py (.int (n : Int))) (py (.int 1)) = true then _ else _)
  rw [eqv_int]
  by_cases h : (n : Int) = 1
  · rw [decide_eq_true h]
    refine iteT ?_
    exact ⟨rfl, n, 3, rfl, h1, by omega, by omega, (show T + 1 + 100000 ≤ TM from by omega), fun xs T' a1 a2 a3 a4 a5 => ⟨nle rfl, hp n xs T' h1 h3 a1 (by omega) a3 (have b : T + 1 ≤ T' := a4; by omega) (have b : T' ≤ T + 1 + 20 * (n + 3) := a5; by omega)⟩⟩
  · rw [decide_eq_false h]
    exact ⟨rfl, n, 2, rfl, h1, by omega, by omega, (show T + 1 + 100000 ≤ TM from by omega), fun xs T' a1 a2 a3 a4 a5 => ⟨nle rfl, hp n xs T' h1 h3 a1 (by omega) a3 (have b : T + 1 ≤ T' := a4; by omega) (have b : T' ≤ T + 1 + 20 * (n + 2) := a5; by omega)⟩⟩
/-! ### _law_near_plain -/
def S__law_near_plain : PF := fun ds T post _ => ∃ (n : Nat) (xs : List D) (r : Int) (zs : List Int) (qs : List P2) (e : Int), ds = [.st, .tup xs, wkD r zs qs] ∧ (∀ d ∈ xs, DoorIs n d) ∧ xs.length ≤ 1000 ∧ Wk n xs r zs qs e ∧ qs.length ≤ 900 ∧ T + 1000 ≤ TM ∧
  ∀ ys T', (∀ d ∈ ys, ∃ zs' qs', d = wkD r zs' qs' ∧ Wk n xs r zs' qs' e) → ys.length ≤ 10 → T ≤ T' → T' ≤ T + 100 → post (.fz (.lst ys)) T'
def npSt (xs : List D) (r : Int) (zs : List Int) (qs : List P2) (F : List D) (v7 v8 v9 v10 v11 v12 : Option Sl) (T : Nat) : DS :=
  ⟨[some (.fz .st), some (.fz (.tup xs)), some (.fz (wkD r zs qs)), some (.fz (.int r)), some (.fz (.tup (zs.map D.int))), some (.fz (.tup (qs.map stD))), some (.ow (.lst F)), v7, v8, v9, v10, v11, v12], T⟩
def chg (zs : List Int) (i : Nat) (m : Int) : List Int := zs.take i ++ [zs.getD i 0 + m] ++ zs.drop (i + 1)
theorem chg_wk {n : Nat} {xs : List D} {r e : Int} {zs : List Int} {qs : List P2} (hw : Wk n xs r zs qs e) {i : Nat} (hi : i < zs.length) (m : Int) : Wk n xs r (chg zs i m) qs e := ⟨hw.pa, hw.go, by
  have := hw.ln
  show (zs.take i ++ [zs.getD i 0 + m] ++ zs.drop (i + 1)).length = _
  simp only [List.length_append, List.length_take, List.length_drop, List.length_cons, List.length_nil]
  omega, hw.mx, hw.r0, hw.rn⟩
def G_np3 : DG := (gSeq (gSet 11 (dOp dAdd (dOp dAdd (dSl (dVar 4) oNo (oAt (dVar 8))) (dTup (aCons (dOp dAdd (dIxV 4 (dVar 8)) (dVar 9)) aNil))) (dSl (dVar 4) (oAt (dOp dAdd (dVar 8) (dC (.int 1)))) oNo)))
    (gApp 6 (dTup (aCons (dVar 3) (aCons (dVar 11) (aCons (dVar 5) aNil))))))
theorem np3 {xs : List D} {r m : Int} {zs : List Int} {qs : List P2} {F : List D} {i : Nat} {v7 v10 v11 v12 : Option Sl} {T : Nat} {E : DE} (hz : zs.length ≤ 1001) (hi : i < zs.length) (hF : F.length < 100) (hn : ∀ v11, E.nx (npSt xs r zs qs (F ++ [wkD r (chg zs i m) qs]) v7 (some (.fz (.int i))) (some (.fz (.int m))) v10 v11 v12 T)) :
    G_np3 E (npSt xs r zs qs F v7 (some (.fz (.int i))) (some (.fz (.int m))) v10 v11 v12 T) := by
  have c1 := cut_take (zs.map D.int) i (by rw [List.length_map]; omega)
  have c2 : cutD (zs.map D.int) (some ((i : Int) + 1)) none = (zs.map D.int).drop (i + 1) := cut_drop (zs.map D.int) (i + 1) (by rw [List.length_map]; omega)
  have z1 : (zs.map D.int).take i = (zs.take i).map D.int := List.map_take.symm
  have z2 : (zs.map D.int).drop (i + 1) = (zs.drop (i + 1)).map D.int := List.map_drop.symm
  have n1 : (zs.take i).length = i := by rw [List.length_take]; omega
  have n2 : (zs.drop (i + 1)).length ≤ 1001 := by rw [List.length_drop]; omega
  refine ⟨trivial, _, int_at hi, nle rfl, ?_⟩
  show (cutD (zs.map D.int) none (some (i : Int))).length + 1 ≤ 100000 ∧ (cutD (zs.map D.int) none (some (i : Int)) ++ [D.int (zs.getD i 0 + m)]).length + (cutD (zs.map D.int) (some ((i : Int) + 1)) none).length ≤ 100000 ∧ _
  rw [c1, c2, z1, z2]
  refine ⟨by rw [List.length_map]; omega, by rw [List.length_append, List.length_map, List.length_map]; show _ + 1 + _ ≤ _; omega, nle rfl, (show F.length < 100000 from by omega), ?_⟩
  have k := hn (some (.fz (.tup ((chg zs i m).map D.int))))
  unfold wkD chg at k
  rw [List.map_append, List.map_append] at k
  exact k
theorem ok_stt (qs : List P2) : okD (.tup (qs.map stD)) = true := okD_of (n := 9) (by
  unfold okN
  refine okNs_iff.mpr fun d hd => ?_
  obtain ⟨q, _, rfl⟩ := List.mem_map.mp hd
  rfl)
def G_np2b : DG := (gSet 9 (dOp dMul (dOp dIx (dCall S__law_gate 2 (aCons (dVar 1) (aCons (dIxV 5 (dVar 10)) aNil))) (dC (.int 1))) (dCall S__law_pick 2 (aCons (dVar 0) (aCons (dLst (aCons (dC (.int 1)) (aCons (dNeg (dC (.int 1))) aNil))) aNil)))))
def G_np2 : DG := (gIf (tAndD (dTest (dOp dNe (dVar 5) (dTup aNil))) (dTest (dOp dEq (dCall S__law_draw 2 (aCons (dVar 0) (aCons (dC (.int 2)) aNil))) (dC (.int 0))))) (gSeq (gSet 10 (dCB cMin2 (aCons (dVar 8) (aCons (dOp dSub (dCB cLen (aCons (dVar 5) aNil)) (dC (.int 1))) aNil))))
    G_np2b) gNil)
theorem np2 {n : Nat} {xs : List D} {r e m0 : Int} {zs : List Int} {qs : List P2} {F : List D} {i : Nat} {v7 v10 v11 v12 : Option Sl} {T : Nat} {E : DE} (hw : Wk n xs r zs qs e) (hT : T + 10 ≤ TM) (hn : ∀ (m : Int) v10 T', T ≤ T' → T' ≤ T + 2 → E.nx (npSt xs r zs qs F v7 (some (.fz (.int i))) (some (.fz (.int m))) v10 v11 v12 T')) :
    G_np2 E (npSt xs r zs qs F v7 (some (.fz (.int i))) (some (.fz (.int m0))) v10 v11 v12 T) := by
  refine ⟨nle rfl, ok_stt qs, rfl, ?_⟩
  rw [eqv_tnil]
  cases qs with
  | nil => exact hn m0 v10 T (by omega) (by omega)
  | cons q0 qt =>
    refine ⟨rfl, 2, rfl, by decide, by decide, (show T < TM from by omega), fun k k0 k1 => ⟨rfl, rfl, ?_⟩⟩
    show (if PyData.eqv (py (.int k)) (py (.int 0)) = true then _ else _)
    rw [eqv_int]
    by_cases h : k = 0
    · rw [decide_eq_true h]
      refine iteT ?_
      have key : ∀ j : Nat, j < (q0 :: qt).length → G_np2b E (npSt xs r zs (q0 :: qt) F v7 (some (.fz (.int i))) (some (.fz (.int m0))) (some (.fz (.int j))) v11 v12 (T + 1)) := fun j hj => by
        have eq1 : (q0 :: qt)[j]? = some (q0 :: qt)[j] := List.getElem?_eq_getElem hj
        have pq := hw.pa _ (List.getElem_mem hj)
        have b1 := pq.size.1.2.1
        have b2 := pq.size.1.2.2
        refine ⟨trivial, _, st_at eq1, rfl, lgate_pas pq fun c d _ _ _ => ⟨_, rfl, nle rfl, rfl, .lst _, _, rfl, .inl rfl, nle rfl, nle rfl, (show T + 1 < TM from by omega), fun x hx => ?_⟩⟩
        simp only [List.mem_cons, List.not_mem_nil, or_false] at hx
        rcases hx with rfl | rfl
        · exact ⟨.inl ⟨by omega, by omega⟩, hn _ _ (T + 2) (by omega) (by omega)⟩
        · exact ⟨.inl ⟨by omega, by omega⟩, hn _ _ (T + 2) (by omega) (by omega)⟩
      have hlen : (((q0 :: qt).map stD).length : Int) - 1 = ((qt.length : Nat) : Int) := by
        rw [List.length_map, List.length_cons]
        omega
      show G_np2b E (npSt xs r zs (q0 :: qt) F v7 (some (.fz (.int i))) (some (.fz (.int m0))) (some (.fz (.int (if (((q0 :: qt).map stD).length : Int) - 1 < (i : Int) then (((q0 :: qt).map stD).length : Int) - 1 else (i : Int))))) v11 v12 (T + 1))
      rw [hlen]
      by_cases c : (qt.length : Int) < (i : Int)
      · rw [if_pos c]
        exact key qt.length (by simp)
      · rw [if_neg c]
        exact key i (by simp; omega)
    · rw [decide_eq_false h]
      exact hn m0 v10 (T + 1) (by omega) (by omega)
end Law

set_option Elab.async false
set_option linter.all false
set_option maxRecDepth 100000
set_option maxHeartbeats 4000000
namespace Law
open PySem L2 DL
variable [Tb]
def G_np1 : DG := (gSeq (gSet 8 (dCall S__law_draw 2 (aCons (dVar 0) (aCons (dCB cLen (aCons (dVar 4) aNil)) aNil))))
    (gSeq (gSet 9 (dCall S__law_pick 2 (aCons (dVar 0) (aCons (dLst (aCons (dC (.int 1)) (aCons (dNeg (dC (.int 1))) (aCons (dC (.int 2)) (aCons (dNeg (dC (.int 7))) aNil))))) aNil))))
    (gSeq G_np2 G_np3)))
def G_np0b : DG := (gSeq (gIf (dTest (dOp dNe (dVar 12) (dLst aNil))) (gApp 6 (dCall S__law_pf_put 4 (aCons (dVar 2) (aCons (dVar 8) (aCons (dCall S__law_pick 2 (aCons (dVar 0) (aCons (dVar 12) aNil))) (aCons (dCall S__law_draw 2 (aCons (dVar 0) (aCons (dC (.int 5)) aNil))) aNil)))))) gNil)
    (gRet (dVar 6)))
def G_np0 : DG := (gSeq (gSet 8 (dCall S__law_draw 2 (aCons (dVar 0) (aCons (dCB cLen (aCons (dVar 4) aNil)) aNil))))
    (gSeq (gSet 12 (dCall S__law_steps 2 (aCons (dVar 1) (aCons (dCall S__law_pf_room 3 (aCons (dVar 1) (aCons (dVar 2) (aCons (dVar 8) aNil)))) aNil))))
    G_np0b))
def G__law_near_plain : DG := (gSeq (gUnp (tgTup 3 (tgCons (tgN 3) (tgCons (tgN 4) (tgCons (tgN 5) tgNil)))) (dVar 2))
    (gSeq (gSetO 6 (dLst (aCons (dVar 2) aNil)))
    (gSeq (gFor (iRng1D (dC (.int 3))) (tgN 7) G_np1)
    G_np0)))
section
theorem np1 {n : Nat} {xs : List D} {r e : Int} {zs : List Int} {qs : List P2} {F : List D} {v7 v8 v9 v10 v11 v12 : Option Sl} {T : Nat} {E : DE} (hw : Wk n xs r zs qs e) (hF : F.length < 100) (hT : T + 20 ≤ TM) (hn : ∀ (i : Nat) m v8 v9 v10 v11 T', i < zs.length → T ≤ T' → T' ≤ T + 4 → E.nx (npSt xs r zs qs (F ++ [wkD r (chg zs i m) qs]) v7 v8 v9 v10 v11 v12 T')) :
    G_np1 E (npSt xs r zs qs F v7 v8 v9 v10 v11 v12 T) := by
  have hl := hw.ln
  have hm := hw.mx
  have el : (zs.map D.int).length = zs.length := List.length_map _
  refine ⟨rfl, (((zs.map D.int).length : Nat) : Int), rfl, by omega, by omega, (show T < TM from by omega), fun k k0 k1 => ?_⟩
  refine ⟨nle rfl, rfl, .lst _, _, rfl, .inl rfl, nle rfl, nle rfl, (show T + 1 < TM from by omega), fun x hx => ?_⟩
  have hx : ∃ m : Int, x = .int m := by
    simp only [List.mem_cons, List.not_mem_nil, or_false] at hx
    rcases hx with rfl | rfl | rfl | rfl <;> exact ⟨_, rfl⟩
  obtain ⟨m0, rfl⟩ := hx
  have ek : k = ((k.toNat : Nat) : Int) := by omega
  rw [ek]
  refine np2 (T := T + 2) (E := { E with nx := G_np3 E }) (i := k.toNat) hw (by omega) fun m v10 T' h1 h2 => ?_
  exact np3 (by omega) (by omega) hF fun v11 => hn k.toNat m _ _ _ v11 T' (by omega) (by omega) (by omega)
end
theorem np0 {n : Nat} {xs : List D} {r e : Int} {zs : List Int} {qs : List P2} {F : List D} {v7 v8 v9 v10 v11 v12 : Option Sl} {T : Nat} {post : Sl → Nat → Prop} {ex : Str → List (Str × D) → Nat → Prop} (hd : ∀ d ∈ xs, DoorIs n d) (hx : xs.length ≤ 1000) (hw : Wk n xs r zs qs e) (hq : qs.length ≤ 900) (hF : F.length ≤ 9) (hT : T + 20 ≤ TM) (hf : ∀ d ∈ F, ∃ zs' qs', d = wkD r zs' qs' ∧ Wk n xs r zs' qs' e)
    (hp : ∀ ys T', (∀ d ∈ ys, ∃ zs' qs', d = wkD r zs' qs' ∧ Wk n xs r zs' qs' e) → ys.length ≤ 10 → T ≤ T' → T' ≤ T + 10 → post (.fz (.lst ys)) T') :
    G_np0 (endsOf post ex) (npSt xs r zs qs F v7 v8 v9 v10 v11 v12 T) := by
  have hl := hw.ln
  have hm := hw.mx
  have el : (zs.map D.int).length = zs.length := List.length_map _
  refine ⟨rfl, (((zs.map D.int).length : Nat) : Int), rfl, by omega, by omega, (show T < TM from by omega), fun k k0 k1 => ?_⟩
  have ek : k = ((k.toNat : Nat) : Int) := by omega
  rw [ek]
  have hk : k.toNat ≤ qs.length := by omega
  refine ⟨rfl, n, xs, r, zs, qs, e, k.toNat, rfl, hw, hk, fun m hg hmn => ?_⟩
  have hsl := sides_len xs.length
  have hfl := List.length_filter_le (fromRoom xs (m : Int)) (sides xs.length)
  have hso : ∀ st ∈ (sides xs.length).filter (fromRoom xs (m : Int)), isPass xs.length st = true ∧ ∃ b, roomsOf xs st = some ((m : Int), b) := fun st hst => from_ok hd hst
  have go : ∀ some' : List D, some'.length ≤ 2000 → (∀ st ∈ some', isPass xs.length st = true ∧ ∃ b, roomsOf xs st = some ((m : Int), b)) → G_np0b (endsOf post ex) (npSt xs r zs qs F v7 (some (.fz (.int (k.toNat : Nat)))) v9 v10 v11 (some (.fz (.lst some'))) (T + 1)) := fun some' hz hso => by
    refine ⟨nle rfl, okD_of (n := 9) (by
      unfold okN
      refine okNs_iff.mpr fun d hd => ?_
      obtain ⟨i, s, _, _, rfl⟩ := pass_is (hso d hd).1
      rfl), by decide +kernel, ?_⟩
    rw [eqv_nil]
    cases some' with
    | nil => exact hp F (T + 1) hf (by omega) (by omega) (by omega)
    | cons st rest =>
      refine ⟨rfl, .lst (st :: rest), st :: rest, rfl, .inl rfl, (by simp), (by omega), (show T + 1 < TM from by omega), fun x hx => ?_⟩
      obtain ⟨hp1, b, hr⟩ := hso x hx
      obtain ⟨q, rfl, pq⟩ := pas_of hd hp1
      refine ⟨rfl, 5, rfl, by decide, by decide, (show T + 2 < TM from by omega), fun a a0 a1 => ?_⟩
      refine ⟨rfl, r, zs, qs, k.toNat, q, a, rfl, hl, hk, hm, (show F.length < 100000 from by omega), ?_⟩
      refine hp (F ++ [wkD r (putZ zs k.toNat a) (putQ qs k.toNat q)]) (T + 3) (fun d hd' => ?_) (by rw [List.length_append]; show F.length + 1 ≤ 10; omega) (by omega) (by omega)
      rcases List.mem_append.mp hd' with h | h
      · exact hf d h
      · rw [List.mem_singleton.mp h]
        exact ⟨_, _, rfl, put_wk hw hk hq pq hg hr⟩
  exact ⟨rfl, n, xs, _, rfl, hd, hx, go _ (by omega) hso⟩
section
theorem m__law_near_plain : ∀ (ds : List D) T post ex, ds.length = 3 → S__law_near_plain ds T post ex → G__law_near_plain (endsOf post ex) (startD 13 ds T) := by
  rintro ds T post ex _ ⟨n, xs, r, zs, qs, e, rfl, hd, hx, hw, hq, hT, hp⟩
  refine ⟨rfl, nle rfl, ?_⟩
  show gFor (iRng1D (dC (.int 3))) (tgN 7) G_np1 { endsOf post ex with nx := G_np0 (endsOf post ex) } (npSt xs r zs qs [wkD r zs qs] none none none none none none T)
  refine gFor_inv (fun i s => ∃ F v7 v8 v9 v10 v11 v12 T', s = npSt xs r zs qs F v7 v8 v9 v10 v11 v12 T' ∧ F.length ≤ i + 1 ∧ T ≤ T' ∧ T' ≤ T + 4 * i ∧ ∀ d ∈ F, ∃ zs' qs', d = wkD r zs' qs' ∧ Wk n xs r zs' qs' e) (rangeD 0 3) (fun P hP => ⟨by decide, by decide, hP _ ⟨_, _, _, _, _, _, _, _, rfl, nle rfl, Nat.le_refl _, Nat.le_refl _, fun d hd' => ?_⟩⟩) ?_ ?_
  · rw [List.mem_singleton.mp hd']
    exact ⟨_, _, rfl, hw⟩
  · rintro i d s hi ⟨F, v7, v8, v9, v10, v11, v12, T', rfl, hF, t0, t1, hf⟩ R hR
    have hi3 : i < 3 := (rangeD_get hi).2
    show G_np1 _ (npSt xs r zs qs F (some (.fz d)) v8 v9 v10 v11 v12 T')
    refine np1 (T := T') hw (by omega) (by omega) fun j m v8 v9 v10 v11 T2 hj a1 a2 => hR _ ⟨_, some (.fz d), v8, v9, v10, v11, v12, T2, rfl, ?_, by omega, by omega, fun d hd' => ?_⟩
    · rw [List.length_append]
      show F.length + 1 ≤ _
      omega
    · rcases List.mem_append.mp hd' with h | h
      · exact hf d h
      · rw [List.mem_singleton.mp h]
        exact ⟨_, _, rfl, chg_wk hw hj m⟩
  · rintro s ⟨F, v7, v8, v9, v10, v11, v12, T', rfl, hF, t0, t1, hf⟩
    rw [rangeD_len] at hF t1
    exact np0 (T := T') hd hx hw hq (by omega) (by omega) hf fun ys T2 h1 h2 h3 h4 => hp ys T2 h1 h2 (by omega) (by omega)
end
end Law

set_option Elab.async false
set_option linter.all false
set_option maxRecDepth 100000
set_option maxHeartbeats 4000000
namespace Law
open PySem L2 DL
variable [Tb]
/-! ### _law_pf_near: what is no walk -/
structure Odd (n : Nat) (xs : List D) (d : D) : Prop where
  ask : askable d = true
  ln : ∀ r ps ss, d = .tup [r, .tup ps, .tup ss] → ps.length ≤ 10000 ∧ ss.length ≤ 10000
  no : isWalk n xs d = false
theorem odd3 {n : Nat} {xs : List D} {r : D} {ps ss : List D} (hr : plainD r = true) (h1 : ∀ d ∈ ps, plainD d = true) (h2 : ∀ d ∈ ss, (plainD d && plainDs d) = true) (l1 : ps.length ≤ 10000) (l2 : ss.length ≤ 10000) (no : isWalk n xs (.tup [r, .tup ps, .tup ss]) = false) : Odd n xs (.tup [r, .tup ps, .tup ss]) :=
  ⟨by
    have a1 : ps.all plainD = true := List.all_eq_true.mpr h1
    have a2 : (ss.all fun x => plainD x && plainDs x) = true := List.all_eq_true.mpr h2
    show (plainD r && true && true && ps.all plainD && ss.all fun x => plainD x && plainDs x) = true
    rw [hr, a1, a2]
    rfl, fun r' ps' ss' h => by cases h; exact ⟨l1, l2⟩, no⟩
theorem plainP (zs : List Int) : ∀ d ∈ zs.map D.int, plainD d = true := fun d hd => by
  obtain ⟨z, _, rfl⟩ := List.mem_map.mp hd
  rfl
theorem plainS (qs : List P2) : ∀ d ∈ qs.map stD, (plainD d && plainDs d) = true := fun d hd => by
  obtain ⟨q, _, rfl⟩ := List.mem_map.mp hd
  rfl
theorem no_len {n : Nat} {xs : List D} {r : D} {ps ss : List D} (h : ps.length ≠ ss.length + 1) : isWalk n xs (.tup [r, .tup ps, .tup ss]) = false := by
  show (within r 0 ((n : Int) - 1) && (decide (ps.length = ss.length + 1) && ps.all isInt) && (ss.all (isPass xs.length) && hangs xs (intIn r) ss)) = false
  rw [decide_eq_false h]
  simp
theorem no_int {n : Nat} {xs : List D} {r : D} {ps ss : List D} {d : D} (h : d ∈ ps) (hd : isInt d = false) : isWalk n xs (.tup [r, .tup ps, .tup ss]) = false := by
  have e : ps.all isInt = false := by
    cases q : ps.all isInt with
    | false => rfl
    | true => rw [List.all_eq_true.mp q d h] at hd; cases hd
  show (within r 0 ((n : Int) - 1) && (decide (ps.length = ss.length + 1) && ps.all isInt) && (ss.all (isPass xs.length) && hangs xs (intIn r) ss)) = false
  rw [e]
  simp
theorem no_pass {n : Nat} {xs : List D} {r : D} {ps ss : List D} {d : D} (h : d ∈ ss) (hd : isPass xs.length d = false) : isWalk n xs (.tup [r, .tup ps, .tup ss]) = false := by
  have e : ss.all (isPass xs.length) = false := by
    cases q : ss.all (isPass xs.length) with
    | false => rfl
    | true => rw [List.all_eq_true.mp q d h] at hd; cases hd
  show (within r 0 ((n : Int) - 1) && (decide (ps.length = ss.length + 1) && ps.all isInt) && (ss.all (isPass xs.length) && hangs xs (intIn r) ss)) = false
  rw [e]
  simp
theorem no_room {n : Nat} {xs : List D} {r : D} {ps ss : List D} (h : within r 0 ((n : Int) - 1) = false) : isWalk n xs (.tup [r, .tup ps, .tup ss]) = false := by
  show (within r 0 ((n : Int) - 1) && (decide (ps.length = ss.length + 1) && ps.all isInt) && (ss.all (isPass xs.length) && hangs xs (intIn r) ss)) = false
  rw [h]
  rfl
def S__law_pf_near : PF := fun ds T post _ => ∃ (n : Nat) (xs : List D) (r : Int) (zs : List Int) (qs : List P2) (e : Int), ds = [.st, .tup xs, wkD r zs qs] ∧ Wk n xs r zs qs e ∧ xs.length ≤ 1000 ∧ T + 10 ≤ TM ∧
  ∀ ys, (∀ d ∈ ys, Odd n xs d) → 0 < ys.length → ys.length ≤ 30 → post (.fz (.lst ys)) (T + 1)
def nrSt (xs : List D) (r : Int) (zs : List Int) (qs : List P2) (F : List D) (v7 v8 : Option Sl) (T : Nat) : DS :=
  ⟨[some (.fz .st), some (.fz (.tup xs)), some (.fz (wkD r zs qs)), some (.fz (.int r)), some (.fz (.tup (zs.map D.int))), some (.fz (.tup (qs.map stD))), some (.ow (.lst F)), v7, v8], T⟩
def G_nr4 : DG := (gSeq (gApp 6 (dTup (aCons (dVar 3) (aCons (dOp dAdd (dVar 4) (dTup (aCons (dC (.int 0)) aNil))) (aCons (dOp dAdd (dVar 5) (dTup (aCons (dTup (aCons (dCB cLen (aCons (dVar 1) aNil)) (aCons (dC (.int 0)) aNil))) aNil))) aNil)))))
    (gSeq (gApp 6 (dTup (aCons (dVar 3) (aCons (dOp dAdd (dVar 4) (dTup (aCons (dC (.int 0)) aNil))) (aCons (dOp dAdd (dVar 5) (dTup (aCons (dTup (aCons (dC (.int 0)) (aCons (dC (.int 2)) aNil))) aNil))) aNil)))))
    (gSeq (gApp 6 (dTup (aCons (dVar 3) (aCons (dOp dAdd (dVar 4) (dTup (aCons (dC (.int 0)) aNil))) (aCons (dOp dAdd (dVar 5) (dTup (aCons (dC .non) aNil))) aNil)))))
    (gRet (dVar 6)))))
def G_nr3i : DG := (gApp 6 (dTup (aCons (dVar 3) (aCons (dOp dAdd (dOp dAdd (dSl (dVar 4) oNo (oAt (dVar 7))) (dTup (aCons (dVar 8) aNil))) (dSl (dVar 4) (oAt (dOp dAdd (dVar 7) (dC (.int 1)))) oNo)) (aCons (dVar 5) aNil)))))
def I_nr3 : DFA := (iSeq (dLst (aCons (dC (.bl true)) (aCons (dC .non) (aCons (dC (.str "1")) (aCons (dTup (aCons (dC (.int 1)) aNil)) aNil))))))
def G_nr3 : DG := (gSeq (gFor I_nr3 (tgN 8) G_nr3i) G_nr4)
def G_nr2 : DG := (gSeq (gSet 7 (dCall S__law_draw 2 (aCons (dVar 0) (aCons (dCB cLen (aCons (dVar 4) aNil)) aNil)))) G_nr3)
def G_nr1 : DG := (gSeq (gSetO 6 (dLst (aCons (dC .non) (aCons (dC (.int 5)) (aCons (dTup aNil) (aCons (dSl (dVar 2) oNo (oAt (dC (.int 2)))) (aCons (dListO (dVar 2)) (aCons (dTup (aCons (dC (.bl true)) (aCons (dVar 4) (aCons (dVar 5) aNil)))) aNil))))))))
    (gSeq (gApp 6 (dTup (aCons (dNeg (dC (.int 1))) (aCons (dVar 4) (aCons (dVar 5) aNil)))))
    (gSeq (gSetO 6 (dCatO (dVar 6) (dLst (aCons (dTup (aCons (dVar 3) (aCons (dListO (dVar 4)) (aCons (dVar 5) aNil)))) (aCons (dTup (aCons (dVar 3) (aCons (dVar 4) (aCons (dListO (dVar 5)) aNil)))) aNil)))))
    (gSeq (gSetO 6 (dCatO (dVar 6) (dLst (aCons (dTup (aCons (dVar 3) (aCons (dOp dAdd (dVar 4) (dTup (aCons (dC (.int 0)) aNil))) (aCons (dVar 5) aNil)))) (aCons (dTup (aCons (dVar 3) (aCons (dSl (dVar 4) (oAt (dC (.int 1))) oNo) (aCons (dVar 5) aNil)))) aNil)))))
    (gSeq (gApp 6 (dOp dAdd (dVar 2) (dTup (aCons (dC (.int 0)) aNil))))
    G_nr2)))))
def G__law_pf_near : DG := (gSeq (gUnp (tgTup 3 (tgCons (tgN 3) (tgCons (tgN 4) (tgCons (tgN 5) tgNil)))) (dVar 2))
    G_nr1)
theorem nr4 {n : Nat} {xs : List D} {r e : Int} {zs : List Int} {qs : List P2} {F : List D} {v7 v8 : Option Sl} {T : Nat} {post : Sl → Nat → Prop} {ex : Str → List (Str × D) → Nat → Prop} (hw : Wk n xs r zs qs e) (hF : F.length ≤ 20) (hf : ∀ d ∈ F, Odd n xs d) (hp : ∀ ys, (∀ d ∈ ys, Odd n xs d) → 0 < ys.length → ys.length ≤ 30 → post (.fz (.lst ys)) T) : G_nr4 (endsOf post ex) (nrSt xs r zs qs F v7 v8 T) := by
  have hl := hw.ln
  have hm := hw.mx
  have lz : (zs.map D.int).length = zs.length := List.length_map _
  have lq : (qs.map stD).length = qs.length := List.length_map _
  have g1 : (zs.map D.int).length + 1 ≤ 100000 := by omega
  have g2 : (qs.map stD).length + 1 ≤ 100000 := by omega
  have od : ∀ x : D, (plainD x && plainDs x) = true → isPass xs.length x = false → Odd n xs (.tup [.int r, .tup (zs.map D.int ++ [.int 0]), .tup (qs.map stD ++ [x])]) := fun x hx hn => odd3 rfl (fun d hd => by
      rcases List.mem_append.mp hd with h | h
      · exact plainP zs d h
      · rw [List.mem_singleton.mp h]; rfl) (fun d hd => by
      rcases List.mem_append.mp hd with h | h
      · exact plainS qs d h
      · rw [List.mem_singleton.mp h]; exact hx) (by rw [List.length_append]; show _ + 1 ≤ _; omega) (by rw [List.length_append]; show _ + 1 ≤ _; omega) (no_pass (List.mem_append_right _ (List.mem_singleton.mpr rfl)) hn)
  refine ⟨nle rfl, g1, nle rfl, nle rfl, g2, nle rfl, (show F.length < 100000 from by omega), ?_⟩
  refine ⟨nle rfl, g1, nle rfl, nle rfl, g2, nle rfl, ?_, ?_⟩
  · show (F ++ [_]).length < 100000
    rw [List.length_append]
    show F.length + 1 < _
    omega
  refine ⟨nle rfl, g1, nle rfl, g2, nle rfl, ?_, ?_⟩
  · show ((F ++ [_]) ++ [_]).length < 100000
    rw [List.length_append, List.length_append]
    show F.length + 1 + 1 < _
    omega
  refine hp _ (fun d hd => ?_) (by simp) ?_
  · rcases List.mem_append.mp hd with h | h
    · rcases List.mem_append.mp h with h | h
      · rcases List.mem_append.mp h with h | h
        · exact hf d h
        · rw [List.mem_singleton.mp h]
          refine od _ rfl ?_
          show (decide ((0 : Int) ≤ (xs.length : Int)) && decide ((xs.length : Int) ≤ (xs.length : Int) - 1) && _) = false
          rw [decide_eq_false (show ¬ (xs.length : Int) ≤ (xs.length : Int) - 1 from by omega)]
          simp
      · rw [List.mem_singleton.mp h]
        refine od _ rfl ?_
        show (_ && (decide ((0 : Int) ≤ 2) && decide ((2 : Int) ≤ 1))) = false
        rw [show (decide ((0 : Int) ≤ 2) && decide ((2 : Int) ≤ 1)) = false from rfl, Bool.and_false]
    · rw [List.mem_singleton.mp h]
      exact od _ rfl rfl
  · rw [List.length_append, List.length_append, List.length_append]
    show F.length + 1 + 1 + 1 ≤ 30
    omega
end Law

set_option Elab.async false
set_option linter.all false
set_option maxRecDepth 100000
set_option maxHeartbeats 4000000
namespace Law
open PySem L2 DL
variable [Tb]
def oddIt (x : D) : Prop := plainD x = true ∧ isInt x = false
theorem nr3i {n : Nat} {xs : List D} {r e : Int} {zs : List Int} {qs : List P2} {F : List D} {i : Nat} {x : D} {T : Nat} {E : DE} (hw : Wk n xs r zs qs e) (hi : i < zs.length) (hF : F.length < 100) (hx : oddIt x) (hn : ∀ d, Odd n xs d → E.nx (nrSt xs r zs qs (F ++ [d]) (some (.fz (.int i))) (some (.fz x)) T)) :
    G_nr3i E (nrSt xs r zs qs F (some (.fz (.int i))) (some (.fz x)) T) := by
  have hl := hw.ln
  have hm := hw.mx
  have c1 := cut_take (zs.map D.int) i (by rw [List.length_map]; omega)
  have c2 : cutD (zs.map D.int) (some ((i : Int) + 1)) none = (zs.map D.int).drop (i + 1) := cut_drop (zs.map D.int) (i + 1) (by rw [List.length_map]; omega)
  have n1 : ((zs.map D.int).take i).length = i := by rw [List.length_take, List.length_map]; omega
  have n2 : ((zs.map D.int).drop (i + 1)).length ≤ 1001 := by rw [List.length_drop, List.length_map]; omega
  refine ⟨nle rfl, ?_⟩
  show (cutD (zs.map D.int) none (some (i : Int))).length + 1 ≤ 100000 ∧ (cutD (zs.map D.int) none (some (i : Int)) ++ [x]).length + (cutD (zs.map D.int) (some ((i : Int) + 1)) none).length ≤ 100000 ∧ _
  rw [c1, c2]
  refine ⟨by omega, by rw [List.length_append]; show _ + 1 + _ ≤ _; omega, nle rfl, (show F.length < 100000 from by omega), hn _ ?_⟩
  refine odd3 rfl (fun d hd => ?_) (plainS qs) ?_ (by rw [List.length_map]; omega) (no_int (d := x) (List.mem_append_left _ (List.mem_append_right _ (List.mem_singleton.mpr rfl))) hx.2)
  · rcases List.mem_append.mp hd with h | h
    · rcases List.mem_append.mp h with h | h
      · exact plainP zs d (List.mem_of_mem_take h)
      · rw [List.mem_singleton.mp h]; exact hx.1
    · exact plainP zs d (List.mem_of_mem_drop h)
  · rw [List.length_append, List.length_append]
    show _ + 1 + _ ≤ 10000
    omega
section
theorem nr3 {n : Nat} {xs : List D} {r e : Int} {zs : List Int} {qs : List P2} {F : List D} {i : Nat} {v8 : Option Sl} {T : Nat} {post : Sl → Nat → Prop} {ex : Str → List (Str × D) → Nat → Prop} (hw : Wk n xs r zs qs e) (hi : i < zs.length) (hF : F.length ≤ 16) (hf : ∀ d ∈ F, Odd n xs d) (hp : ∀ ys, (∀ d ∈ ys, Odd n xs d) → 0 < ys.length → ys.length ≤ 30 → post (.fz (.lst ys)) T) : G_nr3 (endsOf post ex) (nrSt xs r zs qs F (some (.fz (.int i))) v8 T) := by
  refine gFor_inv (fun j s => ∃ F' v8, s = nrSt xs r zs qs F' (some (.fz (.int i))) v8 T ∧ F'.length ≤ F.length + j ∧ ∀ d ∈ F', Odd n xs d) [.bl true, .non, .str "1", .tup [.int 1]] (fun P hP => ⟨nle rfl, nle rfl, _, rfl, hP _ ⟨F, v8, rfl, Nat.le_refl _, hf⟩⟩) ?_ ?_
  · rintro j d s hj ⟨F', v8, rfl, hF', hf'⟩ R hR
    have hj4 := (List.getElem?_eq_some_iff.mp hj).1
    have hj5 : j < 4 := hj4
    have hd : oddIt d := by
      have hm := List.mem_of_getElem? hj
      simp only [List.mem_cons, List.not_mem_nil, or_false] at hm
      rcases hm with rfl | rfl | rfl | rfl <;> exact ⟨rfl, rfl⟩
    show G_nr3i _ (nrSt xs r zs qs F' (some (.fz (.int i))) (some (.fz d)) T)
    refine nr3i hw hi (by omega) hd fun x hx => hR _ ⟨_, _, rfl, ?_, fun y hy => ?_⟩
    · rw [List.length_append]
      show F'.length + 1 ≤ _
      omega
    · rcases List.mem_append.mp hy with h | h
      · exact hf' y h
      · rw [List.mem_singleton.mp h]; exact hx
  · rintro s ⟨F', v8, rfl, hF', hf'⟩
    exact nr4 hw (by have : F'.length ≤ F.length + 4 := hF'; omega) hf' hp
end
section
theorem nr2 {n : Nat} {xs : List D} {r e : Int} {zs : List Int} {qs : List P2} {F : List D} {v7 v8 : Option Sl} {T : Nat} {post : Sl → Nat → Prop} {ex : Str → List (Str × D) → Nat → Prop} (hw : Wk n xs r zs qs e) (hT : T + 10 ≤ TM) (hF : F.length ≤ 16) (hf : ∀ d ∈ F, Odd n xs d) (hp : ∀ ys, (∀ d ∈ ys, Odd n xs d) → 0 < ys.length → ys.length ≤ 30 → post (.fz (.lst ys)) (T + 1)) : G_nr2 (endsOf post ex) (nrSt xs r zs qs F v7 v8 T) := by
  have hl := hw.ln
  have hm := hw.mx
  have el : (zs.map D.int).length = zs.length := List.length_map _
  refine ⟨rfl, (((zs.map D.int).length : Nat) : Int), rfl, by omega, by omega, (show T < TM from by omega), fun k k0 k1 => ?_⟩
  have ek : k = ((k.toNat : Nat) : Int) := by omega
  rw [ek]
  exact nr3 (T := T + 1) hw (by omega) hF hf hp
end
section
theorem nr1 {n : Nat} {xs : List D} {r e : Int} {zs : List Int} {qs : List P2} {T : Nat} {post : Sl → Nat → Prop} {ex : Str → List (Str × D) → Nat → Prop} {s : DS} (hs : s = ⟨[some (.fz .st), some (.fz (.tup xs)), some (.fz (wkD r zs qs)), some (.fz (.int r)), some (.fz (.tup (zs.map D.int))), some (.fz (.tup (qs.map stD))), none, none, none], T⟩) (hw : Wk n xs r zs qs e) (hT : T + 10 ≤ TM) (hp : ∀ ys, (∀ d ∈ ys, Odd n xs d) → 0 < ys.length → ys.length ≤ 30 → post (.fz (.lst ys)) (T + 1)) : G_nr1 (endsOf post ex) s := by
  subst hs
  have hl := hw.ln
  have hm := hw.mx
  have lz : (zs.map D.int).length = zs.length := List.length_map _
  have lq : (qs.map stD).length = qs.length := List.length_map _
  have g1 : (zs.map D.int).length + 1 ≤ 100000 := by omega
  refine ⟨nle rfl, nle rfl, ?_⟩
  refine ⟨nle rfl, nle rfl, ?_⟩
  refine ⟨nle rfl, nle rfl, nle rfl, nle rfl, ?_⟩
  refine ⟨nle rfl, nle rfl, g1, nle rfl, nle rfl, nle rfl, nle rfl, ?_⟩
  refine ⟨nle rfl, nle rfl, nle rfl, ?_⟩
  refine nr2 (F := [D.non, D.int 5, D.tup [], D.tup [D.int r, D.tup (List.map D.int zs)], D.lst [D.int r, D.tup (List.map D.int zs), D.tup (List.map stD qs)], D.tup [D.bl true, D.tup (List.map D.int zs), D.tup (List.map stD qs)], D.tup [D.int (-1), D.tup (List.map D.int zs), D.tup (List.map stD qs)], D.tup [D.int r, D.lst (List.map D.int zs), D.tup (List.map stD qs)], D.tup [D.int r, D.tup (List.map D.int zs), D.lst (List.map stD qs)], D.tup [D.int r, D.tup (List.map D.int zs ++ [D.int 0]), D.tup (List.map stD qs)], D.tup [D.int r, D.tup (cutD (List.map D.int zs) (some 1) none), D.tup (List.map stD qs)], D.tup [D.int r, D.tup (List.map D.int zs), D.tup (List.map stD qs), D.int 0]]) hw hT (nle rfl) ?_ hp
  have c1 : cutD (List.map D.int zs) (some 1) none = (zs.map D.int).drop 1 := cut_drop (zs.map D.int) 1 (by omega)
  rw [c1]
  have lens : (zs.map D.int).length ≤ 10000 ∧ (qs.map stD).length ≤ 10000 := by omega
  intro d hd
  simp only [List.mem_cons, List.not_mem_nil, or_false] at hd
  rcases hd with rfl | rfl | rfl | rfl | rfl | rfl | rfl | rfl | rfl | rfl | rfl | rfl
  · exact ⟨rfl, fun _ _ _ h => (by cases h), rfl⟩
  · exact ⟨rfl, fun _ _ _ h => (by cases h), rfl⟩
  · exact ⟨rfl, fun _ _ _ h => (by cases h), rfl⟩
  · exact ⟨rfl, fun _ _ _ h => (by cases h), rfl⟩
  · exact ⟨rfl, fun _ _ _ h => (by cases h), rfl⟩
  · exact odd3 rfl (plainP zs) (plainS qs) lens.1 lens.2 (no_room rfl)
  · exact odd3 rfl (plainP zs) (plainS qs) lens.1 lens.2 (no_room (show (decide ((0 : Int) ≤ -1) && decide ((-1 : Int) ≤ (n : Int) - 1)) = false from rfl))
  · refine ⟨?_, fun _ _ _ h => (by cases h), rfl⟩
    have a2 : ((qs.map stD).all fun x => plainD x && plainDs x) = true := List.all_eq_true.mpr (plainS qs)
    show (true && true && true && true && (qs.map stD).all fun x => plainD x && plainDs x) = true
    rw [a2]
    rfl
  · refine ⟨?_, fun _ _ _ h => (by cases h), rfl⟩
    have a1 : (zs.map D.int).all plainD = true := List.all_eq_true.mpr (plainP zs)
    show (true && true && true && (zs.map D.int).all plainD && true) = true
    rw [a1]
    rfl
  · exact odd3 rfl (fun d hd => by
      rcases List.mem_append.mp hd with h | h
      · exact plainP zs d h
      · rw [List.mem_singleton.mp h]; rfl) (plainS qs) (by rw [List.length_append]; show _ + 1 ≤ _; omega) lens.2 (no_len (by rw [List.length_append]; show _ + 1 ≠ _; omega))
  · exact odd3 rfl (fun d hd => plainP zs d (List.mem_of_mem_drop hd)) (plainS qs) (by rw [List.length_drop]; omega) lens.2 (no_len (by rw [List.length_drop]; omega))
  · exact ⟨rfl, fun _ _ _ h => (by cases h), rfl⟩
end
section
theorem m__law_pf_near : ∀ (ds : List D) T post ex, ds.length = 3 → S__law_pf_near ds T post ex → G__law_pf_near (endsOf post ex) (startD 9 ds T) := by
  rintro ds T post ex _ ⟨n, xs, r, zs, qs, e, rfl, hw, hx, hT, hp⟩
  refine ⟨rfl, ?_⟩
  exact nr1 rfl hw hT hp
end
end Law

set_option Elab.async false
set_option linter.all false
set_option maxRecDepth 100000
set_option maxHeartbeats 4000000
namespace Law
open PySem L2 DL
variable [Tb]
theorem eqv_intsT : ∀ zs ys : List Int, PyData.eqv (py (.tup (zs.map D.int))) (py (.tup (ys.map D.int))) = true → zs = ys
  | [], [], _ => rfl
  | [], y :: ys, h => by simp [py, pyL, PyData.eqv, PyData.eqvAll] at h
  | z :: zs, [], h => by simp [py, pyL, PyData.eqv, PyData.eqvAll] at h
  | z :: zs, y :: ys, h => by
    have h2 : (PyData.eqv (py (.int z)) (py (.int y)) && PyData.eqv (py (.tup (zs.map D.int))) (py (.tup (ys.map D.int)))) = true := by
      simp only [py, pyL, PyData.eqv, PyData.eqvAll, List.map_cons] at h ⊢
      exact h
    obtain ⟨a, b⟩ := Bool.and_eq_true_iff.mp h2
    rw [eqv_int] at a
    rw [of_decide_eq_true a, eqv_intsT zs ys b]
theorem eqv_stsT : ∀ qs ps : List P2, PyData.eqv (py (.tup (qs.map stD))) (py (.tup (ps.map stD))) = true → qs = ps
  | [], [], _ => rfl
  | [], y :: ys, h => by simp [py, pyL, PyData.eqv, PyData.eqvAll] at h
  | z :: zs, [], h => by simp [py, pyL, PyData.eqv, PyData.eqvAll] at h
  | z :: zs, y :: ys, h => by
    have h2 : (PyData.eqv (py (stD z)) (py (stD y)) && PyData.eqv (py (.tup (zs.map stD))) (py (.tup (ys.map stD)))) = true := by
      simp only [py, pyL, PyData.eqv, PyData.eqvAll, List.map_cons] at h ⊢
      exact h
    obtain ⟨a, b⟩ := Bool.and_eq_true_iff.mp h2
    rw [eqv_st] at a
    rw [of_decide_eq_true a, eqv_stsT zs ys b]
theorem eqv_wk {r s : Int} {zs ys : List Int} {qs ps : List P2} (h : PyData.eqv (py (wkD r zs qs)) (py (wkD s ys ps)) = true) : zs = ys ∧ qs = ps := by
  have h2 : (PyData.eqv (py (.int r)) (py (.int s)) && (PyData.eqv (py (.tup (zs.map D.int))) (py (.tup (ys.map D.int))) && (PyData.eqv (py (.tup (qs.map stD))) (py (.tup (ps.map stD))) && true))) = true := by
    simp only [wkD, walkD, py, pyL, PyData.eqv, PyData.eqvAll] at h ⊢
    exact h
  obtain ⟨_, b⟩ := Bool.and_eq_true_iff.mp h2
  obtain ⟨c, d⟩ := Bool.and_eq_true_iff.mp b
  obtain ⟨e, _⟩ := Bool.and_eq_true_iff.mp d
  exact ⟨eqv_intsT _ _ c, eqv_stsT _ _ e⟩
theorem okN_wk (r : Int) (zs : List Int) (qs : List P2) : okN 9 (wkD r zs qs) = true := by
  have a1 : okN 8 (.tup (zs.map D.int)) = true := by
    unfold okN
    refine okNs_iff.mpr fun d hd => ?_
    obtain ⟨z, _, rfl⟩ := List.mem_map.mp hd
    rfl
  have a2 : okN 8 (.tup (qs.map stD)) = true := by
    unfold okN
    refine okNs_iff.mpr fun d hd => ?_
    obtain ⟨z, _, rfl⟩ := List.mem_map.mp hd
    rfl
  unfold wkD walkD okN
  refine okNs_iff.mpr fun d hd => ?_
  simp only [List.mem_cons, List.not_mem_nil, or_false] at hd
  rcases hd with rfl | rfl | rfl
  · rfl
  · exact a1
  · exact a2
theorem eqv_red {n : Nat} {xs : List D} {r e : Int} {zs : List Int} {qs : List P2} (hw : Wk n xs r zs qs e) : PyData.eqv (py (wkD r (redZ xs zs qs) (redK xs zs qs))) (py (wkD r zs qs)) = plainB xs zs qs := by
  by_cases h : Plain xs zs qs
  · obtain ⟨h1, h2⟩ := red_stays hw h
    rw [h1, h2, plainB_true h]
    exact SeqAt.eqv_refl _ (okN_ok (okN_wk r zs qs)).2.1
  · rw [plainB_false h]
    cases q : PyData.eqv (py (wkD r (redZ xs zs qs) (redK xs zs qs))) (py (wkD r zs qs)) with
    | false => rfl
    | true => exact absurd ((red_iff hw).mp (eqv_wk q)) h
theorem ask_wk {n : Nat} {xs : List D} {r e : Int} {zs : List Int} {qs : List P2} {T : Nat} {post : Sl → Nat → Prop} {ex : Str → List (Str × D) → Nat → Prop} (hd : ∀ d ∈ xs, DoorIs n d) (hx : xs.length ≤ 1000) (hw : Wk n xs r zs qs e) (hp : post (.fz (.bl (plainB xs zs qs))) T) : S_is_plain [houseD n xs, wkD r zs qs] T post ex :=
  ⟨_, _, true, rfl, rfl, fun z => (by cases z), fun _ => ⟨n, xs, rfl, hd, hx, askable_of hw.of, wk_lens hw, .inr ⟨r, zs, qs, e, rfl, hw, hp⟩⟩⟩
theorem ask_odd {n : Nat} {xs : List D} {d : D} {T : Nat} {post : Sl → Nat → Prop} {ex : Str → List (Str × D) → Nat → Prop} (hd : ∀ d ∈ xs, DoorIs n d) (hx : xs.length ≤ 1000) (ho : Odd n xs d) (hp : post (.fz (.bl false)) T) : S_is_plain [houseD n xs, d] T post ex :=
  ⟨_, _, true, rfl, rfl, fun z => (by cases z), fun _ => ⟨n, xs, rfl, hd, hx, ho.ask, ho.ln, .inl ⟨ho.no, hp⟩⟩⟩
theorem ask_none {h d : D} {T : Nat} {post : Sl → Nat → Prop} {ex : Str → List (Str × D) → Nat → Prop} (hh : isO [("House", true)] [] h = some false) (hp : ex "BadHouse" [] T) : S_is_plain [h, d] T post ex :=
  ⟨_, _, false, rfl, hh, fun _ => hp, fun z => (by cases z)⟩
abbrev OS := Option Sl
structure Hs (n : Nat) (xs : List D) : Prop where
  n1 : 1 ≤ n
  n3 : n ≤ 3
  hd : ∀ d ∈ xs, DoorIs n d
  hx : xs.length ≤ 5
  re : ∀ i, i < n → Reach (xs.map endsD) i
theorem door_is {n : Nat} {d : D} (h : DoorIs n d) : isDoor n d = true ∧ plainD d = true ∧ plainDs d = true := by
  obtain ⟨a, b, x, y, rfl, ha, hb, sx, sy⟩ := h.ex
  refine ⟨?_, rfl, rfl⟩
  obtain ⟨x0, x1, x2⟩ := sx
  obtain ⟨y0, y1, y2⟩ := sy
  show (((decide ((0 : Int) ≤ (a : Int)) && decide ((a : Int) ≤ (n : Int) - 1)) && (decide ((0 : Int) ≤ (b : Int)) && decide ((b : Int) ≤ (n : Int) - 1))) && (((decide (-999 ≤ x) && decide (x ≤ 999)) && decide (x ≠ 0)) && ((decide (-999 ≤ y) && decide (y ≤ 999)) && decide (y ≠ 0)))) = true
  simp only [Bool.and_eq_true, decide_eq_true_eq]
  refine ⟨⟨⟨by omega, by omega⟩, by omega, by omega⟩, ⟨⟨by omega, by omega⟩, x0⟩, ⟨by omega, by omega⟩, y0⟩
theorem s_House {n : Nat} {xs : List D} {T : Nat} {post : Sl → Nat → Prop} {ex : Str → List (Str × D) → Nat → Prop} (H : Hs n xs) (hp : post (.ow (houseD n xs)) T) : S_House [.int n, .tup xs] T post ex := by
  have n1 := H.n1
  have n3 := H.n3
  have hx := H.hx
  have hb : within (.int (n : Int)) 1 12 = true := by
    show (decide ((1 : Int) ≤ (n : Int)) && decide ((n : Int) ≤ 12)) = true
    rw [decide_eq_true (by omega), decide_eq_true (by omega)]
    rfl
  have ha : areDoors n (.tup xs) = true := by
    show (decide (xs.length ≤ 20) && xs.all (isDoor n)) = true
    rw [decide_eq_true (by omega), Bool.true_and]
    exact List.all_eq_true.mpr fun d h => (door_is (H.hd d h)).1
  refine ⟨.int n, .tup xs, rfl, rfl, rfl, fun ys h d hdd => ?_, fun z => ?_, fun m em _ => ?_⟩
  · cases h
    exact (door_is (H.hd d hdd)).2
  · rw [hb] at z; cases z
  have en : m = n := by
    injection em with em
    omega
  subst en
  refine ⟨fun z => ?_, fun _ => ⟨xs, rfl, H.re, hp⟩⟩
  rw [ha] at z
  cases z
end Law

set_option Elab.async false
set_option linter.all false
set_option maxRecDepth 100000
set_option maxHeartbeats 4000000
namespace Law
open PySem L2 DL
variable [Tb]
/-! ### moves of a walk -/
def carZ (xs : List D) (zs : List Int) (i : Nat) (q : P2) (t : Int) : List Int := zs.take i ++ [zs.getD i 0 - lvN xs q * t, zs.getD (i + 1) 0 + arN xs q * t] ++ zs.drop (i + 2)
def canZ (zs : List Int) (i : Nat) : List Int := zs.take i ++ [zs.getD i 0 + zs.getD (i + 2) 0] ++ zs.drop (i + 3)
def canQ (qs : List P2) (i : Nat) : List P2 := qs.take i ++ qs.drop (i + 2)
theorem drop_get {zs : List Int} {i : Nat} (h : i < zs.length) : zs.drop i = zs.getD i 0 :: zs.drop (i + 1) := by
  rw [List.drop_eq_getElem_cons h, List.getD_eq_getElem?_getD, List.getElem?_eq_getElem h]
  rfl
theorem set_two (zs : List Int) (i : Nat) (a b : Int) (h : i + 1 < zs.length) : (zs.set i a).set (i + 1) b = zs.take i ++ [a, b] ++ zs.drop (i + 2) := by
  have e : zs = zs.take i ++ zs.getD i 0 :: zs.getD (i + 1) 0 :: zs.drop (i + 2) := by
    rw [← drop_get h, ← drop_get (i := i) (by omega), List.take_append_drop]
  have l : (zs.take i).length = i := by rw [List.length_take]; omega
  generalize zs.take i = A at *
  generalize zs.drop (i + 2) = B at *
  rw [e, List.set_append_right _ _ (by omega), l, Nat.sub_self, List.set_cons_zero, List.set_append_right _ _ (by omega), l, show i + 1 - i = 1 from by omega]
  simp
def S__law_pf_carried : PF := fun ds T post _ => ∃ (n : Nat) (xs : List D) (r : Int) (zs : List Int) (qs : List P2) (e : Int) (i : Nat) (q : P2) (t : Int), ds = [.tup xs, wkD r zs qs, .int i, .int t] ∧ Wk n xs r zs qs e ∧ qs[i]? = some q ∧ post (.fz (wkD r (carZ xs zs i q t) qs)) T
def G_cd2 : DG := (gSeq (gPutN 8 (dOp dAdd (dIxV 8 (dOp dAdd (dVar 2) (dC (.int 1)))) (dOp dMul (dVar 7) (dVar 3))) (dOp dAdd (dVar 2) (dC (.int 1))))
    (gRet (dTup (aCons (dIxV 1 (dC (.int 0))) (aCons (dCB cTuple (aCons (dVar 8) aNil)) (aCons (dIxV 1 (dC (.int 2))) aNil))))))
def G_cd1 : DG := (gSeq (gPutN 8 (dOp dSub (dIxV 8 (dVar 2)) (dOp dMul (dVar 5) (dVar 3))) (dVar 2))
    G_cd2)
def G__law_pf_carried : DG := (gSeq (gUnp (tgTup 4 (tgCons (tgN 4) (tgCons (tgN 5) (tgCons (tgN 6) (tgCons (tgN 7) tgNil))))) (dCall S__law_gate 2 (aCons (dVar 0) (aCons (dOp dIx (dIxV 1 (dC (.int 2))) (dVar 2)) aNil))))
    (gSeq (gSetO 8 (dListO (dIxV 1 (dC (.int 1)))))
    G_cd1))
theorem m__law_pf_carried : ∀ (ds : List D) T post ex, ds.length = 4 → S__law_pf_carried ds T post ex → G__law_pf_carried (endsOf post ex) (startD 9 ds T) := by
  rintro ds T post ex _ ⟨n, xs, r, zs, qs, e, i, q, t, rfl, hw, hq, hp⟩
  have pq := hw.pa q (List.mem_of_getElem? hq)
  have hi := (List.getElem?_eq_some_iff.mp hq).1
  have hl := hw.ln
  have hm := hw.mx
  refine ⟨trivial, _, rfl, _, st_at hq, rfl, lgate_pas pq fun c d _ _ _ => ?_⟩
  refine ⟨rfl, trivial, _, rfl, ?_⟩
  have k1 : G_cd1 (endsOf post ex) ⟨[some (.fz (.tup xs)), some (.fz (wkD r zs qs)), some (.fz (.int i)), some (.fz (.int t)), some (.fz (.int c)), some (.fz (.int (lvN xs q))), some (.fz (.int d)), some (.fz (.int (arN xs q))), some (.ow (.lst (zs.map D.int)))], T⟩ := by
    refine ⟨trivial, _, int_at (by omega), .inl ⟨by have := pq.size.1.2.1; omega, by have := pq.size.1.2.2; omega⟩, trivial, i, ixN_of (z := (i : Int)) (by omega) (by rw [List.length_map]; omega), ?_⟩
    have k2 : G_cd2 (endsOf post ex) ⟨[some (.fz (.tup xs)), some (.fz (wkD r zs qs)), some (.fz (.int i)), some (.fz (.int t)), some (.fz (.int c)), some (.fz (.int (lvN xs q))), some (.fz (.int d)), some (.fz (.int (arN xs q))), some (.ow (.lst ((zs.set i (zs.getD i 0 - lvN xs q * t)).map D.int)))], T⟩ := by
      have e1 : (zs.set i (zs.getD i 0 - lvN xs q * t)).getD (i + 1) 0 = zs.getD (i + 1) 0 := by
        rw [List.getD_eq_getElem?_getD, List.getElem?_set_ne (by omega), ← List.getD_eq_getElem?_getD]
      have hx := int_at1 (zs := zs.set i (zs.getD i 0 - lvN xs q * t)) (i := i) (by rw [List.length_set]; omega)
      rw [e1] at hx
      refine ⟨trivial, _, hx, .inl ⟨by have := pq.size.2.2.1; omega, by have := pq.size.2.2.2; omega⟩, trivial, i + 1, ixN_of (z := (i : Int) + 1) (by omega) (by rw [List.length_map, List.length_set]; omega), ?_⟩
      refine ⟨trivial, _, rfl, trivial, _, rfl, (show (3 : Nat) ≤ 100000 from by decide), ?_⟩
      unfold wkD walkD carZ at hp
      rw [← set_two zs i _ _ (by omega), List.map_set] at hp
      exact hp
    rw [List.map_set] at k2
    exact k2
  exact k1
def S__law_pf_cancelled : PF := fun ds T post _ => ∃ (r : Int) (zs : List Int) (qs : List P2) (i : Nat), ds = [wkD r zs qs, .int i] ∧ zs.length = qs.length + 1 ∧ i + 1 < qs.length ∧ qs.length ≤ 1000 ∧ post (.fz (wkD r (canZ zs i) (canQ qs i))) T
def G__law_pf_cancelled : DG := (gSeq (gPar 2 3 (aCons (dIxV 0 (dC (.int 1))) (aCons (dIxV 0 (dC (.int 2))) aNil)))
    (gSeq (gSet 4 (dTup (aCons (dOp dAdd (dIxV 2 (dVar 1)) (dIxV 2 (dOp dAdd (dVar 1) (dC (.int 2))))) aNil)))
    (gSeq (gSet 2 (dOp dAdd (dOp dAdd (dSl (dVar 2) oNo (oAt (dVar 1))) (dVar 4)) (dSl (dVar 2) (oAt (dOp dAdd (dVar 1) (dC (.int 3)))) oNo)))
    (gRet (dTup (aCons (dIxV 0 (dC (.int 0))) (aCons (dVar 2) (aCons (dOp dAdd (dSl (dVar 3) oNo (oAt (dVar 1))) (dSl (dVar 3) (oAt (dOp dAdd (dVar 1) (dC (.int 2)))) oNo)) aNil))))))))
theorem int_at2 {zs : List Int} {i : Nat} (h : i + 2 < zs.length) : atI (zs.map D.int) ((i : Int) + 2) = some (.int (zs.getD (i + 2) 0)) := by
  have := int_at (zs := zs) (i := i + 2) h
  exact this
theorem m__law_pf_cancelled : ∀ (ds : List D) T post ex, ds.length = 2 → S__law_pf_cancelled ds T post ex → G__law_pf_cancelled (endsOf post ex) (startD 5 ds T) := by
  rintro ds T post ex _ ⟨r, zs, qs, i, rfl, hl, hi, hm, hp⟩
  have c1 := cut_take (zs.map D.int) i (by rw [List.length_map]; omega)
  have c2 : cutD (zs.map D.int) (some ((i : Int) + 3)) none = (zs.map D.int).drop (i + 3) := cut_drop (zs.map D.int) (i + 3) (by rw [List.length_map]; omega)
  have c3 := cut_take (qs.map stD) i (by rw [List.length_map]; omega)
  have c4 : cutD (qs.map stD) (some ((i : Int) + 2)) none = (qs.map stD).drop (i + 2) := cut_drop (qs.map stD) (i + 2) (by rw [List.length_map]; omega)
  have z1 : (zs.map D.int).take i = (zs.take i).map D.int := List.map_take.symm
  have z2 : (zs.map D.int).drop (i + 3) = (zs.drop (i + 3)).map D.int := List.map_drop.symm
  have z3 : (qs.map stD).take i = (qs.take i).map stD := List.map_take.symm
  have z4 : (qs.map stD).drop (i + 2) = (qs.drop (i + 2)).map stD := List.map_drop.symm
  have n1 : (zs.take i).length = i := by rw [List.length_take]; omega
  have n2 : (zs.drop (i + 3)).length ≤ 1001 := by rw [List.length_drop]; omega
  have n3 : (qs.take i).length = i := by rw [List.length_take]; omega
  have n4 : (qs.drop (i + 2)).length ≤ 1001 := by rw [List.length_drop]; omega
  refine ⟨trivial, _, rfl, trivial, _, rfl, ?_⟩
  refine ⟨trivial, _, int_at (by omega), trivial, _, int_at2 (by omega), (show (1 : Nat) ≤ 100000 from by omega), ?_⟩
  show (cutD (zs.map D.int) none (some (i : Int))).length + 1 ≤ 100000 ∧ (cutD (zs.map D.int) none (some (i : Int)) ++ [D.int (zs.getD i 0 + zs.getD (i + 2) 0)]).length + (cutD (zs.map D.int) (some ((i : Int) + 3)) none).length ≤ 100000 ∧ _
  rw [c1, c2, z1, z2]
  refine ⟨by rw [List.length_map]; omega, by rw [List.length_append, List.length_map, List.length_map]; show _ + 1 + _ ≤ _; omega, ?_⟩
  refine ⟨trivial, _, rfl, ?_⟩
  show (cutD (qs.map stD) none (some (i : Int))).length + (cutD (qs.map stD) (some ((i : Int) + 2)) none).length ≤ 100000 ∧ _
  rw [c3, c4, z3, z4]
  refine ⟨by rw [List.length_map, List.length_map]; omega, (show (3 : Nat) ≤ 100000 from by omega), ?_⟩
  unfold wkD canZ canQ at hp
  rw [List.map_append, List.map_append, List.map_append] at hp
  exact hp
/-! a pass, an index -/
theorem in01 (z : Int) : ([D.int 0, D.int 1].any fun d => PyData.eqv (py d) (py (.int z))) = within (.int z) 0 1 := by
  show (PyData.eqv (py (.int 0)) (py (.int z)) || (PyData.eqv (py (.int 1)) (py (.int z)) || false)) = (decide (0 ≤ z) && decide (z ≤ 1))
  rw [eqv_int, eqv_int, Bool.or_false]
  by_cases h0 : z = 0
  · subst h0; rfl
  · by_cases h1 : z = 1
    · subst h1; rfl
    · rw [decide_eq_false (by omega), decide_eq_false (by omega)]
      by_cases h2 : 0 ≤ z
      · rw [decide_eq_true h2, decide_eq_false (by omega)]; rfl
      · rw [decide_eq_false h2]; rfl
def S__law_pf_is_step : PF := fun ds T post _ => ∃ (xs : List D) (d : D), ds = [.tup xs, d] ∧ plainD d = true ∧ plainDs d = true ∧ post (.fz (.bl (isPass xs.length d))) T
def T_is1 : DFT := (tOrD (tNotD (dTest (dCall S__law_is_whole 1 (aCons (dIxV 1 (dC (.int 0))) aNil)))) (tNotD (dTest (dCall S__law_is_whole 1 (aCons (dIxV 1 (dC (.int 1))) aNil)))))
def T_is2 : DFT := (tOrD (dTest (dOp dNe (dCB cLen (aCons (dVar 1) aNil)) (dC (.int 2)))) T_is1)
def G_is0 : DG := (gRet (dAnd (dChain (dCmpI fun i j => decide (i ≤ j)) (dCmpI fun i j => decide (i < j)) (dC (.int 0)) (dIxV 1 (dC (.int 0))) (dCB cLen (aCons (dVar 0) aNil))) (dOp (dIn false) (dIxV 1 (dC (.int 1))) (dTup (aCons (dC (.int 0)) (aCons (dC (.int 1)) aNil))))))
def G__law_pf_is_step : DG := (gSeq (gIf (tOrD (tNotD (dTest (dIsTy "tuple" (dVar 1)))) T_is2) (gRet (dC (.bl false))) gNil)
    G_is0)
theorem is0 {xs : List D} {a b : Int} {T : Nat} {post : Sl → Nat → Prop} {ex : Str → List (Str × D) → Nat → Prop} (hp : post (.fz (.bl (isPass xs.length (.tup [.int a, .int b])))) T) : G_is0 (endsOf post ex) ⟨[some (.fz (.tup xs)), some (.fz (.tup [.int a, .int b]))], T⟩ := by
  have hp : post (.fz (.bl ((decide (0 ≤ a) && decide (a ≤ (xs.length : Int) - 1)) && within (.int b) 0 1))) T := hp
  refine ⟨trivial, _, rfl, ?_⟩
  show (match D.bl (decide (0 ≤ a)) with | .bl true => (match D.bl (decide (a < (xs.length : Int))) with | .bl true => (dOp (dIn false) (dIxV 1 (dC (.int 1))) (dTup (aCons (dC (.int 0)) (aCons (dC (.int 1)) aNil)))) ⟨[some (.fz (.tup xs)), some (.fz (.tup [.int a, .int b]))], T⟩ (fun z s => post (.fz z) s.T) (endsOf post ex).ex | .bl false => post (.fz (.bl false)) T | _ => False) | .bl false => post (.fz (.bl false)) T | _ => False)
  by_cases c : 0 ≤ a
  · rw [decide_eq_true c] at hp ⊢
    by_cases c2 : a < (xs.length : Int)
    · rw [decide_eq_true (show a ≤ (xs.length : Int) - 1 from by omega)] at hp
      rw [decide_eq_true c2]
      refine ⟨trivial, _, rfl, (show (2 : Nat) ≤ 100000 from by decide), rfl, rfl, ?_⟩
      show post (.fz (.bl ([D.int 0, D.int 1].any fun d => PyData.eqv (py d) (py (.int b))))) T
      rw [in01]
      exact hp
    · rw [decide_eq_false (show ¬ a ≤ (xs.length : Int) - 1 from by omega)] at hp
      rw [decide_eq_false c2]
      exact hp
  · rw [decide_eq_false c] at hp ⊢
    exact hp
theorem is2 {xs : List D} {ds : List D} {T : Nat} {post : Sl → Nat → Prop} {ex : Str → List (Str × D) → Nat → Prop} (pd : ∀ d ∈ ds, plainD d = true) (hp : post (.fz (.bl (isPass xs.length (.tup ds)))) T) : T_is2 ⟨[some (.fz (.tup xs)), some (.fz (.tup ds))], T⟩ (fun k s1 => if k = true then post (.fz (.bl false)) s1.T else G_is0 (endsOf post ex) s1) (endsOf post ex).ex := by
  refine ⟨rfl, rfl, ?_⟩
  rw [eqv_int]
  by_cases h : ds.length = 2
  · rw [decide_eq_true (show ((ds.length : Nat) : Int) = 2 from by omega)]
    match ds, h, pd with
    | [a, b], _, pd =>
      have pa := pd a (by simp)
      have pb := pd b (by simp)
      refine ⟨trivial, _, rfl, rfl, a, rfl, pa, ?_⟩
      cases a with
      | int z =>
        refine ⟨trivial, _, rfl, rfl, b, rfl, pb, ?_⟩
        cases b with
        | int y => exact is0 hp
        | _ =>
          have hp : post (.fz (.bl ((decide (0 ≤ z) && decide (z ≤ (xs.length : Int) - 1)) && false))) T := hp
          rw [Bool.and_false] at hp
          exact hp
      | _ => exact hp
  · rw [decide_eq_false (show ¬ ((ds.length : Nat) : Int) = 2 from by omega)]
    have e : isPass xs.length (.tup ds) = false := by
      unfold isPass
      split
      · rename_i z
        cases z
        exact absurd rfl h
      · rfl
    rw [e] at hp
    exact hp
theorem m__law_pf_is_step : ∀ (ds : List D) T post ex, ds.length = 2 → S__law_pf_is_step ds T post ex → G__law_pf_is_step (endsOf post ex) (startD 2 ds T) := by
  rintro ds T post ex _ ⟨xs, d, rfl, pd, pds, hp⟩
  cases d with
  | tup ds =>
    refine ⟨"tuple", true, rfl, by decide +kernel, ?_⟩
    exact is2 (fun d hd => List.all_eq_true.mp pds d hd) hp
  | obj _ _ => cases pd
  | exc _ _ => cases pd
  | st => cases pd
  | scr _ => cases pd
  | _ => exact ⟨_, false, rfl, by decide +kernel, hp⟩
def S__law_pf_in : PF := fun ds T post _ => ∃ (d : D) (m : Int), ds = [d, .int m] ∧ plainD d = true ∧ post (.fz (.bl (within d 0 (m - 1)))) T
def G__law_pf_in : DG := (gRet (dAnd (dCall S__law_is_whole 1 (aCons (dVar 0) aNil)) (dChain (dCmpI fun i j => decide (i ≤ j)) (dCmpI fun i j => decide (i < j)) (dC (.int 0)) (dVar 0) (dVar 1))))
theorem m__law_pf_in : ∀ (ds : List D) T post ex, ds.length = 2 → S__law_pf_in ds T post ex → G__law_pf_in (endsOf post ex) (startD 2 ds T) := by
  rintro ds T post ex _ ⟨d, m, rfl, pd, hp⟩
  refine ⟨rfl, d, rfl, pd, ?_⟩
  cases d with
  | int z =>
    show (match D.bl (decide (0 ≤ z)) with | .bl true => post (.fz (.bl (decide (z < m)))) T | .bl false => post (.fz (.bl false)) T | _ => False)
    have e : within (.int z) 0 (m - 1) = (decide (0 ≤ z) && decide (z < m)) := by
      show (decide (0 ≤ z) && decide (z ≤ m - 1)) = _
      congr 1
      rw [decide_eq_decide]
      omega
    rw [e] at hp
    by_cases c : 0 ≤ z
    · rw [decide_eq_true c] at hp ⊢
      exact hp
    · rw [decide_eq_false c] at hp ⊢
      exact hp
  | _ => exact hp
end Law

set_option Elab.async false
set_option linter.all false
set_option maxRecDepth 100000
set_option maxHeartbeats 4000000
namespace Law
open PySem L2 DL
variable [Tb]
/-! ### moves change nothing of the plain form -/
theorem run_at (xs : List D) (Z : RZ3) (y : Int) (B : List Int) (L K : List P2) (A : List Int) (h : A.length = K.length) : runZ xs Z (A ++ y :: B) (K ++ L) = runZ xs (runZ xs Z (A ++ [0]) K) (y :: B) L := by
  have := run_join xs 0 y B L K A Z h
  rw [Int.zero_add] at this
  exact this
theorem dropQ {qs : List P2} {i : Nat} {q : P2} (h : qs[i]? = some q) : qs.drop i = q :: qs.drop (i + 1) := by
  obtain ⟨hi, e⟩ := List.getElem?_eq_some_iff.mp h
  rw [List.drop_eq_getElem_cons hi, e]
theorem splitQ {qs : List P2} {i : Nat} {q : P2} (h : qs[i]? = some q) : qs = qs.take i ++ q :: qs.drop (i + 1) := by
  rw [← dropQ h, List.take_append_drop]
theorem car_len {xs : List D} {zs : List Int} {i : Nat} {q : P2} {t : Int} (h : i + 1 < zs.length) : (carZ xs zs i q t).length = zs.length := by
  unfold carZ
  simp only [List.length_append, List.length_take, List.length_drop, List.length_cons, List.length_nil]
  omega
theorem car_run {n : Nat} {xs : List D} {r e : Int} {zs : List Int} {qs : List P2} {i : Nat} {q : P2} (hw : Wk n xs r zs qs e) (hq : qs[i]? = some q) (t : Int) (Z : RZ3) : runZ xs Z (carZ xs zs i q t) qs = runZ xs Z zs qs := by
  have pq := hw.pa q (List.mem_of_getElem? hq)
  have hi := (List.getElem?_eq_some_iff.mp hq).1
  have hl := hw.ln
  have la : (zs.take i).length = (qs.take i).length := by rw [List.length_take, List.length_take]; omega
  have e2 : zs = zs.take i ++ zs.getD i 0 :: zs.getD (i + 1) 0 :: zs.drop (i + 2) := by
    rw [← drop_get (i := i + 1) (by omega), ← drop_get (i := i) (by omega), List.take_append_drop]
  have h1 : runZ xs Z (carZ xs zs i q t) qs = runZ xs (runZ xs Z (zs.take i ++ [0]) (qs.take i)) ((zs.getD i 0 - lvN xs q * t) :: (zs.getD (i + 1) 0 + arN xs q * t) :: zs.drop (i + 2)) (q :: qs.drop (i + 1)) := by
    have e3 : carZ xs zs i q t = zs.take i ++ (zs.getD i 0 - lvN xs q * t) :: (zs.getD (i + 1) 0 + arN xs q * t) :: zs.drop (i + 2) := by
      unfold carZ
      simp
    rw [e3]
    conv => lhs; rw [splitQ hq]
    exact run_at xs Z _ _ _ _ _ la
  have h2 : runZ xs Z zs qs = runZ xs (runZ xs Z (zs.take i ++ [0]) (qs.take i)) (zs.getD i 0 :: zs.getD (i + 1) 0 :: zs.drop (i + 2)) (q :: qs.drop (i + 1)) := by
    conv => lhs; rw [splitQ hq, e2]
    exact run_at xs Z _ _ _ _ _ la
  rw [h1, h2, ← run_carry pq _ _ _ t, show zs.getD i 0 - lvN xs q * t + lvN xs q * t = zs.getD i 0 from by omega]
theorem can_run {n : Nat} {xs : List D} {r e : Int} {zs : List Int} {qs : List P2} {i : Nat} {q : P2} {Z : RZ3} (hw : Wk n xs r zs qs e) (hq : qs[i]? = some q) (hq2 : qs[i + 1]? = some (turn q)) (h0 : zs.getD (i + 1) 0 = 0) (g : Gd n xs Z) : runZ xs Z (canZ zs i) (canQ qs i) = runZ xs Z zs qs := by
  have pq := hw.pa q (List.mem_of_getElem? hq)
  have hi := (List.getElem?_eq_some_iff.mp hq2).1
  have hl := hw.ln
  have la : (zs.take i).length = (qs.take i).length := by rw [List.length_take, List.length_take]; omega
  have gY : Gd n xs (runZ xs Z (zs.take i ++ [0]) (qs.take i)) := Gd.run _ _ _ g fun p hp => hw.pa p (List.mem_of_mem_take hp)
  have e2 : zs = zs.take i ++ zs.getD i 0 :: 0 :: zs.getD (i + 2) 0 :: zs.drop (i + 3) := by
    rw [← drop_get (i := i + 2) (by omega)]
    conv => lhs; rw [← List.take_append_drop i zs, drop_get (i := i) (by omega), drop_get (i := i + 1) (by omega), h0]
  have e4 : qs = qs.take i ++ q :: turn q :: qs.drop (i + 2) := by rw [← dropQ hq2, ← dropQ hq, List.take_append_drop]
  have h1 : runZ xs Z (canZ zs i) (canQ qs i) = runZ xs (runZ xs Z (zs.take i ++ [0]) (qs.take i)) ((zs.getD i 0 + zs.getD (i + 2) 0) :: zs.drop (i + 3)) (qs.drop (i + 2)) := by
    have e3 : canZ zs i = zs.take i ++ (zs.getD i 0 + zs.getD (i + 2) 0) :: zs.drop (i + 3) := by
      unfold canZ
      simp
    rw [e3]
    exact run_at xs Z _ _ _ _ _ la
  have h2 : runZ xs Z zs qs = runZ xs (runZ xs Z (zs.take i ++ [0]) (qs.take i)) (zs.getD i 0 :: 0 :: zs.getD (i + 2) 0 :: zs.drop (i + 3)) (q :: turn q :: qs.drop (i + 2)) := by
    conv => lhs; rw [e4, e2]
    exact run_at xs Z _ _ _ _ _ la
  rw [h1, h2, run_cancel gY pq]
theorem put_run {n : Nat} {xs : List D} {r e : Int} {zs : List Int} {qs : List P2} {i : Nat} {q : P2} {Z : RZ3} (hw : Wk n xs r zs qs e) (hi : i ≤ qs.length) (pq : Pas n xs q) (a : Int) (g : Gd n xs Z) : runZ xs Z (putZ zs i a) (putQ qs i q) = runZ xs Z zs qs := by
  have hl := hw.ln
  have la : (zs.take i).length = (qs.take i).length := by rw [List.length_take, List.length_take]; omega
  have gY : Gd n xs (runZ xs Z (zs.take i ++ [0]) (qs.take i)) := Gd.run _ _ _ g fun p hp => hw.pa p (List.mem_of_mem_take hp)
  have h1 : runZ xs Z (putZ zs i a) (putQ qs i q) = runZ xs (runZ xs Z (zs.take i ++ [0]) (qs.take i)) (a :: 0 :: (zs.getD i 0 - a) :: zs.drop (i + 1)) (q :: turn q :: qs.drop i) := by
    have e3 : putZ zs i a = zs.take i ++ a :: 0 :: (zs.getD i 0 - a) :: zs.drop (i + 1) := by
      unfold putZ
      simp
    have e4 : putQ qs i q = qs.take i ++ q :: turn q :: qs.drop i := by
      unfold putQ
      simp
    rw [e3, e4]
    exact run_at xs Z _ _ _ _ _ la
  have h2 : runZ xs Z zs qs = runZ xs (runZ xs Z (zs.take i ++ [0]) (qs.take i)) (zs.getD i 0 :: zs.drop (i + 1)) (qs.drop i) := by
    conv => lhs; rw [← List.take_append_drop i zs, ← List.take_append_drop i qs, drop_get (i := i) (by omega)]
    exact run_at xs Z _ _ _ _ _ la
  rw [h1, h2, run_cancel gY pq, show a + (zs.getD i 0 - a) = zs.getD i 0 from by omega]
theorem can_wk {n : Nat} {xs : List D} {r e : Int} {zs : List Int} {qs : List P2} {i : Nat} {q : P2} (hw : Wk n xs r zs qs e) (hq : qs[i]? = some q) (hq2 : qs[i + 1]? = some (turn q)) : Wk n xs r (canZ zs i) (canQ qs i) e := by
  have pq := hw.pa q (List.mem_of_getElem? hq)
  have hi := (List.getElem?_eq_some_iff.mp hq2).1
  have hl := hw.ln
  have hm := hw.mx
  have e4 : qs = qs.take i ++ q :: turn q :: qs.drop (i + 2) := by rw [← dropQ hq2, ← dropQ hq, List.take_append_drop]
  refine ⟨fun p hp => ?_, ?_, ?_, ?_, hw.r0, hw.rn⟩
  · rcases List.mem_append.mp hp with h | h
    · exact hw.pa p (List.mem_of_mem_take h)
    · exact hw.pa p (List.mem_of_mem_drop h)
  · have g3 := hw.go
    rw [e4, List.map_append] at g3
    obtain ⟨m, g4, g5⟩ := goes_split _ _ _ _ g3
    obtain ⟨b, g6, g7⟩ := goes_split [stD q] _ _ _ (show goes xs m ([stD q] ++ (stD (turn q) :: (qs.drop (i + 2)).map stD)) = some e from g5)
    have g8 := rooms_turn pq (goes_one g6)
    have g9 := one_goes g8
    have g10 : goes xs b ([stD (turn q)] ++ (qs.drop (i + 2)).map stD) = some e := g7
    rw [goes_app _ _ _ _ g9] at g10
    unfold canQ
    rw [List.map_append, goes_app _ _ _ _ g4]
    exact g10
  · unfold canZ canQ
    simp only [List.length_append, List.length_take, List.length_drop, List.length_cons, List.length_nil]
    omega
  · unfold canQ
    simp only [List.length_append, List.length_take, List.length_drop]
    omega
theorem car_wk {n : Nat} {xs : List D} {r e : Int} {zs : List Int} {qs : List P2} {i : Nat} {q : P2} (hw : Wk n xs r zs qs e) (hq : qs[i]? = some q) (t : Int) : Wk n xs r (carZ xs zs i q t) qs e := by
  have hi := (List.getElem?_eq_some_iff.mp hq).1
  have hl := hw.ln
  exact ⟨hw.pa, hw.go, by rw [car_len (by omega)]; exact hl, hw.mx, hw.r0, hw.rn⟩
/-- a move, and what it makes of the walk -/
inductive Mv (n : Nat) (xs : List D) (r : Int) (zs : List Int) (qs : List P2) : D → List Int → List P2 → Prop
  | carry (i : Nat) (q : P2) (t : Int) : qs[i]? = some q → Mv n xs r zs qs (.tup [.str "carry", .int i, .int t]) (carZ xs zs i q t) qs
  | cancel (i : Nat) (q : P2) : qs[i]? = some q → qs[i + 1]? = some (turn q) → zs.getD (i + 1) 0 = 0 → Mv n xs r zs qs (.tup [.str "cancel", .int i]) (canZ zs i) (canQ qs i)
  | put (i : Nat) (q : P2) (a : Int) (m b : Nat) : i ≤ qs.length → Pas n xs q → goes xs r ((qs.take i).map stD) = some (m : Int) → m < n → roomsOf xs (stD q) = some ((m : Int), (b : Int)) → Mv n xs r zs qs (.tup [.str "put", .int i, stD q, .int a]) (putZ zs i a) (putQ qs i q)
/-- walks that moves lead to one another -/
structure Led (n : Nat) (xs : List D) (r e : Int) (zs : List Int) (qs : List P2) (zs' : List Int) (qs' : List P2) : Prop where
  wk : Wk n xs r zs' qs' e
  run : ∀ Z, Gd n xs Z → runZ xs Z zs' qs' = runZ xs Z zs qs
theorem Led.refl {n : Nat} {xs : List D} {r e : Int} {zs : List Int} {qs : List P2} (h : Wk n xs r zs qs e) : Led n xs r e zs qs zs qs := ⟨h, fun _ _ => rfl⟩
theorem Led.trans {n : Nat} {xs : List D} {r e : Int} {zs zs' zs2 : List Int} {qs qs' qs2 : List P2} (h : Led n xs r e zs qs zs' qs') (k : Led n xs r e zs' qs' zs2 qs2) : Led n xs r e zs qs zs2 qs2 := ⟨k.wk, fun Z g => (k.run Z g).trans (h.run Z g)⟩
theorem Mv.led {n : Nat} {xs : List D} {r e : Int} {zs zs' : List Int} {qs qs' : List P2} {d : D} (hw : Wk n xs r zs qs e) (hm : qs.length ≤ 900) (h : Mv n xs r zs qs d zs' qs') : Led n xs r e zs qs zs' qs' := by
  cases h with
  | carry i q t hq => exact ⟨car_wk hw hq t, fun Z _ => car_run hw hq t Z⟩
  | cancel i q hq hq2 h0 => exact ⟨can_wk hw hq hq2, fun Z g => can_run hw hq hq2 h0 g⟩
  | put i q a m b hi pq hg hmn hr => exact ⟨put_wk hw hi hm pq hg hr, fun Z g => put_run hw hi pq a g⟩
theorem Led.red {n : Nat} {xs : List D} {r e : Int} {zs zs' : List Int} {qs qs' : List P2} (hw : Wk n xs r zs qs e) (h : Led n xs r e zs qs zs' qs') : redF xs zs' qs' = redF xs zs qs := by
  rw [redF_run h.wk.ln, redF_run hw.ln]
  exact h.run Z0 (Gd.zero n xs)
end Law

set_option Elab.async false
set_option linter.all false
set_option maxRecDepth 100000
set_option maxHeartbeats 4000000
namespace Law
open PySem L2 DL
variable [Tb]
/-! ### the walk behind a move -/
def S__law_pf_behind : PF := fun ds T post _ => ∃ (n : Nat) (xs : List D) (r : Int) (zs : List Int) (qs : List P2) (e : Int) (m : D) (zs' : List Int) (qs' : List P2), ds = [.tup xs, wkD r zs qs, m] ∧ Wk n xs r zs qs e ∧ Mv n xs r zs qs m zs' qs' ∧ post (.fz (wkD r zs' qs')) T
def G_bh3 : DG := (gSeq (gIf (tAndD (dTest (dOp dEq (dIxV 2 (dC (.int 0))) (dC (.str "put")))) (dTest (dOp dEq (dCB cLen (aCons (dVar 2) aNil)) (dC (.int 4))))) (gIf (tAndD (dTest (dCall S__law_pf_in 2 (aCons (dIxV 2 (dC (.int 1))) (aCons (dOp dAdd (dVar 3) (dC (.int 1))) aNil)))) (tAndD (dTest (dCall S__law_pf_is_step 2 (aCons (dVar 0) (aCons (dIxV 2 (dC (.int 2))) aNil)))) (dTest (dCall S__law_is_whole 1 (aCons (dIxV 2 (dC (.int 3))) aNil))))) (gIf (dTest (dOp dEq (dOp dIx (dCall S__law_gate 2 (aCons (dVar 0) (aCons (dIxV 2 (dC (.int 2))) aNil))) (dC (.int 0))) (dCall S__law_pf_room 3 (aCons (dVar 0) (aCons (dVar 1) (aCons (dIxV 2 (dC (.int 1))) aNil)))))) (gRet (dCall S__law_pf_put 4 (aCons (dVar 1) (aCons (dIxV 2 (dC (.int 1))) (aCons (dIxV 2 (dC (.int 2))) (aCons (dIxV 2 (dC (.int 3))) aNil)))))) gNil) gNil) gNil)
    (gRet (dC .non)))
def G_bh2 : DG := (gSeq (gIf (tAndD (dTest (dOp dEq (dIxV 2 (dC (.int 0))) (dC (.str "cancel")))) (dTest (dOp dEq (dCB cLen (aCons (dVar 2) aNil)) (dC (.int 2))))) (gIf (tAndD (dTest (dCall S__law_pf_in 2 (aCons (dIxV 2 (dC (.int 1))) (aCons (dVar 3) aNil)))) (dTest (dCall S__law_pf_turns 3 (aCons (dVar 0) (aCons (dVar 1) (aCons (dIxV 2 (dC (.int 1))) aNil)))))) (gRet (dIfE (dTest (dOp dEq (dOp dIx (dIxV 1 (dC (.int 1))) (dOp dAdd (dIxV 2 (dC (.int 1))) (dC (.int 1)))) (dC (.int 0)))) (dCall S__law_pf_cancelled 2 (aCons (dVar 1) (aCons (dIxV 2 (dC (.int 1))) aNil))) (dC .non))) gNil) gNil)
    G_bh3)
def G_bh1 : DG := (gSeq (gIf (tAndD (dTest (dOp dEq (dIxV 2 (dC (.int 0))) (dC (.str "carry")))) (dTest (dOp dEq (dCB cLen (aCons (dVar 2) aNil)) (dC (.int 3))))) (gIf (tAndD (dTest (dCall S__law_pf_in 2 (aCons (dIxV 2 (dC (.int 1))) (aCons (dVar 3) aNil)))) (dTest (dCall S__law_is_whole 1 (aCons (dIxV 2 (dC (.int 2))) aNil)))) (gRet (dCall S__law_pf_carried 4 (aCons (dVar 0) (aCons (dVar 1) (aCons (dIxV 2 (dC (.int 1))) (aCons (dIxV 2 (dC (.int 2))) aNil)))))) gNil) gNil)
    G_bh2)
def G__law_pf_behind : DG := (gSeq (gIf (tOrD (tNotD (dTest (dIsTy "tuple" (dVar 2)))) (tOrD (dTest (dOp dEq (dVar 2) (dTup aNil))) (tNotD (dTest (dIsTy "str" (dIxV 2 (dC (.int 0)))))))) (gRet (dC .non)) gNil)
    (gSeq (gSet 3 (dCB cLen (aCons (dIxV 1 (dC (.int 2))) aNil)))
    G_bh1))
theorem within_nat {i m : Nat} (h : i < m) : within (.int i) 0 ((m : Int) - 1) = true := by
  show (decide ((0 : Int) ≤ (i : Int)) && decide ((i : Int) ≤ (m : Int) - 1)) = true
  rw [decide_eq_true (by omega), decide_eq_true (by omega)]
  rfl
theorem s_in {i m : Nat} {T : Nat} {post : Sl → Nat → Prop} {ex : Str → List (Str × D) → Nat → Prop} (h : i < m) (hp : post (.fz (.bl true)) T) : S__law_pf_in [.int i, .int m] T post ex := by
  refine ⟨.int i, m, rfl, rfl, ?_⟩
  rw [within_nat h]
  exact hp
theorem ok_tup {ds : List D} (h : ∀ d ∈ ds, okN 8 d = true) : okD (.tup ds) = true := okD_of (n := 9) (by
  unfold okN
  exact okNs_iff.mpr h)
theorem ok_str {w : Str} (h : PyData.strOk w = true) : okD (.str w) = true := okD_of (n := 9) (by unfold okN; exact h)
theorem at0 {d : D} {ds : List D} : atI (d :: ds) 0 = some d := atI_nat (i := 0) rfl
def bhSt (xs : List D) (r : Int) (zs : List Int) (qs : List P2) (m : D) (T : Nat) : DS := ⟨[some (.fz (.tup xs)), some (.fz (wkD r zs qs)), some (.fz m), some (.fz (.int (qs.length : Nat)))], T⟩
theorem bh0 {xs : List D} {r : Int} {zs : List Int} {qs : List P2} {w : Str} {rest : List D} {T : Nat} {E : DE} (ok : okD (.tup (.str w :: rest)) = true) (h : G_bh1 E (bhSt xs r zs qs (.tup (.str w :: rest)) T)) :
    G__law_pf_behind E ⟨[some (.fz (.tup xs)), some (.fz (wkD r zs qs)), some (.fz (.tup (.str w :: rest))), none], T⟩ := by
  refine ⟨"tuple", true, rfl, by decide +kernel, ?_⟩
  refine ⟨(show (0 : Nat) ≤ 100000 from by decide), ok, rfl, ?_⟩
  rw [eqv_tnil]
  refine ⟨trivial, _, at0, "str", true, rfl, by decide +kernel, ?_⟩
  refine ⟨trivial, _, rfl, ?_⟩
  unfold bhSt at h
  rw [← List.length_map (f := stD)] at h
  exact h
/-- is it this word, with so many items? -/
theorem bh_word {xs : List D} {r : Int} {zs : List Int} {qs : List P2} {w v : Str} {rest : List D} {k : Int} {T : Nat} {P : Bool → DS → Prop} {ex : XD} (ow : PyData.strOk w = true) (ov : PyData.strOk v = true) (b : Bool) (hb : PyData.eqv (py (.str w)) (py (.str v)) = b) (c : Bool) (hc : decide ((((D.str w :: rest).length : Nat) : Int) = k) = c)
    (h : P (b && c) (bhSt xs r zs qs (.tup (.str w :: rest)) T)) :
    tAndD (dTest (dOp dEq (dIxV 2 (dC (.int 0))) (dC (.str v)))) (dTest (dOp dEq (dCB cLen (aCons (dVar 2) aNil)) (dC (.int k)))) (bhSt xs r zs qs (.tup (.str w :: rest)) T) P ex := by
  refine ⟨trivial, _, at0, ok_str ow, ok_str ov, ?_⟩
  rw [hb]
  cases b with
  | false => exact h
  | true =>
    refine ⟨rfl, rfl, ?_⟩
    show P (PyData.eqv (py (.int ((D.str w :: rest).length : Nat))) (py (.int k))) _
    rw [eqv_int, hc]
    exact h
theorem m__law_pf_behind : ∀ (ds : List D) T post ex, ds.length = 3 → S__law_pf_behind ds T post ex → G__law_pf_behind (endsOf post ex) (startD 4 ds T) := by
  rintro ds T post ex _ ⟨n, xs, r, zs, qs, e, m, zs', qs', rfl, hw, hm, hp⟩
  have hl := hw.ln
  have hx := hw.mx
  cases hm with
  | carry i q t hq =>
    have hi := (List.getElem?_eq_some_iff.mp hq).1
    refine bh0 (ok_tup (by simp [okN]; decide +kernel)) ?_
    refine bh_word (by decide +kernel) (by decide +kernel) true (by decide +kernel) true rfl ?_
    refine ⟨trivial, _, rfl, rfl, s_in hi ?_⟩
    refine ⟨trivial, _, rfl, rfl, .int t, rfl, rfl, ?_⟩
    refine ⟨trivial, _, rfl, trivial, _, rfl, rfl, ?_⟩
    exact ⟨n, xs, r, zs, qs, e, i, q, t, rfl, hw, hq, hp⟩
  | cancel i q hq hq2 h0 =>
    have hi := (List.getElem?_eq_some_iff.mp hq).1
    have hi2 := (List.getElem?_eq_some_iff.mp hq2).1
    refine bh0 (ok_tup (by simp [okN]; decide +kernel)) ?_
    refine bh_word (by decide +kernel) (by decide +kernel) false (by decide +kernel) false rfl ?_
    refine bh_word (by decide +kernel) (by decide +kernel) true (by decide +kernel) true rfl ?_
    refine ⟨trivial, _, rfl, rfl, s_in hi ?_⟩
    refine ⟨trivial, _, rfl, rfl, xs, r, zs, qs, i, q, rfl, hq, fun b hb => ?_⟩
    rw [hb.mpr hq2]
    refine ⟨trivial, _, rfl, trivial, _, rfl, _, int_at1 (by omega), rfl, rfl, ?_⟩
    have key : (match D.bl (PyData.eqv (py (.int (zs.getD (i + 1) 0))) (py (.int 0))) with | .bl k => (if k = true then (dCall S__law_pf_cancelled 2 (aCons (dVar 1) (aCons (dIxV 2 (dC (.int 1))) aNil))) (bhSt xs r zs qs (.tup [.str "cancel", .int i]) T) (fun d s1 => post (.fz d) s1.T) (endsOf post ex).ex else post (.fz .non) T) | _ => False) := by
      rw [eqv_int, h0]
      exact ⟨trivial, _, rfl, rfl, r, zs, qs, i, rfl, hl, hi2, hx, hp⟩
    exact key
  | put i q a m b hi pq hg hmn hr =>
    refine bh0 (ok_tup (by simp [okN, stD, okNs]; decide +kernel)) ?_
    refine bh_word (by decide +kernel) (by decide +kernel) false (by decide +kernel) false rfl ?_
    refine bh_word (by decide +kernel) (by decide +kernel) false (by decide +kernel) false rfl ?_
    refine bh_word (by decide +kernel) (by decide +kernel) true (by decide +kernel) true rfl ?_
    refine ⟨trivial, _, rfl, rfl, ?_⟩
    refine s_in (m := qs.length + 1) (by omega) ?_
    refine ⟨trivial, _, rfl, rfl, xs, stD q, rfl, rfl, rfl, ?_⟩
    rw [pq.pass]
    refine ⟨trivial, _, rfl, rfl, .int a, rfl, rfl, ?_⟩
    refine ⟨trivial, _, rfl, rfl, lgate_pas pq fun c d hcd lc ld => ⟨_, rfl, ?_⟩⟩
    rw [hr] at hcd
    cases hcd
    refine ⟨trivial, _, rfl, rfl, n, xs, r, zs, qs, e, i, rfl, hw, hi, fun m' hg' hm' => ⟨rfl, rfl, ?_⟩⟩
    rw [hg] at hg'
    have em : m' = m := by
      have := Option.some.inj hg'
      omega
    subst em
    show (match D.bl (PyData.eqv (py (.int (m' : Int))) (py (.int (m' : Int)))) with | .bl k => (if k = true then (dCall S__law_pf_put 4 (aCons (dVar 1) (aCons (dIxV 2 (dC (.int 1))) (aCons (dIxV 2 (dC (.int 2))) (aCons (dIxV 2 (dC (.int 3))) aNil))))) (bhSt xs r zs qs (.tup [.str "put", .int i, stD q, .int a]) T) (fun d s1 => post (.fz d) s1.T) (endsOf post ex).ex else post (.fz .non) T) | _ => False)
    rw [eqv_int, decide_eq_true rfl]
    exact ⟨trivial, _, rfl, trivial, _, rfl, trivial, _, rfl, rfl, r, zs, qs, i, q, a, rfl, hl, hi, hx, hp⟩
end Law

set_option Elab.async false
set_option linter.all false
set_option maxRecDepth 100000
set_option maxHeartbeats 4000000
namespace Law
open PySem L2 DL
variable [Tb]
/-! ### moves drawn -/
def MvOk (n : Nat) (xs : List D) (r : Int) (zs : List Int) (qs : List P2) (m : D) : Prop := m = .non ∨ ∃ zs' qs', Mv n xs r zs qs m zs' qs' ∧ (qs'.length ≤ 16 ∨ qs'.length ≤ qs.length)
def S__law_pf_move : PF := fun ds T post _ => ∃ (n : Nat) (xs : List D) (r : Int) (zs : List Int) (qs : List P2) (e : Int), ds = [.st, .tup xs, wkD r zs qs] ∧ (∀ d ∈ xs, DoorIs n d) ∧ xs.length ≤ 1000 ∧ Wk n xs r zs qs e ∧ T + 10 ≤ TM ∧ ∀ m T', MvOk n xs r zs qs m → T ≤ T' → T' ≤ T + 4 → post (.fz m) T'
def G_mvE : DG := (gSeq (gIf (tOrD (dTest (dOp dEq (dVar 5) (dLst aNil))) (dTest (dOp (dCmpI fun i j => decide (j < i)) (dVar 3) (dC (.int 14))))) (gRet (dC .non)) gNil)
    (gRet (dTup (aCons (dC (.str "put")) (aCons (dVar 6) (aCons (dCall S__law_pick 2 (aCons (dVar 0) (aCons (dVar 5) aNil))) (aCons (dOp dSub (dCall S__law_draw 2 (aCons (dVar 0) (aCons (dC (.int 11)) aNil))) (dC (.int 5))) aNil)))))))
def G_mvD : DG := (gSeq (gSet 6 (dCall S__law_draw 2 (aCons (dVar 0) (aCons (dOp dAdd (dVar 3) (dC (.int 1))) aNil))))
    (gSeq (gSet 5 (dCall S__law_steps 2 (aCons (dVar 1) (aCons (dCall S__law_pf_room 3 (aCons (dVar 1) (aCons (dVar 2) (aCons (dVar 6) aNil)))) aNil))))
    G_mvE))
def G_mvC1 : DG := (gSeq (gSet 6 (dCall S__law_pick 2 (aCons (dVar 0) (aCons (dVar 5) aNil))))
    (gSeq (gSet 7 (dOp dIx (dCall S__law_gate 2 (aCons (dVar 1) (aCons (dOp dIx (dIxV 2 (dC (.int 2))) (dVar 6)) aNil))) (dC (.int 3))))
    (gRet (dTup (aCons (dC (.str "carry")) (aCons (dVar 6) (aCons (dOp dSub (dC (.int 0)) (dOp dFdiv (dOp dIx (dIxV 2 (dC (.int 1))) (dOp dAdd (dVar 6) (dC (.int 1)))) (dVar 7))) aNil)))))))
def G_mvC : DG := (gSeq (gIf (dTest (dOp dEq (dVar 4) (dC (.int 2)))) (gSeq (gSet 5 (dCall S__law_pf_spots 2 (aCons (dVar 1) (aCons (dVar 2) aNil))))
    (gIf (dTest (dOp dNe (dVar 5) (dTup aNil))) G_mvC1 gNil)) gNil)
    G_mvD)
def F_mvB : DF := (dLc [8] (iRng1D (dVar 3)) (tgN 8) (tAndD (dTest (dCall S__law_pf_turns 3 (aCons (dVar 1) (aCons (dVar 2) (aCons (dVar 8) aNil))))) (dTest (dOp dEq (dOp dIx (dIxV 2 (dC (.int 1))) (dOp dAdd (dVar 8) (dC (.int 1)))) (dC (.int 0))))) (dVar 8))
def G_mvB2 : DG := (gIf (dTest (dOp dNe (dVar 5) (dLst aNil))) (gRet (dTup (aCons (dC (.str "cancel")) (aCons (dCall S__law_pick 2 (aCons (dVar 0) (aCons (dVar 5) aNil))) aNil)))) gNil)
def G_mvB1 : DG := (gSeq (gSet 5 F_mvB)
    G_mvB2)
def G_mvB : DG := (gSeq (gIf (dTest (dOp dEq (dVar 4) (dC (.int 1)))) G_mvB1 gNil)
    G_mvC)
def G__law_pf_move : DG := (gSeq (gSet 3 (dCB cLen (aCons (dIxV 2 (dC (.int 2))) aNil)))
    (gSeq (gSet 4 (dCall S__law_draw 2 (aCons (dVar 0) (aCons (dC (.int 4)) aNil))))
    (gSeq (gIf (tAndD (dTest (dOp dEq (dVar 4) (dC (.int 0)))) (dTest (dOp (dCmpI fun i j => decide (j < i)) (dVar 3) (dC (.int 0))))) (gRet (dTup (aCons (dC (.str "carry")) (aCons (dCall S__law_draw 2 (aCons (dVar 0) (aCons (dVar 3) aNil))) (aCons (dOp dSub (dCall S__law_draw 2 (aCons (dVar 0) (aCons (dC (.int 9)) aNil))) (dC (.int 4))) aNil))))) gNil)
    G_mvB)))
def mvSt (xs : List D) (r : Int) (zs : List Int) (qs : List P2) (way : Int) (v5 v6 v7 v8 : Option Sl) (T : Nat) : DS := ⟨[some (.fz .st), some (.fz (.tup xs)), some (.fz (wkD r zs qs)), some (.fz (.int (qs.length : Nat))), some (.fz (.int way)), v5, v6, v7, v8], T⟩
theorem mvE {n : Nat} {xs : List D} {r e way : Int} {zs : List Int} {qs : List P2} {v7 v8 : Option Sl} {i m : Nat} {some' : List D} {T : Nat} {post : Sl → Nat → Prop} {ex : Str → List (Str × D) → Nat → Prop} (hd : ∀ d ∈ xs, DoorIs n d) (hw : Wk n xs r zs qs e) (hT : T + 5 ≤ TM) (hi : i ≤ qs.length) (hg : goes xs r ((qs.take i).map stD) = some (m : Int)) (hmn : m < n)
    (hz : some'.length ≤ 2000) (hso : ∀ st ∈ some', isPass xs.length st = true ∧ ∃ b, roomsOf xs st = some ((m : Int), b)) (hp : ∀ m T', MvOk n xs r zs qs m → T ≤ T' → T' ≤ T + 2 → post (.fz m) T') :
    G_mvE (endsOf post ex) (mvSt xs r zs qs way (some (.fz (.lst some'))) (some (.fz (.int i))) v7 v8 T) := by
  refine ⟨nle rfl, okD_of (n := 9) (by
      unfold okN
      refine okNs_iff.mpr fun d hd => ?_
      obtain ⟨i, s, _, _, rfl⟩ := pass_is (hso d hd).1
      rfl), by decide +kernel, ?_⟩
  rw [eqv_nil]
  cases some' with
  | nil => exact hp .non T (.inl rfl) (by omega) (by omega)
  | cons st rest =>
    show (if decide ((14 : Int) < ((qs.length : Nat) : Int)) = true then post (.fz .non) T else (gRet (dTup (aCons (dC (.str "put")) (aCons (dVar 6) (aCons (dCall S__law_pick 2 (aCons (dVar 0) (aCons (dVar 5) aNil))) (aCons (dOp dSub (dCall S__law_draw 2 (aCons (dVar 0) (aCons (dC (.int 11)) aNil))) (dC (.int 5))) aNil)))))) (endsOf post ex) (mvSt xs r zs qs way (some (.fz (.lst (st :: rest)))) (some (.fz (.int i))) v7 v8 T))
    by_cases c : (14 : Int) < ((qs.length : Nat) : Int)
    · rw [decide_eq_true c]
      exact hp .non T (.inl rfl) (by omega) (by omega)
    · rw [decide_eq_false c]
      refine ⟨rfl, .lst (st :: rest), st :: rest, rfl, .inl rfl, (by simp), (by omega), (show T < TM from by omega), fun x hx => ?_⟩
      obtain ⟨hp1, b, hr⟩ := hso x hx
      obtain ⟨q, rfl, pq⟩ := pas_of hd hp1
      refine ⟨rfl, 11, rfl, by decide, by decide, (show T + 1 < TM from by omega), fun a a0 a1 => ⟨(show (4 : Nat) ≤ 100000 from by decide), ?_⟩⟩
      obtain ⟨b', hb'⟩ : ∃ b' : Nat, b = (b' : Int) := by
        obtain ⟨c, d, h1, _, _⟩ := rooms_ex pq
        rw [hr] at h1
        cases h1
        exact ⟨d, rfl⟩
      subst hb'
      refine hp (.tup [.str "put", .int i, stD q, .int (a - 5)]) (T + 2) (.inr ⟨_, _, .put i q (a - 5) m b' hi pq hg hmn hr, .inl ?_⟩) (by omega) (by omega)
      unfold putQ
      simp only [List.length_append, List.length_take, List.length_drop, List.length_cons, List.length_nil]
      omega
theorem mvD {n : Nat} {xs : List D} {r e way : Int} {zs : List Int} {qs : List P2} {v5 v6 v7 v8 : Option Sl} {T : Nat} {post : Sl → Nat → Prop} {ex : Str → List (Str × D) → Nat → Prop} (hd : ∀ d ∈ xs, DoorIs n d) (hx : xs.length ≤ 1000) (hw : Wk n xs r zs qs e) (hT : T + 6 ≤ TM) (hp : ∀ m T', MvOk n xs r zs qs m → T ≤ T' → T' ≤ T + 3 → post (.fz m) T') :
    G_mvD (endsOf post ex) (mvSt xs r zs qs way v5 v6 v7 v8 T) := by
  have hm := hw.mx
  refine ⟨rfl, ((qs.length : Nat) : Int) + 1, rfl, by omega, by omega, (show T < TM from by omega), fun k k0 k1 => ?_⟩
  have ek : k = ((k.toNat : Nat) : Int) := by omega
  rw [ek]
  have hk : k.toNat ≤ qs.length := by omega
  refine ⟨rfl, n, xs, r, zs, qs, e, k.toNat, rfl, hw, hk, fun m hg hmn => ?_⟩
  have hsl := sides_len xs.length
  have hfl := List.length_filter_le (fromRoom xs (m : Int)) (sides xs.length)
  have hso : ∀ st ∈ (sides xs.length).filter (fromRoom xs (m : Int)), isPass xs.length st = true ∧ ∃ b, roomsOf xs st = some ((m : Int), b) := fun st hst => from_ok hd hst
  exact ⟨rfl, n, xs, _, rfl, hd, hx, mvE (T := T + 1) hd hw (by omega) hk hg hmn (by omega) hso fun m T' h a b => hp m T' h (by omega) (by omega)⟩
theorem mvC1 {n : Nat} {xs : List D} {r e way : Int} {zs : List Int} {qs : List P2} {v6 v7 v8 : Option Sl} {js : List D} {T : Nat} {E : DE} (hw : Wk n xs r zs qs e) (hj : js = spotsL xs zs qs) (hne : js ≠ []) (hT : T + 6 ≤ TM) (hp : ∀ m T', MvOk n xs r zs qs m → T ≤ T' → T' ≤ T + 3 → E.rt (.fz m) T') :
    G_mvC1 E (mvSt xs r zs qs way (some (.fz (.tup js))) v6 v7 v8 T) := by
  have hl := hw.ln
  have hm := hw.mx
  have jl : js.length ≤ 1000 := by
    rw [hj]
    have := spotsTo_len xs zs qs qs.length
    show (spotsTo xs zs qs qs.length).length ≤ 1000
    omega
  refine ⟨rfl, .tup js, js, rfl, .inr rfl, List.length_pos_iff.mpr hne, (by omega), (show T < TM from by omega), fun x hx => ?_⟩
  rw [hj] at hx
  obtain ⟨i, q, rfl, hq, hs⟩ := spotsL_mem hx
  have pq := hw.pa q (List.mem_of_getElem? hq)
  have hi := (List.getElem?_eq_some_iff.mp hs.1).1
  refine ⟨trivial, _, rfl, _, st_at hq, rfl, lgate_pas pq fun c d _ _ _ => ⟨_, rfl, ?_⟩⟩
  refine ⟨trivial, _, rfl, _, int_at1 (by omega), ⟨pq.size.2.1, ?_⟩, (show (3 : Nat) ≤ 100000 from by decide), ?_⟩
  · have := pq.size.2.2
    omega
  · exact hp (.tup [.str "carry", .int i, .int (0 - (zs.getD (i + 1) 0).fdiv (arN xs q))]) (T + 1) (.inr ⟨_, _, .carry i q _ hq, .inr (Nat.le_refl _)⟩) (by omega) (by omega)
theorem mvC {n : Nat} {xs : List D} {r e way : Int} {zs : List Int} {qs : List P2} {v5 v6 v7 v8 : Option Sl} {T : Nat} {post : Sl → Nat → Prop} {ex : Str → List (Str × D) → Nat → Prop} (hd : ∀ d ∈ xs, DoorIs n d) (hx : xs.length ≤ 1000) (hw : Wk n xs r zs qs e) (hT : T + 6 ≤ TM) (hp : ∀ m T', MvOk n xs r zs qs m → T ≤ T' → T' ≤ T + 3 → post (.fz m) T') :
    G_mvC (endsOf post ex) (mvSt xs r zs qs way v5 v6 v7 v8 T) := by
  refine ⟨rfl, rfl, ?_⟩
  rw [eqv_int]
  by_cases c : way = 2
  · rw [decide_eq_true c]
    refine ⟨rfl, n, xs, r, zs, qs, e, rfl, hw, (show (0 : Nat) ≤ 100000 from by decide), ok_ints spotsL_ints, rfl, ?_⟩
    have key : ∀ js, js = spotsL xs zs qs → (if (!PyData.eqv (py (.tup js)) (py (.tup []))) = true then G_mvC1 { endsOf post ex with nx := G_mvD (endsOf post ex) } (mvSt xs r zs qs way (some (.fz (.tup js))) v6 v7 v8 T) else G_mvD (endsOf post ex) (mvSt xs r zs qs way (some (.fz (.tup js))) v6 v7 v8 T)) := by
      intro js hj
      rw [eqv_tnil]
      cases js with
      | nil => exact mvD hd hx hw hT hp
      | cons d ds => exact mvC1 (E := { endsOf post ex with nx := G_mvD (endsOf post ex) }) hw hj (by simp) hT hp
    exact key _ rfl
  · rw [decide_eq_false c]
    exact mvD hd hx hw hT hp
/-! places where a pass and its back can be cancelled -/
def canB (zs : List Int) (qs : List P2) (i : Nat) : Prop := ∃ q, qs[i]? = some q ∧ qs[i + 1]? = some (turn q) ∧ zs.getD (i + 1) 0 = 0
theorem mvB2 {n : Nat} {xs : List D} {r e way : Int} {zs : List Int} {qs : List P2} {v6 v7 v8 : Option Sl} {js : List D} {T : Nat} {E : DE} (hw : Wk n xs r zs qs e) (hj : ∀ d ∈ js, ∃ i : Nat, d = .int i ∧ canB zs qs i) (jl : js.length ≤ 2000) (hT : T + 6 ≤ TM) (hn : E.nx (mvSt xs r zs qs way (some (.fz (.lst js))) v6 v7 v8 T)) (hp : ∀ m T', MvOk n xs r zs qs m → T ≤ T' → T' ≤ T + 3 → E.rt (.fz m) T') :
    G_mvB2 E (mvSt xs r zs qs way (some (.fz (.lst js))) v6 v7 v8 T) := by
  refine ⟨nle rfl, okD_of (n := 9) (by
      unfold okN
      refine okNs_iff.mpr fun d hd => ?_
      obtain ⟨i, rfl, _⟩ := hj d hd
      rfl), by decide +kernel, ?_⟩
  rw [eqv_nil]
  cases js with
  | nil => exact hn
  | cons d ds =>
    refine ⟨rfl, .lst (d :: ds), d :: ds, rfl, .inl rfl, (by simp), (by omega), (show T < TM from by omega), fun x hx => ⟨(show (2 : Nat) ≤ 100000 from by decide), ?_⟩⟩
    obtain ⟨i, rfl, q, hq, hq2, h0⟩ := hj x hx
    refine hp (.tup [.str "cancel", .int i]) (T + 1) (.inr ⟨_, _, .cancel i q hq hq2 h0, .inr ?_⟩) (by omega) (by omega)
    unfold canQ
    simp only [List.length_append, List.length_take, List.length_drop]
    omega
theorem mvB1 {n : Nat} {xs : List D} {r e way : Int} {zs : List Int} {qs : List P2} {v5 v6 v7 : Option Sl} {T : Nat} {E : DE} (hw : Wk n xs r zs qs e) (hT : T + 6 ≤ TM) (hn : ∀ v5, E.nx (mvSt xs r zs qs way v5 v6 v7 none T)) (hp : ∀ m T', MvOk n xs r zs qs m → T ≤ T' → T' ≤ T + 3 → E.rt (.fz m) T') :
    G_mvB1 E (mvSt xs r zs qs way v5 v6 v7 none T) := by
  have hl := hw.ln
  have hm := hw.mx
  have key : F_mvB (mvSt xs r zs qs way v5 v6 v7 none T) (fun d s1 => G_mvB2 E (s1.put 5 (.fz d))) E.ex := by
    refine dLc_inv (fun i acc s => s = mvSt xs r zs qs way v5 v6 v7 none T ∧ acc.length ≤ i ∧ ∀ d ∈ acc, ∃ i : Nat, d = .int i ∧ canB zs qs i) (rangeD 0 qs.length) (fun Q hQ => ?_) ?_ ?_
    · refine ⟨(show ((qs.length : Nat) : Int) < _ from by omega), (show -4611686018427387904 ≤ ((qs.length : Nat) : Int) from by omega), hQ _ ⟨rfl, Nat.le_refl _, fun d hd => (by cases hd)⟩⟩
    · rintro i d acc s hi ⟨rfl, hla, hacc⟩ R hR
      obtain ⟨rfl, hi2⟩ := rangeD_get hi
      rw [Int.zero_add]
      have eq1 : qs[i]? = some qs[i] := List.getElem?_eq_getElem hi2
      refine ⟨rfl, xs, r, zs, qs, i, qs[i], rfl, eq1, fun b hb => ?_⟩
      cases b with
      | false => exact hR acc _ ⟨rfl, by omega, hacc⟩
      | true =>
        have h2 := hb.mp rfl
        refine ⟨trivial, _, rfl, _, int_at1 (by omega), rfl, rfl, ?_⟩
        show (if PyData.eqv (py (.int (zs.getD (i + 1) 0))) (py (.int 0)) = true then (acc.length < 100000 ∧ R (acc ++ [D.int i]) (mvSt xs r zs qs way v5 v6 v7 none T)) else R acc (mvSt xs r zs qs way v5 v6 v7 none T))
        rw [eqv_int]
        by_cases c : zs.getD (i + 1) 0 = 0
        · rw [decide_eq_true c]
          refine ⟨by omega, hR _ _ ⟨rfl, ?_, fun d hd => ?_⟩⟩
          · rw [List.length_append]
            show acc.length + 1 ≤ i + 1
            omega
          · rcases List.mem_append.mp hd with h | h
            · exact hacc d h
            · rw [List.mem_singleton.mp h]
              exact ⟨i, rfl, _, eq1, h2, c⟩
        · rw [decide_eq_false c]
          exact hR acc _ ⟨rfl, by omega, hacc⟩
    · rintro acc s ⟨rfl, hla, hacc⟩
      rw [rangeD_len] at hla
      exact mvB2 hw hacc (by omega) hT (hn _) hp
  exact key
theorem mvB {n : Nat} {xs : List D} {r e way : Int} {zs : List Int} {qs : List P2} {v5 v6 v7 : Option Sl} {T : Nat} {post : Sl → Nat → Prop} {ex : Str → List (Str × D) → Nat → Prop} (hd : ∀ d ∈ xs, DoorIs n d) (hx : xs.length ≤ 1000) (hw : Wk n xs r zs qs e) (hT : T + 6 ≤ TM) (hp : ∀ m T', MvOk n xs r zs qs m → T ≤ T' → T' ≤ T + 3 → post (.fz m) T') :
    G_mvB (endsOf post ex) (mvSt xs r zs qs way v5 v6 v7 none T) := by
  refine ⟨rfl, rfl, ?_⟩
  rw [eqv_int]
  by_cases c : way = 1
  · rw [decide_eq_true c]
    exact mvB1 (E := { endsOf post ex with nx := G_mvC (endsOf post ex) }) hw hT (fun v5 => mvC hd hx hw hT hp) hp
  · rw [decide_eq_false c]
    exact mvC hd hx hw hT hp
theorem m__law_pf_move : ∀ (ds : List D) T post ex, ds.length = 3 → S__law_pf_move ds T post ex → G__law_pf_move (endsOf post ex) (startD 9 ds T) := by
  rintro ds T post ex _ ⟨n, xs, r, zs, qs, e, rfl, hd, hx, hw, hT, hp⟩
  have hm := hw.mx
  refine ⟨trivial, _, rfl, rfl, 4, rfl, by decide, by decide, (show T < TM from by omega), fun k k0 k1 => ?_⟩
  refine ⟨rfl, rfl, ?_⟩
  have ee : PyData.eqv (py (Sl.fz (D.int k)).d) (py (.int 0)) = decide (k = 0) := eqv_int k 0
  rw [ee]
  have hB : G_mvB (endsOf post ex) (mvSt xs r zs qs k none none none none (T + 1)) := mvB (T := T + 1) hd hx hw (by omega) fun m T' h a b => hp m T' h (by omega) (by omega)
  unfold mvSt at hB
  rw [← List.length_map (f := stD)] at hB
  by_cases c : k = 0
  · rw [decide_eq_true c]
    show (if decide ((0 : Int) < (((qs.map stD).length : Nat) : Int)) = true then (gRet (dTup (aCons (dC (.str "carry")) (aCons (dCall S__law_draw 2 (aCons (dVar 0) (aCons (dVar 3) aNil))) (aCons (dOp dSub (dCall S__law_draw 2 (aCons (dVar 0) (aCons (dC (.int 9)) aNil))) (dC (.int 4))) aNil)))) (endsOf post ex) ⟨[some (.fz .st), some (.fz (.tup xs)), some (.fz (wkD r zs qs)), some (.fz (.int ((qs.map stD).length : Nat))), some (.fz (.int k)), none, none, none, none], T + 1⟩) else G_mvB (endsOf post ex) ⟨[some (.fz .st), some (.fz (.tup xs)), some (.fz (wkD r zs qs)), some (.fz (.int ((qs.map stD).length : Nat))), some (.fz (.int k)), none, none, none, none], T + 1⟩)
    have el : (qs.map stD).length = qs.length := List.length_map _
    by_cases c2 : (0 : Int) < (((qs.map stD).length : Nat) : Int)
    · rw [decide_eq_true c2]
      refine ⟨rfl, (((qs.map stD).length : Nat) : Int), rfl, c2, by omega, (show T + 1 < TM from by omega), fun i i0 i1 => ?_⟩
      refine ⟨rfl, 9, rfl, by decide, by decide, (show T + 2 < TM from by omega), fun t t0 t1 => ⟨(show (3 : Nat) ≤ 100000 from by decide), ?_⟩⟩
      have ei : i = ((i.toNat : Nat) : Int) := by omega
      rw [ei]
      have hq : qs[i.toNat]? = some qs[i.toNat] := List.getElem?_eq_getElem (by omega)
      exact hp (.tup [.str "carry", .int (i.toNat : Nat), .int (t - 4)]) (T + 3) (.inr ⟨_, _, .carry i.toNat _ _ hq, .inr (Nat.le_refl _)⟩) (by omega) (by omega)
    · rw [decide_eq_false c2]
      exact hB
  · rw [decide_eq_false c]
    exact hB
/-! moves one after another -/
def S__law_pf_moves : PF := fun ds T post _ => ∃ (n : Nat) (xs : List D) (r : Int) (zs : List Int) (qs : List P2) (e : Int) (k : Nat), ds = [.st, .tup xs, wkD r zs qs, .int k] ∧ (∀ d ∈ xs, DoorIs n d) ∧ xs.length ≤ 1000 ∧ Wk n xs r zs qs e ∧ qs.length ≤ 20 ∧ k ≤ 100 ∧ T + 1000 ≤ TM ∧
  ∀ M zs' qs' T', Led n xs r e zs qs zs' qs' → qs'.length ≤ 20 → T ≤ T' → T' ≤ T + 4 * k → post (.fz (.tup [.lst M, wkD r zs' qs'])) T'
def G_ms1 : DG := (gSeq (gSet 6 (dCall S__law_pf_move 3 (aCons (dVar 0) (aCons (dVar 1) (aCons (dVar 2) aNil)))))
    (gIf (dTest (dOp dNotN (dVar 6) (dC .non))) (gSeq (gApp 4 (dVar 6))
    (gSet 2 (dCall S__law_pf_behind 3 (aCons (dVar 1) (aCons (dVar 2) (aCons (dVar 6) aNil)))))) gNil))
def G_ms0 : DG := (gRet (dTup (aCons (dVar 4) (aCons (dVar 2) aNil))))
def G__law_pf_moves : DG := (gSeq (gSetO 4 (dLst aNil))
    (gSeq (gFor (iRng1D (dVar 3)) (tgN 5) G_ms1)
    G_ms0))
def msSt (xs : List D) (r : Int) (zs : List Int) (qs : List P2) (k : Nat) (M : List D) (v5 v6 : Option Sl) (T : Nat) : DS := ⟨[some (.fz .st), some (.fz (.tup xs)), some (.fz (wkD r zs qs)), some (.fz (.int k)), some (.ow (.lst M)), v5, v6], T⟩
theorem m__law_pf_moves : ∀ (ds : List D) T post ex, ds.length = 4 → S__law_pf_moves ds T post ex → G__law_pf_moves (endsOf post ex) (startD 7 ds T) := by
  rintro ds T post ex _ ⟨n, xs, r, zs, qs, e, k, rfl, hd, hx, hw, hq, hk, hT, hp⟩
  refine ⟨nle rfl, ?_⟩
  show gFor (iRng1D (dVar 3)) (tgN 5) G_ms1 { endsOf post ex with nx := G_ms0 (endsOf post ex) } (msSt xs r zs qs k [] none none T)
  have tk : ((k : Nat) : Int).toNat = k := by omega
  refine gFor_inv (fun i s => ∃ zs' qs' M v5 v6 T', s = msSt xs r zs' qs' k M v5 v6 T' ∧ Led n xs r e zs qs zs' qs' ∧ qs'.length ≤ 20 ∧ M.length ≤ i ∧ T ≤ T' ∧ T' ≤ T + 4 * i) (rangeD 0 k) (fun P hP => ?_) ?_ ?_
  · have k1 := hP (msSt xs r zs qs k [] none none T) ⟨zs, qs, [], none, none, T, rfl, .refl hw, hq, Nat.le_refl _, Nat.le_refl _, Nat.le_refl _⟩
    rw [← tk] at k1
    exact ⟨(show ((k : Nat) : Int) < _ from by omega), (show -4611686018427387904 ≤ ((k : Nat) : Int) from by omega), k1⟩
  · rintro i d s hi ⟨zs', qs', M, v5, v6, T', rfl, hL, hl, hM, t0, t1⟩ R hR
    have hi2 := (rangeD_get hi).2
    refine ⟨rfl, n, xs, r, zs', qs', e, rfl, hd, hx, hL.wk, (show T' + 10 ≤ TM from by omega), fun m T2 hmv a b => ?_⟩
    have a : T' ≤ T2 := a
    have b : T2 ≤ T' + 4 := b
    rcases hmv with rfl | ⟨zs2, qs2, hmv, hl2⟩
    · exact hR (msSt xs r zs' qs' k M (some (.fz d)) (some (.fz .non)) T2) ⟨_, _, M, _, _, T2, rfl, hL, hl, by omega, by omega, by omega⟩
    · have key : ∀ x : D, x = m → (match D.bl (!isNon x) with | .bl c => (if c = true then (gSeq (gApp 4 (dVar 6)) (gSet 2 (dCall S__law_pf_behind 3 (aCons (dVar 1) (aCons (dVar 2) (aCons (dVar 6) aNil)))))) { endsOf post ex with nx := R, ct := R, bk := G_ms0 (endsOf post ex) } (msSt xs r zs' qs' k M (some (.fz d)) (some (.fz m)) T2) else R (msSt xs r zs' qs' k M (some (.fz d)) (some (.fz m)) T2)) | _ => False) := by
        rintro x rfl
        have nn : isNon x = false := by cases hmv <;> rfl
        rw [nn]
        refine ⟨(show M.length < 100000 from by omega), rfl, n, xs, r, zs', qs', e, x, zs2, qs2, rfl, hL.wk, hmv, ?_⟩
        refine hR (msSt xs r zs2 qs2 k (M ++ [x]) (some (.fz d)) (some (.fz x)) T2) ⟨_, _, _, _, _, T2, rfl, hL.trans (hmv.led hL.wk (by omega)), by omega, ?_, by omega, by omega⟩
        rw [List.length_append]
        show M.length + 1 ≤ i + 1
        omega
      exact key m rfl
  · rintro s ⟨zs', qs', M, v5, v6, T', rfl, hL, hl, hM, t0, t1⟩
    rw [rangeD_len] at t1
    exact ⟨(show (2 : Nat) ≤ 100000 from by decide), hp M zs' qs' T' hL hl t0 t1⟩
end Law

set_option Elab.async false
set_option linter.all false
set_option maxRecDepth 100000
set_option maxHeartbeats 4000000
namespace Law
open PySem L2 DL
variable [Tb]
/-! ### walks joined, backwards -/
theorem init_last {zs : List Int} (h : zs ≠ []) : zs = zs.dropLast ++ [zs.getLastD 0] := by
  have e := (List.dropLast_concat_getLast h).symm
  have e2 : zs.getLastD 0 = zs.getLast h := by rw [List.getLastD_eq_getLast?, List.getLast?_eq_some_getLast h]; rfl
  rw [e2]
  exact e
theorem head_tail {zs : List Int} (h : zs ≠ []) : zs = zs.headD 0 :: zs.tail := by
  cases zs with
  | nil => exact absurd rfl h
  | cons z zs => rfl
def joinZ (zs ys : List Int) : List Int := zs.dropLast ++ [zs.getLastD 0 + ys.headD 0] ++ ys.tail
theorem Wk.ne {n : Nat} {xs : List D} {r e : Int} {zs : List Int} {qs : List P2} (h : Wk n xs r zs qs e) : zs ≠ [] := by
  rintro rfl
  have := h.ln
  simp at this
theorem join_run {xs : List D} {zs ys : List Int} {qs ps : List P2} (hz : zs.length = qs.length + 1) (hy : ys ≠ []) (Z : RZ3) : runZ xs Z (joinZ zs ys) (qs ++ ps) = runZ xs (runZ xs Z zs qs) ys ps := by
  have hn : zs ≠ [] := by rintro rfl; simp at hz
  have := run_join xs (zs.getLastD 0) (ys.headD 0) ys.tail ps qs zs.dropLast Z (by rw [List.length_dropLast]; omega)
  rw [← init_last hn, ← head_tail hy] at this
  unfold joinZ
  rw [List.append_assoc]
  exact this
theorem join_len {zs ys : List Int} (hz : zs ≠ []) (hy : ys ≠ []) : (joinZ zs ys).length + 1 = zs.length + ys.length := by
  have h1 := List.length_pos_iff.mpr hz
  have h2 := List.length_pos_iff.mpr hy
  unfold joinZ
  rw [List.length_append, List.length_append, List.length_dropLast, List.length_tail, List.length_singleton]
  omega
theorem join_wk {n : Nat} {xs : List D} {r e f : Int} {zs ys : List Int} {qs ps : List P2} (h : Wk n xs r zs qs e) (k : Wk n xs e ys ps f) (hm : qs.length + ps.length ≤ 1000) : Wk n xs r (joinZ zs ys) (qs ++ ps) f := by
  refine ⟨fun p hp => ?_, ?_, ?_, by rw [List.length_append]; exact hm, h.r0, h.rn⟩
  · rcases List.mem_append.mp hp with z | z
    · exact h.pa p z
    · exact k.pa p z
  · rw [List.map_append, goes_app _ _ _ _ h.go]
    exact k.go
  · have := join_len h.ne k.ne
    have h1 := h.ln
    have h2 := k.ln
    rw [List.length_append]
    omega
theorem join_D {r e : Int} {zs ys : List Int} {qs ps : List P2} (hz : zs ≠ []) (hy : ys ≠ []) : wkD r (joinZ zs ys) (qs ++ ps) = joinD r (zs.dropLast.map D.int) (zs.getLastD 0 + ys.headD 0) (ys.tail.map D.int) (qs.map stD) (ps.map stD) := by
  unfold wkD joinZ joinD
  rw [List.map_append, List.map_append, List.map_append]
  rfl
theorem wk_init {r : Int} {zs : List Int} {qs : List P2} (hz : zs ≠ []) : wkD r zs qs = walkD r (zs.dropLast.map D.int ++ [.int (zs.getLastD 0)]) (qs.map stD) := by
  conv => lhs; rw [init_last hz]
  unfold wkD
  rw [List.map_append]
  rfl
theorem wk_tail {r : Int} {zs : List Int} {qs : List P2} (hz : zs ≠ []) : wkD r zs qs = walkD r (.int (zs.headD 0) :: zs.tail.map D.int) (qs.map stD) := by
  conv => lhs; rw [head_tail hz]
  rfl
theorem s_joined_up {n : Nat} {xs : List D} {r e f : Int} {zs ys : List Int} {qs ps : List P2} {T : Nat} {post : Sl → Nat → Prop} {ex : Str → List (Str × D) → Nat → Prop} (h : Wk n xs r zs qs e) (k : Wk n xs e ys ps f) (hp : post (.fz (wkD r (joinZ zs ys) (qs ++ ps))) T) : S_joined_up [wkD r zs qs, wkD e ys ps] T post ex := by
  have l1 := h.ln
  have l2 := k.ln
  have m1 := h.mx
  have m2 := k.mx
  refine ⟨r, zs.getLastD 0, e, ys.headD 0, zs.dropLast.map D.int, ys.tail.map D.int, qs.map stD, ps.map stD, ?_, ?_, ?_, ?_⟩
  · rw [← wk_init h.ne, ← wk_tail k.ne]
  · rw [List.length_map, List.length_map, List.length_dropLast, List.length_tail]
    omega
  · rw [List.length_map, List.length_map]
    omega
  · rw [← join_D (e := e) h.ne k.ne]
    exact hp
theorem s_law_joined {n : Nat} {xs : List D} {r e f : Int} {zs ys : List Int} {qs ps : List P2} {T : Nat} {post : Sl → Nat → Prop} {ex : Str → List (Str × D) → Nat → Prop} (h : Wk n xs r zs qs e) (k : Wk n xs e ys ps f) (hp : post (.fz (wkD r (joinZ zs ys) (qs ++ ps))) T) : S__law_joined [wkD r zs qs, wkD e ys ps] T post ex := s_joined_up h k hp
theorem Wk.en {n : Nat} {xs : List D} {r e : Int} {zs : List Int} {qs : List P2} (hw : Wk n xs r zs qs e) : 0 ≤ e ∧ e < n := by
  have g := hw.go
  have key : ∀ (qs : List P2) (r : Int), (∀ q ∈ qs, Pas n xs q) → 0 ≤ r → r < n → goes xs r (qs.map stD) = some e → 0 ≤ e ∧ e < n := by
    intro qs
    induction qs with
    | nil =>
      intro r _ h0 h1 g
      cases g
      exact ⟨h0, h1⟩
    | cons q qs ih =>
      intro r hp h0 h1 g
      obtain ⟨b, g1, g2⟩ := goes_split [stD q] _ _ _ (show goes xs r ([stD q] ++ qs.map stD) = some e from g)
      have pq := hp q List.mem_cons_self
      obtain ⟨c, d, e1, _, ld⟩ := rooms_ex pq
      have := goes_one g1
      rw [e1] at this
      cases this
      exact ih d (fun p h => hp p (List.mem_cons_of_mem _ h)) (by omega) (by omega) g2
  exact key qs r hw.pa hw.r0 hw.rn g
theorem s_joined {n : Nat} {xs : List D} {r e f : Int} {zs ys : List Int} {qs ps : List P2} {T : Nat} {post : Sl → Nat → Prop} {ex : Str → List (Str × D) → Nat → Prop} (hd : ∀ d ∈ xs, DoorIs n d) (hx : xs.length ≤ 1000) (h : Wk n xs r zs qs e) (k : Wk n xs e ys ps f) (hp : post (.fz (wkD r (joinZ zs ys) (qs ++ ps))) T) : S_joined [houseD n xs, wkD r zs qs, wkD e ys ps] T post ex := by
  have w1 := h.of
  have w2 := k.of
  have e1 : zs.map D.int = zs.dropLast.map D.int ++ [.int (zs.getLastD 0)] := by
    conv => lhs; rw [init_last h.ne, List.map_append]
    rfl
  have e2 : ys.map D.int = .int (ys.headD 0) :: ys.tail.map D.int := by
    conv => lhs; rw [head_tail k.ne]
    rfl
  rw [e1] at w1
  rw [e2] at w2
  refine ⟨n, xs, r, zs.getLastD 0, e, ys.headD 0, f, zs.dropLast.map D.int, ys.tail.map D.int, qs.map stD, ps.map stD, ?_, hd, hx, w1, w2, h.r0, h.rn, h.en.1, h.en.2, ?_⟩
  · rw [← wk_init h.ne, ← wk_tail k.ne]
  · rw [← join_D (e := e) h.ne k.ne]
    exact hp
theorem back_D (e : Int) (zs : List Int) (qs : List P2) : backD e (zs.map D.int) (qs.map stD) = wkD e (backZ zs) (backQ qs) := by
  unfold backD wkD backZ backQ
  rw [← List.map_reverse, ← List.map_reverse, List.map_map, List.map_map, List.map_map, List.map_map]
  rfl
theorem goes_backQ {n : Nat} {xs : List D} : ∀ (qs : List P2) (r e : Int), (∀ q ∈ qs, Pas n xs q) → goes xs r (qs.map stD) = some e → goes xs e ((backQ qs).map stD) = some r
  | [], r, e, _, g => by cases g; rfl
  | q :: qs, r, e, hp, g => by
    obtain ⟨b, g1, g2⟩ := goes_split [stD q] _ _ _ (show goes xs r ([stD q] ++ qs.map stD) = some e from g)
    have pq := hp q List.mem_cons_self
    have ih := goes_backQ qs b e (fun p h => hp p (List.mem_cons_of_mem _ h)) g2
    have e2 : backQ (q :: qs) = backQ qs ++ [turn q] := by unfold backQ; simp
    rw [e2, List.map_append, goes_app _ _ _ _ ih]
    exact one_goes (rooms_turn pq (goes_one g1))
theorem back_wk {n : Nat} {xs : List D} {r e : Int} {zs : List Int} {qs : List P2} (h : Wk n xs r zs qs e) : Wk n xs e (backZ zs) (backQ qs) r := by
  refine ⟨fun p hp => ?_, goes_backQ qs r e h.pa h.go, ?_, ?_, h.en.1, h.en.2⟩
  · unfold backQ at hp
    obtain ⟨q, hq, rfl⟩ := List.mem_map.mp hp
    exact (h.pa q (List.mem_reverse.mp hq)).turn
  · unfold backZ backQ
    simp [h.ln]
  · have := h.mx
    unfold backQ
    simpa using this
theorem s_back {n : Nat} {xs : List D} {r e : Int} {zs : List Int} {qs : List P2} {T : Nat} {post : Sl → Nat → Prop} {ex : Str → List (Str × D) → Nat → Prop} (hd : ∀ d ∈ xs, DoorIs n d) (hx : xs.length ≤ 1000) (h : Wk n xs r zs qs e) (hp : post (.fz (wkD e (backZ zs) (backQ qs))) T) : S_back [houseD n xs, wkD r zs qs] T post ex :=
  ⟨n, xs, r, _, _, e, rfl, hd, hx, h.of, h.r0, h.rn, by rw [back_D]; exact hp⟩
theorem s_law_back {n : Nat} {xs : List D} {r e : Int} {zs : List Int} {qs : List P2} {T : Nat} {post : Sl → Nat → Prop} {ex : Str → List (Str × D) → Nat → Prop} (hd : ∀ d ∈ xs, DoorIs n d) (h : Wk n xs r zs qs e) (hp : post (.fz (wkD e (backZ zs) (backQ qs))) T) : S__law_back [.tup xs, wkD r zs qs] T post ex :=
  ⟨n, xs, r, _, _, e, rfl, hd, h.of, by rw [back_D]; exact hp⟩
/-! ### are_one, is_nothing -/
theorem eqv_intsB (zs ys : List Int) : PyData.eqv (py (.tup (zs.map D.int))) (py (.tup (ys.map D.int))) = decide (zs = ys) := by
  cases h : PyData.eqv (py (.tup (zs.map D.int))) (py (.tup (ys.map D.int))) with
  | true => rw [decide_eq_true (eqv_intsT zs ys h)]
  | false =>
    rw [decide_eq_false]
    rintro rfl
    have : PyData.eqv (py (.tup (zs.map D.int))) (py (.tup (zs.map D.int))) = true := SeqAt.eqv_refl _ (okN_ok (n := 9) (by
      unfold okN
      refine okNs_iff.mpr fun d hd => ?_
      obtain ⟨z, _, rfl⟩ := List.mem_map.mp hd
      rfl)).2.1
    rw [this] at h
    cases h
theorem eqv_wkB (r s : Int) (zs ys : List Int) (qs ps : List P2) : PyData.eqv (py (wkD r zs qs)) (py (wkD s ys ps)) = decide (r = s ∧ zs = ys ∧ qs = ps) := by
  cases h : PyData.eqv (py (wkD r zs qs)) (py (wkD s ys ps)) with
  | true =>
    obtain ⟨a, b⟩ := eqv_wk h
    have h2 : (PyData.eqv (py (.int r)) (py (.int s)) && (PyData.eqv (py (.tup (zs.map D.int))) (py (.tup (ys.map D.int))) && (PyData.eqv (py (.tup (qs.map stD))) (py (.tup (ps.map stD))) && true))) = true := by
      simp only [wkD, walkD, py, pyL, PyData.eqv, PyData.eqvAll] at h ⊢
      exact h
    have c := (Bool.and_eq_true_iff.mp h2).1
    rw [eqv_int] at c
    rw [decide_eq_true ⟨of_decide_eq_true c, a, b⟩]
  | false =>
    rw [decide_eq_false]
    rintro ⟨rfl, rfl, rfl⟩
    have : PyData.eqv (py (wkD r zs qs)) (py (wkD r zs qs)) = true := SeqAt.eqv_refl _ (okN_ok (okN_wk r zs qs)).2.1
    rw [this] at h
    cases h
theorem ok_wk (r : Int) (zs : List Int) (qs : List P2) : okD (wkD r zs qs) = true := okD_of (okN_wk r zs qs)
structure AskW (d : D) : Prop where
  ask : askable d = true
  ln : ∀ r ps ss, d = .tup [r, .tup ps, .tup ss] → ps.length ≤ 10000 ∧ ss.length ≤ 10000
theorem Wk.askW {n : Nat} {xs : List D} {r e : Int} {zs : List Int} {qs : List P2} (h : Wk n xs r zs qs e) : AskW (wkD r zs qs) := ⟨askable_of h.of, wk_lens h⟩
theorem Wk.is {n : Nat} {xs : List D} {r e : Int} {zs : List Int} {qs : List P2} (h : Wk n xs r zs qs e) : isWalk n xs (wkD r zs qs) = true := isWalk_of h.of h.r0 h.rn
/-- what need_walk asks -/
theorem need_d {n : Nat} {xs : List D} {d : D} {T : Nat} {post : Sl → Nat → Prop} {ex : Str → List (Str × D) → Nat → Prop} (hd : ∀ d ∈ xs, DoorIs n d) (hx : xs.length ≤ 1000) (ha : AskW d) (h1 : isWalk n xs d = true → post (.fz .non) T) (h2 : isWalk n xs d = false → ex "BadWalk" [] T) : S_need_walk [houseD n xs, d] T post ex :=
  .inr ⟨n, xs, d, rfl, fun d hd' => (hd d hd').of, hx, ha.ask, ha.ln, h1, h2⟩
theorem need_off {h d : D} {T : Nat} {post : Sl → Nat → Prop} {ex : Str → List (Str × D) → Nat → Prop} (hh : isO [("House", true)] [] h = some false) (hx : ex "BadHouse" [] T) : S_need_walk [h, d] T post ex := .inl ⟨h, d, rfl, hh, hx⟩
theorem need_wk {n : Nat} {xs : List D} {r e : Int} {zs : List Int} {qs : List P2} {T : Nat} {post : Sl → Nat → Prop} {ex : Str → List (Str × D) → Nat → Prop} (hd : ∀ d ∈ xs, DoorIs n d) (hx : xs.length ≤ 1000) (hw : Wk n xs r zs qs e) (h1 : post (.fz .non) T) : S_need_walk [houseD n xs, wkD r zs qs] T post ex :=
  need_d hd hx hw.askW (fun _ => h1) fun z => absurd z (by rw [hw.is]; simp)
theorem need_no {n : Nat} {xs : List D} {d : D} {T : Nat} {post : Sl → Nat → Prop} {ex : Str → List (Str × D) → Nat → Prop} (hd : ∀ d ∈ xs, DoorIs n d) (hx : xs.length ≤ 1000) (ha : AskW d) (no : isWalk n xs d = false) (h2 : ex "BadWalk" [] T) : S_need_walk [houseD n xs, d] T post ex :=
  need_d hd hx ha (fun z => absurd z (by rw [no]; simp)) fun _ => h2
def S_are_one : PF := fun ds T post ex => ∃ (n : Nat) (xs : List D) (d1 d2 : D), ds = [houseD n xs, d1, d2] ∧ (∀ d ∈ xs, DoorIs n d) ∧ xs.length ≤ 1000 ∧ AskW d1 ∧ AskW d2 ∧ ((isWalk n xs d1 = false ∧ ex "BadWalk" [] T) ∨
  ∃ (r : Int) (zs : List Int) (qs : List P2) (e : Int), d1 = wkD r zs qs ∧ Wk n xs r zs qs e ∧ ((isWalk n xs d2 = false ∧ ex "BadWalk" [] T) ∨
  ∃ (r2 : Int) (ys : List Int) (ps : List P2) (f : Int), d2 = wkD r2 ys ps ∧ Wk n xs r2 ys ps f ∧ post (.fz (.bl (decide (r = r2 ∧ redF xs zs qs = redF xs ys ps)))) T))
def G_are_one : DG := (gSeq (gDrop (dCallX S_need_walk 2 (aCons (dVar 0) (aCons (dVar 1) aNil))))
    (gSeq (gDrop (dCallX S_need_walk 2 (aCons (dVar 0) (aCons (dVar 2) aNil))))
    (gRet (dOp dEq (dOp dIx (dCall S__reduced 2 (aCons (dVar 0) (aCons (dVar 1) aNil))) (dC (.int 0))) (dOp dIx (dCall S__reduced 2 (aCons (dVar 0) (aCons (dVar 2) aNil))) (dC (.int 0)))))))
theorem red_eq {xs : List D} {zs ys : List Int} {qs ps : List P2} : (redZ xs zs qs = redZ xs ys ps ∧ redK xs zs qs = redK xs ys ps) ↔ redF xs zs qs = redF xs ys ps := by
  constructor
  · rintro ⟨h1, h2⟩
    unfold redZ at h1
    unfold redK at h2
    have := List.append_inj' h1 rfl
    have h3 := List.cons.inj this.2
    exact Prod.ext h2 (Prod.ext this.1 h3.1)
  · intro h
    unfold redZ redK
    rw [h]
    exact ⟨rfl, rfl⟩
theorem m_are_one : ∀ (ds : List D) T post ex, ds.length = 3 → S_are_one ds T post ex → G_are_one (endsOf post ex) (startD 3 ds T) := by
  rintro ds T post ex _ ⟨n, xs, d1, d2, rfl, hd, hx, a1, a2, h⟩
  rcases h with ⟨no, h⟩ | ⟨r, zs, qs, e, rfl, hw, h⟩
  · exact ⟨rfl, need_no hd hx a1 no h⟩
  · refine ⟨rfl, need_wk hd hx hw ?_⟩
    rcases h with ⟨no, h⟩ | ⟨r2, ys, ps, f, rfl, hw2, h⟩
    · exact ⟨rfl, need_no hd hx a2 no h⟩
    · refine ⟨rfl, need_wk hd hx hw2 ?_⟩
      refine ⟨rfl, n, xs, r, zs, qs, e, rfl, hw, fun M => ⟨_, rfl, ?_⟩⟩
      refine ⟨rfl, n, xs, r2, ys, ps, f, rfl, hw2, fun M2 => ⟨_, rfl, ?_⟩⟩
      refine ⟨ok_wk _ _ _, ok_wk _ _ _, ?_⟩
      rw [eqv_wkB]
      have : decide (r = r2 ∧ redZ xs zs qs = redZ xs ys ps ∧ redK xs zs qs = redK xs ys ps) = decide (r = r2 ∧ redF xs zs qs = redF xs ys ps) := decide_eq_decide.mpr (and_congr Iff.rfl red_eq)
      rw [this]
      exact h
def S__stands : PF := fun ds T post _ => ∃ (r : Int) (zs : List Int) (qs : List P2), ds = [wkD r zs qs] ∧ post (.fz (.bl (decide (zs = [0])))) T
def G__stands : DG := (gRet (dOp dEq (dIxV 0 (dC (.int 1))) (dTup (aCons (dC (.int 0)) aNil))))
theorem m__stands : ∀ (ds : List D) T post ex, ds.length = 1 → S__stands ds T post ex → G__stands (endsOf post ex) (startD 1 ds T) := by
  rintro ds T post ex _ ⟨r, zs, qs, rfl, hp⟩
  refine ⟨trivial, _, rfl, (show (1 : Nat) ≤ 100000 from by decide), okD_of (n := 9) (by
      unfold okN
      refine okNs_iff.mpr fun d hd => ?_
      obtain ⟨z, _, rfl⟩ := List.mem_map.mp hd
      rfl), rfl, ?_⟩
  have := eqv_intsB zs [0]
  show post (.fz (.bl (PyData.eqv (py (.tup (zs.map D.int))) (py (.tup ([0].map D.int)))))) T
  rw [this]
  exact hp
def S_is_nothing : PF := fun ds T post ex => ∃ (n : Nat) (xs : List D) (d : D), ds = [houseD n xs, d] ∧ (∀ d ∈ xs, DoorIs n d) ∧ xs.length ≤ 1000 ∧ AskW d ∧ ((isWalk n xs d = false ∧ ex "BadWalk" [] T) ∨
  ∃ (r : Int) (zs : List Int) (qs : List P2) (e : Int), d = wkD r zs qs ∧ Wk n xs r zs qs e ∧ post (.fz (.bl (decide (redF xs zs qs = Z0)))) T)
def G_is_nothing : DG := (gSeq (gDrop (dCallX S_need_walk 2 (aCons (dVar 0) (aCons (dVar 1) aNil))))
    (gRet (dCall S__stands 1 (aCons (dOp dIx (dCall S__reduced 2 (aCons (dVar 0) (aCons (dVar 1) aNil))) (dC (.int 0))) aNil))))
theorem redF_gd {n : Nat} {xs : List D} {r e : Int} {zs : List Int} {qs : List P2} (hw : Wk n xs r zs qs e) : Gd n xs (redF xs zs qs) := by
  rw [redF_run hw.ln]
  exact Gd.run qs zs Z0 (Gd.zero n xs) hw.pa
theorem red_zero {n : Nat} {xs : List D} {r e : Int} {zs : List Int} {qs : List P2} (hw : Wk n xs r zs qs e) : redZ xs zs qs = [0] ↔ redF xs zs qs = Z0 := by
  have g := (redF_gd hw).ln
  unfold redZ
  constructor
  · intro h
    have h2 := List.append_inj' (show (redF xs zs qs).2.1 ++ [(redF xs zs qs).2.2] = [] ++ [0] from h) rfl
    have h3 := (List.cons.inj h2.2).1
    rw [h2.1] at g
    have h4 : (redF xs zs qs).1 = [] := List.length_eq_zero_iff.mp g.symm
    exact Prod.ext h4 (Prod.ext h2.1 h3)
  · intro h
    rw [h]
    rfl
theorem m_is_nothing : ∀ (ds : List D) T post ex, ds.length = 2 → S_is_nothing ds T post ex → G_is_nothing (endsOf post ex) (startD 2 ds T) := by
  rintro ds T post ex _ ⟨n, xs, d, rfl, hd, hx, ha, h⟩
  rcases h with ⟨no, h⟩ | ⟨r, zs, qs, e, rfl, hw, h⟩
  · exact ⟨rfl, need_no hd hx ha no h⟩
  · refine ⟨rfl, need_wk hd hx hw ?_⟩
    refine ⟨rfl, n, xs, r, zs, qs, e, rfl, hw, fun M => ⟨_, rfl, ?_⟩⟩
    refine ⟨rfl, r, redZ xs zs qs, redK xs zs qs, rfl, ?_⟩
    rw [show decide (redZ xs zs qs = [0]) = decide (redF xs zs qs = Z0) from decide_eq_decide.mpr (red_zero hw)]
    exact h
end Law

set_option Elab.async false
set_option linter.all false
set_option maxRecDepth 100000
set_option maxHeartbeats 4000000
namespace Law
open PySem L2 DL
variable [Tb]
/-! ### k11: no walk drawn, pairs of walks -/
theorem Odd.w {n : Nat} {xs : List D} {d : D} (h : Odd n xs d) : AskW d := ⟨h.ask, h.ln⟩
def S__law_pf_bad : PF := fun ds T post _ => ∃ (n : Nat) (xs : List D) (r : Int) (zs : List Int) (qs : List P2) (e : Int), ds = [.st, .tup xs, wkD r zs qs] ∧ Wk n xs r zs qs e ∧ xs.length ≤ 1000 ∧ T + 10 ≤ TM ∧ ∀ d, Odd n xs d → post (.fz d) (T + 2)
def G__law_pf_bad : DG := (gRet (dCall S__law_pick 2 (aCons (dVar 0) (aCons (dCall S__law_pf_near 3 (aCons (dVar 0) (aCons (dVar 1) (aCons (dVar 2) aNil)))) aNil))))
theorem m__law_pf_bad : ∀ (ds : List D) T post ex, ds.length = 3 → S__law_pf_bad ds T post ex → G__law_pf_bad (endsOf post ex) (startD 3 ds T) := by
  rintro ds T post ex _ ⟨n, xs, r, zs, qs, e, rfl, hw, hx, hT, hp⟩
  refine ⟨rfl, n, xs, r, zs, qs, e, rfl, hw, hx, (show T + 10 ≤ TM from by omega), fun ys hy h0 hl => ?_⟩
  exact ⟨rfl, .lst ys, ys, rfl, .inl rfl, h0, (by omega), (show T + 1 < TM from by omega), fun x hx => hp x (hy x hx)⟩
theorem s_strolled {n m : Nat} {xs : List D} {r : Nat} {T : Nat} {post : Sl → Nat → Prop} {ex : Str → List (Str × D) → Nat → Prop} (hd : ∀ d ∈ xs, DoorIs n d) (hr : r < n) (hx : xs.length ≤ 1000) (hm : m ≤ 100) (hT : T + 10000 ≤ TM) (hp : ∀ zs qs e T', Wk n xs r zs qs e → qs.length ≤ m → T ≤ T' → T' ≤ T + 2 + 10 * m → post (.fz (wkD r zs qs)) T') : S__law_strolled [.st, .tup xs, .int r, .int m] T post ex := by
  refine ⟨n, m, xs, r, rfl, hd, hr, hx, hm, hT, fun ps ss e T' hS hlen hss t0 t1 => ?_⟩
  obtain ⟨zs, qs, ew, hw⟩ := wk_of hd hS hlen (by omega) (by omega) (by omega)
  have lq : qs.length = ss.length := by
    unfold wkD walkD at ew
    cases ew
    rw [List.length_map]
  rw [ew]
  exact hp zs qs e T' hw (by omega) t0 t1
theorem s_end {n : Nat} {xs : List D} {r e : Int} {zs : List Int} {qs : List P2} {T : Nat} {post : Sl → Nat → Prop} {ex : Str → List (Str × D) → Nat → Prop} (hd : ∀ d ∈ xs, DoorIs n d) (h : Wk n xs r zs qs e) (hp : post (.fz (.int e)) T) : S__law_end [.tup xs, wkD r zs qs] T post ex :=
  ⟨n, xs, _, _, r, e, rfl, hd, h.of.st, h.go, hp⟩
def S__law_pair : PF := fun ds T post _ => ∃ (n : Nat) (xs : List D), ds = [.st, .int n, .tup xs] ∧ 0 < n ∧ n ≤ 1000 ∧ (∀ d ∈ xs, DoorIs n d) ∧ xs.length ≤ 1000 ∧ T + 20000 ≤ TM ∧
  ∀ (r e f : Int) zs qs ys ps T', Wk n xs r zs qs e → Wk n xs r ys ps f → qs.length ≤ 20 → ps.length ≤ 20 → T ≤ T' → T' ≤ T + 400 → post (.fz (.tup [wkD r zs qs, wkD r ys ps])) T'
def G_pr0 : DG := (gRet (dTup (aCons (dVar 4) (aCons (dVar 6) aNil))))
def G_pr1 : DG := (gSeq (gSet 9 (dOp dAdd (dOp dAdd (dSl (dIxV 6 (dC (.int 1))) oNo (oAt (dVar 7))) (dTup (aCons (dOp dAdd (dOp dIx (dIxV 6 (dC (.int 1))) (dVar 7)) (dVar 8)) aNil))) (dSl (dIxV 6 (dC (.int 1))) (oAt (dOp dAdd (dVar 7) (dC (.int 1)))) oNo)))
    (gSet 6 (dTup (aCons (dIxV 6 (dC (.int 0))) (aCons (dVar 9) (aCons (dIxV 6 (dC (.int 2))) aNil))))))
def G_pr2 : DG := (gSeq (gSet 7 (dCall S__law_draw 2 (aCons (dVar 0) (aCons (dCB cLen (aCons (dIxV 6 (dC (.int 1))) aNil)) aNil))))
    (gSeq (gSet 8 (dCall S__law_pick 2 (aCons (dVar 0) (aCons (dLst (aCons (dC (.int 1)) (aCons (dNeg (dC (.int 1))) (aCons (dC (.int 2)) (aCons (dC (.int 6)) (aCons (dNeg (dC (.int 12))) aNil)))))) aNil))))
    G_pr1))
def G_pr3 : DG := (gSeq (gSet 6 (dOp dIx (dCall S__law_pf_moves 4 (aCons (dVar 0) (aCons (dVar 2) (aCons (dVar 4) (aCons (dC (.int 12)) aNil))))) (dC (.int 1))))
    (gSeq (gIf (dTest (dOp dEq (dVar 5) (dC (.int 1)))) G_pr2 gNil)
    G_pr0))
def G_pr4 : DG := (gSeq (gIf (dTest (dOp dEq (dVar 5) (dC (.int 0)))) (gRet (dTup (aCons (dVar 4) (aCons (dCall S__law_strolled 4 (aCons (dVar 0) (aCons (dVar 2) (aCons (dVar 3) (aCons (dC (.int 6)) aNil))))) aNil)))) gNil)
    G_pr3)
def G__law_pair : DG := (gSeq (gSet 3 (dCall S__law_draw 2 (aCons (dVar 0) (aCons (dVar 1) aNil))))
    (gSeq (gSet 4 (dCall S__law_strolled 4 (aCons (dVar 0) (aCons (dVar 2) (aCons (dVar 3) (aCons (dC (.int 6)) aNil))))))
    (gSeq (gSet 5 (dCall S__law_draw 2 (aCons (dVar 0) (aCons (dC (.int 3)) aNil))))
    G_pr4)))
def prSt (n : Nat) (xs : List D) (r : Int) (d4 : D) (way : Int) (v6 v7 v8 v9 : Option Sl) (T : Nat) : DS := ⟨[some (.fz .st), some (.fz (.int n)), some (.fz (.tup xs)), some (.fz (.int r)), some (.fz d4), some (.fz (.int way)), v6, v7, v8, v9], T⟩
theorem pr1 {n : Nat} {xs : List D} {r r0 way m : Int} {d4 : D} {zs : List Int} {qs : List P2} {i : Nat} {v9 : Option Sl} {T : Nat} {E : DE} (hz : zs.length ≤ 1001) (hi : i < zs.length) (hn : ∀ v9, E.nx (prSt n xs r0 d4 way (some (.fz (wkD r (chg zs i m) qs))) (some (.fz (.int i))) (some (.fz (.int m))) v9 T)) :
    G_pr1 E (prSt n xs r0 d4 way (some (.fz (wkD r zs qs))) (some (.fz (.int i))) (some (.fz (.int m))) v9 T) := by
  have c1 := cut_take (zs.map D.int) i (by rw [List.length_map]; omega)
  have c2 : cutD (zs.map D.int) (some ((i : Int) + 1)) none = (zs.map D.int).drop (i + 1) := cut_drop (zs.map D.int) (i + 1) (by rw [List.length_map]; omega)
  have z1 : (zs.map D.int).take i = (zs.take i).map D.int := List.map_take.symm
  have z2 : (zs.map D.int).drop (i + 1) = (zs.drop (i + 1)).map D.int := List.map_drop.symm
  have n1 : (zs.take i).length = i := by rw [List.length_take]; omega
  have n2 : (zs.drop (i + 1)).length ≤ 1001 := by rw [List.length_drop]; omega
  refine ⟨trivial, _, rfl, trivial, _, rfl, _, int_at hi, nle rfl, ?_⟩
  show (cutD (zs.map D.int) none (some (i : Int))).length + 1 ≤ 100000 ∧ _
  rw [c1]
  refine ⟨by rw [z1, List.length_map]; omega, trivial, _, rfl, ?_⟩
  show ((zs.map D.int).take i ++ [D.int (zs.getD i 0 + m)]).length + (cutD (zs.map D.int) (some ((i : Int) + 1)) none).length ≤ 100000 ∧ _
  rw [c2, z1, z2]
  refine ⟨by rw [List.length_append, List.length_map, List.length_map]; show _ + 1 + _ ≤ _; omega, trivial, _, rfl, trivial, _, rfl, nle rfl, ?_⟩
  have k := hn (some (.fz (.tup ((chg zs i m).map D.int))))
  unfold wkD chg at k
  rw [List.map_append, List.map_append] at k
  exact k
theorem pr3 {n : Nat} {xs : List D} {r e way : Int} {zs : List Int} {qs : List P2} {v6 v7 v8 v9 : Option Sl} {T : Nat} {post : Sl → Nat → Prop} {ex : Str → List (Str × D) → Nat → Prop} (hd : ∀ d ∈ xs, DoorIs n d) (hx : xs.length ≤ 1000) (hw : Wk n xs r zs qs e) (hq : qs.length ≤ 6) (hT : T + 1100 ≤ TM) (hp : ∀ ys ps f T', Wk n xs r ys ps f → ps.length ≤ 20 → T ≤ T' → T' ≤ T + 60 → post (.fz (.tup [wkD r zs qs, wkD r ys ps])) T') :
    G_pr3 (endsOf post ex) (prSt n xs r (wkD r zs qs) way v6 v7 v8 v9 T) := by
  refine ⟨rfl, n, xs, r, zs, qs, e, 12, rfl, hd, hx, hw, by omega, by decide, (show T + 1000 ≤ TM from by omega), fun M ys ps T' hL hl t0 t1 => ⟨_, rfl, ?_⟩⟩
  have t0 : T ≤ T' := t0
  have t1 : T' ≤ T + 4 * 12 := t1
  have w2 := hL.wk
  have fin : ∀ ys ps f v7 v8 v9 T2, Wk n xs r ys ps f → ps.length ≤ 20 → T ≤ T2 → T2 ≤ T + 60 → G_pr0 (endsOf post ex) (prSt n xs r (wkD r zs qs) way (some (.fz (wkD r ys ps))) v7 v8 v9 T2) := fun ys ps f v7 v8 v9 T2 h1 h2 h3 h4 => ⟨nle rfl, hp ys ps f T2 h1 h2 h3 h4⟩
  have h1 : ∀ b : Bool, (if b = true then G_pr2 { endsOf post ex with nx := G_pr0 (endsOf post ex) } (prSt n xs r (wkD r zs qs) way (some (.fz (wkD r ys ps))) v7 v8 v9 T') else G_pr0 (endsOf post ex) (prSt n xs r (wkD r zs qs) way (some (.fz (wkD r ys ps))) v7 v8 v9 T')) := by
    intro b
    cases b with
    | false => exact fin ys ps e _ _ _ T' w2 (by omega) (by omega) (by omega)
    | true =>
      have el : (ys.map D.int).length = ys.length := List.length_map _
      have hl2 := w2.ln
      refine ⟨trivial, _, rfl, rfl, (((ys.map D.int).length : Nat) : Int), rfl, by omega, by omega, (show T' < TM from by omega), fun k k0 k1 => ?_⟩
      refine ⟨nle rfl, rfl, .lst _, _, rfl, .inl rfl, nle rfl, nle rfl, (show T' + 1 < TM from by omega), fun x hx => ?_⟩
      have hx : ∃ m : Int, x = .int m := by
        simp only [List.mem_cons, List.not_mem_nil, or_false] at hx
        rcases hx with rfl | rfl | rfl | rfl | rfl <;> exact ⟨_, rfl⟩
      obtain ⟨m0, rfl⟩ := hx
      have ek : k = ((k.toNat : Nat) : Int) := by omega
      rw [ek]
      exact pr1 (T := T' + 2) (E := { endsOf post ex with nx := G_pr0 (endsOf post ex) }) (by omega) (by omega) fun v9 => fin _ ps e _ _ _ (T' + 2) (chg_wk w2 (by omega) m0) (by omega) (by omega) (by omega)
  exact ⟨rfl, rfl, h1 _⟩
theorem m__law_pair : ∀ (ds : List D) T post ex, ds.length = 3 → S__law_pair ds T post ex → G__law_pair (endsOf post ex) (startD 10 ds T) := by
  rintro ds T post ex _ ⟨n, xs, rfl, hn, hm, hd, hx, hT, hp⟩
  refine ⟨rfl, n, rfl, by omega, by omega, (show T < TM from by omega), fun r r0 r1 => ?_⟩
  obtain ⟨k, rfl⟩ : ∃ k : Nat, r = k := ⟨r.toNat, by omega⟩
  refine ⟨rfl, s_strolled (m := 6) hd (by omega) hx (by decide) (show T + 1 + 10000 ≤ TM from by omega) fun zs qs e T1 hw hq a b => ?_⟩
  have a : T + 1 ≤ T1 := a
  have b : T1 ≤ T + 1 + 2 + 10 * 6 := b
  refine ⟨rfl, 3, rfl, by decide, by decide, (show T1 < TM from by omega), fun way w0 w1 => ⟨rfl, rfl, ?_⟩⟩
  have h3 : G_pr3 (endsOf post ex) (prSt n xs k (wkD k zs qs) way none none none none (T1 + 1)) := pr3 (T := T1 + 1) hd hx hw hq (by omega) fun ys ps f T' w2 l2 c d => hp k e f zs qs ys ps T' hw w2 (by omega) l2 (by omega) (by omega)
  have h1 : ∀ b : Bool, (if b = true then gRet (dTup (aCons (dVar 4) (aCons (dCall S__law_strolled 4 (aCons (dVar 0) (aCons (dVar 2) (aCons (dVar 3) (aCons (dC (.int 6)) aNil))))) aNil))) (endsOf post ex) (prSt n xs k (wkD k zs qs) way none none none none (T1 + 1)) else G_pr3 (endsOf post ex) (prSt n xs k (wkD k zs qs) way none none none none (T1 + 1))) := by
    intro b
    cases b with
    | false => exact h3
    | true =>
      refine ⟨rfl, s_strolled (m := 6) hd (by omega) hx (by decide) (show T1 + 1 + 10000 ≤ TM from by omega) fun ys ps f T2 w2 l2 c d => ⟨nle rfl, ?_⟩⟩
      have c : T1 + 1 ≤ T2 := c
      have d : T2 ≤ T1 + 1 + 2 + 10 * 6 := d
      exact hp k e f zs qs ys ps T2 hw w2 (by omega) (by omega) (by omega) (by omega)
  exact h1 _
end Law

set_option Elab.async false
set_option linter.all false
set_option maxRecDepth 100000
set_option maxHeartbeats 4000000
namespace Law
open PySem L2 DL
variable [Tb]
/-! ### carried, shortened -/
def S__is_spot : PF := fun ds T post _ => ∃ (r : Int) (zs : List Int) (qs : List P2) (d : D), ds = [wkD r zs qs, d] ∧ plainD d = true ∧ post (.fz (.bl (within d 0 ((qs.length : Int) - 1)))) T
def G__is_spot : DG := (gRet (dCall S_is_number_within 3 (aCons (dVar 1) (aCons (dC (.int 0)) (aCons (dOp dSub (dCB cLen (aCons (dIxV 0 (dC (.int 2))) aNil)) (dC (.int 1))) aNil)))))
theorem m__is_spot : ∀ (ds : List D) T post ex, ds.length = 2 → S__is_spot ds T post ex → G__is_spot (endsOf post ex) (startD 2 ds T) := by
  rintro ds T post ex _ ⟨r, zs, qs, d, rfl, pd, hp⟩
  refine ⟨trivial, _, rfl, rfl, d, 0, _, rfl, pd, ?_⟩
  show post (.fz (.bl (within d 0 ((((qs.map stD).length : Nat) : Int) - 1)))) T
  rw [List.length_map]
  exact hp
def S__carried_over : PF := fun ds T post _ => ∃ (n : Nat) (xs : List D) (r : Int) (zs : List Int) (qs : List P2) (e : Int) (i : Nat) (q : P2) (t : Int), ds = [houseD n xs, wkD r zs qs, .int i, .int t] ∧ Wk n xs r zs qs e ∧ qs[i]? = some q ∧ post (.fz (wkD r (carZ xs zs i q t) qs)) T
def G_co1 : DG := (gSeq (gSet 10 (dTup (aCons (dOp dSub (dIxV 5 (dVar 2)) (dOp dMul (dVar 8) (dVar 3))) (aCons (dOp dAdd (dIxV 5 (dOp dAdd (dVar 2) (dC (.int 1)))) (dOp dMul (dVar 9) (dVar 3))) aNil))))
    (gRet (dTup (aCons (dVar 4) (aCons (dOp dAdd (dOp dAdd (dSl (dVar 5) oNo (oAt (dVar 2))) (dVar 10)) (dSl (dVar 5) (oAt (dOp dAdd (dVar 2) (dC (.int 2)))) oNo)) (aCons (dVar 6) aNil))))))
def G__carried_over : DG := (gSeq (gUnp (tgTup 3 (tgCons (tgN 4) (tgCons (tgN 5) (tgCons (tgN 6) tgNil)))) (dVar 1))
    (gSeq (gUnp (tgTup 4 (tgCons (tgN 7) (tgCons (tgN 8) (tgCons (tgN 7) (tgCons (tgN 9) tgNil))))) (dCall S_ends_of 2 (aCons (dVar 0) (aCons (dIxV 6 (dVar 2)) aNil))))
    G_co1))
theorem m__carried_over : ∀ (ds : List D) T post ex, ds.length = 4 → S__carried_over ds T post ex → G__carried_over (endsOf post ex) (startD 11 ds T) := by
  rintro ds T post ex _ ⟨n, xs, r, zs, qs, e, i, q, t, rfl, hw, hq, hp⟩
  have pq := hw.pa q (List.mem_of_getElem? hq)
  have hi := (List.getElem?_eq_some_iff.mp hq).1
  have hl := hw.ln
  have hm := hw.mx
  have c1 := cut_take (zs.map D.int) i (by rw [List.length_map]; omega)
  have c2 : cutD (zs.map D.int) (some ((i : Int) + 2)) none = (zs.map D.int).drop (i + 2) := cut_drop (zs.map D.int) (i + 2) (by rw [List.length_map]; omega)
  have z1 : (zs.map D.int).take i = (zs.take i).map D.int := List.map_take.symm
  have z2 : (zs.map D.int).drop (i + 2) = (zs.drop (i + 2)).map D.int := List.map_drop.symm
  have n1 : (zs.take i).length = i := by rw [List.length_take]; omega
  have n2 : (zs.drop (i + 2)).length ≤ 1001 := by rw [List.length_drop]; omega
  have k1 : ∀ v7, G_co1 (endsOf post ex) ⟨[some (.fz (houseD n xs)), some (.fz (wkD r zs qs)), some (.fz (.int i)), some (.fz (.int t)), some (.fz (.int r)), some (.fz (.tup (zs.map D.int))), some (.fz (.tup (qs.map stD))), v7, some (.fz (.int (lvN xs q))), some (.fz (.int (arN xs q))), none], T⟩ := by
    intro v7
    refine ⟨trivial, _, int_at (by omega), .inl ⟨by have := pq.size.1.2.1; omega, by have := pq.size.1.2.2; omega⟩, ?_⟩
    refine ⟨trivial, _, int_at1 (by omega), .inl ⟨by have := pq.size.2.2.1; omega, by have := pq.size.2.2.2; omega⟩, nle rfl, ?_⟩
    show (cutD (zs.map D.int) none (some (i : Int))).length + 2 ≤ 100000 ∧ (cutD (zs.map D.int) none (some (i : Int)) ++ [D.int (zs.getD i 0 - lvN xs q * t), D.int (zs.getD (i + 1) 0 + arN xs q * t)]).length + (cutD (zs.map D.int) (some ((i : Int) + 2)) none).length ≤ 100000 ∧ _
    rw [c1, c2, z1, z2]
    refine ⟨by rw [List.length_map]; omega, by rw [List.length_append, List.length_map, List.length_map]; show _ + 2 + _ ≤ _; omega, nle rfl, ?_⟩
    unfold wkD carZ at hp
    rw [List.map_append, List.map_append] at hp
    exact hp
  refine ⟨rfl, ?_⟩
  refine ⟨trivial, _, st_at hq, rfl, ends_pas pq fun c d _ _ _ => ?_⟩
  exact ⟨rfl, k1 _⟩
def S__cancelled : PF := fun ds T post _ => ∃ (r : Int) (zs : List Int) (qs : List P2) (i : Nat), ds = [wkD r zs qs, .int i] ∧ zs.length = qs.length + 1 ∧ i + 1 < qs.length ∧ qs.length ≤ 1000 ∧ post (.fz (wkD r (canZ zs i) (canQ qs i))) T
def G__cancelled : DG := (gSeq (gUnp (tgTup 3 (tgCons (tgN 2) (tgCons (tgN 3) (tgCons (tgN 4) tgNil)))) (dVar 0))
    (gSeq (gSet 5 (dTup (aCons (dOp dAdd (dIxV 3 (dVar 1)) (dIxV 3 (dOp dAdd (dVar 1) (dC (.int 2))))) aNil)))
    (gRet (dTup (aCons (dVar 2) (aCons (dOp dAdd (dOp dAdd (dSl (dVar 3) oNo (oAt (dVar 1))) (dVar 5)) (dSl (dVar 3) (oAt (dOp dAdd (dVar 1) (dC (.int 3)))) oNo)) (aCons (dOp dAdd (dSl (dVar 4) oNo (oAt (dVar 1))) (dSl (dVar 4) (oAt (dOp dAdd (dVar 1) (dC (.int 2)))) oNo)) aNil)))))))
theorem m__cancelled : ∀ (ds : List D) T post ex, ds.length = 2 → S__cancelled ds T post ex → G__cancelled (endsOf post ex) (startD 6 ds T) := by
  rintro ds T post ex _ ⟨r, zs, qs, i, rfl, hl, hi, hm, hp⟩
  have c1 := cut_take (zs.map D.int) i (by rw [List.length_map]; omega)
  have c2 : cutD (zs.map D.int) (some ((i : Int) + 3)) none = (zs.map D.int).drop (i + 3) := cut_drop (zs.map D.int) (i + 3) (by rw [List.length_map]; omega)
  have c3 := cut_take (qs.map stD) i (by rw [List.length_map]; omega)
  have c4 : cutD (qs.map stD) (some ((i : Int) + 2)) none = (qs.map stD).drop (i + 2) := cut_drop (qs.map stD) (i + 2) (by rw [List.length_map]; omega)
  have z1 : (zs.map D.int).take i = (zs.take i).map D.int := List.map_take.symm
  have z2 : (zs.map D.int).drop (i + 3) = (zs.drop (i + 3)).map D.int := List.map_drop.symm
  have z3 : (qs.map stD).take i = (qs.take i).map stD := List.map_take.symm
  have z4 : (qs.map stD).drop (i + 2) = (qs.drop (i + 2)).map stD := List.map_drop.symm
  have n1 : (zs.take i).length = i := by rw [List.length_take]; omega
  have n2 : (zs.drop (i + 3)).length ≤ 1001 := by rw [List.length_drop]; omega
  have n3 : (qs.take i).length = i := by rw [List.length_take]; omega
  have n4 : (qs.drop (i + 2)).length ≤ 1001 := by rw [List.length_drop]; omega
  refine ⟨rfl, trivial, _, int_at (by omega), trivial, _, int_at2 (by omega), nle rfl, ?_⟩
  show (cutD (zs.map D.int) none (some (i : Int))).length + 1 ≤ 100000 ∧ (cutD (zs.map D.int) none (some (i : Int)) ++ [D.int (zs.getD i 0 + zs.getD (i + 2) 0)]).length + (cutD (zs.map D.int) (some ((i : Int) + 3)) none).length ≤ 100000 ∧ (cutD (qs.map stD) none (some (i : Int))).length + (cutD (qs.map stD) (some ((i : Int) + 2)) none).length ≤ 100000 ∧ _
  rw [c1, c2, c3, c4, z1, z2, z3, z4]
  refine ⟨by rw [List.length_map]; omega, by rw [List.length_append, List.length_map, List.length_map]; show _ + 1 + _ ≤ _; omega, by rw [List.length_map, List.length_map]; omega, nle rfl, ?_⟩
  unfold wkD canZ canQ at hp
  rw [List.map_append, List.map_append, List.map_append] at hp
  exact hp
/-- shortened at a spot -/
def shoZ (xs : List D) (zs : List Int) (i : Nat) (q : P2) : List Int := canZ (carZ xs zs i q (-((zs.getD (i + 1) 0).fdiv (arN xs q)))) i
theorem car_get {xs : List D} {zs : List Int} {i : Nat} {q : P2} {t : Int} (h : i + 1 < zs.length) : (carZ xs zs i q t).getD (i + 1) 0 = zs.getD (i + 1) 0 + arN xs q * t := by
  have l : (zs.take i).length = i := by rw [List.length_take]; omega
  unfold carZ
  rw [List.append_assoc, List.getD_eq_getElem?_getD, List.getElem?_append_right (by omega), l, show i + 1 - i = 1 from by omega]
  rfl
theorem fdiv_back {z a : Int} (h : z.fmod (mag a) = 0) : z + a * (-(z.fdiv a)) = 0 := by
  have h1 : a ∣ z := by
    have := Int.dvd_of_fmod_eq_zero h
    unfold mag at this
    split at this
    · exact Int.neg_dvd.mp this
    · exact this
  have := Int.mul_fdiv_cancel' h1
  rw [Int.mul_neg, this]
  omega
theorem sho_led {n : Nat} {xs : List D} {r e : Int} {zs : List Int} {qs : List P2} {i : Nat} {q : P2} (hw : Wk n xs r zs qs e) (hq : qs[i]? = some q) (hs : Spot xs zs qs q i) : Led n xs r e zs qs (shoZ xs zs i q) (canQ qs i) := by
  have hl := hw.ln
  have hi := (List.getElem?_eq_some_iff.mp hs.1).1
  have w1 := car_wk hw hq (-((zs.getD (i + 1) 0).fdiv (arN xs q)))
  have h0 : (carZ xs zs i q (-((zs.getD (i + 1) 0).fdiv (arN xs q)))).getD (i + 1) 0 = 0 := by
    rw [car_get (by omega)]
    exact fdiv_back hs.2
  exact ⟨can_wk w1 hq hs.1, fun Z g => (can_run w1 hq hs.1 h0 g).trans (car_run hw hq _ Z)⟩
def S__shorter : PF := fun ds T post _ => ∃ (n : Nat) (xs : List D) (r : Int) (zs : List Int) (qs : List P2) (e : Int) (i : Nat) (q : P2), ds = [houseD n xs, wkD r zs qs, .int i] ∧ Wk n xs r zs qs e ∧ qs[i]? = some q ∧ Spot xs zs qs q i ∧ post (.fz (wkD r (shoZ xs zs i q) (canQ qs i))) T
def G_sh1 : DG := (gRet (dCall S__cancelled 2 (aCons (dCall S__carried_over 4 (aCons (dVar 0) (aCons (dVar 1) (aCons (dVar 2) (aCons (dNeg (dVar 7)) aNil))))) (aCons (dVar 2) aNil))))
def G__shorter : DG := (gSeq (gUnp (tgTup 3 (tgCons (tgN 3) (tgCons (tgN 4) (tgCons (tgN 5) tgNil)))) (dVar 1))
    (gSeq (gSet 6 (dOp dIx (dCall S_ends_of 2 (aCons (dVar 0) (aCons (dIxV 5 (dVar 2)) aNil))) (dC (.int 3))))
    (gSeq (gSet 7 (dOp dFdiv (dIxV 4 (dOp dAdd (dVar 2) (dC (.int 1)))) (dVar 6)))
    G_sh1)))
theorem m__shorter : ∀ (ds : List D) T post ex, ds.length = 3 → S__shorter ds T post ex → G__shorter (endsOf post ex) (startD 8 ds T) := by
  rintro ds T post ex _ ⟨n, xs, r, zs, qs, e, i, q, rfl, hw, hq, hs, hp⟩
  have pq := hw.pa q (List.mem_of_getElem? hq)
  have hi := (List.getElem?_eq_some_iff.mp hs.1).1
  have hl := hw.ln
  have hm := hw.mx
  refine ⟨rfl, trivial, _, st_at hq, rfl, ends_pas pq fun c d _ _ _ => ⟨_, rfl, ?_⟩⟩
  refine ⟨trivial, _, int_at1 (by omega), ⟨pq.size.2.1, ?_⟩, ?_⟩
  · have := pq.size.2.2
    omega
  · refine ⟨rfl, n, xs, r, zs, qs, e, i, q, -((zs.getD (i + 1) 0).fdiv (arN xs q)), rfl, hw, hq, ?_⟩
    exact ⟨rfl, r, _, qs, i, rfl, by rw [car_len (by omega)]; exact hl, hi, hm, hp⟩
theorem within_is {d : D} {m : Nat} (h : within d 0 ((m : Int) - 1) = true) : ∃ i : Nat, d = .int i ∧ i < m := by
  cases d with
  | int z =>
    obtain ⟨a, b⟩ := Bool.and_eq_true_iff.mp h
    have a := of_decide_eq_true a
    have b := of_decide_eq_true b
    exact ⟨z.toNat, by congr 1; omega, by omega⟩
  | _ => cases h
def S_carried : PF := fun ds T post ex => ∃ (n : Nat) (xs : List D) (d d1 d2 : D), ds = [houseD n xs, d, d1, d2] ∧ (∀ d ∈ xs, DoorIs n d) ∧ xs.length ≤ 1000 ∧ AskW d ∧ ((isWalk n xs d = false ∧ ex "BadWalk" [] T) ∨
  ∃ (r : Int) (zs : List Int) (qs : List P2) (e : Int), d = wkD r zs qs ∧ Wk n xs r zs qs e ∧ plainD d1 = true ∧ ((within d1 0 ((qs.length : Int) - 1) = false ∧ ex "BadSpot" [] T) ∨
  ∃ (i : Nat) (q : P2), d1 = .int i ∧ qs[i]? = some q ∧ plainD d2 = true ∧ ((isInt d2 = false ∧ ex "BadTimes" [] T) ∨ ∃ t : Int, d2 = .int t ∧ post (.fz (wkD r (carZ xs zs i q t) qs)) T)))
def G_carried : DG := (gSeq (gDrop (dCallX S_need_walk 2 (aCons (dVar 0) (aCons (dVar 1) aNil))))
    (gSeq (gIf (tNotD (dTest (dCall S__is_spot 2 (aCons (dVar 1) (aCons (dVar 2) aNil))))) (gRaise "BadSpot") gNil)
    (gSeq (gIf (tNotD (dTest (dCall S_is_number 1 (aCons (dVar 3) aNil)))) (gRaise "BadTimes") gNil)
    (gRet (dCall S__carried_over 4 (aCons (dVar 0) (aCons (dVar 1) (aCons (dVar 2) (aCons (dVar 3) aNil)))))))))
theorem m_carried : ∀ (ds : List D) T post ex, ds.length = 4 → S_carried ds T post ex → G_carried (endsOf post ex) (startD 4 ds T) := by
  rintro ds T post ex _ ⟨n, xs, d, d1, d2, rfl, hd, hx, ha, h⟩
  rcases h with ⟨no, h⟩ | ⟨r, zs, qs, e, rfl, hw, p1, h⟩
  · exact ⟨rfl, need_no hd hx ha no h⟩
  · refine ⟨rfl, need_wk hd hx hw ⟨rfl, r, zs, qs, d1, rfl, p1, ?_⟩⟩
    rcases h with ⟨no, h⟩ | ⟨i, q, rfl, hq, p2, h⟩
    · rw [no]
      exact h
    · have hi := (List.getElem?_eq_some_iff.mp hq).1
      rw [within_nat hi]
      refine ⟨rfl, d2, rfl, p2, ?_⟩
      rcases h with ⟨no, h⟩ | ⟨t, rfl, h⟩
      · rw [no]
        exact h
      · exact ⟨rfl, n, xs, r, zs, qs, e, i, q, t, rfl, hw, hq, h⟩
def S_shortened : PF := fun ds T post ex => ∃ (n : Nat) (xs : List D) (d d1 : D), ds = [houseD n xs, d, d1] ∧ (∀ d ∈ xs, DoorIs n d) ∧ xs.length ≤ 1000 ∧ AskW d ∧ ((isWalk n xs d = false ∧ ex "BadWalk" [] T) ∨
  ∃ (r : Int) (zs : List Int) (qs : List P2) (e : Int), d = wkD r zs qs ∧ Wk n xs r zs qs e ∧ plainD d1 = true ∧ (((∀ i q, d1 = .int (i : Nat) → qs[i]? = some q → ¬ Spot xs zs qs q i) ∧ ex "BadSpot" [] T) ∨
  ∃ (i : Nat) (q : P2), d1 = .int i ∧ qs[i]? = some q ∧ Spot xs zs qs q i ∧ post (.fz (wkD r (shoZ xs zs i q) (canQ qs i))) T))
def G_shortened : DG := (gSeq (gDrop (dCallX S_need_walk 2 (aCons (dVar 0) (aCons (dVar 1) aNil))))
    (gSeq (gIf (tOrD (tNotD (dTest (dCall S__is_spot 2 (aCons (dVar 1) (aCons (dVar 2) aNil))))) (tNotD (dTest (dCall S__can_shorten 3 (aCons (dVar 0) (aCons (dVar 1) (aCons (dVar 2) aNil))))))) (gRaise "BadSpot") gNil)
    (gRet (dCall S__shorter 3 (aCons (dVar 0) (aCons (dVar 1) (aCons (dVar 2) aNil)))))))
theorem m_shortened : ∀ (ds : List D) T post ex, ds.length = 3 → S_shortened ds T post ex → G_shortened (endsOf post ex) (startD 3 ds T) := by
  rintro ds T post ex _ ⟨n, xs, d, d1, rfl, hd, hx, ha, h⟩
  rcases h with ⟨no, h⟩ | ⟨r, zs, qs, e, rfl, hw, p1, h⟩
  · exact ⟨rfl, need_no hd hx ha no h⟩
  · refine ⟨rfl, need_wk hd hx hw ⟨rfl, r, zs, qs, d1, rfl, p1, ?_⟩⟩
    rcases h with ⟨no, h⟩ | ⟨i, q, rfl, hq, hs, h⟩
    · cases e1 : within d1 0 ((qs.length : Int) - 1) with
      | false => exact h
      | true =>
        obtain ⟨i, rfl, hi⟩ := within_is e1
        have hq : qs[i]? = some qs[i] := List.getElem?_eq_getElem hi
        refine ⟨rfl, n, xs, r, zs, qs, e, i, qs[i], rfl, hw, hq, fun b hb => ?_⟩
        cases b with
        | true => exact absurd (hb.mp rfl) (no i _ rfl hq)
        | false => exact h
    · have hi := (List.getElem?_eq_some_iff.mp hq).1
      rw [within_nat hi]
      refine ⟨rfl, n, xs, r, zs, qs, e, i, q, rfl, hw, hq, fun b hb => ?_⟩
      cases b with
      | false => exact absurd (hb.mpr hs) (by simp)
      | true => exact ⟨rfl, n, xs, r, zs, qs, e, i, q, rfl, hw, hq, hs, h⟩
end Law

set_option Elab.async false
set_option linter.all false
set_option maxRecDepth 100000
set_option maxHeartbeats 4000000
namespace Law
open PySem L2 DL
variable [Tb]
/-! ### _law_is_walk, of any value -/
def S__law_is_walk : PF := fun ds T post _ => ∃ (n : Nat) (xs : List D) (d : D), ds = [.tup xs, .int n, d] ∧ (∀ d ∈ xs, DoorIs n d) ∧ xs.length ≤ 1000 ∧ AskW d ∧ (∀ a ps c, d = .tup [a, .tup ps, c] → ps.length ≤ 10000) ∧ post (.fz (.bl (isWalk n xs d))) T
def G_lw7 : DG := (gSeq (gIf (tOrD (tNotD (dTest (dChain (dCmpI fun i j => decide (i ≤ j)) (dCmpI fun i j => decide (i < j)) (dC (.int 0)) (dIxV 4 (dC (.int 0))) (dCB cLen (aCons (dVar 0) aNil))))) (tOrD (dTest (dOp (dIn true) (dIxV 4 (dC (.int 1))) (dTup (aCons (dC (.int 0)) (aCons (dC (.int 1)) aNil))))) (dTest (dOp dNe (dOp dIx (dCall S__law_gate 2 (aCons (dVar 0) (aCons (dVar 4) aNil))) (dC (.int 0))) (dVar 3))))) (gRet (dC (.bl false))) gNil)
    (gSet 3 (dOp dIx (dCall S__law_gate 2 (aCons (dVar 0) (aCons (dVar 4) aNil))) (dC (.int 2)))))
def T_lw6 : DFT := (tOrD (dTest (dOp dNe (dCB cLen (aCons (dVar 4) aNil)) (dC (.int 2)))) (tOrD (tNotD (dTest (dCall S__law_is_whole 1 (aCons (dIxV 4 (dC (.int 0))) aNil)))) (tNotD (dTest (dCall S__law_is_whole 1 (aCons (dIxV 4 (dC (.int 1))) aNil))))))
def G_lw6 : DG := (gSeq (gIf (tOrD (tNotD (dTest (dIsTy "tuple" (dVar 4)))) T_lw6) (gRet (dC (.bl false))) gNil)
    G_lw7)
def G_lw5 : DG := (gSeq (gSet 3 (dIxV 2 (dC (.int 0))))
    (gSeq (gFor (iSeq (dIxV 2 (dC (.int 2)))) (tgN 4) G_lw6)
    (gRet (dC (.bl true)))))
def G_lw4 : DG := (gSeq (gIf (tOrD (tNotD (dTest (dIsTy "tuple" (dIxV 2 (dC (.int 2)))))) (dTest (dOp dNe (dCB cLen (aCons (dIxV 2 (dC (.int 1))) aNil)) (dOp dAdd (dCB cLen (aCons (dIxV 2 (dC (.int 2))) aNil)) (dC (.int 1)))))) (gRet (dC (.bl false))) gNil)
    G_lw5)
def F_lw3 : DF := (dLc [5] (iSeq (dIxV 2 (dC (.int 1)))) (tgN 5) (tNotD (dTest (dCall S__law_is_whole 1 (aCons (dVar 5) aNil)))) (dC (.int 1)))
def G_lw3 : DG := (gSeq (gIf (tOrD (tNotD (dTest (dIsTy "tuple" (dIxV 2 (dC (.int 1)))))) (dTest (dOp dNe F_lw3 (dLst aNil)))) (gRet (dC (.bl false))) gNil)
    G_lw4)
def G_lw2 : DG := (gSeq (gIf (tOrD (tNotD (dTest (dCall S__law_is_whole 1 (aCons (dIxV 2 (dC (.int 0))) aNil)))) (tNotD (dTest (dChain (dCmpI fun i j => decide (i ≤ j)) (dCmpI fun i j => decide (i < j)) (dC (.int 0)) (dIxV 2 (dC (.int 0))) (dVar 1))))) (gRet (dC (.bl false))) gNil)
    G_lw3)
def G__law_is_walk : DG := (gSeq (gIf (tOrD (tNotD (dTest (dIsTy "tuple" (dVar 2)))) (dTest (dOp dNe (dCB cLen (aCons (dVar 2) aNil)) (dC (.int 3))))) (gRet (dC (.bl false))) gNil)
    G_lw2)
def lwSt (n : Nat) (xs : List D) (d : D) (v3 v4 v5 : OS) (T : Nat) : DS := ⟨[some (.fz (.tup xs)), some (.fz (.int n)), some (.fz d), v3, v4, v5], T⟩
theorem lw7 {n : Nat} {xs : List D} {d : D} {u v r : Int} {v5 : OS} {T : Nat} {E : DE} (hd : ∀ d ∈ xs, DoorIs n d) (h0 : isPass xs.length (.tup [.int u, .int v]) = false → E.rt (.fz (.bl false)) T)
    (h1 : ∀ a b : Int, isPass xs.length (.tup [.int u, .int v]) = true → roomsOf xs (.tup [.int u, .int v]) = some (a, b) → a ≠ r → E.rt (.fz (.bl false)) T)
    (h2 : ∀ b : Int, isPass xs.length (.tup [.int u, .int v]) = true → roomsOf xs (.tup [.int u, .int v]) = some (r, b) → E.nx (lwSt n xs d (some (.fz (.int b))) (some (.fz (.tup [.int u, .int v]))) v5 T)) :
    G_lw7 E (lwSt n xs d (some (.fz (.int r))) (some (.fz (.tup [.int u, .int v]))) v5 T) := by
  have ep : isPass xs.length (.tup [.int u, .int v]) = ((decide (0 ≤ u) && decide (u ≤ (xs.length : Int) - 1)) && within (.int v) 0 1) := rfl
  refine ⟨trivial, _, rfl, ?_⟩
  have key : (match D.bl (decide (0 ≤ u)) with
    | .bl true => (match D.bl (decide (u < (xs.length : Int))) with
      | .bl k => (if (!k) = true then E.rt (.fz (.bl false)) T else (tOrD (dTest (dOp (dIn true) (dIxV 4 (dC (.int 1))) (dTup (aCons (dC (.int 0)) (aCons (dC (.int 1)) aNil))))) (dTest (dOp dNe (dOp dIx (dCall S__law_gate 2 (aCons (dVar 0) (aCons (dVar 4) aNil))) (dC (.int 0))) (dVar 3)))) (lwSt n xs d (some (.fz (.int r))) (some (.fz (.tup [.int u, .int v]))) v5 T) (fun k s1 => if k = true then E.rt (.fz (.bl false)) s1.T else (gSet 3 (dOp dIx (dCall S__law_gate 2 (aCons (dVar 0) (aCons (dVar 4) aNil))) (dC (.int 2)))) E s1) E.ex)
      | _ => False)
    | .bl false => E.rt (.fz (.bl false)) T | _ => False) := by
    by_cases c : 0 ≤ u
    · rw [decide_eq_true c]
      by_cases c2 : u < (xs.length : Int)
      · rw [decide_eq_true c2]
        refine ⟨trivial, _, rfl, nle rfl, rfl, rfl, ?_⟩
        show (if (!([D.int 0, D.int 1].any fun d => PyData.eqv (py d) (py (.int v)))) = true then E.rt (.fz (.bl false)) T else _)
        rw [in01]
        rw [decide_eq_true c, decide_eq_true (show u ≤ (xs.length : Int) - 1 from by omega), Bool.true_and, Bool.true_and] at ep
        cases c3 : within (.int v) 0 1 with
        | false =>
          rw [c3] at ep
          exact h0 ep
        | true =>
          rw [c3] at ep
          obtain ⟨q, eq, pq⟩ := pas_of hd ep
          obtain ⟨a, b, er, _, _⟩ := rooms_ex pq
          rw [← eq] at er
          rw [eq] at h1 h2 er ep ⊢
          refine ⟨rfl, lgate_pas pq fun c d hcd _ _ => ⟨_, rfl, ?_⟩⟩
          rw [er] at hcd
          have ec : (c : Int) = a ∧ (d : Int) = b := by
            have := Option.some.inj hcd
            exact ⟨(congrArg Prod.fst this).symm, (congrArg Prod.snd this).symm⟩
          refine ⟨rfl, rfl, ?_⟩
          rw [eqv_int]
          by_cases cr : (c : Int) = r
          · rw [decide_eq_true cr]
            refine ⟨rfl, lgate_pas pq fun c' d' hcd' _ _ => ⟨_, rfl, ?_⟩⟩
            rw [er] at hcd'
            have ed : (d' : Int) = b := (congrArg Prod.snd (Option.some.inj hcd')).symm
            rw [ed]
            exact h2 b ep (by rw [er, ← cr, ec.1])
          · rw [decide_eq_false cr]
            exact h1 a b ep er (by rw [← ec.1]; exact cr)
      · rw [decide_eq_false c2]
        rw [decide_eq_true c, decide_eq_false (show ¬ u ≤ (xs.length : Int) - 1 from by omega)] at ep
        exact h0 ep
    · rw [decide_eq_false c]
      rw [decide_eq_false c] at ep
      exact h0 ep
  exact key
theorem lw6 {n : Nat} {xs : List D} {d st : D} {r : Int} {v5 : OS} {T : Nat} {E : DE} (hd : ∀ d ∈ xs, DoorIs n d) (p1 : plainD st = true) (p2 : plainDs st = true) (h0 : isPass xs.length st = false → E.rt (.fz (.bl false)) T)
    (h1 : ∀ a b : Int, isPass xs.length st = true → roomsOf xs st = some (a, b) → a ≠ r → E.rt (.fz (.bl false)) T)
    (h2 : ∀ b : Int, isPass xs.length st = true → roomsOf xs st = some (r, b) → E.nx (lwSt n xs d (some (.fz (.int b))) (some (.fz st)) v5 T)) :
    G_lw6 E (lwSt n xs d (some (.fz (.int r))) (some (.fz st)) v5 T) := by
  cases st with
  | tup ds =>
    refine ⟨"tuple", true, rfl, by decide +kernel, ?_⟩
    refine ⟨rfl, rfl, ?_⟩
    rw [eqv_int]
    by_cases h : ds.length = 2
    · rw [decide_eq_true (show ((ds.length : Nat) : Int) = 2 from by omega)]
      have pd : ∀ d ∈ ds, plainD d = true := fun d hd => List.all_eq_true.mp p2 d hd
      match ds, h, pd with
      | [a, b], _, pd =>
        have pa := pd a (by simp)
        have pb := pd b (by simp)
        refine ⟨trivial, _, rfl, rfl, a, rfl, pa, ?_⟩
        cases a with
        | int u =>
          refine ⟨trivial, _, rfl, rfl, b, rfl, pb, ?_⟩
          cases b with
          | int v => exact lw7 hd h0 h1 h2
          | _ => exact h0 (by show ((decide (0 ≤ u) && decide (u ≤ (xs.length : Int) - 1)) && false) = false; rw [Bool.and_false])
        | _ => exact h0 rfl
    · rw [decide_eq_false (show ¬ ((ds.length : Nat) : Int) = 2 from by omega)]
      refine h0 ?_
      unfold isPass
      split
      · rename_i z
        cases z
        exact absurd rfl h
      · rfl
  | obj _ _ => cases p1
  | exc _ _ => cases p1
  | st => cases p1
  | scr _ => cases p1
  | _ => exact ⟨_, false, rfl, by decide +kernel, h0 rfl⟩
theorem hangs_cons {xs : List D} {st : D} {ss : List D} {r a b : Int} (h : roomsOf xs st = some (a, b)) : hangs xs r (st :: ss) = (if a = r then hangs xs b ss else false) := by
  conv => lhs; unfold hangs
  rw [h]
theorem lw5 {n : Nat} {xs ss : List D} {a r : Int} {b : D} {T : Nat} {post : Sl → Nat → Prop} {ex : Str → List (Str × D) → Nat → Prop} (hd : ∀ d ∈ xs, DoorIs n d) (hs : ∀ d ∈ ss, plainD d = true ∧ plainDs d = true) (hp : post (.fz (.bl (ss.all (isPass xs.length) && hangs xs r ss))) T) :
    G_lw5 (endsOf post ex) (lwSt n xs (.tup [.int r, b, .tup ss]) none none none T) := by
  refine ⟨trivial, _, rfl, ?_⟩
  have key : gFor (iSeq (dIxV 2 (dC (.int 2)))) (tgN 4) G_lw6 { endsOf post ex with nx := gRet (dC (.bl true)) (endsOf post ex) } (lwSt n xs (.tup [.int r, b, .tup ss]) (some (.fz (.int r))) none none T) := by
    refine gFor_inv (fun i s => ∃ r' v4, s = lwSt n xs (.tup [.int r, b, .tup ss]) (some (.fz (.int r'))) v4 none T ∧ (ss.all (isPass xs.length) && hangs xs r ss) = ((ss.drop i).all (isPass xs.length) && hangs xs r' (ss.drop i))) ss (fun P hP => ⟨trivial, _, rfl, _, rfl, hP _ ⟨r, none, rfl, rfl⟩⟩) ?_ ?_
    · rintro i st s hi ⟨r', v4, rfl, hh⟩ R hR
      obtain ⟨p1, p2⟩ := hs st (List.mem_of_getElem? hi)
      have ed : ss.drop i = st :: ss.drop (i + 1) := by
        obtain ⟨hl, e⟩ := List.getElem?_eq_some_iff.mp hi
        rw [List.drop_eq_getElem_cons hl, e]
      rw [ed, List.all_cons] at hh
      refine lw6 (E := { endsOf post ex with nx := R, ct := R, bk := gRet (dC (.bl true)) (endsOf post ex) }) hd p1 p2 (fun no => ?_) (fun a' b' yes er ne => ?_) (fun b' yes er => ?_)
      · rw [no, Bool.false_and, Bool.false_and] at hh
        rw [hh] at hp
        exact hp
      · rw [hangs_cons er, if_neg ne, Bool.and_false] at hh
        rw [hh] at hp
        exact hp
      · rw [hangs_cons er, if_pos rfl, yes, Bool.true_and] at hh
        exact hR _ ⟨b', _, rfl, hh⟩
    · rintro s ⟨r', v4, rfl, hh⟩
      rw [List.drop_length] at hh
      rw [hh] at hp
      exact hp
  exact key
theorem lw3 {n : Nat} {xs ps : List D} {a c : D} {v3 v4 : OS} {T : Nat} {P : D → DS → Prop} {ex : XD} (hp : ∀ d ∈ ps, plainD d = true) (hl : ps.length ≤ 10000) (h : ∀ js : List D, okD (.lst js) = true → js.isEmpty = ps.all isInt → P (.lst js) (lwSt n xs (.tup [a, .tup ps, c]) v3 v4 none T)) :
    F_lw3 (lwSt n xs (.tup [a, .tup ps, c]) v3 v4 none T) P ex := by
  refine dLc_inv (fun i acc s => s = lwSt n xs (.tup [a, .tup ps, c]) v3 v4 none T ∧ acc.length ≤ i ∧ (∀ d ∈ acc, d = D.int 1) ∧ acc.isEmpty = (ps.take i).all isInt) ps (fun Q hQ => ⟨trivial, _, rfl, _, rfl, hQ _ ⟨rfl, Nat.le_refl _, fun d hd => (by cases hd), rfl⟩⟩) ?_ ?_
  · rintro i d acc s hi ⟨rfl, hla, hacc, he⟩ R hR
    have hi2 := (List.getElem?_eq_some_iff.mp hi).1
    have et : (ps.take (i + 1)).all isInt = ((ps.take i).all isInt && isInt d) := by
      rw [take_succ_get hi, List.all_append, List.all_cons, List.all_nil, Bool.and_true]
    refine ⟨rfl, d, rfl, hp d (List.mem_of_getElem? hi), ?_⟩
    cases e : isInt d with
    | true => exact hR _ _ ⟨rfl, by omega, hacc, by rw [et, e, Bool.and_true]; exact he⟩
    | false =>
      refine ⟨by omega, hR _ _ ⟨rfl, ?_, fun x hx => ?_, ?_⟩⟩
      · rw [List.length_append]
        show acc.length + 1 ≤ i + 1
        omega
      · rcases List.mem_append.mp hx with h | h
        · exact hacc x h
        · exact List.mem_singleton.mp h
      · rw [et, e, Bool.and_false]
        simp
  · rintro acc s ⟨rfl, hla, hacc, he⟩
    rw [List.take_length] at he
    exact h acc (okD_of (n := 9) (by
      unfold okN
      refine okNs_iff.mpr fun d hd => ?_
      rw [hacc d hd]
      rfl)) he
def tailC (xs : List D) (r : Int) (m : Nat) : D → Bool
  | .tup ss => decide (m = ss.length + 1) && (ss.all (isPass xs.length) && hangs xs r ss)
  | _ => false
def tailB (xs : List D) (r : Int) (c : D) : D → Bool
  | .tup ps => ps.all isInt && tailC xs r ps.length c
  | _ => false
theorem isWalk3 (n : Nat) (xs : List D) (a b c : D) : isWalk n xs (.tup [a, b, c]) = (within a 0 ((n : Int) - 1) && tailB xs (intIn a) c b) := by
  cases b with
  | tup ps =>
    cases c with
    | tup ss =>
      show (within a 0 ((n : Int) - 1) && (decide (ps.length = ss.length + 1) && ps.all isInt) && (ss.all (isPass xs.length) && hangs xs (intIn a) ss)) = (within a 0 ((n : Int) - 1) && (ps.all isInt && (decide (ps.length = ss.length + 1) && (ss.all (isPass xs.length) && hangs xs (intIn a) ss))))
      cases within a 0 ((n : Int) - 1) <;> cases decide (ps.length = ss.length + 1) <;> cases ps.all isInt <;> rfl
    | _ =>
      show false = (within a 0 ((n : Int) - 1) && (ps.all isInt && false))
      cases within a 0 ((n : Int) - 1) <;> cases ps.all isInt <;> rfl
  | _ =>
    show false = (within a 0 ((n : Int) - 1) && false)
    cases within a 0 ((n : Int) - 1) <;> rfl
theorem lw4 {n : Nat} {xs ps : List D} {r : Int} {c : D} {T : Nat} {post : Sl → Nat → Prop} {ex : Str → List (Str × D) → Nat → Prop} (hd : ∀ d ∈ xs, DoorIs n d) (pc : plainD c = true) (hc : allSteps c = true) (hp : post (.fz (.bl (tailC xs r ps.length c))) T) :
    G_lw4 (endsOf post ex) (lwSt n xs (.tup [.int r, .tup ps, c]) none none none T) := by
  cases c with
  | tup ss =>
    have hs : ∀ d ∈ ss, plainD d = true ∧ plainDs d = true := fun d hd => Bool.and_eq_true_iff.mp (List.all_eq_true.mp hc d hd)
    refine ⟨trivial, _, rfl, "tuple", true, rfl, by decide +kernel, ?_⟩
    refine ⟨trivial, _, rfl, trivial, _, rfl, rfl, rfl, ?_⟩
    have hp : post (.fz (.bl (decide (ps.length = ss.length + 1) && (ss.all (isPass xs.length) && hangs xs r ss)))) T := hp
    have ee : PyData.eqv (py (D.int (ps.length : Nat))) (py (D.int ((ss.length : Nat) + 1))) = decide (ps.length = ss.length + 1) := by
      rw [eqv_int]
      exact decide_eq_decide.mpr (by omega)
    have key : (if (!decide (ps.length = ss.length + 1)) = true then post (.fz (.bl false)) T else G_lw5 (endsOf post ex) (lwSt n xs (.tup [.int r, .tup ps, .tup ss]) none none none T)) := by
      by_cases h : ps.length = ss.length + 1
      · rw [decide_eq_true h] at hp ⊢
        exact lw5 (a := 0) hd hs hp
      · rw [decide_eq_false h] at hp ⊢
        exact hp
    rw [← ee] at key
    exact key
  | obj _ _ => cases pc
  | exc _ _ => cases pc
  | st => cases pc
  | scr _ => cases pc
  | _ => exact ⟨trivial, _, rfl, _, false, rfl, by decide +kernel, hp⟩
theorem lw2 {n : Nat} {xs : List D} {a b c : D} {T : Nat} {post : Sl → Nat → Prop} {ex : Str → List (Str × D) → Nat → Prop} (hd : ∀ d ∈ xs, DoorIs n d) (pa : plainD a = true) (pb : plainD b = true) (pc : plainD c = true) (hb : allPlain b = true) (hc : allSteps c = true) (hp : post (.fz (.bl (within a 0 ((n : Int) - 1) && tailB xs (intIn a) c b))) T) (hz : ∀ ps, b = .tup ps → ps.length ≤ 10000) :
    G_lw2 (endsOf post ex) (lwSt n xs (.tup [a, b, c]) none none none T) := by
  refine ⟨trivial, _, rfl, rfl, a, rfl, pa, ?_⟩
  cases a with
  | int r =>
    refine ⟨trivial, _, rfl, ?_⟩
    have hp : post (.fz (.bl ((decide (0 ≤ r) && decide (r ≤ (n : Int) - 1)) && tailB xs r c b))) T := hp
    have key : (match D.bl (decide (0 ≤ r)) with
      | .bl true => (match D.bl (decide (r < (n : Int))) with | .bl k => (if (!k) = true then post (.fz (.bl false)) T else G_lw3 (endsOf post ex) (lwSt n xs (.tup [.int r, b, c]) none none none T)) | _ => False)
      | .bl false => post (.fz (.bl false)) T | _ => False) := by
      by_cases h0 : 0 ≤ r
      · rw [decide_eq_true h0] at hp ⊢
        by_cases h1 : r < (n : Int)
        · rw [decide_eq_true (show r ≤ (n : Int) - 1 from by omega), Bool.true_and, Bool.true_and] at hp
          rw [decide_eq_true h1]
          cases b with
          | tup ps =>
            refine ⟨trivial, _, rfl, "tuple", true, rfl, by decide +kernel, ?_⟩
            have k3 : F_lw3 (lwSt n xs (.tup [.int r, .tup ps, c]) none none none T) (fun x s1 => (dLst aNil) s1 (fun y s2 => dNe x y fun z => (match z with | .bl k => (if k = true then post (.fz (.bl false)) s2.T else G_lw4 (endsOf post ex) s2) | _ => False)) (endsOf post ex).ex) (endsOf post ex).ex := by
              refine lw3 (fun d hd => List.all_eq_true.mp hb d hd) (hz ps rfl) fun js ok he => ⟨nle rfl, ok, by decide +kernel, ?_⟩
              rw [eqv_nil, he]
              have hp : post (.fz (.bl (ps.all isInt && tailC xs r ps.length c))) T := hp
              cases e : ps.all isInt with
              | false =>
                rw [e] at hp
                exact hp
              | true =>
                rw [e, Bool.true_and] at hp
                exact lw4 hd pc hc hp
            exact k3
          | obj _ _ => cases pb
          | exc _ _ => cases pb
          | st => cases pb
          | scr _ => cases pb
          | _ => exact ⟨trivial, _, rfl, _, false, rfl, by decide +kernel, hp⟩
        · rw [decide_eq_false (show ¬ r ≤ (n : Int) - 1 from by omega), Bool.and_false, Bool.false_and] at hp
          rw [decide_eq_false h1]
          exact hp
      · rw [decide_eq_false h0, Bool.false_and, Bool.false_and] at hp
        rw [decide_eq_false h0]
        exact hp
    exact key
  | _ => exact hp
theorem m__law_is_walk : ∀ (ds : List D) T post ex, ds.length = 3 → S__law_is_walk ds T post ex → G__law_is_walk (endsOf post ex) (startD 6 ds T) := by
  rintro ds T post ex _ ⟨n, xs, d, rfl, hd, hx, ha, hln, hp⟩
  have pd := ask_plain ha.ask
  cases d with
  | tup ds =>
    refine ⟨"tuple", true, rfl, by decide +kernel, ?_⟩
    refine ⟨rfl, rfl, ?_⟩
    rw [eqv_int]
    by_cases h : ds.length = 3
    · rw [decide_eq_true (show ((ds.length : Nat) : Int) = 3 from by omega)]
      match ds, h, ha, hp, hln with
      | [a, b, c], _, ha, hp, hln =>
        have h1 : (plainD a && plainD b && plainD c && allPlain b && allSteps c) = true := ha.ask
        simp only [Bool.and_eq_true] at h1
        obtain ⟨⟨⟨⟨pa, pb⟩, pc⟩, hb⟩, hc⟩ := h1
        rw [isWalk3] at hp
        exact lw2 hd pa pb pc hb hc hp (fun ps e => hln a ps c (by rw [e]))
    · rw [decide_eq_false (show ¬ ((ds.length : Nat) : Int) = 3 from by omega)]
      have e : isWalk n xs (.tup ds) = false := by
        unfold isWalk
        split
        · rename_i z
          cases z
          exact absurd rfl h
        · rfl
      rw [e] at hp
      exact hp
  | obj _ _ => cases pd
  | exc _ _ => cases pd
  | st => cases pd
  | scr _ => cases pd
  | _ => exact ⟨_, false, rfl, by decide +kernel, hp⟩
end Law

set_option Elab.async false
set_option linter.all false
set_option maxRecDepth 100000
set_option maxHeartbeats 4000000
namespace Law
open PySem L2 DL
variable [Tb]
/-! ### k10: what there is to do -/
def shortI (d : D) : D := .tup [.str "short", d, .int 0]
def remN (xs : List D) (zs : List Int) (qs : List P2) (i : Nat) : Int := (zs.getD i 0).fmod (mag (lvN xs (qs.getD i (0, 0))))
def carT (xs : List D) (zs : List Int) (qs : List P2) (i : Nat) : Int := (zs.getD i 0 - remN xs zs qs i).fdiv (lvN xs (qs.getD i (0, 0)))
def carI (xs : List D) (zs : List Int) (qs : List P2) (i : Nat) : D := .tup [.str "carry", .int i, .int (carT xs zs qs i)]
def badTo (xs : List D) (zs : List Int) (qs : List P2) (m : Nat) : List D := ((List.range m).filter fun i => decide (remN xs zs qs i ≠ zs.getD i 0)).map (carI xs zs qs)
theorem badTo_succ (xs : List D) (zs : List Int) (qs : List P2) (m : Nat) : badTo xs zs qs (m + 1) = badTo xs zs qs m ++ (if remN xs zs qs m ≠ zs.getD m 0 then [carI xs zs qs m] else []) := by
  unfold badTo
  rw [List.range_succ, List.filter_append, List.map_append]
  congr 1
  by_cases h : remN xs zs qs m ≠ zs.getD m 0
  · have e : List.filter (fun i => decide (remN xs zs qs i ≠ zs.getD i 0)) [m] = [m] := by
      show (match decide (remN xs zs qs m ≠ zs.getD m 0) with | true => [m] | false => []) = [m]
      rw [decide_eq_true h]
    rw [if_pos h, e]
    rfl
  · have e : List.filter (fun i => decide (remN xs zs qs i ≠ zs.getD i 0)) [m] = [] := by
      show (match decide (remN xs zs qs m ≠ zs.getD m 0) with | true => [m] | false => []) = []
      rw [decide_eq_false h]
    rw [if_neg h, e]
    rfl
theorem badTo_len (xs : List D) (zs : List Int) (qs : List P2) (m : Nat) : (badTo xs zs qs m).length ≤ m := by
  unfold badTo
  rw [List.length_map]
  have := List.length_filter_le (fun i => decide (remN xs zs qs i ≠ zs.getD i 0)) (List.range m)
  rw [List.length_range] at this
  exact this
theorem getQ {qs : List P2} {i : Nat} {q : P2} (h : qs[i]? = some q) : qs.getD i (0, 0) = q := by
  rw [List.getD_eq_getElem?_getD, h]
  rfl
theorem rng_iff {n : Nat} {xs : List D} {zs : List Int} {qs : List P2} {i : Nat} {q : P2} (pq : Pas n xs q) (h : qs[i]? = some q) : remN xs zs qs i = zs.getD i 0 ↔ Rng xs zs q i := by
  unfold remN Rng
  rw [getQ h]
  have hm := mag_pos pq.size.1.1
  constructor
  · intro e
    have := fmod_rng (h := zs.getD i 0) hm
    rw [e] at this
    exact this
  · rintro ⟨a, b⟩
    exact fmod_self a b
noncomputable def todo (xs : List D) (zs : List Int) (qs : List P2) : List D := (spotsL xs zs qs).map shortI ++ badTo xs zs qs qs.length
def S__law_to_do : PF := fun ds T post _ => ∃ (n : Nat) (xs : List D) (r : Int) (zs : List Int) (qs : List P2) (e : Int), ds = [.tup xs, wkD r zs qs] ∧ Wk n xs r zs qs e ∧ post (.fz (.lst (todo xs zs qs))) T
def F_td0 : DF := (dLc [7] (iSeq (dCall S__law_pf_spots 2 (aCons (dVar 0) (aCons (dVar 1) aNil)))) (tgN 7) tAll (dTup (aCons (dC (.str "short")) (aCons (dVar 7) (aCons (dC (.int 0)) aNil)))))
def G_td2 : DG := (gIf (dTest (dOp dNe (dVar 6) (dOp dIx (dIxV 1 (dC (.int 1))) (dVar 3)))) (gApp 2 (dTup (aCons (dC (.str "carry")) (aCons (dVar 3) (aCons (dOp dFdiv (dOp dSub (dOp dIx (dIxV 1 (dC (.int 1))) (dVar 3)) (dVar 6)) (dVar 5)) aNil))))) gNil)
def G_td1 : DG := (gSeq (gSet 5 (dOp dIx (dCall S__law_gate 2 (aCons (dVar 0) (aCons (dVar 4) aNil))) (dC (.int 1))))
    (gSeq (gSet 6 (dOp dMod (dCB cInt (aCons (dOp dIx (dIxV 1 (dC (.int 1))) (dVar 3)) aNil)) (dCB cAbs (aCons (dVar 5) aNil))))
    G_td2))
def G_td0 : DG := (gSeq (gFor (iEnumT (dIxV 1 (dC (.int 2)))) (tgTup 2 (tgCons (tgN 3) (tgCons (tgN 4) tgNil))) G_td1)
    (gRet (dVar 2)))
def G__law_to_do : DG := (gSeq (gSetO 2 F_td0)
    G_td0)
def tdSt (xs : List D) (r : Int) (zs : List Int) (qs : List P2) (L : List D) (v3 v4 v5 v6 : OS) (T : Nat) : DS := ⟨[some (.fz (.tup xs)), some (.fz (wkD r zs qs)), some (.ow (.lst L)), v3, v4, v5, v6, none], T⟩
theorem td1 {n : Nat} {xs : List D} {r e : Int} {zs : List Int} {qs : List P2} {L : List D} {i : Nat} {q : P2} {v5 v6 : OS} {T : Nat} {E : DE} (hw : Wk n xs r zs qs e) (hq : qs[i]? = some q) (hL : L.length < 10000)
    (hn : ∀ v5 v6, E.nx (tdSt xs r zs qs (L ++ (if remN xs zs qs i ≠ zs.getD i 0 then [carI xs zs qs i] else [])) (some (.fz (.int i))) (some (.fz (stD q))) v5 v6 T)) :
    G_td1 E (tdSt xs r zs qs L (some (.fz (.int i))) (some (.fz (stD q))) v5 v6 T) := by
  have pq := hw.pa q (List.mem_of_getElem? hq)
  have hi := (List.getElem?_eq_some_iff.mp hq).1
  have hl := hw.ln
  have hm := mag_pos pq.size.1.1
  refine ⟨rfl, lgate_pas pq fun c d _ _ _ => ⟨_, rfl, ?_⟩⟩
  refine ⟨trivial, _, rfl, _, int_at (by omega), (show mag (lvN xs q) ≠ 0 from by omega), ?_⟩
  refine ⟨trivial, _, rfl, _, int_at (by omega), rfl, rfl, ?_⟩
  have er : (zs.getD i 0).fmod (mag (lvN xs q)) = remN xs zs qs i := by unfold remN; rw [getQ hq]
  have key : (if (!PyData.eqv (py (.int ((zs.getD i 0).fmod (mag (lvN xs q))))) (py (.int (zs.getD i 0)))) = true then (gApp 2 (dTup (aCons (dC (.str "carry")) (aCons (dVar 3) (aCons (dOp dFdiv (dOp dSub (dOp dIx (dIxV 1 (dC (.int 1))) (dVar 3)) (dVar 6)) (dVar 5)) aNil))))) E (tdSt xs r zs qs L (some (.fz (.int i))) (some (.fz (stD q))) (some (.fz (.int (lvN xs q)))) (some (.fz (.int ((zs.getD i 0).fmod (mag (lvN xs q)))))) T) else E.nx (tdSt xs r zs qs L (some (.fz (.int i))) (some (.fz (stD q))) (some (.fz (.int (lvN xs q)))) (some (.fz (.int ((zs.getD i 0).fmod (mag (lvN xs q)))))) T)) := by
    rw [eqv_int, er]
    have k := hn (some (.fz (.int (lvN xs q)))) (some (.fz (.int (remN xs zs qs i))))
    by_cases c : remN xs zs qs i = zs.getD i 0
    · rw [decide_eq_true c]
      rw [if_neg (fun z => z c), List.append_nil] at k
      exact k
    · rw [decide_eq_false c]
      rw [if_pos c] at k
      refine ⟨trivial, _, rfl, _, int_at (by omega), ⟨pq.size.1.1, ?_⟩, nle rfl, (show L.length < 100000 from by omega), ?_⟩
      · have := pq.size.1.2
        omega
      · unfold carI carT at k
        rw [getQ hq] at k
        exact k
  exact key
theorem m__law_to_do : ∀ (ds : List D) T post ex, ds.length = 2 → S__law_to_do ds T post ex → G__law_to_do (endsOf post ex) (startD 8 ds T) := by
  rintro ds T post ex _ ⟨n, xs, r, zs, qs, e, rfl, hw, hp⟩
  have hm := hw.mx
  have sl := spotsTo_len xs zs qs qs.length
  have sl2 : (spotsL xs zs qs).length ≤ qs.length := sl
  have loop : G_td0 (endsOf post ex) (tdSt xs r zs qs ((spotsL xs zs qs).map shortI) none none none none T) := by
    have zl : (zipD (rangeD 0 (qs.map stD).length) (qs.map stD)).length = qs.length := by rw [zipD_len, rangeD_len, Nat.min_self, List.length_map]
    refine gFor_inv (E := { endsOf post ex with nx := gRet (dVar 2) (endsOf post ex) }) (fun i s => ∃ v3 v4 v5 v6, s = tdSt xs r zs qs ((spotsL xs zs qs).map shortI ++ badTo xs zs qs i) v3 v4 v5 v6 T) (zipD (rangeD 0 (qs.map stD).length) (qs.map stD)) (fun P hP => ⟨trivial, _, rfl, hP _ ⟨none, none, none, none, by rw [show badTo xs zs qs 0 = [] from rfl, List.append_nil]⟩⟩) ?_ ?_
    · rintro i d s hi ⟨v3, v4, v5, v6, rfl⟩ R hR
      have hl : i < qs.length := by rw [← zl]; exact (List.getElem?_eq_some_iff.mp hi).1
      have hq : qs[i]? = some qs[i] := List.getElem?_eq_getElem hl
      have ed : d = .tup [.int i, stD qs[i]] := by
        have h1 : (rangeD 0 (qs.map stD).length)[i]? = some (.int i) := by
          unfold rangeD
          simp [hl]
        have h2 : (qs.map stD)[i]? = some (stD qs[i]) := by rw [List.getElem?_map, hq]; rfl
        rw [zipD_get h1 h2] at hi
        exact (Option.some.inj hi).symm
      subst ed
      have bl := badTo_len xs zs qs i
      refine ⟨rfl, td1 (E := { endsOf post ex with nx := R, ct := R, bk := gRet (dVar 2) (endsOf post ex) }) hw hq (by rw [List.length_append, List.length_map]; omega) fun v5 v6 => hR _ ⟨some (.fz (.int i)), some (.fz (stD qs[i])), v5, v6, ?_⟩⟩
      rw [badTo_succ, List.append_assoc]
      rfl
    · rintro s ⟨v3, v4, v5, v6, rfl⟩
      rw [zl]
      exact hp
  have key : F_td0 ⟨[some (.fz (.tup xs)), some (.fz (wkD r zs qs)), none, none, none, none, none, none], T⟩ (fun d s1 => G_td0 (endsOf post ex) (s1.put 2 (.ow d))) (endsOf post ex).ex := by
    refine lc_map (s0 := ⟨[some (.fz (.tup xs)), some (.fz (wkD r zs qs)), none, none, none, none, none, none], T⟩) shortI (spotsL xs zs qs) (by omega) (fun Q h => ⟨rfl, n, xs, r, zs, qs, e, rfl, hw, _, rfl, h _ rfl⟩) rfl (fun x hx R hR => ⟨nle rfl, hR _ rfl⟩) loop
  exact key
/-- nothing to do exactly if it is plain -/
theorem todo_nil {n : Nat} {xs : List D} {r e : Int} {zs : List Int} {qs : List P2} (hw : Wk n xs r zs qs e) (h : todo xs zs qs = []) : Plain xs zs qs := by
  unfold todo at h
  obtain ⟨h1, h2⟩ := List.append_eq_nil_iff.mp h
  have h3 := spotsL_nil.mp (List.map_eq_nil_iff.mp h1)
  intro i q hq
  refine ⟨(rng_iff (hw.pa q (List.mem_of_getElem? hq)) hq).mp ?_, h3 i q hq⟩
  refine Classical.byContradiction fun z => ?_
  have hi := (List.getElem?_eq_some_iff.mp hq).1
  have : carI xs zs qs i ∈ badTo xs zs qs qs.length := by
    unfold badTo
    exact List.mem_map.mpr ⟨i, List.mem_filter.mpr ⟨List.mem_range.mpr hi, decide_eq_true z⟩, rfl⟩
  rw [h2] at this
  cases this
/-- what is to be done: a shortening, or a carrying -/
theorem todo_mem {n : Nat} {xs : List D} {r e : Int} {zs : List Int} {qs : List P2} {d : D} (hw : Wk n xs r zs qs e) (h : d ∈ todo xs zs qs) : (∃ (i : Nat) (q : P2), d = shortI (.int i) ∧ qs[i]? = some q ∧ Spot xs zs qs q i) ∨ ∃ (i : Nat) (q : P2) (t : Int), d = .tup [.str "carry", .int i, .int t] ∧ qs[i]? = some q := by
  unfold todo at h
  rcases List.mem_append.mp h with h | h
  · obtain ⟨x, hx, rfl⟩ := List.mem_map.mp h
    obtain ⟨i, q, rfl, hq, hs⟩ := spotsL_mem hx
    exact .inl ⟨i, q, rfl, hq, hs⟩
  · unfold badTo at h
    obtain ⟨i, hi, rfl⟩ := List.mem_map.mp h
    have hl := List.mem_range.mp (List.mem_filter.mp hi).1
    exact .inr ⟨i, qs[i], _, rfl, List.getElem?_eq_getElem hl⟩
end Law

set_option Elab.async false
set_option linter.all false
set_option maxRecDepth 100000
set_option maxHeartbeats 4000000
namespace Law
open PySem L2 DL
variable [Tb]
/-! ### k10: done in any order -/
/-- how long it can last, once the first thing to do is done each time -/
def Lim (xs : List D) (zs : List Int) (qs : List P2) (k : Nat) : Prop := ∃ f : Nat, f ≤ qs.length ∧ (∀ j, j < f → remN xs zs qs j = zs.getD j 0) ∧ qs.length * qs.length / 4 + (qs.length - f) ≤ k
theorem lim_start {xs : List D} {zs : List Int} {qs : List P2} (h : qs.length ≤ 10) : Lim xs zs qs 35 := by
  refine ⟨0, Nat.zero_le _, fun j hj => absurd hj (by omega), ?_⟩
  have key : ∀ m : Nat, m ≤ 10 → m * m / 4 + (m - 0) ≤ 35 := by
    intro m hm
    have : m * m ≤ 10 * 10 := Nat.mul_le_mul hm hm
    omega
  exact key _ h
theorem lim_short {xs : List D} {zs zs' : List Int} {qs qs' : List P2} {k : Nat} (h : Lim xs zs qs k) (hq : qs'.length + 2 = qs.length) (hm : qs.length ≤ 10) : ∃ k', k' < k ∧ Lim xs zs' qs' k' := by
  obtain ⟨f, f0, _, hk⟩ := h
  refine ⟨qs'.length * qs'.length / 4 + (qs'.length - 0), ?_, 0, Nat.zero_le _, fun j hj => absurd hj (by omega), Nat.le_refl _⟩
  have key : ∀ m : Nat, m ≤ 8 → m * m / 4 + (m - 0) < (m + 2) * (m + 2) / 4 := by decide
  have := key qs'.length (by omega)
  rw [hq] at this
  omega
theorem car_before {xs : List D} {zs : List Int} {i j : Nat} {q : P2} {t : Int} (hj : j < i) (hi : i + 1 < zs.length) : (carZ xs zs i q t).getD j 0 = zs.getD j 0 := by
  unfold carZ
  have l : (zs.take i).length = i := by rw [List.length_take]; omega
  rw [List.append_assoc, List.getD_eq_getElem?_getD, List.getElem?_append_left (by omega), List.getElem?_take, if_pos hj, ← List.getD_eq_getElem?_getD]
theorem car_here {xs : List D} {zs : List Int} {i : Nat} {q : P2} {t : Int} (hi : i + 1 < zs.length) : (carZ xs zs i q t).getD i 0 = zs.getD i 0 - lvN xs q * t := by
  unfold carZ
  have l : (zs.take i).length = i := by rw [List.length_take]; omega
  rw [List.append_assoc, List.getD_eq_getElem?_getD, List.getElem?_append_right (by omega), l, Nat.sub_self]
  rfl
theorem lim_carry {n : Nat} {xs : List D} {r e : Int} {zs : List Int} {qs : List P2} {i k : Nat} {q : P2} (hw : Wk n xs r zs qs e) (hq : qs[i]? = some q) (h : Lim xs zs qs k) (hb : ∀ j, j < i → remN xs zs qs j = zs.getD j 0) (hi : remN xs zs qs i ≠ zs.getD i 0) : ∃ k', k' < k ∧ Lim xs (carZ xs zs i q (carT xs zs qs i)) qs k' := by
  have pq := hw.pa q (List.mem_of_getElem? hq)
  have hil := (List.getElem?_eq_some_iff.mp hq).1
  have hl := hw.ln
  obtain ⟨f, f0, hf, hk⟩ := h
  have fi : f ≤ i := Classical.byContradiction fun z => hi (hf i (by omega))
  refine ⟨qs.length * qs.length / 4 + (qs.length - (i + 1)), by omega, i + 1, by omega, fun j hj => ?_, Nat.le_refl _⟩
  by_cases c : j < i
  · have e1 := car_before (xs := xs) (q := q) (t := carT xs zs qs i) c (show i + 1 < zs.length from by omega)
    unfold remN
    rw [e1]
    exact hb j c
  · have ej : j = i := by omega
    subst ej
    have e1 := car_here (xs := xs) (q := q) (t := carT xs zs qs j) (show j + 1 < zs.length from by omega)
    have b0 := pq.size.1.1
    have hm := mag_pos b0
    have e2 : zs.getD j 0 - lvN xs q * carT xs zs qs j = remN xs zs qs j := by
      have h3 := fmod_split (h := zs.getD j 0) b0
      unfold carT remN
      rw [getQ hq, h3]
      omega
    unfold remN
    rw [e1, e2]
    unfold remN
    rw [getQ hq]
    have := fmod_rng (h := zs.getD j 0) hm
    exact fmod_self this.1 this.2
/-- the first thing to do, if there is one -/
theorem todo_first {n : Nat} {xs : List D} {r e : Int} {zs : List Int} {qs : List P2} {d : D} {ds : List D} (hw : Wk n xs r zs qs e) (h : todo xs zs qs = d :: ds) : (∃ (i : Nat) (q : P2), d = shortI (.int i) ∧ qs[i]? = some q ∧ Spot xs zs qs q i) ∨ ∃ (i : Nat) (q : P2), d = carI xs zs qs i ∧ qs[i]? = some q ∧ (∀ j, j < i → remN xs zs qs j = zs.getD j 0) ∧ remN xs zs qs i ≠ zs.getD i 0 := by
  unfold todo at h
  cases hs : spotsL xs zs qs with
  | cons x rest =>
    rw [hs] at h
    have e1 : d = shortI x := (List.cons.inj h).1.symm
    obtain ⟨i, q, ex, hq, sp⟩ := spotsL_mem (show x ∈ spotsL xs zs qs from by rw [hs]; exact List.mem_cons_self)
    exact .inl ⟨i, q, by rw [e1, ex], hq, sp⟩
  | nil =>
    rw [hs] at h
    have h : badTo xs zs qs qs.length = d :: ds := h
    have key : ∀ m, m ≤ qs.length → (badTo xs zs qs m = [] ∧ ∀ j, j < m → remN xs zs qs j = zs.getD j 0) ∨ ∃ i, i < m ∧ (∃ rest, badTo xs zs qs m = carI xs zs qs i :: rest) ∧ (∀ j, j < i → remN xs zs qs j = zs.getD j 0) ∧ remN xs zs qs i ≠ zs.getD i 0 := by
      intro m
      induction m with
      | zero => exact fun _ => .inl ⟨rfl, fun j hj => absurd hj (by omega)⟩
      | succ m ih =>
        intro hm
        rw [badTo_succ]
        rcases ih (by omega) with ⟨h1, h2⟩ | ⟨i, h1, ⟨rest, h2⟩, h3⟩
        · rw [h1]
          by_cases c : remN xs zs qs m ≠ zs.getD m 0
          · rw [if_pos c]
            exact .inr ⟨m, by omega, ⟨[], rfl⟩, h2, c⟩
          · rw [if_neg c]
            refine .inl ⟨rfl, fun j hj => ?_⟩
            by_cases z : j = m
            · subst z
              exact Classical.byContradiction c
            · exact h2 j (by omega)
        · exact .inr ⟨i, by omega, ⟨_, by rw [h2]; rfl⟩, h3⟩
    rcases key qs.length (Nat.le_refl _) with ⟨h1, _⟩ | ⟨i, h1, ⟨rest, h2⟩, h3, h4⟩
    · rw [h1] at h
      cases h
    · rw [h2] at h
      exact .inr ⟨i, qs[i], (List.cons.inj h).1.symm, List.getElem?_eq_getElem h1, h3, h4⟩
def S__law_done : PF := fun ds T post _ => ∃ (n : Nat) (xs : List D) (r : Int) (zs : List Int) (qs : List P2) (e : Int), ds = [.st, houseD n xs, .tup xs, wkD r zs qs] ∧ (∀ d ∈ xs, DoorIs n d) ∧ xs.length ≤ 1000 ∧ Wk n xs r zs qs e ∧ qs.length ≤ 10 ∧ T + 200 ≤ TM ∧
  ∀ (m : Int) T', 2 * m = (qs.length : Int) - ((redK xs zs qs).length : Nat) → T ≤ T' → T' ≤ T + 120 → post (.fz (.tup [wkD r (redZ xs zs qs) (redK xs zs qs), .int m])) T'
def G_dn1 : DG := (gIf (tNotD (dTest (dCall S__law_is_walk 3 (aCons (dVar 2) (aCons (dFld "House" "rooms" (dVar 1)) (aCons (dVar 3) aNil)))))) (gRet (dTup (aCons (dC .non) (aCons (dVar 4) aNil)))) gNil)
def G_dnS : DG := (gSeq (gSet 3 (dCall S_shortened 3 (aCons (dVar 1) (aCons (dVar 3) (aCons (dVar 8) aNil)))))
    (gSet 4 (dOp dAdd (dVar 4) (dC (.int 1)))))
def G_dnC : DG := (gSet 3 (dCall S_carried 4 (aCons (dVar 1) (aCons (dVar 3) (aCons (dVar 8) (aCons (dVar 9) aNil))))))
def G_dn2 : DG := (gSeq (gIf (dTest (dOp dEq (dVar 7) (dC (.str "short")))) G_dnS G_dnC)
    G_dn1)
def G_dn3 : DG := (gSeq (gUnp (tgTup 3 (tgCons (tgN 7) (tgCons (tgN 8) (tgCons (tgN 9) tgNil)))) (dIfE (dTest (dOp (dCmpI fun i j => decide (i < j)) (dVar 5) (dC (.int 60)))) (dCall S__law_pick 2 (aCons (dVar 0) (aCons (dVar 6) aNil))) (dIxV 6 (dC (.int 0)))))
    G_dn2)
def G_dn4 : DG := (gSeq (gSet 6 (dCall S__law_to_do 2 (aCons (dVar 2) (aCons (dVar 3) aNil))))
    (gSeq (gIf (dTest (dOp dEq (dVar 6) (dLst aNil))) (gRet (dTup (aCons (dVar 3) (aCons (dVar 4) aNil)))) gNil)
    G_dn3))
def G_dn0 : DG := (gRet (dTup (aCons (dC .non) (aCons (dVar 4) aNil))))
def G__law_done : DG := (gSeq (gSet 4 (dC (.int 0)))
    (gSeq (gFor (iRng1D (dC (.int 120))) (tgN 5) G_dn4)
    G_dn0))
def dnSt (n : Nat) (xs : List D) (r : Int) (zs : List Int) (qs : List P2) (m : Int) (v5 v6 v7 v8 v9 : OS) (T : Nat) : DS := ⟨[some (.fz .st), some (.fz (houseD n xs)), some (.fz (.tup xs)), some (.fz (wkD r zs qs)), some (.fz (.int m)), v5, v6, v7, v8, v9], T⟩
theorem wk_len3 {n : Nat} {xs : List D} {r e : Int} {zs : List Int} {qs : List P2} (hw : Wk n xs r zs qs e) : ∀ a ps c, wkD r zs qs = .tup [a, .tup ps, c] → ps.length ≤ 10000 := fun a ps c h => by
  have h1 := hw.ln
  have h2 := hw.mx
  unfold wkD walkD at h
  cases h
  rw [List.length_map]
  omega
theorem dn1 {n : Nat} {xs : List D} {r e m : Int} {zs : List Int} {qs : List P2} {v5 v6 v7 v8 v9 : OS} {T : Nat} {E : DE} (hd : ∀ d ∈ xs, DoorIs n d) (hx : xs.length ≤ 1000) (hw : Wk n xs r zs qs e) (hn : E.nx (dnSt n xs r zs qs m v5 v6 v7 v8 v9 T)) : G_dn1 E (dnSt n xs r zs qs m v5 v6 v7 v8 v9 T) := by
  refine ⟨rfl, _, look_rooms, rfl, n, xs, _, rfl, hd, hx, hw.askW, wk_len3 hw, ?_⟩
  rw [hw.is]
  exact hn
/-- one thing done -/
theorem dn2 {n : Nat} {xs : List D} {r e m : Int} {zs : List Int} {qs : List P2} {d : D} {v5 v6 : OS} {T : Nat} {E : DE} (hd : ∀ d ∈ xs, DoorIs n d) (hx : xs.length ≤ 1000) (hw : Wk n xs r zs qs e)
    (hs : ∀ (i : Nat) (q : P2) v7 v8 v9, d = shortI (.int i) → qs[i]? = some q → Spot xs zs qs q i → E.nx (dnSt n xs r (shoZ xs zs i q) (canQ qs i) (m + 1) v5 v6 v7 v8 v9 T))
    (hc : ∀ (i : Nat) (q : P2) (t : Int) v7 v8 v9, d = .tup [.str "carry", .int i, .int t] → qs[i]? = some q → E.nx (dnSt n xs r (carZ xs zs i q t) qs m v5 v6 v7 v8 v9 T))
    (h : (∃ (i : Nat) (q : P2), d = shortI (.int i) ∧ qs[i]? = some q ∧ Spot xs zs qs q i) ∨ ∃ (i : Nat) (q : P2) (t : Int), d = .tup [.str "carry", .int i, .int t] ∧ qs[i]? = some q) :
    ∃ a b c, d = .tup [a, b, c] ∧ G_dn2 E (dnSt n xs r zs qs m v5 v6 (some (.fz a)) (some (.fz b)) (some (.fz c)) T) := by
  rcases h with ⟨i, q, rfl, hq, sp⟩ | ⟨i, q, t, rfl, hq⟩
  · refine ⟨_, _, _, rfl, ?_⟩
    refine ⟨ok_str (by decide +kernel), ok_str (by decide +kernel), ?_⟩
    rw [show PyData.eqv (py (.str "short")) (py (.str "short")) = true from by decide +kernel]
    refine ⟨rfl, n, xs, _, _, rfl, hd, hx, hw.askW, .inr ⟨r, zs, qs, e, rfl, hw, rfl, .inr ⟨i, q, rfl, hq, sp, ?_⟩⟩⟩
    exact dn1 hd hx (sho_led hw hq sp).wk (hs i q _ _ _ rfl hq sp)
  · refine ⟨_, _, _, rfl, ?_⟩
    refine ⟨ok_str (by decide +kernel), ok_str (by decide +kernel), ?_⟩
    rw [show PyData.eqv (py (.str "carry")) (py (.str "short")) = false from by decide +kernel]
    refine ⟨rfl, n, xs, _, _, _, rfl, hd, hx, hw.askW, .inr ⟨r, zs, qs, e, rfl, hw, rfl, .inr ⟨i, q, rfl, hq, rfl, .inr ⟨t, rfl, ?_⟩⟩⟩⟩
    exact dn1 hd hx (car_wk hw hq t) (hc i q t _ _ _ rfl hq)
theorem can_len {qs : List P2} {i : Nat} (h : i + 1 < qs.length) : (canQ qs i).length + 2 = qs.length := by
  unfold canQ
  rw [List.length_append, List.length_take, List.length_drop]
  omega
theorem okN_todo {n : Nat} {xs : List D} {r e : Int} {zs : List Int} {qs : List P2} (hw : Wk n xs r zs qs e) : okD (.lst (todo xs zs qs)) = true := okD_of (n := 9) (by
  unfold okN
  refine okNs_iff.mpr fun d hd => ?_
  have hs : PyData.strOk "short" = true := by decide +kernel
  have hc : PyData.strOk "carry" = true := by decide +kernel
  rcases todo_mem hw hd with ⟨i, q, rfl, _⟩ | ⟨i, q, t, rfl, _⟩
  · show (PyData.strOk "short" && true) = true
    rw [hs]
    rfl
  · show (PyData.strOk "carry" && true) = true
    rw [hc]
    rfl)
theorem todo_len {xs : List D} {zs : List Int} {qs : List P2} : (todo xs zs qs).length ≤ 2 * qs.length := by
  unfold todo
  rw [List.length_append, List.length_map]
  have h1 := spotsTo_len xs zs qs qs.length
  have h2 := badTo_len xs zs qs qs.length
  have h3 : (spotsL xs zs qs).length ≤ qs.length := h1
  omega
theorem m__law_done : ∀ (ds : List D) T post ex, ds.length = 4 → S__law_done ds T post ex → G__law_done (endsOf post ex) (startD 10 ds T) := by
  rintro ds T post ex _ ⟨n, xs, r, zs, qs, e, rfl, hd, hx, hw, hq10, hT, hp⟩
  show gFor (iRng1D (dC (.int 120))) (tgN 5) G_dn4 { endsOf post ex with nx := G_dn0 (endsOf post ex) } (dnSt n xs r zs qs 0 none none none none none T)
  refine gFor_inv (fun i s => ∃ zs' qs' m v5 v6 v7 v8 v9 T', s = dnSt n xs r zs' qs' m v5 v6 v7 v8 v9 T' ∧ Led n xs r e zs qs zs' qs' ∧ (qs.length : Int) = (qs'.length : Int) + 2 * m ∧ qs'.length ≤ 10 ∧ T ≤ T' ∧ T' ≤ T + i ∧ (60 ≤ i → ∃ k, Lim xs zs' qs' k ∧ k + (i - 60) ≤ 35)) (rangeD 0 120) (fun P hP => ⟨by decide, by decide, hP _ ⟨zs, qs, 0, none, none, none, none, none, T, rfl, .refl hw, by omega, hq10, Nat.le_refl _, Nat.le_refl _, fun z => absurd z (by decide)⟩⟩) ?_ ?_
  · rintro i d s hi ⟨zs', qs', m, v5, v6, v7, v8, v9, T', rfl, hL, hm, hl, t0, t1, hk⟩ R hR
    obtain ⟨rfl, hi2⟩ := rangeD_get hi
    rw [Int.zero_add]
    have hw' := hL.wk
    have hE : ∃ E : DE, E = { endsOf post ex with nx := R, ct := R, bk := G_dn0 (endsOf post ex) } := ⟨_, rfl⟩
    obtain ⟨E, hE⟩ := hE
    rw [← hE]
    have ert : E.rt = (endsOf post ex).rt := by rw [hE]
    have enx : E.nx = R := by rw [hE]
    -- one thing done, in both halves
    have step : ∀ (d : D) T2, d ∈ todo xs zs' qs' → (i < 60 ∨ ∃ ds, todo xs zs' qs' = d :: ds) → T' ≤ T2 → T2 ≤ T' + 1 → ∃ a b c, d = .tup [a, b, c] ∧ ∀ v6, G_dn2 E (dnSt n xs r zs' qs' m (some (.fz (.int i))) v6 (some (.fz a)) (some (.fz b)) (some (.fz c)) T2) := by
      intro d T2 hmem hor a0 a1
      have h3 : (∃ a b c, d = D.tup [a, b, c]) := by
        rcases todo_mem hw' hmem with ⟨i, q, rfl, _⟩ | ⟨i, q, t, rfl, _⟩ <;> exact ⟨_, _, _, rfl⟩
      obtain ⟨a, b, c, rfl⟩ := h3
      refine ⟨a, b, c, rfl, fun v6 => ?_⟩
      obtain ⟨a', b', c', e3, g⟩ := dn2 (m := m) (v5 := some (.fz (.int i))) (v6 := v6) (T := T2) (E := E) hd hx hw' (fun i' q' v7 v8 v9 ed hq' sp => by
        rw [enx]
        have ql := can_len (List.getElem?_eq_some_iff.mp sp.1).1
        refine hR _ ⟨_, _, m + 1, _, v6, v7, v8, v9, T2, rfl, hL.trans (sho_led hw' hq' sp), by omega, by omega, by omega, by omega, fun z => ?_⟩
        by_cases c60 : 60 ≤ i
        · obtain ⟨k, hk1, hk2⟩ := hk c60
          obtain ⟨k', lt, hk'⟩ := lim_short (zs' := shoZ xs zs' i' q') hk1 ql hl
          exact ⟨k', hk', by omega⟩
        · exact ⟨35, lim_start (by omega), by omega⟩) (fun i' q' t v7 v8 v9 ed hq' => by
        rw [enx]
        refine hR _ ⟨_, _, m, _, v6, v7, v8, v9, T2, rfl, hL.trans ⟨car_wk hw' hq' t, fun Z _ => car_run hw' hq' t Z⟩, hm, hl, by omega, by omega, fun z => ?_⟩
        by_cases c60 : 60 ≤ i
        · obtain ⟨k, hk1, hk2⟩ := hk c60
          obtain ⟨ds, hds⟩ := hor.resolve_left (by omega)
          rcases todo_first hw' hds with ⟨i2, q2, ed2, _⟩ | ⟨i2, q2, ed2, hq2, hb, hbi⟩
          · rw [ed] at ed2
            have := D.tup.inj ed2
            have := (List.cons.inj this).1
            exact absurd (D.str.inj this) (by decide +kernel)
          · rw [ed] at ed2
            have z1 := D.tup.inj ed2
            have z2 := (List.cons.inj (List.cons.inj z1).2)
            have z3 : i' = i2 := by
              have := D.int.inj z2.1
              omega
            have z4 : t = carT xs zs' qs' i2 := D.int.inj (List.cons.inj z2.2).1
            subst z3
            rw [hq'] at hq2
            cases hq2
            rw [z4]
            obtain ⟨k', lt, hk'⟩ := lim_carry hw' hq' hk1 hb hbi
            exact ⟨k', hk', by omega⟩
        · exact ⟨35, lim_start hl, by omega⟩) (todo_mem hw' hmem)
      cases e3
      exact g
    refine ⟨rfl, n, xs, r, zs', qs', e, rfl, hw', ?_⟩
    refine ⟨nle rfl, okN_todo hw', by decide +kernel, ?_⟩
    have key : (if PyData.eqv (py (.lst (todo xs zs' qs'))) (py (.lst [])) = true then gRet (dTup (aCons (dVar 3) (aCons (dVar 4) aNil))) E (dnSt n xs r zs' qs' m (some (.fz (.int i))) (some (.fz (.lst (todo xs zs' qs')))) v7 v8 v9 T') else G_dn3 E (dnSt n xs r zs' qs' m (some (.fz (.int i))) (some (.fz (.lst (todo xs zs' qs')))) v7 v8 v9 T')) := by
      rw [eqv_nil]
      cases htd : todo xs zs' qs' with
      | nil =>
        have hP := todo_nil hw' htd
        obtain ⟨e1, e2⟩ := red_stays hw' hP
        obtain ⟨e3, e4⟩ := red_eq.mpr (hL.red hw)
        have ez : zs' = redZ xs zs qs := e1.symm.trans e3
        have eq : qs' = redK xs zs qs := e2.symm.trans e4
        refine ⟨nle rfl, ?_⟩
        show E.rt (.fz (.tup [wkD r zs' qs', .int m])) T'
        rw [ert, ez, eq]
        refine hp m T' ?_ t0 (by omega)
        rw [← eq]
        omega
      | cons d ds =>
        have hmem : ∀ x ∈ d :: ds, x ∈ todo xs zs' qs' := fun x hx => by rw [htd]; exact hx
        have tl := todo_len (xs := xs) (zs := zs') (qs := qs')
        rw [htd] at tl
        have k3 : (if decide ((i : Int) < 60) = true then (dCall S__law_pick 2 (aCons (dVar 0) (aCons (dVar 6) aNil))) (dnSt n xs r zs' qs' m (some (.fz (.int i))) (some (.fz (.lst (d :: ds)))) v7 v8 v9 T') (fun x s1 => tgTup 3 (tgCons (tgN 7) (tgCons (tgN 8) (tgCons (tgN 9) tgNil))) x s1 (G_dn2 E)) E.ex else (dIxV 6 (dC (.int 0))) (dnSt n xs r zs' qs' m (some (.fz (.int i))) (some (.fz (.lst (d :: ds)))) v7 v8 v9 T') (fun x s1 => tgTup 3 (tgCons (tgN 7) (tgCons (tgN 8) (tgCons (tgN 9) tgNil))) x s1 (G_dn2 E)) E.ex) := by
          by_cases c60 : (i : Int) < 60
          · rw [decide_eq_true c60]
            refine ⟨rfl, .lst (d :: ds), d :: ds, rfl, .inl rfl, (by simp), (by omega), (show T' < TM from by omega), fun x hx => ?_⟩
            obtain ⟨a, b, c, rfl, g⟩ := step x (T' + 1) (hmem x hx) (.inl (by omega)) (by omega) (by omega)
            exact ⟨rfl, g _⟩
          · rw [decide_eq_false c60]
            obtain ⟨a, b, c, rfl, g⟩ := step d T' (hmem d List.mem_cons_self) (.inr ⟨ds, htd⟩) (by omega) (by omega)
            exact ⟨trivial, _, at0, rfl, g _⟩
        exact k3
    exact key
  · rintro s ⟨zs', qs', m, v5, v6, v7, v8, v9, T', rfl, hL, hm, hl, t0, t1, hk⟩
    obtain ⟨k, _, hk2⟩ := hk (by rw [rangeD_len]; decide)
    rw [rangeD_len] at hk2
    omega
end Law

set_option Elab.async false
set_option linter.all false
set_option maxRecDepth 100000
set_option maxHeartbeats 4000000
namespace Law
open PySem L2 DL
variable [Tb]
theorem red_len {n : Nat} {xs : List D} {r e : Int} {zs : List Int} {qs : List P2} (hw : Wk n xs r zs qs e) : (redK xs zs qs).length ≤ qs.length := (red_inv hw qs.length (Nat.le_refl _)).mx
/-- a walk and then another one backwards is nothing exactly if they are one -/
theorem one_back {n : Nat} {xs : List D} {r r2 e f : Int} {zs ys : List Int} {qs ps : List P2} (h : Wk n xs r zs qs e) (k : Wk n xs r2 ys ps f) : redF xs (joinZ zs (backZ ys)) (qs ++ backQ ps) = Z0 ↔ redF xs zs qs = redF xs ys ps := by
  have kb := back_wk k
  have l : (joinZ zs (backZ ys)).length = (qs ++ backQ ps).length + 1 := by
    have := join_len h.ne kb.ne
    have h1 := h.ln
    have h2 := kb.ln
    rw [List.length_append]
    omega
  rw [redF_run l, join_run h.ln kb.ne, redF_run h.ln, redF_run k.ln]
  have gz := Gd.zero n xs
  constructor
  · intro z
    have g1 := Gd.run qs zs Z0 gz h.pa
    have u := run_undo (backQ ps) (backZ ys) (runZ xs Z0 zs qs) g1 kb.ln kb.pa
    rw [z, backZ_back, backQ_back] at u
    exact u.symm
  · intro z
    rw [z]
    exact run_undo ps ys Z0 gz k.ln k.pa
def S__law_one_right : PF := fun ds T post _ => ∃ (n : Nat) (xs : List D) (r e f : Int) (zs ys : List Int) (qs ps : List P2), ds = [houseD n xs, .tup xs, wkD r zs qs, wkD r ys ps] ∧ (∀ d ∈ xs, DoorIs n d) ∧ xs.length ≤ 1000 ∧ Wk n xs r zs qs e ∧ Wk n xs r ys ps f ∧ qs.length ≤ 100 ∧ ps.length ≤ 100 ∧ post (.fz (.bl true)) T
def G_or0 : DG := (gRet (dAnd (dOp (dCmpI fun i j => decide (i ≤ j)) (dCB cLen (aCons (dIxV 4 (dC (.int 2))) aNil)) (dCB cLen (aCons (dIxV 2 (dC (.int 2))) aNil))) (dOp (dCmpI fun i j => decide (i ≤ j)) (dCB cLen (aCons (dIxV 5 (dC (.int 2))) aNil)) (dCB cLen (aCons (dIxV 3 (dC (.int 2))) aNil)))))
def G_or1i : DG := (gSeq (gSet 6 (dCall S__law_joined 2 (aCons (dVar 2) (aCons (dCall S__law_back 2 (aCons (dVar 1) (aCons (dVar 3) aNil))) aNil))))
    (gIf (tNotD (dTest (dCall S__law_is_truth 2 (aCons (dCall S_is_nothing 2 (aCons (dVar 0) (aCons (dVar 6) aNil))) (aCons (dOp dEq (dVar 4) (dVar 5)) aNil))))) (gRet (dC (.bl false))) gNil))
def G_or1 : DG := (gSeq (gIf (tAndD (dTest (dOp dEq (dCall S__law_end 2 (aCons (dVar 1) (aCons (dVar 2) aNil))) (dCall S__law_end 2 (aCons (dVar 1) (aCons (dVar 3) aNil))))) (dTest (dOp dEq (dIxV 2 (dC (.int 0))) (dIxV 3 (dC (.int 0)))))) G_or1i gNil)
    G_or0)
def G_or2 : DG := (gSeq (gIf (tOrD (dTest (dOp dNe (dCall S_plain_form 2 (aCons (dVar 0) (aCons (dVar 2) aNil))) (dVar 4))) (dTest (dOp dNe (dCall S_plain_form 2 (aCons (dVar 0) (aCons (dVar 3) aNil))) (dVar 5)))) (gRet (dC (.bl false))) gNil)
    G_or1)
def G_or3 : DG := (gSeq (gIf (tNotD (dTest (dCall S__law_is_truth 2 (aCons (dCall S_are_one 3 (aCons (dVar 0) (aCons (dVar 3) (aCons (dVar 2) aNil)))) (aCons (dOp dEq (dVar 4) (dVar 5)) aNil))))) (gRet (dC (.bl false))) gNil)
    G_or2)
def G_or4 : DG := (gSeq (gIf (tNotD (dTest (dCall S__law_is_truth 2 (aCons (dCallK S_are_one 3 [2, 1, 0] (aCons (dVar 3) (aCons (dVar 2) (aCons (dVar 0) aNil)))) (aCons (dOp dEq (dVar 4) (dVar 5)) aNil))))) (gRet (dC (.bl false))) gNil)
    G_or3)
def G__law_one_right : DG := (gSeq (gPar 4 5 (aCons (dCall S__law_plain 2 (aCons (dVar 1) (aCons (dVar 2) aNil))) (aCons (dCall S__law_plain 2 (aCons (dVar 1) (aCons (dVar 3) aNil))) aNil)))
    G_or4)
noncomputable def rdD (xs : List D) (r : Int) (zs : List Int) (qs : List P2) : D := wkD r (redZ xs zs qs) (redK xs zs qs)
noncomputable def orSt (n : Nat) (xs : List D) (r : Int) (zs ys : List Int) (qs ps : List P2) (v6 : Option Sl) (T : Nat) : DS := ⟨[some (.fz (houseD n xs)), some (.fz (.tup xs)), some (.fz (wkD r zs qs)), some (.fz (wkD r ys ps)), some (.fz (rdD xs r zs qs)), some (.fz (rdD xs r ys ps)), v6], T⟩
theorem ok_rd (xs : List D) (r : Int) (zs : List Int) (qs : List P2) : okD (rdD xs r zs qs) = true := ok_wk _ _ _
theorem eqv_rd (xs : List D) (r r2 : Int) (zs ys : List Int) (qs ps : List P2) : PyData.eqv (py (rdD xs r zs qs)) (py (rdD xs r2 ys ps)) = decide (r = r2 ∧ redF xs zs qs = redF xs ys ps) := by
  unfold rdD
  rw [eqv_wkB]
  exact decide_eq_decide.mpr (and_congr Iff.rfl red_eq)
theorem eqv_same {d : D} (h : okD d = true) : PyData.eqv (py d) (py d) = true := by
  have := (Bool.and_eq_true_iff.mp h).2
  exact SeqAt.eqv_refl _ (SeqAt.canLay_of_shaped this)
theorem truth {a b : Bool} {T : Nat} {post : Sl → Nat → Prop} {ex : Str → List (Str × D) → Nat → Prop} (e : a = b) (hp : post (.fz (.bl true)) T) : S__law_is_truth [.bl a, .bl b] T post ex := by
  subst e
  refine ⟨a, a, rfl, ?_⟩
  rw [beq_self_eq_true]
  exact hp
theorem m__law_one_right : ∀ (ds : List D) T post ex, ds.length = 4 → S__law_one_right ds T post ex → G__law_one_right (endsOf post ex) (startD 7 ds T) := by
  rintro ds T post ex _ ⟨n, xs, r, e, f, zs, ys, qs, ps, rfl, hd, hx, hw, hw2, hq, hq2, hp⟩
  have r0 : ∀ v6, G_or0 (endsOf post ex) (orSt n xs r zs ys qs ps v6 T) := by
    intro v6
    have l1 := red_len hw
    have l2 := red_len hw2
    refine ⟨trivial, _, rfl, trivial, _, rfl, ?_⟩
    show (match D.bl (decide ((((redK xs zs qs).map stD).length : Nat) ≤ (((qs.map stD).length : Nat) : Int))) with | .bl true => (dOp (dCmpI fun i j => decide (i ≤ j)) (dCB cLen (aCons (dIxV 5 (dC (.int 2))) aNil)) (dCB cLen (aCons (dIxV 3 (dC (.int 2))) aNil))) (orSt n xs r zs ys qs ps v6 T) (fun z s => post (.fz z) s.T) (endsOf post ex).ex | .bl false => post (.fz (.bl false)) T | _ => False)
    rw [List.length_map, List.length_map, decide_eq_true (by omega)]
    refine ⟨trivial, _, rfl, trivial, _, rfl, ?_⟩
    show post (.fz (.bl (decide ((((redK xs ys ps).map stD).length : Nat) ≤ (((ps.map stD).length : Nat) : Int))))) T
    rw [List.length_map, List.length_map, decide_eq_true (by omega)]
    exact hp
  have r1 : G_or1 (endsOf post ex) (orSt n xs r zs ys qs ps none T) := by
    refine ⟨rfl, s_end hd hw ⟨rfl, s_end hd hw2 ⟨rfl, rfl, ?_⟩⟩⟩
    have ee : PyData.eqv (py (Sl.fz (D.int e)).d) (py (Sl.fz (D.int f)).d) = decide (e = f) := eqv_int e f
    rw [ee]
    by_cases c : e = f
    · subst c
      rw [decide_eq_true rfl]
      refine ⟨trivial, _, rfl, trivial, _, rfl, rfl, rfl, ?_⟩
      have e2 : PyData.eqv (py (D.int r)) (py (D.int r)) = true := by rw [eqv_int, decide_eq_true rfl]
      rw [e2]
      refine ⟨rfl, s_law_back hd hw2 ⟨rfl, s_law_joined hw (back_wk hw2) ?_⟩⟩
      have bl : (backQ ps).length = ps.length := by unfold backQ; simp
      have wj := join_wk hw (back_wk hw2) (by omega)
      refine ⟨rfl, n, xs, _, rfl, hd, hx, wj.askW, .inr ⟨r, _, _, _, rfl, wj, ?_⟩⟩
      refine ⟨ok_rd _ _ _ _, ok_rd _ _ _ _, rfl, truth ?_ ?_⟩
      · rw [eqv_rd]
        refine decide_eq_decide.mpr ?_
        rw [one_back hw hw2]
        exact ⟨fun z => ⟨rfl, z⟩, fun z => z.2⟩
      · exact r0 _
    · rw [decide_eq_false c]
      exact r0 _
  have r2 : G_or2 (endsOf post ex) (orSt n xs r zs ys qs ps none T) := by
    refine ⟨rfl, n, xs, r, zs, qs, e, rfl, hd, hx, hw, ok_rd _ _ _ _, ok_rd _ _ _ _, ?_⟩
    have e1 : PyData.eqv (py (Sl.fz (rdD xs r zs qs)).d) (py (rdD xs r zs qs)) = true := eqv_same (ok_rd _ _ _ _)
    show (if (!PyData.eqv (py (Sl.fz (rdD xs r zs qs)).d) (py (rdD xs r zs qs))) = true then post (.fz (.bl false)) T else _)
    rw [e1]
    refine ⟨rfl, n, xs, r, ys, ps, f, rfl, hd, hx, hw2, ok_rd _ _ _ _, ok_rd _ _ _ _, ?_⟩
    have e2 : PyData.eqv (py (Sl.fz (rdD xs r ys ps)).d) (py (rdD xs r ys ps)) = true := eqv_same (ok_rd _ _ _ _)
    show (if (!PyData.eqv (py (Sl.fz (rdD xs r ys ps)).d) (py (rdD xs r ys ps))) = true then post (.fz (.bl false)) T else _)
    rw [e2]
    exact r1
  have r3 : G_or3 (endsOf post ex) (orSt n xs r zs ys qs ps none T) := by
    refine ⟨rfl, n, xs, _, _, rfl, hd, hx, hw2.askW, hw.askW, .inr ⟨r, ys, ps, f, rfl, hw2, .inr ⟨r, zs, qs, e, rfl, hw, ?_⟩⟩⟩
    refine ⟨ok_rd _ _ _ _, ok_rd _ _ _ _, rfl, truth ?_ ?_⟩
    · rw [eqv_rd]
      exact decide_eq_decide.mpr (and_congr Iff.rfl ⟨fun z => z.symm, fun z => z.symm⟩)
    · exact r2
  have r4 : G_or4 (endsOf post ex) (orSt n xs r zs ys qs ps none T) := by
    refine ⟨rfl, n, xs, _, _, rfl, hd, hx, hw.askW, hw2.askW, .inr ⟨r, zs, qs, e, rfl, hw, .inr ⟨r, ys, ps, f, rfl, hw2, ?_⟩⟩⟩
    refine ⟨ok_rd _ _ _ _, ok_rd _ _ _ _, rfl, truth ?_ ?_⟩
    · rw [eqv_rd]
    · exact r3
  exact ⟨rfl, n, xs, r, zs, qs, e, rfl, hw, rfl, n, xs, r, ys, ps, f, rfl, hw2, r4⟩
end Law

set_option Elab.async false
set_option linter.all false
set_option maxRecDepth 100000
set_option maxHeartbeats 4000000
namespace DL
open PySem L2
/-! ### a list unpacked -/
variable [Tb]
section
variable {X : Cx} {W : WX} {pos : Pos} {es : List Expr}
def tgLst (n : Nat) (U : DTgs) : DTg := fun d s K => match d with
  | .lst ds => ds.length = n ∧ U ds s K
  | _ => False
theorem t_lst {vs : List Nat} {k0 n : Nat} {U : DTgs} (hc : X.calm = true) (h : DPGs X es U vs) (hn : (assignEach es X.env).length = n := by rfl) (hst : (assignEach es X.env).findIdx? (·.1) = none := by rfl) : DPG X (.Tuple es k0 pos) (tgLst n U) vs := by
  refine ⟨pg_mono (fun v σ H Q ⟨q, L, H0, B0, s, B, d, K, t, r, k, h⟩ => ?_) (pg_unl hc h.pg hn hst)⟩
  unfold tgLst at k
  split at k
  · obtain ⟨a, xs, rfl, ha, hx⟩ := rep_lst r
    exact ⟨a, xs, rfl, SqL.of (t.bs.leH _ _ ha), by rw [repL_len hx]; exact k.1, q, L, H0, B0, s, B, _, _, t, hx, k.2, h⟩
  · exact k.elim
end
end DL

set_option Elab.async false
set_option linter.all false
set_option maxRecDepth 100000
set_option maxHeartbeats 4000000
namespace Law
open PySem L2 DL
variable [Tb]
/-! ### k16: three walks -/
def S__law_three5 : PF := fun ds T post _ => ∃ (n : Nat) (xs : List D), ds = [.st, .int n, .tup xs] ∧ 0 < n ∧ n ≤ 1000 ∧ (∀ d ∈ xs, DoorIs n d) ∧ xs.length ≤ 1000 ∧ T + 40000 ≤ TM ∧
  ∀ (r a b c : Int) z1 q1 z2 q2 z3 q3 T', Wk n xs r z1 q1 a → Wk n xs a z2 q2 b → Wk n xs b z3 q3 c → q1.length ≤ 5 → q2.length ≤ 5 → q3.length ≤ 5 → T ≤ T' → T' ≤ T + 200 → post (.fz (.lst [wkD r z1 q1, wkD a z2 q2, wkD b z3 q3])) T'
def G_th1 : DG := (gSeq (gSet 6 (dCall S__law_strolled 4 (aCons (dVar 0) (aCons (dVar 2) (aCons (dVar 4) (aCons (dC (.int 5)) aNil))))))
    (gSeq (gApp 3 (dVar 6))
    (gSet 4 (dCall S__law_end 2 (aCons (dVar 2) (aCons (dVar 6) aNil))))))
def G__law_three5 : DG := (gSeq (gParOF 3 4 (dLst aNil) (dCall S__law_draw 2 (aCons (dVar 0) (aCons (dVar 1) aNil))))
    (gSeq (gFor (iRng1D (dC (.int 3))) (tgN 5) G_th1)
    (gRet (dVar 3))))
def thSt (n : Nat) (xs F : List D) (k : Int) (v5 v6 : OS) (T : Nat) : DS := ⟨[some (.fz .st), some (.fz (.int n)), some (.fz (.tup xs)), some (.ow (.lst F)), some (.fz (.int k)), v5, v6], T⟩
theorem th1 {n : Nat} {xs F : List D} {k : Int} {v5 v6 : OS} {T : Nat} {E : DE} (hd : ∀ d ∈ xs, DoorIs n d) (hx : xs.length ≤ 1000) (k0 : 0 ≤ k) (k1 : k < n) (hF : F.length ≤ 10) (hT : T + 10000 ≤ TM) (hn : ∀ zs qs e T' v6, Wk n xs k zs qs e → qs.length ≤ 5 → T ≤ T' → T' ≤ T + 52 → E.nx (thSt n xs (F ++ [wkD k zs qs]) e v5 v6 T')) :
    G_th1 E (thSt n xs F k v5 v6 T) := by
  have ek : k = ((k.toNat : Nat) : Int) := by omega
  rw [ek] at hn ⊢
  refine ⟨rfl, s_strolled (m := 5) hd (by omega) hx (by decide) (show T + 10000 ≤ TM from hT) fun zs qs e T' hw hq a b => ?_⟩
  have a : T ≤ T' := a
  have b : T' ≤ T + 2 + 10 * 5 := b
  refine ⟨(show F.length < 100000 from by omega), rfl, s_end hd hw ?_⟩
  exact hn zs qs e T' _ hw hq (by omega) (by omega)
theorem m__law_three5 : ∀ (ds : List D) T post ex, ds.length = 3 → S__law_three5 ds T post ex → G__law_three5 (endsOf post ex) (startD 7 ds T) := by
  rintro ds T post ex _ ⟨n, xs, rfl, hn, hm, hd, hx, hT, hp⟩
  refine ⟨nle rfl, rfl, n, rfl, by omega, by omega, (show T < TM from by omega), fun r r0 r1 => ?_⟩
  refine ⟨by decide, by decide, ?_⟩
  refine th1 (v5 := some (.fz (.int 0))) (T := T + 1) hd hx r0 r1 (by decide) (by omega) fun z1 q1 a T1 v6 w1 l1 a1 b1 => ?_
  refine th1 (v5 := some (.fz (.int 1))) (T := T1) hd hx w1.en.1 w1.en.2 (nle rfl) (by omega) fun z2 q2 b T2 v6 w2 l2 a2 b2 => ?_
  refine th1 (v5 := some (.fz (.int 2))) (T := T2) hd hx w2.en.1 w2.en.2 (nle rfl) (by omega) fun z3 q3 c T3 v6 w3 l3 a3 b3 => ?_
  exact hp r a b c z1 q1 z2 q2 z3 q3 T3 w1 w2 w3 l1 l2 l3 (by omega) (by omega)
/-! the mathematics -/
theorem join_red {n : Nat} {xs : List D} {r e f : Int} {zs ys : List Int} {qs ps : List P2} (h : Wk n xs r zs qs e) (k : Wk n xs e ys ps f) : redF xs (joinZ zs ys) (qs ++ ps) = runZ xs (redF xs zs qs) ys ps := by
  have l : (joinZ zs ys).length = (qs ++ ps).length + 1 := by
    have := join_len h.ne k.ne
    have h1 := h.ln
    have h2 := k.ln
    rw [List.length_append]
    omega
  rw [redF_run l, join_run h.ln k.ne, redF_run h.ln]
theorem act_red {n : Nat} {xs : List D} {e f : Int} {ys : List Int} {ps : List P2} {Z : RZ3} (g : Gd n xs Z) (k : Wk n xs e ys ps f) : runZ xs Z (redZ xs ys ps) (redK xs ys ps) = runZ xs Z ys ps := run_red g k.ln k.pa
theorem red_red {n : Nat} {xs : List D} {e f : Int} {ys : List Int} {ps : List P2} (k : Wk n xs e ys ps f) : redF xs (redZ xs ys ps) (redK xs ys ps) = redF xs ys ps := by
  rw [redF_run (red_wk k).1.ln, redF_run k.ln]
  exact act_red (Gd.zero n xs) k
theorem same_act {n : Nat} {xs : List D} {e f e2 f2 : Int} {ys zs : List Int} {ps qs : List P2} {Z : RZ3} (g : Gd n xs Z) (k : Wk n xs e ys ps f) (h : Wk n xs e2 zs qs f2) (he : redF xs ys ps = redF xs zs qs) : runZ xs Z ys ps = runZ xs Z zs qs := by
  rw [← act_red g k, ← act_red g h]
  obtain ⟨a, b⟩ := red_eq.mpr he
  rw [a, b]
theorem undo_back {n : Nat} {xs : List D} {e f : Int} {ys : List Int} {ps : List P2} (k : Wk n xs e ys ps f) : runZ xs (redF xs (backZ ys) (backQ ps)) ys ps = Z0 := by
  have kb := back_wk k
  rw [redF_run kb.ln]
  have u := run_undo (backQ ps) (backZ ys) Z0 (Gd.zero n xs) kb.ln kb.pa
  rw [backZ_back, backQ_back] at u
  exact u
theorem left_iff {n : Nat} {xs : List D} {r a b c : Int} {zs ys us : List Int} {qs ps ts : List P2} (h : Wk n xs r zs qs a) (k : Wk n xs a ys ps b) (l : Wk n xs a us ts c) : runZ xs (redF xs zs qs) ys ps = runZ xs (redF xs zs qs) us ts ↔ redF xs ys ps = redF xs us ts := by
  have gz := Gd.zero n xs
  have gh := redF_gd h
  constructor
  · intro z
    have gv := redF_gd (back_wk h)
    have w1 := run_word gv qs zs Z0 gz h.pa
    rw [← redF_run h.ln] at w1
    have w0 : word xs Z0 (redF xs (backZ zs) (backQ qs)) = redF xs (backZ zs) (backQ qs) := addZ_zero _
    rw [w0, undo_back h] at w1
    have w2 := run_word gv ps ys (redF xs zs qs) gh k.pa
    have w3 := run_word gv ts us (redF xs zs qs) gh l.pa
    rw [w1, ← redF_run k.ln] at w2
    rw [w1, ← redF_run l.ln] at w3
    rw [← w2, ← w3, z]
  · intro z
    exact same_act gh k l z
theorem right_iff {n : Nat} {xs : List D} {a b c d : Int} {zs ys us : List Int} {qs ps ts : List P2} (h : Wk n xs a zs qs b) (k : Wk n xs a ys ps b) (l : Wk n xs b us ts c) : runZ xs (redF xs zs qs) us ts = runZ xs (redF xs ys ps) us ts ↔ redF xs zs qs = redF xs ys ps := by
  constructor
  · intro z
    have u1 := run_undo ts us (redF xs zs qs) (redF_gd h) l.ln l.pa
    have u2 := run_undo ts us (redF xs ys ps) (redF_gd k) l.ln l.pa
    rw [← u1, ← u2, z]
  · intro z
    rw [z]
theorem back_same {n : Nat} {xs : List D} {e f e2 f2 : Int} {ys zs : List Int} {ps qs : List P2} (k : Wk n xs e ys ps f) (h : Wk n xs e2 zs qs f2) (he : redF xs ys ps = redF xs zs qs) : redF xs (backZ ys) (backQ ps) = redF xs (backZ zs) (backQ qs) := by
  have gv := redF_gd (back_wk h)
  have u := undo_back h
  rw [← same_act gv k h he] at u
  have u2 := run_undo ps ys (redF xs (backZ zs) (backQ qs)) gv k.ln k.pa
  rw [u] at u2
  rw [redF_run (back_wk k).ln]
  exact u2
end Law

set_option Elab.async false
set_option linter.all false
set_option maxRecDepth 100000
set_option maxHeartbeats 4000000
namespace Law
open PySem L2 DL
variable [Tb]
/-! ### k10: the law -/
abbrev sz (d : D) : OS := some (.fz d)
def lqSt (ns : List Int) (v2 v3 v4 v5 v6 v7 v8 v9 v10 v11 : OS) (T : Nat) : DS := ⟨[some (.fz (.scr ns)), some (.fz .st), v2, v3, v4, v5, v6, v7, v8, v9, v10, v11], T⟩
def G_n0 : DG := (gIf (dTest (dOp dNe (dCall S_plain_form 2 (aCons (dVar 5) (aCons (dVar 8) aNil))) (dVar 8))) (gRet (dC (.bl false))) gNil)
def G_n1i : DG := (gSeq (gUnp (tgTup 2 (tgCons (tgN 10) (tgCons (tgN 11) tgNil))) (dCall S__law_done 4 (aCons (dVar 1) (aCons (dVar 5) (aCons (dVar 4) (aCons (dVar 6) aNil))))))
    (gIf (tOrD (dTest (dOp dNe (dVar 10) (dVar 8))) (dTest (dOp dNe (dOp dMul (dC (.int 2)) (dVar 11)) (dOp dSub (dCB cLen (aCons (dIxV 6 (dC (.int 2))) aNil)) (dCB cLen (aCons (dIxV 8 (dC (.int 2))) aNil)))))) (gRet (dC (.bl false))) gNil))
def G_n1 : DG := (gSeq (gFor (iRng1D (dC (.int 2))) (tgN 9) G_n1i)
    G_n0)
def G_n2 : DG := (gSeq (gIf (dTest (dOp dNe (dCallK S_plain_form 2 [1, 0] (aCons (dVar 6) (aCons (dVar 5) aNil))) (dVar 8))) (gRet (dC (.bl false))) gNil)
    G_n1)
def G_n3 : DG := (gSeq (gSet 8 (dCall S__law_plain 2 (aCons (dVar 4) (aCons (dVar 6) aNil))))
    G_n2)
def G_n4i : DG := (gSeq (gSet 7 (dCall S__law_draw 2 (aCons (dVar 1) (aCons (dOp dPow (dC (.int 10)) (dC (.int 40))) aNil))))
    (gSet 6 (dTup (aCons (dIxV 6 (dC (.int 0))) (aCons (dOp dAdd (dTup (aCons (dOp dAdd (dOp dIx (dIxV 6 (dC (.int 1))) (dC (.int 0))) (dVar 7)) aNil)) (dSl (dIxV 6 (dC (.int 1))) (oAt (dC (.int 1))) oNo)) (aCons (dIxV 6 (dC (.int 2))) aNil))))))
def G_n4 : DG := (gSeq (gIf (dTest (dOp dEq (dCall S__law_draw 2 (aCons (dVar 1) (aCons (dC (.int 4)) aNil))) (dC (.int 0)))) G_n4i gNil)
    G_n3)
def G_n5 : DG := (gSeq (gSet 6 (dCall S__law_strolled 4 (aCons (dVar 1) (aCons (dVar 4) (aCons (dCall S__law_draw 2 (aCons (dVar 1) (aCons (dVar 3) aNil))) (aCons (dC (.int 10)) aNil))))))
    G_n4)
def G_n6 : DG := (gSeq (gSet 5 (dMake0 S_House 2 (aCons (dVar 3) (aCons (dVar 4) aNil))))
    G_n5)
def G_n7 : DG := (gSeq (gUnp (tgTup 2 (tgCons (tgN 3) (tgCons (tgN 4) tgNil))) (dCall S__law_pf_doors 1 (aCons (dVar 1) aNil)))
    G_n6)
def G_law : DG := (gSeq (gFor (iRng1D (dOp dAdd (dC (.int 3)) (dCB cMin2 (aCons (dCB cLen (aCons (dVar 0) aNil)) (aCons (dC (.int 3)) aNil))))) (tgN 2) G_n7)
    (gRet (dC (.bl true))))
theorem n0 {ns : List Int} {v2 v3 v6 v7 v9 v10 v11 : OS} {n : Nat} {xs : List D} {r e : Int} {zs : List Int} {qs : List P2} {T : Nat} {E : DE} (H : Hs n xs) (hw : Wk n xs r zs qs e) (hn : E.nx (lqSt ns v2 v3 (sz (.tup xs)) (sz (houseD n xs)) v6 v7 (sz (rdD xs r zs qs)) v9 v10 v11 T)) : G_n0 E (lqSt ns v2 v3 (sz (.tup xs)) (sz (houseD n xs)) v6 v7 (sz (rdD xs r zs qs)) v9 v10 v11 T) := by
  have hx : xs.length ≤ 1000 := by have := H.hx; omega
  obtain ⟨w2, _⟩ := red_wk hw
  refine ⟨rfl, n, xs, r, _, _, e, rfl, H.hd, hx, w2, ok_rd _ _ _ _, ok_rd _ _ _ _, ?_⟩
  have key : PyData.eqv (py (rdD xs r (redZ xs zs qs) (redK xs zs qs))) (py (rdD xs r zs qs)) = true := by
    rw [eqv_rd, decide_eq_true ⟨rfl, red_red hw⟩]
  show (if (!PyData.eqv (py (rdD xs r (redZ xs zs qs) (redK xs zs qs))) (py (rdD xs r zs qs))) = true then E.rt (.fz (.bl false)) T else E.nx (lqSt ns v2 v3 (sz (.tup xs)) (sz (houseD n xs)) v6 v7 (sz (rdD xs r zs qs)) v9 v10 v11 T))
  rw [key]
  exact hn
theorem n1i {ns : List Int} {v2 v3 v7 v9 v10 v11 : OS} {n : Nat} {xs : List D} {r e : Int} {zs : List Int} {qs : List P2} {T : Nat} {E : DE} (H : Hs n xs) (hw : Wk n xs r zs qs e) (hq : qs.length ≤ 10) (hT : T + 200 ≤ TM) (hn : ∀ v10 v11 T', T ≤ T' → T' ≤ T + 120 → E.nx (lqSt ns v2 v3 (sz (.tup xs)) (sz (houseD n xs)) (sz (wkD r zs qs)) v7 (sz (rdD xs r zs qs)) v9 v10 v11 T')) : G_n1i E (lqSt ns v2 v3 (sz (.tup xs)) (sz (houseD n xs)) (sz (wkD r zs qs)) v7 (sz (rdD xs r zs qs)) v9 v10 v11 T) := by
  have hx : xs.length ≤ 1000 := by have := H.hx; omega
  refine ⟨rfl, n, xs, r, zs, qs, e, rfl, H.hd, hx, hw, hq, (show T + 200 ≤ TM from hT), fun m T' hm t0 t1 => ⟨rfl, ok_rd xs r zs qs, ok_rd xs r zs qs, ?_⟩⟩
  have key : PyData.eqv (py (rdD xs r zs qs)) (py (rdD xs r zs qs)) = true := eqv_same (ok_rd _ _ _ _)
  show (if (!PyData.eqv (py (rdD xs r zs qs)) (py (rdD xs r zs qs))) = true then E.rt (.fz (.bl false)) T' else _)
  rw [key]
  refine ⟨.inl ⟨by decide, by decide⟩, trivial, _, rfl, trivial, _, rfl, rfl, rfl, ?_⟩
  show (if (!PyData.eqv (py (.int (2 * m))) (py (.int ((((qs.map stD).length : Nat) : Int) - (((redK xs zs qs).map stD).length : Nat))))) = true then E.rt (.fz (.bl false)) T' else E.nx (lqSt ns v2 v3 (sz (.tup xs)) (sz (houseD n xs)) (sz (wkD r zs qs)) v7 (sz (rdD xs r zs qs)) v9 (sz (rdD xs r zs qs)) (sz (.int m)) T'))
  rw [eqv_int, List.length_map, List.length_map, decide_eq_true hm]
  exact hn _ _ T' t0 t1
theorem n2 {ns : List Int} {v2 v3 v7 v9 v10 v11 : OS} {n : Nat} {xs : List D} {r e : Int} {zs : List Int} {qs : List P2} {T : Nat} {E : DE} (H : Hs n xs) (hw : Wk n xs r zs qs e) (hq : qs.length ≤ 10) (hT : T + 1000 ≤ TM) (hn : ∀ v9 v10 v11 T', T ≤ T' → T' ≤ T + 240 → E.nx (lqSt ns v2 v3 (sz (.tup xs)) (sz (houseD n xs)) (sz (wkD r zs qs)) v7 (sz (rdD xs r zs qs)) v9 v10 v11 T')) : G_n2 E (lqSt ns v2 v3 (sz (.tup xs)) (sz (houseD n xs)) (sz (wkD r zs qs)) v7 (sz (rdD xs r zs qs)) v9 v10 v11 T) := by
  have hx : xs.length ≤ 1000 := by have := H.hx; omega
  refine ⟨rfl, n, xs, r, zs, qs, e, rfl, H.hd, hx, hw, ok_rd xs r zs qs, ok_rd xs r zs qs, ?_⟩
  have key : PyData.eqv (py (rdD xs r zs qs)) (py (rdD xs r zs qs)) = true := eqv_same (ok_rd _ _ _ _)
  show (if (!PyData.eqv (py (rdD xs r zs qs)) (py (rdD xs r zs qs))) = true then E.rt (.fz (.bl false)) T else _)
  rw [key]
  show gFor (iRng1D (dC (.int 2))) (tgN 9) G_n1i { E with nx := G_n0 E } (lqSt ns v2 v3 (sz (.tup xs)) (sz (houseD n xs)) (sz (wkD r zs qs)) v7 (sz (rdD xs r zs qs)) v9 v10 v11 T)
  refine gFor_inv (E := { E with nx := G_n0 E }) (fun i s => ∃ v9 v10 v11 T', s = lqSt ns v2 v3 (sz (.tup xs)) (sz (houseD n xs)) (sz (wkD r zs qs)) v7 (sz (rdD xs r zs qs)) v9 v10 v11 T' ∧ T ≤ T' ∧ T' ≤ T + 120 * i) (rangeD 0 2) (fun P hP => ⟨by decide, by decide, hP _ ⟨v9, v10, v11, T, rfl, Nat.le_refl _, Nat.le_refl _⟩⟩) ?_ ?_
  · rintro i d s hi ⟨v9, v10, v11, T', rfl, t0, t1⟩ R hR
    have hi2 := (rangeD_get hi).2
    exact n1i (T := T') (E := { E with nx := R, ct := R, bk := G_n0 E }) H hw hq (by omega) fun v10 v11 T2 a b => hR _ ⟨_, v10, v11, T2, rfl, by omega, by omega⟩
  · rintro s ⟨v9, v10, v11, T', rfl, t0, t1⟩
    rw [rangeD_len] at t1
    exact n0 H hw (hn v9 v10 v11 T' t0 (by omega))
theorem n3 {ns : List Int} {v2 v3 v7 v8 v9 v10 v11 : OS} {n : Nat} {xs : List D} {r e : Int} {zs : List Int} {qs : List P2} {T : Nat} {E : DE} (H : Hs n xs) (hw : Wk n xs r zs qs e) (hq : qs.length ≤ 10) (hT : T + 1000 ≤ TM) (hn : ∀ v6 v8 v9 v10 v11 T', T ≤ T' → T' ≤ T + 240 → E.nx (lqSt ns v2 v3 (sz (.tup xs)) (sz (houseD n xs)) v6 v7 v8 v9 v10 v11 T')) : G_n3 E (lqSt ns v2 v3 (sz (.tup xs)) (sz (houseD n xs)) (sz (wkD r zs qs)) v7 v8 v9 v10 v11 T) :=
  ⟨rfl, n, xs, r, zs, qs, e, rfl, hw, n2 H hw hq hT fun v9 v10 v11 => hn _ _ v9 v10 v11⟩
theorem n4 {ns : List Int} {v2 v3 v7 v8 v9 v10 v11 : OS} {n : Nat} {xs : List D} {r e : Int} {zs : List Int} {qs : List P2} {T : Nat} {E : DE} (H : Hs n xs) (hw : Wk n xs r zs qs e) (hq : qs.length ≤ 10) (hT : T + 1100 ≤ TM) (hn : ∀ v6 v7 v8 v9 v10 v11 T', T ≤ T' → T' ≤ T + 250 → E.nx (lqSt ns v2 v3 (sz (.tup xs)) (sz (houseD n xs)) v6 v7 v8 v9 v10 v11 T')) : G_n4 E (lqSt ns v2 v3 (sz (.tup xs)) (sz (houseD n xs)) (sz (wkD r zs qs)) v7 v8 v9 v10 v11 T) := by
  refine ⟨rfl, 4, rfl, by decide, by decide, (show T < TM from by omega), fun k k0 k1 => ⟨rfl, rfl, ?_⟩⟩
  have fin : ∀ b : Bool, (if b = true then G_n4i { E with nx := G_n3 E } (lqSt ns v2 v3 (sz (.tup xs)) (sz (houseD n xs)) (sz (wkD r zs qs)) v7 v8 v9 v10 v11 (T + 1)) else G_n3 E (lqSt ns v2 v3 (sz (.tup xs)) (sz (houseD n xs)) (sz (wkD r zs qs)) v7 v8 v9 v10 v11 (T + 1))) := by
    intro b
    cases b with
    | false => exact n3 (T := T + 1) H hw hq (by omega) fun v6 v8 v9 v10 v11 T' a b => hn v6 _ v8 v9 v10 v11 T' (by omega) (by omega)
    | true =>
      have hne := hw.ne
      have hl := hw.ln
      have ei : zs.map D.int = .int (zs.headD 0) :: zs.tail.map D.int := by
        conv => lhs; rw [head_tail hne]
        rfl
      have al : atI (zs.map D.int) 0 = some (.int (zs.headD 0)) := by rw [ei]; exact at0
      have ct : cutD (zs.map D.int) (some 1) none = zs.tail.map D.int := by rw [ei]; exact cut_tail _ _
      have e40 : (10 : Int) ^ (40 : Int).toNat = 10000000000000000000000000000000000000000 := by decide +kernel
      refine ⟨⟨by decide, by decide, by decide⟩, rfl, _, rfl, ?_, ?_, (show T + 1 < TM from by omega), fun g g0 g1 => ?_⟩
      · rw [e40]; decide
      · rw [e40]; decide
      refine ⟨trivial, _, rfl, trivial, _, rfl, _, al, nle rfl, trivial, _, rfl, ?_⟩
      show 1 + (cutD (zs.map D.int) (some 1) none).length ≤ 100000 ∧ _
      rw [ct]
      have ln : 1 + (zs.tail.map D.int).length ≤ 100000 := by
        rw [List.length_map, List.length_tail]
        have := hw.mx
        omega
      refine ⟨ln, trivial, _, rfl, nle rfl, ?_⟩
      have hk : Wk n xs r ((zs.headD 0 + g) :: zs.tail) qs e := ⟨hw.pa, hw.go, by
        have h2 := List.length_pos_iff.mpr hne
        rw [List.length_cons, List.length_tail]
        omega, hw.mx, hw.r0, hw.rn⟩
      exact n3 (T := T + 1 + 1) H hk hq (by omega) fun v6 v8 v9 v10 v11 T' a b => hn v6 _ v8 v9 v10 v11 T' (by omega) (by omega)
  exact fin _
theorem n7 {ns : List Int} {v2 v3 v4 v5 v6 v7 v8 v9 v10 v11 : OS} {T : Nat} {E : DE} (hT : T + 300000 ≤ TM) (hn : ∀ v3 v4 v5 v6 v7 v8 v9 v10 v11 T', T ≤ T' → T' ≤ T + 1000 → E.nx (lqSt ns v2 v3 v4 v5 v6 v7 v8 v9 v10 v11 T')) : G_n7 E (lqSt ns v2 v3 v4 v5 v6 v7 v8 v9 v10 v11 T) := by
  refine ⟨rfl, rfl, (show T + 200000 ≤ TM from by omega), fun n xs T' n1 n3 hd hx re t0 t1 => ⟨rfl, ?_⟩⟩
  have t0 : T ≤ T' := t0
  have t1 : T' ≤ T + 200 := t1
  have H : Hs n xs := ⟨n1, n3, hd, hx, re⟩
  refine ⟨rfl, s_House H ?_⟩
  refine ⟨rfl, (n : Int), rfl, by omega, by omega, (show T' < TM from by omega), fun k k0 k1 => ?_⟩
  obtain ⟨k, rfl⟩ : ∃ j : Nat, k = j := ⟨k.toNat, by omega⟩
  refine ⟨rfl, s_strolled (m := 10) hd (by omega) (by omega) (by decide) (show T' + 1 + 10000 ≤ TM from by omega) fun zs qs e T2 hw hq a b => ?_⟩
  have a : T' + 1 ≤ T2 := a
  have b : T2 ≤ T' + 1 + 2 + 10 * 10 := b
  exact n4 (T := T2) H hw hq (by omega) fun v6 v7 v8 v9 v10 v11 T3 a b => hn _ _ _ v6 v7 v8 v9 v10 v11 T3 (by omega) (by omega)
theorem m_law (ns : List Int) (hl : ns.length ≤ 63) : G_law (endsOf (fun x _ => x = .fz (.bl true)) (fun _ _ _ => False)) (lqSt ns none none none none none none none none none none 0) := by
  refine gFor_inv (fun i s => ∃ v2 v3 v4 v5 v6 v7 v8 v9 v10 v11 T, s = lqSt ns v2 v3 v4 v5 v6 v7 v8 v9 v10 v11 T ∧ T ≤ 1000 * i) (rangeD 0 ((3 : Int) + (if (3 : Int) < (ns.length : Int) then 3 else (ns.length : Int))).toNat) (fun P hP => ⟨?_, ?_, hP _ ⟨_, _, _, _, _, _, _, _, _, _, _, rfl, Nat.le_refl _⟩⟩) ?_ ?_
  · show (3 : Int) + (if (3 : Int) < (ns.length : Int) then 3 else (ns.length : Int)) < _
    split <;> omega
  · show _ ≤ (3 : Int) + (if (3 : Int) < (ns.length : Int) then 3 else (ns.length : Int))
    split <;> omega
  · rintro i d s hi ⟨v2, v3, v4, v5, v6, v7, v8, v9, v10, v11, T, rfl, hT⟩ R hR
    have hi8 : i < 8 := by
      have := (rangeD_get hi).2
      split at this <;> omega
    have tm : TM = 1099511627776 := rfl
    exact n7 (T := T) (v2 := some (.fz d)) (by omega) fun v3 v4 v5 v6 v7 v8 v9 v10 v11 T' a b => hR _ ⟨_, v3, v4, v5, v6, v7, v8, v9, v10, v11, T', rfl, by omega⟩
  · rintro s ⟨v2, v3, v4, v5, v6, v7, v8, v9, v10, v11, T, rfl, hT⟩
    exact rfl
end Law

set_option Elab.async false
set_option linter.all false
set_option maxRecDepth 100000
set_option maxHeartbeats 0
namespace Law
open PySem L2 DL
open PySem.Spec PyProof.Rows
def topS (i : Nat) : Stmt := PySem.Challenge.pw_pulledrooms_k10_whole_one_plain_form_in.main.body.getD i (.Pass ⟨0, 0, 0, 0⟩)
def h_is_number : He.DefD := ⟨("is_number", none), "is_number", "is_number", defArgs (topS 1), defBody (topS 1), defScope (topS 1), [], []⟩
def h_is_number_within : He.DefD := ⟨("is_number_within", none), "is_number_within", "is_number_within", defArgs (topS 2), defBody (topS 2), defScope (topS 2), [], []⟩
def h_is_tuple_of : He.DefD := ⟨("is_tuple_of", none), "is_tuple_of", "is_tuple_of", defArgs (topS 3), defBody (topS 3), defScope (topS 3), [], []⟩
def h_House___init__ : He.DefD := ⟨("House", some "__init__"), "__init__", "House.__init__", defArgs (inClass (topS 17) 0), defBody (inClass (topS 17) 0), defScope (inClass (topS 17) 0), [], []⟩
def h_House___eq__ : He.DefD := ⟨("House", some "__eq__"), "__eq__", "House.__eq__", defArgs (inClass (topS 17) 1), defBody (inClass (topS 17) 1), defScope (inClass (topS 17) 1), [], []⟩
def h_is_room_count : He.DefD := ⟨("is_room_count", none), "is_room_count", "is_room_count", defArgs (topS 18), defBody (topS 18), defScope (topS 18), [], []⟩
def h_is_door : He.DefD := ⟨("is_door", none), "is_door", "is_door", defArgs (topS 19), defBody (topS 19), defScope (topS 19), [], []⟩
def h__is_door_number : He.DefD := ⟨("_is_door_number", none), "_is_door_number", "_is_door_number", defArgs (topS 20), defBody (topS 20), defScope (topS 20), [], []⟩
def h_are_doors : He.DefD := ⟨("are_doors", none), "are_doors", "are_doors", defArgs (topS 21), defBody (topS 21), defScope (topS 21), [], []⟩
def h__least_apart : He.DefD := ⟨("_least_apart", none), "_least_apart", "_least_apart", defArgs (topS 22), defBody (topS 22), defScope (topS 22), [], []⟩
def h_need_house : He.DefD := ⟨("need_house", none), "need_house", "need_house", defArgs (topS 23), defBody (topS 23), defScope (topS 23), [], []⟩
def h_is_room : He.DefD := ⟨("is_room", none), "is_room", "is_room", defArgs (topS 24), defBody (topS 24), defScope (topS 24), [], []⟩
def h_is_pass : He.DefD := ⟨("is_pass", none), "is_pass", "is_pass", defArgs (topS 25), defBody (topS 25), defScope (topS 25), [], []⟩
def h_back_of : He.DefD := ⟨("back_of", none), "back_of", "back_of", defArgs (topS 26), defBody (topS 26), defScope (topS 26), [], []⟩
def h_ends_of : He.DefD := ⟨("ends_of", none), "ends_of", "ends_of", defArgs (topS 27), defBody (topS 27), defScope (topS 27), [], []⟩
def h_is_walk : He.DefD := ⟨("is_walk", none), "is_walk", "is_walk", defArgs (topS 29), defBody (topS 29), defScope (topS 29), [], []⟩
def h_is_frame : He.DefD := ⟨("is_frame", none), "is_frame", "is_frame", defArgs (topS 30), defBody (topS 30), defScope (topS 30), [], []⟩
def h__hang_together : He.DefD := ⟨("_hang_together", none), "_hang_together", "_hang_together", defArgs (topS 31), defBody (topS 31), defScope (topS 31), [], []⟩
def h_need_walk : He.DefD := ⟨("need_walk", none), "need_walk", "need_walk", defArgs (topS 32), defBody (topS 32), defScope (topS 32), [], []⟩
def h_carried : He.DefD := ⟨("carried", none), "carried", "carried", defArgs (topS 34), defBody (topS 34), defScope (topS 34), [], []⟩
def h_shortened : He.DefD := ⟨("shortened", none), "shortened", "shortened", defArgs (topS 35), defBody (topS 35), defScope (topS 35), [], []⟩
def h_plain_form : He.DefD := ⟨("plain_form", none), "plain_form", "plain_form", defArgs (topS 36), defBody (topS 36), defScope (topS 36), [], []⟩
def h__is_spot : He.DefD := ⟨("_is_spot", none), "_is_spot", "_is_spot", defArgs (topS 37), defBody (topS 37), defScope (topS 37), [], []⟩
def h__carried_over : He.DefD := ⟨("_carried_over", none), "_carried_over", "_carried_over", defArgs (topS 38), defBody (topS 38), defScope (topS 38), [], []⟩
def h__turns_back : He.DefD := ⟨("_turns_back", none), "_turns_back", "_turns_back", defArgs (topS 39), defBody (topS 39), defScope (topS 39), [], []⟩
def h__cancelled : He.DefD := ⟨("_cancelled", none), "_cancelled", "_cancelled", defArgs (topS 40), defBody (topS 40), defScope (topS 40), [], []⟩
def h__can_shorten : He.DefD := ⟨("_can_shorten", none), "_can_shorten", "_can_shorten", defArgs (topS 41), defBody (topS 41), defScope (topS 41), [], []⟩
def h__shorter : He.DefD := ⟨("_shorter", none), "_shorter", "_shorter", defArgs (topS 42), defBody (topS 42), defScope (topS 42), [], []⟩
def h__reduced : He.DefD := ⟨("_reduced", none), "_reduced", "_reduced", defArgs (topS 43), defBody (topS 43), defScope (topS 43), [], []⟩
def h__law_begun : He.DefD := ⟨("_law_begun", none), "_law_begun", "_law_begun", defArgs (topS 45), defBody (topS 45), defScope (topS 45), [], []⟩
def h__law_blended : He.DefD := ⟨("_law_blended", none), "_law_blended", "_law_blended", defArgs (topS 46), defBody (topS 46), defScope (topS 46), [], []⟩
def h__law_draw : He.DefD := ⟨("_law_draw", none), "_law_draw", "_law_draw", defArgs (topS 47), defBody (topS 47), defScope (topS 47), [], []⟩
def h__law_pick : He.DefD := ⟨("_law_pick", none), "_law_pick", "_law_pick", defArgs (topS 48), defBody (topS 48), defScope (topS 48), [], []⟩
def h__law_mixed : He.DefD := ⟨("_law_mixed", none), "_law_mixed", "_law_mixed", defArgs (topS 49), defBody (topS 49), defScope (topS 49), [], []⟩
def h__law_is_whole : He.DefD := ⟨("_law_is_whole", none), "_law_is_whole", "_law_is_whole", defArgs (topS 50), defBody (topS 50), defScope (topS 50), [], []⟩
def h__law_size : He.DefD := ⟨("_law_size", none), "_law_size", "_law_size", defArgs (topS 51), defBody (topS 51), defScope (topS 51), [], []⟩
def h__law_doors : He.DefD := ⟨("_law_doors", none), "_law_doors", "_law_doors", defArgs (topS 52), defBody (topS 52), defScope (topS 52), [], []⟩
def h__law_gate : He.DefD := ⟨("_law_gate", none), "_law_gate", "_law_gate", defArgs (topS 53), defBody (topS 53), defScope (topS 53), [], []⟩
def h__law_steps : He.DefD := ⟨("_law_steps", none), "_law_steps", "_law_steps", defArgs (topS 54), defBody (topS 54), defScope (topS 54), [], []⟩
def h__law_sides : He.DefD := ⟨("_law_sides", none), "_law_sides", "_law_sides", defArgs (topS 55), defBody (topS 55), defScope (topS 55), [], []⟩
def h__law_pulls : He.DefD := ⟨("_law_pulls", none), "_law_pulls", "_law_pulls", defArgs (topS 56), defBody (topS 56), defScope (topS 56), [], []⟩
def h__law_strolled : He.DefD := ⟨("_law_strolled", none), "_law_strolled", "_law_strolled", defArgs (topS 57), defBody (topS 57), defScope (topS 57), [], []⟩
def h__law_plain : He.DefD := ⟨("_law_plain", none), "_law_plain", "_law_plain", defArgs (topS 58), defBody (topS 58), defScope (topS 58), [], []⟩
def h__law_is_walk : He.DefD := ⟨("_law_is_walk", none), "_law_is_walk", "_law_is_walk", defArgs (topS 59), defBody (topS 59), defScope (topS 59), [], []⟩
def h__law_pf_turned : He.DefD := ⟨("_law_pf_turned", none), "_law_pf_turned", "_law_pf_turned", defArgs (topS 60), defBody (topS 60), defScope (topS 60), [], []⟩
def h__law_pf_turns : He.DefD := ⟨("_law_pf_turns", none), "_law_pf_turns", "_law_pf_turns", defArgs (topS 61), defBody (topS 61), defScope (topS 61), [], []⟩
def h__law_pf_spots : He.DefD := ⟨("_law_pf_spots", none), "_law_pf_spots", "_law_pf_spots", defArgs (topS 62), defBody (topS 62), defScope (topS 62), [], []⟩
def h__law_pf_doors : He.DefD := ⟨("_law_pf_doors", none), "_law_pf_doors", "_law_pf_doors", defArgs (topS 63), defBody (topS 63), defScope (topS 63), [], []⟩
def h__law_to_do : He.DefD := ⟨("_law_to_do", none), "_law_to_do", "_law_to_do", defArgs (topS 64), defBody (topS 64), defScope (topS 64), [], []⟩
def h__law_done : He.DefD := ⟨("_law_done", none), "_law_done", "_law_done", defArgs (topS 65), defBody (topS 65), defScope (topS 65), [], []⟩
def h_law : He.DefD := ⟨("law", none), "law", "law", defArgs (topS 66), defBody (topS 66), defScope (topS 66), [], []⟩
def fn : List He.DefD := ([h_is_number, h_is_number_within, h_is_tuple_of, h_House___init__, h_House___eq__, h_is_room_count, h_is_door, h__is_door_number, h_are_doors, h__least_apart, h_need_house, h_is_room, h_is_pass, h_back_of, h_ends_of, h_is_walk, h_is_frame, h__hang_together, h_need_walk, h_carried, h_shortened, h_plain_form, h__is_spot, h__carried_over, h__turns_back, h__cancelled, h__can_shorten, h__shorter, h__reduced, h__law_begun] : List He.DefD) ++ ([h__law_blended, h__law_draw, h__law_pick, h__law_mixed, h__law_is_whole, h__law_size, h__law_doors, h__law_gate, h__law_steps, h__law_sides, h__law_pulls, h__law_strolled, h__law_plain, h__law_is_walk, h__law_pf_turned, h__law_pf_turns, h__law_pf_spots, h__law_pf_doors, h__law_to_do, h__law_done, h_law] : List He.DefD)
def fa : List He.Fa := ([.glo "is_number", .glo "is_number_within", .glo "is_tuple_of", .glo "PullError", .glo "Apart", .glo "BadDoors", .glo "BadHouse", .glo "BadRooms", .glo "BadSpot", .glo "BadTimes", .glo "BadWalk", .int "MOST_ROOMS" 12, .int "MOST_DOORS" 20, .int "GREATEST" 999, .glo "House", .glo "is_room_count", .glo "is_door", .glo "_is_door_number", .glo "are_doors", .glo "_least_apart", .glo "need_house", .glo "is_room", .glo "is_pass", .glo "back_of", .glo "ends_of", .glo "is_walk", .glo "is_frame", .glo "_hang_together", .glo "need_walk", .glo "carried"] : List He.Fa) ++ ([.glo "shortened", .glo "plain_form", .glo "_is_spot", .glo "_carried_over", .glo "_turns_back", .glo "_cancelled", .glo "_can_shorten", .glo "_shorter", .glo "_reduced", .glo "_law_begun", .glo "_law_blended", .glo "_law_draw", .glo "_law_pick", .glo "_law_mixed", .glo "_law_is_whole", .glo "_law_size", .glo "_law_doors", .glo "_law_gate", .glo "_law_steps", .glo "_law_sides", .glo "_law_pulls", .glo "_law_strolled", .glo "_law_plain", .glo "_law_is_walk", .glo "_law_pf_turned", .glo "_law_pf_turns", .glo "_law_pf_spots", .glo "_law_pf_doors", .glo "_law_to_do", .glo "_law_done"] : List He.Fa) ++ ([.glo "law", .free "ValueError", .free "abs", .free "all", .free "bool", .free "enumerate", .free "int", .free "isinstance", .free "len", .free "list", .free "min", .free "range", .free "super", .free "tuple", .free "zip", .exc "BadDoors", .exc "BadHouse", .exc "BadRooms", .exc "BadSpot", .exc "BadTimes", .exc "BadWalk", .exm "PullError" "PullError" true, .exm "Apart" "PullError" true, .exm "BadDoors" "PullError" true, .exm "BadHouse" "PullError" true, .exm "BadRooms" "PullError" true, .exm "BadSpot" "PullError" true, .exm "BadTimes" "PullError" true, .exm "BadWalk" "PullError" true, .cls "House"] : List He.Fa) ++ ([.mkr "House", .noat "House" "rooms", .noat "House" "doors"] : List He.Fa)
def tf : List He.Defn := []
def exs (K : PySem.W.Frag) : List Bool := [true, objB K (He.ga K "House"), kitsB K "House" [("House", true)] [], excB K (He.ga K "PullError"), excB K (He.ga K "Apart"), excB K (He.ga K "BadDoors"), excB K (He.ga K "BadHouse"), excB K (He.ga K "BadRooms"), excB K (He.ga K "BadSpot"), excB K (He.ga K "BadTimes"), excB K (He.ga K "BadWalk")]
def ex (K : PySem.W.Frag) : Bool := (exs K).all id
def names : List Str := (["__name__", "is_number", "is_number_within", "is_tuple_of", "PullError", "Apart", "BadDoors", "BadHouse", "BadRooms", "BadSpot", "BadTimes", "BadWalk", "MOST_ROOMS", "MOST_DOORS", "GREATEST", "House", "is_room_count", "is_door", "_is_door_number", "are_doors", "_least_apart", "need_house", "is_room", "is_pass", "back_of", "ends_of", "is_walk", "is_frame", "_hang_together", "need_walk"] : List Str) ++ (["carried", "shortened", "plain_form", "_is_spot", "_carried_over", "_turns_back", "_cancelled", "_can_shorten", "_shorter", "_reduced", "_law_begun", "_law_blended", "_law_draw", "_law_pick", "_law_mixed", "_law_is_whole", "_law_size", "_law_doors", "_law_gate", "_law_steps", "_law_sides", "_law_pulls", "_law_strolled", "_law_plain", "_law_is_walk", "_law_pf_turned", "_law_pf_turns", "_law_pf_spots", "_law_pf_doors", "_law_to_do"] : List Str) ++ (["_law_done"] : List Str)
abbrev R : PySem.W.OpenRow := PySem.W.OpenLaw.row PySem.Challenge.rw_pulledrooms_k10_whole_one_plain_form_in
abbrev hk : PySem.W.Hook := He.hookX 5 fa fn [] tf ex
def ob (s : PySem.W.SharedT) : He.AlX := He.obsX 5 fa fn [] tf ex (HandSHeadRun.getT s)
theorem ob_eq (s : PySem.W.SharedT) : ob s = hk.obs s.abs := He.obsX_eq (HandSHeadRun.getT_eq s)
theorem run (w : World) : HandSHeadRun.RunEq R (PySem.W.view R.prog [66]) hk ob 6000 names w := by
  intro os
  kernel_rfl
theorem exs_at {w : World} {h : Heap} {K : PySem.W.Frag} (c : He.SaysX fa fn [] tf ex w h K) (i : Nat) {b : Bool} (e : (exs K)[i]? = some b) : b = true := List.all_eq_true.mp (show (exs K).all id = true from c.more) b (List.mem_of_getElem? e)
/-- what the top has left -/
structure Txt (K : PySem.W.Frag) (mg : Str → Option Value) : Prop where
  b_ValueError : mg "ValueError" = none
  b_abs : mg "abs" = none
  b_all : mg "all" = none
  b_bool : mg "bool" = none
  b_enumerate : mg "enumerate" = none
  b_int : mg "int" = none
  b_isinstance : mg "isinstance" = none
  b_len : mg "len" = none
  b_list : mg "list" = none
  b_min : mg "min" = none
  b_range : mg "range" = none
  b_super : mg "super" = none
  b_tuple : mg "tuple" = none
  b_zip : mg "zip" = none
  c_MOST_ROOMS : ∃ t, mg "MOST_ROOMS" = some (.int 12 t)
  c_MOST_DOORS : ∃ t, mg "MOST_DOORS" = some (.int 20 t)
  c_GREATEST : ∃ t, mg "GREATEST" = some (.int 999 t)
  d_is_number : DefAt K mg "is_number" (topS 1) ["thing"]
  d_is_number_within : DefAt K mg "is_number_within" (topS 2) ["thing", "low", "high"]
  d_is_tuple_of : DefAt K mg "is_tuple_of" (topS 3) ["thing", "many"]
  d_is_room_count : DefAt K mg "is_room_count" (topS 18) ["thing"]
  d_is_door : DefAt K mg "is_door" (topS 19) ["rooms", "thing"]
  d__is_door_number : DefAt K mg "_is_door_number" (topS 20) ["thing"]
  d_are_doors : DefAt K mg "are_doors" (topS 21) ["rooms", "thing"]
  d__least_apart : DefAt K mg "_least_apart" (topS 22) ["rooms", "doors"]
  d_need_house : DefAt K mg "need_house" (topS 23) ["house"]
  d_is_room : DefAt K mg "is_room" (topS 24) ["house", "thing"]
  d_is_pass : DefAt K mg "is_pass" (topS 25) ["house", "thing"]
  d_back_of : DefAt K mg "back_of" (topS 26) ["step"]
  d_ends_of : DefAt K mg "ends_of" (topS 27) ["house", "step"]
  d_is_walk : DefAt K mg "is_walk" (topS 29) ["house", "thing"]
  d_is_frame : DefAt K mg "is_frame" (topS 30) ["house", "thing"]
  d__hang_together : DefAt K mg "_hang_together" (topS 31) ["house", "room", "passes"]
  d_need_walk : DefAt K mg "need_walk" (topS 32) ["house", "walk"]
  d_carried : DefAt K mg "carried" (topS 34) ["house", "walk", "spot", "times"]
  d_shortened : DefAt K mg "shortened" (topS 35) ["house", "walk", "spot"]
  d_plain_form : DefAt K mg "plain_form" (topS 36) ["house", "walk"]
  d__is_spot : DefAt K mg "_is_spot" (topS 37) ["walk", "thing"]
  d__carried_over : DefAt K mg "_carried_over" (topS 38) ["house", "walk", "spot", "times"]
  d__turns_back : DefAt K mg "_turns_back" (topS 39) ["walk", "spot"]
  d__cancelled : DefAt K mg "_cancelled" (topS 40) ["walk", "spot"]
  d__can_shorten : DefAt K mg "_can_shorten" (topS 41) ["house", "walk", "spot"]
  d__shorter : DefAt K mg "_shorter" (topS 42) ["house", "walk", "spot"]
  d__reduced : DefAt K mg "_reduced" (topS 43) ["house", "walk"]
  d__law_begun : DefAt K mg "_law_begun" (topS 45) ["script"]
  d__law_blended : DefAt K mg "_law_blended" (topS 46) ["state"]
  d__law_draw : DefAt K mg "_law_draw" (topS 47) ["state", "size_here"]
  d__law_pick : DefAt K mg "_law_pick" (topS 48) ["state", "several"]
  d__law_mixed : DefAt K mg "_law_mixed" (topS 49) ["state", "several"]
  d__law_is_whole : DefAt K mg "_law_is_whole" (topS 50) ["item"]
  d__law_size : DefAt K mg "_law_size" (topS 51) ["state"]
  d__law_doors : DefAt K mg "_law_doors" (topS 52) ["state", "rooms_here", "more"]
  d__law_gate : DefAt K mg "_law_gate" (topS 53) ["doors_here", "step"]
  d__law_steps : DefAt K mg "_law_steps" (topS 54) ["doors_here", "room_here"]
  d__law_sides : DefAt K mg "_law_sides" (topS 55) ["many"]
  d__law_pulls : DefAt K mg "_law_pulls" (topS 56) ["state", "doors_here", "step"]
  d__law_strolled : DefAt K mg "_law_strolled" (topS 57) ["state", "doors_here", "room_here", "many"]
  d__law_plain : DefAt K mg "_law_plain" (topS 58) ["doors_here", "walk_here"]
  d__law_is_walk : DefAt K mg "_law_is_walk" (topS 59) ["doors_here", "rooms_here", "thing"]
  d__law_pf_turned : DefAt K mg "_law_pf_turned" (topS 60) ["step"]
  d__law_pf_turns : DefAt K mg "_law_pf_turns" (topS 61) ["doors_here", "walk_here", "spot_here"]
  d__law_pf_spots : DefAt K mg "_law_pf_spots" (topS 62) ["doors_here", "walk_here"]
  d__law_pf_doors : DefAt K mg "_law_pf_doors" (topS 63) ["state"]
  d__law_to_do : DefAt K mg "_law_to_do" (topS 64) ["doors_here", "walk_here"]
  d__law_done : DefAt K mg "_law_done" (topS 65) ["state", "house_here", "doors_here", "walk_here"]
  d_law : DefAt K mg "law" (topS 66) ["script"]
  e_BadDoors : ExcT K mg "BadDoors"
  e_BadHouse : ExcT K mg "BadHouse"
  e_BadRooms : ExcT K mg "BadRooms"
  e_BadSpot : ExcT K mg "BadSpot"
  e_BadTimes : ExcT K mg "BadTimes"
  e_BadWalk : ExcT K mg "BadWalk"
  cH : ∀ C, mg "House" = some (.ref C) → Cls K C ∧ NoAttr K C "rooms" ∧ NoAttr K C "doors"
  iH : ∀ (P : Program) (w : World) (base : Heap) [Tb] (k : Nat) (S : PF), (∀ f fd, Fun K "__init__" "House.__init__" (inClass (topS 17) 0) f fd → FnOk P w K mg base (L2.CX P w) k f fd ["self", "rooms", "doors"] (spI K mg "House" 2 S)) → KnI P w K mg base (L2.CX P w) k "House" ["rooms", "doors"] S
  f_rooms : ∃ C, mg "House" = some (.ref C) ∧ Cls K C ∧ NoAttr K C "rooms"
  f_doors : ∃ C, mg "House" = some (.ref C) ∧ Cls K C ∧ NoAttr K C "doors"
  i_House : IsO K mg "House" [("House", true)] []
  hms : ∀ m ∈ (["Apart", "BadDoors", "BadHouse", "BadRooms", "BadSpot", "BadTimes", "BadWalk"] : List Str), ∀ C, mg m = some (.ref C) → PySem.W.exmOne K (.ref C) (.ref (He.ga K "PullError")) = some true
  gP : mg "PullError" = some (.ref (He.ga K "PullError"))
theorem txt_of {w : World} {K : PySem.W.Frag} {h : Heap} {mg : Str → Option Value} (X : K.In h) (G : h.Ns mainGlobals mg) (c : He.SaysX fa fn [] tf ex w h K) : Txt K mg := ⟨
  He.free_ok X G (c.t.d.fact 61 rfl),
  He.free_ok X G (c.t.d.fact 62 rfl),
  He.free_ok X G (c.t.d.fact 63 rfl),
  He.free_ok X G (c.t.d.fact 64 rfl),
  He.free_ok X G (c.t.d.fact 65 rfl),
  He.free_ok X G (c.t.d.fact 66 rfl),
  He.free_ok X G (c.t.d.fact 67 rfl),
  He.free_ok X G (c.t.d.fact 68 rfl),
  He.free_ok X G (c.t.d.fact 69 rfl),
  He.free_ok X G (c.t.d.fact 70 rfl),
  He.free_ok X G (c.t.d.fact 71 rfl),
  He.free_ok X G (c.t.d.fact 72 rfl),
  He.free_ok X G (c.t.d.fact 73 rfl),
  He.free_ok X G (c.t.d.fact 74 rfl),
  He.int_ok X G (c.t.d.fact 11 rfl),
  He.int_ok X G (c.t.d.fact 12 rfl),
  He.int_ok X G (c.t.d.fact 13 rfl),
  defAt_of X G (c.t.d.fact 0 rfl) (c.t.d.def_ 0 rfl) (fun _ _ _ _ _ _ us hl => match us, hl with | [_], _ => rfl),
  defAt_of X G (c.t.d.fact 1 rfl) (c.t.d.def_ 1 rfl) (fun _ _ _ _ _ _ us hl => match us, hl with | [_, _, _], _ => rfl),
  defAt_of X G (c.t.d.fact 2 rfl) (c.t.d.def_ 2 rfl) (fun _ _ _ _ _ _ us hl => match us, hl with | [_, _], _ => rfl),
  defAt_of X G (c.t.d.fact 15 rfl) (c.t.d.def_ 5 rfl) (fun _ _ _ _ _ _ us hl => match us, hl with | [_], _ => rfl),
  defAt_of X G (c.t.d.fact 16 rfl) (c.t.d.def_ 6 rfl) (fun _ _ _ _ _ _ us hl => match us, hl with | [_, _], _ => rfl),
  defAt_of X G (c.t.d.fact 17 rfl) (c.t.d.def_ 7 rfl) (fun _ _ _ _ _ _ us hl => match us, hl with | [_], _ => rfl),
  defAt_of X G (c.t.d.fact 18 rfl) (c.t.d.def_ 8 rfl) (fun _ _ _ _ _ _ us hl => match us, hl with | [_, _], _ => rfl),
  defAt_of X G (c.t.d.fact 19 rfl) (c.t.d.def_ 9 rfl) (fun _ _ _ _ _ _ us hl => match us, hl with | [_, _], _ => rfl),
  defAt_of X G (c.t.d.fact 20 rfl) (c.t.d.def_ 10 rfl) (fun _ _ _ _ _ _ us hl => match us, hl with | [_], _ => rfl),
  defAt_of X G (c.t.d.fact 21 rfl) (c.t.d.def_ 11 rfl) (fun _ _ _ _ _ _ us hl => match us, hl with | [_, _], _ => rfl),
  defAt_of X G (c.t.d.fact 22 rfl) (c.t.d.def_ 12 rfl) (fun _ _ _ _ _ _ us hl => match us, hl with | [_, _], _ => rfl),
  defAt_of X G (c.t.d.fact 23 rfl) (c.t.d.def_ 13 rfl) (fun _ _ _ _ _ _ us hl => match us, hl with | [_], _ => rfl),
  defAt_of X G (c.t.d.fact 24 rfl) (c.t.d.def_ 14 rfl) (fun _ _ _ _ _ _ us hl => match us, hl with | [_, _], _ => rfl),
  defAt_of X G (c.t.d.fact 25 rfl) (c.t.d.def_ 15 rfl) (fun _ _ _ _ _ _ us hl => match us, hl with | [_, _], _ => rfl),
  defAt_of X G (c.t.d.fact 26 rfl) (c.t.d.def_ 16 rfl) (fun _ _ _ _ _ _ us hl => match us, hl with | [_, _], _ => rfl),
  defAt_of X G (c.t.d.fact 27 rfl) (c.t.d.def_ 17 rfl) (fun _ _ _ _ _ _ us hl => match us, hl with | [_, _, _], _ => rfl),
  defAt_of X G (c.t.d.fact 28 rfl) (c.t.d.def_ 18 rfl) (fun _ _ _ _ _ _ us hl => match us, hl with | [_, _], _ => rfl),
  defAt_of X G (c.t.d.fact 29 rfl) (c.t.d.def_ 19 rfl) (fun _ _ _ _ _ _ us hl => match us, hl with | [_, _, _, _], _ => rfl),
  defAt_of X G (c.t.d.fact 30 rfl) (c.t.d.def_ 20 rfl) (fun _ _ _ _ _ _ us hl => match us, hl with | [_, _, _], _ => rfl),
  defAt_of X G (c.t.d.fact 31 rfl) (c.t.d.def_ 21 rfl) (fun _ _ _ _ _ _ us hl => match us, hl with | [_, _], _ => rfl),
  defAt_of X G (c.t.d.fact 32 rfl) (c.t.d.def_ 22 rfl) (fun _ _ _ _ _ _ us hl => match us, hl with | [_, _], _ => rfl),
  defAt_of X G (c.t.d.fact 33 rfl) (c.t.d.def_ 23 rfl) (fun _ _ _ _ _ _ us hl => match us, hl with | [_, _, _, _], _ => rfl),
  defAt_of X G (c.t.d.fact 34 rfl) (c.t.d.def_ 24 rfl) (fun _ _ _ _ _ _ us hl => match us, hl with | [_, _], _ => rfl),
  defAt_of X G (c.t.d.fact 35 rfl) (c.t.d.def_ 25 rfl) (fun _ _ _ _ _ _ us hl => match us, hl with | [_, _], _ => rfl),
  defAt_of X G (c.t.d.fact 36 rfl) (c.t.d.def_ 26 rfl) (fun _ _ _ _ _ _ us hl => match us, hl with | [_, _, _], _ => rfl),
  defAt_of X G (c.t.d.fact 37 rfl) (c.t.d.def_ 27 rfl) (fun _ _ _ _ _ _ us hl => match us, hl with | [_, _, _], _ => rfl),
  defAt_of X G (c.t.d.fact 38 rfl) (c.t.d.def_ 28 rfl) (fun _ _ _ _ _ _ us hl => match us, hl with | [_, _], _ => rfl),
  defAt_of X G (c.t.d.fact 39 rfl) (c.t.d.def_ 29 rfl) (fun _ _ _ _ _ _ us hl => match us, hl with | [_], _ => rfl),
  defAt_of X G (c.t.d.fact 40 rfl) (c.t.d.def_ 30 rfl) (fun _ _ _ _ _ _ us hl => match us, hl with | [_], _ => rfl),
  defAt_of X G (c.t.d.fact 41 rfl) (c.t.d.def_ 31 rfl) (fun _ _ _ _ _ _ us hl => match us, hl with | [_, _], _ => rfl),
  defAt_of X G (c.t.d.fact 42 rfl) (c.t.d.def_ 32 rfl) (fun _ _ _ _ _ _ us hl => match us, hl with | [_, _], _ => rfl),
  defAt_of X G (c.t.d.fact 43 rfl) (c.t.d.def_ 33 rfl) (fun _ _ _ _ _ _ us hl => match us, hl with | [_, _], _ => rfl),
  defAt_of X G (c.t.d.fact 44 rfl) (c.t.d.def_ 34 rfl) (fun _ _ _ _ _ _ us hl => match us, hl with | [_], _ => rfl),
  defAt_of X G (c.t.d.fact 45 rfl) (c.t.d.def_ 35 rfl) (fun _ _ _ _ _ _ us hl => match us, hl with | [_], _ => rfl),
  defAt_of X G (c.t.d.fact 46 rfl) (c.t.d.def_ 36 rfl) (fun _ _ _ _ _ _ us hl => match us, hl with | [_, _, _], _ => rfl),
  defAt_of X G (c.t.d.fact 47 rfl) (c.t.d.def_ 37 rfl) (fun _ _ _ _ _ _ us hl => match us, hl with | [_, _], _ => rfl),
  defAt_of X G (c.t.d.fact 48 rfl) (c.t.d.def_ 38 rfl) (fun _ _ _ _ _ _ us hl => match us, hl with | [_, _], _ => rfl),
  defAt_of X G (c.t.d.fact 49 rfl) (c.t.d.def_ 39 rfl) (fun _ _ _ _ _ _ us hl => match us, hl with | [_], _ => rfl),
  defAt_of X G (c.t.d.fact 50 rfl) (c.t.d.def_ 40 rfl) (fun _ _ _ _ _ _ us hl => match us, hl with | [_, _, _], _ => rfl),
  defAt_of X G (c.t.d.fact 51 rfl) (c.t.d.def_ 41 rfl) (fun _ _ _ _ _ _ us hl => match us, hl with | [_, _, _, _], _ => rfl),
  defAt_of X G (c.t.d.fact 52 rfl) (c.t.d.def_ 42 rfl) (fun _ _ _ _ _ _ us hl => match us, hl with | [_, _], _ => rfl),
  defAt_of X G (c.t.d.fact 53 rfl) (c.t.d.def_ 43 rfl) (fun _ _ _ _ _ _ us hl => match us, hl with | [_, _, _], _ => rfl),
  defAt_of X G (c.t.d.fact 54 rfl) (c.t.d.def_ 44 rfl) (fun _ _ _ _ _ _ us hl => match us, hl with | [_], _ => rfl),
  defAt_of X G (c.t.d.fact 55 rfl) (c.t.d.def_ 45 rfl) (fun _ _ _ _ _ _ us hl => match us, hl with | [_, _, _], _ => rfl),
  defAt_of X G (c.t.d.fact 56 rfl) (c.t.d.def_ 46 rfl) (fun _ _ _ _ _ _ us hl => match us, hl with | [_, _], _ => rfl),
  defAt_of X G (c.t.d.fact 57 rfl) (c.t.d.def_ 47 rfl) (fun _ _ _ _ _ _ us hl => match us, hl with | [_], _ => rfl),
  defAt_of X G (c.t.d.fact 58 rfl) (c.t.d.def_ 48 rfl) (fun _ _ _ _ _ _ us hl => match us, hl with | [_, _], _ => rfl),
  defAt_of X G (c.t.d.fact 59 rfl) (c.t.d.def_ 49 rfl) (fun _ _ _ _ _ _ us hl => match us, hl with | [_, _, _, _], _ => rfl),
  defAt_of X G (c.t.d.fact 60 rfl) (c.t.d.def_ 50 rfl) (fun _ _ _ _ _ _ us hl => match us, hl with | [_], _ => rfl),
  excT_of X G (c.t.d.fact 5 rfl) (c.t.d.fact 75 rfl),
  excT_of X G (c.t.d.fact 6 rfl) (c.t.d.fact 76 rfl),
  excT_of X G (c.t.d.fact 7 rfl) (c.t.d.fact 77 rfl),
  excT_of X G (c.t.d.fact 8 rfl) (c.t.d.fact 78 rfl),
  excT_of X G (c.t.d.fact 9 rfl) (c.t.d.fact 79 rfl),
  excT_of X G (c.t.d.fact 10 rfl) (c.t.d.fact 80 rfl),
  fun C hC => by
    have e := (He.glo_ok X G (c.t.d.fact 14 rfl)).symm.trans hC
    cases e
    exact ⟨He.cls_ok (c.t.d.fact 89 rfl), He.noat_ok (c.t.d.fact 91 rfl), He.noat_ok (c.t.d.fact 92 rfl)⟩,
  fun P w base _ k S ok => knI_of (st := (inClass (topS 17) 0)) (q := "House.__init__") X G (c.t.d.fact 14 rfl) (c.t.d.fact 90 rfl) (c.t.d.def_ 3 rfl) (fun _ _ _ _ _ _ us hl => match us, hl with | [_, _, _], _ => rfl) ok,
  ⟨_, He.glo_ok X G (c.t.d.fact 14 rfl), He.cls_ok (c.t.d.fact 89 rfl), He.noat_ok (c.t.d.fact 91 rfl)⟩,
  ⟨_, He.glo_ok X G (c.t.d.fact 14 rfl), He.cls_ok (c.t.d.fact 89 rfl), He.noat_ok (c.t.d.fact 92 rfl)⟩,
  isO_of X G (c.t.d.fact 14 rfl) (exs_at c 2 rfl) (fun p hp => by
    rw [List.mem_singleton.mp hp]
    have k := (List.all_eq_true.mp (He.ba (exs_at c 2 rfl)).2) ("House", true) (by simp)
    exact ⟨c.t.d.fact 14 rfl, objB_ok (c.t.d.fact 89 rfl) (exs_at c 1 rfl) (of_decide_eq_true k)⟩) (fun p hp => absurd hp (by simp)),
  fun m hm C hC => by
    simp only [List.mem_cons, List.not_mem_nil, or_false] at hm
    rcases hm with rfl | rfl | rfl | rfl | rfl | rfl | rfl
    · have z := (He.glo_ok X G (c.t.d.fact 4 rfl)).symm.trans hC
      cases z
      exact He.exm_ok (c.t.d.fact 82 rfl)
    · have z := (He.glo_ok X G (c.t.d.fact 5 rfl)).symm.trans hC
      cases z
      exact He.exm_ok (c.t.d.fact 83 rfl)
    · have z := (He.glo_ok X G (c.t.d.fact 6 rfl)).symm.trans hC
      cases z
      exact He.exm_ok (c.t.d.fact 84 rfl)
    · have z := (He.glo_ok X G (c.t.d.fact 7 rfl)).symm.trans hC
      cases z
      exact He.exm_ok (c.t.d.fact 85 rfl)
    · have z := (He.glo_ok X G (c.t.d.fact 8 rfl)).symm.trans hC
      cases z
      exact He.exm_ok (c.t.d.fact 86 rfl)
    · have z := (He.glo_ok X G (c.t.d.fact 9 rfl)).symm.trans hC
      cases z
      exact He.exm_ok (c.t.d.fact 87 rfl)
    · have z := (He.glo_ok X G (c.t.d.fact 10 rfl)).symm.trans hC
      cases z
      exact He.exm_ok (c.t.d.fact 88 rfl),
  He.glo_ok X G (c.t.d.fact 3 rfl)⟩
variable [Tb]
section
variable {P : Program} {w : World} {K : PySem.W.Frag} {mg : Str → Option Value} {base : Heap}
theorem sc__law_blended : FnScope ["state", "turn", "found", "prime", "blend", "cell"] ["state"] (defScope (topS 46)) := ⟨rfl, rfl, rfl, by decide +kernel, rfl, by decide +kernel, by decide +kernel⟩
theorem ok_blended {f : Addr} {fd : FuncData} (F : Fun K "_law_blended" "_law_blended" (topS 46) f fd) (bint : mg "int" = none) : FnOk P w K mg base CX0 1 f fd ["state"] spBlend := by
  refine F.ok sc__law_blended (fun vs H Q E h => ?_) (fun cdv A outer s H vs Q E hr h => ?_)
  · obtain ⟨a, g, l, gs, ls, left, turn, rfl, _⟩ := h
    rfl
  · obtain ⟨a, g, l, gs, ls, left, turn, rfl, S, ht, k⟩ := h
    have hu := hu_of hr
    have nd := sc__law_blended.nd
    refine ⟨_, pss_cons (ps_par (i := 1) (j := 2) rfl nd rfl rfl (by decide) rfl rfl (pa_cons (pe_op op_add (pe_dget hu (pv 0) pe_str (fun _ _ => rfl)) pe_int) (pa_cons pe_int pa_nil)) (by rfl))
      (pss_cons (ps_dput hu (pv 0) pe_str (pv 1) rfl)
      (pss_cons (ps_for PassesOwn.never rfl (pi_list (pe_lst (pa_cons pe_int (pa_cons pe_int (pa_cons pe_int pa_nil))))) (pg_name (i := 3) nd rfl (Or.inl rfl))
        (pss_cons (ps_set (i := 4) nd rfl (Or.inl rfl) (pe_op op_add (pe_op op_mul pe_int (pv 1)) (pe_op op_fdivN (pv 3) pe_int)))
        (pss_cons (ps_for PassesOwn.never rfl (pi_list (pe_dget hu (pv 0) pe_str (fun _ _ => rfl))) (pg_name (i := 5) nd rfl (Or.inl rfl))
          (pss_one (ps_set (i := 4) nd rfl (Or.inl rfl) (pe_op op_modN (pe_callTy call_int1 (by rfl) bint PyProof.Rows.boot_int (pa_cons (pe_op op_add (pe_op op_add (pe_op op_mul (pv 4) pe_int) (pv 5)) (pv 1)) pa_nil)) (pv 3)))))
        (pss_one (ps_set (i := 2) nd rfl (Or.inl rfl) (pe_op op_add (pe_op op_mul (pv 2) pe_int) (pe_op op_modN (pe_callTy call_int1 (by rfl) bint PyProof.Rows.boot_int (pa_cons (pe_op op_pow (pv 4) pe_int) pa_nil)) (pv 3))))))))
      (pss_one (ps_ret (pv 2))))), ?_⟩
    obtain ⟨ag, al, gl, hs, hg, hl, g0, gn, l0, ln, lf0, t0⟩ := S
    -- turn, found = state['turn'] + 1, 0; state['turn'] = turn
    refine ⟨_, rfl, a, _, rfl, get_turn hs, _, _, rfl, rfl, _, _, rfl, ?_⟩
    refine ⟨_, rfl, _, rfl, a, _, rfl, put_turn hs, by show 3 ≤ sizeLine; decide, fun p hp => ?_⟩
    have hp0 : H p = none := by
      by_cases z : p = a
      · rw [z, upd_same] at hp; cases hp
      · rwa [upd_ne z] at hp
    have pa : p ≠ a := fun z => by rw [z, upd_same] at hp; cases hp
    have pl : p ≠ l := fun z => by rw [z, hl] at hp0; cases hp0
    refine ⟨p, rfl, ⟨_, SqL.of upd_same⟩, for_list (K := K) (a := p) (xs := [.int 2147483587, .int 2147483563, .int 2147483549]) (fun i σ H2 => H2 = upd (upd H a (.dK (stK g l left (turn + 1)))) p (.lst [.int 2147483587, .int 2147483563, .int 2147483549]) ∧ ∃ (x : Int) (v3 v4 v5 : Option V), 0 ≤ x ∧ σ = [some (.ref a), some (.int (turn + 1)), some (.int x), v3, v4, v5])
      ⟨rfl, 0, none, none, none, Int.le_refl 0, rfl⟩ (fun i σ H2 _ ⟨e, _⟩ => by rw [e]; exact SqL.of upd_same) ?_ ?_⟩
    · rintro i y σ H2 hi ⟨rfl, x, v3, v4, v5, hx, rfl⟩
      obtain ⟨pr, rfl, hpr⟩ : ∃ pr, y = V.int pr ∧ (0 < pr ∧ pr < 2147483648) := by
        match i, hi with
        | 0, h => cases h; exact ⟨_, rfl, by decide⟩
        | 1, h => cases h; exact ⟨_, rfl, by decide⟩
        | 2, h => cases h; exact ⟨_, rfl, by decide⟩
        | n + 3, h => simp at h
      have hs2 : (upd (upd H a (.dK (stK g l left (turn + 1)))) p (.lst [.int 2147483587, .int 2147483563, .int 2147483549])) a = some (.dK (stK g l left (turn + 1))) := by rw [upd_ne pa.symm, upd_same]
      have hl2 : (upd (upd H a (.dK (stK g l left (turn + 1)))) p (.lst [.int 2147483587, .int 2147483563, .int 2147483549])) l = some (.lst (ls.map V.int)) := by rw [upd_ne pl.symm, upd_ne al.symm]; exact hl
      -- blend = 40692 * turn + prime // 61
      refine ⟨_, rfl, _, _, rfl, rfl, .inl ⟨by decide, by decide⟩, _, rfl, _, _, rfl, rfl, ⟨by decide, by decide⟩, _, _, rfl, rfl, ?_⟩
      have hd : 0 ≤ pr.fdiv 61 ∧ pr.fdiv 61 < 2147483648 := by
        rw [Int.fdiv_eq_ediv_of_nonneg _ (by decide)]
        omega
      refine ⟨_, rfl, a, _, rfl, get_cells hs2, l, rfl, ⟨_, SqL.of hl2⟩, ?_⟩
      refine for_list (K := K) (a := l) (xs := ls.map V.int) (fun i σ H2 => H2 = upd (upd H a (.dK (stK g l left (turn + 1)))) p (.lst [.int 2147483587, .int 2147483563, .int 2147483549]) ∧ ∃ (b : Int) (v5 : Option V), 0 ≤ b ∧ b < 4611686018427387904 ∧ σ = [some (.ref a), some (.int (turn + 1)), some (.int x), some (.int pr), some (.int b), v5])
        ⟨rfl, _, v5, ?_, ?_, rfl⟩ (fun i σ H2 _ ⟨e, _⟩ => by rw [e]; exact SqL.of hl2) ?_ ?_
      · omega
      · omega
      · rintro i y σ H2 hi ⟨rfl, b, v5, hb0, hb1, rfl⟩
        obtain ⟨z, rfl, hz⟩ := at_map hi
        refine ⟨_, rfl, _, _, rfl, rfl, .inr ⟨by decide, by decide⟩, _, rfl, _, _, rfl, rfl, _, rfl, _, _, rfl, rfl, .inl ⟨_, rfl, _, rfl, _, _, rfl, rfl, by omega, ?_⟩⟩
        obtain ⟨q1, q2⟩ := blend_next (b := b) (c := z) (t := turn + 1) hpr.1
        exact ⟨rfl, _, _, q1, by omega, rfl⟩
      · rintro σ H2 ⟨rfl, b, v5, hb0, hb1, rfl⟩
        refine ⟨_, rfl, _, _, rfl, rfl, .inr ⟨by decide, by decide⟩, _, rfl, _, _, rfl, rfl, ⟨by decide, by decide, by omega⟩, .inl ⟨_, rfl, _, rfl, _, _, rfl, rfl, by omega, _, _, rfl, rfl, ?_⟩⟩
        refine ⟨rfl, _, _, _, _, ?_, rfl⟩
        have q : 0 ≤ (b ^ (5 : Int).toNat).fmod pr := by
          rw [Int.fmod_eq_emod_of_nonneg _ (by omega)]
          exact Int.emod_nonneg _ (by omega)
        have q2 : 0 ≤ x * 2147483647 := Int.mul_nonneg hx (by decide)
        omega
    · rintro σ H2 ⟨rfl, x, v3, v4, v5, hx, rfl⟩
      refine ⟨_, rfl, k x _ hx (by rw [upd_ne pa.symm, upd_same]) fun b o n e => ?_⟩
      rw [upd_ne (ne_of_none e hp0), upd_ne n]
      exact e
theorem sc__law_draw : FnScope ["state", "size_here", "found"] ["state", "size_here"] (defScope (topS 47)) := ⟨rfl, rfl, rfl, by decide +kernel, rfl, by decide +kernel, by decide +kernel⟩
theorem ok_draw {f fB : Addr} {fd fdB : FuncData} (F : Fun K "_law_draw" "_law_draw" (topS 47) f fd) (bint : mg "int" = none) (GB : FnOk P w K mg base CX0 1 fB fdB ["state"] spBlend) (mB : mg "_law_blended" = some (.ref fB)) (kB : PySem.W.keepIn K (.ref fB) = true) (bB : Binds K fdB ["state"] []) :
    FnOk P w K mg base CX0 2 f fd ["state", "size_here"] (spD K mg 2 S__law_draw) := by
  refine F.ok sc__law_draw (fun vs H Q E h => ?_) (fun cdv A outer s H vs Q E hr h => ?_)
  · obtain ⟨q, B, ds, T, post, ex, h1, _⟩ := h
    exact h1
  · obtain ⟨q, B, ds, T, post, ex, h1, b, r, ⟨n, rfl, hn0, hn1, hT, hpost⟩, c1, _, _⟩ := h
    have hu := hu_of hr
    have nd := sc__law_draw.nd
    obtain ⟨v1, v2, rfl, r1, r2⟩ := repL_2 r
    unfold Rep at r1
    obtain ⟨a, g, l, hq, rfl⟩ := r1
    obtain rfl := rep_int r2
    obtain ⟨gs, ls, left, turn, S, ht⟩ := stAt_of hq b.draw
    refine ⟨_, pss_cons (ps_if (pt_cmpR op_eq (pe_dget hu (pv 0) pe_str (fun _ _ => rfl)) pe_int (nomark _))
        (pss_one (ps_dput hu (pv 0) pe_str (pe_ifExp (pt_cmpR (op_neD hr.units) (pe_dget hu (pv 0) pe_str (fun _ _ => rfl)) (pe_lst pa_nil) (nomark _))
          (pe_bm PySem.F.plainAttrs_list PySem.F.slot_list_pop PySem.F.type_list_pop mt_popAt (pe_dget hu (pv 0) pe_str (fun _ _ => rfl)) (pa_cons pe_int pa_nil))
          (by exact pe_call GB hr rfl mB kB bB .nil pass0 (pa_cons (pv 0) pa_nil))) rfl)) pss_nil)
      (pss_cons (ps_set (i := 2) nd rfl (Or.inl rfl) (pe_op op_modN (pe_callTy call_int1 (by rfl) bint PyProof.Rows.boot_int (pa_cons (pe_dget hu (pv 0) pe_str (fun _ _ => rfl)) pa_nil)) (pv 1)))
      (pss_cons (ps_dput hu (pv 0) pe_str (pe_op op_fdivW (pe_dget hu (pv 0) pe_str (fun _ _ => rfl)) (pv 1)) rfl)
      (pss_one (ps_ret (pv 2))))), ?_⟩
    let P1 : Hp → Prop := fun H1 => ∃ (gs1 : List Int) (left1 turn1 : Int), StAt H1 a g l gs1 ls left1 turn1 ∧ turn1 ≤ turn + 1 ∧ (∀ b o, b ≠ a → b ≠ g → H b = some o → H1 b = some o)
    refine ⟨_, rfl, a, _, rfl, get_left S.st, rfl, _, rfl, ?_⟩
    by_cases hz : V.int left = V.int 0
    · rw [decide_eq_true hz]
      refine iteT ⟨_, rfl, a, _, rfl, get_great S.st, by show 0 ≤ sizeLine; decide, fun p hp => ?_⟩
      have pa : p ≠ a := fun z => by rw [z, S.st] at hp; cases hp
      have pg : p ≠ g := fun z => by rw [z, S.gr] at hp; cases hp
      have pl : p ≠ l := fun z => by rw [z, S.ce] at hp; cases hp
      have S1 : StAt (upd H p (.lst [])) a g l gs ls left turn := ⟨S.ag, S.al, S.gl, by rw [upd_ne pa.symm]; exact S.st, by rw [upd_ne pg.symm]; exact S.gr, by rw [upd_ne pl.symm]; exact S.ce, S.g0, S.gn, S.l0, S.ln, S.left0, S.turn0⟩
      have kp : ∀ b o, H b = some o → (upd H p (.lst [])) b = some o := fun b o e => by rw [upd_ne (ne_of_none e hp)]; exact e
      refine ⟨_, _, Dp.lst (SqL.of S1.gr) (dp_ints gs), Dp.lst (SqL.of upd_same) .nil, shaped_ints gs, by decide +kernel, _, rfl, ?_⟩
      rw [eqv_ints]
      cases gs with
      | nil =>
        refine iteF ⟨_, rfl, a, g, l, _, ls, left, turn, rfl, S1, by omega, fun r H' h0 h1 h2 => ?_⟩
        have h1' : H' a = some (.dK (stK g l left (turn + 1))) := h1
        refine ⟨_, rfl, a, _, rfl, put_left h1', ?_⟩
        have key : P1 (upd H' a (.dK (stK g l r (turn + 1)))) := ⟨[], r, turn + 1, ⟨S.ag, S.al, S.gl, upd_same, by rw [upd_ne S.ag.symm]; exact h2 g _ S.ag.symm S1.gr, by rw [upd_ne S.al.symm]; exact h2 l _ S.al.symm S1.ce, S.g0, S.gn, S.l0, S.ln, h0, by have := S.turn0; omega⟩, Int.le_refl _, fun b o n1 n2 e => by rw [upd_ne n1]; exact h2 b o n1 (kp b o e)⟩
        revert key
        generalize (upd H' a (.dK (stK g l r (turn + 1)))) = H1
        intro key
        obtain ⟨gs1, left1, turn1, Z, ht1, kp1⟩ := key
        refine ⟨_, rfl, a, _, rfl, get_left Z.st, .inl ⟨_, rfl, _, rfl, _, _, rfl, rfl, by omega, _, rfl, a, _, rfl, get_left Z.st, _, rfl, _, _, rfl, rfl, divW hn0 hn1, _, rfl, a, _, rfl, put_left Z.st, _, rfl, ?_⟩⟩
        have hm : 0 ≤ left1.fmod n ∧ left1.fmod n < n := by
          rw [Int.fmod_eq_emod_of_nonneg _ (by omega)]
          exact ⟨Int.emod_nonneg _ (by omega), Int.emod_lt_of_pos _ hn0⟩
        have hd : 0 ≤ left1 / n := Int.ediv_nonneg Z.left0 (by omega)
        have Z2 : StAt (upd H1 a (.dK (stK g l (left1 / n) turn1))) a g l gs1 ls (left1 / n) turn1 := ⟨Z.ag, Z.al, Z.gl, upd_same, by rw [upd_ne Z.ag.symm]; exact Z.gr, by rw [upd_ne Z.al.symm]; exact Z.ce, Z.g0, Z.gn, Z.l0, Z.ln, hd, Z.turn0⟩
        refine c1 _ _ B _ (T + 1) (b.moved hq S Z2 (by omega) fun x o n1 n2 e => ?_) int_rep (hpost _ hm.1 hm.2)
        rw [upd_ne n1]
        exact kp1 x o n1 n2 e
      | cons z zs =>
        refine iteT ⟨_, rfl, a, _, rfl, get_great S1.st, .inl ⟨rfl, _, SqL.of S1.gr⟩, _, _, 0, 0, V.int z, rfl, rfl, S1.gr, by decide, by decide, by simp [seqIndex?], rfl, ?_⟩
        have ha2 : (upd (upd H p (.lst [])) g (.lst ((List.map V.int (z :: zs)).eraseIdx 0))) a = some (.dK (stK g l left turn)) := by rw [upd_ne S.ag]; exact S1.st
        refine ⟨_, rfl, a, _, rfl, put_left ha2, ?_⟩
        have key : P1 (upd (upd (upd H p (.lst [])) g (.lst ((List.map V.int (z :: zs)).eraseIdx 0))) a (.dK (stK g l z turn))) := ⟨zs, z, turn, ⟨S.ag, S.al, S.gl, upd_same, by rw [upd_ne S.ag.symm, upd_same]; rfl, by rw [upd_ne S.al.symm, upd_ne S.gl.symm]; exact S1.ce, fun x hx => S.g0 x (List.mem_cons_of_mem _ hx), by have := S.gn; simp only [List.length_cons] at this; omega, S.l0, S.ln, S.g0 z List.mem_cons_self, S.turn0⟩, by omega, fun b o n1 n2 e => by rw [upd_ne n1, upd_ne n2]; exact kp b o e⟩
        revert key
        generalize (upd (upd (upd H p (.lst [])) g (.lst ((List.map V.int (z :: zs)).eraseIdx 0))) a (.dK (stK g l z turn))) = H1
        intro key
        obtain ⟨gs1, left1, turn1, Z, ht1, kp1⟩ := key
        refine ⟨_, rfl, a, _, rfl, get_left Z.st, .inl ⟨_, rfl, _, rfl, _, _, rfl, rfl, by omega, _, rfl, a, _, rfl, get_left Z.st, _, rfl, _, _, rfl, rfl, divW hn0 hn1, _, rfl, a, _, rfl, put_left Z.st, _, rfl, ?_⟩⟩
        have hm : 0 ≤ left1.fmod n ∧ left1.fmod n < n := by
          rw [Int.fmod_eq_emod_of_nonneg _ (by omega)]
          exact ⟨Int.emod_nonneg _ (by omega), Int.emod_lt_of_pos _ hn0⟩
        have hd : 0 ≤ left1 / n := Int.ediv_nonneg Z.left0 (by omega)
        have Z2 : StAt (upd H1 a (.dK (stK g l (left1 / n) turn1))) a g l gs1 ls (left1 / n) turn1 := ⟨Z.ag, Z.al, Z.gl, upd_same, by rw [upd_ne Z.ag.symm]; exact Z.gr, by rw [upd_ne Z.al.symm]; exact Z.ce, Z.g0, Z.gn, Z.l0, Z.ln, hd, Z.turn0⟩
        refine c1 _ _ B _ (T + 1) (b.moved hq S Z2 (by omega) fun x o n1 n2 e => ?_) int_rep (hpost _ hm.1 hm.2)
        rw [upd_ne n1]
        exact kp1 x o n1 n2 e
    · rw [decide_eq_false hz]
      refine iteF ?_
      have key : P1 H := ⟨gs, left, turn, S, by omega, fun b o _ _ e => e⟩
      revert key
      generalize hH : H = H1
      intro key
      subst hH
      obtain ⟨gs1, left1, turn1, Z, ht1, kp1⟩ := key
      refine ⟨_, rfl, a, _, rfl, get_left Z.st, .inl ⟨_, rfl, _, rfl, _, _, rfl, rfl, by omega, _, rfl, a, _, rfl, get_left Z.st, _, rfl, _, _, rfl, rfl, divW hn0 hn1, _, rfl, a, _, rfl, put_left Z.st, _, rfl, ?_⟩⟩
      have hm : 0 ≤ left1.fmod n ∧ left1.fmod n < n := by
        rw [Int.fmod_eq_emod_of_nonneg _ (by omega)]
        exact ⟨Int.emod_nonneg _ (by omega), Int.emod_lt_of_pos _ hn0⟩
      have hd : 0 ≤ left1 / n := Int.ediv_nonneg Z.left0 (by omega)
      have Z2 : StAt (upd H a (.dK (stK g l (left1 / n) turn1))) a g l gs1 ls (left1 / n) turn1 := ⟨Z.ag, Z.al, Z.gl, upd_same, by rw [upd_ne Z.ag.symm]; exact Z.gr, by rw [upd_ne Z.al.symm]; exact Z.ce, Z.g0, Z.gn, Z.l0, Z.ln, hd, Z.turn0⟩
      refine c1 _ _ B _ (T + 1) (b.moved hq S Z2 (by omega) fun x o n1 n2 e => ?_) int_rep (hpost _ hm.1 hm.2)
      rw [upd_ne n1]
      exact kp1 x o n1 n2 e

theorem kn__law_draw (T : Txt K mg) : Kn P w K mg base CX0 2 "_law_draw" ["state", "size_here"] S__law_draw := by
  obtain ⟨f, fd, F, m, kp, b⟩ := T.d__law_blended.ex
  exact T.d__law_draw.kn fun f2 fd2 F2 => ok_draw F2 T.b_int (ok_blended F T.b_int) m kp b
theorem sc__law_begun : FnScope ["script", "great", "cell"] ["script"] (defScope (topS 45)) := ⟨rfl, rfl, rfl, by decide +kernel, rfl, by decide +kernel, by decide +kernel⟩
theorem ok_begun {f : Addr} {fd : FuncData} (F : Fun K "_law_begun" "_law_begun" (topS 45) f fd) (babs : mg "abs" = none) : FnOk P w K mg base CX0 1 f fd ["script"] (spBegun K) := by
  refine F.ok sc__law_begun (fun vs H Q E h => ?_) (fun cdv A outer s H vs Q E hr h => ?_)
  · obtain ⟨a, ns, rfl, _⟩ := h
    rfl
  · obtain ⟨a, ns, rfl, hS, hl, hT, hQ⟩ := h
    have nd := sc__law_begun.nd
    refine ⟨_, pss_cons (g_setLc (W := W0) (vs := [2]) (i := 1) (Ft := dTest (dOp (dCmpI fun i j => decide (j ≤ i)) F_abs F_big)) (Fe := dOp dSub F_abs F_big) rfl nd (i_seq (dv 0)) (blkOk_by (N := ["script", "great", "cell"]) (sc := defScope (topS 45)) (own := [("cell", 2)]) (by decide +kernel)) (fun _ _ _ _ _ => t_name (i := 2) nd)
        (fun _ _ _ _ _ => ts_one (d_cmpT o_ge (d_callB c_abs (by rfl) babs (by decide +kernel) (d_cons (dv 2) d_nil)) (d_op o_pow d_int d_int) (nomark _))) (fun _ _ _ _ _ => d_op o_sub (d_callB c_abs (by rfl) babs (by decide +kernel) (d_cons (dv 2) d_nil)) (d_op o_pow d_int d_int)) (sw_true rfl rfl rfl (by decide +kernel))).ps
      (pss_one (ps_ret (pe_disp (pps_cons pe_str (pe_var (i := 1) rfl (Or.inl rfl) (by decide) (by decide)) (pps_cons pe_str (d_lc (W := W0) (vs := [2]) (T := tgN 2) (Fe := F_abs) rfl nd (i_seq (dv 0)) (blkOk_by (N := ["script", "great", "cell"]) (sc := defScope (topS 45)) (own := [("cell", 2)]) (by decide +kernel)) (fun _ _ _ _ _ => t_name (i := 2) nd) (fun _ _ _ _ _ => ts_nil)
        (fun _ _ _ _ _ => d_callB c_abs (by rfl) babs (by decide +kernel) (d_cons (dv 2) d_nil))).pe (pps_cons pe_str pe_int (pps_cons pe_str pe_int pps_nil)))) rfl rfl (by simp) (by decide)))), ?_⟩
    obtain ⟨B, le, hB, nt, only⟩ := scr_part hS
    have b0 := bs_none (K := K) (mg := mg) (T := 0) le nt hT
    have at0 : At ⟨K, mg, ⟨none⟩⟩ [] H B (L2.start ["script", "great", "cell"] [.ref a]) H (startD 3 [.scr ns] 0) B := start_at b0 (by unfold RepL; exact ⟨.ref a, [], rfl, by unfold Rep; exact ⟨a, rfl, hB⟩, by unfold RepL; rfl⟩)
    refine ⟨⟨none⟩, [], H, B, startD 3 [.scr ns] 0, B, { nx := fun s => ∃ gs : List Int, s = ⟨[some (.fz (.scr ns)), some (.ow (.lst (gs.map D.int))), none], 0⟩ ∧ (∀ x ∈ gs, 0 ≤ x) ∧ gs.length ≤ 63, rt := fun _ _ => False, bk := fun _ => False, ct := fun _ => False, ex := fun _ _ _ => False }, at0, m_great ns hl 0 _ _ (fun gs h0 hn => ⟨gs, rfl, h0, hn⟩), ⟨fun σ H1 s1 B1 t1 l1 n1 => ?_, fun _ _ _ _ _ _ z => z.elim, fun _ _ _ _ _ _ z => z.elim, fun _ _ _ _ _ _ _ _ _ z => z.elim, fun _ _ _ _ _ _ _ _ _ _ _ z => z.elim, fun _ _ _ _ _ _ _ _ _ _ _ z => z.elim⟩⟩
    obtain ⟨gs, rfl, g0, gn⟩ := n1
    obtain ⟨g, og, hv, fg, _, _, _⟩ := t1.ow 1 _ rfl
    intro p hp
    refine ⟨.ref g, hv, ?_⟩
    have t2 := t1.holdNew (o := .dK []) hp (fun ps z => by cases z)
    refine ⟨⟨none⟩, _, H, B, _, B1, fun d s => s = ⟨[some (.fz (.scr ns)), some (.ow (.lst (gs.map D.int))), none], 0⟩ ∧ ∃ ls : List Int, d = .lst (ls.map D.int) ∧ (∀ x ∈ ls, 0 ≤ x) ∧ ls.length ≤ 63, fun _ _ _ => False, t2, m_cells ns hl _ _ _ _ (fun ls h0 hn => ⟨rfl, ls, rfl, h0, hn⟩), fun l o H2 d s2 B2 t3 l3 hl2 ro pp => ?_, fun _ _ _ _ _ _ _ _ _ _ z => z.elim⟩
    obtain ⟨rfl, ls, rfl, k0, kn⟩ := pp
    obtain ⟨ys, rfl, hy⟩ := ro
    obtain ⟨g', og, hv', _, _, hg2, zs, rfl, hz⟩ := t3.ow 1 _ rfl
    rw [hv] at hv'
    cases hv'
    cases repL_ints_eq hy
    cases repL_ints_eq hz
    obtain ⟨hp2, fp, _, _, _⟩ := t3.hold (p, .dK []) List.mem_cons_self
    have lg : g ≠ l := ne_of_none hg2 hl2
    have lp : p ≠ l := ne_of_none hp2 hl2
    have pg : p ≠ g := fun z => by
      rw [z, hg2] at hp2
      cases hp2
    refine ⟨(by rw [upd_ne lp]; exact hp2), stK g l 0 0, rfl, (by show 4 ≤ 15; decide), ?_⟩
    rw [st_merge]
    have bF := t3.bs.own (o := .lst (ls.map V.int)) hl2
    have keep : ∀ b o, H b = some o → (∀ ps, o ≠ .tbl ps) → upd (upd H2 l (.lst (ls.map V.int))) p (.dK (stK g l 0 0)) b = some o := fun b o e nt => by
      have q := bF.frame b o e (by simp [Ct.drs]) nt
      rw [upd_ne (fp.ne e nt)]
      exact q
    refine hQ p g l gs ls _ ⟨pg, lp, lg, upd_same, ?_, ?_, g0, gn, k0, kn, Int.le_refl 0, Int.le_refl 0⟩ fp fg (t3.bs.fresh hl2) keep ?_
    · rw [upd_ne pg.symm, upd_ne lg]; exact hg2
    · rw [upd_ne lp.symm, upd_same]
    · intro x hx
      obtain ⟨ps, e1, e2, e3⟩ := bF.tabs x hx
      have hp3 : upd H2 l (.lst (ls.map V.int)) p = some (.dK []) := by rw [upd_ne lp]; exact hp2
      have n1 : x.1 ≠ p := fun z => by rw [z, hp3] at e1; cases e1
      refine ⟨ps, by rw [upd_ne n1]; exact e1, e2, fun pos cv hc => ?_⟩
      obtain ⟨cc, q1, q2⟩ := e3 pos cv hc
      have n2 : cc ≠ p := fun z => by
        rw [z, hp3] at q2
        unfold LamX.CodeO at q2
        cases q2
      exact ⟨cc, q1, by rw [upd_ne n2]; exact q2⟩

end
section
variable {P : Program} {w : World} {K : PySem.W.Frag} {mg : Str → Option Value} {base : Heap}
theorem sc_is_number : FnScope ["thing"] ["thing"] (defScope (topS 1)) := ⟨rfl, rfl, rfl, by decide +kernel, rfl, by decide +kernel, by decide +kernel⟩
theorem b_is_number (T : Txt K mg)  {f : Addr} {cdv : Value} {A : Around} {outer : List Env} {s : Shared} {H : Hp} {E : XK} (hr : Room 0 (A.deeper (PyProof.Rows.envOfC "is_number" (defScope (topS 1)) s.heap.objs.size f cdv))) :
    DPSs (cxOf CX0 P w K mg base ["thing"] "is_number" (defScope (topS 1)) f cdv A outer s H E).nox W0 (defBody (topS 1)) G_is_number := by
  exact (g_one (g_ret (d_and (d_isTy T.b_isinstance T.b_int (by decide +kernel) (dv 0)) (d_one (d_not (d_isTy T.b_isinstance T.b_bool (by decide +kernel) (dv 0)))))))
theorem kn_is_number (T : Txt K mg) : Kn P w K mg base CX0 1 "is_number" ["thing"] S_is_number := T.d_is_number.kn fun f fd F => fn_ok F sc_is_number (fun cdv A outer s H E hr => b_is_number T  hr) fun ds T post ex hl hS => m_is_number ds T post (fun _ _ _ => False) hl hS
theorem sc_is_number_within : FnScope ["thing", "low", "high"] ["thing", "low", "high"] (defScope (topS 2)) := ⟨rfl, rfl, rfl, by decide +kernel, rfl, by decide +kernel, by decide +kernel⟩
theorem b_is_number_within (T : Txt K mg) (k_is_number : Kn P w K mg base CX0 1 "is_number" ["thing"] S_is_number) {f : Addr} {cdv : Value} {A : Around} {outer : List Env} {s : Shared} {H : Hp} {E : XK} (hr : Room 1 (A.deeper (PyProof.Rows.envOfC "is_number_within" (defScope (topS 2)) s.heap.objs.size f cdv))) :
    DPSs (cxOf CX0 P w K mg base ["thing", "low", "high"] "is_number_within" (defScope (topS 2)) f cdv A outer s H E).nox W0 (defBody (topS 2)) G_is_number_within := by
  exact (g_one (g_ret (d_and (d_call k_is_number (hr.mono (by decide)) (d_cons (dv 0) d_nil)) (d_one (d_chain o_le o_le (dv 1) (dv 0) (dv 2))))))
theorem kn_is_number_within (T : Txt K mg) : Kn P w K mg base CX0 2 "is_number_within" ["thing", "low", "high"] S_is_number_within := T.d_is_number_within.kn fun f fd F => fn_ok F sc_is_number_within (fun cdv A outer s H E hr => b_is_number_within T (kn_is_number T) hr) fun ds T post ex hl hS => m_is_number_within ds T post (fun _ _ _ => False) hl hS
theorem sc_is_tuple_of : FnScope ["thing", "many"] ["thing", "many"] (defScope (topS 3)) := ⟨rfl, rfl, rfl, by decide +kernel, rfl, by decide +kernel, by decide +kernel⟩
theorem b_is_tuple_of (T : Txt K mg)  {f : Addr} {cdv : Value} {A : Around} {outer : List Env} {s : Shared} {H : Hp} {E : XK} (hr : Room 0 (A.deeper (PyProof.Rows.envOfC "is_tuple_of" (defScope (topS 3)) s.heap.objs.size f cdv))) :
    DPSs (cxOf CX0 P w K mg base ["thing", "many"] "is_tuple_of" (defScope (topS 3)) f cdv A outer s H E).nox W0 (defBody (topS 3)) G_is_tuple_of := by
  exact (g_one (g_ret (d_and (d_isTy T.b_isinstance T.b_tuple (by decide +kernel) (dv 0)) (d_one (d_cmp (o_eq hr.units) (d_callB c_len (by rfl) T.b_len (by decide +kernel) (d_cons (dv 0) d_nil)) (dv 1) (nomark _))))))
theorem kn_is_tuple_of (T : Txt K mg) : Kn P w K mg base CX0 1 "is_tuple_of" ["thing", "many"] S_is_tuple_of := T.d_is_tuple_of.kn fun f fd F => fn_ok F sc_is_tuple_of (fun cdv A outer s H E hr => b_is_tuple_of T  hr) fun ds T post ex hl hS => m_is_tuple_of ds T post (fun _ _ _ => False) hl hS
theorem sc_is_room_count : FnScope ["thing"] ["thing"] (defScope (topS 18)) := ⟨rfl, rfl, rfl, by decide +kernel, rfl, by decide +kernel, by decide +kernel⟩
theorem b_is_room_count (T : Txt K mg) (k_is_number_within : Kn P w K mg base CX0 2 "is_number_within" ["thing", "low", "high"] S_is_number_within) {f : Addr} {cdv : Value} {A : Around} {outer : List Env} {s : Shared} {H : Hp} {E : XK} (hr : Room 2 (A.deeper (PyProof.Rows.envOfC "is_room_count" (defScope (topS 18)) s.heap.objs.size f cdv))) :
    DPSs (cxOf CX0 P w K mg base ["thing"] "is_room_count" (defScope (topS 18)) f cdv A outer s H E).nox W0 (defBody (topS 18)) G_is_room_count := by
  exact (g_one (g_ret (d_call k_is_number_within (hr.mono (by decide)) (d_cons (dv 0) (d_cons d_int (d_cons (d_gint T.c_MOST_ROOMS) d_nil))))))
theorem kn_is_room_count (T : Txt K mg) : Kn P w K mg base CX0 3 "is_room_count" ["thing"] S_is_room_count := T.d_is_room_count.kn fun f fd F => fn_ok F sc_is_room_count (fun cdv A outer s H E hr => b_is_room_count T (kn_is_number_within T) hr) fun ds T post ex hl hS => m_is_room_count ds T post (fun _ _ _ => False) hl hS
theorem sc__is_door_number : FnScope ["thing"] ["thing"] (defScope (topS 20)) := ⟨rfl, rfl, rfl, by decide +kernel, rfl, by decide +kernel, by decide +kernel⟩
theorem b__is_door_number (T : Txt K mg) (k_is_number_within : Kn P w K mg base CX0 2 "is_number_within" ["thing", "low", "high"] S_is_number_within) {f : Addr} {cdv : Value} {A : Around} {outer : List Env} {s : Shared} {H : Hp} {E : XK} (hr : Room 2 (A.deeper (PyProof.Rows.envOfC "_is_door_number" (defScope (topS 20)) s.heap.objs.size f cdv))) :
    DPSs (cxOf CX0 P w K mg base ["thing"] "_is_door_number" (defScope (topS 20)) f cdv A outer s H E).nox W0 (defBody (topS 20)) G__is_door_number := by
  exact (g_one (g_ret (d_and (d_call k_is_number_within (hr.mono (by decide)) (d_cons (dv 0) (d_cons (d_neg (d_gint T.c_GREATEST)) (d_cons (d_gint T.c_GREATEST) d_nil)))) (d_one (d_cmp (o_ne hr.units) (dv 0) d_int (nomark _))))))
theorem kn__is_door_number (T : Txt K mg) : Kn P w K mg base CX0 3 "_is_door_number" ["thing"] S__is_door_number := T.d__is_door_number.kn fun f fd F => fn_ok F sc__is_door_number (fun cdv A outer s H E hr => b__is_door_number T (kn_is_number_within T) hr) fun ds T post ex hl hS => m__is_door_number ds T post (fun _ _ _ => False) hl hS
theorem sc__least_apart : FnScope ["rooms", "doors", "reached", "_", "near", "far", "room"] ["rooms", "doors"] (defScope (topS 22)) := ⟨rfl, rfl, rfl, by decide +kernel, rfl, by decide +kernel, by decide +kernel⟩
theorem b__least_apart (T : Txt K mg)  {f : Addr} {cdv : Value} {A : Around} {outer : List Env} {s : Shared} {H : Hp} {E : XK} (hr : Room 0 (A.deeper (PyProof.Rows.envOfC "_least_apart" (defScope (topS 22)) s.heap.objs.size f cdv))) :
    DPSs (cxOf CX0 P w K mg base ["rooms", "doors", "reached", "_", "near", "far", "room"] "_least_apart" (defScope (topS 22)) f cdv A outer s H E).nox W0 (defBody (topS 22)) G__least_apart := by
  exact (g_cons (g_setLc (i := 2) rfl sc__least_apart.nd (i_range1 T.b_range (dv 0)) (blkOk_by (N := ["rooms", "doors", "reached", "_", "near", "far", "room"]) (sc := defScope (topS 22)) (own := [("room", 6)]) (by decide +kernel)) (fun _ _ _ _ _ => (t_name sc__least_apart.nd)) (fun _ _ _ _ _ => ts_nil) (fun _ _ _ _ _ => (d_cmp (o_eq hr.units) (dv 6) d_int (nomark _))) (sw_true rfl rfl rfl (by decide +kernel)))
      (g_cons (g_for (vs := [3]) PassesOwn.never rfl (i_range1 T.b_range (dv 0)) (t_name sc__least_apart.nd) (g_one (g_for (vs := [4, 3, 5, 3]) PassesOwn.never rfl (i_seq (dv 1)) (t_tup rfl (t_cons (t_name sc__least_apart.nd) (t_cons (t_name sc__least_apart.nd) (t_cons (t_name sc__least_apart.nd) (t_cons (t_name sc__least_apart.nd) t_nil))))) (g_one (g_if (DPW.pt (d_tor (d_test (d_ixV 2 (dv 4))) (d_tor1 (d_test (d_ixV 2 (dv 5)))))) (g_one (g_put2 2 2 d_bl (dv 4) (dv 5))) g_nil)))))
      (g_cons (g_if (d_test (d_callB (c_all (cr_all rfl)) (by rfl) T.b_all (by decide +kernel) (d_cons (dv 2) d_nil))) (g_one (g_ret d_non)) g_nil)
      (g_one (g_ret (d_index 2 d_bl))))))
theorem kn__least_apart (T : Txt K mg) : Kn P w K mg base CX0 1 "_least_apart" ["rooms", "doors"] S__least_apart := T.d__least_apart.kn fun f fd F => fn_ok F sc__least_apart (fun cdv A outer s H E hr => b__least_apart T  hr) fun ds T post ex hl hS => m__least_apart ds T post (fun _ _ _ => False) hl hS
theorem sc_need_house : FnScope ["house"] ["house"] (defScope (topS 23)) := ⟨rfl, rfl, rfl, by decide +kernel, rfl, by decide +kernel, by decide +kernel⟩
theorem b_need_house (T : Txt K mg)  {f : Addr} {cdv : Value} {A : Around} {outer : List Env} {s : Shared} {H : Hp} {E : XK} (hr : Room 0 (A.deeper (PyProof.Rows.envOfC "need_house" (defScope (topS 23)) s.heap.objs.size f cdv))) :
    DPSs (cxOf (L2.CX P w) P w K mg base ["house"] "need_house" (defScope (topS 23)) f cdv A outer s H E) (wE E) (defBody (topS 23)) G_need_house := by
  have tk : Takes (cxOf (L2.CX P w) P w K mg base ["house"] "need_house" (defScope (topS 23)) f cdv A outer s H E) (wE E) := takes_of rfl rfl rfl rfl
  exact (g_one (g_if (d_tnot (d_test (d_isO T.b_isinstance T.i_House (dv 0)))) (g_one (g_raise rfl tk T.e_BadHouse)) g_nil))
theorem kn_need_house (T : Txt K mg) : Kn P w K mg base (L2.CX P w) 1 "need_house" ["house"] S_need_house := T.d_need_house.kn fun f fd F => fn_okX F sc_need_house (fun cdv A outer s H E hr => b_need_house T  hr) fun ds T post ex hl hS => m_need_house ds T post ex hl hS
theorem sc_is_room : FnScope ["house", "thing"] ["house", "thing"] (defScope (topS 24)) := ⟨rfl, rfl, rfl, by decide +kernel, rfl, by decide +kernel, by decide +kernel⟩
theorem b_is_room (T : Txt K mg) (k_is_number_within : Kn P w K mg base CX0 2 "is_number_within" ["thing", "low", "high"] S_is_number_within) {f : Addr} {cdv : Value} {A : Around} {outer : List Env} {s : Shared} {H : Hp} {E : XK} (hr : Room 2 (A.deeper (PyProof.Rows.envOfC "is_room" (defScope (topS 24)) s.heap.objs.size f cdv))) :
    DPSs (cxOf CX0 P w K mg base ["house", "thing"] "is_room" (defScope (topS 24)) f cdv A outer s H E).nox W0 (defBody (topS 24)) G_is_room := by
  exact (g_one (g_ret (d_call k_is_number_within (hr.mono (by decide)) (d_cons (dv 1) (d_cons d_int (d_cons (d_op o_sub (d_fld T.f_rooms (dv 0)) d_int) d_nil))))))
theorem kn_is_room (T : Txt K mg) : Kn P w K mg base CX0 3 "is_room" ["house", "thing"] S_is_room := T.d_is_room.kn fun f fd F => fn_ok F sc_is_room (fun cdv A outer s H E hr => b_is_room T (kn_is_number_within T) hr) fun ds T post ex hl hS => m_is_room ds T post (fun _ _ _ => False) hl hS
theorem sc_is_pass : FnScope ["house", "thing", "door", "side"] ["house", "thing"] (defScope (topS 25)) := ⟨rfl, rfl, rfl, by decide +kernel, rfl, by decide +kernel, by decide +kernel⟩
theorem b_is_pass (T : Txt K mg) (k_is_tuple_of : Kn P w K mg base CX0 1 "is_tuple_of" ["thing", "many"] S_is_tuple_of) (k_is_number_within : Kn P w K mg base CX0 2 "is_number_within" ["thing", "low", "high"] S_is_number_within) {f : Addr} {cdv : Value} {A : Around} {outer : List Env} {s : Shared} {H : Hp} {E : XK} (hr : Room 2 (A.deeper (PyProof.Rows.envOfC "is_pass" (defScope (topS 25)) s.heap.objs.size f cdv))) :
    DPSs (cxOf CX0 P w K mg base ["house", "thing", "door", "side"] "is_pass" (defScope (topS 25)) f cdv A outer s H E).nox W0 (defBody (topS 25)) G_is_pass := by
  exact (g_cons (g_if (d_tnot (d_test (d_call k_is_tuple_of (hr.mono (by decide)) (d_cons (dv 1) (d_cons d_int d_nil))))) (g_one (g_ret d_bl)) g_nil)
      (g_cons (g_unp (vs := [2, 3]) (t_tup rfl (t_cons (t_name sc_is_pass.nd) (t_cons (t_name sc_is_pass.nd) t_nil))) (dv 1))
      (g_one (g_ret (d_and (d_call k_is_number_within (hr.mono (by decide)) (d_cons (dv 2) (d_cons d_int (d_cons (d_op o_sub (d_callB c_len (by rfl) T.b_len (by decide +kernel) (d_cons (d_fld T.f_doors (dv 0)) d_nil)) d_int) d_nil)))) (d_one (d_call k_is_number_within (hr.mono (by decide)) (d_cons (dv 3) (d_cons d_int (d_cons d_int d_nil))))))))))
theorem kn_is_pass (T : Txt K mg) : Kn P w K mg base CX0 3 "is_pass" ["house", "thing"] S_is_pass := T.d_is_pass.kn fun f fd F => fn_ok F sc_is_pass (fun cdv A outer s H E hr => b_is_pass T (kn_is_tuple_of T) (kn_is_number_within T) hr) fun ds T post ex hl hS => m_is_pass ds T post (fun _ _ _ => False) hl hS
theorem sc_back_of : FnScope ["step", "door", "side"] ["step"] (defScope (topS 26)) := ⟨rfl, rfl, rfl, by decide +kernel, rfl, by decide +kernel, by decide +kernel⟩
theorem b_back_of (T : Txt K mg)  {f : Addr} {cdv : Value} {A : Around} {outer : List Env} {s : Shared} {H : Hp} {E : XK} (hr : Room 0 (A.deeper (PyProof.Rows.envOfC "back_of" (defScope (topS 26)) s.heap.objs.size f cdv))) :
    DPSs (cxOf CX0 P w K mg base ["step", "door", "side"] "back_of" (defScope (topS 26)) f cdv A outer s H E).nox W0 (defBody (topS 26)) G_back_of := by
  exact (g_cons (g_unp (vs := [1, 2]) (t_tup rfl (t_cons (t_name sc_back_of.nd) (t_cons (t_name sc_back_of.nd) t_nil))) (dv 0))
      (g_one (g_ret (d_tup (d_cons (dv 1) (d_cons (d_op o_sub d_int (dv 2)) d_nil))))))
theorem kn_back_of (T : Txt K mg) : Kn P w K mg base CX0 1 "back_of" ["step"] S_back_of := T.d_back_of.kn fun f fd F => fn_ok F sc_back_of (fun cdv A outer s H E hr => b_back_of T  hr) fun ds T post ex hl hS => m_back_of ds T post (fun _ _ _ => False) hl hS
theorem sc_ends_of : FnScope ["house", "step", "door", "side", "near", "first", "far", "second"] ["house", "step"] (defScope (topS 27)) := ⟨rfl, rfl, rfl, by decide +kernel, rfl, by decide +kernel, by decide +kernel⟩
theorem b_ends_of (T : Txt K mg)  {f : Addr} {cdv : Value} {A : Around} {outer : List Env} {s : Shared} {H : Hp} {E : XK} (hr : Room 0 (A.deeper (PyProof.Rows.envOfC "ends_of" (defScope (topS 27)) s.heap.objs.size f cdv))) :
    DPSs (cxOf CX0 P w K mg base ["house", "step", "door", "side", "near", "first", "far", "second"] "ends_of" (defScope (topS 27)) f cdv A outer s H E).nox W0 (defBody (topS 27)) G_ends_of := by
  exact (g_cons (g_unp (vs := [2, 3]) (t_tup rfl (t_cons (t_name sc_ends_of.nd) (t_cons (t_name sc_ends_of.nd) t_nil))) (dv 1))
      (g_cons (g_unp (vs := [4, 5, 6, 7]) (t_tup rfl (t_cons (t_name sc_ends_of.nd) (t_cons (t_name sc_ends_of.nd) (t_cons (t_name sc_ends_of.nd) (t_cons (t_name sc_ends_of.nd) t_nil))))) (d_ix (d_fld T.f_doors (dv 0)) (dv 2)))
      (g_cons (g_if (d_cmpT (o_eq hr.units) (dv 3) d_int (nomark _)) (g_one (g_ret (d_tup (d_cons (dv 4) (d_cons (dv 5) (d_cons (dv 6) (d_cons (dv 7) d_nil))))))) g_nil)
      (g_one (g_ret (d_tup (d_cons (dv 6) (d_cons (dv 7) (d_cons (dv 4) (d_cons (dv 5) d_nil))))))))))
theorem kn_ends_of (T : Txt K mg) : Kn P w K mg base CX0 1 "ends_of" ["house", "step"] S_ends_of := T.d_ends_of.kn fun f fd F => fn_ok F sc_ends_of (fun cdv A outer s H E hr => b_ends_of T  hr) fun ds T post ex hl hS => m_ends_of ds T post (fun _ _ _ => False) hl hS
theorem sc__hang_together : FnScope ["house", "room", "passes", "here", "step", "start", "_", "there"] ["house", "room", "passes"] (defScope (topS 31)) := ⟨rfl, rfl, rfl, by decide +kernel, rfl, by decide +kernel, by decide +kernel⟩
theorem b__hang_together (T : Txt K mg) (k_ends_of : Kn P w K mg base CX0 1 "ends_of" ["house", "step"] S_ends_of) {f : Addr} {cdv : Value} {A : Around} {outer : List Env} {s : Shared} {H : Hp} {E : XK} (hr : Room 1 (A.deeper (PyProof.Rows.envOfC "_hang_together" (defScope (topS 31)) s.heap.objs.size f cdv))) :
    DPSs (cxOf CX0 P w K mg base ["house", "room", "passes", "here", "step", "start", "_", "there"] "_hang_together" (defScope (topS 31)) f cdv A outer s H E).nox W0 (defBody (topS 31)) G__hang_together := by
  exact (g_cons (g_set (i := 3) sc__hang_together.nd (dv 1))
      (g_cons (g_for (vs := [4]) PassesOwn.never rfl (i_seq (dv 2)) (t_name sc__hang_together.nd) (g_cons (g_unp (vs := [5, 6, 7, 6]) (t_tup rfl (t_cons (t_name sc__hang_together.nd) (t_cons (t_name sc__hang_together.nd) (t_cons (t_name sc__hang_together.nd) (t_cons (t_name sc__hang_together.nd) t_nil))))) (d_call k_ends_of (hr.mono (by decide)) (d_cons (dv 0) (d_cons (dv 4) d_nil))))
      (g_cons (g_if (d_cmpT (o_ne hr.units) (dv 5) (dv 3) (nomark _)) (g_one (g_ret d_bl)) g_nil)
      (g_one (g_set (i := 3) sc__hang_together.nd (dv 7))))))
      (g_one (g_ret d_bl))))
theorem kn__hang_together (T : Txt K mg) : Kn P w K mg base CX0 2 "_hang_together" ["house", "room", "passes"] S__hang_together := T.d__hang_together.kn fun f fd F => fn_ok F sc__hang_together (fun cdv A outer s H E hr => b__hang_together T (kn_ends_of T) hr) fun ds T post ex hl hS => m__hang_together ds T post (fun _ _ _ => False) hl hS
theorem sc__is_spot : FnScope ["walk", "thing"] ["walk", "thing"] (defScope (topS 37)) := ⟨rfl, rfl, rfl, by decide +kernel, rfl, by decide +kernel, by decide +kernel⟩
theorem b__is_spot (T : Txt K mg) (k_is_number_within : Kn P w K mg base CX0 2 "is_number_within" ["thing", "low", "high"] S_is_number_within) {f : Addr} {cdv : Value} {A : Around} {outer : List Env} {s : Shared} {H : Hp} {E : XK} (hr : Room 2 (A.deeper (PyProof.Rows.envOfC "_is_spot" (defScope (topS 37)) s.heap.objs.size f cdv))) :
    DPSs (cxOf CX0 P w K mg base ["walk", "thing"] "_is_spot" (defScope (topS 37)) f cdv A outer s H E).nox W0 (defBody (topS 37)) G__is_spot := by
  exact (g_one (g_ret (d_call k_is_number_within (hr.mono (by decide)) (d_cons (dv 1) (d_cons d_int (d_cons (d_op o_sub (d_callB c_len (by rfl) T.b_len (by decide +kernel) (d_cons (d_ixV 0 d_int) d_nil)) d_int) d_nil))))))
theorem kn__is_spot (T : Txt K mg) : Kn P w K mg base CX0 3 "_is_spot" ["walk", "thing"] S__is_spot := T.d__is_spot.kn fun f fd F => fn_ok F sc__is_spot (fun cdv A outer s H E hr => b__is_spot T (kn_is_number_within T) hr) fun ds T post ex hl hS => m__is_spot ds T post (fun _ _ _ => False) hl hS
theorem sc__carried_over : FnScope ["house", "walk", "spot", "times", "room", "pulls", "passes", "_", "leaving", "arriving", "both"] ["house", "walk", "spot", "times"] (defScope (topS 38)) := ⟨rfl, rfl, rfl, by decide +kernel, rfl, by decide +kernel, by decide +kernel⟩
theorem b__carried_over (T : Txt K mg) (k_ends_of : Kn P w K mg base CX0 1 "ends_of" ["house", "step"] S_ends_of) {f : Addr} {cdv : Value} {A : Around} {outer : List Env} {s : Shared} {H : Hp} {E : XK} (hr : Room 1 (A.deeper (PyProof.Rows.envOfC "_carried_over" (defScope (topS 38)) s.heap.objs.size f cdv))) :
    DPSs (cxOf CX0 P w K mg base ["house", "walk", "spot", "times", "room", "pulls", "passes", "_", "leaving", "arriving", "both"] "_carried_over" (defScope (topS 38)) f cdv A outer s H E).nox W0 (defBody (topS 38)) G__carried_over := by
  exact (g_cons (g_unp (vs := [4, 5, 6]) (t_tup rfl (t_cons (t_name sc__carried_over.nd) (t_cons (t_name sc__carried_over.nd) (t_cons (t_name sc__carried_over.nd) t_nil)))) (dv 1))
      (g_cons (g_unp (vs := [7, 8, 7, 9]) (t_tup rfl (t_cons (t_name sc__carried_over.nd) (t_cons (t_name sc__carried_over.nd) (t_cons (t_name sc__carried_over.nd) (t_cons (t_name sc__carried_over.nd) t_nil))))) (d_call k_ends_of (hr.mono (by decide)) (d_cons (dv 0) (d_cons (d_ixV 6 (dv 2)) d_nil))))
      (g_cons (g_set (i := 10) sc__carried_over.nd (d_tup (d_cons (d_op o_sub (d_ixV 5 (dv 2)) (d_op o_mul (dv 8) (dv 3))) (d_cons (d_op o_add (d_ixV 5 (d_op o_add (dv 2) d_int)) (d_op o_mul (dv 9) (dv 3))) d_nil))))
      (g_one (g_ret (d_tup (d_cons (dv 4) (d_cons (d_op o_add (d_op o_add (d_sl (dv 5) d_oNo (d_oAt (dv 2))) (dv 10)) (d_sl (dv 5) (d_oAt (d_op o_add (dv 2) d_int)) d_oNo)) (d_cons (dv 6) d_nil)))))))))
theorem kn__carried_over (T : Txt K mg) : Kn P w K mg base CX0 2 "_carried_over" ["house", "walk", "spot", "times"] S__carried_over := T.d__carried_over.kn fun f fd F => fn_ok F sc__carried_over (fun cdv A outer s H E hr => b__carried_over T (kn_ends_of T) hr) fun ds T post ex hl hS => m__carried_over ds T post (fun _ _ _ => False) hl hS
theorem sc__turns_back : FnScope ["walk", "spot", "passes"] ["walk", "spot"] (defScope (topS 39)) := ⟨rfl, rfl, rfl, by decide +kernel, rfl, by decide +kernel, by decide +kernel⟩
theorem b__turns_back (T : Txt K mg) (k_back_of : Kn P w K mg base CX0 1 "back_of" ["step"] S_back_of) {f : Addr} {cdv : Value} {A : Around} {outer : List Env} {s : Shared} {H : Hp} {E : XK} (hr : Room 1 (A.deeper (PyProof.Rows.envOfC "_turns_back" (defScope (topS 39)) s.heap.objs.size f cdv))) :
    DPSs (cxOf CX0 P w K mg base ["walk", "spot", "passes"] "_turns_back" (defScope (topS 39)) f cdv A outer s H E).nox W0 (defBody (topS 39)) G__turns_back := by
  exact (g_cons (g_set (i := 2) sc__turns_back.nd (d_ixV 0 d_int))
      (g_one (g_ret (d_and (d_cmp o_lt (d_op o_add (dv 1) d_int) (d_callB c_len (by rfl) T.b_len (by decide +kernel) (d_cons (dv 2) d_nil)) (nomark _)) (d_one (d_cmp (o_eq hr.units) (d_ixV 2 (d_op o_add (dv 1) d_int)) (d_call k_back_of (hr.mono (by decide)) (d_cons (d_ixV 2 (dv 1)) d_nil)) (nomark _)))))))
theorem kn__turns_back (T : Txt K mg) : Kn P w K mg base CX0 2 "_turns_back" ["walk", "spot"] S__turns_back := T.d__turns_back.kn fun f fd F => fn_ok F sc__turns_back (fun cdv A outer s H E hr => b__turns_back T (kn_back_of T) hr) fun ds T post ex hl hS => m__turns_back ds T post (fun _ _ _ => False) hl hS
theorem sc__cancelled : FnScope ["walk", "spot", "room", "pulls", "passes", "together"] ["walk", "spot"] (defScope (topS 40)) := ⟨rfl, rfl, rfl, by decide +kernel, rfl, by decide +kernel, by decide +kernel⟩
theorem b__cancelled (T : Txt K mg)  {f : Addr} {cdv : Value} {A : Around} {outer : List Env} {s : Shared} {H : Hp} {E : XK} (hr : Room 0 (A.deeper (PyProof.Rows.envOfC "_cancelled" (defScope (topS 40)) s.heap.objs.size f cdv))) :
    DPSs (cxOf CX0 P w K mg base ["walk", "spot", "room", "pulls", "passes", "together"] "_cancelled" (defScope (topS 40)) f cdv A outer s H E).nox W0 (defBody (topS 40)) G__cancelled := by
  exact (g_cons (g_unp (vs := [2, 3, 4]) (t_tup rfl (t_cons (t_name sc__cancelled.nd) (t_cons (t_name sc__cancelled.nd) (t_cons (t_name sc__cancelled.nd) t_nil)))) (dv 0))
      (g_cons (g_set (i := 5) sc__cancelled.nd (d_tup (d_cons (d_op o_add (d_ixV 3 (dv 1)) (d_ixV 3 (d_op o_add (dv 1) d_int))) d_nil)))
      (g_one (g_ret (d_tup (d_cons (dv 2) (d_cons (d_op o_add (d_op o_add (d_sl (dv 3) d_oNo (d_oAt (dv 1))) (dv 5)) (d_sl (dv 3) (d_oAt (d_op o_add (dv 1) d_int)) d_oNo)) (d_cons (d_op o_add (d_sl (dv 4) d_oNo (d_oAt (dv 1))) (d_sl (dv 4) (d_oAt (d_op o_add (dv 1) d_int)) d_oNo)) d_nil))))))))
theorem kn__cancelled (T : Txt K mg) : Kn P w K mg base CX0 1 "_cancelled" ["walk", "spot"] S__cancelled := T.d__cancelled.kn fun f fd F => fn_ok F sc__cancelled (fun cdv A outer s H E hr => b__cancelled T  hr) fun ds T post ex hl hS => m__cancelled ds T post (fun _ _ _ => False) hl hS
theorem sc__can_shorten : FnScope ["house", "walk", "spot", "_", "pulls", "passes", "arriving"] ["house", "walk", "spot"] (defScope (topS 41)) := ⟨rfl, rfl, rfl, by decide +kernel, rfl, by decide +kernel, by decide +kernel⟩
theorem b__can_shorten (T : Txt K mg) (k_ends_of : Kn P w K mg base CX0 1 "ends_of" ["house", "step"] S_ends_of) (k__turns_back : Kn P w K mg base CX0 2 "_turns_back" ["walk", "spot"] S__turns_back) {f : Addr} {cdv : Value} {A : Around} {outer : List Env} {s : Shared} {H : Hp} {E : XK} (hr : Room 2 (A.deeper (PyProof.Rows.envOfC "_can_shorten" (defScope (topS 41)) s.heap.objs.size f cdv))) :
    DPSs (cxOf CX0 P w K mg base ["house", "walk", "spot", "_", "pulls", "passes", "arriving"] "_can_shorten" (defScope (topS 41)) f cdv A outer s H E).nox W0 (defBody (topS 41)) G__can_shorten := by
  exact (g_cons (g_unp (vs := [3, 4, 5]) (t_tup rfl (t_cons (t_name sc__can_shorten.nd) (t_cons (t_name sc__can_shorten.nd) (t_cons (t_name sc__can_shorten.nd) t_nil)))) (dv 1))
      (g_cons (g_set (i := 6) sc__can_shorten.nd (d_ix (d_call k_ends_of (hr.mono (by decide)) (d_cons (dv 0) (d_cons (d_ixV 5 (dv 2)) d_nil))) d_int))
      (g_one (g_ret (d_and (d_call k__turns_back (hr.mono (by decide)) (d_cons (dv 1) (d_cons (dv 2) d_nil))) (d_one (d_cmp (o_eq hr.units) (d_op o_mod (d_ixV 4 (d_op o_add (dv 2) d_int)) (dv 6)) d_int (nomark _))))))))
theorem kn__can_shorten (T : Txt K mg) : Kn P w K mg base CX0 3 "_can_shorten" ["house", "walk", "spot"] S__can_shorten := T.d__can_shorten.kn fun f fd F => fn_ok F sc__can_shorten (fun cdv A outer s H E hr => b__can_shorten T (kn_ends_of T) (kn__turns_back T) hr) fun ds T post ex hl hS => m__can_shorten ds T post (fun _ _ _ => False) hl hS
theorem sc__shorter : FnScope ["house", "walk", "spot", "_", "pulls", "passes", "arriving", "times"] ["house", "walk", "spot"] (defScope (topS 42)) := ⟨rfl, rfl, rfl, by decide +kernel, rfl, by decide +kernel, by decide +kernel⟩
theorem b__shorter (T : Txt K mg) (k_ends_of : Kn P w K mg base CX0 1 "ends_of" ["house", "step"] S_ends_of) (k__cancelled : Kn P w K mg base CX0 1 "_cancelled" ["walk", "spot"] S__cancelled) (k__carried_over : Kn P w K mg base CX0 2 "_carried_over" ["house", "walk", "spot", "times"] S__carried_over) {f : Addr} {cdv : Value} {A : Around} {outer : List Env} {s : Shared} {H : Hp} {E : XK} (hr : Room 2 (A.deeper (PyProof.Rows.envOfC "_shorter" (defScope (topS 42)) s.heap.objs.size f cdv))) :
    DPSs (cxOf CX0 P w K mg base ["house", "walk", "spot", "_", "pulls", "passes", "arriving", "times"] "_shorter" (defScope (topS 42)) f cdv A outer s H E).nox W0 (defBody (topS 42)) G__shorter := by
  exact (g_cons (g_unp (vs := [3, 4, 5]) (t_tup rfl (t_cons (t_name sc__shorter.nd) (t_cons (t_name sc__shorter.nd) (t_cons (t_name sc__shorter.nd) t_nil)))) (dv 1))
      (g_cons (g_set (i := 6) sc__shorter.nd (d_ix (d_call k_ends_of (hr.mono (by decide)) (d_cons (dv 0) (d_cons (d_ixV 5 (dv 2)) d_nil))) d_int))
      (g_cons (g_set (i := 7) sc__shorter.nd (d_op o_fdiv (d_ixV 4 (d_op o_add (dv 2) d_int)) (dv 6)))
      (g_one (g_ret (d_call k__cancelled (hr.mono (by decide)) (d_cons (d_call k__carried_over (hr.mono (by decide)) (d_cons (dv 0) (d_cons (dv 1) (d_cons (dv 2) (d_cons (d_neg (dv 7)) d_nil))))) (d_cons (dv 2) d_nil))))))))
theorem kn__shorter (T : Txt K mg) : Kn P w K mg base CX0 3 "_shorter" ["house", "walk", "spot"] S__shorter := T.d__shorter.kn fun f fd F => fn_ok F sc__shorter (fun cdv A outer s H E hr => b__shorter T (kn_ends_of T) (kn__cancelled T) (kn__carried_over T) hr) fun ds T post ex hl hS => m__shorter ds T post (fun _ _ _ => False) hl hS
theorem sc__reduced : FnScope ["house", "walk", "room", "pulls", "passes", "kept", "aheads", "moves", "here", "step", "behind", "_", "leaving", "arriving", "rest", "times"] ["house", "walk"] (defScope (topS 43)) := ⟨rfl, rfl, rfl, by decide +kernel, rfl, by decide +kernel, by decide +kernel⟩
theorem b__reduced (T : Txt K mg) (k_ends_of : Kn P w K mg base CX0 1 "ends_of" ["house", "step"] S_ends_of) (k_back_of : Kn P w K mg base CX0 1 "back_of" ["step"] S_back_of) {f : Addr} {cdv : Value} {A : Around} {outer : List Env} {s : Shared} {H : Hp} {E : XK} (hr : Room 1 (A.deeper (PyProof.Rows.envOfC "_reduced" (defScope (topS 43)) s.heap.objs.size f cdv))) :
    DPSs (cxOf CX0 P w K mg base ["house", "walk", "room", "pulls", "passes", "kept", "aheads", "moves", "here", "step", "behind", "_", "leaving", "arriving", "rest", "times"] "_reduced" (defScope (topS 43)) f cdv A outer s H E).nox W0 (defBody (topS 43)) G__reduced := by
  exact (g_cons (g_unp (vs := [2, 3, 4]) (t_tup rfl (t_cons (t_name sc__reduced.nd) (t_cons (t_name sc__reduced.nd) (t_cons (t_name sc__reduced.nd) t_nil)))) (dv 1))
      (g_cons (g_par3OOO (i := 5) (j := 6) (l := 7) rfl sc__reduced.nd (d_lst d_nil) (d_lst d_nil) (d_lst d_nil))
      (g_cons (g_set (i := 8) sc__reduced.nd (d_ixV 3 d_int))
      (g_cons (g_for (vs := [9, 10]) PassesOwn.never rfl (i_zip T.b_zip (dv 4) (d_sl (dv 3) (d_oAt d_int) d_oNo)) (t_tup rfl (t_cons (t_name sc__reduced.nd) (t_cons (t_name sc__reduced.nd) t_nil))) (g_cons (g_unp (vs := [11, 12, 11, 13]) (t_tup rfl (t_cons (t_name sc__reduced.nd) (t_cons (t_name sc__reduced.nd) (t_cons (t_name sc__reduced.nd) (t_cons (t_name sc__reduced.nd) t_nil))))) (d_call k_ends_of (hr.mono (by decide)) (d_cons (dv 0) (d_cons (dv 9) d_nil))))
      (g_cons (g_set (i := 14) sc__reduced.nd (d_op o_mod (dv 8) (d_callB c_abs (by rfl) T.b_abs (by decide +kernel) (d_cons (dv 12) d_nil))))
      (g_cons (g_set (i := 15) sc__reduced.nd (d_op o_fdiv (d_op o_sub (dv 8) (dv 14)) (dv 12)))
      (g_cons (g_if (d_cmpT (o_ne hr.units) (dv 15) d_int (nomark _)) (g_one (g_app 7 (d_tup (d_cons d_str (d_cons (d_lenV 5 T.b_len) (d_cons (dv 15) d_nil)))))) g_nil)
      (g_cons (g_set (i := 8) sc__reduced.nd (d_op o_add (dv 10) (d_op o_mul (dv 13) (dv 15))))
      (g_one (g_if (DPW.pt (d_tand (d_cmpT (o_eq hr.units) (dv 14) d_int (nomark _)) (d_tand (d_truL 5) (d_tand1 (d_cmpT (o_eq hr.units) (d_ixV 5 (d_neg d_int)) (d_call k_back_of (hr.mono (by decide)) (d_cons (dv 9) d_nil)) (nomark _)))))) (g_cons (g_drop (d_pop0 5))
      (g_cons (g_app 7 (d_tup (d_cons d_str (d_cons (d_lenV 5 T.b_len) d_nil))))
      (g_one (g_set (i := 8) sc__reduced.nd (d_op o_add (d_pop0 6) (dv 8)))))) (g_cons (g_app 5 (dv 9))
      (g_one (g_app 6 (dv 14))))))))))))
      (g_one (g_ret (d_tup (d_cons (d_tup (d_cons (dv 2) (d_cons (d_op o_add (d_callTy c_tuple (by rfl) T.b_tuple (by decide +kernel) (d_cons (dv 6) d_nil)) (d_tup (d_cons (dv 8) d_nil))) (d_cons (d_callTy c_tuple (by rfl) T.b_tuple (by decide +kernel) (d_cons (dv 5) d_nil)) d_nil)))) (d_cons (dv 7) d_nil)))))))))
theorem kn__reduced (T : Txt K mg) : Kn P w K mg base CX0 2 "_reduced" ["house", "walk"] S__reduced := T.d__reduced.kn fun f fd F => fn_ok F sc__reduced (fun cdv A outer s H E hr => b__reduced T (kn_ends_of T) (kn_back_of T) hr) fun ds T post ex hl hS => m__reduced ds T post (fun _ _ _ => False) hl hS
theorem sc__law_pick : FnScope ["state", "several"] ["state", "several"] (defScope (topS 48)) := ⟨rfl, rfl, rfl, by decide +kernel, rfl, by decide +kernel, by decide +kernel⟩
theorem b__law_pick (T : Txt K mg) (k__law_draw : Kn P w K mg base CX0 2 "_law_draw" ["state", "size_here"] S__law_draw) {f : Addr} {cdv : Value} {A : Around} {outer : List Env} {s : Shared} {H : Hp} {E : XK} (hr : Room 2 (A.deeper (PyProof.Rows.envOfC "_law_pick" (defScope (topS 48)) s.heap.objs.size f cdv))) :
    DPSs (cxOf CX0 P w K mg base ["state", "several"] "_law_pick" (defScope (topS 48)) f cdv A outer s H E).nox W0 (defBody (topS 48)) G__law_pick := by
  exact (g_one (g_ret (d_ixV 1 (d_call k__law_draw (hr.mono (by decide)) (d_cons (dv 0) (d_cons (d_callB c_len (by rfl) T.b_len (by decide +kernel) (d_cons (dv 1) d_nil)) d_nil))))))
theorem kn__law_pick (T : Txt K mg) : Kn P w K mg base CX0 3 "_law_pick" ["state", "several"] S__law_pick := T.d__law_pick.kn fun f fd F => fn_ok F sc__law_pick (fun cdv A outer s H E hr => b__law_pick T (kn__law_draw T) hr) fun ds T post ex hl hS => m__law_pick ds T post (fun _ _ _ => False) hl hS
theorem sc__law_mixed : FnScope ["state", "several", "left", "found"] ["state", "several"] (defScope (topS 49)) := ⟨rfl, rfl, rfl, by decide +kernel, rfl, by decide +kernel, by decide +kernel⟩
theorem b__law_mixed (T : Txt K mg) (k__law_draw : Kn P w K mg base CX0 2 "_law_draw" ["state", "size_here"] S__law_draw) {f : Addr} {cdv : Value} {A : Around} {outer : List Env} {s : Shared} {H : Hp} {E : XK} (hr : Room 2 (A.deeper (PyProof.Rows.envOfC "_law_mixed" (defScope (topS 49)) s.heap.objs.size f cdv))) :
    DPSs (cxOf CX0 P w K mg base ["state", "several", "left", "found"] "_law_mixed" (defScope (topS 49)) f cdv A outer s H E).nox W0 (defBody (topS 49)) G__law_mixed := by
  exact (g_cons (g_parOO (i := 2) (j := 3) rfl sc__law_mixed.nd (d_listO T.b_list (dv 1)) (d_lst d_nil))
      (g_cons (g_while PassesOwn.never (d_emptyNe 2 hr.units) (g_one (g_app 3 (d_popAt 2 (d_call k__law_draw (hr.mono (by decide)) (d_cons (dv 0) (d_cons (d_lenV 2 T.b_len) d_nil)))))))
      (g_one (g_ret (dv 3)))))
theorem kn__law_mixed (T : Txt K mg) : Kn P w K mg base CX0 3 "_law_mixed" ["state", "several"] S__law_mixed := T.d__law_mixed.kn fun f fd F => fn_ok F sc__law_mixed (fun cdv A outer s H E hr => b__law_mixed T (kn__law_draw T) hr) fun ds T post ex hl hS => m__law_mixed ds T post (fun _ _ _ => False) hl hS
theorem sc__law_is_whole : FnScope ["item"] ["item"] (defScope (topS 50)) := ⟨rfl, rfl, rfl, by decide +kernel, rfl, by decide +kernel, by decide +kernel⟩
theorem b__law_is_whole (T : Txt K mg)  {f : Addr} {cdv : Value} {A : Around} {outer : List Env} {s : Shared} {H : Hp} {E : XK} (hr : Room 0 (A.deeper (PyProof.Rows.envOfC "_law_is_whole" (defScope (topS 50)) s.heap.objs.size f cdv))) :
    DPSs (cxOf CX0 P w K mg base ["item"] "_law_is_whole" (defScope (topS 50)) f cdv A outer s H E).nox W0 (defBody (topS 50)) G__law_is_whole := by
  exact (g_one (g_ret (d_and (d_isTy T.b_isinstance T.b_int (by decide +kernel) (dv 0)) (d_one (d_not (d_isTy T.b_isinstance T.b_bool (by decide +kernel) (dv 0)))))))
theorem kn__law_is_whole (T : Txt K mg) : Kn P w K mg base CX0 1 "_law_is_whole" ["item"] S__law_is_whole := T.d__law_is_whole.kn fun f fd F => fn_ok F sc__law_is_whole (fun cdv A outer s H E hr => b__law_is_whole T  hr) fun ds T post ex hl hS => m__law_is_whole ds T post (fun _ _ _ => False) hl hS
theorem sc__law_size : FnScope ["state", "size_here"] ["state"] (defScope (topS 51)) := ⟨rfl, rfl, rfl, by decide +kernel, rfl, by decide +kernel, by decide +kernel⟩
theorem b__law_size (T : Txt K mg) (k__law_pick : Kn P w K mg base CX0 3 "_law_pick" ["state", "several"] S__law_pick) {f : Addr} {cdv : Value} {A : Around} {outer : List Env} {s : Shared} {H : Hp} {E : XK} (hr : Room 3 (A.deeper (PyProof.Rows.envOfC "_law_size" (defScope (topS 51)) s.heap.objs.size f cdv))) :
    DPSs (cxOf CX0 P w K mg base ["state", "size_here"] "_law_size" (defScope (topS 51)) f cdv A outer s H E).nox W0 (defBody (topS 51)) G__law_size := by
  exact (g_cons (g_set (i := 1) sc__law_size.nd (d_call k__law_pick (hr.mono (by decide)) (d_cons (dv 0) (d_cons (d_ofO (d_lst (d_cons d_int (d_cons d_int (d_cons d_int (d_cons d_int (d_cons d_int (d_cons d_int (d_cons d_int (d_cons d_int (d_cons d_int (d_cons d_int (d_cons d_int (d_cons d_int d_nil)))))))))))))) d_nil))))
      (g_one (g_ret (d_op o_mul (dv 1) (d_call k__law_pick (hr.mono (by decide)) (d_cons (dv 0) (d_cons (d_ofO (d_lst (d_cons d_int (d_cons d_int (d_cons d_int (d_cons (d_neg d_int) d_nil)))))) d_nil)))))))
theorem kn__law_size (T : Txt K mg) : Kn P w K mg base CX0 4 "_law_size" ["state"] S__law_size := T.d__law_size.kn fun f fd F => fn_ok F sc__law_size (fun cdv A outer s H E hr => b__law_size T (kn__law_pick T) hr) fun ds T post ex hl hS => m__law_size ds T post (fun _ _ _ => False) hl hS
theorem sc__law_doors : FnScope ["state", "rooms_here", "more", "found", "room_here", "turn", "one", "other", "item"] ["state", "rooms_here", "more"] (defScope (topS 52)) := ⟨rfl, rfl, rfl, by decide +kernel, rfl, by decide +kernel, by decide +kernel⟩
theorem b__law_doors (T : Txt K mg) (k__law_size : Kn P w K mg base CX0 4 "_law_size" ["state"] S__law_size) (k__law_draw : Kn P w K mg base CX0 2 "_law_draw" ["state", "size_here"] S__law_draw) (k__law_mixed : Kn P w K mg base CX0 3 "_law_mixed" ["state", "several"] S__law_mixed) {f : Addr} {cdv : Value} {A : Around} {outer : List Env} {s : Shared} {H : Hp} {E : XK} (hr : Room 4 (A.deeper (PyProof.Rows.envOfC "_law_doors" (defScope (topS 52)) s.heap.objs.size f cdv))) :
    DPSs (cxOf CX0 P w K mg base ["state", "rooms_here", "more", "found", "room_here", "turn", "one", "other", "item"] "_law_doors" (defScope (topS 52)) f cdv A outer s H E).nox W0 (defBody (topS 52)) G__law_doors := by
  exact (g_cons (g_setO (i := 3) sc__law_doors.nd (d_lst d_nil))
      (g_cons (g_for (vs := [4]) PassesOwn.never rfl (i_range2 T.b_range d_int (dv 1)) (t_name sc__law_doors.nd) (g_one (g_app 3 (d_tup (d_cons (d_call k__law_draw (hr.mono (by decide)) (d_cons (dv 0) (d_cons (dv 4) d_nil))) (d_cons (d_call k__law_size (hr.mono (by decide)) (d_cons (dv 0) d_nil)) (d_cons (dv 4) (d_cons (d_call k__law_size (hr.mono (by decide)) (d_cons (dv 0) d_nil)) d_nil))))))))
      (g_cons (g_for (vs := [5]) PassesOwn.never rfl (i_range1 T.b_range (d_call k__law_draw (hr.mono (by decide)) (d_cons (dv 0) (d_cons (d_op o_add (dv 2) d_int) d_nil)))) (t_name sc__law_doors.nd) (g_cons (g_par (i := 6) (j := 7) rfl sc__law_doors.nd (d_cons (d_call k__law_draw (hr.mono (by decide)) (d_cons (dv 0) (d_cons (dv 1) d_nil))) (d_cons (d_call k__law_draw (hr.mono (by decide)) (d_cons (dv 0) (d_cons (dv 1) d_nil))) d_nil)))
      (g_one (g_app 3 (d_tup (d_cons (dv 6) (d_cons (d_call k__law_size (hr.mono (by decide)) (d_cons (dv 0) d_nil)) (d_cons (dv 7) (d_cons (d_call k__law_size (hr.mono (by decide)) (d_cons (dv 0) d_nil)) d_nil)))))))))
      (g_cons (g_setLc (i := 3) rfl sc__law_doors.nd (i_seq (dv 3)) (blkOk_by (N := ["state", "rooms_here", "more", "found", "room_here", "turn", "one", "other", "item"]) (sc := defScope (topS 52)) (own := [("item", 8)]) (by decide +kernel)) (fun _ _ _ _ _ => (t_name sc__law_doors.nd)) (fun _ _ _ _ _ => ts_nil) (fun _ _ _ _ _ => (d_ifE (d_cmpT (o_eq hr.units) (d_call k__law_draw (hr.mono (by decide)) (d_cons (dv 0) (d_cons d_int d_nil))) d_int (nomark _)) (dv 8) (d_tup (d_cons (d_ixV 8 d_int) (d_cons (d_ixV 8 d_int) (d_cons (d_ixV 8 d_int) (d_cons (d_ixV 8 d_int) d_nil))))))) (sw_true rfl rfl rfl (by decide +kernel)))
      (g_one (g_ret (d_callTy c_tuple (by rfl) T.b_tuple (by decide +kernel) (d_cons (d_call k__law_mixed (hr.mono (by decide)) (d_cons (dv 0) (d_cons (dv 3) d_nil))) d_nil))))))))
theorem kn__law_doors (T : Txt K mg) : Kn P w K mg base CX0 5 "_law_doors" ["state", "rooms_here", "more"] S__law_doors := T.d__law_doors.kn fun f fd F => fn_ok F sc__law_doors (fun cdv A outer s H E hr => b__law_doors T (kn__law_size T) (kn__law_draw T) (kn__law_mixed T) hr) fun ds T post ex hl hS => m__law_doors ds T post (fun _ _ _ => False) hl hS
theorem sc__law_gate : FnScope ["doors_here", "step", "near", "first", "far", "second"] ["doors_here", "step"] (defScope (topS 53)) := ⟨rfl, rfl, rfl, by decide +kernel, rfl, by decide +kernel, by decide +kernel⟩
theorem b__law_gate (T : Txt K mg)  {f : Addr} {cdv : Value} {A : Around} {outer : List Env} {s : Shared} {H : Hp} {E : XK} (hr : Room 0 (A.deeper (PyProof.Rows.envOfC "_law_gate" (defScope (topS 53)) s.heap.objs.size f cdv))) :
    DPSs (cxOf CX0 P w K mg base ["doors_here", "step", "near", "first", "far", "second"] "_law_gate" (defScope (topS 53)) f cdv A outer s H E).nox W0 (defBody (topS 53)) G__law_gate := by
  exact (g_cons (g_unp (vs := [2, 3, 4, 5]) (t_tup rfl (t_cons (t_name sc__law_gate.nd) (t_cons (t_name sc__law_gate.nd) (t_cons (t_name sc__law_gate.nd) (t_cons (t_name sc__law_gate.nd) t_nil))))) (d_ixV 0 (d_ixV 1 d_int)))
      (g_one (g_ret (d_ifE (d_cmpT (o_eq hr.units) (d_ixV 1 d_int) d_int (nomark _)) (d_tup (d_cons (dv 2) (d_cons (dv 3) (d_cons (dv 4) (d_cons (dv 5) d_nil))))) (d_tup (d_cons (dv 4) (d_cons (dv 5) (d_cons (dv 2) (d_cons (dv 3) d_nil)))))))))
theorem kn__law_gate (T : Txt K mg) : Kn P w K mg base CX0 1 "_law_gate" ["doors_here", "step"] S__law_gate := T.d__law_gate.kn fun f fd F => fn_ok F sc__law_gate (fun cdv A outer s H E hr => b__law_gate T  hr) fun ds T post ex hl hS => m__law_gate ds T post (fun _ _ _ => False) hl hS
theorem sc__law_sides : FnScope ["many", "found", "spot"] ["many"] (defScope (topS 55)) := ⟨rfl, rfl, rfl, by decide +kernel, rfl, by decide +kernel, by decide +kernel⟩
theorem b__law_sides (T : Txt K mg)  {f : Addr} {cdv : Value} {A : Around} {outer : List Env} {s : Shared} {H : Hp} {E : XK} (hr : Room 0 (A.deeper (PyProof.Rows.envOfC "_law_sides" (defScope (topS 55)) s.heap.objs.size f cdv))) :
    DPSs (cxOf CX0 P w K mg base ["many", "found", "spot"] "_law_sides" (defScope (topS 55)) f cdv A outer s H E).nox W0 (defBody (topS 55)) G__law_sides := by
  exact (g_cons (g_set (i := 1) sc__law_sides.nd (d_ofO (d_lst d_nil)))
      (g_cons (g_for (vs := [2]) PassesOwn.never rfl (i_range1 T.b_range (dv 0)) (t_name sc__law_sides.nd) (g_one (g_set (i := 1) sc__law_sides.nd (d_op o_add (dv 1) (d_ofO (d_lst (d_cons (d_tup (d_cons (dv 2) (d_cons d_int d_nil))) (d_cons (d_tup (d_cons (dv 2) (d_cons d_int d_nil))) d_nil))))))))
      (g_one (g_ret (dv 1)))))
theorem kn__law_sides (T : Txt K mg) : Kn P w K mg base CX0 1 "_law_sides" ["many"] S__law_sides := T.d__law_sides.kn fun f fd F => fn_ok F sc__law_sides (fun cdv A outer s H E hr => b__law_sides T  hr) fun ds T post ex hl hS => m__law_sides ds T post (fun _ _ _ => False) hl hS
theorem sc__law_pulls : FnScope ["state", "doors_here", "step"] ["state", "doors_here", "step"] (defScope (topS 56)) := ⟨rfl, rfl, rfl, by decide +kernel, rfl, by decide +kernel, by decide +kernel⟩
theorem b__law_pulls (T : Txt K mg) (k__law_draw : Kn P w K mg base CX0 2 "_law_draw" ["state", "size_here"] S__law_draw) (k__law_gate : Kn P w K mg base CX0 1 "_law_gate" ["doors_here", "step"] S__law_gate) {f : Addr} {cdv : Value} {A : Around} {outer : List Env} {s : Shared} {H : Hp} {E : XK} (hr : Room 2 (A.deeper (PyProof.Rows.envOfC "_law_pulls" (defScope (topS 56)) s.heap.objs.size f cdv))) :
    DPSs (cxOf CX0 P w K mg base ["state", "doors_here", "step"] "_law_pulls" (defScope (topS 56)) f cdv A outer s H E).nox W0 (defBody (topS 56)) G__law_pulls := by
  exact (g_cons (g_if (d_cmpT (o_eq hr.units) (d_call k__law_draw (hr.mono (by decide)) (d_cons (dv 0) (d_cons d_int d_nil))) d_int (nomark _)) (g_one (g_ret (d_op o_sub (d_call k__law_draw (hr.mono (by decide)) (d_cons (dv 0) (d_cons d_int d_nil))) d_int))) g_nil)
      (g_one (g_ret (d_op o_mul (d_ix (d_call k__law_gate (hr.mono (by decide)) (d_cons (dv 1) (d_cons (dv 2) d_nil))) d_int) (d_op o_sub (d_call k__law_draw (hr.mono (by decide)) (d_cons (dv 0) (d_cons d_int d_nil))) d_int)))))
theorem kn__law_pulls (T : Txt K mg) : Kn P w K mg base CX0 3 "_law_pulls" ["state", "doors_here", "step"] S__law_pulls := T.d__law_pulls.kn fun f fd F => fn_ok F sc__law_pulls (fun cdv A outer s H E hr => b__law_pulls T (kn__law_draw T) (kn__law_gate T) hr) fun ds T post ex hl hS => m__law_pulls ds T post (fun _ _ _ => False) hl hS
theorem sc__law_plain : FnScope ["doors_here", "walk_here", "pulls_here", "steps_here", "step", "more", "here", "leaving", "there", "arriving", "now", "rest_here"] ["doors_here", "walk_here"] (defScope (topS 58)) := ⟨rfl, rfl, rfl, by decide +kernel, rfl, by decide +kernel, by decide +kernel⟩
theorem b__law_plain (T : Txt K mg) (k__law_gate : Kn P w K mg base CX0 1 "_law_gate" ["doors_here", "step"] S__law_gate) {f : Addr} {cdv : Value} {A : Around} {outer : List Env} {s : Shared} {H : Hp} {E : XK} (hr : Room 1 (A.deeper (PyProof.Rows.envOfC "_law_plain" (defScope (topS 58)) s.heap.objs.size f cdv))) :
    DPSs (cxOf CX0 P w K mg base ["doors_here", "walk_here", "pulls_here", "steps_here", "step", "more", "here", "leaving", "there", "arriving", "now", "rest_here"] "_law_plain" (defScope (topS 58)) f cdv A outer s H E).nox W0 (defBody (topS 58)) G__law_plain := by
  exact (g_cons (g_parOO (i := 2) (j := 3) rfl sc__law_plain.nd (d_lst (d_cons (d_ix (d_ixV 1 d_int) d_int) d_nil)) (d_lst d_nil))
      (g_cons (g_for (vs := [4, 5]) PassesOwn.never rfl (i_zip T.b_zip (d_ixV 1 d_int) (d_sl (d_ixV 1 d_int) (d_oAt d_int) d_oNo)) (t_tup rfl (t_cons (t_name sc__law_plain.nd) (t_cons (t_name sc__law_plain.nd) t_nil))) (g_cons (g_unp (vs := [6, 7, 8, 9]) (t_tup rfl (t_cons (t_name sc__law_plain.nd) (t_cons (t_name sc__law_plain.nd) (t_cons (t_name sc__law_plain.nd) (t_cons (t_name sc__law_plain.nd) t_nil))))) (d_call k__law_gate (hr.mono (by decide)) (d_cons (dv 0) (d_cons (dv 4) d_nil))))
      (g_cons (g_set (i := 10) sc__law_plain.nd (d_ixV 2 (d_neg d_int)))
      (g_one (g_if (DPW.pt (d_tand (d_emptyNe 3 hr.units) (d_tand (d_cmpT (o_eq hr.units) (d_ixV 3 (d_neg d_int)) (d_tup (d_cons (d_ixV 4 d_int) (d_cons (d_op o_sub d_int (d_ixV 4 d_int)) d_nil))) (nomark _)) (d_tand1 (d_cmpT (o_eq hr.units) (d_op o_mod (d_callTy c_int (by rfl) T.b_int (by decide +kernel) (d_cons (dv 10) d_nil)) (d_callB c_abs (by rfl) T.b_abs (by decide +kernel) (d_cons (dv 7) d_nil))) d_int (nomark _)))))) (g_cons (g_drop (d_pop0 3))
      (g_cons (g_drop (d_pop0 2))
      (g_one (g_putN 2 (d_op o_add (d_op o_add (d_ixV 2 (d_neg d_int)) (d_op o_mul (d_op o_fdiv (dv 10) (dv 7)) (dv 9))) (dv 5)) (d_neg d_int))))) (g_cons (g_set (i := 11) sc__law_plain.nd (d_op o_mod (d_callTy c_int (by rfl) T.b_int (by decide +kernel) (d_cons (dv 10) d_nil)) (d_callB c_abs (by rfl) T.b_abs (by decide +kernel) (d_cons (dv 7) d_nil))))
      (g_cons (g_putN 2 (dv 11) (d_neg d_int))
      (g_cons (g_app 3 (dv 4))
      (g_one (g_app 2 (d_op o_add (d_op o_mul (d_op o_fdiv (d_op o_sub (dv 10) (dv 11)) (dv 7)) (dv 9)) (dv 5))))))))))))
      (g_one (g_ret (d_tup (d_cons (d_ixV 1 d_int) (d_cons (d_callTy c_tuple (by rfl) T.b_tuple (by decide +kernel) (d_cons (dv 2) d_nil)) (d_cons (d_callTy c_tuple (by rfl) T.b_tuple (by decide +kernel) (d_cons (dv 3) d_nil)) d_nil))))))))
theorem kn__law_plain (T : Txt K mg) : Kn P w K mg base CX0 2 "_law_plain" ["doors_here", "walk_here"] S__law_plain := T.d__law_plain.kn fun f fd F => fn_ok F sc__law_plain (fun cdv A outer s H E hr => b__law_plain T (kn__law_gate T) hr) fun ds T post ex hl hS => m__law_plain ds T post (fun _ _ _ => False) hl hS
theorem sc__law_is_walk : FnScope ["doors_here", "rooms_here", "thing", "here", "step", "item"] ["doors_here", "rooms_here", "thing"] (defScope (topS 59)) := ⟨rfl, rfl, rfl, by decide +kernel, rfl, by decide +kernel, by decide +kernel⟩
theorem b__law_is_walk (T : Txt K mg) (k__law_is_whole : Kn P w K mg base CX0 1 "_law_is_whole" ["item"] S__law_is_whole) (k__law_gate : Kn P w K mg base CX0 1 "_law_gate" ["doors_here", "step"] S__law_gate) {f : Addr} {cdv : Value} {A : Around} {outer : List Env} {s : Shared} {H : Hp} {E : XK} (hr : Room 1 (A.deeper (PyProof.Rows.envOfC "_law_is_walk" (defScope (topS 59)) s.heap.objs.size f cdv))) :
    DPSs (cxOf CX0 P w K mg base ["doors_here", "rooms_here", "thing", "here", "step", "item"] "_law_is_walk" (defScope (topS 59)) f cdv A outer s H E).nox W0 (defBody (topS 59)) G__law_is_walk := by
  exact (g_cons (g_if (DPW.pt (d_tor (d_tnot (d_test (d_isTy T.b_isinstance T.b_tuple (by decide +kernel) (dv 2)))) (d_tor1 (d_cmpT (o_ne hr.units) (d_callB c_len (by rfl) T.b_len (by decide +kernel) (d_cons (dv 2) d_nil)) d_int (nomark _))))) (g_one (g_ret d_bl)) g_nil)
      (g_cons (g_if (DPW.pt (d_tor (d_tnot (d_test (d_call k__law_is_whole (hr.mono (by decide)) (d_cons (d_ixV 2 d_int) d_nil)))) (d_tor1 (d_tnot (d_chainT o_le o_lt d_int (d_ixV 2 d_int) (dv 1)))))) (g_one (g_ret d_bl)) g_nil)
      (g_cons (g_if (DPW.pt (d_tor (d_tnot (d_test (d_isTy T.b_isinstance T.b_tuple (by decide +kernel) (d_ixV 2 d_int)))) (d_tor1 (d_cmpT (o_ne hr.units) (d_ofO (d_lc rfl sc__law_is_walk.nd (i_seq (d_ixV 2 d_int)) (blkOk_by (N := ["doors_here", "rooms_here", "thing", "here", "step", "item"]) (sc := defScope (topS 59)) (own := [("item", 5)]) (by decide +kernel)) (fun _ _ _ _ _ => (t_name sc__law_is_walk.nd)) (fun _ _ _ _ _ => (ts_one (d_tnot (d_test (d_call k__law_is_whole (hr.mono (by decide)) (d_cons (dv 5) d_nil)))))) (fun _ _ _ _ _ => d_int))) (d_ofO (d_lst d_nil)) (nomark _))))) (g_one (g_ret d_bl)) g_nil)
      (g_cons (g_if (DPW.pt (d_tor (d_tnot (d_test (d_isTy T.b_isinstance T.b_tuple (by decide +kernel) (d_ixV 2 d_int)))) (d_tor1 (d_cmpT (o_ne hr.units) (d_callB c_len (by rfl) T.b_len (by decide +kernel) (d_cons (d_ixV 2 d_int) d_nil)) (d_op o_add (d_callB c_len (by rfl) T.b_len (by decide +kernel) (d_cons (d_ixV 2 d_int) d_nil)) d_int) (nomark _))))) (g_one (g_ret d_bl)) g_nil)
      (g_cons (g_set (i := 3) sc__law_is_walk.nd (d_ixV 2 d_int))
      (g_cons (g_for (vs := [4]) PassesOwn.never rfl (i_seq (d_ixV 2 d_int)) (t_name sc__law_is_walk.nd) (g_cons (g_if (DPW.pt (d_tor (d_tnot (d_test (d_isTy T.b_isinstance T.b_tuple (by decide +kernel) (dv 4)))) (d_tor (d_cmpT (o_ne hr.units) (d_callB c_len (by rfl) T.b_len (by decide +kernel) (d_cons (dv 4) d_nil)) d_int (nomark _)) (d_tor (d_tnot (d_test (d_call k__law_is_whole (hr.mono (by decide)) (d_cons (d_ixV 4 d_int) d_nil)))) (d_tor1 (d_tnot (d_test (d_call k__law_is_whole (hr.mono (by decide)) (d_cons (d_ixV 4 d_int) d_nil))))))))) (g_one (g_ret d_bl)) g_nil)
      (g_cons (g_if (DPW.pt (d_tor (d_tnot (d_chainT o_le o_lt d_int (d_ixV 4 d_int) (d_callB c_len (by rfl) T.b_len (by decide +kernel) (d_cons (dv 0) d_nil)))) (d_tor (d_cmpT (o_notIn hr.units65) (d_ixV 4 d_int) (d_tup (d_cons d_int (d_cons d_int d_nil))) (by rfl)) (d_tor1 (d_cmpT (o_ne hr.units) (d_ix (d_call k__law_gate (hr.mono (by decide)) (d_cons (dv 0) (d_cons (dv 4) d_nil))) d_int) (dv 3) (nomark _)))))) (g_one (g_ret d_bl)) g_nil)
      (g_one (g_set (i := 3) sc__law_is_walk.nd (d_ix (d_call k__law_gate (hr.mono (by decide)) (d_cons (dv 0) (d_cons (dv 4) d_nil))) d_int))))))
      (g_one (g_ret d_bl))))))))
theorem kn__law_is_walk (T : Txt K mg) : Kn P w K mg base CX0 2 "_law_is_walk" ["doors_here", "rooms_here", "thing"] S__law_is_walk := T.d__law_is_walk.kn fun f fd F => fn_ok F sc__law_is_walk (fun cdv A outer s H E hr => b__law_is_walk T (kn__law_is_whole T) (kn__law_gate T) hr) fun ds T post ex hl hS => m__law_is_walk ds T post (fun _ _ _ => False) hl hS
theorem sc__law_pf_turned : FnScope ["step"] ["step"] (defScope (topS 60)) := ⟨rfl, rfl, rfl, by decide +kernel, rfl, by decide +kernel, by decide +kernel⟩
theorem b__law_pf_turned (T : Txt K mg)  {f : Addr} {cdv : Value} {A : Around} {outer : List Env} {s : Shared} {H : Hp} {E : XK} (hr : Room 0 (A.deeper (PyProof.Rows.envOfC "_law_pf_turned" (defScope (topS 60)) s.heap.objs.size f cdv))) :
    DPSs (cxOf CX0 P w K mg base ["step"] "_law_pf_turned" (defScope (topS 60)) f cdv A outer s H E).nox W0 (defBody (topS 60)) G__law_pf_turned := by
  exact (g_one (g_ret (d_tup (d_cons (d_ixV 0 d_int) (d_cons (d_op o_sub d_int (d_ixV 0 d_int)) d_nil)))))
theorem kn__law_pf_turned (T : Txt K mg) : Kn P w K mg base CX0 1 "_law_pf_turned" ["step"] S__law_pf_turned := T.d__law_pf_turned.kn fun f fd F => fn_ok F sc__law_pf_turned (fun cdv A outer s H E hr => b__law_pf_turned T  hr) fun ds T post ex hl hS => m__law_pf_turned ds T post (fun _ _ _ => False) hl hS
theorem sc__law_pf_turns : FnScope ["doors_here", "walk_here", "spot_here", "steps_here"] ["doors_here", "walk_here", "spot_here"] (defScope (topS 61)) := ⟨rfl, rfl, rfl, by decide +kernel, rfl, by decide +kernel, by decide +kernel⟩
theorem b__law_pf_turns (T : Txt K mg) (k__law_pf_turned : Kn P w K mg base CX0 1 "_law_pf_turned" ["step"] S__law_pf_turned) {f : Addr} {cdv : Value} {A : Around} {outer : List Env} {s : Shared} {H : Hp} {E : XK} (hr : Room 1 (A.deeper (PyProof.Rows.envOfC "_law_pf_turns" (defScope (topS 61)) s.heap.objs.size f cdv))) :
    DPSs (cxOf CX0 P w K mg base ["doors_here", "walk_here", "spot_here", "steps_here"] "_law_pf_turns" (defScope (topS 61)) f cdv A outer s H E).nox W0 (defBody (topS 61)) G__law_pf_turns := by
  exact (g_cons (g_set (i := 3) sc__law_pf_turns.nd (d_ixV 1 d_int))
      (g_cons (g_if (d_tnot (d_chainT o_le o_lt d_int (dv 2) (d_op o_sub (d_callB c_len (by rfl) T.b_len (by decide +kernel) (d_cons (dv 3) d_nil)) d_int))) (g_one (g_ret d_bl)) g_nil)
      (g_one (g_ret (d_cmp (o_eq hr.units) (d_ixV 3 (d_op o_add (dv 2) d_int)) (d_call k__law_pf_turned (hr.mono (by decide)) (d_cons (d_ixV 3 (dv 2)) d_nil)) (nomark _))))))
theorem kn__law_pf_turns (T : Txt K mg) : Kn P w K mg base CX0 2 "_law_pf_turns" ["doors_here", "walk_here", "spot_here"] S__law_pf_turns := T.d__law_pf_turns.kn fun f fd F => fn_ok F sc__law_pf_turns (fun cdv A outer s H E hr => b__law_pf_turns T (kn__law_pf_turned T) hr) fun ds T post ex hl hS => m__law_pf_turns ds T post (fun _ _ _ => False) hl hS
theorem sc__law_pf_spots : FnScope ["doors_here", "walk_here", "found", "spot_here", "arriving"] ["doors_here", "walk_here"] (defScope (topS 62)) := ⟨rfl, rfl, rfl, by decide +kernel, rfl, by decide +kernel, by decide +kernel⟩
theorem b__law_pf_spots (T : Txt K mg) (k__law_pf_turns : Kn P w K mg base CX0 2 "_law_pf_turns" ["doors_here", "walk_here", "spot_here"] S__law_pf_turns) (k__law_gate : Kn P w K mg base CX0 1 "_law_gate" ["doors_here", "step"] S__law_gate) {f : Addr} {cdv : Value} {A : Around} {outer : List Env} {s : Shared} {H : Hp} {E : XK} (hr : Room 2 (A.deeper (PyProof.Rows.envOfC "_law_pf_spots" (defScope (topS 62)) s.heap.objs.size f cdv))) :
    DPSs (cxOf CX0 P w K mg base ["doors_here", "walk_here", "found", "spot_here", "arriving"] "_law_pf_spots" (defScope (topS 62)) f cdv A outer s H E).nox W0 (defBody (topS 62)) G__law_pf_spots := by
  exact (g_cons (g_setO (i := 2) sc__law_pf_spots.nd (d_lst d_nil))
      (g_cons (g_for (vs := [3]) PassesOwn.never rfl (i_range1 T.b_range (d_callB c_len (by rfl) T.b_len (by decide +kernel) (d_cons (d_ixV 1 d_int) d_nil))) (t_name sc__law_pf_spots.nd) (g_one (g_if (d_test (d_call k__law_pf_turns (hr.mono (by decide)) (d_cons (dv 0) (d_cons (dv 1) (d_cons (dv 3) d_nil))))) (g_cons (g_set (i := 4) sc__law_pf_spots.nd (d_ix (d_call k__law_gate (hr.mono (by decide)) (d_cons (dv 0) (d_cons (d_ix (d_ixV 1 d_int) (dv 3)) d_nil))) d_int))
      (g_one (g_if (d_cmpT (o_eq hr.units) (d_op o_mod (d_callTy c_int (by rfl) T.b_int (by decide +kernel) (d_cons (d_ix (d_ixV 1 d_int) (d_op o_add (dv 3) d_int)) d_nil)) (d_callB c_abs (by rfl) T.b_abs (by decide +kernel) (d_cons (dv 4) d_nil))) d_int (nomark _)) (g_one (g_app 2 (dv 3))) g_nil))) g_nil)))
      (g_one (g_ret (d_callTy c_tuple (by rfl) T.b_tuple (by decide +kernel) (d_cons (dv 2) d_nil))))))
theorem kn__law_pf_spots (T : Txt K mg) : Kn P w K mg base CX0 3 "_law_pf_spots" ["doors_here", "walk_here"] S__law_pf_spots := T.d__law_pf_spots.kn fun f fd F => fn_ok F sc__law_pf_spots (fun cdv A outer s H E hr => b__law_pf_spots T (kn__law_pf_turns T) (kn__law_gate T) hr) fun ds T post ex hl hS => m__law_pf_spots ds T post (fun _ _ _ => False) hl hS
theorem sc__law_pf_doors : FnScope ["state", "rooms_here", "doors_here"] ["state"] (defScope (topS 63)) := ⟨rfl, rfl, rfl, by decide +kernel, rfl, by decide +kernel, by decide +kernel⟩
theorem b__law_pf_doors (T : Txt K mg) (k__law_pick : Kn P w K mg base CX0 3 "_law_pick" ["state", "several"] S__law_pick) (k__law_doors : Kn P w K mg base CX0 5 "_law_doors" ["state", "rooms_here", "more"] S__law_doors) {f : Addr} {cdv : Value} {A : Around} {outer : List Env} {s : Shared} {H : Hp} {E : XK} (hr : Room 5 (A.deeper (PyProof.Rows.envOfC "_law_pf_doors" (defScope (topS 63)) s.heap.objs.size f cdv))) :
    DPSs (cxOf CX0 P w K mg base ["state", "rooms_here", "doors_here"] "_law_pf_doors" (defScope (topS 63)) f cdv A outer s H E).nox W0 (defBody (topS 63)) G__law_pf_doors := by
  exact (g_cons (g_set (i := 1) sc__law_pf_doors.nd (d_call k__law_pick (hr.mono (by decide)) (d_cons (dv 0) (d_cons (d_ofO (d_lst (d_cons d_int (d_cons d_int (d_cons d_int (d_cons d_int (d_cons d_int (d_cons d_int d_nil)))))))) d_nil))))
      (g_cons (g_set (i := 2) sc__law_pf_doors.nd (d_call k__law_doors (hr.mono (by decide)) (d_cons (dv 0) (d_cons (dv 1) (d_cons (d_ifE (d_cmpT (o_eq hr.units) (dv 1) d_int (nomark _)) d_int d_int) d_nil)))))
      (g_one (g_ret (d_tup (d_cons (dv 1) (d_cons (dv 2) d_nil)))))))
theorem kn__law_pf_doors (T : Txt K mg) : Kn P w K mg base CX0 6 "_law_pf_doors" ["state"] S__law_pf_doors := T.d__law_pf_doors.kn fun f fd F => fn_ok F sc__law_pf_doors (fun cdv A outer s H E hr => b__law_pf_doors T (kn__law_pick T) (kn__law_doors T) hr) fun ds T post ex hl hS => m__law_pf_doors ds T post (fun _ _ _ => False) hl hS
theorem sc__law_to_do : FnScope ["doors_here", "walk_here", "found", "at", "step", "leaving", "remain", "spot_here"] ["doors_here", "walk_here"] (defScope (topS 64)) := ⟨rfl, rfl, rfl, by decide +kernel, rfl, by decide +kernel, by decide +kernel⟩
theorem b__law_to_do (T : Txt K mg) (k__law_pf_spots : Kn P w K mg base CX0 3 "_law_pf_spots" ["doors_here", "walk_here"] S__law_pf_spots) (k__law_gate : Kn P w K mg base CX0 1 "_law_gate" ["doors_here", "step"] S__law_gate) {f : Addr} {cdv : Value} {A : Around} {outer : List Env} {s : Shared} {H : Hp} {E : XK} (hr : Room 3 (A.deeper (PyProof.Rows.envOfC "_law_to_do" (defScope (topS 64)) s.heap.objs.size f cdv))) :
    DPSs (cxOf CX0 P w K mg base ["doors_here", "walk_here", "found", "at", "step", "leaving", "remain", "spot_here"] "_law_to_do" (defScope (topS 64)) f cdv A outer s H E).nox W0 (defBody (topS 64)) G__law_to_do := by
  exact (g_cons (g_setLc (i := 2) rfl sc__law_to_do.nd (i_seq (d_call k__law_pf_spots (hr.mono (by decide)) (d_cons (dv 0) (d_cons (dv 1) d_nil)))) (blkOk_by (N := ["doors_here", "walk_here", "found", "at", "step", "leaving", "remain", "spot_here"]) (sc := defScope (topS 64)) (own := [("spot_here", 7)]) (by decide +kernel)) (fun _ _ _ _ _ => (t_name sc__law_to_do.nd)) (fun _ _ _ _ _ => ts_nil) (fun _ _ _ _ _ => (d_tup (d_cons d_str (d_cons (dv 7) (d_cons d_int d_nil))))) (sw_true rfl rfl rfl (by decide +kernel)))
      (g_cons (g_for (vs := [3, 4]) PassesOwn.never rfl (i_enumT T.b_enumerate (d_ixV 1 d_int)) (t_tup rfl (t_cons (t_name sc__law_to_do.nd) (t_cons (t_name sc__law_to_do.nd) t_nil))) (g_cons (g_set (i := 5) sc__law_to_do.nd (d_ix (d_call k__law_gate (hr.mono (by decide)) (d_cons (dv 0) (d_cons (dv 4) d_nil))) d_int))
      (g_cons (g_set (i := 6) sc__law_to_do.nd (d_op o_mod (d_callTy c_int (by rfl) T.b_int (by decide +kernel) (d_cons (d_ix (d_ixV 1 d_int) (dv 3)) d_nil)) (d_callB c_abs (by rfl) T.b_abs (by decide +kernel) (d_cons (dv 5) d_nil))))
      (g_one (g_if (d_cmpT (o_ne hr.units) (dv 6) (d_ix (d_ixV 1 d_int) (dv 3)) (nomark _)) (g_one (g_app 2 (d_tup (d_cons d_str (d_cons (dv 3) (d_cons (d_op o_fdiv (d_op o_sub (d_ix (d_ixV 1 d_int) (dv 3)) (dv 6)) (dv 5)) d_nil)))))) g_nil)))))
      (g_one (g_ret (dv 2)))))
theorem kn__law_to_do (T : Txt K mg) : Kn P w K mg base CX0 4 "_law_to_do" ["doors_here", "walk_here"] S__law_to_do := T.d__law_to_do.kn fun f fd F => fn_ok F sc__law_to_do (fun cdv A outer s H E hr => b__law_to_do T (kn__law_pf_spots T) (kn__law_gate T) hr) fun ds T post ex hl hS => m__law_to_do ds T post (fun _ _ _ => False) hl hS
theorem sc_is_door : FnScope ["rooms", "thing", "near", "first", "far", "second", "joins"] ["rooms", "thing"] (defScope (topS 19)) := ⟨rfl, rfl, rfl, by decide +kernel, rfl, by decide +kernel, by decide +kernel⟩
theorem b_is_door (T : Txt K mg) (k_is_tuple_of : Kn P w K mg base CX0 1 "is_tuple_of" ["thing", "many"] S_is_tuple_of) (k_is_number_within : Kn P w K mg base CX0 2 "is_number_within" ["thing", "low", "high"] S_is_number_within) (k__is_door_number : Kn P w K mg base CX0 3 "_is_door_number" ["thing"] S__is_door_number) {f : Addr} {cdv : Value} {A : Around} {outer : List Env} {s : Shared} {H : Hp} {E : XK} (hr : Room 3 (A.deeper (PyProof.Rows.envOfC "is_door" (defScope (topS 19)) s.heap.objs.size f cdv))) :
    DPSs (cxOf CX0 P w K mg base ["rooms", "thing", "near", "first", "far", "second", "joins"] "is_door" (defScope (topS 19)) f cdv A outer s H E).nox W0 (defBody (topS 19)) G_is_door := by
  exact (g_cons (g_if (d_tnot (d_test (d_call k_is_tuple_of (hr.mono (by decide)) (d_cons (dv 1) (d_cons d_int d_nil))))) (g_one (g_ret d_bl)) g_nil)
      (g_cons (g_unp (vs := [2, 3, 4, 5]) (t_tup rfl (t_cons (t_name sc_is_door.nd) (t_cons (t_name sc_is_door.nd) (t_cons (t_name sc_is_door.nd) (t_cons (t_name sc_is_door.nd) t_nil))))) (dv 1))
      (g_cons (g_set (i := 6) sc_is_door.nd (d_and (d_call k_is_number_within (hr.mono (by decide)) (d_cons (dv 2) (d_cons d_int (d_cons (d_op o_sub (dv 0) d_int) d_nil)))) (d_one (d_call k_is_number_within (hr.mono (by decide)) (d_cons (dv 4) (d_cons d_int (d_cons (d_op o_sub (dv 0) d_int) d_nil)))))))
      (g_one (g_ret (d_and (dv 6) (d_and (d_call k__is_door_number (hr.mono (by decide)) (d_cons (dv 3) d_nil)) (d_one (d_call k__is_door_number (hr.mono (by decide)) (d_cons (dv 5) d_nil))))))))))
theorem kn_is_door (T : Txt K mg) : Kn P w K mg base CX0 4 "is_door" ["rooms", "thing"] S_is_door := T.d_is_door.kn fun f fd F => fn_ok F sc_is_door (fun cdv A outer s H E hr => b_is_door T (kn_is_tuple_of T) (kn_is_number_within T) (kn__is_door_number T) hr) fun ds T post ex hl hS => m_is_door ds T post (fun _ _ _ => False) hl hS
theorem sc_are_doors : FnScope ["rooms", "thing", "door"] ["rooms", "thing"] (defScope (topS 21)) := ⟨rfl, rfl, rfl, by decide +kernel, rfl, by decide +kernel, by decide +kernel⟩
theorem b_are_doors (T : Txt K mg) (k_is_door : Kn P w K mg base CX0 4 "is_door" ["rooms", "thing"] S_is_door) {f : Addr} {cdv : Value} {A : Around} {outer : List Env} {s : Shared} {H : Hp} {E : XK} (hr : Room 4 (A.deeper (PyProof.Rows.envOfC "are_doors" (defScope (topS 21)) s.heap.objs.size f cdv))) :
    DPSs (cxOf CX0 P w K mg base ["rooms", "thing", "door"] "are_doors" (defScope (topS 21)) f cdv A outer s H E).nox W0 (defBody (topS 21)) G_are_doors := by
  exact (g_cons (g_if (DPW.pt (d_tor (d_tnot (d_test (d_isTy T.b_isinstance T.b_tuple (by decide +kernel) (dv 1)))) (d_tor1 (d_cmpT o_gt (d_callB c_len (by rfl) T.b_len (by decide +kernel) (d_cons (dv 1) d_nil)) (d_gint T.c_MOST_DOORS) (nomark _))))) (g_one (g_ret d_bl)) g_nil)
      (g_one (g_ret (d_callB (c_all (cr_all rfl)) (by rfl) T.b_all (by decide +kernel) (d_cons (d_ofO (d_lc rfl sc_are_doors.nd (i_seq (dv 1)) (blkOk_by (N := ["rooms", "thing", "door"]) (sc := defScope (topS 21)) (own := [("door", 2)]) (by decide +kernel)) (fun _ _ _ _ _ => (t_name sc_are_doors.nd)) (fun _ _ _ _ _ => ts_nil) (fun _ _ _ _ _ => (d_call k_is_door (hr.mono (by decide)) (d_cons (dv 0) (d_cons (dv 2) d_nil)))))) d_nil)))))
theorem kn_are_doors (T : Txt K mg) : Kn P w K mg base CX0 5 "are_doors" ["rooms", "thing"] S_are_doors := T.d_are_doors.kn fun f fd F => fn_ok F sc_are_doors (fun cdv A outer s H E hr => b_are_doors T (kn_is_door T) hr) fun ds T post ex hl hS => m_are_doors ds T post (fun _ _ _ => False) hl hS
theorem sc_is_frame : FnScope ["house", "thing", "room", "pulls", "passes", "step"] ["house", "thing"] (defScope (topS 30)) := ⟨rfl, rfl, rfl, by decide +kernel, rfl, by decide +kernel, by decide +kernel⟩
theorem b_is_frame (T : Txt K mg) (k_is_tuple_of : Kn P w K mg base CX0 1 "is_tuple_of" ["thing", "many"] S_is_tuple_of) (k_is_room : Kn P w K mg base CX0 3 "is_room" ["house", "thing"] S_is_room) (k_is_pass : Kn P w K mg base CX0 3 "is_pass" ["house", "thing"] S_is_pass) (k__hang_together : Kn P w K mg base CX0 2 "_hang_together" ["house", "room", "passes"] S__hang_together) {f : Addr} {cdv : Value} {A : Around} {outer : List Env} {s : Shared} {H : Hp} {E : XK} (hr : Room 3 (A.deeper (PyProof.Rows.envOfC "is_frame" (defScope (topS 30)) s.heap.objs.size f cdv))) :
    DPSs (cxOf CX0 P w K mg base ["house", "thing", "room", "pulls", "passes", "step"] "is_frame" (defScope (topS 30)) f cdv A outer s H E).nox W0 (defBody (topS 30)) G_is_frame := by
  exact (g_cons (g_if (d_tnot (d_test (d_call k_is_tuple_of (hr.mono (by decide)) (d_cons (dv 1) (d_cons d_int d_nil))))) (g_one (g_ret d_bl)) g_nil)
      (g_cons (g_unp (vs := [2, 3, 4]) (t_tup rfl (t_cons (t_name sc_is_frame.nd) (t_cons (t_name sc_is_frame.nd) (t_cons (t_name sc_is_frame.nd) t_nil)))) (dv 1))
      (g_cons (g_if (DPW.pt (d_tor (d_tnot (d_test (d_call k_is_room (hr.mono (by decide)) (d_cons (dv 0) (d_cons (dv 2) d_nil))))) (d_tor (d_tnot (d_test (d_isTy T.b_isinstance T.b_tuple (by decide +kernel) (dv 4)))) (d_tor1 (d_tnot (d_test (d_call k_is_tuple_of (hr.mono (by decide)) (d_cons (dv 3) (d_cons (d_op o_add (d_callB c_len (by rfl) T.b_len (by decide +kernel) (d_cons (dv 4) d_nil)) d_int) d_nil))))))))) (g_one (g_ret d_bl)) g_nil)
      (g_one (g_ret (d_and (d_callB (c_all (cr_all rfl)) (by rfl) T.b_all (by decide +kernel) (d_cons (d_ofO (d_lc rfl sc_is_frame.nd (i_seq (dv 4)) (blkOk_by (N := ["house", "thing", "room", "pulls", "passes", "step"]) (sc := defScope (topS 30)) (own := [("step", 5)]) (by decide +kernel)) (fun _ _ _ _ _ => (t_name sc_is_frame.nd)) (fun _ _ _ _ _ => ts_nil) (fun _ _ _ _ _ => (d_call k_is_pass (hr.mono (by decide)) (d_cons (dv 0) (d_cons (dv 5) d_nil)))))) d_nil)) (d_one (d_call k__hang_together (hr.mono (by decide)) (d_cons (dv 0) (d_cons (dv 2) (d_cons (dv 4) d_nil)))))))))))
theorem kn_is_frame (T : Txt K mg) : Kn P w K mg base CX0 4 "is_frame" ["house", "thing"] S_is_frame := T.d_is_frame.kn fun f fd F => fn_ok F sc_is_frame (fun cdv A outer s H E hr => b_is_frame T (kn_is_tuple_of T) (kn_is_room T) (kn_is_pass T) (kn__hang_together T) hr) fun ds T post ex hl hS => m_is_frame ds T post (fun _ _ _ => False) hl hS
theorem sc__law_steps : FnScope ["doors_here", "room_here", "some", "spot", "turn", "step"] ["doors_here", "room_here"] (defScope (topS 54)) := ⟨rfl, rfl, rfl, by decide +kernel, rfl, by decide +kernel, by decide +kernel⟩
theorem b__law_steps (T : Txt K mg) (k__law_sides : Kn P w K mg base CX0 1 "_law_sides" ["many"] S__law_sides) (k__law_gate : Kn P w K mg base CX0 1 "_law_gate" ["doors_here", "step"] S__law_gate) {f : Addr} {cdv : Value} {A : Around} {outer : List Env} {s : Shared} {H : Hp} {E : XK} (hr : Room 1 (A.deeper (PyProof.Rows.envOfC "_law_steps" (defScope (topS 54)) s.heap.objs.size f cdv))) :
    DPSs (cxOf CX0 P w K mg base ["doors_here", "room_here", "some", "spot", "turn", "step"] "_law_steps" (defScope (topS 54)) f cdv A outer s H E).nox W0 (defBody (topS 54)) G__law_steps := by
  exact (g_cons (g_setLcF (i := 2) rfl sc__law_steps.nd (i_seq (d_call k__law_sides (hr.mono (by decide)) (d_cons (d_callB c_len (by rfl) T.b_len (by decide +kernel) (d_cons (dv 0) d_nil)) d_nil))) (blkOk_by (N := ["doors_here", "room_here", "some", "spot", "turn", "step"]) (sc := defScope (topS 54)) (own := [("spot", 3), ("turn", 4)]) (by decide +kernel)) (fun _ _ _ _ _ => (t_tup rfl (t_cons (t_name sc__law_steps.nd) (t_cons (t_name sc__law_steps.nd) t_nil)))) (fun _ _ _ _ _ => ts_nil) (fun _ _ _ _ _ => (d_tup (d_cons (dv 3) (d_cons (dv 4) d_nil)))) (sw_true rfl rfl rfl (by decide +kernel)))
      (g_one (g_ret (d_ofO (d_lc rfl sc__law_steps.nd (i_seq (dv 2)) (blkOk_by (N := ["doors_here", "room_here", "some", "spot", "turn", "step"]) (sc := defScope (topS 54)) (own := [("step", 5)]) (by decide +kernel)) (fun _ _ _ _ _ => (t_name sc__law_steps.nd)) (fun _ _ _ _ _ => (ts_one (d_cmpT (o_eq hr.units) (d_ix (d_call k__law_gate (hr.mono (by decide)) (d_cons (dv 0) (d_cons (dv 5) d_nil))) d_int) (dv 1) (nomark _)))) (fun _ _ _ _ _ => (dv 5)))))))
theorem kn__law_steps (T : Txt K mg) : Kn P w K mg base CX0 2 "_law_steps" ["doors_here", "room_here"] S__law_steps := T.d__law_steps.kn fun f fd F => fn_ok F sc__law_steps (fun cdv A outer s H E hr => b__law_steps T (kn__law_sides T) (kn__law_gate T) hr) fun ds T post ex hl hS => m__law_steps ds T post (fun _ _ _ => False) hl hS
theorem sc__law_strolled : FnScope ["state", "doors_here", "room_here", "many", "here", "pulls_here", "steps_here", "turn", "some", "step"] ["state", "doors_here", "room_here", "many"] (defScope (topS 57)) := ⟨rfl, rfl, rfl, by decide +kernel, rfl, by decide +kernel, by decide +kernel⟩
theorem b__law_strolled (T : Txt K mg) (k__law_draw : Kn P w K mg base CX0 2 "_law_draw" ["state", "size_here"] S__law_draw) (k__law_steps : Kn P w K mg base CX0 2 "_law_steps" ["doors_here", "room_here"] S__law_steps) (k__law_pick : Kn P w K mg base CX0 3 "_law_pick" ["state", "several"] S__law_pick) (k__law_pulls : Kn P w K mg base CX0 3 "_law_pulls" ["state", "doors_here", "step"] S__law_pulls) (k__law_gate : Kn P w K mg base CX0 1 "_law_gate" ["doors_here", "step"] S__law_gate) {f : Addr} {cdv : Value} {A : Around} {outer : List Env} {s : Shared} {H : Hp} {E : XK} (hr : Room 3 (A.deeper (PyProof.Rows.envOfC "_law_strolled" (defScope (topS 57)) s.heap.objs.size f cdv))) :
    DPSs (cxOf CX0 P w K mg base ["state", "doors_here", "room_here", "many", "here", "pulls_here", "steps_here", "turn", "some", "step"] "_law_strolled" (defScope (topS 57)) f cdv A outer s H E).nox W0 (defBody (topS 57)) G__law_strolled := by
  exact (g_cons (g_par3FOO (i := 4) (j := 5) (l := 6) rfl sc__law_strolled.nd (dv 2) (d_lst d_nil) (d_lst d_nil))
      (g_cons (g_for (vs := [7]) PassesOwn.never rfl (i_range1 T.b_range (d_call k__law_draw (hr.mono (by decide)) (d_cons (dv 0) (d_cons (d_op o_add (dv 3) d_int) d_nil)))) (t_name sc__law_strolled.nd) (g_cons (g_set (i := 8) sc__law_strolled.nd (d_call k__law_steps (hr.mono (by decide)) (d_cons (dv 1) (d_cons (dv 4) d_nil))))
      (g_one (g_if (d_cmpT (o_ne hr.units) (dv 8) (d_ofO (d_lst d_nil)) (nomark _)) (g_cons (g_set (i := 9) sc__law_strolled.nd (d_call k__law_pick (hr.mono (by decide)) (d_cons (dv 0) (d_cons (dv 8) d_nil))))
      (g_cons (g_if (DPW.pt (d_tand (d_emptyNe 6 hr.units) (d_tand1 (d_cmpT (o_eq hr.units) (d_call k__law_draw (hr.mono (by decide)) (d_cons (dv 0) (d_cons d_int d_nil))) d_int (nomark _))))) (g_one (g_set (i := 9) sc__law_strolled.nd (d_tup (d_cons (d_ix (d_ixV 6 (d_neg d_int)) d_int) (d_cons (d_op o_sub d_int (d_ix (d_ixV 6 (d_neg d_int)) d_int)) d_nil))))) g_nil)
      (g_cons (g_app 5 (d_call k__law_pulls (hr.mono (by decide)) (d_cons (dv 0) (d_cons (dv 1) (d_cons (dv 9) d_nil)))))
      (g_cons (g_app 6 (dv 9))
      (g_one (g_set (i := 4) sc__law_strolled.nd (d_ix (d_call k__law_gate (hr.mono (by decide)) (d_cons (dv 1) (d_cons (dv 9) d_nil))) d_int))))))) g_nil))))
      (g_one (g_ret (d_tup (d_cons (dv 2) (d_cons (d_callTy c_tuple (by rfl) T.b_tuple (by decide +kernel) (d_cons (d_op o_add (dv 5) (d_ofO (d_lst (d_cons (d_op o_sub (d_call k__law_draw (hr.mono (by decide)) (d_cons (dv 0) (d_cons d_int d_nil))) d_int) d_nil)))) d_nil)) (d_cons (d_callTy c_tuple (by rfl) T.b_tuple (by decide +kernel) (d_cons (dv 6) d_nil)) d_nil))))))))
theorem kn__law_strolled (T : Txt K mg) : Kn P w K mg base CX0 4 "_law_strolled" ["state", "doors_here", "room_here", "many"] S__law_strolled := T.d__law_strolled.kn fun f fd F => fn_ok F sc__law_strolled (fun cdv A outer s H E hr => b__law_strolled T (kn__law_draw T) (kn__law_steps T) (kn__law_pick T) (kn__law_pulls T) (kn__law_gate T) hr) fun ds T post ex hl hS => m__law_strolled ds T post (fun _ _ _ => False) hl hS
theorem sc_is_walk : FnScope ["house", "thing", "times"] ["house", "thing"] (defScope (topS 29)) := ⟨rfl, rfl, rfl, by decide +kernel, rfl, by decide +kernel, by decide +kernel⟩
theorem b_is_walk (T : Txt K mg) (k_need_house : Kn P w K mg base (L2.CX P w) 1 "need_house" ["house"] S_need_house) (k_is_frame : Kn P w K mg base CX0 4 "is_frame" ["house", "thing"] S_is_frame) (k_is_number : Kn P w K mg base CX0 1 "is_number" ["thing"] S_is_number) {f : Addr} {cdv : Value} {A : Around} {outer : List Env} {s : Shared} {H : Hp} {E : XK} (hr : Room 4 (A.deeper (PyProof.Rows.envOfC "is_walk" (defScope (topS 29)) s.heap.objs.size f cdv))) :
    DPSs (cxOf (L2.CX P w) P w K mg base ["house", "thing", "times"] "is_walk" (defScope (topS 29)) f cdv A outer s H E) (wE E) (defBody (topS 29)) G_is_walk := by
  have tk : Takes (cxOf (L2.CX P w) P w K mg base ["house", "thing", "times"] "is_walk" (defScope (topS 29)) f cdv A outer s H E) (wE E) := takes_of rfl rfl rfl rfl
  exact (g_cons (g_drop (d_callX tk k_need_house (hr.mono (by decide)) (d_cons (dv 0) d_nil)))
      (g_one (g_ret (d_and (d_call k_is_frame (hr.mono (by decide)) (d_cons (dv 0) (d_cons (dv 1) d_nil))) (d_one (d_callB (c_all (cr_all rfl)) (by rfl) T.b_all (by decide +kernel) (d_cons (d_ofO (d_lc rfl sc_is_walk.nd (i_seq (d_ixV 1 d_int)) (blkOk_by (N := ["house", "thing", "times"]) (sc := defScope (topS 29)) (own := [("times", 2)]) (by decide +kernel)) (fun _ _ _ _ _ => (t_name sc_is_walk.nd)) (fun _ _ _ _ _ => ts_nil) (fun _ _ _ _ _ => (d_call k_is_number (hr.mono (by decide)) (d_cons (dv 2) d_nil))))) d_nil)))))))
theorem kn_is_walk (T : Txt K mg) : Kn P w K mg base (L2.CX P w) 5 "is_walk" ["house", "thing"] S_is_walk := T.d_is_walk.kn fun f fd F => fn_okX F sc_is_walk (fun cdv A outer s H E hr => b_is_walk T (kn_need_house T) (kn_is_frame T) (kn_is_number T) hr) fun ds T post ex hl hS => m_is_walk ds T post ex hl hS
theorem sc_need_walk : FnScope ["house", "walk"] ["house", "walk"] (defScope (topS 32)) := ⟨rfl, rfl, rfl, by decide +kernel, rfl, by decide +kernel, by decide +kernel⟩
theorem b_need_walk (T : Txt K mg) (k_is_walk : Kn P w K mg base (L2.CX P w) 5 "is_walk" ["house", "thing"] S_is_walk) {f : Addr} {cdv : Value} {A : Around} {outer : List Env} {s : Shared} {H : Hp} {E : XK} (hr : Room 5 (A.deeper (PyProof.Rows.envOfC "need_walk" (defScope (topS 32)) s.heap.objs.size f cdv))) :
    DPSs (cxOf (L2.CX P w) P w K mg base ["house", "walk"] "need_walk" (defScope (topS 32)) f cdv A outer s H E) (wE E) (defBody (topS 32)) G_need_walk := by
  have tk : Takes (cxOf (L2.CX P w) P w K mg base ["house", "walk"] "need_walk" (defScope (topS 32)) f cdv A outer s H E) (wE E) := takes_of rfl rfl rfl rfl
  exact (g_one (g_if (d_tnot (d_test (d_callX tk k_is_walk (hr.mono (by decide)) (d_cons (dv 0) (d_cons (dv 1) d_nil))))) (g_one (g_raise rfl tk T.e_BadWalk)) g_nil))
theorem kn_need_walk (T : Txt K mg) : Kn P w K mg base (L2.CX P w) 6 "need_walk" ["house", "walk"] S_need_walk := T.d_need_walk.kn fun f fd F => fn_okX F sc_need_walk (fun cdv A outer s H E hr => b_need_walk T (kn_is_walk T) hr) fun ds T post ex hl hS => m_need_walk ds T post ex hl hS
theorem sc_carried : FnScope ["house", "walk", "spot", "times"] ["house", "walk", "spot", "times"] (defScope (topS 34)) := ⟨rfl, rfl, rfl, by decide +kernel, rfl, by decide +kernel, by decide +kernel⟩
theorem b_carried (T : Txt K mg) (k_need_walk : Kn P w K mg base (L2.CX P w) 6 "need_walk" ["house", "walk"] S_need_walk) (k__is_spot : Kn P w K mg base CX0 3 "_is_spot" ["walk", "thing"] S__is_spot) (k_is_number : Kn P w K mg base CX0 1 "is_number" ["thing"] S_is_number) (k__carried_over : Kn P w K mg base CX0 2 "_carried_over" ["house", "walk", "spot", "times"] S__carried_over) {f : Addr} {cdv : Value} {A : Around} {outer : List Env} {s : Shared} {H : Hp} {E : XK} (hr : Room 6 (A.deeper (PyProof.Rows.envOfC "carried" (defScope (topS 34)) s.heap.objs.size f cdv))) :
    DPSs (cxOf (L2.CX P w) P w K mg base ["house", "walk", "spot", "times"] "carried" (defScope (topS 34)) f cdv A outer s H E) (wE E) (defBody (topS 34)) G_carried := by
  have tk : Takes (cxOf (L2.CX P w) P w K mg base ["house", "walk", "spot", "times"] "carried" (defScope (topS 34)) f cdv A outer s H E) (wE E) := takes_of rfl rfl rfl rfl
  exact (g_cons (g_drop (d_callX tk k_need_walk (hr.mono (by decide)) (d_cons (dv 0) (d_cons (dv 1) d_nil))))
      (g_cons (g_if (d_tnot (d_test (d_call k__is_spot (hr.mono (by decide)) (d_cons (dv 1) (d_cons (dv 2) d_nil))))) (g_one (g_raise rfl tk T.e_BadSpot)) g_nil)
      (g_cons (g_if (d_tnot (d_test (d_call k_is_number (hr.mono (by decide)) (d_cons (dv 3) d_nil)))) (g_one (g_raise rfl tk T.e_BadTimes)) g_nil)
      (g_one (g_ret (d_call k__carried_over (hr.mono (by decide)) (d_cons (dv 0) (d_cons (dv 1) (d_cons (dv 2) (d_cons (dv 3) d_nil))))))))))
theorem kn_carried (T : Txt K mg) : Kn P w K mg base (L2.CX P w) 7 "carried" ["house", "walk", "spot", "times"] S_carried := T.d_carried.kn fun f fd F => fn_okX F sc_carried (fun cdv A outer s H E hr => b_carried T (kn_need_walk T) (kn__is_spot T) (kn_is_number T) (kn__carried_over T) hr) fun ds T post ex hl hS => m_carried ds T post ex hl hS
theorem sc_shortened : FnScope ["house", "walk", "spot"] ["house", "walk", "spot"] (defScope (topS 35)) := ⟨rfl, rfl, rfl, by decide +kernel, rfl, by decide +kernel, by decide +kernel⟩
theorem b_shortened (T : Txt K mg) (k_need_walk : Kn P w K mg base (L2.CX P w) 6 "need_walk" ["house", "walk"] S_need_walk) (k__is_spot : Kn P w K mg base CX0 3 "_is_spot" ["walk", "thing"] S__is_spot) (k__can_shorten : Kn P w K mg base CX0 3 "_can_shorten" ["house", "walk", "spot"] S__can_shorten) (k__shorter : Kn P w K mg base CX0 3 "_shorter" ["house", "walk", "spot"] S__shorter) {f : Addr} {cdv : Value} {A : Around} {outer : List Env} {s : Shared} {H : Hp} {E : XK} (hr : Room 6 (A.deeper (PyProof.Rows.envOfC "shortened" (defScope (topS 35)) s.heap.objs.size f cdv))) :
    DPSs (cxOf (L2.CX P w) P w K mg base ["house", "walk", "spot"] "shortened" (defScope (topS 35)) f cdv A outer s H E) (wE E) (defBody (topS 35)) G_shortened := by
  have tk : Takes (cxOf (L2.CX P w) P w K mg base ["house", "walk", "spot"] "shortened" (defScope (topS 35)) f cdv A outer s H E) (wE E) := takes_of rfl rfl rfl rfl
  exact (g_cons (g_drop (d_callX tk k_need_walk (hr.mono (by decide)) (d_cons (dv 0) (d_cons (dv 1) d_nil))))
      (g_cons (g_if (DPW.pt (d_tor (d_tnot (d_test (d_call k__is_spot (hr.mono (by decide)) (d_cons (dv 1) (d_cons (dv 2) d_nil))))) (d_tor1 (d_tnot (d_test (d_call k__can_shorten (hr.mono (by decide)) (d_cons (dv 0) (d_cons (dv 1) (d_cons (dv 2) d_nil))))))))) (g_one (g_raise rfl tk T.e_BadSpot)) g_nil)
      (g_one (g_ret (d_call k__shorter (hr.mono (by decide)) (d_cons (dv 0) (d_cons (dv 1) (d_cons (dv 2) d_nil))))))))
theorem kn_shortened (T : Txt K mg) : Kn P w K mg base (L2.CX P w) 7 "shortened" ["house", "walk", "spot"] S_shortened := T.d_shortened.kn fun f fd F => fn_okX F sc_shortened (fun cdv A outer s H E hr => b_shortened T (kn_need_walk T) (kn__is_spot T) (kn__can_shorten T) (kn__shorter T) hr) fun ds T post ex hl hS => m_shortened ds T post ex hl hS
theorem sc_plain_form : FnScope ["house", "walk"] ["house", "walk"] (defScope (topS 36)) := ⟨rfl, rfl, rfl, by decide +kernel, rfl, by decide +kernel, by decide +kernel⟩
theorem b_plain_form (T : Txt K mg) (k_need_walk : Kn P w K mg base (L2.CX P w) 6 "need_walk" ["house", "walk"] S_need_walk) (k__reduced : Kn P w K mg base CX0 2 "_reduced" ["house", "walk"] S__reduced) {f : Addr} {cdv : Value} {A : Around} {outer : List Env} {s : Shared} {H : Hp} {E : XK} (hr : Room 6 (A.deeper (PyProof.Rows.envOfC "plain_form" (defScope (topS 36)) s.heap.objs.size f cdv))) :
    DPSs (cxOf (L2.CX P w) P w K mg base ["house", "walk"] "plain_form" (defScope (topS 36)) f cdv A outer s H E) (wE E) (defBody (topS 36)) G_plain_form := by
  have tk : Takes (cxOf (L2.CX P w) P w K mg base ["house", "walk"] "plain_form" (defScope (topS 36)) f cdv A outer s H E) (wE E) := takes_of rfl rfl rfl rfl
  exact (g_cons (g_drop (d_callX tk k_need_walk (hr.mono (by decide)) (d_cons (dv 0) (d_cons (dv 1) d_nil))))
      (g_one (g_ret (d_ix (d_call k__reduced (hr.mono (by decide)) (d_cons (dv 0) (d_cons (dv 1) d_nil))) d_int))))
theorem kn_plain_form (T : Txt K mg) : Kn P w K mg base (L2.CX P w) 7 "plain_form" ["house", "walk"] S_plain_form := T.d_plain_form.kn fun f fd F => fn_okX F sc_plain_form (fun cdv A outer s H E hr => b_plain_form T (kn_need_walk T) (kn__reduced T) hr) fun ds T post ex hl hS => m_plain_form ds T post ex hl hS
theorem sc__law_done : FnScope ["state", "house_here", "doors_here", "walk_here", "many", "lap", "some", "word", "spot_here", "times_here"] ["state", "house_here", "doors_here", "walk_here"] (defScope (topS 65)) := ⟨rfl, rfl, rfl, by decide +kernel, rfl, by decide +kernel, by decide +kernel⟩
theorem b__law_done (T : Txt K mg) (k__law_to_do : Kn P w K mg base CX0 4 "_law_to_do" ["doors_here", "walk_here"] S__law_to_do) (k__law_pick : Kn P w K mg base CX0 3 "_law_pick" ["state", "several"] S__law_pick) (k_shortened : Kn P w K mg base (L2.CX P w) 7 "shortened" ["house", "walk", "spot"] S_shortened) (k_carried : Kn P w K mg base (L2.CX P w) 7 "carried" ["house", "walk", "spot", "times"] S_carried) (k__law_is_walk : Kn P w K mg base CX0 2 "_law_is_walk" ["doors_here", "rooms_here", "thing"] S__law_is_walk) {f : Addr} {cdv : Value} {A : Around} {outer : List Env} {s : Shared} {H : Hp} {E : XK} (hr : Room 7 (A.deeper (PyProof.Rows.envOfC "_law_done" (defScope (topS 65)) s.heap.objs.size f cdv))) :
    DPSs (cxOf CX0 P w K mg base ["state", "house_here", "doors_here", "walk_here", "many", "lap", "some", "word", "spot_here", "times_here"] "_law_done" (defScope (topS 65)) f cdv A outer s H E).nox W0 (defBody (topS 65)) G__law_done := by
  exact (g_cons (g_set (i := 4) sc__law_done.nd d_int)
      (g_cons (g_for (vs := [5]) PassesOwn.never rfl (i_range1 T.b_range d_int) (t_name sc__law_done.nd) (g_cons (g_set (i := 6) sc__law_done.nd (d_call k__law_to_do (hr.mono (by decide)) (d_cons (dv 2) (d_cons (dv 3) d_nil))))
      (g_cons (g_if (d_cmpT (o_eq hr.units) (dv 6) (d_ofO (d_lst d_nil)) (nomark _)) (g_one (g_ret (d_tup (d_cons (dv 3) (d_cons (dv 4) d_nil))))) g_nil)
      (g_cons (g_unp (vs := [7, 8, 9]) (t_tup rfl (t_cons (t_name sc__law_done.nd) (t_cons (t_name sc__law_done.nd) (t_cons (t_name sc__law_done.nd) t_nil)))) (d_ifE (d_cmpT o_lt (dv 5) d_int (nomark _)) (d_call k__law_pick (hr.mono (by decide)) (d_cons (dv 0) (d_cons (dv 6) d_nil))) (d_ixV 6 d_int)))
      (g_cons (g_if (d_cmpT (o_eq hr.units) (dv 7) d_str (nomark _)) (g_cons (g_set (i := 3) sc__law_done.nd (d_callX0 k_shortened (hr.mono (by decide)) (d_cons (dv 1) (d_cons (dv 3) (d_cons (dv 8) d_nil)))))
      (g_one (g_set (i := 4) sc__law_done.nd (d_op o_add (dv 4) d_int)))) (g_one (g_set (i := 3) sc__law_done.nd (d_callX0 k_carried (hr.mono (by decide)) (d_cons (dv 1) (d_cons (dv 3) (d_cons (dv 8) (d_cons (dv 9) d_nil))))))))
      (g_one (g_if (d_tnot (d_test (d_call k__law_is_walk (hr.mono (by decide)) (d_cons (dv 2) (d_cons (d_fld T.f_rooms (dv 1)) (d_cons (dv 3) d_nil)))))) (g_one (g_ret (d_tup (d_cons d_non (d_cons (dv 4) d_nil))))) g_nil)))))))
      (g_one (g_ret (d_tup (d_cons d_non (d_cons (dv 4) d_nil)))))))
theorem kn__law_done (T : Txt K mg) : Kn P w K mg base CX0 8 "_law_done" ["state", "house_here", "doors_here", "walk_here"] S__law_done := T.d__law_done.kn fun f fd F => fn_ok F sc__law_done (fun cdv A outer s H E hr => b__law_done T (kn__law_to_do T) (kn__law_pick T) (kn_shortened T) (kn_carried T) (kn__law_is_walk T) hr) fun ds T post ex hl hS => m__law_done ds T post (fun _ _ _ => False) hl hS
/-! derivations whose promises are still to come -/
theorem sc_law : FnScope ["script", "state", "turn", "rooms_here", "doors_here", "house_here", "walk_here", "great", "due", "lap", "found", "many"] ["script"] (defScope (topS 66)) := ⟨rfl, rfl, rfl, by decide +kernel, rfl, by decide +kernel, by decide +kernel⟩
theorem b_law (T : Txt K mg) (k__law_pf_doors : Kn P w K mg base CX0 16 "_law_pf_doors" ["state"] S__law_pf_doors) (k__law_strolled : Kn P w K mg base CX0 16 "_law_strolled" ["state", "doors_here", "room_here", "many"] S__law_strolled) (k__law_draw : Kn P w K mg base CX0 16 "_law_draw" ["state", "size_here"] S__law_draw) (k__law_plain : Kn P w K mg base CX0 16 "_law_plain" ["doors_here", "walk_here"] S__law_plain) (k_plain_form : Kn P w K mg base (L2.CX P w) 16 "plain_form" ["house", "walk"] S_plain_form) (k__law_done : Kn P w K mg base CX0 16 "_law_done" ["state", "house_here", "doors_here", "walk_here"] S__law_done) (kI_House : KnI P w K mg base (L2.CX P w) 16 "House" ["rooms", "doors"] S_House) (kK_plain_form_walk_house : KnK P w K mg base (L2.CX P w) 16 "plain_form" ["house", "walk"] ["walk", "house"] [1, 0] S_plain_form) {f : Addr} {cdv : Value} {A : Around} {outer : List Env} {s : Shared} {H : Hp} {E : XK} (hr : Room 20 (A.deeper (PyProof.Rows.envOfC "law" (defScope (topS 66)) s.heap.objs.size f cdv))) :
    DPSs (cxOf CX0 P w K mg base ["script", "state", "turn", "rooms_here", "doors_here", "house_here", "walk_here", "great", "due", "lap", "found", "many"] "law" (defScope (topS 66)) f cdv A outer s H E).nox W0 (defBody (topS 66)).tail G_law := by
  exact (g_cons (g_for (vs := [2]) PassesOwn.never rfl (i_range1 T.b_range (d_op o_add d_int (d_callB (c_min2 rfl) (by rfl) T.b_min (by decide +kernel) (d_cons (d_callB c_len (by rfl) T.b_len (by decide +kernel) (d_cons (dv 0) d_nil)) (d_cons d_int d_nil))))) (t_name sc_law.nd) (g_cons (g_unp (vs := [3, 4]) (t_tup rfl (t_cons (t_name sc_law.nd) (t_cons (t_name sc_law.nd) t_nil))) (d_call k__law_pf_doors (hr.mono (by decide)) (d_cons (dv 1) d_nil)))
      (g_cons (g_set (i := 5) sc_law.nd (d_ofO (d_make0 kI_House (hr.mono (by decide)) (d_cons (dv 3) (d_cons (dv 4) d_nil)))))
      (g_cons (g_set (i := 6) sc_law.nd (d_call k__law_strolled (hr.mono (by decide)) (d_cons (dv 1) (d_cons (dv 4) (d_cons (d_call k__law_draw (hr.mono (by decide)) (d_cons (dv 1) (d_cons (dv 3) d_nil))) (d_cons d_int d_nil))))))
      (g_cons (g_if (d_cmpT (o_eq hr.units) (d_call k__law_draw (hr.mono (by decide)) (d_cons (dv 1) (d_cons d_int d_nil))) d_int (nomark _)) (g_cons (g_set (i := 7) sc_law.nd (d_call k__law_draw (hr.mono (by decide)) (d_cons (dv 1) (d_cons (d_op o_pow d_int d_int) d_nil))))
      (g_one (g_set (i := 6) sc_law.nd (d_tup (d_cons (d_ixV 6 d_int) (d_cons (d_op o_add (d_tup (d_cons (d_op o_add (d_ix (d_ixV 6 d_int) d_int) (dv 7)) d_nil)) (d_sl (d_ixV 6 d_int) (d_oAt d_int) d_oNo)) (d_cons (d_ixV 6 d_int) d_nil))))))) g_nil)
      (g_cons (g_set (i := 8) sc_law.nd (d_call k__law_plain (hr.mono (by decide)) (d_cons (dv 4) (d_cons (dv 6) d_nil))))
      (g_cons (g_if (d_cmpT (o_ne hr.units) (d_callKX0 kK_plain_form_walk_house (hr.mono (by decide)) (k_cons (dv 6) (k_cons (dv 5) k_nil))) (dv 8) (nomark _)) (g_one (g_ret d_bl)) g_nil)
      (g_cons (g_for (vs := [9]) PassesOwn.never rfl (i_range1 T.b_range d_int) (t_name sc_law.nd) (g_cons (g_unp (vs := [10, 11]) (t_tup rfl (t_cons (t_name sc_law.nd) (t_cons (t_name sc_law.nd) t_nil))) (d_call k__law_done (hr.mono (by decide)) (d_cons (dv 1) (d_cons (dv 5) (d_cons (dv 4) (d_cons (dv 6) d_nil))))))
      (g_one (g_if (DPW.pt (d_tor (d_cmpT (o_ne hr.units) (dv 10) (dv 8) (nomark _)) (d_tor1 (d_cmpT (o_ne hr.units) (d_op o_mul d_int (dv 11)) (d_op o_sub (d_callB c_len (by rfl) T.b_len (by decide +kernel) (d_cons (d_ixV 6 d_int) d_nil)) (d_callB c_len (by rfl) T.b_len (by decide +kernel) (d_cons (d_ixV 8 d_int) d_nil))) (nomark _))))) (g_one (g_ret d_bl)) g_nil))))
      (g_one (g_if (d_cmpT (o_ne hr.units) (d_callX0 k_plain_form (hr.mono (by decide)) (d_cons (dv 5) (d_cons (dv 8) d_nil))) (dv 8) (nomark _)) (g_one (g_ret d_bl)) g_nil))))))))))
      (g_one (g_ret d_bl)))
end
abbrev sHouse : Stmt := inClass (topS 17) 0
abbrev nHouse : List Str := ["self", "rooms", "doors", "apart"]
theorem sc_House : FnScope nHouse ["self", "rooms", "doors"] (defScope sHouse) := ⟨rfl, rfl, rfl, by decide +kernel, rfl, by decide +kernel, by decide +kernel⟩
section
variable {P : Program} {w : World} {K : PySem.W.Frag} {mg : Str → Option Value} {base : Heap}
theorem ok_House {f : Addr} {fd : FuncData} {k : Nat} (F : Fun K "__init__" "House.__init__" sHouse f fd) (kR : Kn P w K mg base CX0 k "is_room_count" ["thing"] S_is_room_count) (kD : Kn P w K mg base CX0 k "are_doors" ["rooms", "thing"] S_are_doors) (kA : Kn P w K mg base CX0 k "_least_apart" ["rooms", "doors"] S__least_apart)
    (xR : ExcT K mg "BadRooms") (xD : ExcT K mg "BadDoors") (cH : ∀ C, mg "House" = some (.ref C) → Cls K C ∧ NoAttr K C "rooms" ∧ NoAttr K C "doors") : FnOk P w K mg base (L2.CX P w) (k + 1) f fd ["self", "rooms", "doors"] (spI K mg "House" 2 S_House) := by
  refine F.okX sc_House (fun vs H Q E h => ?_) (fun cdv A outer s H vs Q E hr h => ?_)
  · obtain ⟨q, B, x, C, dx, ds, T, post, ex, vs', rfl, hl, _⟩ := h
    show vs'.length + 1 = 3
    omega
  · obtain ⟨q, B, x, C, dx, ds, T, post, ex, vs', rfl, hl, hC, hx, b, rp, hS, c1, c2⟩ := h
    obtain ⟨r, d, rfl, pr, pd, pds, s1, s2⟩ := hS
    obtain ⟨v1, v2, rfl, r1, r2⟩ := repL_2 rp
    obtain ⟨cl, na1, na2⟩ := cH C hC
    have nd := sc_House.nd
    have tk : Takes (cxOf (L2.CX P w) P w K mg base nHouse "House.__init__" (defScope sHouse) f cdv A outer s H E) (wE E) := takes_of rfl rfl rfl rfl
    refine ⟨_, pss_cons (ps_if (d_tnot (W := wE E) (d_test (d_call kR hr (d_cons (dv 1) d_nil)))).pt (pss_one (g_raise rfl tk xR).ps) pss_nil)
      (pss_cons (ps_if (d_tnot (W := wE E) (d_test (d_call kD hr (d_cons (dv 1) (d_cons (dv 2) d_nil))))).pt (pss_one (g_raise rfl tk xD).ps) pss_nil)
      (pss_cons (ps_set (i := 3) nd rfl (Or.inl rfl) (d_call (W := wE E) kA hr (d_cons (dv 1) (d_cons (dv 2) d_nil))).pe)
      (pss_cons (ps_if (d_cmpT (W := wE E) o_notN (dv 3) d_non (nomark _)).pt pss_never pss_nil)
      (pss_cons (ps_fld (pv 0) (pv 1) rfl) (pss_one (ps_fld (pv 0) (pv 2) rfl)))))), ?_⟩
    let σ0 : L2.St := L2.start nHouse [.ref x, v1, v2]
    let s0 : DS := ⟨[none, some (.fz r), some (.fz d), none], T⟩
    have t00 : At ⟨K, mg, q⟩ [] (Hp.less H x) B σ0 (Hp.less H x) s0 B := by
      refine ⟨b, (by show 4 ≤ 4; decide), fun i dd h => ?_, fun i dd h => ?_, fun i j dd e p h => ?_, fun y hy => absurd hy (by simp)⟩
      · match i, h with
        | 0, h => cases h
        | 1, h => cases h; exact ⟨v1, rfl, r1⟩
        | 2, h => cases h; exact ⟨v2, rfl, r2⟩
        | 3, h => cases h
        | i + 4, h => cases h
      · match i, h with
        | 0, h => cases h
        | 1, h => cases h
        | 2, h => cases h
        | 3, h => cases h
        | i + 4, h => cases h
      · match i, h with
        | 0, h => cases h
        | 1, h => cases h
        | 2, h => cases h
        | 3, h => cases h
        | i + 4, h => cases h
    have t0 := t00.holdNew (p := x) (o := .ins C dx []) less_same (fun ps z => by cases z)
    rw [upd_less hx] at t0
    have noE : ∀ {L H0 B0 σ B} {W : WX}, Exs (⟨K, mg, q⟩ : Ct) L H0 B0 σ B (fun _ _ _ => False) W := fun _ _ _ _ _ _ _ _ _ _ z => z.elim
    -- rooms
    refine ⟨q, _, _, B, s0, B, fun k s' => s' = s0 ∧ k = !(within r 1 12), fun _ _ _ => False, t0, ⟨rfl, r, rfl, pr, rfl, rfl⟩, fun k H1 s1' B1 t1 l1 ⟨e1, e2⟩ => ?_, noE⟩
    subst e1
    have raise : ∀ {n : Str} {σ H1 B1} {D' : Ends}, At (⟨K, mg, q⟩ : Ct) [(x, .ins C dx [])] (Hp.less H x) B σ H1 s0 B1 → ex n [] T → LftS (cxOf (L2.CX P w) P w K mg base nHouse "House.__init__" (defScope sHouse) f cdv A outer s H E) (wE E) (gRaise n) D' σ H1 := fun {n σ H1 B1 D'} t1 hx => by
      refine ⟨q, _, _, B, s0, B1, { nx := fun _ => False, rt := fun _ _ => False, bk := fun _ => False, ct := fun _ => False, ex := fun n' fs s' => n' = n ∧ fs = [] ∧ s' = s0 }, t1, ⟨rfl, rfl, rfl⟩, ⟨fun _ _ _ _ _ _ z => z.elim, fun _ _ _ _ _ _ z => z.elim, fun _ _ _ _ _ _ z => z.elim, fun _ _ _ _ _ _ _ _ _ z => z.elim, fun _ _ _ _ _ _ _ _ _ _ _ z => z.elim, fun σ n' fs s' H' B' cls dd t' l' xr z => ?_⟩⟩
      obtain ⟨rfl, rfl, rfl⟩ := z
      exact c2 _ _ _ _ _ _ _ t'.bs xr hx
    cases hw : within r 1 12 with
    | false =>
      rw [hw] at e2
      subst e2
      exact iteT (raise t1 (s1 hw))
    | true =>
      rw [hw] at e2
      subst e2
      refine iteF ?_
      obtain ⟨n, rfl, n1, n12⟩ : ∃ n : Nat, r = .int n ∧ 1 ≤ n ∧ n ≤ 12 := by
        cases r with
        | int i =>
          have hw : (decide (1 ≤ i) && decide (i ≤ 12)) = true := hw
          simp only [Bool.and_eq_true, decide_eq_true_eq] at hw
          obtain ⟨m, rfl⟩ := Int.eq_ofNat_of_zero_le (show 0 ≤ i by omega)
          exact ⟨m, rfl, by omega, by omega⟩
        | _ => cases hw
      obtain ⟨d1, d2⟩ := s2 n rfl hw
      -- doors
      refine ⟨q, _, _, B, s0, B1, fun k s' => s' = s0 ∧ k = !(areDoors n d), fun _ _ _ => False, t1, ⟨rfl, n, d, rfl, pd, pds, rfl, rfl⟩, fun k H2 s2' B2 t2 l2 ⟨e1, e2⟩ => ?_, noE⟩
      subst e1
      cases hd : areDoors n d with
      | false =>
        rw [hd] at e2
        subst e2
        exact iteT (raise t2 (d1 hd))
      | true =>
        rw [hd] at e2
        subst e2
        refine iteF ?_
        obtain ⟨xs, rfl, ap, hpost⟩ := d2 hd
        have hd : (decide (xs.length ≤ 20) && xs.all (isDoor n)) = true := hd
        obtain ⟨hlen, hall⟩ := Bool.and_eq_true_iff.mp hd
        have hlen := of_decide_eq_true hlen
        have doors : ∀ y ∈ xs, DoorOf n y := fun y hy => doorOf_of (List.all_eq_true.mp hall y hy)
        -- apart
        refine ⟨q, _, _, B, s0, B2, fun dd s' => dd = .non ∧ s' = s0, fun _ _ _ => False, t2, ⟨rfl, n, xs, none, rfl, n1, n12, by omega, doors, ap, rfl, rfl⟩, fun v H3 dd s3' B3 t3 l3 rv ⟨e1, e2⟩ => ?_, noE⟩
        subst e1 e2
        have t4 := t3.setFz (i := 3) rv
        refine ⟨q, _, _, B, s0.put 3 (.fz .non), B3, fun k s' => s' = s0.put 3 (.fz .non) ∧ k = false, fun _ _ _ => False, t4, ⟨rfl, rfl⟩, fun k H4 s4' B4 t5 l5 ⟨e1, e2⟩ => ?_, noE⟩
        subst e1 e2
        refine iteF ?_
        have hx4 := (t5.hold (x, .ins C dx []) List.mem_cons_self).1
        refine ⟨v1, rfl, .ref x, rfl, x, C, dx, [], rfl, hx4, cl, na1, by decide, v2, rfl, .ref x, rfl, x, C, dx, _, rfl, upd_same, cl, na2, (by show 1 < 1000; decide), ?_⟩
        rw [upd_upd]
        obtain ⟨g1, g2, g3⟩ := t5.let (fun z e => by unfold LamX.CodeO at e; cases e) (fun y hy => absurd hy (by simp))
        have eput : putF "doors" v2 (putF "rooms" v1 []) = ([("rooms", v1), ("doors", v2)] : List (Str × V)) := by
          have h1 : ¬ ("rooms" : Str) = "doors" := by decide +kernel
          simp [putF, h1]
        rw [show upd H4 x (.ins C dx (putF "doors" v2 (putF "rooms" v1 []))) = upd (Hp.less H4 x) x (.ins C dx (putF "doors" v2 (putF "rooms" v1 []))) from by rw [g2, upd_upd, ← g2], eput]
        obtain ⟨u1, w1, z1⟩ := t5.fz 1 _ rfl
        obtain ⟨u2, w2, z2⟩ := t5.fz 2 _ rfl
        cases w1
        cases w2
        refine c1 _ _ _ (.obj "House" [("rooms", .int n), ("doors", .tup xs)]) T g3.bs g1 ⟨C, dx, _, rfl, hC, ?_⟩ hpost
        unfold RepF
        refine ⟨_, _, rfl, z1, ?_⟩
        unfold RepF
        refine ⟨_, _, rfl, z2, ?_⟩
        unfold RepF
        rfl
end

section
variable {P : Program} {w : World} {K : PySem.W.Frag} {mg : Str → Option Value} {base : Heap}
theorem kn_House (T : Txt K mg) : KnI P w K mg base (L2.CX P w) 6 "House" ["rooms", "doors"] S_House := T.iH P w base 6 S_House fun f fd F => ok_House F ((kn_is_room_count T).up (by decide)) ((kn_are_doors T).up (by decide)) ((kn__least_apart T).up (by decide)) T.e_BadRooms T.e_BadDoors T.cH
theorem kK_plain_form_walk_house (T : Txt K mg) : KnK P w K mg base (L2.CX P w) 7 "plain_form" ["house", "walk"] ["walk", "house"] [1, 0] S_plain_form := knK_of T.d_plain_form (fun _ _ _ _ _ _ ws hl => match ws, hl with | [a0, a1], _ => rfl) (fun f fd F => fn_okX F sc_plain_form (fun cdv A outer s H E hr => b_plain_form T (kn_need_walk T) (kn__reduced T) hr) fun ds T post ex hl hS => m_plain_form ds T post ex hl hS)
end
omit [Tb] in
theorem law_ok : DL.LawFn PySem.Challenge.rw_pulledrooms_k10_whole_one_plain_form_in fa fn tf ex 21 := by
  intro w K h mg f X G hm c
  have T := txt_of X G c
  obtain ⟨f', fd, F, m, kp, b⟩ := T.d_law.ex
  have e : f' = f := by
    rw [m] at hm
    cases hm
    rfl
  subst e
  obtain ⟨oc, od, kV, doc, pm, an, cdv, ct, osl, hfd, lk, hcd⟩ := F.ex
  refine ⟨fd, fun s v => ?_, fun base X2 G2 hT => ?_⟩
  · rw [hfd]
    exact .of_eq rfl
  · letI : Tb := ⟨tbOf K tf⟩
    obtain ⟨fB, fdB, FB, mB, kB, bB⟩ := T.d__law_begun.ex
    exact law_okG (k := 20) (G := G_law) F sc_law rfl rfl (Or.inl rfl) rfl rfl ((ok_begun FB T.b_abs).mono (by decide)) mB kB bB (fun cdv A outer s H E hr => b_law T ((kn__law_pf_doors T).up (by decide)) ((kn__law_strolled T).up (by decide)) ((kn__law_draw T).up (by decide)) ((kn__law_plain T).up (by decide)) ((kn_plain_form T).up (by decide)) ((kn__law_done T).up (by decide)) ((kn_House T).up (by decide)) ((kK_plain_form_walk_house T).up (by decide)) hr) (fun ns hl => m_law ns hl)

end Law
open PySem PySem.W PySem.Calls PyProof.Rows
set_option maxRecDepth 100000 in
set_option maxHeartbeats 0 in
theorem PySem.Challenge.cw_pulledrooms_k10_whole_one_plain_form_in_holds : PySem.Challenge.rw_pulledrooms_k10_whole_one_plain_form_in.Holds := by
  w_on; o_law
  refine HandSHeadRun.head_any (r := OpenLaw.row PySem.Challenge.rw_pulledrooms_k10_whole_one_plain_form_in) (q := view (OpenLaw.row PySem.Challenge.rw_pulledrooms_k10_whole_one_plain_form_in).prog [66]) (H := Law.hk) (ob := Law.ob) (M := 6000) (loose := Law.names) (d := HandSHeadRun.topDef (OpenLaw.row PySem.Challenge.rw_pulledrooms_k10_whole_one_plain_form_in).prog 66) (kwd := []) Law.ob_eq
    (by kernel_rfl) (fun s => by kernel_rfl) Law.run (by kernel_rfl) (by kernel_rfl) (by kernel_rfl) (by rfl) (by first | assumption | decide +kernel) (by decide +kernel) ⟨rfl, rfl, rfl, rfl, rfl, by decide +kernel⟩ ?hw ?hc
  case hw => w_witness2
  case hc => exact DL.law_walk rfl (by kernel_rfl) ⟨rfl, by decide, by decide⟩ (by kernel_rfl) Law.law_ok
