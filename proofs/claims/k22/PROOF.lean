import PyProof.Rows.All
import Wide.All
import OpenK.AllK
import Wide.FinOn
import HandS.ForMost
import HandS.ForExc
import HandS.FStr
import HandS.Small
import HandS.Style
import HandS.IsInst
import HandS.ExcIs
import HandS.Flow
import HandS.CallSlots
import HandS.RaiseMore
import HandS.Conv
import HandS.SortInts
import PySem.Challenge.RW_surgekept_k22_courses_narrowed_and_raise
set_option Elab.async false
set_option linter.all false
set_option maxRecDepth 100000
set_option maxHeartbeats 4000000
/-! # A layer over HandS: what a piece of Python does, told by typed data, the heap out of sight -/
namespace Rk
open PySem L2

/-- the written part and where the own classes stand, by number -/
structure Gm where
  K : PySem.W.Frag
  cls : Nat → Addr
/-- what is hidden from what is shared -/
noncomputable def Hid (hs : Addr → Prop) (H : Hp) : Hp := fun a => open Classical in if hs a then none else H a
theorem hid_of {hs : Addr → Prop} {H : Hp} {a : Addr} {o : HO} (h : Hid hs H a = some o) : H a = some o := by
  unfold Hid at h
  split at h
  · cases h
  · exact h
theorem hid_at {hs : Addr → Prop} {H : Hp} {a : Addr} (h : ¬ hs a) : Hid hs H a = H a := by
  unfold Hid; rw [if_neg h]
theorem hid_same {hs : Addr → Prop} {H H' : Hp} (e : Same H H') : Same (Hid hs H) (Hid hs H') := fun a o h => by
  have h1 := hid_of h
  by_cases q : hs a
  · unfold Hid at h; rw [if_pos q] at h; cases h
  · rw [hid_at q]; exact e a o h1
theorem hid_le {hs : Addr → Prop} {H : Hp} : Same (Hid hs H) H := fun _ _ h => hid_of h
theorem hid_more {hs hs' : Addr → Prop} {H : Hp} (h : ∀ a, hs' a → hs a) : Same (Hid hs H) (Hid hs' H) := fun a o e => by
  have h1 := hid_of e
  by_cases q : hs a
  · unfold Hid at e; rw [if_pos q] at e; cases e
  · rw [hid_at fun z => q (h a z)]; exact h1
/-- a hidden object changes -/
theorem hid_upd {hs : Addr → Prop} {H : Hp} {p : Addr} {o : HO} (h : hs p) : Hid hs (upd H p o) = Hid hs H := by
  funext a
  by_cases q : hs a
  · unfold Hid; rw [if_pos q, if_pos q]
  · rw [hid_at q, hid_at q, upd_ne fun e => q (by rw [e]; exact h)]
theorem same_new {H : Hp} {p : Addr} {o : HO} (h : H p = none) : Same H (upd H p o) := fun b u e => by
  rw [upd_ne (ne_of_none e h)]; exact e
theorem sq_same {K : PySem.W.Frag} {H H' : Hp} {a : Addr} {xs : List V} (e : Same H H') (h : SqT K H a xs) : SqT K H' a xs := by
  rcases h with (h | ⟨o, h⟩) | h
  · exact .inl (.inl (e _ _ h))
  · exact .inl (.inr ⟨o, e _ _ h⟩)
  · exact .inr h

/-- how a value bears data of a type -/
class Rp (α : Type) where
  rep : Gm → Hp → V → α → Prop
  mono : ∀ {G : Gm} {H H' : Hp} {v : V} {a : α}, Same H H' → rep G H v a → rep G H' v a
structure DV : Type 1 where
  ty : Type
  ins : Rp ty
  val : ty
@[reducible] def dv {α : Type} [i : Rp α] (a : α) : DV := ⟨α, i, a⟩
def DV.rep (G : Gm) (H : Hp) (v : V) (d : DV) : Prop := d.ins.rep G H v d.val
theorem DV.mono {G : Gm} {H H' : Hp} {v : V} {d : DV} (e : Same H H') (h : d.rep G H v) : d.rep G H' v := d.ins.mono e h
def RepAll (G : Gm) (H : Hp) : List V → List DV → Prop
  | [], [] => True
  | v :: vs, d :: ds => d.rep G H v ∧ RepAll G H vs ds
  | _, _ => False
theorem RepAll.mono {G : Gm} {H H' : Hp} (e : Same H H') : ∀ {vs : List V} {ds : List DV}, RepAll G H vs ds → RepAll G H' vs ds
  | [], [], _ => trivial
  | _ :: _, _ :: _, h => ⟨DV.mono e h.1, RepAll.mono e h.2⟩
theorem RepAll.len {G : Gm} {H : Hp} : ∀ {vs : List V} {ds : List DV}, RepAll G H vs ds → vs.length = ds.length
  | [], [], _ => rfl
  | _ :: _, _ :: _, h => congrArg (· + 1) (RepAll.len h.2)
theorem RepAll.get {G : Gm} {H : Hp} : ∀ {vs : List V} {ds : List DV} {i : Nat} {d : DV}, RepAll G H vs ds → ds[i]? = some d → ∃ v, vs[i]? = some v ∧ d.rep G H v
  | [], [], _, _, _, e => by simp at e
  | v :: _, d :: _, 0, x, h, e => by
    have q : d = x := by simpa using e
    exact ⟨v, rfl, q ▸ h.1⟩
  | _ :: _, _ :: _, i + 1, _, h, e => by
    obtain ⟨v, h1, h2⟩ := RepAll.get (i := i) h.2 (by simpa using e)
    exact ⟨v, by simpa using h1, h2⟩
theorem RepAll.get' {G : Gm} {H : Hp} : ∀ {vs : List V} {ds : List DV} {i : Nat} {v : V}, RepAll G H vs ds → vs[i]? = some v → ∃ d, ds[i]? = some d ∧ d.rep G H v
  | [], [], _, _, _, e => by simp at e
  | w :: _, d :: _, 0, x, h, e => by
    have q : w = x := by simpa using e
    exact ⟨d, rfl, q ▸ h.1⟩
  | _ :: _, _ :: _, i + 1, _, h, e => by
    obtain ⟨v, h1, h2⟩ := RepAll.get' (i := i) h.2 (by simpa using e)
    exact ⟨v, by simpa using h1, h2⟩
theorem RepAll.app {G : Gm} {H : Hp} : ∀ {vs ws : List V} {ds es : List DV}, RepAll G H vs ds → RepAll G H ws es → RepAll G H (vs ++ ws) (ds ++ es)
  | [], _, [], _, _, k => k
  | _ :: _, _, _ :: _, _, h, k => ⟨h.1, RepAll.app h.2 k⟩
theorem RepAll.take {G : Gm} {H : Hp} : ∀ {vs : List V} {ds : List DV} (n : Nat), RepAll G H vs ds → RepAll G H (vs.take n) (ds.take n)
  | _, _, 0, _ => trivial
  | [], [], _ + 1, _ => trivial
  | _ :: _, _ :: _, n + 1, h => ⟨h.1, RepAll.take n h.2⟩
theorem RepAll.drop {G : Gm} {H : Hp} : ∀ {vs : List V} {ds : List DV} (n : Nat), RepAll G H vs ds → RepAll G H (vs.drop n) (ds.drop n)
  | _, _, 0, h => h
  | [], [], _ + 1, _ => trivial
  | _ :: _, _ :: _, n + 1, h => RepAll.drop n h.2
theorem RepAll.set {G : Gm} {H : Hp} {v : V} {d : DV} (r : d.rep G H v) : ∀ {vs : List V} {ds : List DV} (n : Nat), RepAll G H vs ds → RepAll G H (vs.set n v) (ds.set n d)
  | [], [], _, _ => trivial
  | _ :: _, _ :: _, 0, h => ⟨r, h.2⟩
  | _ :: _, _ :: _, n + 1, h => ⟨h.1, RepAll.set r n h.2⟩

/-! ### scalars -/
/-- a type whose data are values without the heap -/
class Sc (α : Type) where
  v : α → V
  inj : ∀ {a b : α}, v a = v b → a = b
@[reducible] def scRp (α : Type) [i : Sc α] : Rp α := ⟨fun _ _ v a => v = i.v a, fun _ h => h⟩
instance : Sc Int := ⟨V.int, fun h => by injection h⟩
instance : Sc Bool := ⟨V.bl, fun h => by injection h⟩
instance : Sc Unit := ⟨fun _ => V.non, fun _ => rfl⟩
instance : Sc Str := ⟨V.str, fun h => by injection h⟩
instance : Sc V := ⟨id, fun h => h⟩
def oiV : Option Int → V
  | none => .non
  | some i => .int i
instance : Sc (Option Int) := ⟨oiV, fun {a b} h => by cases a <;> cases b <;> first | rfl | (injection h with e; rw [e]) | cases h⟩
def obV : Option Bool → V
  | none => .non
  | some i => .bl i
instance : Sc (Option Bool) := ⟨obV, fun {a b} h => by cases a <;> cases b <;> first | rfl | (injection h with e; rw [e]) | cases h⟩
instance : Rp Int := scRp Int
instance : Rp Bool := scRp Bool
instance : Rp Unit := scRp Unit
instance : Rp Str := scRp Str
instance : Rp V := scRp V
instance : Rp (Option Int) := scRp (Option Int)
instance : Rp (Option Bool) := scRp (Option Bool)

/-! ### tuples, lists, instances -/
@[reducible] def tpRp {α : Type} (ds : α → List DV) : Rp α where
  rep := fun G H v a => ∃ p vs, v = .ref p ∧ H p = some (.tup vs) ∧ RepAll G H vs (ds a)
  mono := fun e ⟨p, vs, h1, h2, h3⟩ => ⟨p, vs, h1, e _ _ h2, h3.mono e⟩
instance {α β : Type} [Rp α] [Rp β] : Rp (α × β) := tpRp fun p => [dv p.1, dv p.2]
@[reducible] def lsRp {α : Type} (ds : α → List DV) : Rp α where
  rep := fun G H v a => ∃ p vs, v = .ref p ∧ H p = some (.lst vs) ∧ RepAll G H vs (ds a)
  mono := fun e ⟨p, vs, h1, h2, h3⟩ => ⟨p, vs, h1, e _ _ h2, h3.mono e⟩
def dvs {α : Type} [Rp α] (xs : List α) : List DV := xs.map dv
instance {α : Type} [Rp α] : Rp (List α) := lsRp dvs
/-- the script: read alone -/
structure Scr where
  ns : List Int
instance : Rp Scr where
  rep := fun G H v a => ∃ p, v = .ref p ∧ SqL G.K H p (a.ns.map V.int)
  mono := fun e ⟨p, h1, h2⟩ => ⟨p, h1, e.seq h2⟩
theorem dvs_len {α : Type} [Rp α] (xs : List α) : (dvs xs).length = xs.length := List.length_map _
theorem dvs_get {α : Type} [Rp α] (xs : List α) (i : Nat) : (dvs xs)[i]? = (xs[i]?).map dv := List.getElem?_map
/-- attributes -/
def RepF (G : Gm) (H : Hp) : List (Str × V) → List (Str × DV) → Prop
  | [], [] => True
  | (n, v) :: vs, (m, d) :: ds => n = m ∧ d.rep G H v ∧ RepF G H vs ds
  | _, _ => False
theorem RepF.mono {G : Gm} {H H' : Hp} (e : Same H H') : ∀ {vs : List (Str × V)} {ds : List (Str × DV)}, RepF G H vs ds → RepF G H' vs ds
  | [], [], _ => trivial
  | (_, _) :: _, (_, _) :: _, h => ⟨h.1, DV.mono e h.2.1, RepF.mono e h.2.2⟩
theorem RepF.get {G : Gm} {H : Hp} {f : Str} : ∀ {vs : List (Str × V)} {ds : List (Str × DV)} {d : DV}, RepF G H vs ds → ds.lookup f = some d → ∃ v, vs.lookup f = some v ∧ d.rep G H v
  | [], [], _, _, e => by simp at e
  | (n, v) :: vs, (m, d) :: ds, x, h, e => by
    obtain ⟨rfl, h1, h2⟩ := h
    by_cases q : f == n
    · rw [List.lookup_cons, q] at e ⊢
      have z : d = x := by simpa using e
      exact ⟨v, rfl, z ▸ h1⟩
    · have q' : (f == n) = false := by simpa using q
      rw [List.lookup_cons, q'] at e ⊢
      exact RepF.get h2 e
theorem RepF.no {G : Gm} {H : Hp} {f : Str} : ∀ {vs : List (Str × V)} {ds : List (Str × DV)}, RepF G H vs ds → ds.lookup f = none → vs.lookup f = none
  | [], [], _, _ => rfl
  | (n, v) :: vs, (m, d) :: ds, h, e => by
    obtain ⟨rfl, h1, h2⟩ := h
    by_cases q : f == n
    · rw [List.lookup_cons, q] at e; cases e
    · have q' : (f == n) = false := by simpa using q
      rw [List.lookup_cons, q'] at e ⊢
      exact RepF.no h2 e
@[reducible] def obRp {α : Type} (c : Nat) (fs : α → List (Str × DV)) : Rp α where
  rep := fun G H v a => ∃ p dx kvs, v = .ref p ∧ H p = some (.ins (G.cls c) dx kvs) ∧ RepF G H kvs (fs a)
  mono := fun e ⟨p, dx, kvs, h1, h2, h3⟩ => ⟨p, dx, kvs, h1, e _ _ h2, h3.mono e⟩

/-! ### what is known of the slots -/
/-- the content of an object that the def alone holds -/
structure OV : Type 1 where
  ok : Gm → Hp → Addr → HO → Prop
  mono : ∀ {G : Gm} {H H' : Hp} {p : Addr} {o : HO}, Same H H' → ok G H p o → ok G H' p o
inductive Ent : Type 1 where
  | no
  | sh (d : DV)
  | ow (o : OV)
def olist {α : Type} [Rp α] (xs : List α) : OV := ⟨fun G H _ o => ∃ vs, o = .lst vs ∧ RepAll G H vs (dvs xs), fun e ⟨vs, h1, h2⟩ => ⟨vs, h1, h2.mono e⟩⟩
/-- the instance at p, not yet shared -/
def oobj (p : Addr) (c : Nat) (fs : List (Str × DV)) : OV := ⟨fun G H q o => q = p ∧ ∃ dx kvs, o = .ins (G.cls c) dx kvs ∧ RepF G H kvs fs, fun e ⟨h0, dx, vs, h1, h2⟩ => ⟨h0, dx, vs, h1, h2.mono e⟩⟩
def hd (hs : Addr → Prop) (own : Nat → Option Addr) : Addr → Prop := fun a => hs a ∨ ∃ i, own i = some a
def EntOk (G : Gm) (hs : Addr → Prop) (own : Nat → Option Addr) (σ : L2.St) (H : Hp) (i : Nat) : Ent → Prop
  | .no => True
  | .sh d => ∃ v, σ[i]? = some (some v) ∧ d.rep G (Hid (hd hs own) H) v
  | .ow o => ∃ p ho, own i = some p ∧ σ[i]? = some (some (.ref p)) ∧ H p = some ho ∧ o.ok G (Hid (hd hs own) H) p ho
structure Kn (G : Gm) (hs : Addr → Prop) (B : Hp) (own : Nat → Option Addr) (env : List Ent) (σ : L2.St) (H : Hp) : Prop where
  ex : Same B H
  hsB : ∀ a, hs a → H a ≠ none
  dis : ∀ i p, own i = some p → ¬ hs p
  len : σ.length = env.length
  inj : ∀ i j p, own i = some p → own j = some p → i = j
  new : ∀ i p, own i = some p → B p = none ∧ H p ≠ none
  out : ∀ i p, own i = some p → ∃ o, env[i]? = some (.ow o)
  ent : ∀ i e, env[i]? = some e → EntOk G hs own σ H i e
section
variable {G : Gm} {hs : Addr → Prop} {B : Hp} {own : Nat → Option Addr} {env : List Ent} {σ : L2.St} {H H' : Hp}
theorem EntOk.mono {i : Nat} {e : Ent} (s : Same H H') (h : EntOk G hs own σ H i e) : EntOk G hs own σ H' i e := by
  cases e with
  | no => trivial
  | sh d => obtain ⟨v, h1, h2⟩ := h; exact ⟨v, h1, DV.mono (hid_same s) h2⟩
  | ow o => obtain ⟨p, ho, h0, h1, h2, h3⟩ := h; exact ⟨p, ho, h0, h1, s _ _ h2, o.mono (hid_same s) h3⟩
theorem stays {a : Addr} (s : Same H H') (h : H a ≠ none) : H' a ≠ none := fun z => by
  cases q : H a with
  | none => exact h q
  | some o => rw [s a o q] at z; cases z
theorem Kn.mono (k : Kn G hs B own env σ H) (s : Same H H') : Kn G hs B own env σ H' where
  ex := k.ex.trans s
  hsB := fun a h => stays s (k.hsB a h)
  dis := k.dis
  len := k.len
  inj := k.inj
  new := fun i p h => ⟨(k.new i p h).1, stays s (k.new i p h).2⟩
  out := k.out
  ent := fun i e h => (k.ent i e h).mono s
theorem Kn.sh (k : Kn G hs B own env σ H) {i : Nat} {d : DV} (h : env[i]? = some (.sh d)) : ∃ v, σ[i]? = some (some v) ∧ d.rep G (Hid (hd hs own) H) v := k.ent i _ h
/-- a fresh address is hidden nowhere -/
theorem Kn.fresh (k : Kn G hs B own env σ H) (s : Same H H') {p : Addr} (h : H' p = none) : ¬ hd hs own p := fun z => by
  rcases z with z | ⟨i, z⟩
  · cases q : H p with
    | none => exact k.hsB p z q
    | some o => rw [s _ _ q] at h; cases h
  · cases q : H p with
    | none => exact (k.new i p z).2 q
    | some o => rw [s _ _ q] at h; cases h
def drop (own : Nat → Option Addr) (i : Nat) : Nat → Option Addr := fun j => if j = i then none else own j
theorem drop_sub {i j : Nat} {p : Addr} (h : drop own i j = some p) : own j = some p ∧ j ≠ i := by
  unfold drop at h
  split at h
  · cases h
  · exact ⟨h, by assumption⟩
theorem drop_hd {i : Nat} {a : Addr} (h : hd hs (drop own i) a) : hd hs own a := by
  rcases h with h | ⟨j, h⟩
  · exact .inl h
  · exact .inr ⟨j, (drop_sub h).1⟩
/-- a slot is stored: shared data -/
theorem Kn.set (k : Kn G hs B own env σ H) {i : Nat} {v : V} {d : DV} (r : d.rep G (Hid (hd hs own) H) v) : Kn G hs B (drop own i) (env.set i (.sh d)) (σ.set i (some v)) H where
  ex := k.ex
  hsB := k.hsB
  dis := fun a p h => k.dis a p (drop_sub h).1
  len := by rw [List.length_set, List.length_set]; exact k.len
  inj := fun a b p h1 h2 => k.inj a b p (drop_sub h1).1 (drop_sub h2).1
  new := fun a p h => k.new a p (drop_sub h).1
  out := fun a p h => by
    obtain ⟨h1, h2⟩ := drop_sub h
    obtain ⟨o, ho⟩ := k.out a p h1
    exact ⟨o, by rw [List.getElem?_set_ne (Ne.symm h2)]; exact ho⟩
  ent := fun j e h => by
    have sm : Same (Hid (hd hs own) H) (Hid (hd hs (drop own i)) H) := hid_more fun a z => drop_hd z
    by_cases q : i = j
    · subst q
      have hi : i < env.length := by
        have z := (List.getElem?_eq_some_iff.mp h).1
        rw [List.length_set] at z
        exact z
      rw [List.getElem?_set_self hi] at h
      cases h
      exact ⟨v, by rw [List.getElem?_set_self (by rw [k.len]; exact hi)], DV.mono sm r⟩
    · rw [List.getElem?_set_ne q] at h
      have z := k.ent j e h
      cases e with
      | no => trivial
      | sh d' => obtain ⟨w, h1, h2⟩ := z; exact ⟨w, by rw [List.getElem?_set_ne q]; exact h1, DV.mono sm h2⟩
      | ow o =>
        obtain ⟨p, ho, h0, h1, h2, h3⟩ := z
        exact ⟨p, ho, by unfold drop; rw [if_neg (Ne.symm q)]; exact h0, by rw [List.getElem?_set_ne q]; exact h1, h2, o.mono sm h3⟩
/-- a slot is forgotten -/
theorem Kn.forget (k : Kn G hs B own env σ H) (i : Nat) : Kn G hs B (drop own i) (env.set i .no) σ H where
  ex := k.ex
  hsB := k.hsB
  dis := fun a p h => k.dis a p (drop_sub h).1
  len := by rw [List.length_set]; exact k.len
  inj := fun a b p h1 h2 => k.inj a b p (drop_sub h1).1 (drop_sub h2).1
  new := fun a p h => k.new a p (drop_sub h).1
  out := fun a p h => by
    obtain ⟨h1, h2⟩ := drop_sub h
    obtain ⟨o, ho⟩ := k.out a p h1
    exact ⟨o, by rw [List.getElem?_set_ne (Ne.symm h2)]; exact ho⟩
  ent := fun j e h => by
    have sm : Same (Hid (hd hs own) H) (Hid (hd hs (drop own i)) H) := hid_more fun a z => drop_hd z
    by_cases q : i = j
    · subst q
      by_cases hi : i < env.length
      · rw [List.getElem?_set_self hi] at h; cases h; trivial
      · have : (env.set i Ent.no)[i]? = none := List.getElem?_eq_none_iff.mpr (by rw [List.length_set]; omega)
        rw [this] at h; cases h
    · rw [List.getElem?_set_ne q] at h
      have z := k.ent j e h
      cases e with
      | no => trivial
      | sh d' => obtain ⟨w, h1, h2⟩ := z; exact ⟨w, h1, DV.mono sm h2⟩
      | ow o =>
        obtain ⟨p, ho, h0, h1, h2, h3⟩ := z
        exact ⟨p, ho, by unfold drop; rw [if_neg (Ne.symm q)]; exact h0, h1, h2, o.mono sm h3⟩
def hold (own : Nat → Option Addr) (i : Nat) (p : Addr) : Nat → Option Addr := fun j => if j = i then some p else own j
/-- a slot gets an object of its own, new since H -/
theorem Kn.gain (k : Kn G hs B own env σ H) {i : Nat} {p : Addr} {ho : HO} {o : OV} (hi : i < env.length) (s : Same H H') (hp : H p = none) (hH : H' p = some ho) (r : o.ok G (Hid (hd hs own) H) p ho) : Kn G hs B (hold (drop own i) i p) (env.set i (.ow o)) (σ.set i (some (.ref p))) H' := by
  have sm : Same (Hid (hd hs own) H) (Hid (hd hs (hold (drop own i) i p)) H') := fun a u e => by
    have h1 := hid_of e
    have ne : a ≠ p := ne_of_none h1 hp
    have nh : ¬ hd hs own a := fun z => by unfold Hid at e; rw [if_pos z] at e; cases e
    have nh' : ¬ hd hs (hold (drop own i) i p) a := fun z => by
      rcases z with z | ⟨j, z⟩
      · exact nh (.inl z)
      · unfold hold at z
        split at z
        · cases z; exact ne rfl
        · exact nh (.inr ⟨j, (drop_sub z).1⟩)
    rw [hid_at nh']
    exact s a u h1
  have npo : ∀ j q, own j = some q → q ≠ p := fun j q h e => by
    subst e
    exact (k.new j q h).2 hp
  exact {
    ex := k.ex.trans s
    hsB := fun a h z => by
      cases q : H a with
      | none => exact k.hsB a h q
      | some o => rw [s a o q] at z; cases z
    dis := fun a q h z => by
      unfold hold at h
      by_cases ha : a = i
      · rw [if_pos ha] at h; cases h
        exact k.hsB p z hp
      · rw [if_neg ha] at h; exact k.dis a q (drop_sub h).1 z
    len := by rw [List.length_set, List.length_set]; exact k.len
    inj := fun a b q h1 h2 => by
      unfold hold at h1 h2
      by_cases ha : a = i
      · by_cases hb : b = i
        · rw [ha, hb]
        · rw [if_pos ha] at h1; rw [if_neg hb] at h2
          cases h1
          exact absurd rfl (npo b _ (drop_sub h2).1)
      · by_cases hb : b = i
        · rw [if_neg ha] at h1; rw [if_pos hb] at h2
          cases h2
          exact absurd rfl (npo a _ (drop_sub h1).1)
        · rw [if_neg ha] at h1; rw [if_neg hb] at h2
          exact k.inj a b q (drop_sub h1).1 (drop_sub h2).1
    new := fun a q h => by
      unfold hold at h
      by_cases ha : a = i
      · rw [if_pos ha] at h; cases h
        refine ⟨?_, by rw [hH]; simp⟩
        cases z : B p with
        | none => rfl
        | some u => rw [k.ex _ _ z] at hp; cases hp
      · rw [if_neg ha] at h
        have z := k.new a q (drop_sub h).1
        refine ⟨z.1, fun e => ?_⟩
        cases y : H q with
        | none => exact z.2 y
        | some u => rw [s _ _ y] at e; cases e
    out := fun a q h => by
      unfold hold at h
      by_cases ha : a = i
      · subst ha; exact ⟨o, List.getElem?_set_self hi⟩
      · rw [if_neg ha] at h
        obtain ⟨h1, h2⟩ := drop_sub h
        obtain ⟨o', ho'⟩ := k.out a q h1
        exact ⟨o', by rw [List.getElem?_set_ne (Ne.symm ha)]; exact ho'⟩
    ent := fun j e h => by
      by_cases q : i = j
      · subst q
        rw [List.getElem?_set_self hi] at h
        cases h
        exact ⟨p, ho, by unfold hold; rw [if_pos rfl], by rw [List.getElem?_set_self (by rw [k.len]; exact hi)], hH, o.mono sm r⟩
      · rw [List.getElem?_set_ne q] at h
        have z := k.ent j e h
        cases e with
        | no => trivial
        | sh d' => obtain ⟨w, h1, h2⟩ := z; exact ⟨w, by rw [List.getElem?_set_ne q]; exact h1, DV.mono sm h2⟩
        | ow o' =>
          obtain ⟨p', ho', h0, h1, h2, h3⟩ := z
          refine ⟨p', ho', ?_, by rw [List.getElem?_set_ne q]; exact h1, s _ _ h2, o'.mono sm h3⟩
          unfold hold drop
          rw [if_neg (Ne.symm q), if_neg (Ne.symm q)]
          exact h0 }
/-- the object of a slot changes -/
theorem Kn.chg (k : Kn G hs B own env σ H) {i : Nat} {p : Addr} {ho : HO} {o : OV} (hi : i < env.length) (hp : own i = some p) (r : o.ok G (Hid (hd hs own) H) p ho) : Kn G hs B own (env.set i (.ow o)) σ (upd H p ho) := by
  have hh : hd hs own p := .inr ⟨i, hp⟩
  exact {
    ex := fun a u e => by
      rw [upd_ne fun z => ?_]
      · exact k.ex a u e
      · subst z
        rw [(k.new i a hp).1] at e; cases e
    hsB := fun a h z => by
      by_cases e : a = p
      · subst e; rw [upd_same] at z; cases z
      · rw [upd_ne e] at z; exact k.hsB a h z
    dis := k.dis
    len := by rw [List.length_set]; exact k.len
    inj := k.inj
    new := fun a q h => ⟨(k.new a q h).1, fun z => by
      by_cases e : q = p
      · subst e; rw [upd_same] at z; cases z
      · rw [upd_ne e] at z; exact (k.new a q h).2 z⟩
    out := fun a q h => by
      by_cases ha : a = i
      · subst ha; exact ⟨o, List.getElem?_set_self hi⟩
      · obtain ⟨o', ho'⟩ := k.out a q h
        exact ⟨o', by rw [List.getElem?_set_ne (Ne.symm ha)]; exact ho'⟩
    ent := fun j e h => by
      have eh : Hid (hd hs own) (upd H p ho) = Hid (hd hs own) H := hid_upd hh
      by_cases q : i = j
      · subst q
        rw [List.getElem?_set_self hi] at h
        cases h
        obtain ⟨o0, ho0⟩ := k.out i p hp
        obtain ⟨p', _, h0, h1, _, _⟩ := (show EntOk G hs own σ H i (.ow o0) from k.ent i _ ho0)
        rw [hp] at h0; cases h0
        exact ⟨p, ho, hp, h1, upd_same, by rw [eh]; exact r⟩
      · rw [List.getElem?_set_ne q] at h
        have z := k.ent j e h
        cases e with
        | no => trivial
        | sh d' => obtain ⟨w, h1, h2⟩ := z; exact ⟨w, h1, by rw [eh]; exact h2⟩
        | ow o' =>
          obtain ⟨p', ho', h0, h1, h2, h3⟩ := z
          have ne : p' ≠ p := fun e => q (k.inj i j p hp (e ▸ h0))
          exact ⟨p', ho', h0, h1, by rw [upd_ne ne]; exact h2, by rw [eh]; exact h3⟩ }
/-- the object of a slot is shared from here on -/
theorem Kn.freeze (k : Kn G hs B own env σ H) {i : Nat} {o : OV} {d : DV} (he : env[i]? = some (.ow o)) (r : ∀ p ho (H1 : Hp), H p = some ho → H1 p = some ho → Same (Hid (hd hs own) H) H1 → o.ok G (Hid (hd hs own) H) p ho → d.rep G H1 (.ref p)) : Kn G hs B (drop own i) (env.set i (.sh d)) σ H := by
  have hi : i < env.length := (List.getElem?_eq_some_iff.mp he).1
  obtain ⟨p, ho, h0, h1, h2, h3⟩ := (show EntOk G hs own σ H i (.ow o) from k.ent i _ he)
  have sm : Same (Hid (hd hs own) H) (Hid (hd hs (drop own i)) H) := hid_more fun a z => drop_hd z
  have np : ¬ hd hs (drop own i) p := fun z => by
    rcases z with z | ⟨j, z⟩
    · exact k.dis i p h0 z
    · obtain ⟨z1, z2⟩ := drop_sub z
      exact z2 (k.inj j i p z1 h0)
  have es : σ.set i (some (.ref p)) = σ := by
    apply List.ext_getElem?
    intro j
    by_cases q : i = j
    · subst q; rw [List.getElem?_set_self (by rw [k.len]; exact hi), h1]
    · rw [List.getElem?_set_ne q]
  have z := (k.forget i)
  have rr : d.rep G (Hid (hd hs (drop (drop own i) i)) H) (.ref p) := by
    have e2 : drop (drop own i) i = drop own i := by
      funext j; unfold drop; split <;> rfl
    rw [e2]
    exact r p ho _ h2 (by rw [hid_at np]; exact h2) sm h3
  have w := z.set (i := i) (v := .ref p) (d := d) (by
    have e2 : drop (drop own i) i = drop own i := by
      funext j; unfold drop; split <;> rfl
    rw [e2] at rr
    exact rr)
  have e2 : drop (drop own i) i = drop own i := by
    funext j; unfold drop; split <;> rfl
  rw [e2, List.set_set, es] at w
  exact w
/-- what is shared stays shared -/
def Fr (hs : Addr → Prop) (own own' : Nat → Option Addr) (H H' : Hp) : Prop := Same (Hid (hd hs own) H) (Hid (hd hs own') H')
theorem Fr.refl : Fr hs own own H H := Same.refl _
theorem Fr.trans {own' own'' : Nat → Option Addr} {H'' : Hp} (a : Fr hs own own' H H') (b : Fr hs own' own'' H' H'') : Fr hs own own'' H H'' := Same.trans a b
theorem Fr.of (s : Same H H') : Fr hs own own H H' := hid_same s
theorem Fr.drop (i : Nat) : Fr hs own (Rk.drop own i) H H := hid_more fun _ z => drop_hd z
theorem Fr.chg {p : Addr} {ho : HO} {i : Nat} (h : own i = some p) : Fr hs own own H (upd H p ho) := by
  unfold Fr
  rw [hid_upd (show hd hs own p from .inr ⟨i, h⟩)]
  exact Same.refl _
theorem Fr.gain {p : Addr} {i : Nat} (s : Same H H') (hp : H p = none) : Fr hs own (hold (Rk.drop own i) i p) H H' := fun a u e => by
  have h1 := hid_of e
  have ne : a ≠ p := ne_of_none h1 hp
  have nh : ¬ hd hs own a := fun z => by unfold Hid at e; rw [if_pos z] at e; cases e
  have nh' : ¬ hd hs (hold (Rk.drop own i) i p) a := fun z => by
    rcases z with z | ⟨j, z⟩
    · exact nh (.inl z)
    · unfold hold at z
      split at z
      · cases z; exact ne rfl
      · exact nh (.inr ⟨j, (drop_sub z).1⟩)
  rw [hid_at nh']
  exact s a u h1
end
end Rk

set_option maxHeartbeats 4000000
/-! # Judgements -/
namespace Rk
open PySem L2

/-! ### what must hold ahead, as a reading of the thing itself -/
section
variable (X : Cx)
def tE (e : Expr) : TE := fun σ H Q => ∀ (pins : List (Addr × Obj)) (s : Shared), Inv X pins σ H s → wpAny (model X.prog X.w) X.A (eval e X.env) (EP X pins σ Q) X.xe s
def tT (e : Expr) : TT := fun σ H Q => ∀ (pins : List (Addr × Obj)) (s : Shared), Inv X pins σ H s → wpAny (model X.prog X.w) X.A (isTrue e X.env (eval e X.env)) (TP X pins σ Q) X.xe s
def tTW (e : Expr) : TT := fun σ H Q => ∀ (whole : Sem Value) (pins : List (Addr × Obj)) (s : Shared), Inv X pins σ H s → wpAny (model X.prog X.w) X.A (isTrue e X.env whole) (TP X pins σ Q) X.xe s
def tA (es : List Expr) : TA := fun σ H Q => ∀ (pos : Pos) (pins : List (Addr × Obj)) (s : Shared), Inv X pins σ H s → wpAny (model X.prog X.w) X.A (spliced (backTo pos (starEach es X.env))) (AP X pins σ Q) X.xe s
def tS (st : Stmt) : TS := fun D σ H => ∀ (pins : List (Addr × Obj)) (s : Shared), Inv X pins σ H s → wpAny (model X.prog X.w) X.A (exec st X.env) (SP X pins D) X.xe s
def tSs (st : List Stmt) : TS := fun D σ H => ∀ (pins : List (Addr × Obj)) (s : Shared), Inv X pins σ H s → wpAny (model X.prog X.w) X.A (execs st X.env) (SP X pins D) X.xe s
end
section
variable {X : Cx} {e : Expr} {es : List Expr} {st : Stmt} {sts : List Stmt} {σ : L2.St} {H : Hp}
theorem peE : PE X e (tE X e) := ⟨fun pins s σ H Q I h => h pins s I⟩
theorem peT : PT X e (tT X e) := ⟨fun pins s σ H Q I h => h pins s I⟩
theorem peTW : PW X e (tTW X e) := ⟨fun w pins s σ H Q I h => h w pins s I⟩
theorem peA : PA X es (tA X es) := ⟨fun pos pins s σ H Q I h => h pos pins s I⟩
theorem peS : PS X st (tS X st) := ⟨fun pins s σ H D I h => h pins s I⟩
theorem peSs : PSs X sts (tSs X sts) := ⟨fun pins s σ H D I h => h pins s I⟩
theorem tE_mono {Q Q' : VK} (q : ∀ v H', Q v H' → Q' v H') (h : tE X e σ H Q) : tE X e σ H Q' := fun pins s I => thn (h pins s I) fun u s' ⟨v, H', J, r, z⟩ => ⟨v, H', J, r, q v H' z⟩
theorem tT_mono {Q Q' : Bool → Hp → Prop} (q : ∀ v H', Q v H' → Q' v H') (h : tT X e σ H Q) : tT X e σ H Q' := fun pins s I => thn (h pins s I) fun u s' ⟨H', J, z⟩ => ⟨H', J, q _ H' z⟩
theorem tTW_mono {Q Q' : Bool → Hp → Prop} (q : ∀ v H', Q v H' → Q' v H') (h : tTW X e σ H Q) : tTW X e σ H Q' := fun w pins s I => thn (h w pins s I) fun u s' ⟨H', J, z⟩ => ⟨H', J, q _ H' z⟩
theorem tA_mono {Q Q' : List V → Hp → Prop} (q : ∀ v H', Q v H' → Q' v H') (h : tA X es σ H Q) : tA X es σ H Q' := fun pos pins s I => thn (h pos pins s I) fun u s' ⟨v, H', J, r, z⟩ => ⟨v, H', J, r, q v H' z⟩
theorem sp_mono {D D' : Ends} {pins : List (Addr × Obj)} {f : Flow} {s' : Shared} (n : ∀ σ H, D.nx σ H → D'.nx σ H) (r : ∀ v H, D.rt v H → D'.rt v H) (b : ∀ σ H, D.bk σ H → D'.bk σ H) (c : ∀ σ H, D.ct σ H → D'.ct σ H)
    (h : SP X pins D f s') : SP X pins D' f s' := by
  cases f with
  | next => obtain ⟨σ', H', J, q⟩ := h; exact ⟨σ', H', J, n _ _ q⟩
  | brk => obtain ⟨σ', H', J, q⟩ := h; exact ⟨σ', H', J, b _ _ q⟩
  | cont => obtain ⟨σ', H', J, q⟩ := h; exact ⟨σ', H', J, c _ _ q⟩
  | ret u => obtain ⟨v, σ', H', J, rv, q⟩ := h; exact ⟨v, σ', H', J, rv, r _ _ q⟩
theorem tS_mono {D D' : Ends} (n : ∀ σ H, D.nx σ H → D'.nx σ H) (r : ∀ v H, D.rt v H → D'.rt v H) (b : ∀ σ H, D.bk σ H → D'.bk σ H) (c : ∀ σ H, D.ct σ H → D'.ct σ H) (h : tS X st D σ H) : tS X st D' σ H :=
  fun pins s I => thn (h pins s I) fun f s' z => sp_mono n r b c z
theorem tSs_mono {D D' : Ends} (n : ∀ σ H, D.nx σ H → D'.nx σ H) (r : ∀ v H, D.rt v H → D'.rt v H) (b : ∀ σ H, D.bk σ H → D'.bk σ H) (c : ∀ σ H, D.ct σ H → D'.ct σ H) (h : tSs X sts D σ H) : tSs X sts D' σ H :=
  fun pins s I => thn (h pins s I) fun f s' z => sp_mono n r b c z
theorem tE_of {t : TE} {Q : VK} (p : PE X e t) (h : t σ H Q) : tE X e σ H Q := fun pins s I => p.run pins s σ H Q I h
theorem tT_of {t : TT} {Q : Bool → Hp → Prop} (p : PT X e t) (h : t σ H Q) : tT X e σ H Q := fun pins s I => p.run pins s σ H Q I h
theorem tTW_of {t : TT} {Q : Bool → Hp → Prop} (p : PW X e t) (h : t σ H Q) : tTW X e σ H Q := fun w pins s I => p.run w pins s σ H Q I h
theorem tA_of {t : TA} {Q : List V → Hp → Prop} (p : PA X es t) (h : t σ H Q) : tA X es σ H Q := fun pos pins s I => p.run pos pins s σ H Q I h
theorem tS_of {t : TS} {D : Ends} (p : PS X st t) (h : t D σ H) : tS X st D σ H := fun pins s I => p.run pins s σ H D I h
theorem tSs_of {t : TS} {D : Ends} (p : PSs X sts t) (h : t D σ H) : tSs X sts D σ H := fun pins s I => p.run pins s σ H D I h
end

/-! ### the judgements -/
structure Fx where
  X : Cx
  cls : Nat → Addr
  hs : Addr → Prop
  B : Hp
def Fx.G (F : Fx) : Gm := ⟨F.X.K, F.cls⟩
abbrev Fx.Kn (F : Fx) := Rk.Kn F.G F.hs F.B
/-- where an error of an own class may go -/
def Port (F : Fx) (own : Nat → Option Addr) (H : Hp) (ex : List Ent → Nat → Prop) : Prop :=
  PassesOwn (model F.X.prog F.X.w) F.X.A F.X.env F.X.xe ∧ ∃ W : WX, Takes F.X W ∧ ∀ env own' C σ H', F.Kn own' env σ H' → Fr F.hs own own' H H' → ex env C → W (.ref (F.cls C)) none σ H'
theorem Port.imp {F : Fx} {own : Nat → Option Addr} {H : Hp} {ex ex' : List Ent → Nat → Prop} (p : Port F own H ex) (h : ∀ env C, ex' env C → ex env C) : Port F own H ex' :=
  ⟨p.1, p.2.elim fun W ⟨t, w⟩ => ⟨W, t, fun env own C σ H k f q => w env own C σ H k f (h _ _ q)⟩⟩
theorem Port.step {F : Fx} {own own' : Nat → Option Addr} {H H' : Hp} {ex : List Ent → Nat → Prop} (p : Port F own H ex) (f : Fr F.hs own own' H H') : Port F own' H' ex :=
  ⟨p.1, p.2.elim fun W ⟨t, w⟩ => ⟨W, t, fun env o C σ h k g q => w env o C σ h k (f.trans g) q⟩⟩
theorem Port.mono {F : Fx} {own : Nat → Option Addr} {H H' : Hp} {ex : List Ent → Nat → Prop} (p : Port F own H ex) (s : Same H H') : Port F own H' ex := p.step (Fr.of s)
abbrev XP := List Ent → Nat → Prop
def KE (F : Fx) (env : List Ent) (e : Expr) (ex : XP) {α : Type} [Rp α] (Q : α → Prop) : Prop :=
  ∀ own σ H, F.Kn own env σ H → Port F own H ex → tE F.X e σ H fun v H' => ∃ a : α, Same H H' ∧ Rp.rep F.G (Hid (hd F.hs own) H') v a ∧ Q a
def KT (F : Fx) (env : List Ent) (e : Expr) (ex : XP) (Q : Bool → Prop) : Prop :=
  ∀ own σ H, F.Kn own env σ H → Port F own H ex → tT F.X e σ H fun b H' => Same H H' ∧ Q b
def KTW (F : Fx) (env : List Ent) (e : Expr) (ex : XP) (Q : Bool → Prop) : Prop :=
  ∀ own σ H, F.Kn own env σ H → Port F own H ex → tTW F.X e σ H fun b H' => Same H H' ∧ Q b
def KA (F : Fx) (env : List Ent) (es : List Expr) (ex : XP) (Q : List DV → Prop) : Prop :=
  ∀ own σ H, F.Kn own env σ H → Port F own H ex → tA F.X es σ H fun vs H' => ∃ ds, Same H H' ∧ RepAll F.G (Hid (hd F.hs own) H') vs ds ∧ Q ds
structure Po : Type 1 where
  nx : List Ent → Prop
  rt : DV → Prop
  bk : List Ent → Prop := fun _ => False
  ct : List Ent → Prop := fun _ => False
  ex : XP := fun _ _ => False
/-- what a state is to bear -/
def At (F : Fx) (own : Nat → Option Addr) (H : Hp) (p : List Ent → Prop) (σ : L2.St) (H' : Hp) : Prop := ∃ env own', F.Kn own' env σ H' ∧ Fr F.hs own own' H H' ∧ p env
def Rt (F : Fx) (p : DV → Prop) (v : V) (H : Hp) : Prop := ∃ d : DV, Same F.B H ∧ d.rep F.G (Hid F.hs H) v ∧ p d
def ends (F : Fx) (own : Nat → Option Addr) (H : Hp) (P : Po) : Ends := { nx := At F own H P.nx, rt := Rt F P.rt, bk := At F own H P.bk, ct := At F own H P.ct }
def KS (F : Fx) (env : List Ent) (st : Stmt) (P : Po) : Prop := ∀ own σ H, F.Kn own env σ H → Port F own H P.ex → tS F.X st (ends F own H P) σ H
def KSs (F : Fx) (env : List Ent) (st : List Stmt) (P : Po) : Prop := ∀ own σ H, F.Kn own env σ H → Port F own H P.ex → tSs F.X st (ends F own H P) σ H
section
variable {F : Fx} {env : List Ent} {ex : XP} {a b c e : Expr} {es : List Expr} {pos : Pos}

theorem ke_imp {α : Type} [Rp α] {Q Q' : α → Prop} (q : ∀ x, Q x → Q' x) (h : KE F env e ex Q) : KE F env e ex Q' := fun own σ H k p => tE_mono (fun v H' ⟨x, s, r, z⟩ => ⟨x, s, r, q x z⟩) (h own σ H k p)
theorem At.imp {own : Nat → Option Addr} {H H' : Hp} {p q : List Ent → Prop} {σ : L2.St} (h : ∀ env, p env → q env) (a : At F own H p σ H') : At F own H q σ H' := a.elim fun env ⟨own, k, f, z⟩ => ⟨env, own, k, f, h env z⟩

/-! ### values -/
theorem k_var {α : Type} [Rp α] {x : α} {Q : α → Prop} (i : Nat) {n : Str} (hN : F.X.N[i]? = some n) (he : env[i]? = some (.sh (dv x))) (q : Q x)
    (hv : Vis F.X.env.scope n := by first | exact Or.inl rfl | exact Or.inr (Or.inl rfl) | exact Or.inr (Or.inr rfl)) (hd : (n == ("__debug__" : Str)) = false := by decide) (hcd : (n == ("__classdict__" : Str)) = false := by decide) :
    KE F env (.Name n pos) ex Q := fun own σ H k p => by
  obtain ⟨v, h1, h2⟩ := k.sh he
  exact tE_of (pe_var hN hv hd hcd) ⟨v, h1, x, Same.refl H, h2, q⟩
theorem k_int {i : Int} {j} {Q : Int → Prop} (q : Q i) : KE F env (.Constant (.int i) j pos) ex Q := fun own σ H k p => tE_of pe_int ⟨i, Same.refl H, rfl, q⟩
theorem k_bl {i : Bool} {j} {Q : Bool → Prop} (q : Q i) : KE F env (.Constant (.bool i) j pos) ex Q := fun own σ H k p => tE_of pe_bl ⟨i, Same.refl H, rfl, q⟩
theorem k_str {i : Str} {j} {Q : Str → Prop} (q : Q i) : KE F env (.Constant (.str i) j pos) ex Q := fun own σ H k p => tE_of pe_str ⟨i, Same.refl H, rfl, q⟩
theorem k_non {j} {Q : Unit → Prop} (q : Q ()) : KE F env (.Constant .none j pos) ex Q := fun own σ H k p => tE_of pe_non ⟨(), Same.refl H, rfl, q⟩
/-- None as an optional datum -/
theorem k_nonI {j} {Q : Option Int → Prop} (q : Q none) : KE F env (.Constant .none j pos) ex Q := fun own σ H k p => tE_of pe_non ⟨none, Same.refl H, rfl, q⟩
theorem k_nonB {j} {Q : Option Bool → Prop} (q : Q none) : KE F env (.Constant .none j pos) ex Q := fun own σ H k p => tE_of pe_non ⟨none, Same.refl H, rfl, q⟩
/-- a module's constant, an int -/
theorem k_gint {n : Str} {i : Int} {Q : Int → Prop} (hm : ∃ t, F.X.mg n = some (.int i t)) (q : Q i) (hg : Gl F.X n := by rfl) (hd : (n == ("__debug__" : Str)) = false := by decide) : KE F env (.Name n pos) ex Q := fun own σ H k p => by
  obtain ⟨t, hm⟩ := hm
  exact tE_of (pe_glob hg hm (v := .int i) ⟨t, rfl⟩ hd) ⟨i, Same.refl H, rfl, q⟩
/-- a datum taken as another that the same value bears -/
theorem k_as {α β : Type} [Rp α] [Rp β] {Q : β → Prop} (f : α → β) (hf : ∀ G H v x, Rp.rep G H v x → Rp.rep G H v (f x)) (h : KE F env e ex fun x : α => Q (f x)) : KE F env e ex Q :=
  fun own σ H k p => tE_mono (fun v H' ⟨x, s, r, z⟩ => ⟨f x, s, hf _ _ _ _ r, z⟩) (h own σ H k p)
theorem k_some {Q : Option Int → Prop} (h : KE F env e ex fun x : Int => Q (some x)) : KE F env e ex Q := k_as some (fun _ _ _ _ r => r) h
theorem k_someB {Q : Option Bool → Prop} (h : KE F env e ex fun x : Bool => Q (some x)) : KE F env e ex Q := k_as some (fun _ _ _ _ r => r) h

/-! ### two operands -/
theorem two {α β : Type} [Rp α] [Rp β] {own : Nat → Option Addr} {σ : L2.St} {H : Hp} {Q : α → β → Prop} {R : V → V → Hp → Prop} (k : F.Kn own env σ H) (p : Port F own H ex) (h : KE F env a ex fun x : α => KE F env b ex fun y : β => Q x y)
    (f : ∀ v u x y H', Same H H' → Rp.rep F.G (Hid (hd F.hs own) H') v x → Rp.rep F.G (Hid (hd F.hs own) H') u y → Q x y → R v u H') : tE F.X a σ H fun v H1 => tE F.X b σ H1 fun u H2 => R v u H2 :=
  tE_mono (fun v H1 ⟨x, s1, r1, h1⟩ => tE_mono (fun u H2 ⟨y, s2, r2, q⟩ => f v u x y H2 (s1.trans s2) (Rp.mono (hid_same s2) r1) r2 q) (h1 own σ H1 (k.mono s1) (p.mono s1))) (h own σ H k p)
/-- what is wanted of an expression's value -/
def Rs (F : Fx) (own : Nat → Option Addr) (H : Hp) {α : Type} [Rp α] (Q : α → Prop) : VK := fun v H' => ∃ x : α, Same H H' ∧ Rp.rep F.G (Hid (hd F.hs own) H') v x ∧ Q x
theorem k_op {α β γ : Type} [Rp α] [Rp β] [Rp γ] {op : Operator} {r : R2} (ho : OpR F.X (binaryOp op) r) {Q : γ → Prop} {Q2 : α → β → Prop} (h : KE F env a ex fun x : α => KE F env b ex fun y : β => Q2 x y)
    (f : ∀ own σ H0 H v u x y, Same H0 H → F.Kn own env σ H → Rp.rep F.G (Hid (hd F.hs own) H) v x → Rp.rep F.G (Hid (hd F.hs own) H) u y → Q2 x y → r v u H (Rs F own H0 Q)) :
    KE F env (.BinOp a op b pos) ex Q := fun own σ H k p =>
  tE_of (pe_op ho peE peE) (two (R := fun v u H' => r v u H' (Rs F own H Q)) k p h fun v u x y H' s r1 r2 q => f own σ H H' v u x y s (k.mono s) r1 r2 q)
theorem k_cmp {α β γ : Type} [Rp α] [Rp β] [Rp γ] {op : CmpOp} {r : R2} (ho : OpR F.X (compareOp op) r) {Q : γ → Prop} {Q2 : α → β → Prop} (h : KE F env a ex fun x : α => KE F env b ex fun y : β => Q2 x y)
    (f : ∀ own σ H0 H v u x y, Same H0 H → F.Kn own env σ H → Rp.rep F.G (Hid (hd F.hs own) H) v x → Rp.rep F.G (Hid (hd F.hs own) H) u y → Q2 x y → r v u H (Rs F own H0 Q)) (hm : behindInMarks op b = false) :
    KE F env (.Compare a [op] [b] pos) ex Q := fun own σ H k p =>
  tE_of (pe_cmpR ho peE peE hm) (two (R := fun v u H' => r v u H' (Rs F own H Q)) k p h fun v u x y H' s r1 r2 q => f own σ H H' v u x y s (k.mono s) r1 r2 q)
theorem t_cmp {α β : Type} [Rp α] [Rp β] {op : CmpOp} {r : R2} (ho : OpR F.X (compareOp op) r) {Q : Bool → Prop} {Q2 : α → β → Prop} (h : KE F env a ex fun x : α => KE F env b ex fun y : β => Q2 x y)
    (f : ∀ own σ H0 H v u x y, Same H0 H → F.Kn own env σ H → Rp.rep F.G (Hid (hd F.hs own) H) v x → Rp.rep F.G (Hid (hd F.hs own) H) u y → Q2 x y → r v u H (fun z H' => ∃ c, z = .bl c ∧ Same H0 H' ∧ Q c)) (hm : behindInMarks op b = false) :
    KT F env (.Compare a [op] [b] pos) ex Q := fun own σ H k p =>
  tT_of (pt_cmpR ho peE peE hm) (two (R := fun v u H' => r v u H' (fun z H'' => ∃ c, z = .bl c ∧ Same H H'' ∧ Q c)) k p h fun v u x y H' s r1 r2 q => f own σ H H' v u x y s (k.mono s) r1 r2 q)

/-! ### ints -/
theorem k_add {Q : Int → Prop} (h : KE F env a ex fun x : Int => KE F env b ex fun y : Int => Q (x + y)) : KE F env (.BinOp a .Add b pos) ex Q :=
  k_op op_add h fun _ _ _ _ _ _ x y s _ r1 r2 q => by cases r1; cases r2; exact ⟨x, y, rfl, rfl, _, s, rfl, q⟩
theorem k_sub {Q : Int → Prop} (h : KE F env a ex fun x : Int => KE F env b ex fun y : Int => Q (x - y)) : KE F env (.BinOp a .Sub b pos) ex Q :=
  k_op op_sub h fun _ _ _ _ _ _ x y s _ r1 r2 q => by cases r1; cases r2; exact ⟨x, y, rfl, rfl, _, s, rfl, q⟩
def okMul (x y : Int) : Prop := (-(2 ^ 64) < x ∧ x < 2 ^ 64) ∨ (-(2 ^ 64) < y ∧ y < 2 ^ 64)
theorem k_mul {Q : Int → Prop} (h : KE F env a ex fun x : Int => KE F env b ex fun y : Int => okMul x y ∧ Q (x * y)) : KE F env (.BinOp a .Mult b pos) ex Q :=
  k_op op_mul h fun _ _ _ _ _ _ x y s _ r1 r2 q => by cases r1; cases r2; exact ⟨x, y, rfl, rfl, q.1, _, s, rfl, q.2⟩
/-- // by a divisor above 0: the quotient that Lean's / is -/
theorem k_div {Q : Int → Prop} (h : KE F env a ex fun x : Int => KE F env b ex fun y : Int => (0 < y ∧ y < 1073741824) ∧ Q (x / y)) : KE F env (.BinOp a .FloorDiv b pos) ex Q :=
  k_op op_fdivN h fun _ _ _ _ _ _ x y s _ r1 r2 q => by
    cases r1; cases r2
    refine ⟨x, y, rfl, rfl, ⟨by omega, by omega⟩, x / y, s, ?_, q.2⟩
    show V.int (x.fdiv y) = V.int (x / y)
    rw [Int.fdiv_eq_ediv_of_nonneg _ (Int.le_of_lt q.1.1)]
theorem k_mod {Q : Int → Prop} (h : KE F env a ex fun x : Int => KE F env b ex fun y : Int => 0 < y ∧ Q (x % y)) : KE F env (.BinOp a .Mod b pos) ex Q :=
  k_op op_modN h fun _ _ _ _ _ _ x y s _ r1 r2 q => by
    cases r1; cases r2
    refine ⟨x, y, rfl, rfl, by have := q.1; omega, x % y, s, ?_, q.2⟩
    show V.int (x.fmod y) = V.int (x % y)
    rw [Int.fmod_eq_emod_of_nonneg _ (Int.le_of_lt q.1)]
theorem k_neg {Q : Int → Prop} (h : KE F env a ex fun x : Int => Q (-x)) : KE F env (.UnaryOp .USub a pos) ex Q := fun own σ H k p =>
  tE_of (pe_un un_neg peE) (tE_mono (fun v H' ⟨x, s, r, q⟩ => by cases r; exact ⟨x, rfl, _, s, rfl, q⟩) (h own σ H k p))

/-! ### comparisons -/
theorem k_lt {Q : Bool → Prop} (h : KE F env a ex fun x : Int => KE F env b ex fun y : Int => Q (decide (x < y))) : KE F env (.Compare a [.Lt] [b] pos) ex Q :=
  k_cmp op_lt h (fun _ _ _ _ _ _ x y s _ r1 r2 q => by cases r1; cases r2; exact ⟨x, y, rfl, rfl, _, s, rfl, q⟩) (nomark _)
theorem k_le {Q : Bool → Prop} (h : KE F env a ex fun x : Int => KE F env b ex fun y : Int => Q (decide (x ≤ y))) : KE F env (.Compare a [.LtE] [b] pos) ex Q :=
  k_cmp op_le h (fun _ _ _ _ _ _ x y s _ r1 r2 q => by cases r1; cases r2; exact ⟨x, y, rfl, rfl, _, s, rfl, q⟩) (nomark _)
theorem k_gt {Q : Bool → Prop} (h : KE F env a ex fun x : Int => KE F env b ex fun y : Int => Q (decide (y < x))) : KE F env (.Compare a [.Gt] [b] pos) ex Q :=
  k_cmp op_gt h (fun _ _ _ _ _ _ x y s _ r1 r2 q => by cases r1; cases r2; exact ⟨x, y, rfl, rfl, _, s, rfl, q⟩) (nomark _)
theorem k_ge {Q : Bool → Prop} (h : KE F env a ex fun x : Int => KE F env b ex fun y : Int => Q (decide (y ≤ x))) : KE F env (.Compare a [.GtE] [b] pos) ex Q :=
  k_cmp op_ge h (fun _ _ _ _ _ _ x y s _ r1 r2 q => by cases r1; cases r2; exact ⟨x, y, rfl, rfl, _, s, rfl, q⟩) (nomark _)
theorem t_lt {Q : Bool → Prop} (h : KE F env a ex fun x : Int => KE F env b ex fun y : Int => Q (decide (x < y))) : KT F env (.Compare a [.Lt] [b] pos) ex Q :=
  t_cmp op_lt h (fun _ _ _ _ _ _ x y s _ r1 r2 q => by cases r1; cases r2; exact ⟨x, y, rfl, rfl, _, rfl, s, q⟩) (nomark _)
theorem t_le {Q : Bool → Prop} (h : KE F env a ex fun x : Int => KE F env b ex fun y : Int => Q (decide (x ≤ y))) : KT F env (.Compare a [.LtE] [b] pos) ex Q :=
  t_cmp op_le h (fun _ _ _ _ _ _ x y s _ r1 r2 q => by cases r1; cases r2; exact ⟨x, y, rfl, rfl, _, rfl, s, q⟩) (nomark _)
theorem t_gt {Q : Bool → Prop} (h : KE F env a ex fun x : Int => KE F env b ex fun y : Int => Q (decide (y < x))) : KT F env (.Compare a [.Gt] [b] pos) ex Q :=
  t_cmp op_gt h (fun _ _ _ _ _ _ x y s _ r1 r2 q => by cases r1; cases r2; exact ⟨x, y, rfl, rfl, _, rfl, s, q⟩) (nomark _)
theorem t_ge {Q : Bool → Prop} (h : KE F env a ex fun x : Int => KE F env b ex fun y : Int => Q (decide (y ≤ x))) : KT F env (.Compare a [.GtE] [b] pos) ex Q :=
  t_cmp op_ge h (fun _ _ _ _ _ _ x y s _ r1 r2 q => by cases r1; cases r2; exact ⟨x, y, rfl, rfl, _, rfl, s, q⟩) (nomark _)
/-- a scalar's values may be compared by == -/
class ScE (α : Type) extends Sc α where
  ok : ∀ a b : α, scal (v a) (v b) = true
instance : ScE Int := ⟨fun _ _ => rfl⟩
instance : ScE Bool := ⟨fun _ _ => rfl⟩
instance : ScE Str := ⟨fun _ _ => rfl⟩
instance : ScE (Option Int) := ⟨fun a b => by cases a <;> cases b <;> rfl⟩
instance : ScE (Option Bool) := ⟨fun a b => by cases a <;> cases b <;> rfl⟩
theorem sc_dec {α : Type} [Sc α] [DecidableEq α] (x y : α) : decide (Sc.v x = Sc.v y) = decide (x = y) := by
  by_cases h : x = y
  · rw [decide_eq_true h, decide_eq_true (congrArg Sc.v h)]
  · rw [decide_eq_false h, decide_eq_false fun z => h (Sc.inj z)]
theorem k_eq {α : Type} [i : ScE α] [DecidableEq α] {Q : Bool → Prop} (h : @KE F env a ex α (scRp α) fun x : α => @KE F env b ex α (scRp α) fun y : α => Q (decide (x = y))) : KE F env (.Compare a [.Eq] [b] pos) ex Q :=
  @k_cmp F env ex a b pos α α Bool (scRp α) (scRp α) _ _ _ op_eq _ _ h (fun _ _ _ _ v u x y s _ r1 r2 q => by
    have e1 : v = Sc.v x := r1
    have e2 : u = Sc.v y := r2
    refine ⟨by rw [e1, e2]; exact ScE.ok x y, _, s, ?_, q⟩
    rw [e1, e2, sc_dec]; exact rfl) (nomark _)
theorem k_ne {α : Type} [i : ScE α] [DecidableEq α] {Q : Bool → Prop} (h : @KE F env a ex α (scRp α) fun x : α => @KE F env b ex α (scRp α) fun y : α => Q (!decide (x = y))) : KE F env (.Compare a [.NotEq] [b] pos) ex Q :=
  @k_cmp F env ex a b pos α α Bool (scRp α) (scRp α) _ _ _ op_ne _ _ h (fun _ _ _ _ v u x y s _ r1 r2 q => by
    have e1 : v = Sc.v x := r1
    have e2 : u = Sc.v y := r2
    refine ⟨by rw [e1, e2]; exact ScE.ok x y, _, s, ?_, q⟩
    rw [e1, e2, sc_dec]; exact rfl) (nomark _)
theorem t_eq {α : Type} [i : ScE α] [DecidableEq α] {Q : Bool → Prop} (h : @KE F env a ex α (scRp α) fun x : α => @KE F env b ex α (scRp α) fun y : α => Q (decide (x = y))) : KT F env (.Compare a [.Eq] [b] pos) ex Q :=
  @t_cmp F env ex a b pos α α (scRp α) (scRp α) _ _ op_eq _ _ h (fun _ _ _ _ v u x y s _ r1 r2 q => by
    have e1 : v = Sc.v x := r1
    have e2 : u = Sc.v y := r2
    refine ⟨by rw [e1, e2]; exact ScE.ok x y, _, ?_, s, q⟩
    rw [e1, e2, sc_dec]) (nomark _)
theorem t_ne {α : Type} [i : ScE α] [DecidableEq α] {Q : Bool → Prop} (h : @KE F env a ex α (scRp α) fun x : α => @KE F env b ex α (scRp α) fun y : α => Q (!decide (x = y))) : KT F env (.Compare a [.NotEq] [b] pos) ex Q :=
  @t_cmp F env ex a b pos α α (scRp α) (scRp α) _ _ op_ne _ _ h (fun _ _ _ _ v u x y s _ r1 r2 q => by
    have e1 : v = Sc.v x := r1
    have e2 : u = Sc.v y := r2
    refine ⟨by rw [e1, e2]; exact ScE.ok x y, _, ?_, s, q⟩
    rw [e1, e2, sc_dec]) (nomark _)
/-- is None, is not None: isN tells it of the data -/
class Nn (α : Type) [Rp α] where
  isN : α → Bool
  ok : ∀ {G : Gm} {H : Hp} {v : V} {a : α}, Rp.rep G H v a → decide (v = .non) = isN a
instance : Nn (Option Int) := ⟨fun a => a.isNone, fun {G H v a} h => by
  have e : v = oiV a := h
  cases a <;> rw [e] <;> rfl⟩
instance : Nn (Option Bool) := ⟨fun a => a.isNone, fun {G H v a} h => by
  have e : v = obV a := h
  cases a <;> rw [e] <;> rfl⟩
theorem k_isN {α : Type} [Rp α] [Nn α] {j p1} {Q : Bool → Prop} (h : KE F env a ex fun x : α => Q (Nn.isN x)) : KE F env (.Compare a [.Is] [.Constant .none j p1] pos) ex Q :=
  k_cmp (β := Unit) (Q2 := fun x _ => Q (Nn.isN x)) op_isN (ke_imp (fun x q => k_non q) h) (fun _ _ _ _ v u x y s _ r1 r2 q => by
    cases r2
    refine ⟨rfl, _, s, ?_, q⟩
    rw [Nn.ok r1]; exact rfl) (nomark _)
theorem k_notN {α : Type} [Rp α] [Nn α] {j p1} {Q : Bool → Prop} (h : KE F env a ex fun x : α => Q (!Nn.isN x)) : KE F env (.Compare a [.IsNot] [.Constant .none j p1] pos) ex Q :=
  k_cmp (β := Unit) (Q2 := fun x _ => Q (!Nn.isN x)) op_notN (ke_imp (fun x q => k_non q) h) (fun _ _ _ _ v u x y s _ r1 r2 q => by
    cases r2
    refine ⟨rfl, _, s, ?_, q⟩
    rw [Nn.ok r1]; exact rfl) (nomark _)
theorem t_isN {α : Type} [Rp α] [Nn α] {j p1} {Q : Bool → Prop} (h : KE F env a ex fun x : α => Q (Nn.isN x)) : KT F env (.Compare a [.Is] [.Constant .none j p1] pos) ex Q :=
  t_cmp (β := Unit) (Q2 := fun x _ => Q (Nn.isN x)) op_isN (ke_imp (fun x q => k_non q) h) (fun _ _ _ _ v u x y s _ r1 r2 q => by
    cases r2
    exact ⟨rfl, _, by rw [Nn.ok r1], s, q⟩) (nomark _)
theorem t_notN {α : Type} [Rp α] [Nn α] {j p1} {Q : Bool → Prop} (h : KE F env a ex fun x : α => Q (!Nn.isN x)) : KT F env (.Compare a [.IsNot] [.Constant .none j p1] pos) ex Q :=
  t_cmp (β := Unit) (Q2 := fun x _ => Q (!Nn.isN x)) op_notN (ke_imp (fun x q => k_non q) h) (fun _ _ _ _ v u x y s _ r1 r2 q => by
    cases r2
    exact ⟨rfl, _, by rw [Nn.ok r1], s, q⟩) (nomark _)
/-- is True, is not True -/
theorem k_isB {Q : Bool → Prop} (h : KE F env a ex fun x : Bool => KE F env b ex fun y : Bool => Q (decide (x = y))) : KE F env (.Compare a [.Is] [b] pos) ex Q :=
  k_cmp op_isBl h (fun _ _ _ _ _ _ x y s _ r1 r2 q => by cases r1; cases r2; exact ⟨x, y, rfl, rfl, _, s, rfl, q⟩) (nomark _)
theorem t_isB {Q : Bool → Prop} (h : KE F env a ex fun x : Bool => KE F env b ex fun y : Bool => Q (decide (x = y))) : KT F env (.Compare a [.Is] [b] pos) ex Q :=
  t_cmp op_isBl h (fun _ _ _ _ _ _ x y s _ r1 r2 q => by cases r1; cases r2; exact ⟨x, y, rfl, rfl, _, rfl, s, q⟩) (nomark _)
theorem k_notB {Q : Bool → Prop} (h : KE F env a ex fun x : Bool => KE F env b ex fun y : Bool => Q (!decide (x = y))) : KE F env (.Compare a [.IsNot] [b] pos) ex Q :=
  k_cmp op_notBl h (fun _ _ _ _ _ _ x y s _ r1 r2 q => by cases r1; cases r2; exact ⟨x, y, rfl, rfl, _, s, rfl, q⟩) (nomark _)
theorem t_notB {Q : Bool → Prop} (h : KE F env a ex fun x : Bool => KE F env b ex fun y : Bool => Q (!decide (x = y))) : KT F env (.Compare a [.IsNot] [b] pos) ex Q :=
  t_cmp op_notBl h (fun _ _ _ _ _ _ x y s _ r1 r2 q => by cases r1; cases r2; exact ⟨x, y, rfl, rfl, _, rfl, s, q⟩) (nomark _)
/-- a <= b <= c -/
theorem k_lele {Q : Bool → Prop} (h : KE F env a ex fun x : Int => KE F env b ex fun y : Int => if x ≤ y then KE F env c ex fun z : Int => Q (decide (y ≤ z)) else Q false)
    (hm : lastMarks [.LtE, .LtE] [b, c] = false := by with_unfolding_all rfl) : KE F env (.Compare a [.LtE, .LtE] [b, c] pos) ex Q := fun own σ H k p =>
  tE_of (pe_chain op_le op_le peE peE peE hm) (two k p h fun v u x y H' s r1 r2 q => by
    cases r1; cases r2
    refine ⟨x, y, rfl, rfl, _, rfl, ?_⟩
    by_cases l : x ≤ y
    · rw [if_pos (decide_eq_true l)]
      rw [if_pos l] at q
      exact tE_mono (fun w H3 ⟨z, s3, r3, q3⟩ => by cases r3; exact ⟨y, z, rfl, rfl, _, s.trans s3, rfl, q3⟩) (q own σ H' (k.mono s) (p.mono s))
    · rw [if_neg (by simpa using l)]
      rw [if_neg l] at q
      exact ⟨_, s, rfl, q⟩)
theorem t_lele {Q : Bool → Prop} (h : KE F env a ex fun x : Int => KE F env b ex fun y : Int => if x ≤ y then KE F env c ex fun z : Int => Q (decide (y ≤ z)) else Q false)
    (hm : lastMarks [.LtE, .LtE] [b, c] = false := by with_unfolding_all rfl) : KT F env (.Compare a [.LtE, .LtE] [b, c] pos) ex Q := fun own σ H k p =>
  tT_of (pt_chain op_le op_le peE peE peE hm) (two k p h fun v u x y H' s r1 r2 q => by
    cases r1; cases r2
    refine ⟨x, y, rfl, rfl, _, rfl, ?_⟩
    by_cases l : x ≤ y
    · rw [if_pos (decide_eq_true l)]
      rw [if_pos l] at q
      exact tE_mono (fun w H3 ⟨z, s3, r3, q3⟩ => by cases r3; exact ⟨y, z, rfl, rfl, _, rfl, s.trans s3, q3⟩) (q own σ H' (k.mono s) (p.mono s))
    · rw [if_neg (by simpa using l)]
      rw [if_neg l] at q
      exact ⟨_, rfl, s, q⟩)

/-! ### and, or, not, a if c else b -/
theorem k_not {Q : Bool → Prop} (h : KE F env a ex fun x : Bool => Q (!x)) : KE F env (.UnaryOp .Not a pos) ex Q := fun own σ H k p =>
  tE_of (pe_not peE) (tE_mono (fun v H' ⟨x, s, r, q⟩ => by cases r; exact ⟨x, rfl, _, s, rfl, q⟩) (h own σ H k p))
theorem k_and {Q : Bool → Prop} (h : KE F env a ex fun x : Bool => if x = true then KE F env (.BoolOp .And (b :: es) pos) ex Q else Q false) : KE F env (.BoolOp .And (a :: b :: es) pos) ex Q := fun own σ H k p =>
  tE_of (pe_and peE peE) (tE_mono (fun v H' ⟨x, s, r, q⟩ => by
    cases r
    refine ⟨x, rfl, ?_⟩
    cases x with
    | true => exact tE_mono (fun w H2 ⟨y, s2, r2, q2⟩ => ⟨y, s.trans s2, r2, q2⟩) (q own σ H' (k.mono s) (p.mono s))
    | false => exact ⟨false, s, rfl, q⟩) (h own σ H k p))
theorem k_or {Q : Bool → Prop} (h : KE F env a ex fun x : Bool => if x = true then Q true else KE F env (.BoolOp .Or (b :: es) pos) ex Q) : KE F env (.BoolOp .Or (a :: b :: es) pos) ex Q := fun own σ H k p =>
  tE_of (pe_or peE peE) (tE_mono (fun v H' ⟨x, s, r, q⟩ => by
    cases r
    refine ⟨x, rfl, ?_⟩
    cases x with
    | false => exact tE_mono (fun w H2 ⟨y, s2, r2, q2⟩ => ⟨y, s.trans s2, r2, q2⟩) (q own σ H' (k.mono s) (p.mono s))
    | true => exact ⟨true, s, rfl, q⟩) (h own σ H k p))
theorem k_one {α : Type} [Rp α] {op : BoolOp} {Q : α → Prop} (h : KE F env a ex Q) : KE F env (.BoolOp op [a] pos) ex Q := fun own σ H k p => tE_of (pe_one peE) (h own σ H k p)
theorem t_val {Q : Bool → Prop} (h : KE F env a ex Q) (he : ∀ whole, isTrue a F.X.env whole = (do let v ← whole; standAt a.pos; holding [v] (truthy v)) := by intro _; rfl) : KT F env a ex Q := fun own σ H k p =>
  tT_of (pt_val peE he) (tE_mono (fun v H' ⟨x, s, r, q⟩ => by cases r; exact ⟨x, rfl, s, q⟩) (h own σ H k p))
theorem t_not {Q : Bool → Prop} (h : KT F env a ex fun x => Q (!x)) : KT F env (.UnaryOp .Not a pos) ex Q := fun own σ H k p =>
  tT_of (pt_not peT) (tT_mono (fun v H' ⟨s, q⟩ => ⟨s, q⟩) (h own σ H k p))
theorem t_w {Q : Bool → Prop} (h : KTW F env a ex Q) : KT F env a ex Q := fun own σ H k p => tT_of (peTW.pt) (h own σ H k p)
theorem w_and {Q : Bool → Prop} (h : KT F env a ex fun x => if x = true then KTW F env (.BoolOp .And (b :: es) pos) ex Q else Q false) : KTW F env (.BoolOp .And (a :: b :: es) pos) ex Q := fun own σ H k p =>
  tTW_of (pw_and peT peTW) (tT_mono (fun x H' ⟨s, q⟩ => by
    cases x with
    | true => exact tTW_mono (fun w H2 ⟨s2, q2⟩ => ⟨s.trans s2, q2⟩) (q own σ H' (k.mono s) (p.mono s))
    | false => exact ⟨s, q⟩) (h own σ H k p))
theorem w_or {Q : Bool → Prop} (h : KT F env a ex fun x => if x = true then Q true else KTW F env (.BoolOp .Or (b :: es) pos) ex Q) : KTW F env (.BoolOp .Or (a :: b :: es) pos) ex Q := fun own σ H k p =>
  tTW_of (pw_or peT peTW) (tT_mono (fun x H' ⟨s, q⟩ => by
    cases x with
    | false => exact tTW_mono (fun w H2 ⟨s2, q2⟩ => ⟨s.trans s2, q2⟩) (q own σ H' (k.mono s) (p.mono s))
    | true => exact ⟨s, q⟩) (h own σ H k p))
theorem w_and1 {Q : Bool → Prop} (h : KT F env a ex Q) : KTW F env (.BoolOp .And [a] pos) ex Q := fun own σ H k p => tTW_of (pw_and1 peT) (h own σ H k p)
theorem w_or1 {Q : Bool → Prop} (h : KT F env a ex Q) : KTW F env (.BoolOp .Or [a] pos) ex Q := fun own σ H k p => tTW_of (pw_or1 peT) (h own σ H k p)
theorem k_if {α : Type} [Rp α] {Q : α → Prop} (h : KT F env c ex fun x => if x = true then KE F env a ex Q else KE F env b ex Q) : KE F env (.IfExp c a b pos) ex Q := fun own σ H k p =>
  tE_of (pe_ifExp peT peE peE) (tT_mono (fun x H' ⟨s, q⟩ => by
    cases x with
    | true => exact tE_mono (fun w H2 ⟨y, s2, r2, q2⟩ => ⟨y, s.trans s2, r2, q2⟩) (q own σ H' (k.mono s) (p.mono s))
    | false => exact tE_mono (fun w H2 ⟨y, s2, r2, q2⟩ => ⟨y, s.trans s2, r2, q2⟩) (q own σ H' (k.mono s) (p.mono s))) (h own σ H k p))

/-! ### arguments, displays -/
theorem a_nil {Q : List DV → Prop} (q : Q []) : KA F env [] ex Q := fun own σ H k p => tA_of pa_nil ⟨[], Same.refl H, trivial, q⟩
theorem a_cons {α : Type} [Rp α] {Q : List DV → Prop} (h : KE F env e ex fun x : α => KA F env es ex fun ds => Q (dv x :: ds)) (hs : starEach (e :: es) F.X.env = (false, eval e F.X.env) :: starEach es F.X.env := by rfl) : KA F env (e :: es) ex Q := fun own σ H k p =>
  tA_of (pa_cons peE peA hs) (tE_mono (fun v H1 ⟨x, s1, r1, h1⟩ => tA_mono (fun vs H2 ⟨ds, s2, r2, q⟩ => ⟨dv x :: ds, s1.trans s2, ⟨DV.mono (d := dv x) (hid_same s2) r1, r2⟩, q⟩) (h1 own σ H1 (k.mono s1) (p.mono s1))) (h own σ H k p))
theorem hid_new {own : Nat → Option Addr} {σ : L2.St} {H H1 : Hp} {p : Addr} {o : HO} (k : F.Kn own env σ H) (s : Same H H1) (hp : H1 p = none) : Hid (hd F.hs own) (upd H1 p o) p = some o := by
  rw [hid_at (k.fresh s hp), upd_same]
theorem k_tup {α : Type} {ds : α → List DV} {x1} {Q : α → Prop} (h : KA F env es ex fun xs => xs.length ≤ 1000 ∧ ∃ y, ds y = xs ∧ Q y) : @KE F env (.Tuple es x1 pos) ex α (tpRp ds) Q := fun own σ H k p =>
  tE_of (pe_tup peA) (tA_mono (fun vs H1 ⟨xs, s, r, hl, y, e, q⟩ => ⟨by rw [r.len]; exact Nat.le_of_lt (small1000 hl), fun a ha => ⟨y, s.trans (same_new ha), ⟨a, vs, rfl, hid_new k s ha, by rw [e]; exact r.mono (hid_same (same_new ha))⟩, q⟩⟩) (h own σ H k p))
theorem k_lst {α : Type} {ds : α → List DV} {Q : α → Prop} (h : KA F env es ex fun xs => xs.length ≤ 1000 ∧ ∃ y, ds y = xs ∧ Q y) : @KE F env (.List es pos) ex α (lsRp ds) Q := fun own σ H k p =>
  tE_of (pe_lst peA) (tA_mono (fun vs H1 ⟨xs, s, r, hl, y, e, q⟩ => ⟨by rw [r.len]; exact Nat.le_of_lt (small1000 hl), fun a ha => ⟨y, s.trans (same_new ha), ⟨a, vs, rfl, hid_new k s ha, by rw [e]; exact r.mono (hid_same (same_new ha))⟩, q⟩⟩) (h own σ H k p))
end
end Rk

set_option maxHeartbeats 4000000
namespace Rk
open PySem L2
section
variable {F : Fx} {env : List Ent} {ex : XP} {a b c e : Expr} {es : List Expr} {pos : Pos}

/-! ### attributes, items, slices -/
theorem k_fld {α β : Type} [Rp β] {n : Nat} {fs : α → List (Str × DV)} {f : Str} {Q : β → Prop} (g : α → β) (hg : ∀ o, (fs o).lookup f = some (dv (g o))) (hc : Cls F.X.K (F.cls n)) (hn : NoAttr F.X.K (F.cls n) f)
    (h : @KE F env a ex α (obRp n fs) fun o => Q (g o)) (hb : attributeBase a f F.X.env (eval a F.X.env) = eval a F.X.env := by rfl) : KE F env (.Attribute a f pos) ex Q := fun own σ H k p =>
  tE_of (pe_fld peE hb) (tE_mono (fun v H' ⟨o, s, ⟨q, dx, kvs, e1, e2, e3⟩, z⟩ => by
    obtain ⟨w, h1, h2⟩ := e3.get (hg o)
    exact ⟨q, F.cls n, dx, kvs, w, e1, hid_of e2, hc, hn, h1, g o, s, h2, z⟩) (h own σ H k p))
/-- a tuple's item at a written place -/
theorem k_ixT {α β : Type} [Rp β] {ds : α → List DV} {i j} {p1 : Pos} {Q : β → Prop} (n : Nat) (g : α → β) (hg : ∀ o, (ds o)[n]? = some (dv (g o))) (hi : i = (n : Int)) (h : @KE F env a ex α (tpRp ds) fun o => Q (g o)) :
    KE F env (.Subscript a (.Constant (.int i) j p1) pos) ex Q := fun own σ H k p =>
  tE_of (pe_ix ix_tup peE pe_int (fun _ _ => rfl)) (tE_mono (fun v H' ⟨o, s, ⟨q, vs, e1, e2, e3⟩, z⟩ => by
    obtain ⟨w, h1, h2⟩ := e3.get (hg o)
    refine ⟨q, vs, _, w, e1, rfl, SqT.of (hid_of e2), ?_, g o, s, h2, z⟩
    subst hi
    have hl : n < vs.length := (List.getElem?_eq_some_iff.mp h1).1
    unfold atI ixN
    rw [if_pos (by omega), if_pos (by omega)]
    simpa using h1) (h own σ H k p))
theorem at_nat {α : Type} {xs : List α} {i : Int} {x : α} (h0 : 0 ≤ i) (h : xs[i.toNat]? = some x) : atI xs i = some x := by
  have hl : i.toNat < xs.length := (List.getElem?_eq_some_iff.mp h).1
  unfold atI ixN
  rw [if_pos h0, if_pos (by omega)]
  simpa using h
theorem at_last {α : Type} {xs : List α} {x : α} (h : xs.getLast? = some x) : atI xs (-1) = some x := by
  rw [List.getLast?_eq_getElem?] at h
  have hl : xs.length - 1 < xs.length := (List.getElem?_eq_some_iff.mp h).1
  unfold atI ixN
  rw [if_neg (by decide), if_pos (by omega)]
  have e : ((-1 : Int) + (xs.length : Int)).toNat = xs.length - 1 := by omega
  simpa [e] using h
/-- a list's item -/
theorem k_ixL {α : Type} [Rp α] {Q : α → Prop} (h : KE F env a ex fun xs : List α => KE F env b ex fun i : Int => ∃ x, (0 ≤ i ∧ xs[i.toNat]? = some x) ∧ Q x) (hs : PlainIx b := by intro _ _; rfl) : KE F env (.Subscript a b pos) ex Q := fun own σ H k p =>
  tE_of (pe_ix ix_list peE peE hs) (two k p h fun v u xs i H' s r1 r2 ⟨x, hx, q⟩ => by
    obtain ⟨l, vs, e1, e2, e3⟩ := r1
    cases r2
    obtain ⟨w, h1, h2⟩ := e3.get (i := i.toNat) (d := dv x) (by rw [dvs_get, hx.2]; rfl)
    exact ⟨l, vs, i, w, e1, rfl, SqL.of (hid_of e2), at_nat hx.1 h1, x, s, h2, q⟩)
theorem k_ixLast {α : Type} [Rp α] {Q : α → Prop} {j : Nat} {p1 p2 : Pos} (h : KE F env a ex fun xs : List α => ∃ x, xs.getLast? = some x ∧ Q x) : KE F env (.Subscript a (.UnaryOp .USub (.Constant (.int 1) j p1) p2) pos) ex Q := fun own σ H k p =>
  tE_of (pe_ix ix_list peE (pe_un un_neg pe_int) (fun _ _ => rfl)) (tE_mono (fun v H' ⟨xs, s, ⟨l, vs, e1, e2, e3⟩, x, hx, q⟩ => by
    rw [List.getLast?_eq_getElem?] at hx
    obtain ⟨w, h1, h2⟩ := e3.get (i := xs.length - 1) (d := dv x) (by rw [dvs_get, hx]; rfl)
    have hl : vs.length = xs.length := by rw [e3.len, dvs_len]
    refine ⟨1, rfl, l, vs, -1, w, e1, rfl, SqL.of (hid_of e2), at_last ?_, x, s, h2, q⟩
    rw [List.getLast?_eq_getElem?, hl]
    exact h1) (h own σ H k p))
/-- a list's item that the def alone holds, by its name -/
theorem rep_ls {α : Type} [Rp α] {G : Gm} {H : Hp} {l : Addr} {vs : List V} {xs : List α} (h : H l = some (.lst vs)) (r : RepAll G H vs (dvs xs)) : Rp.rep G H (V.ref l) xs := ⟨l, vs, rfl, h, r⟩
theorem cut_rep {α : Type} [Rp α] {G : Gm} {H : Hp} {vs : List V} {xs : List α} (r : RepAll G H vs (dvs xs)) (m n : Nat) : RepAll G H ((vs.drop m).take n) (dvs ((xs.drop m).take n)) := by
  unfold dvs
  rw [List.map_take, List.map_drop]
  exact (r.drop m).take n
/-- xs[lo:hi], both not below 0 -/
theorem k_sl {α : Type} [Rp α] {Q : List α → Prop} {p2 : Pos} (h : KE F env a ex fun xs : List α => KE F env b ex fun i : Int => KE F env c ex fun j : Int => (0 ≤ i ∧ 0 ≤ j) ∧ Q ((xs.drop i.toNat).take (j.toNat - i.toNat))) :
    KE F env (.Subscript a (.Slice (some b) (some c) none p2) pos) ex Q := fun own σ H k p =>
  tE_of (pe_slice sl_list peE (po_some peE) (po_some peE)) (two k p h fun v u xs i H' s r1 r2 q => by
    cases r2
    refine ⟨i, rfl, ?_⟩
    refine tE_mono (fun w H3 ⟨j, s3, r3, q3, q4⟩ => ?_) (q own σ H' (k.mono s) (p.mono s))
    cases r3
    obtain ⟨l, vs, e1, e2, e3⟩ := Rp.mono (hid_same s3) r1
    have st : Same H H3 := s.trans s3
    have hl : vs.length = xs.length := by rw [e3.len, dvs_len]
    refine ⟨j, rfl, l, vs, e1, SqL.of (hid_of e2), fun t ht => ⟨_, st.trans (same_new ht), ?_, q4⟩⟩
    have ec : cutV vs (some i) (some j) = (vs.drop i.toNat).take (j.toNat - i.toNat) := by
      have ei : (i : Int) = (i.toNat : Int) := by omega
      have ej : (j : Int) = (j.toNat : Int) := by omega
      unfold cutV
      rw [ei, ej, HT.sIx_nat, HT.sIx_nat]
      simp only [Int.toNat_natCast]
      by_cases g : i.toNat ≤ vs.length
      · rw [Nat.min_eq_left g]
        by_cases g2 : j.toNat ≤ vs.length
        · rw [Nat.min_eq_left g2]
        · rw [Nat.min_eq_right (by omega), List.take_of_length_le (by rw [List.length_drop]; omega), List.take_of_length_le (by rw [List.length_drop]; omega)]
      · rw [List.drop_of_length_le (by omega), List.drop_of_length_le (by omega), List.take_nil, List.take_nil]
    refine ⟨t, _, rfl, hid_new k st ht, ?_⟩
    rw [ec]
    exact (cut_rep e3 _ _).mono (hid_same (same_new ht)))
theorem k_slTo {α : Type} [Rp α] {Q : List α → Prop} {p2 : Pos} (h : KE F env a ex fun xs : List α => KE F env c ex fun j : Int => 0 ≤ j ∧ Q (xs.take j.toNat)) :
    KE F env (.Subscript a (.Slice none (some c) none p2) pos) ex Q := fun own σ H k p =>
  tE_of (pe_slice sl_list peE po_none (po_some peE)) (two k p h fun v u xs j H' s r1 r2 q => by
    cases r2
    obtain ⟨l, vs, e1, e2, e3⟩ := r1
    have hl : vs.length = xs.length := by rw [e3.len, dvs_len]
    refine ⟨j, rfl, l, vs, e1, SqL.of (hid_of e2), fun t ht => ⟨_, s.trans (same_new ht), ?_, q.2⟩⟩
    have ec : cutV vs none (some j) = vs.take j.toNat := by
      have ej : (j : Int) = (j.toNat : Int) := by have := q.1; omega
      unfold cutV
      rw [ej, HT.sIx_nat, HT.sIx_none]
      simp only [Int.toNat_natCast, List.drop_zero, Nat.sub_zero]
      by_cases g2 : j.toNat ≤ vs.length
      · rw [Nat.min_eq_left g2]
      · rw [Nat.min_eq_right (by omega), List.take_of_length_le (Nat.le_refl _), List.take_of_length_le (by omega)]
    refine ⟨t, _, rfl, hid_new k s ht, ?_⟩
    rw [ec]
    have g := (cut_rep e3 0 j.toNat)
    rw [List.drop_zero, List.drop_zero] at g
    exact g.mono (hid_same (same_new ht)))
theorem k_slFrom {α : Type} [Rp α] {Q : List α → Prop} {p2 : Pos} (h : KE F env a ex fun xs : List α => KE F env b ex fun i : Int => 0 ≤ i ∧ Q (xs.drop i.toNat)) :
    KE F env (.Subscript a (.Slice (some b) none none p2) pos) ex Q := fun own σ H k p =>
  tE_of (pe_slice sl_list peE (po_some peE) po_none) (two k p h fun v u xs i H' s r1 r2 q => by
    cases r2
    obtain ⟨l, vs, e1, e2, e3⟩ := r1
    refine ⟨i, rfl, l, vs, e1, SqL.of (hid_of e2), fun t ht => ⟨_, s.trans (same_new ht), ?_, q.2⟩⟩
    have ec : cutV vs (some i) none = vs.drop i.toNat := by
      have ei : (i : Int) = (i.toNat : Int) := by have := q.1; omega
      unfold cutV
      rw [ei, HT.sIx_nat, HT.sIx_none]
      simp only [Int.toNat_natCast]
      by_cases g : i.toNat ≤ vs.length
      · rw [Nat.min_eq_left g, List.take_of_length_le (by rw [List.length_drop]; omega)]
      · rw [List.drop_of_length_le (by omega), List.drop_of_length_le (by omega), List.take_nil]
    refine ⟨t, _, rfl, hid_new k s ht, ?_⟩
    rw [ec]
    have g := e3.drop i.toNat
    unfold dvs at g
    rw [← List.map_drop] at g
    exact RepAll.mono (hid_same (same_new ht)) g)
/-- xs + ys, xs * n of lists -/
theorem k_cat {α : Type} [Rp α] {Q : List α → Prop} (h : KE F env a ex fun xs : List α => KE F env b ex fun ys : List α => (xs.length + ys.length ≤ 100000) ∧ Q (xs ++ ys)) : KE F env (.BinOp a .Add b pos) ex Q :=
  k_op op_cat h fun own σ H0 H v u xs ys s k r1 r2 q => by
    obtain ⟨l, vs, e1, e2, e3⟩ := r1
    obtain ⟨l', vs', e1', e2', e3'⟩ := r2
    have h1 : vs.length = xs.length := by rw [e3.len, dvs_len]
    have h2 : vs'.length = ys.length := by rw [e3'.len, dvs_len]
    have hz : vs.length + vs'.length ≤ 100000 := by rw [h1, h2]; exact q.1
    refine ⟨l, l', vs, vs', e1, e1', hid_of e2, hid_of e2', Nat.le_trans hz (by decide), fun t ht => ⟨_, s.trans (same_new ht), ?_, q.2⟩⟩
    refine ⟨t, _, rfl, hid_new k (Same.refl _) ht, ?_⟩
    have g := e3.app e3'
    unfold dvs at g ⊢
    rw [List.map_append]
    exact RepAll.mono (hid_same (same_new ht)) g
theorem scr_get {ns : List Int} {i : Nat} {x : Int} (h : ns[i]? = some x) : (ns.map V.int)[i]? = some (V.int x) := by
  rw [List.getElem?_map, h]
  rfl
theorem k_ixScr {Q : Int → Prop} (h : KE F env a ex fun xs : Scr => KE F env b ex fun i : Int => ∃ x, (0 ≤ i ∧ xs.ns[i.toNat]? = some x) ∧ Q x) (hs : PlainIx b := by intro _ _; rfl) : KE F env (.Subscript a b pos) ex Q := fun own σ H k p =>
  tE_of (pe_ix ix_list peE peE hs) (two k p h fun v u xs i H' s r1 r2 ⟨x, hx, q⟩ => by
    obtain ⟨l, e1, e2⟩ := r1
    cases r2
    exact ⟨l, _, i, _, e1, rfl, hid_le.seq e2, at_nat hx.1 (scr_get hx.2), x, s, rfl, q⟩)
theorem rep_ints {G : Gm} {H : Hp} : ∀ ns : List Int, RepAll G H (ns.map V.int) (dvs ns)
  | [] => trivial
  | n :: r => ⟨rfl, rep_ints r⟩
/-- script[lo:hi] -/
theorem k_slScr {Q : List Int → Prop} {p2 : Pos} (h : KE F env a ex fun xs : Scr => KE F env b ex fun i : Int => KE F env c ex fun j : Int => (0 ≤ i ∧ 0 ≤ j) ∧ Q ((xs.ns.drop i.toNat).take (j.toNat - i.toNat))) :
    KE F env (.Subscript a (.Slice (some b) (some c) none p2) pos) ex Q := fun own σ H k p =>
  tE_of (pe_slice sl_list peE (po_some peE) (po_some peE)) (two k p h fun v u xs i H' s r1 r2 q => by
    cases r2
    refine ⟨i, rfl, ?_⟩
    refine tE_mono (fun w H3 ⟨j, s3, r3, q3, q4⟩ => ?_) (q own σ H' (k.mono s) (p.mono s))
    cases r3
    obtain ⟨l, e1, e2⟩ := Rp.mono (hid_same s3) r1
    have st : Same H H3 := s.trans s3
    have hl : (xs.ns.map V.int).length = xs.ns.length := List.length_map _
    refine ⟨j, rfl, l, _, e1, hid_le.seq e2, fun t ht => ⟨_, st.trans (same_new ht), ?_, q4⟩⟩
    refine ⟨t, _, rfl, hid_new k st ht, ?_⟩
    have ec : cutV (xs.ns.map V.int) (some i) (some j) = ((xs.ns.drop i.toNat).take (j.toNat - i.toNat)).map V.int := by
      have ei : (i : Int) = (i.toNat : Int) := by omega
      have ej : (j : Int) = (j.toNat : Int) := by omega
      unfold cutV
      rw [ei, ej, HT.sIx_nat, HT.sIx_nat, List.map_take, List.map_drop]
      simp only [Int.toNat_natCast]
      by_cases g : i.toNat ≤ (xs.ns.map V.int).length
      · rw [Nat.min_eq_left g]
        by_cases g2 : j.toNat ≤ (xs.ns.map V.int).length
        · rw [Nat.min_eq_left g2]
        · rw [Nat.min_eq_right (by omega), List.take_of_length_le (by rw [List.length_drop]; omega), List.take_of_length_le (by rw [List.length_drop]; omega)]
      · rw [List.drop_of_length_le (by omega), List.drop_of_length_le (by omega), List.take_nil, List.take_nil]
    rw [ec]
    exact rep_ints _)
theorem rep_rep {G : Gm} {H : Hp} {vs : List V} {ds : List DV} (r : RepAll G H vs ds) : ∀ n, RepAll G H (List.replicate n vs).flatten (List.replicate n ds).flatten
  | 0 => trivial
  | n + 1 => r.app (rep_rep r n)
end
end Rk

set_option maxHeartbeats 4000000
namespace Rk
open PySem L2
section
variable {F : Fx} {env : List Ent} {ex : XP} {a b c e : Expr} {es : List Expr} {pos p0 : Pos} {n : Str}

/-! ### calls of built-ins -/
/-- no name of the module hides a built-in -/
def NoGl (mg : Str → Option Value) : Prop := ∀ x ∈ (["len", "range", "min", "max", "int", "isinstance", "list", "tuple", "sorted", "enumerate", "zip", "all", "any", "bool", "dict", "str", "sum", "reversed", "ValueError"] : List Str), mg x = none
theorem cb {id : String} {r : List V → Hp → VK → Prop} {γ : Type} [Rp γ] {Q : γ → Prop} {Q2 : List DV → Prop} (hc : CallR F.X (.builtin id) r) (hm : F.X.mg n = none) (hv : bootBuiltins n = some (.builtin id)) (h : KA F env (e :: es) ex Q2)
    (f : ∀ own σ H0 H vs ds, Same H0 H → F.Kn own env σ H → RepAll F.G (Hid (hd F.hs own) H) vs ds → Q2 ds → r vs H (Rs F own H0 Q))
    (hg : Gl F.X n := by rfl) (hn : n ≠ "__name__" := by decide) (hdb : (n == ("__debug__" : Str)) = false := by decide)
    (hz : starEach (e :: es) F.X.env = (false, eval e F.X.env) :: starEach es F.X.env := by rfl) (hpl : (backTo pos (starEach es F.X.env)).any (·.1) = false := by rfl) :
    KE F env (.Call (.Name n p0) (e :: es) [] pos) ex Q := fun own σ H k p =>
  tE_of (pe_callB hc hg hm hv peA hn hdb hz hpl) (tA_mono (fun vs H' ⟨ds, s, r1, q⟩ => f own σ H H' vs ds s (k.mono s) r1 q) (h own σ H k p))
theorem ct {id : String} {r : List V → Hp → VK → Prop} {γ : Type} [Rp γ] {Q : γ → Prop} {Q2 : List DV → Prop} (hc : CallR F.X (.type id) r) (hm : F.X.mg n = none) (hv : bootBuiltins n = some (.type id)) (h : KA F env (e :: es) ex Q2)
    (f : ∀ own σ H0 H vs ds, Same H0 H → F.Kn own env σ H → RepAll F.G (Hid (hd F.hs own) H) vs ds → Q2 ds → r vs H (Rs F own H0 Q))
    (hg : Gl F.X n := by rfl) (hn : n ≠ "__name__" := by decide) (hdb : (n == ("__debug__" : Str)) = false := by decide)
    (hz : starEach (e :: es) F.X.env = (false, eval e F.X.env) :: starEach es F.X.env := by rfl) (hpl : (backTo pos (starEach es F.X.env)).any (·.1) = false := by rfl) :
    KE F env (.Call (.Name n p0) (e :: es) [] pos) ex Q := fun own σ H k p =>
  tE_of (pe_callTy hc hg hm hv peA hn hdb hz hpl) (tA_mono (fun vs H' ⟨ds, s, r1, q⟩ => f own σ H H' vs ds s (k.mono s) r1 q) (h own σ H k p))
/-- one argument of a type, two -/
def One {α : Type} [Rp α] (Q : α → Prop) (ds : List DV) : Prop := ∃ x : α, ds = [dv x] ∧ Q x
def Two {α β : Type} [Rp α] [Rp β] (Q : α → β → Prop) (ds : List DV) : Prop := ∃ (x : α) (y : β), ds = [dv x, dv y] ∧ Q x y
/-- an argument without a star -/
abbrev Ns (F : Fx) (e : Expr) (es : List Expr) : Prop := starEach (e :: es) F.X.env = (false, eval e F.X.env) :: starEach es F.X.env
theorem a_one {α : Type} [Rp α] {Q : α → Prop} (h : KE F env e ex Q) (z : Ns F e []) : KA F env [e] ex (One Q) := a_cons (ke_imp (fun x q => a_nil ⟨x, rfl, q⟩) h) z
theorem a_two {α β : Type} [Rp α] [Rp β] {Q : α → β → Prop} (h : KE F env a ex fun x => KE F env b ex fun y => Q x y) (z : Ns F a [b]) (z2 : Ns F b []) : KA F env [a, b] ex (Two Q) := a_cons (ke_imp (fun x q => a_cons (ke_imp (fun y q => a_nil ⟨x, y, rfl, q⟩) q) z2) h) z
theorem rep1 {G : Gm} {H : Hp} {vs : List V} {d : DV} (r : RepAll G H vs [d]) : ∃ v, vs = [v] ∧ d.rep G H v := by
  match vs, r with
  | [v], r => exact ⟨v, rfl, r.1⟩
theorem rep2 {G : Gm} {H : Hp} {vs : List V} {d d' : DV} (r : RepAll G H vs [d, d']) : ∃ v w, vs = [v, w] ∧ d.rep G H v ∧ d'.rep G H w := by
  match vs, r with
  | [v, w], r => exact ⟨v, w, rfl, r.1, r.2.1⟩
theorem k_lenL {α : Type} [Rp α] {Q : Int → Prop} (m : NoGl F.X.mg) (h : KE F env e ex fun xs : List α => Q (xs.length : Int)) (z : Ns F e [] := by rfl) (hg : Gl F.X "len" := by rfl) : KE F env (.Call (.Name "len" p0) [e] [] pos) ex Q :=
  cb call_len_seq (m _ (by simp)) PySem.boot_len (a_one h z) (fun own σ H0 H vs ds s k r ⟨xs, ed, q⟩ => by
    subst ed
    obtain ⟨v, rfl, l, ws, e1, e2, e3⟩ := rep1 r
    refine ⟨l, ws, by rw [e1], .inl (SqL.of (hid_of e2)), _, s, ?_, q⟩
    show V.int _ = V.int _
    rw [e3.len, dvs_len]) hg (hz := z)
theorem k_lenS {Q : Int → Prop} (m : NoGl F.X.mg) (h : KE F env e ex fun xs : Scr => Q (xs.ns.length : Int)) (z : Ns F e [] := by rfl) (hg : Gl F.X "len" := by rfl) : KE F env (.Call (.Name "len" p0) [e] [] pos) ex Q :=
  cb call_len_seq (m _ (by simp)) PySem.boot_len (a_one h z) (fun own σ H0 H vs ds s k r ⟨xs, ed, q⟩ => by
    subst ed
    obtain ⟨v, rfl, l, e1, e2⟩ := rep1 r
    refine ⟨l, _, by rw [e1], .inl (hid_le.seq e2), _, s, ?_, q⟩
    show V.int _ = V.int _
    rw [List.length_map]) hg (hz := z)
theorem k_lenT {α : Type} {ds : α → List DV} {Q : Int → Prop} (m : NoGl F.X.mg) (h : @KE F env e ex α (tpRp ds) fun x : α => Q ((ds x).length : Int)) (z : Ns F e [] := by rfl) (hg : Gl F.X "len" := by rfl) : KE F env (.Call (.Name "len" p0) [e] [] pos) ex Q :=
  cb call_len_seq (m _ (by simp)) PySem.boot_len (@a_one F env ex e α (tpRp ds) _ h z) (fun own σ H0 H vs _ s k r ⟨xs, ed, q⟩ => by
    subst ed
    obtain ⟨v, rfl, l, ws, e1, e2, e3⟩ := rep1 r
    refine ⟨l, ws, by rw [e1], .inr (SqT.of (hid_of e2)), _, s, ?_, q⟩
    show V.int _ = V.int _
    rw [e3.len]) hg (hz := z)
theorem k_intI {Q : Int → Prop} (m : NoGl F.X.mg) (h : KE F env e ex Q) (z : Ns F e [] := by rfl) (hg : Gl F.X "int" := by rfl) : KE F env (.Call (.Name "int" p0) [e] [] pos) ex Q :=
  ct call_int1 (m _ (by simp)) (by decide +kernel) (a_one h z) (fun own σ H0 H vs ds s k r ⟨x, ed, q⟩ => by
    subst ed
    obtain ⟨v, rfl, e1⟩ := rep1 r
    cases e1
    exact .inl ⟨x, rfl, x, s, rfl, q⟩) hg (hz := z)
def b2 (b : Bool) : Int := if b then 1 else 0
theorem k_intB {Q : Int → Prop} (m : NoGl F.X.mg) (h : KE F env e ex fun x : Bool => Q (b2 x)) (z : Ns F e [] := by rfl) (hg : Gl F.X "int" := by rfl) : KE F env (.Call (.Name "int" p0) [e] [] pos) ex Q :=
  ct call_int1 (m _ (by simp)) (by decide +kernel) (a_one h z) (fun own σ H0 H vs ds s k r ⟨x, ed, q⟩ => by
    subst ed
    obtain ⟨v, rfl, e1⟩ := rep1 r
    cases e1
    exact .inr ⟨x, rfl, _, s, rfl, q⟩) hg (hz := z)
theorem k_max2 {Q : Int → Prop} (m : NoGl F.X.mg) (h : KE F env a ex fun x : Int => KE F env b ex fun y : Int => Q (max x y)) (hc : F.X.calm = true := by rfl) (z : Ns F a [b] := by rfl) (z2 : Ns F b [] := by rfl) (hpl : (backTo pos (starEach [b] F.X.env)).any (·.1) = false := by rfl) (hg : Gl F.X "max" := by rfl) : KE F env (.Call (.Name "max" p0) [a, b] [] pos) ex Q :=
  cb (call_max2 hc) (m _ (by simp)) (by decide +kernel) (a_two h z z2) (fun own σ H0 H vs ds s k r ⟨x, y, ed, q⟩ => by
    subst ed
    obtain ⟨v, w, rfl, e1, e2⟩ := rep2 r
    cases e1; cases e2
    refine ⟨x, y, rfl, _, s, ?_, q⟩
    show V.int _ = V.int _
    congr 1
    split <;> omega) hg (hz := z) (hpl := hpl)
theorem k_min2 {Q : Int → Prop} (m : NoGl F.X.mg) (h : KE F env a ex fun x : Int => KE F env b ex fun y : Int => Q (min x y)) (hc : F.X.calm = true := by rfl) (z : Ns F a [b] := by rfl) (z2 : Ns F b [] := by rfl) (hpl : (backTo pos (starEach [b] F.X.env)).any (·.1) = false := by rfl) (hg : Gl F.X "min" := by rfl) : KE F env (.Call (.Name "min" p0) [a, b] [] pos) ex Q :=
  cb (call_min2 hc) (m _ (by simp)) (by decide +kernel) (a_two h z z2) (fun own σ H0 H vs ds s k r ⟨x, y, ed, q⟩ => by
    subst ed
    obtain ⟨v, w, rfl, e1, e2⟩ := rep2 r
    cases e1; cases e2
    refine ⟨x, y, rfl, _, s, ?_, q⟩
    show V.int _ = V.int _
    congr 1
    split <;> omega) hg (hz := z) (hpl := hpl)
theorem reps_ints {G : Gm} {H : Hp} : ∀ {vs : List V} {ns : List Int}, RepAll G H vs (dvs ns) → vs = ns.map V.int
  | [], [], _ => rfl
  | v :: vs, n :: ns, h => by
    have e : v = V.int n := h.1
    rw [e, reps_ints (vs := vs) (ns := ns) h.2] <;> rfl
/-- the greatest, the least of a list -/
theorem k_maxL {Q : Int → Prop} (m : NoGl F.X.mg) (h : KE F env e ex fun xs : List Int => xs ≠ [] ∧ ∀ y, y ∈ xs → (∀ z ∈ xs, z ≤ y) → Q y) (hc : F.X.calm = true := by rfl) (z : Ns F e [] := by rfl) (hg : Gl F.X "max" := by rfl) : KE F env (.Call (.Name "max" p0) [e] [] pos) ex Q :=
  cb (cr_max hc) (m _ (by simp)) (by decide +kernel) (a_one h z) (fun own σ H0 H vs ds s k r ⟨xs, ed, q0, q⟩ => by
    subst ed
    obtain ⟨v, rfl, l, ws, e1, e2, e3⟩ := rep1 r
    have e4 := reps_ints e3
    refine ⟨l, xs, by rw [e1], SqL.of (by rw [← e4]; exact hid_of e2), List.length_pos_iff.mpr q0, fun y hy hle => ⟨y, s, rfl, q y hy hle⟩⟩) hg (hz := z)
theorem k_minL {Q : Int → Prop} (m : NoGl F.X.mg) (h : KE F env e ex fun xs : List Int => xs ≠ [] ∧ ∀ y, y ∈ xs → (∀ z ∈ xs, y ≤ z) → Q y) (hc : F.X.calm = true := by rfl) (z : Ns F e [] := by rfl) (hg : Gl F.X "min" := by rfl) : KE F env (.Call (.Name "min" p0) [e] [] pos) ex Q :=
  cb (cr_min hc) (m _ (by simp)) (by decide +kernel) (a_one h z) (fun own σ H0 H vs ds s k r ⟨xs, ed, q0, q⟩ => by
    subst ed
    obtain ⟨v, rfl, l, ws, e1, e2, e3⟩ := rep1 r
    have e4 := reps_ints e3
    refine ⟨l, xs, by rw [e1], SqL.of (by rw [← e4]; exact hid_of e2), List.length_pos_iff.mpr q0, fun y hy hle => ⟨y, s, rfl, q y hy hle⟩⟩) hg (hz := z)
/-- list(xs): a new list -/
theorem k_list {α : Type} [Rp α] {Q : List α → Prop} (m : NoGl F.X.mg) (h : KE F env e ex Q) (z : Ns F e [] := by rfl) (hg : Gl F.X "list" := by rfl) : KE F env (.Call (.Name "list" p0) [e] [] pos) ex Q :=
  ct call_list_of (m _ (by simp)) (by decide +kernel) (a_one h z) (fun own σ H0 H vs ds s k r ⟨xs, ed, q⟩ => by
    subst ed
    obtain ⟨v, rfl, l, ws, e1, e2, e3⟩ := rep1 r
    exact ⟨l, ws, by rw [e1], .inl (SqL.of (hid_of e2)), fun t ht => ⟨xs, s.trans (same_new ht), ⟨t, ws, rfl, hid_new k (Same.refl _) ht, e3.mono (hid_same (same_new ht))⟩, q⟩⟩) hg (hz := z)

/-! ### calls of the text's own defs -/
inductive Rz : Type 1 where
  | ok (d : DV)
  | err (c : Nat)
/-- a promise: what the arguments lead to -/
abbrev Pm := List DV → Rz → Prop
def spOf (K : PySem.W.Frag) (cls : Nat → Addr) (S : Pm) : Sp := fun vs H Q E => ∃ (hs : Addr → Prop) (ds : List DV) (r : Rz), (∀ x, hs x → H x ≠ none) ∧ RepAll ⟨K, cls⟩ (Hid hs H) vs ds ∧ S ds r ∧
  match r with
  | .ok d => ∀ v H', Same H H' → d.rep ⟨K, cls⟩ (Hid hs H') v → Q v H'
  | .err c => ∀ H', Same H H' → E (.ref (cls c)) none H'
/-- what a caller makes of it -/
def Got {α : Type} [Rp α] (env : List Ent) (ex : XP) (Q : α → Prop) : Rz → Prop
  | .ok d => ∃ x : α, d = dv x ∧ Q x
  | .err c => ex env c
theorem Got.ok {α : Type} [Rp α] {env : List Ent} {ex : XP} {Q : α → Prop} {x : α} (q : Q x) : Got env ex Q (.ok (dv x)) := ⟨x, rfl, q⟩
theorem Kn.hidden {own : Nat → Option Addr} {σ : L2.St} {H : Hp} (k : F.Kn own env σ H) : ∀ x, hd F.hs own x → H x ≠ none := fun x z => by
  rcases z with z | ⟨i, z⟩
  · exact k.hsB x z
  · exact (k.new i x z).2
section
variable {kk : Nat} {f : Addr} {fd : FuncData} {ps : List Str} {S : Pm}
theorem spec_run {own : Nat → Option Addr} {σ : L2.St} {H0 H : Hp} {α : Type} [Rp α] {Q : α → Prop} {W : WX} {vs : List V} {ds : List DV} {r : Rz} (s : Same H0 H) (k : F.Kn own env σ H) (hw : ∀ env own' C σ H', F.Kn own' env σ H' → Fr F.hs own own' H0 H' → ex env C → W (.ref (F.cls C)) none σ H')
    (rv : RepAll F.G (Hid (hd F.hs own) H) vs ds) (hS : S ds r) (q : Got env ex Q r) : spOf F.X.K F.cls S vs H (Rs F own H0 Q) (WE W σ) := by
  refine ⟨hd F.hs own, ds, r, Kn.hidden k, rv, hS, ?_⟩
  cases r with
  | ok d =>
    obtain ⟨x, ed, q⟩ := q
    intro v H' s' rd
    subst ed
    exact ⟨x, s.trans s', rd, q⟩
  | err c => exact fun H' s' => hw env own c σ H' (k.mono s') (Fr.of (s.trans s')) q
theorem k_call {α : Type} [Rp α] {Q : α → Prop} (G : FnOk F.X.prog F.X.w F.X.K F.X.mg F.X.base (L2.CX F.X.prog F.X.w) kk f fd ps (spOf F.X.K F.cls S)) (hr : Room kk F.X.A) (hm : F.X.mg n = some (.ref f)) (hk : PySem.W.keepIn F.X.K (.ref f) = true) (hb : Binds F.X.K fd ps [])
    (h : KA F env (e :: es) ex fun ds => ∃ r, S ds r ∧ Got env ex Q r) (hg : Gl F.X n := by rfl) (hdb : (n == ("__debug__" : Str)) = false := by decide)
    (hz : starEach (e :: es) F.X.env = (false, eval e F.X.env) :: starEach es F.X.env := by rfl) (hpl : (backTo pos (starEach es F.X.env)).any (·.1) = false := by rfl) : KE F env (.Call (.Name n p0) (e :: es) [] pos) ex Q := fun own σ H k p => by
  obtain ⟨pa, W, tk, hw⟩ := id p
  exact tE_of (pe_callS G hr hg hm hk hb (fun σ => passAt tk σ) peA hdb hz hpl) (tA_mono (fun vs H' ⟨ds, s, r1, r, hS, q⟩ => spec_run s (k.mono s) hw r1 hS q) (h own σ H k p))
/-- o.m(e, ..) -/
theorem pe_methS {X : Cx} {C : Addr} {sp : Sp} {E : L2.St → XK} {m : Str} {apos : Pos} {o : Expr} {ta : TE} {t : TA} {pl : Sem Bool} {CT : CXT} (he : PE X o ta) (cl : Cls X.K C) (hm : Meth X.K C m f) (G : FnOk X.prog X.w X.K X.mg X.base CT kk f fd ps sp) (hr : Room kk X.A) (hb : Binds X.K fd ps []) (hx : ∀ σ, PassesAt CT X σ (E σ)) (ha : PA X (e :: es) t)
    (hst : starEach (e :: es) X.env = (false, eval e X.env) :: starEach es X.env := by rfl) (hpl : (backTo pos (starEach es X.env)).any (·.1) = false := by rfl)
    (ht : eval (.Call (.Attribute o m apos) (e :: es) [] pos) X.env = (do
      let recv ← eval o X.env
      standAt apos.atName
      let (fn, fst) ← holding [recv] (getMethod recv m pl)
      callWith pos fn fst (backTo pos (starEach (e :: es) X.env)) (backToKw pos (keywordEach [] X.env))) := by rfl) :
    PE X (.Call (.Attribute o m apos) (e :: es) [] pos) (fun σ H Q => ta σ H fun x H1 => ∃ a dx fs, x = .ref a ∧ H1 a = some (.ins C dx fs) ∧ fs.lookup m = none ∧ t σ H1 fun vs H2 => sp (x :: vs) H2 Q (E σ)) := by
  refine ⟨fun pins s σ H Q I hq => ?_⟩
  refine PySem.W.methodCall_KW (pl := pl) (thn (he.run pins s σ H _ I hq) fun u s1 ⟨x, H1, I1, rx, a, dx, fs, ex1, ea, l, q⟩ => ?_) ht
  subst ex1
  obtain rfl : u = Value.ref a := rx
  refine getmeth_ok I1 ea cl hm l ?_
  refine PySem.W.callWith_K (h₀ := X.base) (first := [.ref a]) I.ok.mod.kin hm.kp (thn (ha.run pos pins s1 σ H1 _ I1 q) fun vals s2 ⟨vs, H2, I2, r, q2⟩ => ⟨I2.kIn, ?_⟩) hst hpl
  exact run_fnS (vs := .ref a :: vs) (us := .ref a :: vals) G hr hb (hx σ) I2 (.cons rfl r) q2
theorem pe_methS0 {X : Cx} {C : Addr} {sp : Sp} {E : L2.St → XK} {m : Str} {apos : Pos} {o : Expr} {ta : TE} {pl : Sem Bool} {CT : CXT} (he : PE X o ta) (cl : Cls X.K C) (hm : Meth X.K C m f) (G : FnOk X.prog X.w X.K X.mg X.base CT kk f fd ps sp) (hr : Room kk X.A) (hb : Binds X.K fd ps []) (hx : ∀ σ, PassesAt CT X σ (E σ))
    (ht : eval (.Call (.Attribute o m apos) [] [] pos) X.env = (do
      let recv ← eval o X.env
      standAt apos.atName
      let (fn, fst) ← holding [recv] (getMethod recv m pl)
      callWith pos fn fst (backTo pos (starEach [] X.env)) (backToKw pos (keywordEach [] X.env))) := by rfl) :
    PE X (.Call (.Attribute o m apos) [] [] pos) (fun σ H Q => ta σ H fun x H1 => ∃ a dx fs, x = .ref a ∧ H1 a = some (.ins C dx fs) ∧ fs.lookup m = none ∧ sp [x] H1 Q (E σ)) := by
  refine ⟨fun pins s σ H Q I hq => ?_⟩
  refine PySem.W.methodCall_KW (pl := pl) (thn (he.run pins s σ H _ I hq) fun u s1 ⟨x, H1, I1, rx, a, dx, fs, ex1, ea, l, q⟩ => ?_) ht
  subst ex1
  obtain rfl : u = Value.ref a := rx
  refine getmeth_ok I1 ea cl hm l ?_
  exact PySem.W.callWith_K0 (first := [.ref a]) I1.kIn hm.kp (run_fnS (vs := [.ref a]) (us := [.ref a]) G hr hb (hx σ) I1 (.cons rfl .nil) q)
theorem k_meth {α β : Type} [Rp β] {num : Nat} {fs : α → List (Str × DV)} {m : Str} {apos : Pos} {Q : β → Prop} (hf : ∀ o, (fs o).lookup m = none) (cl : Cls F.X.K (F.cls num)) (hm : Meth F.X.K (F.cls num) m f)
    (G : FnOk F.X.prog F.X.w F.X.K F.X.mg F.X.base (L2.CX F.X.prog F.X.w) kk f fd ps (spOf F.X.K F.cls S)) (hr : Room kk F.X.A) (hb : Binds F.X.K fd ps [])
    (h : @KE F env a ex α (obRp num fs) fun o => KA F env (e :: es) ex fun ds => ∃ r, S (@dv α (obRp num fs) o :: ds) r ∧ Got env ex Q r)
    (hst : starEach (e :: es) F.X.env = (false, eval e F.X.env) :: starEach es F.X.env := by rfl) (hpl : (backTo pos (starEach es F.X.env)).any (·.1) = false := by rfl) {pl : Sem Bool}
    (ht : eval (.Call (.Attribute a m apos) (e :: es) [] pos) F.X.env = (do
      let recv ← eval a F.X.env
      standAt apos.atName
      let (fn, fst) ← holding [recv] (getMethod recv m pl)
      callWith pos fn fst (backTo pos (starEach (e :: es) F.X.env)) (backToKw pos (keywordEach [] F.X.env))) := by rfl) :
    KE F env (.Call (.Attribute a m apos) (e :: es) [] pos) ex Q := fun own σ H k p => by
  obtain ⟨pa, W, tk, hw⟩ := id p
  refine tE_of (pe_methS peE cl hm G hr hb (fun σ => passAt tk σ) peA hst hpl ht) (tE_mono (fun v H1 ⟨o, s1, r1, q1⟩ => ?_) (h own σ H k p))
  obtain ⟨x, dx, kvs, e1, e2, e3⟩ := id r1
  refine ⟨x, dx, kvs, e1, hid_of e2, e3.no (hf o), tA_mono (fun vs H2 ⟨ds, s2, r2, r, hS, q⟩ => ?_) (q1 own σ H1 (k.mono s1) (p.mono s1))⟩
  exact spec_run (s1.trans s2) (k.mono (s1.trans s2)) hw (ds := @dv α (obRp num fs) o :: ds) ⟨(obRp num fs).mono (hid_same s2) r1, r2⟩ hS q
theorem k_meth0 {α β : Type} [Rp β] {num : Nat} {fs : α → List (Str × DV)} {m : Str} {apos : Pos} {Q : β → Prop} (hf : ∀ o, (fs o).lookup m = none) (cl : Cls F.X.K (F.cls num)) (hm : Meth F.X.K (F.cls num) m f)
    (G : FnOk F.X.prog F.X.w F.X.K F.X.mg F.X.base (L2.CX F.X.prog F.X.w) kk f fd ps (spOf F.X.K F.cls S)) (hr : Room kk F.X.A) (hb : Binds F.X.K fd ps [])
    (h : @KE F env a ex α (obRp num fs) fun o => ∃ r, S [@dv α (obRp num fs) o] r ∧ Got env ex Q r) {pl : Sem Bool}
    (ht : eval (.Call (.Attribute a m apos) [] [] pos) F.X.env = (do
      let recv ← eval a F.X.env
      standAt apos.atName
      let (fn, fst) ← holding [recv] (getMethod recv m pl)
      callWith pos fn fst (backTo pos (starEach [] F.X.env)) (backToKw pos (keywordEach [] F.X.env))) := by rfl) :
    KE F env (.Call (.Attribute a m apos) [] [] pos) ex Q := fun own σ H k p => by
  obtain ⟨pa, W, tk, hw⟩ := id p
  refine tE_of (pe_methS0 peE cl hm G hr hb (fun σ => passAt tk σ) ht) (tE_mono (fun v H1 ⟨o, s1, r1, r, hS, q⟩ => ?_) (h own σ H k p))
  obtain ⟨x, dx, kvs, e1, e2, e3⟩ := id r1
  refine ⟨x, dx, kvs, e1, hid_of e2, e3.no (hf o), ?_⟩
  exact spec_run s1 (k.mono s1) hw (ds := [@dv α (obRp num fs) o]) ⟨r1, trivial⟩ hS q
end
end
end Rk

set_option maxHeartbeats 4000000
set_option exponentiation.threshold 3000
namespace Rk
open PySem L2
section
variable {F : Fx} {env : List Ent} {a b c e : Expr} {es : List Expr} {pos p0 p1 : Pos} {n x : Str} {P : Po} {st : Stmt} {sts ss : List Stmt}

/-! ### texts made of parts: some text -/
def Parts (F : Fx) (env : List Ent) (ex : XP) (q : Prop) : List Expr → Prop
  | [] => q
  | e :: es => KE F env e ex fun z : Str => z.length ≤ 100 ∧ Parts F env ex q es
theorem k_fmtI {ex : XP} {q : Prop} (h : KE F env e ex fun i : Int => i.natAbs < 1000000 ∧ q) : KE F env (.FormattedValue e (-1) none pos) ex fun z : Str => z.length ≤ 100 ∧ q := fun own σ H kn p =>
  tE_of (pe_fmt peE) (tE_mono (fun v H' ⟨i, s, r, h1, h2⟩ => by
    cases r
    have hb : i.natAbs.log2 < 1920 := by
      by_cases z : i.natAbs = 0
      · rw [z]; decide
      · exact (Nat.log2_lt z).mpr (Nat.lt_of_lt_of_le h1 (Nat.le_trans (by decide : 1000000 ≤ 2 ^ 20) (Nat.pow_le_pow_right (by decide) (by decide))))
    refine .inr ⟨i, rfl, hb, _, s, rfl, ?_, h2⟩
    have e1 := int_text_length_le10 (a := i) (k := 6) (by decide) h1
    rw [ofString_length]
    omega) (h own σ H kn p))
theorem k_fmtS {ex : XP} {q : Prop} (h : KE F env e ex fun z : Str => z.length ≤ 100 ∧ q) : KE F env (.FormattedValue e (-1) none pos) ex fun z : Str => z.length ≤ 100 ∧ q := fun own σ H kn p =>
  tE_of (pe_fmt peE) (tE_mono (fun v H' ⟨z, s, r, h1, h2⟩ => by
    cases r
    exact .inl ⟨z, rfl, Nat.le_of_lt (small1000 (by omega)), z, s, rfl, h1, h2⟩) (h own σ H kn p))
theorem k_lit {ex : XP} {q : Prop} {s : Str} {j} (h : s.length ≤ 100) (hq : q) : KE F env (.Constant (.str s) j pos) ex fun z : Str => z.length ≤ 100 ∧ q := k_str ⟨h, hq⟩
def pjs (X : Cx) : List Expr → List TE
  | [] => []
  | e :: es => tE X e :: pjs X es
theorem pj_all {X : Cx} : ∀ es : List Expr, PJ X es (pjs X es)
  | [] => .nil
  | _ :: es => .cons peE (pj_all es)
theorem parts_run {ex : XP} {q : Prop} {own : Nat → Option Addr} {σ : L2.St} {H0 : Hp} : ∀ (es : List Expr) (acc : Str) (k : Nat) (H : Hp), es.length + k ≤ 100 → acc.length ≤ 100 * k → Same H0 H → F.Kn own env σ H → Port F own H ex → Parts F env ex q es →
    tJs (pjs F.X es) acc σ H fun out H1 => Rs F own H0 (fun _ : Str => q) (.str out) H1
  | [], acc, k, H, _, _, s, kn, p, h => ⟨acc, s, rfl, h⟩
  | e :: es, acc, k, H, hk, ha, s, kn, p, h => tE_mono (fun v H' ⟨z, s', r, hz, h'⟩ => by
      cases r
      have hl : (acc ++ z).length = acc.length + z.length := Str.length_append acc z
      simp only [List.length_cons] at hk
      refine ⟨z, rfl, Nat.le_trans (by rw [hl]; omega : (acc ++ z).length ≤ 20000) (by decide), ?_⟩
      exact parts_run es (acc ++ z) (k + 1) H' (by omega) (by rw [hl]; omega) (s.trans s') (kn.mono s') (p.mono s') h') (h own σ H kn p)
theorem k_join {ex : XP} {q : Prop} {v1 v2 : Expr} {rest : List Expr} (h : Parts F env ex q (v1 :: v2 :: rest)) (hl : rest.length ≤ 90) : KE F env (.JoinedStr (v1 :: v2 :: rest) pos) ex fun _ : Str => q := fun own σ H kn p =>
  tE_of (pe_joined (pj_all _)) (parts_run _ _ 0 H (by simp only [List.length_cons]; omega) (Nat.le_of_eq rfl) (Same.refl H) kn p h)
theorem k_join1 {ex : XP} {q : Prop} (h : Parts F env ex q [e]) : KE F env (.JoinedStr [e] pos) ex fun _ : Str => q := fun own σ H kn p =>
  tE_of (pe_joined1 peE) (tE_mono (fun v H' ⟨z, s, r, _, hq⟩ => ⟨z, s, r, hq⟩) (h own σ H kn p))

/-! ### blocks -/
theorem At.more {own own' : Nat → Option Addr} {H H' : Hp} {p : List Ent → Prop} {σ : L2.St} {H2 : Hp} (f : Fr F.hs own own' H H') (h : At F own' H' p σ H2) : At F own H p σ H2 := h.elim fun env ⟨o, k, g, z⟩ => ⟨env, o, k, f.trans g, z⟩
theorem b_more {own own' : Nat → Option Addr} {H H' H2 : Hp} {σ : L2.St} (f : Fr F.hs own own' H H') (h : tSs F.X sts (ends F own' H' P) σ H2) : tSs F.X sts (ends F own H P) σ H2 :=
  tSs_mono (D := ends F own' H' P) (D' := ends F own H P) (fun _ _ z => At.more f z) (fun _ _ z => z) (fun _ _ z => At.more f z) (fun _ _ z => At.more f z) h
theorem ks_imp {P' : Po} (n : ∀ env, P.nx env → P'.nx env) (r : ∀ d, P.rt d → P'.rt d) (b : ∀ env, P.bk env → P'.bk env) (c : ∀ env, P.ct env → P'.ct env) (x : ∀ env C, P.ex env C → P'.ex env C) (h : KSs F env sts P) : KSs F env sts P' := fun own σ H k p =>
  tSs_mono (D := ends F own H P) (D' := ends F own H P') (fun _ _ z => At.imp n z) (fun v H ⟨d, s, rd, z⟩ => ⟨d, s, rd, r d z⟩) (fun _ _ z => At.imp b z) (fun _ _ z => At.imp c z) (h own σ H k (p.imp x))
theorem ks_nil (q : P.nx env) : KSs F env [] P := fun own σ H k p => tSs_of pss_nil ⟨env, own, k, Fr.refl, q⟩
theorem ks_one (h : KS F env st P) : KSs F env [st] P := fun own σ H k p => tSs_of (pss_one peS) (h own σ H k p)
theorem ks_cons (h : KS F env st { P with nx := fun env' => KSs F env' (sts) P }) : KSs F env (st :: sts) P := fun own σ H k p => by
  refine tSs_of (pss_cons peS peSs) ?_
  refine tS_mono (D := ends F own H { P with nx := fun env' => KSs F env' sts P }) (D' := { ends F own H P with nx := tSs F.X sts (ends F own H P) }) (fun σ' H' z => ?_) (fun _ _ z => z) (fun _ _ z => z) (fun _ _ z => z) (h own σ H k p)
  obtain ⟨env', own', k', f, z⟩ := z
  exact b_more f (z own' σ' H' k' (p.step f))
theorem ks_as {env' : List Ent} (f : ∀ own σ H, F.Kn own env σ H → ∃ own', F.Kn own' env' σ H ∧ Fr F.hs own own' H H) (h : KSs F env' sts P) : KSs F env sts P := fun own σ H k p => by
  obtain ⟨own', k', g⟩ := f own σ H k
  exact b_more g (h own' σ H k' (p.step g))
/-- an own list is shared from here on -/
theorem ks_freeze {α : Type} [Rp α] (i : Nat) {xs : List α} (he : env[i]? = some (.ow (olist xs))) (h : KSs F (env.set i (.sh (dv xs))) sts P) : KSs F env sts P :=
  ks_as (fun own σ H k => ⟨_, k.freeze he (fun p ho H1 _ h1 sm ok => by
    obtain ⟨vs, e1, r⟩ := ok
    subst e1
    exact ⟨p, vs, rfl, h1, r.mono sm⟩), Fr.drop i⟩) h
theorem ks_forget (i : Nat) (h : KSs F (env.set i .no) sts P) : KSs F env sts P := ks_as (fun own σ H k => ⟨_, k.forget i, Fr.drop i⟩) h

/-! ### statements -/
theorem s_pass (q : P.nx env) : KS F env (.Pass pos) P := fun own σ H k p => tS_of ps_pass ⟨env, own, k, Fr.refl, q⟩
theorem s_brk (q : P.bk env) : KS F env (.Break pos) P := fun own σ H k p => tS_of ps_break ⟨env, own, k, Fr.refl, q⟩
theorem s_cont (q : P.ct env) : KS F env (.Continue pos) P := fun own σ H k p => tS_of ps_continue ⟨env, own, k, Fr.refl, q⟩
theorem s_ret {α : Type} [Rp α] (h : KE F env e P.ex fun y : α => P.rt (dv y)) : KS F env (.Return (some e) pos) P := fun own σ H k p =>
  tS_of (ps_ret peE) (tE_mono (fun v H' ⟨y, s, r, q⟩ => ⟨dv y, k.ex.trans s, DV.mono (d := dv y) (hid_more fun _ z => .inl z) r, q⟩) (h own σ H k p))
theorem s_retN (q : P.rt (dv ())) : KS F env (.Return none pos) P := fun own σ H k p => tS_of ps_retN ⟨dv (), k.ex, rfl, q⟩
theorem s_if (h : KT F env c P.ex fun b => if b = true then KSs F env sts P else KSs F env ss P) : KS F env (.If c sts ss pos) P := fun own σ H k p =>
  tS_of (ps_if peT peSs peSs) (tT_mono (fun b H' ⟨s, q⟩ => by
    have f : Fr F.hs own own H H' := Fr.of s
    cases b with
    | true => exact b_more f (q own σ H' (k.mono s) (p.mono s))
    | false => exact b_more f (q own σ H' (k.mono s) (p.mono s))) (h own σ H k p))
theorem s_expr {α : Type} [Rp α] (h : KE F env e P.ex fun _ : α => P.nx env) (hs : swapsWith e none pos.line F.X.env = pure false := by rfl) : KS F env (.Expr e pos) P := fun own σ H k p =>
  tS_of (ps_expr peE hs) (tE_mono (fun v H' ⟨_, s, _, q⟩ => ⟨env, own, k.mono s, Fr.of s, q⟩) (h own σ H k p))
/-- name = e -/
theorem s_asg {α : Type} [Rp α] (i : Nat) (nd : F.X.N.Nodup) (hi : F.X.N[i]? = some x) (h : KE F env e P.ex fun y : α => P.nx (env.set i (.sh (dv y)))) (hx : Loc F.X.env.scope x := by first | exact Or.inl rfl | exact Or.inr rfl) (hs : swapsWith e (some (.Name x p1)) pos.line F.X.env = pure false := by rfl)
    (hf : F.X.fn x = true ∨ F.X.env.scope.names.lookup x = some .local := by exact Or.inl rfl) : KS F env (.Assign [.Name x p1] e pos) P := fun own σ H k p =>
  tS_of (ps_set nd hi hx peE hs hf) (tE_mono (fun v H' ⟨y, s, r, q⟩ => ⟨_, _, (k.mono s).set (i := i) (d := dv y) r, (Fr.of s).trans (Fr.drop i), q⟩) (h own σ H k p))
/-- name = [..]: a list that the def alone holds -/
theorem s_new {α : Type} [Rp α] (i : Nat) (nd : F.X.N.Nodup) (hi : F.X.N[i]? = some x) (hl : i < env.length) (h : KA F env es P.ex fun ds => ds.length ≤ 1000 ∧ ∃ xs : List α, dvs xs = ds ∧ ∀ zs, zs = xs → P.nx (env.set i (.ow (olist zs)))) (hx : Loc F.X.env.scope x := by first | exact Or.inl rfl | exact Or.inr rfl)
    (hs : swapsWith (.List es p0) (some (.Name x p1)) pos.line F.X.env = pure false := by rfl) (hf : F.X.fn x = true ∨ F.X.env.scope.names.lookup x = some .local := by exact Or.inl rfl) : KS F env (.Assign [.Name x p1] (.List es p0) pos) P := fun own σ H k p =>
  tS_of (ps_set nd hi hx (pe_lst peA) hs hf) (tA_mono (fun vs H' ⟨ds, s, r, hz, xs, ed, q⟩ => ⟨by rw [r.len]; exact Nat.le_of_lt (small1000 hz), fun t ht =>
    ⟨_, _, (k.mono s).gain (i := i) (o := olist xs) hl (same_new ht) ht upd_same ⟨vs, rfl, by rw [ed]; exact r⟩, (Fr.of s).trans (Fr.gain (same_new ht) ht), q xs rfl⟩⟩) (h own σ H k p))
/-- name = list(e): a list that the def alone holds -/
theorem s_newList {α : Type} [Rp α] (i : Nat) (m : NoGl F.X.mg) (nd : F.X.N.Nodup) (hi : F.X.N[i]? = some x) (hl : i < env.length) (h : KE F env e P.ex fun xs : List α => ∀ zs, zs = xs → P.nx (env.set i (.ow (olist zs)))) (hx : Loc F.X.env.scope x := by first | exact Or.inl rfl | exact Or.inr rfl)
    (hs : swapsWith (.Call (.Name "list" p0) [e] [] pos) (some (.Name x p1)) pos.line F.X.env = pure false := by rfl) (hf : F.X.fn x = true ∨ F.X.env.scope.names.lookup x = some .local := by exact Or.inl rfl) (z : Ns F e [] := by rfl) (hg : Gl F.X "list" := by rfl) :
    KS F env (.Assign [.Name x p1] (.Call (.Name "list" p0) [e] [] pos) pos) P := fun own σ H k p =>
  tS_of (ps_set nd hi hx (pe_callTy call_list_of hg (m _ (by simp)) (by decide +kernel) (pa_cons peE pa_nil z) (he := z)) hs hf) (tE_mono (fun v H' ⟨xs, s, ⟨l, ws, e1, e2, e3⟩, q⟩ => by
    refine ⟨l, ws, by rw [e1], .inl (SqL.of (hid_of e2)), fun t ht => ?_⟩
    exact ⟨_, _, (k.mono s).gain (i := i) (o := olist xs) hl (same_new ht) ht upd_same ⟨ws, rfl, e3⟩, (Fr.of s).trans (Fr.gain (same_new ht) ht), q xs rfl⟩) (h own σ H k p))
/-- rows.append(e), rows a list that the def alone holds -/
theorem s_app {α : Type} [Rp α] (i : Nat) {xs : List α} {q0 q1 : Pos} (hN : F.X.N[i]? = some x) (he : env[i]? = some (.ow (olist xs))) (hz : xs.length < 100000) (h : KE F env e P.ex fun y : α => ∀ zs, zs = xs ++ [y] → P.nx (env.set i (.ow (olist zs)))) (z : Ns F e [] := by rfl)
    (hv : Vis F.X.env.scope x := by first | exact Or.inl rfl | exact Or.inr (Or.inl rfl) | exact Or.inr (Or.inr rfl)) (hdb : (x == ("__debug__" : Str)) = false := by decide) (hcd : (x == ("__classdict__" : Str)) = false := by decide)
    (hbase : attributeBase (.Name x q0) "append" F.X.env (eval (.Name x q0) F.X.env) = eval (.Name x q0) F.X.env := by rfl)
    (hfew : ((backTo p0 (starEach (e :: []) F.X.env)).all (fun x => !x.1) && (backToKw p0 (keywordEach [] F.X.env)).all (fun x => x.1.isSome)
      && decide ((e :: ([] : List Expr)).length + ([] : List Keyword).length + (if ([] : List Keyword).isEmpty then 0 else 1) < 30)) = true := by rfl)
    (hline : (q1.endLine == p0.line) = true := by rfl) (hplain : (backTo p0 (starEach ([] : List Expr) F.X.env)).any (·.1) = false := by rfl)
    (hs : swapsWith (.Call (.Attribute (.Name x q0) "append" q1) [e] [] p0) none pos.line F.X.env = pure false := by rfl) :
    KS F env (.Expr (.Call (.Attribute (.Name x q0) "append" q1) [e] [] p0) pos) P := fun own σ H k p => by
  have hi : i < env.length := (List.getElem?_eq_some_iff.mp he).1
  obtain ⟨l, ho, h0, h1, h2, vs, e3, r3⟩ := (show EntOk F.G F.hs own σ H i (.ow (olist xs)) from k.ent i _ he)
  subst e3
  refine tS_of (ps_expr (pe_bm PySem.F.plainAttrs_list PySem.F.slot_list_append PySem.F.type_list_append mt_append (pe_var hN hv hdb hcd) (pa_cons peE pa_nil z) hbase hfew hline z hplain) hs) ⟨.ref l, h1, .inl ⟨rfl, _, SqL.of h2⟩, ?_⟩
  refine tE_mono (fun v H' ⟨y, s, r, q⟩ => ?_) (h own σ H k p)
  have k' := k.mono s
  have r3' := r3.mono (hid_same (hs := hd F.hs own) s)
  refine ⟨l, vs, v, rfl, rfl, s _ _ h2, Nat.lt_of_lt_of_le (by rw [r3.len, dvs_len]; exact hz) (by decide : 100000 ≤ sizeLine), ?_⟩
  refine ⟨_, _, k'.chg (i := i) hi h0 (o := olist (xs ++ [y])) ⟨vs ++ [v], rfl, ?_⟩, (Fr.of s).trans (Fr.chg h0), q _ rfl⟩
  unfold dvs
  rw [List.map_append]
  exact r3'.app ⟨r, trivial⟩
/-- x += e, x -= e -/
theorem s_augAdd (i : Nat) {y : Int} (nd : F.X.N.Nodup) (hi : F.X.N[i]? = some x) (he : env[i]? = some (.sh (dv y))) (h : KE F env e P.ex fun z : Int => ∀ u : Int, u = y + z → P.nx (env.set i (.sh (dv u)))) (hx : Loc F.X.env.scope x := by first | exact Or.inl rfl | exact Or.inr rfl)
    (hf : F.X.fn x = true ∨ F.X.env.scope.names.lookup x = some .local := by exact Or.inl rfl) : KS F env (.AugAssign (.Name x p1) .Add e pos) P := fun own σ H k p => by
  obtain ⟨v, h1, h2⟩ := k.sh he
  have h2' : v = V.int y := h2
  subst h2'
  exact tS_of (ps_aug nd hi hx peE ip_add hf) ⟨_, h1, tE_mono (fun v H' ⟨z, s, r, q⟩ => by
    cases r
    exact ⟨y, z, rfl, rfl, _, _, (k.mono s).set (i := i) (d := dv (y + z)) rfl, (Fr.of s).trans (Fr.drop i), q _ rfl⟩) (h own σ H k p)⟩
theorem s_augSub (i : Nat) {y : Int} (nd : F.X.N.Nodup) (hi : F.X.N[i]? = some x) (he : env[i]? = some (.sh (dv y))) (h : KE F env e P.ex fun z : Int => ∀ u : Int, u = y - z → P.nx (env.set i (.sh (dv u)))) (hx : Loc F.X.env.scope x := by first | exact Or.inl rfl | exact Or.inr rfl)
    (hf : F.X.fn x = true ∨ F.X.env.scope.names.lookup x = some .local := by exact Or.inl rfl) : KS F env (.AugAssign (.Name x p1) .Sub e pos) P := fun own σ H k p => by
  obtain ⟨v, h1, h2⟩ := k.sh he
  have h2' : v = V.int y := h2
  subst h2'
  exact tS_of (ps_aug nd hi hx peE ip_sub hf) ⟨_, h1, tE_mono (fun v H' ⟨z, s, r, q⟩ => by
    cases r
    exact ⟨y, z, rfl, rfl, _, _, (k.mono s).set (i := i) (d := dv (y - z)) rfl, (Fr.of s).trans (Fr.drop i), q _ rfl⟩) (h own σ H k p)⟩
/-- a, b, .. = e -/
def setAll (env : List Ent) : List Nat → List DV → List Ent
  | i :: is, d :: ds => setAll (env.set i (.sh d)) is ds
  | _, _ => env
def gNs : List Nat → TGs
  | [] => gNil
  | i :: is => gCons (gName i) (gNs is)
/-- but for the slots is, σ' is σ -/
def Wp (is : List Nat) (σ σ' : L2.St) : Prop := ∀ vs : List Nat, (∀ i ∈ is, i ∈ vs) → wipe σ' vs = wipe σ vs
theorem wipe_set {σ : L2.St} {i : Nat} {o : Option V} : ∀ {vs : List Nat}, i ∈ vs → wipe (σ.set i o) vs = wipe σ vs
  | [], h => nomatch h
  | v :: vs, h => by
    show (wipe (σ.set i o) vs).set v none = (wipe σ vs).set v none
    by_cases q : i ∈ vs
    · rw [wipe_set q]
    · have e : i = v := by
        rcases List.mem_cons.mp h with e | e
        · exact e
        · exact absurd e q
      subst e
      have sc : ∀ (σ : L2.St) (vs : List Nat), i ∉ vs → wipe (σ.set i o) vs = (wipe σ vs).set i o := by
        intro σ vs
        induction vs with
        | nil => intro _; rfl
        | cons u us ih =>
          intro hn
          show (wipe (σ.set i o) us).set u none = ((wipe σ us).set u none).set i o
          rw [ih fun z => hn (List.mem_cons_of_mem _ z), List.set_comm _ _ (fun z => hn (by rw [z]; exact List.mem_cons_self))]
      rw [sc σ vs q, List.set_set]
theorem Wp.one {σ : L2.St} {i : Nat} {o : Option V} : Wp [i] σ (σ.set i o) := fun vs h => wipe_set (h i List.mem_cons_self)
/-- but for the slots is, what is held stays held -/
def Kp (is : List Nat) (own own' : Nat → Option Addr) : Prop := ∀ i p, own i = some p → i ∈ is ∨ own' i = some p
theorem Kp.one {own : Nat → Option Addr} {i : Nat} : Kp [i] own (drop own i) := fun j p h => by
  by_cases e : j = i
  · subst e; exact .inl List.mem_cons_self
  · exact .inr (by unfold drop; rw [if_neg e]; exact h)
theorem unpack {Q : L2.St → Hp → Prop} : ∀ (is : List Nat) (ds : List DV) (vs : List V) (env : List Ent) (own : Nat → Option Addr) (σ : L2.St) (H : Hp), is.length = ds.length → F.Kn own env σ H → RepAll F.G (Hid (hd F.hs own) H) vs ds →
    (∀ own' σ', F.Kn own' (setAll env is ds) σ' H → Fr F.hs own own' H H → Wp is σ σ' → Kp is own own' → Q σ' H) → gNs is vs σ H Q
  | [], [], [], env, own, σ, H, _, k, _, q => ⟨rfl, q own σ k Fr.refl (fun _ _ => rfl) fun _ _ h => .inr h⟩
  | i :: is, d :: ds, v :: vs, env, own, σ, H, hl, k, r, q => ⟨v, vs, rfl, unpack is ds vs _ _ _ H (by simpa using hl) (k.set (i := i) r.1) (r.2.mono (Fr.drop i)) fun own' σ' k' f wp kp => q own' σ' k' ((Fr.drop i).trans f) (fun vs h => by
      rw [wp vs fun j hj => h j (List.mem_cons_of_mem _ hj)]
      exact wipe_set (h i List.mem_cons_self)) fun j p h => by
      rcases Kp.one j p h with z | z
      · exact .inl (by rw [List.mem_singleton.mp z]; exact List.mem_cons_self)
      · rcases kp j p z with y | y
        · exact .inl (List.mem_cons_of_mem _ y)
        · exact .inr y⟩
theorem s_unpack {α : Type} {ds : α → List DV} (is : List Nat) {kx : Nat} (hg : PGs F.X es (gNs is)) (hl : ∀ y, is.length = (ds y).length) (h : @KE F env e P.ex α (tpRp ds) fun y => P.nx (setAll env is (ds y))) (hc : F.X.calm = true := by rfl)
    (hn : (assignEach es F.X.env).length = is.length := by rfl) (hst : (assignEach es F.X.env).findIdx? (·.1) = none := by rfl) (hs : swapsWithSole [.Tuple es kx p1] e pos.line F.X.env = pure false := by rfl) (hw : swappedStores [.Tuple es kx p1] e F.X.env = pure none := by rfl)
    (h1 : (assignEach [.Tuple es kx p1] F.X.env).map (·.2) = [assign (.Tuple es kx p1) F.X.env] := by rfl) : KS F env (.Assign [.Tuple es kx p1] e pos) P := fun own σ H k p =>
  tS_of (ps_asg peE (pg_tup hc hg hn hst) hs hw h1) (tE_mono (fun v H' ⟨y, s, ⟨l, vs, e1, e2, e3⟩, q⟩ => ⟨l, vs, e1, SqT.of (hid_of e2), by rw [e3.len, ← hl y], unpack is _ vs env own σ H' (hl y) (k.mono s) e3 fun own' σ' k' f _ _ => ⟨_, own', k', (Fr.of s).trans f, q⟩⟩) (h own σ H k p))

/-! ### errors -/
structure ExcT (K : PySem.W.Frag) (mg : Str → Option Value) (x : Str) (C : Addr) : Prop where
  gC : mg x = some (.ref C)
  q : PySem.W.excIn K C [.type "ValueError", .type "Exception", .type "BaseException", .type "object"] "ValueError.__new__" = true
  kC : PySem.W.keepIn K (.ref C) = true
  sB : PySem.W.subIn K (.ref C) (.type "BaseException") = some true
  tC : PySem.W.typeIn K (.ref C) = some (.type "type")
theorem s_raise {cn : Nat} (T : ExcT F.X.K F.X.mg x (F.cls cn)) (h : KE F env e P.ex fun _ : Str => P.ex env cn) (hc : F.X.calm = true := by rfl) (hg : Gl F.X x := by rfl) (z : Ns F e [] := by rfl) (hdb : (x == ("__debug__" : Str)) = false := by decide) :
    KS F env (.Raise (some (.Call (.Name x p0) [e] [] p1)) none pos) P := fun own σ H k p => by
  obtain ⟨_, W, tk, hw⟩ := id p
  refine tS_of (ps_raise hc tk (SkE.pmk_own1 PySem.F.excBase_ValueError T.q T.gC T.kC (raises_own T.sB T.tC) hg peE z hdb)) ?_
  exact tE_mono (fun v H' ⟨y, s, r, q⟩ => hw env own cn σ H' (k.mono s) (Fr.of s) q) (h own σ H k p)
end
end Rk

set_option maxHeartbeats 4000000
namespace Rk
open PySem L2 PyProof.Rows
section
variable {F : Fx} {env : List Ent} {a b c e it : Expr} {es : List Expr} {pos p0 p1 : Pos} {n x : Str} {P : Po} {st : Stmt} {sts ss body : List Stmt}

/-! ### targets of a loop -/
/-- a kind of target: how it changes what is known, for each datum of a type -/
structure Tg (F : Fx) (tg : Expr) (α : Type) [Rp α] (g : TG) (is : List Nat) (f : α → List Ent → List Ent) : Prop where
  pg : PG F.X tg g
  sem : ∀ (x : α) (Q : L2.St → Hp → Prop) (env : List Ent) (own : Nat → Option Addr) (σ : L2.St) (H : Hp) (v : V), F.Kn own env σ H → Rp.rep F.G (Hid (hd F.hs own) H) v x →
    (∀ own' σ', F.Kn own' (f x env) σ' H → Fr F.hs own own' H H → Wp is σ σ' → Kp is own own' → Q σ' H) → g v σ H Q
theorem g_name {α : Type} [Rp α] (j : Nat) (nd : F.X.N.Nodup) (hi : F.X.N[j]? = some x) (hx : Loc F.X.env.scope x := by first | exact Or.inl rfl | exact Or.inr rfl) (hf : F.X.fn x = true ∨ F.X.env.scope.names.lookup x = some .local := by first | exact Or.inl rfl | exact Or.inr rfl) :
    Tg F (.Name x pos) α (gName j) [j] fun y env => env.set j (.sh (dv y)) := ⟨pg_name nd hi hx hf, fun y Q env own σ H v k r q => q _ _ (k.set (i := j) (d := dv y) r) (Fr.drop j) Wp.one Kp.one⟩
theorem g_tup {α : Type} {ds : α → List DV} (is : List Nat) {kx : Nat} (hg : PGs F.X es (gNs is)) (hl : ∀ y, is.length = (ds y).length) (hc : F.X.calm = true := by rfl) (hn : (assignEach es F.X.env).length = is.length := by rfl) (hst : (assignEach es F.X.env).findIdx? (·.1) = none := by rfl) :
    @Tg F (.Tuple es kx pos) α (tpRp ds) (gTup F.X.K is.length (gNs is)) is fun y env => setAll env is (ds y) := by
  refine @Tg.mk F _ α (tpRp ds) _ _ _ (pg_tup hc hg hn hst) fun y Q env own σ H v k r q => ?_
  obtain ⟨l, vs, e1, e2, e3⟩ := r
  exact ⟨l, vs, e1, SqT.of (hid_of e2), by rw [e3.len, ← hl y], unpack is _ vs env own σ H (hl y) k e3 q⟩

/-! ### loops over data -/
/-- the ends of a turn -/
abbrev turn (P : Po) (nx : List Ent → Prop) : Po := { nx := nx, ct := nx, bk := P.nx, rt := P.rt, ex := P.ex }
theorem b_turn {own own' : Nat → Option Addr} {H H' H2 : Hp} {σ : L2.St} {nx : List Ent → Prop} {D : Ends} (f : Fr F.hs own own' H H') (hn : D.nx = At F own H nx) (hc : D.ct = At F own H nx) (hb : D.bk = At F own H P.nx) (hr : D.rt = Rt F P.rt)
    (h : tSs F.X body (ends F own' H' (turn P nx)) σ H2) : tSs F.X body D σ H2 :=
  tSs_mono (D := ends F own' H' (turn P nx)) (D' := D) (fun _ _ z => by rw [hn]; exact At.more f z) (fun _ _ z => by rw [hr]; exact z) (fun _ _ z => by rw [hb]; exact At.more f z) (fun _ _ z => by rw [hc]; exact At.more f z) h
theorem s_for {α : Type} [Rp α] {f : α → List Ent → List Ent} {g : TG} {is : List Nat} (tg : Tg F a α g is f) (h : KE F env it P.ex fun xs : List α => ∃ I : Nat → List Ent → Prop, I 0 env ∧ (∀ i y env', xs[i]? = some y → I i env' → KSs F (f y env') body (turn P (I (i + 1)))) ∧ ∀ env', I xs.length env' → P.nx env')
    (hc : F.X.calm = true := by rfl) (hs : ∀ x, foldedSetIterable it F.X.env x = pure x := by intro _; rfl) : KS F env (.For a it body [] pos) P := fun own σ H k p => by
  refine tS_of (ps_for p.1 hc (pi_list peE) tg.pg peSs hs) (tE_mono (fun v H1 ⟨xs, s, ⟨l, vs, e1, e2, e3⟩, I, h0, h1, h2⟩ => ?_) (h own σ H k p))
  have hlen : vs.length = xs.length := by rw [e3.len, dvs_len]
  refine ⟨l, e1, ⟨vs, SqL.of (hid_of e2)⟩, for_list (K := F.X.K) (a := l) (xs := vs) (fun i σ' H' => ∃ own', Fr F.hs own own' H1 H' ∧ ∃ env', F.Kn own' env' σ' H' ∧ I i env') ⟨own, Fr.refl, env, k.mono s, h0⟩ ?_ ?_ ?_⟩
  · rintro i σ' H' _ ⟨own', fr, _, _, _⟩
    exact SqL.of (hid_of (fr _ _ e2))
  · rintro i v' σ' H' hv ⟨own', fr, env', k', hI⟩
    obtain ⟨d, hd1, hd2⟩ := e3.get' hv
    rw [dvs_get] at hd1
    cases hx : xs[i]? with
    | none => rw [hx] at hd1; cases hd1
    | some y =>
      rw [hx] at hd1
      have ed : dv y = d := Option.some.inj hd1
      subst ed
      have base : Fr F.hs own own H H1 := Fr.of s
      refine tg.sem y _ env' own' σ' H' v' k' (DV.mono (d := dv y) fr hd2) fun own2 σ2 k2 f2 _ _ => ?_
      have tot : Fr F.hs own own2 H H' := (base.trans fr).trans f2
      refine tSs_mono (D := ends F own2 H' (turn P (I (i + 1)))) ?n (fun _ _ z => z) (fun _ _ z => At.more tot z) ?c (h1 i y env' hx hI own2 σ2 H' k2 (p.step tot))
      all_goals
        rintro σ3 H3 ⟨env3, own3, k3, f3, q3⟩
        exact ⟨own3, fr.trans (f2.trans f3), env3, k3, q3⟩
  · rintro σ' H' ⟨own', fr, env', k', hI⟩
    rw [hlen] at hI
    exact ⟨env', own', k', (Fr.of s).trans fr, h2 env' hI⟩

/-- a tuple of data of one type, as a loop walks it -/
structure Tl (α : Type) where
  xs : List α
instance {α : Type} [Rp α] : Rp (Tl α) := tpRp fun t => dvs t.xs
theorem s_forT {α : Type} [Rp α] {f : α → List Ent → List Ent} {g : TG} {is : List Nat} (tg : Tg F a α g is f) (h : KE F env it P.ex fun t : Tl α => ∃ I : Nat → List Ent → Prop, I 0 env ∧ (∀ i y env', t.xs[i]? = some y → I i env' → KSs F (f y env') body (turn P (I (i + 1)))) ∧ ∀ env', I t.xs.length env' → P.nx env')
    (hc : F.X.calm = true := by rfl) (hs : ∀ x, foldedSetIterable it F.X.env x = pure x := by intro _; rfl) : KS F env (.For a it body [] pos) P := fun own σ H k p => by
  refine tS_of (ps_for p.1 hc (pi_tup peE) tg.pg peSs hs) (tE_mono (fun v H1 ⟨⟨xs⟩, s, ⟨l, vs, e1, e2, e3⟩, I, h0, h1, h2⟩ => ?_) (h own σ H k p))
  have e3 : RepAll F.G (Hid (hd F.hs own) H1) vs (dvs xs) := e3
  have h1 : ∀ i y env', xs[i]? = some y → I i env' → KSs F (f y env') body (turn P (I (i + 1))) := h1
  have h2 : ∀ env', I xs.length env' → P.nx env' := h2
  have hlen : vs.length = xs.length := by rw [e3.len, dvs_len]
  refine ⟨l, e1, ⟨vs, SqT.of (hid_of e2)⟩, for_tup (K := F.X.K) (a := l) (xs := vs) (fun i σ' H' => ∃ own', Fr F.hs own own' H1 H' ∧ ∃ env', F.Kn own' env' σ' H' ∧ I i env') ⟨own, Fr.refl, env, k.mono s, h0⟩ ?_ ?_ ?_⟩
  · rintro i σ' H' _ ⟨own', fr, _, _, _⟩
    exact SqT.of (hid_of (fr _ _ e2))
  · rintro i v' σ' H' hv ⟨own', fr, env', k', hI⟩
    obtain ⟨d, hd1, hd2⟩ := e3.get' hv
    rw [dvs_get] at hd1
    cases hx : xs[i]? with
    | none => rw [hx] at hd1; cases hd1
    | some y =>
      rw [hx] at hd1
      have ed : dv y = d := Option.some.inj hd1
      subst ed
      have base : Fr F.hs own own H H1 := Fr.of s
      refine tg.sem y _ env' own' σ' H' v' k' (DV.mono (d := dv y) fr hd2) fun own2 σ2 k2 f2 _ _ => ?_
      have tot : Fr F.hs own own2 H H' := (base.trans fr).trans f2
      refine tSs_mono (D := ends F own2 H' (turn P (I (i + 1)))) ?n (fun _ _ z => z) (fun _ _ z => At.more tot z) ?c (h1 i y env' hx hI own2 σ2 H' k2 (p.step tot))
      all_goals
        rintro σ3 H3 ⟨env3, own3, k3, f3, q3⟩
        exact ⟨own3, fr.trans (f2.trans f3), env3, k3, q3⟩
  · rintro σ' H' ⟨own', fr, env', k', hI⟩
    rw [hlen] at hI
    exact ⟨env', own', k', (Fr.of s).trans fr, h2 env' hI⟩
/-- for name in range(lo, hi): what both forms share -/
theorem rng_core {is : List Nat} {f : Int → List Ent → List Ent} {g : TG} {own : Nat → Option Addr} {σ : L2.St} {H H1 : Hp} {lo : Int} {m : Nat} (hg : ∀ (x : Int) (Q : L2.St → Hp → Prop) (env : List Ent) (own : Nat → Option Addr) (σ : L2.St) (H : Hp) (v : V), F.Kn own env σ H → Rp.rep F.G (Hid (hd F.hs own) H) v x → (∀ own' σ', F.Kn own' (f x env) σ' H → Fr F.hs own own' H H → Wp is σ σ' → Kp is own own' → Q σ' H) → g v σ H Q)
    (s : Same H H1) (k : F.Kn own env σ H) (p : Port F own H P.ex) {I : Nat → List Ent → Prop} (h0 : I 0 env) (h1 : ∀ (i : Nat) env', i < m → I i env' → KSs F (f (lo + i) env') body (turn P (I (i + 1)))) (h2 : ∀ env', I m env' → P.nx env') :
    ∃ W : Nat → Nat → L2.St → Hp → Prop, (∃ m, W 0 m σ H1) ∧ ∀ i m' σ' H', W i m' σ' H' →
      ((Itr lo m).stop i H' ∧ (ends F own H P).nx σ' H') ∨ ((Itr lo m).go i H' ∧ ∃ N : L2.St → Hp → Prop, (∀ σ2 H2, N σ2 H2 → ∃ m2, m2 < m' ∧ W (i + 1) m2 σ2 H2) ∧ ∀ x H2, (Itr lo m).yld i H' x H2 → g x σ' H2 fun σ2 H3 => tSs F.X body { ends F own H P with nx := N, ct := N, bk := (ends F own H P).nx } σ2 H3) := by
  refine for_range (lo := lo) (n := m) (fun i σ' H' => ∃ own', Fr F.hs own own' H1 H' ∧ ∃ env', F.Kn own' env' σ' H' ∧ I i env') ⟨own, Fr.refl, env, k.mono s, h0⟩ ?_ ?_
  · rintro i σ' H' hi ⟨own', fr, env', k', hI⟩
    have base : Fr F.hs own own H H1 := Fr.of s
    refine hg (lo + i) _ env' own' σ' H' _ k' rfl fun own2 σ2 k2 f2 _ _ => ?_
    have tot : Fr F.hs own own2 H H' := (base.trans fr).trans f2
    refine tSs_mono (D := ends F own2 H' (turn P (I (i + 1)))) ?n (fun _ _ z => z) (fun _ _ z => At.more tot z) ?c (h1 i env' hi hI own2 σ2 H' k2 (p.step tot))
    all_goals
      rintro σ3 H3 ⟨env3, own3, k3, f3, q3⟩
      exact ⟨own3, fr.trans (f2.trans f3), env3, k3, q3⟩
  · rintro σ' H' ⟨own', fr, env', k', hI⟩
    exact ⟨env', own', k', (Fr.of s).trans fr, h2 env' hI⟩
theorem s_forR1 {f : Int → List Ent → List Ent} {g : TG} {is : List Nat} (tg : Tg F a Int g is f) (m : NoGl F.X.mg) (h : KE F env e P.ex fun hi : Int => hi < 2 ^ 40 ∧ -(2 ^ 40) < hi ∧ ∃ I : Nat → List Ent → Prop, I 0 env ∧ (∀ (i : Nat) env', (i : Int) < hi → I i env' → KSs F (f i env') body (turn P (I (i + 1)))) ∧ ∀ env', I hi.toNat env' → P.nx env')
    (hc : F.X.calm = true := by rfl) (hg : Gl F.X "range" := by rfl) (z : Ns F e [] := by rfl) (z1 : starEach [e] F.X.env = [(false, eval e F.X.env)] := by rfl) (hs : ∀ x, foldedSetIterable (.Call (.Name "range" p0) [e] [] p1) F.X.env x = pure x := by intro _; rfl) :
    KS F env (.For a (.Call (.Name "range" p0) [e] [] p1) body [] pos) P := fun own σ H k p => by
  refine tS_of (ps_for p.1 hc (pi_range1 hg (m _ (by simp)) (pa_cons peE pa_nil z) z1) tg.pg peSs hs) (tE_mono (fun v H1 ⟨hi, s, r, b1, b2, I, h0, h1, h2⟩ => ?_) (h own σ H k p))
  cases r
  refine ⟨hi, rfl, by omega, by omega, rng_core tg.sem s k p h0 (fun i env' hi' q => ?_) h2⟩
  have e0 : (0 : Int) + (i : Int) = (i : Int) := Int.zero_add _
  rw [e0]
  exact h1 i env' (by omega) q
theorem s_forR2 {f : Int → List Ent → List Ent} {g : TG} {is : List Nat} (tg : Tg F a Int g is f) (m : NoGl F.X.mg) (h : KE F env b P.ex fun lo : Int => KE F env e P.ex fun hi : Int => (hi < 2 ^ 40 ∧ -(2 ^ 40) < hi ∧ lo < 2 ^ 40 ∧ -(2 ^ 40) < lo) ∧ ∃ I : Nat → List Ent → Prop, I 0 env ∧ (∀ (i : Nat) env', lo + (i : Int) < hi → I i env' → KSs F (f (lo + i) env') body (turn P (I (i + 1)))) ∧ ∀ env', I (hi - lo).toNat env' → P.nx env')
    (hc : F.X.calm = true := by rfl) (hg : Gl F.X "range" := by rfl) (z : Ns F b [e] := by rfl) (z' : Ns F e [] := by rfl) (z1 : starEach [b, e] F.X.env = [(false, eval b F.X.env), (false, eval e F.X.env)] := by rfl) (z2 : starEach [e] F.X.env = [(false, eval e F.X.env)] := by rfl)
    (hs : ∀ x, foldedSetIterable (.Call (.Name "range" p0) [b, e] [] p1) F.X.env x = pure x := by intro _; rfl) :
    KS F env (.For a (.Call (.Name "range" p0) [b, e] [] p1) body [] pos) P := fun own σ H k p => by
  refine tS_of (ps_for p.1 hc (pi_range2 hg (m _ (by simp)) (pa_cons peE (pa_cons peE pa_nil z') z) z1 z2) tg.pg peSs hs) (two k p h fun u v lo hi H1 s r1 r2 ⟨⟨b1, b2, b3, b4⟩, I, h0, h1, h2⟩ => ?_)
  cases r1; cases r2
  exact ⟨lo, hi, rfl, ⟨by omega, by omega, by omega, by omega⟩, rng_core tg.sem s k p h0 (fun i env' hi' q => h1 i env' (by omega) q) h2⟩
/-- while c: body, by a number that falls -/
theorem s_while (I : Nat → List Ent → Prop) (m0 : Nat) (h0 : I m0 env) (h : ∀ m env', I m env' → KT F env' c P.ex fun b => if b = true then KSs F env' body (turn P fun env2 => ∃ m', m' < m ∧ I m' env2) else P.nx env') : KS F env (.While c body [] pos) P := fun own σ H k p => by
  refine tS_of (ps_while p.1 peT peSs) ⟨fun m σ' H' => ∃ own', Fr F.hs own own' H H' ∧ ∃ env', F.Kn own' env' σ' H' ∧ I m env', ⟨m0, own, Fr.refl, env, k, h0⟩, ?_⟩
  rintro m σ' H' ⟨own', fr, env', k', hI⟩
  refine tT_mono (fun b H2 ⟨s, q⟩ => ?_) (h m env' hI own' σ' H' k' (p.step fr))
  have f2 : Fr F.hs own own' H H2 := fr.trans (Fr.of s)
  cases b with
  | true =>
    rw [if_pos rfl]
    rw [if_pos rfl] at q
    refine ⟨At F own' H2 fun env2 => ∃ m', m' < m ∧ I m' env2, ?_, ?_⟩
    · rintro σ3 H3 ⟨env3, own3, k3, f3, m', hm, q3⟩
      exact ⟨m', hm, own3, f2.trans f3, env3, k3, q3⟩
    · exact tSs_mono (D := ends F own' H2 (turn P fun env2 => ∃ m', m' < m ∧ I m' env2)) (fun _ _ z => z) (fun _ _ z => z) (fun _ _ z => At.more f2 z) (fun _ _ z => z) (q own' σ' H2 (k'.mono s) (p.step f2))
  | false =>
    rw [if_neg Bool.false_ne_true]
    rw [if_neg Bool.false_ne_true] at q
    exact ⟨env', own', k'.mono s, f2, q⟩

/-! ### a def keeps its promise -/
def fx (P : Program) (w : World) (K : PySem.W.Frag) (mg : Str → Option Value) (base : Heap) (cls : Nat → Addr) (N : List Str) (qual : Str) (sc : Scope) (f : Addr) (cd : Value) (A : Around) (outer : List Env) (s : Shared) (H : Hp) (E : XK) (hs : Addr → Prop) : Fx :=
  ⟨cxOf (L2.CX P w) P w K mg base N qual sc f cd A outer s H E, cls, hs, H⟩
def env0 (ds : List DV) (n : Nat) : List Ent := ds.map .sh ++ List.replicate (n - ds.length) .no
theorem kn_start {G : Gm} {hs : Addr → Prop} {H : Hp} {vs : List V} {ds : List DV} {N : List Str} (hh : ∀ x, hs x → H x ≠ none) (r : RepAll G (Hid hs H) vs ds) : Kn G hs H (fun _ => none) (env0 ds N.length) (L2.start N vs) H where
  ex := Same.refl _
  hsB := hh
  dis := fun _ _ h => nomatch h
  len := by
    unfold L2.start env0
    rw [List.length_append, List.length_append, List.length_map, List.length_map, List.length_replicate, List.length_replicate, r.len]
  inj := fun _ _ _ h => nomatch h
  new := fun _ _ h => nomatch h
  out := fun _ _ h => nomatch h
  ent := fun i e h => by
    have eh : hd hs (fun _ => (none : Option Addr)) = hs := by
      funext a
      apply propext
      constructor
      · rintro (z | ⟨_, z⟩)
        · exact z
        · cases z
      · exact .inl
    unfold env0 at h
    by_cases hi : i < ds.length
    · rw [List.getElem?_append_left (by rw [List.length_map]; exact hi), List.getElem?_map, List.getElem?_eq_getElem hi] at h
      have e1 : Ent.sh ds[i] = e := Option.some.inj h
      subst e1
      obtain ⟨v, h1, h2⟩ := r.get (List.getElem?_eq_getElem hi)
      refine ⟨v, ?_, by rw [eh]; exact h2⟩
      unfold L2.start
      have hv : i < vs.length := (List.getElem?_eq_some_iff.mp h1).1
      rw [List.getElem?_append_left (by rw [List.length_map]; exact hv), List.getElem?_map, h1]
      rfl
    · rw [List.getElem?_append_right (by rw [List.length_map]; omega), List.getElem?_replicate] at h
      split at h
      · cases h; trivial
      · cases h
/-- the promise at a body's end -/
def bodyPo (r : Rz) : Po := { nx := fun _ => r = .ok (dv ()), rt := fun d => r = .ok d, ex := fun _ C => r = .err C }
section
variable {PP : Program} {w : World} {K : PySem.W.Frag} {mg : Str → Option Value} {base : Heap} {cls : Nat → Addr}
theorem fn_ok {name qual : Str} {st : Stmt} {f : Addr} {fd : FuncData} {N ps : List Str} {k : Nat} {S : Pm} (Fn : Fun K name qual st f fd) (sc : FnScope N ps (defScope st)) (len : ∀ ds r, S ds r → ds.length = ps.length)
    (hb : ∀ (cd : Value) (A : Around) (outer : List Env) (s : Shared) (H : Hp) (E : XK) (hs : Addr → Prop) (ds : List DV) (r : Rz), Room k (A.deeper (envOfC qual (defScope st) s.heap.objs.size f cd)) → S ds r →
      KSs (fx PP w K mg base cls N qual (defScope st) f cd A outer s H E hs) (env0 ds N.length) (defBody st) (bodyPo r)) : FnOk PP w K mg base (L2.CX PP w) (k + 1) f fd ps (spOf K cls S) := by
  refine Fn.okX sc (fun vs H Q E ⟨hs, ds, r, _, rv, hS, _⟩ => by rw [rv.len]; exact len ds r hS) (fun cd A outer s H vs Q E hr ⟨hs, ds, r, hh, rv, hS, q⟩ => ⟨_, peSs, ?_⟩)
  have kn := kn_start (N := N) hh rv
  have pt : Port (fx PP w K mg base cls N qual (defScope st) f cd A outer s H E hs) (fun _ => none) H (bodyPo r).ex := by
    refine ⟨passes_of rfl, _, takes_of (E := E) rfl rfl rfl rfl, fun env own' C σ H' k' fr e => ?_⟩
    have e : r = .err C := e
    subst e
    exact q H' k'.ex
  refine tSs_mono (D := ends (fx PP w K mg base cls N qual (defScope st) f cd A outer s H E hs) (fun _ => none) H (bodyPo r)) ?_ ?_ ?_ ?_ (hb cd A outer s H E hs ds r hr hS _ _ H kn pt)
  · rintro σ' H' ⟨env', own', k', fr, e⟩
    have e : r = .ok (dv ()) := e
    subst e
    exact q .non H' k'.ex rfl
  · rintro v H' ⟨d, sm, rd, e⟩
    have e : r = .ok d := e
    subst e
    exact q v H' sm rd
  · rintro σ' H' ⟨env', own', k', fr, e⟩
    exact e.elim
  · rintro σ' H' ⟨env', own', k', fr, e⟩
    exact e.elim
end
end
end Rk

set_option maxHeartbeats 4000000
namespace Rk
open PySem L2 PyProof.Rows
/-- an attribute stored -/
def putD (f : Str) (d : DV) : List (Str × DV) → List (Str × DV)
  | [] => [(f, d)]
  | (n, x) :: r => if n = f then (n, d) :: r else (n, x) :: putD f d r
theorem putD_le (f : Str) (d : DV) : ∀ fs : List (Str × DV), (putD f d fs).length ≤ fs.length + 1
  | [] => Nat.le_refl _
  | (n, x) :: r => by
    unfold putD
    split
    · exact Nat.le_succ _
    · exact Nat.succ_le_succ (putD_le f d r)
theorem RepF.put {G : Gm} {H : Hp} {f : Str} {v : V} {d : DV} (r : d.rep G H v) : ∀ {kvs : List (Str × V)} {fs : List (Str × DV)}, RepF G H kvs fs → RepF G H (putF f v kvs) (putD f d fs)
  | [], [], _ => ⟨rfl, r, trivial⟩
  | (m, w) :: kvs, (n, x) :: fs, h => by
    obtain ⟨rfl, h1, h2⟩ := h
    show RepF G H (if m = f then (m, v) :: kvs else (m, w) :: putF f v kvs) (if m = f then (m, d) :: fs else (m, x) :: putD f d fs)
    by_cases e : m = f
    · rw [if_pos e, if_pos e]; exact ⟨rfl, r, h2⟩
    · rw [if_neg e, if_neg e]; exact ⟨rfl, h1, RepF.put r h2⟩
theorem RepF.len {G : Gm} {H : Hp} : ∀ {kvs : List (Str × V)} {fs : List (Str × DV)}, RepF G H kvs fs → kvs.length = fs.length
  | [], [], _ => rfl
  | (_, _) :: _, (_, _) :: _, h => congrArg (· + 1) (RepF.len h.2.2)
section
variable {F : Fx} {env : List Ent} {a b c e it : Expr} {es : List Expr} {pos p0 p1 : Pos} {n x : Str} {P : Po} {st : Stmt} {sts ss body : List Stmt}
/-- self.f = e, self the instance that is being made -/
theorem s_setF {α : Type} [Rp α] {q : Addr} {num : Nat} {f : Str} {p2 p3 : Pos} {fs : List (Str × DV)} (i : Nat) (hN : F.X.N[i]? = some x) (he : env[i]? = some (.ow (oobj q num fs))) (hl : fs.length < 1000) (cl : Cls F.X.K (F.cls num)) (hn : NoAttr F.X.K (F.cls num) f)
    (h : KE F env e P.ex fun y : α => ∀ g, g = putD f (dv y) fs → P.nx (env.set i (.ow (oobj q num g)))) (hv : Vis F.X.env.scope x := by first | exact Or.inl rfl | exact Or.inr (Or.inl rfl) | exact Or.inr (Or.inr rfl)) (hdb : (x == ("__debug__" : Str)) = false := by decide) (hcd : (x == ("__classdict__" : Str)) = false := by decide)
    (hs : swapsWith e (some (.Attribute (.Name x p2) f p3)) pos.line F.X.env = pure false := by rfl) : KS F env (.Assign [.Attribute (.Name x p2) f p3] e pos) P := fun own σ H k p => by
  have hi : i < env.length := (List.getElem?_eq_some_iff.mp he).1
  obtain ⟨l, ho, h0, h1, h2, h3⟩ := (show EntOk F.G F.hs own σ H i (.ow (oobj q num fs)) from k.ent i _ he)
  obtain ⟨rfl, dx, kvs, e3, r3⟩ := h3
  subst e3
  refine tS_of (ps_fld (pe_var hN hv hdb hcd) peE hs) (tE_mono (fun v H' ⟨y, s, r, z⟩ => ?_) (h own σ H k p))
  refine ⟨.ref l, h1, l, F.cls num, dx, kvs, rfl, s _ _ h2, cl, hn, by rw [r3.len]; exact hl, ?_⟩
  exact ⟨_, _, (k.mono s).chg (i := i) (o := oobj l num (putD f (dv y) fs)) hi h0 ⟨rfl, dx, _, rfl, RepF.put (d := dv y) r (r3.mono (hid_same s))⟩, (Fr.of s).trans (Fr.chg h0), z _ rfl⟩
/-- xs[i] = e, xs a list that the def alone holds -/
theorem s_setIx {α : Type} [Rp α] {p2 p3 : Pos} (i : Nat) {xs : List α} (hN : F.X.N[i]? = some x) (he : env[i]? = some (.ow (olist xs))) (h : KE F env e P.ex fun y : α => KE F env b P.ex fun j : Int => (0 ≤ j ∧ j.toNat < xs.length) ∧ ∀ zs, zs = xs.set j.toNat y → P.nx (env.set i (.ow (olist zs))))
    (hv : Vis F.X.env.scope x := by first | exact Or.inl rfl | exact Or.inr (Or.inl rfl) | exact Or.inr (Or.inr rfl)) (hdb : (x == ("__debug__" : Str)) = false := by decide) (hcd : (x == ("__classdict__" : Str)) = false := by decide)
    (ha : ∀ v, assign (.Subscript (.Name x p2) b p3) F.X.env v = (do
      let recv ← holding [v] (eval (.Name x p2) F.X.env)
      let ix ← holding [v, recv] (eval b F.X.env)
      standAt p3
      holding [v, recv, ix] (setItem recv ix v)
      release [v, recv, ix] []) := by intro _; rfl)
    (hs : swapsWithSole [.Subscript (.Name x p2) b p3] e pos.line F.X.env = pure false := by rfl) (hw : swappedStores [.Subscript (.Name x p2) b p3] e F.X.env = pure none := by rfl)
    (h1 : (assignEach [.Subscript (.Name x p2) b p3] F.X.env).map (·.2) = [assign (.Subscript (.Name x p2) b p3) F.X.env] := by rfl) : KS F env (.Assign [.Subscript (.Name x p2) b p3] e pos) P := fun own σ H k p => by
  have hi : i < env.length := (List.getElem?_eq_some_iff.mp he).1
  obtain ⟨l, ho, h0, g1, h2, vs, e3, r3⟩ := (show EntOk F.G F.hs own σ H i (.ow (olist xs)) from k.ent i _ he)
  subst e3
  refine tS_of (ps_asg peE (pg_sub (pe_var hN hv hdb hcd) peE set_list ha) hs hw h1) (tE_mono (fun v H' ⟨y, s, r, z⟩ => ?_) (h own σ H k p))
  refine ⟨.ref l, g1, tE_mono (fun u H2 ⟨j, s2, rj, hj, z2⟩ => ?_) (z own σ H' (k.mono s) (p.mono s))⟩
  cases rj
  have st : Same H H2 := s.trans s2
  have hlen : vs.length = xs.length := by rw [r3.len, dvs_len]
  have hj0 := hj.1
  have hj1 := hj.2
  refine ⟨l, vs, j, j.toNat, rfl, rfl, st _ _ h2, ?_, ?_⟩
  · unfold ixN
    rw [if_pos hj0, if_pos (by omega)]
  · refine ⟨_, _, (k.mono st).chg (i := i) (o := olist (xs.set j.toNat y)) hi h0 ⟨_, rfl, ?_⟩, (Fr.of st).trans (Fr.chg h0), z2 _ rfl⟩
    unfold dvs
    rw [List.map_set]
    exact RepAll.set (d := dv y) (DV.mono (d := dv y) (hid_same s2) r) _ (r3.mono (hid_same st))

/-! ### instances made -/
inductive Ri : Type 1 where
  | ok (fs : List (Str × DV))
  | err (c : Nat)
def spInit (K : PySem.W.Frag) (cls : Nat → Addr) (num : Nat) (S : List DV → Ri → Prop) : Sp := fun vs H Q E => ∃ (hs : Addr → Prop) (p dx : Addr) (ws : List V) (ds : List DV) (r : Ri), vs = .ref p :: ws ∧ H p = some (.ins (cls num) dx []) ∧ (∀ x, hs x → H x ≠ none) ∧ ¬ hs p ∧
  RepAll ⟨K, cls⟩ (Hid (fun x => hs x ∨ x = p) H) ws ds ∧ S ds r ∧
  match r with
  | .ok fs => ∀ kvs dx' H', Same (Hid (fun x => x = p) H) H' → H' p = some (.ins (cls num) dx' kvs) → RepF ⟨K, cls⟩ (Hid (fun x => hs x ∨ x = p) H') kvs fs → Q .non H'
  | .err c => ∀ H', Same (Hid (fun x => x = p) H) H' → E (.ref (cls c)) none H'
section
variable {kk : Nat} {f : Addr} {fd : FuncData} {ps : List Str} {S : List DV → Ri → Prop}
theorem run_makeS {X : Cx} {C : Addr} {sp : Sp} {CT : CXT} {E : L2.St → XK} {pins : List (Addr × Obj)} {σ : L2.St} {H : Hp} {s : Shared} {Q : VK} {us : List Value} {vs : List V} (M : Mk X.K C f) (G : FnOk X.prog X.w X.K X.mg X.base CT kk f fd ps sp) (hr : Room (kk + 1) X.A) (hb : Binds X.K fd ps [])
    (hx : PassesAt CT X σ (E σ)) (I : Inv X pins σ H s) (r : Vals vs us)
    (h : ∀ y dy, H y = none → H dy = none → dy ≠ y → sp (.ref y :: vs) (upd (upd H dy (.own y)) y (.ins C dy [])) (fun v H2 => v = .non ∧ Q (.ref y) H2) (E σ)) :
    wpAny (model X.prog X.w) X.A (call (.ref C) us) (EP X pins σ Q) X.xe s := by
  have hq := h (s.heap.objs.size + 1) s.heap.objs.size (I.hok.fresh (Nat.le_succ _)) (I.hok.fresh (Nat.le_refl _)) (Nat.ne_of_lt (Nat.lt_succ_self _))
  have J := Inv.made (C := C) I
  have rr : Vals (V.ref (s.heap.objs.size + 1) :: vs) (Value.ref (s.heap.objs.size + 1) :: us) := .cons rfl r
  have hlen : (Value.ref (s.heap.objs.size + 1) :: us).length = ps.length := by
    have e1 := rr.length
    rw [G.len _ _ _ _ hq] at e1
    exact e1.symm
  have bb := hb _ (Value.ref (s.heap.objs.size + 1) :: us) J.kIn (by rw [List.append_nil]; exact hlen)
  rw [List.append_nil] at bb
  refine wpAny_call (make_map (f := f) I.kIn M.makes M.init (beq_iff_eq.mp M.fn) (codeAny_mono (G.run _ X.stack _ _ ⟨Value.ref (s.heap.objs.size + 1) :: us, []⟩ (Value.ref (s.heap.objs.size + 1) :: us) _ _ (E σ) (hr.make C us [])
    (J.env0.make C us []) bb rr hq) fun res s' hres => ?_))
  cases res with
  | error er => exact hx pins _ _ er s' J hres
  | ok fl =>
    cases fl with
    | ret u =>
      obtain ⟨v, H', J3, rv, ev, q3⟩ := J.after hres
      subst ev
      exact ⟨rv, ⟨V.ref (s.heap.objs.size + 1), H', J3, rfl, q3⟩⟩
    | next => exact hres.elim
    | brk => exact hres.elim
    | cont => exact hres.elim
def GotI {α : Type} (fs : α → List (Str × DV)) (env : List Ent) (ex : XP) (Q : α → Prop) : Ri → Prop
  | .ok g => ∃ y : α, g = fs y ∧ Q y
  | .err c => ex env c
theorem k_make {α : Type} {num : Nat} {fs : α → List (Str × DV)} {ex : XP} {Q : α → Prop} (M : Mk F.X.K (F.cls num) f) (G : FnOk F.X.prog F.X.w F.X.K F.X.mg F.X.base (L2.CX F.X.prog F.X.w) kk f fd ps (spInit F.X.K F.cls num S)) (hr : Room (kk + 1) F.X.A) (hm : F.X.mg n = some (.ref (F.cls num))) (hb : Binds F.X.K fd ps [])
    (h : KA F env (e :: es) ex fun ds => ∃ r, S ds r ∧ GotI fs env ex Q r) (hg : Gl F.X n := by rfl) (hdb : (n == ("__debug__" : Str)) = false := by decide)
    (hz : starEach (e :: es) F.X.env = (false, eval e F.X.env) :: starEach es F.X.env := by rfl) (hpl : (backTo pos (starEach es F.X.env)).any (·.1) = false := by rfl) : @KE F env (.Call (.Name n p0) (e :: es) [] pos) ex α (obRp num fs) Q := fun own σ H k p pins s I => by
  obtain ⟨pa, W, tk, hw⟩ := id p
  refine wpAny_Call_Name_kw (ld_glob I hg hm ?_ hdb)
  refine PySem.W.callWith_K (h₀ := F.X.base) I.ok.mod.kin M.kp (thn (h own σ H k p pos pins s I) fun vals s1 ⟨vs, H1, J, rv, ds, sm, rr, r, hS, q⟩ => ⟨J.kIn, ?_⟩) hz hpl
  refine run_makeS (E := WE W) M G hr hb (passAt tk σ) J rv fun y dy ny ndy ne => ?_
  have kn := k.mono sm
  have fy : ¬ hd F.hs own y := kn.fresh (Same.refl _) ny
  have s1' : Same H1 (upd (upd H1 dy (.own y)) y (.ins (F.cls num) dy [])) := fun b o eb => by
    rw [upd_ne (ne_of_none eb ny), upd_ne (ne_of_none eb ndy)]; exact eb
  have hidy : Same H1 (Hid (fun x => x = y) (upd (upd H1 dy (.own y)) y (.ins (F.cls num) dy []))) := fun b o eb => by
    have hb' : b ≠ y := ne_of_none eb ny
    rw [hid_at (hs := fun x => x = y) hb']; exact s1' b o eb
  refine ⟨hd F.hs own, y, dy, vs, ds, r, rfl, upd_same, fun x hx => stays s1' (Kn.hidden kn x hx), fy, rr.mono fun b o eb => ?_, hS, ?_⟩
  · have h1 := hid_of eb
    have hb' : b ≠ y := ne_of_none h1 ny
    have nh : ¬ hd F.hs own b := fun z => by unfold Hid at eb; rw [if_pos z] at eb; cases eb
    rw [hid_at fun z => z.elim nh hb']
    exact s1' b o h1
  · cases r with
    | ok g =>
      obtain ⟨o, eo, q⟩ := q
      subst eo
      intro kvs dx' H' s' hy rf
      refine ⟨rfl, o, sm.trans (hidy.trans s'), ⟨y, dx', kvs, rfl, ?_, rf.mono (hid_more fun x z => .inl z)⟩, q⟩
      rw [hid_at fy]; exact hy
    | err cc => exact fun H' s' => hw env own cc σ H' (kn.mono (hidy.trans s')) (Fr.of (sm.trans (hidy.trans s'))) q
end
section
variable {PP : Program} {w : World} {K : PySem.W.Frag} {mg : Str → Option Value} {base : Heap} {cls : Nat → Addr}
def envI (p : Addr) (num : Nat) (ds : List DV) (n : Nat) : List Ent := .ow (oobj p num []) :: env0 ds n
def initPo (p : Addr) (num : Nat) (r : Ri) : Po := { nx := fun env => ∃ fs, env[0]? = some (.ow (oobj p num fs)) ∧ r = .ok fs, rt := fun _ => False, ex := fun _ C => r = .err C }
/-- an __init__ keeps its promise; N: self, then the other names -/
theorem init_ok {qual : Str} {st : Stmt} {f : Addr} {fd : FuncData} {s0 : Str} {N ps : List Str} {k num : Nat} {S : List DV → Ri → Prop} (Fn : Fun K "__init__" qual st f fd) (sc : FnScope (s0 :: N) (s0 :: ps) (defScope st)) (len : ∀ ds r, S ds r → ds.length = ps.length)
    (hb : ∀ (cd : Value) (A : Around) (outer : List Env) (s : Shared) (H B : Hp) (E : XK) (hs : Addr → Prop) (p : Addr) (ds : List DV) (r : Ri), Room k (A.deeper (envOfC qual (defScope st) s.heap.objs.size f cd)) → S ds r →
      KSs ⟨cxOf (L2.CX PP w) PP w K mg base (s0 :: N) qual (defScope st) f cd A outer s H E, cls, hs, B⟩ (envI p num ds N.length) (defBody st) (initPo p num r)) : FnOk PP w K mg base (L2.CX PP w) (k + 1) f fd (s0 :: ps) (spInit K cls num S) := by
  refine Fn.okX sc (fun vs H Q E ⟨hs, p, dx, ws, ds, r, ev, _, _, _, rv, hS, _⟩ => by rw [ev, List.length_cons, rv.len, len ds r hS, List.length_cons]) (fun cd A outer s H vs Q E hr ⟨hs, p, dx, ws, ds, r, ev, hp, hh, np, rv, hS, q⟩ => ⟨_, peSs, ?_⟩)
  subst ev
  have hB : Same (Hid (fun x => x = p) H) H := hid_le
  have kn : Kn ⟨K, cls⟩ hs (Hid (fun x => x = p) H) (fun i => if i = 0 then some p else none) (envI p num ds N.length) (L2.start (s0 :: N) (.ref p :: ws)) H := by
    have eh : hd hs (fun i => if i = 0 then some p else none) = fun x => hs x ∨ x = p := by
      funext x
      apply propext
      constructor
      · rintro (z | ⟨i, z⟩)
        · exact .inl z
        · dsimp only at z
          split at z
          · cases z; exact .inr rfl
          · cases z
      · rintro (z | z)
        · exact .inl z
        · exact .inr ⟨0, by show some p = some x; rw [z]⟩
    exact {
      ex := hB
      hsB := hh
      dis := fun i x h z => by
        split at h
        · cases h; exact np z
        · cases h
      len := by
        unfold L2.start envI env0
        simp only [List.length_append, List.length_map, List.length_cons, List.length_replicate, rv.len]
        omega
      inj := fun i j x h1 h2 => by
        split at h1
        · split at h2
          · omega
          · cases h2
        · cases h1
      new := fun i x h => by
        split at h
        · cases h
          refine ⟨?_, by rw [hp]; simp⟩
          unfold Hid; rw [if_pos rfl]
        · cases h
      out := fun i x h => by
        split at h
        · rename_i e0; subst e0; exact ⟨oobj p num [], rfl⟩
        · cases h
      ent := fun i e h => by
        cases i with
        | zero =>
          have e1 : Ent.ow (oobj p num []) = e := Option.some.inj h
          subst e1
          exact ⟨p, _, rfl, rfl, hp, rfl, dx, [], rfl, trivial⟩
        | succ i =>
          have h' : (env0 ds N.length)[i]? = some e := h
          unfold env0 at h'
          by_cases hi : i < ds.length
          · rw [List.getElem?_append_left (by rw [List.length_map]; exact hi), List.getElem?_map, List.getElem?_eq_getElem hi] at h'
            have e1 : Ent.sh ds[i] = e := Option.some.inj h'
            subst e1
            obtain ⟨v, h1, h2⟩ := rv.get (List.getElem?_eq_getElem hi)
            refine ⟨v, ?_, by rw [eh]; exact h2⟩
            have hv : i < ws.length := (List.getElem?_eq_some_iff.mp h1).1
            unfold L2.start
            show ((V.ref p :: ws).map some ++ _)[i + 1]? = _
            rw [List.getElem?_append_left (by rw [List.length_map, List.length_cons]; omega), List.getElem?_map, List.getElem?_cons_succ, h1]
            rfl
          · rw [List.getElem?_append_right (by rw [List.length_map]; omega), List.getElem?_replicate] at h'
            split at h'
            · cases h'; trivial
            · cases h' }
  have pt : Port ⟨cxOf (L2.CX PP w) PP w K mg base (s0 :: N) qual (defScope st) f cd A outer s H E, cls, hs, Hid (fun x => x = p) H⟩ (fun i => if i = 0 then some p else none) H (initPo p num r).ex := by
    refine ⟨passes_of rfl, _, takes_of (E := E) rfl rfl rfl rfl, fun env own' C σ H' k' fr e => ?_⟩
    have e : r = .err C := e
    subst e
    exact q H' k'.ex
  refine tSs_mono (D := ends ⟨cxOf (L2.CX PP w) PP w K mg base (s0 :: N) qual (defScope st) f cd A outer s H E, cls, hs, Hid (fun x => x = p) H⟩ (fun i => if i = 0 then some p else none) H (initPo p num r)) ?_ ?_ ?_ ?_ (hb cd A outer s H (Hid (fun x => x = p) H) E hs p ds r hr hS _ _ H kn pt)
  · rintro σ' H' ⟨env', own', k', fr, fs, he, e⟩
    subst e
    obtain ⟨p', ho, h0, h1, h2, rfl, dx', kvs, e3, r3⟩ := (show EntOk _ hs own' σ' H' 0 (.ow (oobj p num fs)) from k'.ent 0 _ he)
    subst e3
    refine q kvs dx' H' k'.ex h2 (r3.mono (hid_more fun x z => ?_))
    rcases z with z | z
    · exact .inl z
    · exact .inr ⟨0, by rw [z]; exact h0⟩
  · rintro v H' ⟨d, sm, rd, e⟩
    exact e.elim
  · rintro σ' H' ⟨env', own', k', fr, e⟩
    exact e.elim
  · rintro σ' H' ⟨env', own', k', fr, e⟩
    exact e.elim
end
end
end Rk

set_option maxHeartbeats 4000000
namespace Rk
open PySem L2 PyProof.Rows
section
variable {F : Fx} {env : List Ent} {ex : XP} {a b c e it : Expr} {es : List Expr} {pos p0 p1 : Pos} {n x : Str} {P : Po} {st : Stmt} {sts ss body : List Stmt}

/-! ### one datum as another -/
/-- what bears x bears y too -/
def Cv {α β : Type} [Rp α] [Rp β] (x : α) (y : β) : Prop := ∀ G H v, Rp.rep G H v x → Rp.rep G H v y
theorem k_cv {α β : Type} [Rp α] [Rp β] {Q : β → Prop} (h : KE F env e ex fun x : α => ∃ y : β, Cv x y ∧ Q y) : KE F env e ex Q := fun own σ H k p =>
  tE_mono (fun v H' ⟨x, s, r, y, c, q⟩ => ⟨y, s, c _ _ _ r, q⟩) (h own σ H k p)
theorem k_toV {α : Type} [Sc α] {Q : V → Prop} (h : @KE F env e ex α (scRp α) fun x => Q (Sc.v x)) : KE F env e ex Q := fun own σ H k p =>
  tE_mono (fun v H' ⟨x, s, r, q⟩ => ⟨Sc.v x, s, r, q⟩) (h own σ H k p)
/-- a tuple of scalars of any kinds -/
structure Tv where
  vs : List V
  deriving DecidableEq
instance : Rp Tv := tpRp fun t => dvs t.vs
theorem reps_vs {G : Gm} {H : Hp} : ∀ {ws vs : List V}, RepAll G H ws (dvs vs) → ws = vs
  | [], [], _ => rfl
  | w :: ws, v :: vs, h => by
    have e : w = v := h.1
    rw [e, reps_vs (ws := ws) (vs := vs) h.2]
theorem reps_to {α β : Type} [Rp α] [Rp β] {f : α → β} (hf : ∀ x, Cv x (f x)) {G : Gm} {H : Hp} : ∀ {vs : List V} {xs : List α}, RepAll G H vs (dvs xs) → RepAll G H vs (dvs (xs.map f))
  | [], [], _ => trivial
  | _ :: _, x :: _, h => ⟨hf x _ _ _ h.1, reps_to hf h.2⟩
theorem reps_from {α β : Type} [Rp α] [Rp β] {f : β → α} (hf : ∀ y, Cv (f y) y) {G : Gm} {H : Hp} : ∀ {vs : List V} {ys : List β}, RepAll G H vs (dvs (ys.map f)) → RepAll G H vs (dvs ys)
  | [], [], _ => trivial
  | _ :: _, y :: _, h => ⟨hf y _ _ _ h.1, reps_from hf h.2⟩
theorem cv_list {α β : Type} [Rp α] [Rp β] {f : α → β} (hf : ∀ x, Cv x (f x)) (xs : List α) : Cv xs (xs.map f) := fun G H v ⟨p, vs, e1, e2, e3⟩ => ⟨p, vs, e1, e2, reps_to hf e3⟩
theorem cv_list' {α β : Type} [Rp α] [Rp β] {f : β → α} (hf : ∀ y, Cv (f y) y) (ys : List β) : Cv (ys.map f) ys := fun G H v ⟨p, vs, e1, e2, e3⟩ => ⟨p, vs, e1, e2, reps_from hf e3⟩

/-! ### == of data -/
class Dt (α : Type) [Rp α] where
  d : α → PyData
  dp : Nat
  rp : ∀ {G : Gm} {H : Hp} {v : V} {x : α}, Rp.rep G H v x → Dp G.K H v (d x)
  lay : ∀ x, (d x).canLay0 = true
  deep : ∀ x, (d x).depth ≤ dp
  inj : ∀ x y, PyData.eqv (d x) (d y) = true ↔ x = y
theorem Dt.eq {α : Type} [Rp α] [Dt α] [DecidableEq α] (x y : α) : PyData.eqv (Dt.d x) (Dt.d y) = decide (x = y) := by
  by_cases h : x = y
  · rw [decide_eq_true h, (Dt.inj x y).mpr h]
  · rw [decide_eq_false h]
    cases z : PyData.eqv (Dt.d x) (Dt.d y) with
    | false => rfl
    | true => exact absurd ((Dt.inj x y).mp z) h
instance : Dt Int := ⟨fun x => .int x, 0, fun {G H v x} r => by cases r; exact .int x, fun _ => rfl, fun _ => Nat.le_refl _, fun x y => by show (x == y) = true ↔ _; simp⟩
instance : Dt Bool := ⟨fun x => .bool x, 0, fun {G H v x} r => by cases r; exact .bl x, fun _ => rfl, fun _ => Nat.le_refl _, fun x y => by show (x == y) = true ↔ _; simp⟩
def oiD : Option Int → PyData
  | none => .none
  | some i => .int i
instance : Dt (Option Int) := ⟨oiD, 0, fun {G H v x} r => by
    have e : v = oiV x := r
    subst e
    cases x with
    | none => exact .non
    | some i => exact .int i, fun x => by cases x <;> rfl, fun x => by cases x <;> exact Nat.le_refl _, fun x y => by
    cases x with
    | none => cases y with
      | none => exact ⟨fun _ => rfl, fun _ => rfl⟩
      | some j => exact ⟨fun h => (by cases h), fun h => (by cases h)⟩
    | some i => cases y with
      | none => exact ⟨fun h => (by cases h), fun h => (by cases h)⟩
      | some j => show (i == j) = true ↔ _; simp⟩
def obD : Option Bool → PyData
  | none => .none
  | some i => .bool i
instance : Dt (Option Bool) := ⟨obD, 0, fun {G H v x} r => by
    have e : v = obV x := r
    subst e
    cases x with
    | none => exact .non
    | some i => exact .bl i, fun x => by cases x <;> rfl, fun x => by cases x <;> exact Nat.le_refl _, fun x y => by
    cases x with
    | none => cases y with
      | none => exact ⟨fun _ => rfl, fun _ => rfl⟩
      | some j => exact ⟨fun h => (by cases h), fun h => (by cases h)⟩
    | some i => cases y with
      | none => exact ⟨fun h => (by cases h), fun h => (by cases h)⟩
      | some j => show (i == j) = true ↔ _; simp⟩
theorem dp_list {α : Type} [Rp α] [Dt α] {G : Gm} {H : Hp} : ∀ {vs : List V} {xs : List α}, RepAll G H vs (dvs xs) → DpAll G.K H vs (xs.map Dt.d)
  | [], [], _ => .nil
  | _ :: _, _ :: _, h => .cons (Dt.rp h.1) (dp_list h.2)
theorem eqv_list {α : Type} [Rp α] [Dt α] : ∀ xs ys : List α, PyData.eqvAll (xs.map Dt.d) (ys.map Dt.d) = true ↔ xs = ys
  | [], [] => ⟨fun _ => rfl, fun _ => rfl⟩
  | [], _ :: _ => ⟨fun h => (by cases h), fun h => (by cases h)⟩
  | _ :: _, [] => ⟨fun h => (by cases h), fun h => (by cases h)⟩
  | x :: xs, y :: ys => by
    show (PyData.eqv (Dt.d x) (Dt.d y) && PyData.eqvAll (xs.map Dt.d) (ys.map Dt.d)) = true ↔ _
    rw [Bool.and_eq_true, Dt.inj, eqv_list xs ys, List.cons.injEq]
theorem lay_list {α : Type} [Rp α] [Dt α] : ∀ xs : List α, PyData.canLayAll0 (xs.map Dt.d) = true
  | [] => rfl
  | x :: xs => by
    show ((Dt.d x).canLay0 && PyData.canLayAll0 (xs.map Dt.d)) = true
    rw [Dt.lay x, lay_list xs] <;> rfl
theorem deep_list {α : Type} [Rp α] [Dt α] : ∀ xs : List α, PyData.depthAll (xs.map Dt.d) ≤ Dt.dp α
  | [] => Nat.zero_le _
  | x :: xs => Nat.max_le.mpr ⟨Dt.deep x, deep_list xs⟩
instance {α : Type} [Rp α] [Dt α] : Dt (List α) := ⟨fun xs => .list (xs.map Dt.d), Dt.dp α + 1, fun {G H v xs} ⟨p, vs, e1, e2, e3⟩ => by subst e1; exact .lst (SqL.of e2) (dp_list e3), fun xs => lay_list xs, fun xs => Nat.succ_le_succ (deep_list xs), fun xs ys => eqv_list xs ys⟩
instance {α β : Type} [Rp α] [Dt α] [Rp β] [Dt β] : Dt (α × β) := ⟨fun p => .tuple [Dt.d p.1, Dt.d p.2], max (Dt.dp α) (Dt.dp β) + 1, fun {G H v x} ⟨p, vs, e1, e2, e3⟩ => by
    subst e1
    match vs, e3 with
    | [u, w], e3 => exact .tup (SqT.of e2) (.cons (Dt.rp e3.1) (.cons (Dt.rp e3.2.1) .nil)), fun x => by
    show ((Dt.d x.1).canLay0 && ((Dt.d x.2).canLay0 && true)) = true
    rw [Dt.lay, Dt.lay] <;> rfl, fun x => Nat.succ_le_succ (Nat.max_le.mpr ⟨Nat.le_trans (Dt.deep _) (Nat.le_max_left _ _), Nat.max_le.mpr ⟨Nat.le_trans (Dt.deep _) (Nat.le_max_right _ _), Nat.zero_le _⟩⟩), fun x y => by
    show (PyData.eqv (Dt.d x.1) (Dt.d y.1) && (PyData.eqv (Dt.d x.2) (Dt.d y.2) && true)) = true ↔ _
    rw [Bool.and_true, Bool.and_eq_true, Dt.inj, Dt.inj, Prod.ext_iff]⟩
theorem shaped_dt {α : Type} [Rp α] [Dt α] (h : Dt.dp α ≤ 60) (x : α) : SeqAt.shaped (Dt.d x) = true := by
  unfold SeqAt.shaped
  rw [Dt.lay, decide_eq_true (Nat.le_trans (Dt.deep x) (by omega))]
  rfl
theorem k_eqD {α : Type} [Rp α] [Dt α] [DecidableEq α] {Q : Bool → Prop} (hu : F.X.A.units + 64 < cLine) (h : KE F env a ex fun x : α => KE F env b ex fun y : α => Q (decide (x = y))) (hz : Dt.dp α ≤ 60 := by decide) : KE F env (.Compare a [.Eq] [b] pos) ex Q :=
  k_cmp (op_eqD hu) h (fun _ _ _ _ v u x y s _ r1 r2 q => ⟨_, _, Dt.rp (Rp.mono hid_le r1), Dt.rp (Rp.mono hid_le r2), shaped_dt hz x, shaped_dt hz y, _, s, by rw [Dt.eq]; exact rfl, q⟩) (nomark _)
theorem k_neD {α : Type} [Rp α] [Dt α] [DecidableEq α] {Q : Bool → Prop} (hu : F.X.A.units + 64 < cLine) (h : KE F env a ex fun x : α => KE F env b ex fun y : α => Q (!decide (x = y))) (hz : Dt.dp α ≤ 60 := by decide) : KE F env (.Compare a [.NotEq] [b] pos) ex Q :=
  k_cmp (op_neD hu) h (fun _ _ _ _ v u x y s _ r1 r2 q => ⟨_, _, Dt.rp (Rp.mono hid_le r1), Dt.rp (Rp.mono hid_le r2), shaped_dt hz x, shaped_dt hz y, _, s, by rw [Dt.eq]; exact rfl, q⟩) (nomark _)
theorem t_eqD {α : Type} [Rp α] [Dt α] [DecidableEq α] {Q : Bool → Prop} (hu : F.X.A.units + 64 < cLine) (h : KE F env a ex fun x : α => KE F env b ex fun y : α => Q (decide (x = y))) (hz : Dt.dp α ≤ 60 := by decide) : KT F env (.Compare a [.Eq] [b] pos) ex Q :=
  t_cmp (op_eqD hu) h (fun _ _ _ _ v u x y s _ r1 r2 q => ⟨_, _, Dt.rp (Rp.mono hid_le r1), Dt.rp (Rp.mono hid_le r2), shaped_dt hz x, shaped_dt hz y, _, by rw [Dt.eq], s, q⟩) (nomark _)
theorem t_neD {α : Type} [Rp α] [Dt α] [DecidableEq α] {Q : Bool → Prop} (hu : F.X.A.units + 64 < cLine) (h : KE F env a ex fun x : α => KE F env b ex fun y : α => Q (!decide (x = y))) (hz : Dt.dp α ≤ 60 := by decide) : KT F env (.Compare a [.NotEq] [b] pos) ex Q :=
  t_cmp (op_neD hu) h (fun _ _ _ _ v u x y s _ r1 r2 q => ⟨_, _, Dt.rp (Rp.mono hid_le r1), Dt.rp (Rp.mono hid_le r2), shaped_dt hz x, shaped_dt hz y, _, by rw [Dt.eq], s, q⟩) (nomark _)

/-! ### in, not in over a list of ints -/
theorem in_ints (y : Int) : ∀ xs : List Int, inV (V.int y) (xs.map V.int) = decide (y ∈ xs)
  | [] => rfl
  | x :: xs => by
    show (eqV (V.int x) (V.int y) || inV (V.int y) (xs.map V.int)) = _
    rw [in_ints y xs]
    have e : eqV (V.int x) (V.int y) = decide (y = x) := by
      show (x == y) = _
      by_cases h : x = y
      · subst h; simp
      · rw [decide_eq_false (Ne.symm h)]; simpa using h
    rw [e, ← Bool.decide_or]
    congr 1
    rw [List.mem_cons]
theorem flat_ints : ∀ xs : List Int, (xs.map V.int).all flatV = true
  | [] => rfl
  | x :: xs => flat_ints xs
/-- e not in rows, rows a list of ints that the def alone holds -/
theorem t_notInO {Q : Bool → Prop} {p2 : Pos} (i : Nat) {xs : List Int} (hN : F.X.N[i]? = some x) (he : env[i]? = some (.ow (olist xs))) (h : KE F env a ex fun y : Int => Q (!decide (y ∈ xs)))
    (hv : Vis F.X.env.scope x := by first | exact Or.inl rfl | exact Or.inr (Or.inl rfl) | exact Or.inr (Or.inr rfl)) (hdb : (x == ("__debug__" : Str)) = false := by decide) (hcd : (x == ("__classdict__" : Str)) = false := by decide) (hm : behindInMarks .NotIn (.Name x p2) = false := by with_unfolding_all rfl) :
    KT F env (.Compare a [.NotIn] [.Name x p2] pos) ex Q := fun own σ H k p => by
  obtain ⟨l, ho, h0, h1, h2, vs, e3, r3⟩ := (show EntOk F.G F.hs own σ H i (.ow (olist xs)) from k.ent i _ he)
  subst e3
  have e4 := reps_ints r3
  subst e4
  refine tT_of (pt_cmpR op_notIn_seq peE (pe_var hN hv hdb hcd) hm) (tE_mono (fun v H' ⟨y, s, r, q⟩ => ?_) (h own σ H k p))
  cases r
  exact ⟨_, h1, l, _, rfl, .inl (SqL.of (s _ _ h2)), rfl, flat_ints xs, _, by show V.bl (!inV (V.int y) (xs.map V.int)) = _; rw [in_ints], s, q⟩

/-! ### isinstance of a value of a known kind -/
def tyS : V → Option String
  | .non => some "NoneType"
  | .bl _ => some "bool"
  | .int _ => some "int"
  | .str _ => some "str"
  | _ => none
theorem tyS_of {K : PySem.W.Frag} {H : Hp} {v : V} {t : String} (h : tyS v = some t) : TyX K H v (.type t) := by
  cases v <;> (try cases h)
  · exact .base .non
  · exact .base (.bl _)
  · exact .base (.int _)
  · exact .base (.str _)
theorem k_isV {Q : Bool → Prop} {T : String} {t : Str} (m : NoGl F.X.mg) (ht : F.X.mg t = none) (hv : bootBuiltins t = some (.type T)) (h : KE F env a ex fun y : V => ∃ k r, tyS y = some k ∧ kitB k T = some r ∧ Q r) (hg : Gl F.X "isinstance" := by rfl) (hgt : Gl F.X t := by rfl)
    (z : Ns F a [.Name t p1] := by rfl) (z2 : Ns F (.Name t p1) [] := by rfl) (hpl : (backTo pos (starEach [.Name t p1] F.X.env)).any (·.1) = false := by rfl) (htn : t ≠ "__name__" := by decide) (htd : (t == ("__debug__" : Str)) = false := by decide) :
    KE F env (.Call (.Name "isinstance" p0) [a, .Name t p1] [] pos) ex Q := fun own σ H k p =>
  tE_of (pe_callB call_isi hg (m _ (by simp)) (by decide +kernel) (pa_cons peE (pa_cons (pe_bltn (v := .ty T) hgt ht hv rfl htn htd) pa_nil z2) z) (he := z) (hpl := hpl)) (tE_mono (fun v H' ⟨y, s, r, kt, rr, e1, e2, q⟩ => by
    have r : v = y := r
    subst r
    exact ⟨v, .ty T, _, _, rr, rfl, .ty T, tyS_of e1, kit_ty e2, rr, s, rfl, q⟩) (h own σ H k p))
theorem k_isTup {α : Type} {ds : α → List DV} {Q : Bool → Prop} (m : NoGl F.X.mg) (h : @KE F env a ex α (tpRp ds) fun _ => Q true) (hg : Gl F.X "isinstance" := by rfl) (hgt : Gl F.X "tuple" := by rfl)
    (z : Ns F a [.Name "tuple" p1] := by rfl) (z2 : Ns F (.Name "tuple" p1) [] := by rfl) (hpl : (backTo pos (starEach [.Name "tuple" p1] F.X.env)).any (·.1) = false := by rfl) :
    KE F env (.Call (.Name "isinstance" p0) [a, .Name "tuple" p1] [] pos) ex Q := fun own σ H k p =>
  tE_of (pe_callB call_isi hg (m _ (by simp)) (by decide +kernel) (pa_cons peE (pa_cons (pe_bltn (v := .ty "tuple") hgt (m _ (by simp)) (by decide +kernel) rfl) pa_nil z2) z) (he := z) (hpl := hpl)) (tE_mono (fun v H' ⟨y, s, ⟨l, vs, e1, e2, e3⟩, q⟩ => by
    subst e1
    exact ⟨.ref l, .ty "tuple", _, _, true, rfl, .ty _, .base (.tup (hid_of e2)), kit_ty (by decide +kernel), true, s, rfl, q⟩) (h own σ H k p))
theorem k_isLst {α : Type} [Rp α] {Q : Bool → Prop} (m : NoGl F.X.mg) (h : KE F env a ex fun _ : List α => Q true) (hg : Gl F.X "isinstance" := by rfl) (hgt : Gl F.X "list" := by rfl)
    (z : Ns F a [.Name "list" p1] := by rfl) (z2 : Ns F (.Name "list" p1) [] := by rfl) (hpl : (backTo pos (starEach [.Name "list" p1] F.X.env)).any (·.1) = false := by rfl) :
    KE F env (.Call (.Name "isinstance" p0) [a, .Name "list" p1] [] pos) ex Q := fun own σ H k p =>
  tE_of (pe_callB call_isi hg (m _ (by simp)) (by decide +kernel) (pa_cons peE (pa_cons (pe_bltn (v := .ty "list") hgt (m _ (by simp)) (by decide +kernel) rfl) pa_nil z2) z) (he := z) (hpl := hpl)) (tE_mono (fun v H' ⟨y, s, ⟨l, vs, e1, e2, e3⟩, q⟩ => by
    subst e1
    exact ⟨.ref l, .ty "list", _, _, true, rfl, .ty _, .base (.lst (hid_of e2)), kit_ty (by decide +kernel), true, s, rfl, q⟩) (h own σ H k p))

/-! ### sorted, list(range(..)) -/
theorem k_sorted {Q : List Int → Prop} (m : NoGl F.X.mg) (h : KE F env e ex fun xs : List Int => ∀ ys : List Int, ys.Perm xs → ys.Pairwise (· ≤ ·) → Q ys) (z : Ns F e [] := by rfl) (hg : Gl F.X "sorted" := by rfl) : KE F env (.Call (.Name "sorted" p0) [e] [] pos) ex Q :=
  cb cr_sortedI (m _ (by simp)) (by decide +kernel) (a_one h z) (fun own σ H0 H vs ds s k r ⟨xs, ed, q⟩ => by
    subst ed
    obtain ⟨v, rfl, l, ws, e1, e2, e3⟩ := rep1 r
    have e4 := reps_ints e3
    refine ⟨l, xs, by rw [e1], SqL.of (by rw [← e4]; exact hid_of e2), fun ys t hp hs ht => ⟨ys, s.trans (same_new ht), ⟨t, _, rfl, hid_new k (Same.refl _) ht, rep_ints ys⟩, q ys hp hs⟩⟩) hg (hz := z)
/-- the ints from lo to below hi -/
def span (lo hi : Int) : List Int := (List.range (hi - lo).toNat).map fun i : Nat => lo + (i : Int)
theorem ints_rg (lo hi : Int) : rgV lo hi = (span lo hi).map V.int := by
  unfold rgV span
  rw [List.map_map]
  rfl
theorem k_listRg2 {Q : List Int → Prop} {p2 p3 : Pos} (m : NoGl F.X.mg) (h : KE F env a ex fun lo : Int => KE F env b ex fun hi : Int => (-1000000 < lo ∧ lo < 1000000 ∧ -1000000 < hi ∧ hi < 1000000) ∧ Q (span lo hi)) (hc : F.X.calm = true := by rfl) (hg : Gl F.X "list" := by rfl) (hgr : Gl F.X "range" := by rfl)
    (na : Ns F a [b] := by rfl) (nb : Ns F b [] := by rfl) (hp : (backTo p2 (starEach [b] F.X.env)).any (·.1) = false := by rfl) (nr : Ns F (.Call (.Name "range" p3) [a, b] [] p2) [] := by rfl) :
    KE F env (.Call (.Name "list" p0) [.Call (.Name "range" p3) [a, b] [] p2] [] pos) ex Q := fun own σ H k p =>
  tE_of (pe_listRg hc hg (m _ (by simp)) (prg_2 hgr (m _ (by simp)) peE peE na nb hp) nr) (two k p h fun v u lo hi H' s r1 r2 ⟨hb, q⟩ => by
    cases r1; cases r2
    refine ⟨lo, hi, rfl, rfl, ⟨by omega, by omega, by omega, by omega, by omega⟩, fun t ht => ⟨_, s.trans (same_new ht), ⟨t, _, rfl, hid_new k s ht, ?_⟩, q⟩⟩
    rw [ints_rg]
    exact rep_ints _)
end
end Rk

set_option maxHeartbeats 4000000
namespace Rk
open PySem L2 PyProof.Rows
section
variable {F : Fx} {env : List Ent} {ex : XP} {a b c e it elt tg : Expr} {es ifs : List Expr} {pos p0 p1 : Pos} {n x : Str} {P : Po} {st : Stmt} {sts ss body : List Stmt}

/-! ### try: body, except X: suite -/
/-- the body's frame, the suite's -/
def Fx.tr (F : Fx) (pn : List (Addr × Obj)) (xe : Value → Shared → Prop) : Fx := { F with X := F.X.tr pn xe }
def Fx.su (F : Fx) (q : Addr) (pn : List (Addr × Obj)) : Fx := { F with X := F.X.suite q pn }
theorem s_tryO {cn : Nat} {b0 : Stmt} {pos' : Pos} (T : ExcT F.X.K F.X.mg x (F.cls cn))
    (hb : ∀ pn xe, KSs (F.tr pn xe) env body { P with ex := fun env' C => ∃ m, PySem.W.exmOne F.X.K (.ref (F.cls C)) (.ref (F.cls cn)) = some m ∧
      (m = true → ∀ q oe pn, Zc (.ref (F.cls C)) none oe → (∃ vs, oe.data = .fields vs) → KSs (F.su q ((q, oe) :: pn)) env' (b0 :: ss) { P with ex := fun _ _ => False }) ∧ (m = false → P.ex env' C) })
    (hg : Gl F.X x := by rfl) (hdb : (x == ("__debug__" : Str)) = false := by decide) (hs : F.X.stack = F.X.env :: F.X.outer := by rfl) (hf : F.X.env.frame = some F.X.env.locals := by rfl) :
    KS F env (.Try body [.ExceptHandler (some (.Name x p0)) none (b0 :: ss) pos'] [] [] pos) P := fun own σ H k p => by
  obtain ⟨pa, W, tk, hw⟩ := id p
  refine tS_of (ps_try_only (tb := fun W' D σ H => ∀ pn xe, Takes (F.X.tr pn xe) W' → PassesOwn (model F.X.prog F.X.w) F.X.A F.X.env xe → tSs (F.X.tr pn xe) body D σ H)
    (ts := fun q cls d D σ H => ∀ oe pn, Zc cls d oe → (∃ vs, oe.data = .fields vs) → tSs (F.X.suite q ((q, oe) :: pn)) (b0 :: ss) D σ H) hs hf ⟨hg, hdb, .inl T.gC⟩ tk (fun W' pn xe t po => ⟨fun pins s σ H D I h => h pn xe t po pins s I⟩) (fun q oe cls d pn hz hv => ⟨fun pins s σ H D I h => h oe pn hz hv pins s I⟩)) ?_
  intro pn xe tk' po
  refine hb pn xe own σ H k ⟨po, _, tk', fun env' own' C σ' H' k' fr q => ?_⟩
  obtain ⟨m, hm, h1, h2⟩ := q
  refine ⟨m, hm, fun e q na oe pn2 hz hv => ?_, fun e => hw env' own' C σ' H' k' fr (h2 e)⟩
  have z := h1 e q oe pn2 hz hv own' σ' H' k' ⟨PassesOwn.never, _, takes0, fun _ _ _ _ _ _ _ q => q⟩
  exact tSs_mono (D := ends (F.su q ((q, oe) :: pn2)) own' H' { P with ex := fun _ _ => False }) (fun _ _ z => At.more (F := F) fr z) (fun _ _ z => z) (fun _ _ z => At.more (F := F) fr z) (fun _ _ z => At.more (F := F) fr z) z
/-- an exception that a suite holds -/
structure Exo where
  at_ : Addr
instance : Sc Exo := ⟨fun x => .ref x.at_, fun {a b} h => by cases a; cases b; injection h with h; subst h; rfl⟩
instance : Rp Exo := scRp Exo
theorem s_tryA {cn : Nat} {b0 : Stmt} {pos' : Pos} (i : Nat) (nd : F.X.N.Nodup) (hi : F.X.N[i]? = some n) (T : ExcT F.X.K F.X.mg x (F.cls cn))
    (hb : ∀ pn xe, KSs (F.tr pn xe) env body { P with ex := fun env' C => ∃ m, PySem.W.exmOne F.X.K (.ref (F.cls C)) (.ref (F.cls cn)) = some m ∧
      (m = true → ∀ q oe pn, Zc (.ref (F.cls C)) none oe → (∃ vs, oe.data = .fields vs) → KSs (F.su q ((q, oe) :: pn)) (env'.set i (.sh (dv (Exo.mk q)))) (b0 :: ss) { nx := fun env2 => P.nx (env2.set i .no), rt := P.rt, bk := fun env2 => P.bk (env2.set i .no), ct := fun env2 => P.ct (env2.set i .no) }) ∧ (m = false → P.ex env' C) })
    (hg : Gl F.X x := by rfl) (hdb : (x == ("__debug__" : Str)) = false := by decide) (hln : F.X.env.kindOf n = some .local := by rfl) (hs : F.X.stack = F.X.env :: F.X.outer := by rfl) (hf : F.X.env.frame = some F.X.env.locals := by rfl) :
    KS F env (.Try body [.ExceptHandler (some (.Name x p0)) (some n) (b0 :: ss) pos'] [] [] pos) P := fun own σ H k p => by
  obtain ⟨pa, W, tk, hw⟩ := id p
  refine tS_of (ps_try_as (i := i) (tb := fun W' D σ H => ∀ pn xe, Takes (F.X.tr pn xe) W' → PassesOwn (model F.X.prog F.X.w) F.X.A F.X.env xe → tSs (F.X.tr pn xe) body D σ H)
    (ts := fun q cls d D σ H => ∀ oe pn, Zc cls d oe → (∃ vs, oe.data = .fields vs) → tSs (F.X.suite q ((q, oe) :: pn)) (b0 :: ss) D σ H) hs hf nd hi hln ⟨hg, hdb, .inl T.gC⟩ tk (fun W' pn xe t po => ⟨fun pins s σ H D I h => h pn xe t po pins s I⟩) (fun q oe cls d pn hz hv => ⟨fun pins s σ H D I h => h oe pn hz hv pins s I⟩)) ?_
  intro pn xe tk' po
  refine hb pn xe own σ H k ⟨po, _, tk', fun env' own' C σ' H' k' fr q => ?_⟩
  obtain ⟨m, hm, h1, h2⟩ := q
  refine ⟨m, hm, fun e q na oe pn2 hz hv => ?_, fun e => hw env' own' C σ' H' k' fr (h2 e)⟩
  have k2 : (F.su q ((q, oe) :: pn2)).Kn (drop own' i) (env'.set i (.sh (dv (Exo.mk q)))) (σ'.set i (some (.ref q))) H' := k'.set (i := i) (d := dv (Exo.mk q)) rfl
  have z := h1 e q oe pn2 hz hv _ _ H' k2 ⟨PassesOwn.never, _, takes0, fun _ _ _ _ _ _ _ q => q⟩
  have fr2 : Fr F.hs own (drop own' i) H H' := fr.trans (Fr.drop i)
  have un : ∀ {q : List Ent → Prop} {σ2 : L2.St} {H2 : Hp}, At F own H (fun env2 => q (env2.set i .no)) σ2 H2 → At F own H q (σ2.set i none) H2 := fun {q σ2 H2} ⟨env2, own2, k2, f2, z⟩ => by
    have kf := k2.forget i
    refine ⟨env2.set i .no, drop own2 i, ?_, f2.trans (Fr.drop i), z⟩
    exact { kf with
      len := by rw [List.length_set]; exact kf.len
      ent := fun j e h => by
        have y := kf.ent j e h
        by_cases ij : i = j
        · subst ij
          have hl := (List.getElem?_eq_some_iff.mp h).1
          rw [List.length_set] at hl
          rw [List.getElem?_set_self hl] at h
          cases h
          trivial
        · cases e with
          | no => trivial
          | sh d => obtain ⟨v, y1, y2⟩ := y; exact ⟨v, by rw [List.getElem?_set_ne ij]; exact y1, y2⟩
          | ow o => obtain ⟨p', ho, y0, y1, y2, y3⟩ := y; exact ⟨p', ho, y0, by rw [List.getElem?_set_ne ij]; exact y1, y2, y3⟩ }
  exact tSs_mono (D := ends (F.su q ((q, oe) :: pn2)) (drop own' i) H' { nx := fun env2 => P.nx (env2.set i .no), rt := P.rt, bk := fun env2 => P.bk (env2.set i .no), ct := fun env2 => P.ct (env2.set i .no) })
    (fun _ _ z => un (At.more (F := F) fr2 z)) (fun _ _ z => z) (fun _ _ z => un (At.more (F := F) fr2 z)) (fun _ _ z => un (At.more (F := F) fr2 z)) z

/-! ### comprehensions -/
/-- the frame of a comprehension's block -/
def Blk (F : Fx) (scope : Scope) (F' : Fx) : Prop := ∃ (s : Shared) (H : Hp) (C : Addr) (cl : List (Str × Addr)) (fp : List Addr) (hs : Addr → Prop), F' = ⟨F.X.blk s H scope (compEnvC scope cl C F.X.env) fp, F.cls, hs, F.B⟩
def noex : XP := fun _ _ => False
def wipeE (env : List Ent) : List Nat → List Ent
  | [] => env
  | v :: vs => (wipeE env vs).set v .no
def wipeO (own : Nat → Option Addr) : List Nat → Nat → Option Addr
  | [] => own
  | v :: vs => drop (wipeO own vs) v
theorem wipe_mem {σ : L2.St} {i : Nat} : ∀ {vs : List Nat}, i ∈ vs → ∀ v, (wipe σ vs)[i]? ≠ some (some v)
  | [], h, _ => nomatch h
  | u :: vs, h, v => by
    show ((wipe σ vs).set u none)[i]? ≠ _
    by_cases e : u = i
    · subst e
      intro z
      by_cases hl : u < (wipe σ vs).length
      · rw [List.getElem?_set_self hl] at z; cases z
      · rw [List.getElem?_eq_none_iff.mpr (by rw [List.length_set]; omega)] at z; cases z
    · rw [List.getElem?_set_ne e]
      exact wipe_mem ((List.mem_cons.mp h).resolve_left (Ne.symm e)) v
theorem Kn.unset {own : Nat → Option Addr} {σ : L2.St} {H : Hp} (k2 : F.Kn own env σ H) (i : Nat) : F.Kn (drop own i) (env.set i .no) (σ.set i none) H := by
  have kf := k2.forget i
  exact { kf with
    len := by rw [List.length_set]; exact kf.len
    ent := fun j e h => by
      have y := kf.ent j e h
      by_cases ij : i = j
      · subst ij
        have hl := (List.getElem?_eq_some_iff.mp h).1
        rw [List.length_set] at hl
        rw [List.getElem?_set_self hl] at h
        cases h
        trivial
      · cases e with
        | no => trivial
        | sh d => obtain ⟨v, y1, y2⟩ := y; exact ⟨v, by rw [List.getElem?_set_ne ij]; exact y1, y2⟩
        | ow o => obtain ⟨p', ho, y0, y1, y2, y3⟩ := y; exact ⟨p', ho, y0, by rw [List.getElem?_set_ne ij]; exact y1, y2, y3⟩ }
theorem Kn.wipe {own : Nat → Option Addr} {σ : L2.St} {H : Hp} (k : F.Kn own env σ H) : ∀ vs : List Nat, F.Kn (wipeO own vs) (wipeE env vs) (L2.wipe σ vs) H ∧ Fr F.hs own (wipeO own vs) H H
  | [] => ⟨k, Fr.refl⟩
  | v :: vs => ⟨((Kn.wipe k vs).1).unset v, (Kn.wipe k vs).2.trans (Fr.drop v)⟩
/-- one more address is hidden: a new one -/
theorem Kn.veil {own : Nat → Option Addr} {σ : L2.St} {H H' : Hp} {t : Addr} {o : HO} (k : F.Kn own env σ H) (s : Same H H') (ht : H t = none) (ho : H' t = some o) : Rk.Kn F.G (fun x => F.hs x ∨ x = t) F.B own env σ H' := by
  have nt : ¬ hd F.hs own t := k.fresh (Same.refl _) ht
  have sm : Same (Hid (hd F.hs own) H) (Hid (hd (fun x => F.hs x ∨ x = t) own) H') := fun x u e => by
    have h1 := hid_of e
    have ne : x ≠ t := ne_of_none h1 ht
    have nh : ¬ hd F.hs own x := fun z => by unfold Hid at e; rw [if_pos z] at e; cases e
    rw [hid_at fun z => by
      rcases z with (z | z) | z
      · exact nh (.inl z)
      · exact ne z
      · exact nh (.inr z)]
    exact s x u h1
  exact {
    ex := k.ex.trans s
    hsB := fun x h => by
      rcases h with h | h
      · exact stays s (k.hsB x h)
      · subst h; rw [ho]; simp
    dis := fun i p h z => by
      rcases z with z | z
      · exact k.dis i p h z
      · subst z; exact nt (.inr ⟨i, h⟩)
    len := k.len
    inj := k.inj
    new := fun i p h => ⟨(k.new i p h).1, stays s (k.new i p h).2⟩
    out := k.out
    ent := fun i e h => by
      have y := k.ent i e h
      cases e with
      | no => trivial
      | sh d => obtain ⟨v, y1, y2⟩ := y; exact ⟨v, y1, DV.mono sm y2⟩
      | ow o => obtain ⟨p', ho', y0, y1, y2, y3⟩ := y; exact ⟨p', ho', y0, y1, s _ _ y2, o.mono sm y3⟩ }
/-- a comprehension's test -/
def KTs (F : Fx) (env : List Ent) : List Expr → (Bool → Prop) → Prop
  | [], Q => Q true
  | [c], Q => KT F env c noex Q
  | _, _ => False
def tIfs (X : Cx) : List Expr → TT
  | [c] => tT X c
  | _ => tYes
theorem noPort {own : Nat → Option Addr} {H : Hp} {F' : Fx} {scope : Scope} (h : Blk F scope F') : Port F' own H noex := by
  obtain ⟨s, H0, C, cl, fp, hs, rfl⟩ := h
  exact ⟨PassesOwn.never, _, takes0, fun _ _ _ _ _ _ _ q => q⟩
/-- what a block's test and element ask, in whatever frame it runs -/
def uT (F : Fx) (scope : Scope) (ifs : List Expr) : TT := fun σ H Q => ∀ (s : Shared) (H0 : Hp) (C : Addr) (cl : List (Str × Addr)) (fp : List Addr), tIfs (F.X.blk s H0 scope (compEnvC scope cl C F.X.env) fp) ifs σ H Q
def uE (F : Fx) (scope : Scope) (e : Expr) : TE := fun σ H Q => ∀ (s : Shared) (H0 : Hp) (C : Addr) (cl : List (Str × Addr)) (fp : List Addr), tE (F.X.blk s H0 scope (compEnvC scope cl C F.X.env) fp) e σ H Q
theorem wipeO_same {own : Nat → Option Addr} : ∀ {vs : List Nat}, (∀ i ∈ vs, own i = none) → wipeO own vs = own
  | [], _ => rfl
  | v :: vs, h => by
    show drop (wipeO own vs) v = own
    rw [wipeO_same fun i hi => h i (List.mem_cons_of_mem _ hi)]
    funext j
    unfold drop
    split
    · rename_i e; subst e; exact (h j List.mem_cons_self).symm
    · rfl
/-- what a comprehension has made of the items done -/
def LcAt {α β : Type} [Rp α] [Rp β] (F : Fx) (own : Nat → Option Addr) (H1 : Hp) (D : Addr) (t : α → Bool) (v : α → β) (done : List α) (H2 : Hp) : Prop :=
  Same H1 (fun x => if x = D then none else H2 x) ∧ ∃ acc, H2 D = some (.lst acc) ∧ RepAll F.G (Hid (hd (fun x => F.hs x ∨ x = D) own) H2) acc (dvs ((done.filter t).map v))
theorem LcAt.same {α β : Type} [Rp α] [Rp β] {own : Nat → Option Addr} {H1 H2 : Hp} {D : Addr} {t : α → Bool} {v : α → β} {done : List α} (h : LcAt F own H1 D t v done H2) (hD : H1 D = none) : Same H1 H2 := fun x o e => by
  have ne : x ≠ D := ne_of_none e hD
  have z : (if x = D then none else H2 x) = some o := h.1 x o e
  rw [if_neg ne] at z; exact z
theorem LcAt.start {α β : Type} [Rp α] [Rp β] {own : Nat → Option Addr} {H1 : Hp} {D : Addr} {t : α → Bool} {v : α → β} (hD : H1 D = none) : LcAt F own H1 D t v [] (upd H1 D (.lst [])) := by
  refine ⟨fun x o e => ?_, [], upd_same, trivial⟩
  have ne : x ≠ D := ne_of_none e hD
  show (if x = D then none else upd H1 D (.lst []) x) = some o
  rw [if_neg ne, upd_ne ne]; exact e
theorem wipe_twice {σ : L2.St} (vs : List Nat) : L2.wipe (L2.wipe σ vs) vs = L2.wipe σ vs := by
  have key : ∀ us : List Nat, (∀ i ∈ us, i ∈ vs) → L2.wipe (L2.wipe σ vs) us = L2.wipe σ vs := fun us => by
    induction us with
    | nil => intro _; rfl
    | cons u us ih =>
      intro hh
      show (L2.wipe (L2.wipe σ vs) us).set u none = _
      rw [ih fun i hi => hh i (List.mem_cons_of_mem _ hi)]
      apply List.ext_getElem?
      intro j
      by_cases e : u = j
      · subst e
        by_cases hl : u < (L2.wipe σ vs).length
        · rw [List.getElem?_set_self hl]
          have nv := wipe_mem (σ := σ) (hh u List.mem_cons_self)
          cases q : (L2.wipe σ vs)[u]? with
          | none => rw [List.getElem?_eq_none_iff] at q; omega
          | some o => cases o with
            | none => rfl
            | some w => exact absurd q (nv w)
        · rw [List.getElem?_eq_none_iff.mpr (by rw [List.length_set]; omega), List.getElem?_eq_none_iff.mpr (by omega)]
      · rw [List.getElem?_set_ne e]
  exact key vs fun _ h => h
/-- one turn of a comprehension -/
theorem lc_step {α β : Type} [Rp α] [Rp β] {scope : Scope} (own0 : List (Str × Nat)) {g : TG} {is : List Nat} {f : α → List Ent → List Ent} {own : Nat → Option Addr} {σ : L2.St} {H1 H2 : Hp} {D : Addr} {t : α → Bool} {v : α → β} {done : List α} {y : α} {u : V}
    (hlen : ifs.length ≤ 1) (htg : ∀ F', Blk F scope F' → Tg F' tg α g is f) (his : ∀ i ∈ is, i ∈ own0.map (·.2)) (onone : ∀ i ∈ own0.map (·.2), own i = none) (k1 : F.Kn own env σ H1) (hD : H1 D = none) (hx : done.length ≤ 40000)
    (ht : ∀ F', Blk F scope F' → KTs F' (f y (wipeE env (own0.map (·.2)))) ifs fun b => b = t y) (hv : ∀ F', Blk F scope F' → t y = true → KE F' (f y (wipeE env (own0.map (·.2)))) elt noex fun z => z = v y)
    (hd2 : Rp.rep F.G (Hid (hd F.hs own) H1) u y) (p : LcAt F own H1 D t v done H2) :
    g u (L2.wipe σ (own0.map (·.2))) H2 fun σ2 H2' => L2.wipe σ2 (own0.map (·.2)) = L2.wipe σ (own0.map (·.2)) ∧ uT F scope ifs σ2 H2' fun b H3 =>
      if b = true then uE F scope elt σ2 H3 fun z H4 => ∃ acc, H4 D = some (.lst acc) ∧ acc.length < sizeLine ∧ LcAt F own H1 D t v (done ++ [y]) (upd H4 D (.lst (acc ++ [z]))) else LcAt F own H1 D t v (done ++ [y]) H3 := by
  have s12 := p.same hD
  obtain ⟨s2, acc, hacc, hr⟩ := p
  have kD : Rk.Kn F.G (fun x => F.hs x ∨ x = D) F.B own env σ H2 := k1.veil s12 hD hacc
  obtain ⟨kw, frw⟩ := Kn.wipe (F := ⟨F.X, F.cls, fun x => F.hs x ∨ x = D, F.B⟩) (show (⟨F.X, F.cls, fun x => F.hs x ∨ x = D, F.B⟩ : Fx).Kn own env σ H2 from kD) (own0.map (·.2))
  have sD : Same (Hid (hd F.hs own) H1) (Hid (hd (fun x => F.hs x ∨ x = D) own) H2) := fun x o e => by
    have h1 := hid_of e
    have ne : x ≠ D := ne_of_none h1 hD
    have nh : ¬ hd F.hs own x := fun z => by unfold Hid at e; rw [if_pos z] at e; cases e
    rw [hid_at fun z => by
      rcases z with (z | z) | z
      · exact nh (.inl z)
      · exact ne z
      · exact nh (.inr z)]
    exact s12 x o h1
  refine (htg ⟨F.X.blk F.X.s_0 H1 scope (compEnvC scope [] 0 F.X.env) [], F.cls, fun x => F.hs x ∨ x = D, F.B⟩ ⟨F.X.s_0, H1, 0, [], [], _, rfl⟩).sem y _ _ _ _ H2 u kw (DV.mono (d := dv y) (sD.trans frw) hd2) fun own2 σ2 k2 f2 wp kp => ?_
  rw [wipeO_same onone] at kp
  refine ⟨by rw [wp _ his]; exact wipe_twice _, ?_⟩
  have keep : ∀ (s' : Shared) (H0 : Hp) (C : Addr) (cl : List (Str × Addr)) (fp : List Addr) (H3 : Hp), Same H2 H3 → t y = true → tE (F.X.blk s' H0 scope (compEnvC scope cl C F.X.env) fp) elt σ2 H3 fun z H4 => ∃ acc, H4 D = some (.lst acc) ∧ acc.length < sizeLine ∧ LcAt F own H1 D t v (done ++ [y]) (upd H4 D (.lst (acc ++ [z]))) := fun s' H0 C cl fp H3 s3 hty => by
    have B' : Blk F scope ⟨F.X.blk s' H0 scope (compEnvC scope cl C F.X.env) fp, F.cls, fun x => F.hs x ∨ x = D, F.B⟩ := ⟨s', H0, C, cl, fp, _, rfl⟩
    refine tE_mono (fun z H4 ⟨w, s4, rw', ew⟩ => ?_) (hv _ B' hty own2 σ2 H3 (k2.mono s3) (noPort B'))
    subst ew
    have s24 : Same H2 H4 := s3.trans s4
    have hD4 : H4 D = some (.lst acc) := s24 _ _ hacc
    have la : acc.length = ((done.filter t).map v).length := by rw [hr.len, dvs_len]
    have lb : ((done.filter t).map v).length ≤ 40000 := by
      rw [List.length_map]
      exact Nat.le_trans (List.length_filter_le _ _) hx
    refine ⟨acc, hD4, Nat.lt_of_le_of_lt (by rw [la]; exact lb) (by decide : 40000 < sizeLine), fun x o e => ?_, acc ++ [z], upd_same, ?_⟩
    · have ne : x ≠ D := ne_of_none e hD
      show (if x = D then none else upd H4 D (.lst (acc ++ [z])) x) = some o
      rw [if_neg ne, upd_ne ne]; exact s24 _ _ (s12 _ _ e)
    · rw [List.filter_append, List.map_append, List.filter_cons, if_pos hty, List.filter_nil]
      have hidD : hd (fun x => F.hs x ∨ x = D) own D := .inl (.inr rfl)
      rw [hid_upd hidD]
      unfold dvs
      rw [List.map_append]
      refine RepAll.app (hr.mono (hid_same s24)) ⟨?_, trivial⟩
      refine DV.mono (d := dv (v y)) (hid_more fun x q => ?_) rw'
      rcases q with q | ⟨i, q⟩
      · exact .inl q
      · rcases kp i x q with z | z
        · rw [onone i (his i z)] at q; cases q
        · exact .inr ⟨i, z⟩
  have skip : ∀ H3 : Hp, Same H2 H3 → t y = false → LcAt F own H1 D t v (done ++ [y]) H3 := fun H3 s3 hty => by
    refine ⟨fun x o e => ?_, acc, s3 _ _ hacc, ?_⟩
    · have ne : x ≠ D := ne_of_none e hD
      show (if x = D then none else H3 x) = some o
      rw [if_neg ne]; exact s3 _ _ (s12 _ _ e)
    · rw [List.filter_append, List.map_append, List.filter_cons, if_neg (by rw [hty]; decide), List.filter_nil, List.map_nil, List.append_nil]
      exact hr.mono (hid_same s3)
  intro s' H0 C cl fp
  match ifs, hlen, ht with
  | [], _, ht =>
    have B' : Blk F scope ⟨F.X.blk s' H0 scope (compEnvC scope cl C F.X.env) fp, F.cls, fun x => F.hs x ∨ x = D, F.B⟩ := ⟨s', H0, C, cl, fp, _, rfl⟩
    have hty : true = t y := ht _ B'
    exact fun s2' H02 C2 cl2 fp2 => keep s2' H02 C2 cl2 fp2 H2 (Same.refl _) hty.symm
  | [c], _, ht =>
    have B' : Blk F scope ⟨F.X.blk s' H0 scope (compEnvC scope cl C F.X.env) fp, F.cls, fun x => F.hs x ∨ x = D, F.B⟩ := ⟨s', H0, C, cl, fp, _, rfl⟩
    refine tT_mono (fun b H3 ⟨s3, eb⟩ => ?_) (ht _ B' own2 σ2 H2 k2 (noPort B'))
    cases hty : t y with
    | true =>
      rw [hty] at eb; subst eb
      exact fun s2' H02 C2 cl2 fp2 => keep s2' H02 C2 cl2 fp2 H3 s3 hty
    | false =>
      rw [hty] at eb; subst eb
      exact skip H3 s3 hty
theorem lc_end {α β : Type} [Rp α] [Rp β] {own : Nat → Option Addr} {σ : L2.St} {H H1 H2 : Hp} {D : Addr} {t : α → Bool} {v : α → β} {xs : List α} {Q : List β → Prop} (k1 : F.Kn own env σ H1) (sm : Same H H1) (hD : H1 D = none) (p : LcAt F own H1 D t v xs H2) (hQ : Q ((xs.filter t).map v)) :
    ∃ y : List β, Same H H2 ∧ Rp.rep F.G (Hid (hd F.hs own) H2) (V.ref D) y ∧ Q y := by
  have s12 := p.same hD
  have nD : ¬ hd F.hs own D := k1.fresh (Same.refl _) hD
  obtain ⟨s2, acc, hacc, hr⟩ := p
  refine ⟨_, sm.trans s12, ⟨D, acc, rfl, by rw [hid_at nD]; exact hacc, hr.mono (hid_more fun x z => ?_)⟩, hQ⟩
  rcases z with z | z
  · exact .inl (.inl z)
  · exact .inr z
theorem lc_tests (hlen : ifs.length ≤ 1) {scope : Scope} (s : Shared) (H : Hp) (C : Addr) (cl : List (Str × Addr)) (fp : List Addr) : PTs (F.X.blk s H scope (compEnvC scope cl C F.X.env) fp) ifs (uT F scope ifs) := by
  match ifs, hlen with
  | [], _ => exact ⟨fun pins s' σ H' Q I h => pts_nil.run pins s' σ H' Q I (h s H C cl fp)⟩
  | [c], _ => exact ⟨fun pins s' σ H' Q I h => (pts_one peT).run pins s' σ H' Q I (h s H C cl fp)⟩
/-- what a comprehension asks, as a value and as a name's value -/
def KLc {β : Type} [Rp β] (F : Fx) (env : List Ent) (elt tg it : Expr) (ifs : List Expr) (scope : Scope) (ex : XP) (Q : List β → Prop) : Prop := ∀ own σ H, F.Kn own env σ H → Port F own H ex → ∃ (wi : TI) (g : TG) (own0 : List (Str × Nat)),
  F.X.calm = true ∧ F.X.N.Nodup ∧ PI F.X tg it wi ∧ BlkOk F.X.N F.X.env.scope scope own0 ∧ (∀ (s : Shared) (H : Hp) (C : Addr) (cl : List (Str × Addr)) (fp : List Addr), PG (F.X.blk s H scope (compEnvC scope cl C F.X.env) fp) tg g) ∧ ifs.length ≤ 1 ∧ (∀ x, foldedSetIterable it F.X.env x = pure x) ∧
  ∀ Q' : VK, (∀ v H', Rs F own H Q v H' → Q' v H') → tLc wi g (uT F scope ifs) (uE F scope elt) (own0.map (·.2)) σ H Q'
theorem k_ofLc {β : Type} [Rp β] {scope : Scope} {Q : List β → Prop} {ex : XP} (h : KLc F env elt tg it ifs scope ex Q) : KE F env (.ListComp elt [⟨tg, it, ifs, 0⟩] scope pos) ex Q := fun own σ H k p => by
  obtain ⟨wi, g, own0, hc, nd, pi, ok, pg, hlen, hs, z⟩ := h own σ H k p
  exact tE_of (pe_lc (own := own0) (g := g) (te := uE F scope elt) hc nd pi ok pg (lc_tests hlen) (fun s H C cl fp => ⟨fun pins s' σ H' Q I h => h s H C cl fp pins s' I⟩) hs) (z _ fun _ _ q => q)
theorem s_letLc {β : Type} [Rp β] {scope : Scope} {y : Str} (i : Nat) (hy : F.X.N[i]? = some y) (h : KLc F env elt tg it ifs scope P.ex fun ys : List β => ∀ z : List β, z = ys → P.nx (env.set i (.sh (dv z))))
    (hyl : F.X.env.scope.names.lookup y = some .local := by rfl) (hsw : swapsWith (.ListComp elt [⟨tg, it, ifs, 0⟩] scope p0) (some (.Name y p1)) pos.line F.X.env = pure true := by rfl) : KS F env (.Assign [.Name y p1] (.ListComp elt [⟨tg, it, ifs, 0⟩] scope p0) pos) P := fun own σ H k p => by
  obtain ⟨wi, g, own0, hc, nd, pi, ok, pg, hlen, hs, z⟩ := h own σ H k p
  refine tS_of (ps_setLc (own := own0) (g := g) (te := uE F scope elt) (i := i) hc nd hy hyl hsw pi ok pg (lc_tests hlen) (fun s H C cl fp => ⟨fun pins s' σ H' Q I h => h s H C cl fp pins s' I⟩) hs) (z _ fun v H' ⟨ys, s, r, q⟩ => ?_)
  exact ⟨_, _, (k.mono s).set (i := i) (d := dv ys) r, (Fr.of s).trans (Fr.drop i), q ys rfl⟩
section
variable {α β : Type} [Rp α] [Rp β] {scope : Scope} {Q : List β → Prop} {g : TG} {is : List Nat} {f : α → List Ent → List Ent}
/-- [elt for tg in it if ..] over a list -/
theorem q_lc (own0 : List (Str × Nat)) (nd : F.X.N.Nodup) (ok : BlkOk F.X.N F.X.env.scope scope own0)
    (hlen : ifs.length ≤ 1) (htg : ∀ F', Blk F scope F' → Tg F' tg α g is f) (his : ∀ i ∈ is, i ∈ own0.map (·.2)) (hno : ∀ i ∈ own0.map (·.2), ∀ o, env[i]? ≠ some (.ow o))
    (h : KE F env it ex fun xs : List α => xs.length ≤ 40000 ∧ ∃ (t : α → Bool) (v : α → β), (∀ F' x, Blk F scope F' → x ∈ xs → KTs F' (f x (wipeE env (own0.map (·.2)))) ifs fun b => b = t x) ∧
      (∀ F' x, Blk F scope F' → x ∈ xs → t x = true → KE F' (f x (wipeE env (own0.map (·.2)))) elt noex fun y => y = v x) ∧ Q ((xs.filter t).map v))
    (hc : F.X.calm = true := by rfl) (hs : ∀ x, foldedSetIterable it F.X.env x = pure x := by intro _; rfl) : KLc F env elt tg it ifs scope ex Q := fun own σ H k p => by
  have onone : ∀ i ∈ own0.map (·.2), own i = none := fun i hi => by
    cases q : own i with
    | none => rfl
    | some p => exact absurd (k.out i p q).choose_spec (hno i hi _)
  refine ⟨_, g, own0, hc, nd, (pi_list peE), ok, (fun s H C cl fp => (htg ⟨F.X.blk s H scope (compEnvC scope cl C F.X.env) fp, F.cls, F.hs, F.B⟩ ⟨s, H, C, cl, fp, F.hs, rfl⟩).pg), hlen, hs, fun Q' hq => ?_⟩
  refine tE_mono (fun v0 H1 ⟨xs, sm, ⟨l, vs, e1, e2, e3⟩, hx, t, v, ht, hv, hQ⟩ => ?_) (h own σ H k p)
  have hlv : vs.length = xs.length := by rw [e3.len, dvs_len]
  refine ⟨l, e1, ⟨vs, SqL.of (hid_of e2)⟩, fun D hD => ?_⟩
  have k1 := k.mono sm
  refine lc_list (K := F.X.K) (a := l) (xs := vs) (g := g) (tt := uT F scope ifs) (te := uE F scope elt) (vs := own0.map (·.2)) (σ := σ) (H1 := H1) (D := D) (Qd := fun H' => Q' (.ref D) H')
    (fun i H2 => LcAt F own H1 D t v (xs.take i) H2) (LcAt.start hD) (fun i H2 _ p => SqL.of (p.same hD _ _ (hid_of e2))) ?_ (fun H2 p => hq _ _ (lc_end k1 sm hD (by rw [hlv, List.take_length] at p; exact p) hQ))
  intro i u H2 hu p2
  obtain ⟨d, hd1, hd2⟩ := e3.get' hu
  rw [dvs_get] at hd1
  cases hxi : xs[i]? with
  | none => rw [hxi] at hd1; cases hd1
  | some y =>
    rw [hxi] at hd1
    have ed : dv y = d := Option.some.inj hd1
    subst ed
    have hmem : y ∈ xs := List.mem_of_getElem? hxi
    have tk : xs.take (i + 1) = xs.take i ++ [y] := by rw [List.take_add_one, hxi]; rfl
    rw [tk]
    exact lc_step own0 hlen htg his onone k1 hD (by rw [List.length_take]; omega) (fun F' b => ht F' y b hmem) (fun F' b z => hv F' y b hmem z) hd2 p2
/-- over a written tuple -/
theorem q_lcT (own0 : List (Str × Nat)) (nd : F.X.N.Nodup) (ok : BlkOk F.X.N F.X.env.scope scope own0)
    (hlen : ifs.length ≤ 1) (htg : ∀ F', Blk F scope F' → Tg F' tg α g is f) (his : ∀ i ∈ is, i ∈ own0.map (·.2)) (hno : ∀ i ∈ own0.map (·.2), ∀ o, env[i]? ≠ some (.ow o))
    (h : KE F env it ex fun xs : Tl α => xs.xs.length ≤ 40000 ∧ ∃ (t : α → Bool) (v : α → β), (∀ F' x, Blk F scope F' → x ∈ xs.xs → KTs F' (f x (wipeE env (own0.map (·.2)))) ifs fun b => b = t x) ∧
      (∀ F' x, Blk F scope F' → x ∈ xs.xs → t x = true → KE F' (f x (wipeE env (own0.map (·.2)))) elt noex fun y => y = v x) ∧ Q ((xs.xs.filter t).map v))
    (hc : F.X.calm = true := by rfl) (hs : ∀ x, foldedSetIterable it F.X.env x = pure x := by intro _; rfl) : KLc F env elt tg it ifs scope ex Q := fun own σ H k p => by
  have onone : ∀ i ∈ own0.map (·.2), own i = none := fun i hi => by
    cases q : own i with
    | none => rfl
    | some p => exact absurd (k.out i p q).choose_spec (hno i hi _)
  refine ⟨_, g, own0, hc, nd, (pi_tup peE), ok, (fun s H C cl fp => (htg ⟨F.X.blk s H scope (compEnvC scope cl C F.X.env) fp, F.cls, F.hs, F.B⟩ ⟨s, H, C, cl, fp, F.hs, rfl⟩).pg), hlen, hs, fun Q' hq => ?_⟩
  refine tE_mono (fun v0 H1 ⟨⟨xs⟩, sm, ⟨l, vs, e1, e2, e3⟩, hx, t, v, ht, hv, hQ⟩ => ?_) (h own σ H k p)
  have e3 : RepAll F.G (Hid (hd F.hs own) H1) vs (dvs xs) := e3
  have hlv : vs.length = xs.length := by rw [e3.len, dvs_len]
  refine ⟨l, e1, ⟨vs, SqT.of (hid_of e2)⟩, fun D hD => ?_⟩
  have k1 := k.mono sm
  refine lc_tup (K := F.X.K) (a := l) (xs := vs) (g := g) (tt := uT F scope ifs) (te := uE F scope elt) (vs := own0.map (·.2)) (σ := σ) (H1 := H1) (D := D) (Qd := fun H' => Q' (.ref D) H')
    (fun i H2 => LcAt F own H1 D t v (xs.take i) H2) (LcAt.start hD) (fun i H2 _ p => SqT.of (p.same hD _ _ (hid_of e2))) ?_ (fun H2 p => hq _ _ (lc_end k1 sm hD (by rw [hlv, List.take_length] at p; exact p) hQ))
  intro i u H2 hu p2
  obtain ⟨d, hd1, hd2⟩ := e3.get' hu
  rw [dvs_get] at hd1
  cases hxi : xs[i]? with
  | none => rw [hxi] at hd1; cases hd1
  | some y =>
    rw [hxi] at hd1
    have ed : dv y = d := Option.some.inj hd1
    subst ed
    have hmem : y ∈ xs := List.mem_of_getElem? hxi
    have tk : xs.take (i + 1) = xs.take i ++ [y] := by rw [List.take_add_one, hxi]; rfl
    rw [tk]
    exact lc_step own0 hlen htg his onone k1 hD (by rw [List.length_take]; show min i xs.length ≤ 40000; have : xs.length ≤ 40000 := hx; omega) (fun F' b => ht F' y b hmem) (fun F' b z => hv F' y b hmem z) hd2 p2
end
section
variable {β : Type} [Rp β] {scope : Scope} {Q : List β → Prop} {g : TG} {is : List Nat} {f : Int → List Ent → List Ent}
theorem span_get {lo hi : Int} {i : Nat} (h : i < (hi - lo).toNat) : (span lo hi)[i]? = some (lo + (i : Int)) := by
  unfold span
  rw [List.getElem?_map, List.getElem?_range h]; rfl
theorem span_len (lo hi : Int) : (span lo hi).length = (hi - lo).toNat := by unfold span; rw [List.length_map, List.length_range]
theorem lcr_core (own0 : List (Str × Nat)) {own : Nat → Option Addr} {σ : L2.St} {H H1 : Hp} {lo hi : Int} (hlen : ifs.length ≤ 1) (htg : ∀ F', Blk F scope F' → Tg F' tg Int g is f) (his : ∀ i ∈ is, i ∈ own0.map (·.2)) (onone : ∀ i ∈ own0.map (·.2), own i = none)
    (k1 : F.Kn own env σ H1) (sm : Same H H1) (hx : hi - lo ≤ 40000) {t : Int → Bool} {v : Int → β} (ht : ∀ F' x, Blk F scope F' → x ∈ span lo hi → KTs F' (f x (wipeE env (own0.map (·.2)))) ifs fun b => b = t x)
    (hv : ∀ F' x, Blk F scope F' → x ∈ span lo hi → t x = true → KE F' (f x (wipeE env (own0.map (·.2)))) elt noex fun y => y = v x) (hQ : Q (((span lo hi).filter t).map v)) {Q' : VK} (hq : ∀ v H', Rs F own H Q v H' → Q' v H') (D : Addr) (hD : H1 D = none) :
    ∃ W : Nat → Nat → Hp → Prop, (∃ m, W 0 m (upd H1 D (.lst []))) ∧ ∀ i m H', W i m H' →
      ((Itr lo (hi - lo).toNat).stop i H' ∧ Q' (.ref D) H') ∨ ((Itr lo (hi - lo).toNat).go i H' ∧ ∃ Nx : Hp → Prop, (∀ H'', Nx H'' → ∃ m', m' < m ∧ W (i + 1) m' H'') ∧ ∀ x H'', (Itr lo (hi - lo).toNat).yld i H' x H'' → g x (L2.wipe σ (own0.map (·.2))) H'' fun σ2 H2 => L2.wipe σ2 (own0.map (·.2)) = L2.wipe σ (own0.map (·.2)) ∧ uT F scope ifs σ2 H2 fun b H3 =>
        if b = true then uE F scope elt σ2 H3 fun y H4 => ∃ acc, H4 D = some (.lst acc) ∧ acc.length < sizeLine ∧ Nx (upd H4 D (.lst (acc ++ [y]))) else Nx H3) := by
  refine lc_range (lo := lo) (n := (hi - lo).toNat) (g := g) (tt := uT F scope ifs) (te := uE F scope elt) (vs := own0.map (·.2)) (σ := σ) (H1 := H1) (D := D) (Qd := fun H' => Q' (.ref D) H')
    (fun i H2 => LcAt F own H1 D t v ((span lo hi).take i) H2) (LcAt.start hD) ?_ (fun H2 p => hq _ _ (lc_end k1 sm hD (by rw [List.take_of_length_le (by rw [span_len]; exact Nat.le_refl _)] at p; exact p) hQ))
  intro i H2 hi' p2
  have tk : (span lo hi).take (i + 1) = (span lo hi).take i ++ [lo + (i : Int)] := by rw [List.take_add_one, span_get hi']; rfl
  rw [tk]
  have hmem : lo + (i : Int) ∈ span lo hi := List.mem_of_getElem? (span_get hi')
  exact lc_step own0 hlen htg his onone k1 hD (by rw [List.length_take]; omega) (fun F' b => ht F' _ b hmem) (fun F' b z => hv F' _ b hmem z) rfl p2
/-- over range(lo, hi) -/
theorem q_lcR2 {e2 : Expr} {p2 p3 : Pos} (own0 : List (Str × Nat)) (nd : F.X.N.Nodup) (m : NoGl F.X.mg) (ok : BlkOk F.X.N F.X.env.scope scope own0)
    (hlen : ifs.length ≤ 1) (htg : ∀ F', Blk F scope F' → Tg F' tg Int g is f) (his : ∀ i ∈ is, i ∈ own0.map (·.2)) (hno : ∀ i ∈ own0.map (·.2), ∀ o, env[i]? ≠ some (.ow o))
    (h : KE F env e ex fun lo : Int => KE F env e2 ex fun hi : Int => (hi - lo ≤ 40000 ∧ hi < 1000000 ∧ -1000000 < hi ∧ lo < 1000000 ∧ -1000000 < lo) ∧ ∃ (t : Int → Bool) (v : Int → β), (∀ F' x, Blk F scope F' → x ∈ span lo hi → KTs F' (f x (wipeE env (own0.map (·.2)))) ifs fun b => b = t x) ∧
      (∀ F' x, Blk F scope F' → x ∈ span lo hi → t x = true → KE F' (f x (wipeE env (own0.map (·.2)))) elt noex fun y => y = v x) ∧ Q (((span lo hi).filter t).map v))
    (hc : F.X.calm = true := by rfl) (hg : Gl F.X "range" := by rfl) (z : Ns F e [e2] := by rfl) (z' : Ns F e2 [] := by rfl) (z1 : starEach [e, e2] F.X.env = [(false, eval e F.X.env), (false, eval e2 F.X.env)] := by rfl) (z2 : starEach [e2] F.X.env = [(false, eval e2 F.X.env)] := by rfl)
    (hs : ∀ x, foldedSetIterable (.Call (.Name "range" p2) [e, e2] [] p3) F.X.env x = pure x := by intro _; rfl) : KLc F env elt tg (.Call (.Name "range" p2) [e, e2] [] p3) ifs scope ex Q := fun own σ H k p => by
  have onone : ∀ i ∈ own0.map (·.2), own i = none := fun i hi => by
    cases q : own i with
    | none => rfl
    | some p => exact absurd (k.out i p q).choose_spec (hno i hi _)
  refine ⟨_, g, own0, hc, nd, (pi_range2 hg (m _ (by simp)) (pa_cons peE (pa_cons peE pa_nil z') z) z1 z2), ok, (fun s H C cl fp => (htg ⟨F.X.blk s H scope (compEnvC scope cl C F.X.env) fp, F.cls, F.hs, F.B⟩ ⟨s, H, C, cl, fp, F.hs, rfl⟩).pg), hlen, hs, fun Q' hq => ?_⟩
  refine two k p h fun u1 u2 lo hi H1 sm r1 r2 ⟨⟨b0, b1, b2, b3, b4⟩, t, v, ht, hv, hQ⟩ => ?_
  cases r1; cases r2
  exact ⟨lo, hi, rfl, ⟨by omega, by omega, by omega, by omega⟩, lcr_core own0 hlen htg his onone (k.mono sm) sm b0 ht hv hQ hq⟩
/-- over range(hi) -/
theorem q_lcR1 {p2 p3 : Pos} (own0 : List (Str × Nat)) (nd : F.X.N.Nodup) (m : NoGl F.X.mg) (ok : BlkOk F.X.N F.X.env.scope scope own0)
    (hlen : ifs.length ≤ 1) (htg : ∀ F', Blk F scope F' → Tg F' tg Int g is f) (his : ∀ i ∈ is, i ∈ own0.map (·.2)) (hno : ∀ i ∈ own0.map (·.2), ∀ o, env[i]? ≠ some (.ow o))
    (h : KE F env e ex fun hi : Int => (hi ≤ 40000 ∧ -1000000 < hi) ∧ ∃ (t : Int → Bool) (v : Int → β), (∀ F' x, Blk F scope F' → x ∈ span 0 hi → KTs F' (f x (wipeE env (own0.map (·.2)))) ifs fun b => b = t x) ∧
      (∀ F' x, Blk F scope F' → x ∈ span 0 hi → t x = true → KE F' (f x (wipeE env (own0.map (·.2)))) elt noex fun y => y = v x) ∧ Q (((span 0 hi).filter t).map v))
    (hc : F.X.calm = true := by rfl) (hg : Gl F.X "range" := by rfl) (z : Ns F e [] := by rfl) (z1 : starEach [e] F.X.env = [(false, eval e F.X.env)] := by rfl)
    (hs : ∀ x, foldedSetIterable (.Call (.Name "range" p2) [e] [] p3) F.X.env x = pure x := by intro _; rfl) : KLc F env elt tg (.Call (.Name "range" p2) [e] [] p3) ifs scope ex Q := fun own σ H k p => by
  have onone : ∀ i ∈ own0.map (·.2), own i = none := fun i hi => by
    cases q : own i with
    | none => rfl
    | some p => exact absurd (k.out i p q).choose_spec (hno i hi _)
  refine ⟨_, g, own0, hc, nd, (pi_range1 hg (m _ (by simp)) (pa_cons peE pa_nil z) z1), ok, (fun s H C cl fp => (htg ⟨F.X.blk s H scope (compEnvC scope cl C F.X.env) fp, F.cls, F.hs, F.B⟩ ⟨s, H, C, cl, fp, F.hs, rfl⟩).pg), hlen, hs, fun Q' hq => ?_⟩
  refine tE_mono (fun u1 H1 ⟨hi, sm, r1, ⟨b0, b1⟩, t, v, ht, hv, hQ⟩ => ?_) (h own σ H k p)
  cases r1
  have z0 : (hi - 0).toNat = hi.toNat := by rw [Int.sub_zero]
  refine ⟨hi, rfl, by omega, by omega, ?_⟩
  have y := lcr_core (lo := 0) (hi := hi) own0 hlen htg his onone (k.mono sm) sm (by omega) ht hv hQ hq
  rw [z0] at y
  exact y
end
end
end Rk

set_option maxHeartbeats 4000000
namespace Rk
open PySem L2 PyProof.Rows
/-! ### tests decided -/
theorem ifB {b : Bool} {A B : Prop} (h1 : b = true → A) (h2 : b = false → B) : if b = true then A else B := by
  cases b with
  | true => exact h1 rfl
  | false => exact h2 rfl
theorem ifD {p A B : Prop} [Decidable p] (h1 : p → A) (h2 : ¬ p → B) : if decide p = true then A else B := by
  by_cases h : p
  · rw [if_pos (decide_eq_true h)]; exact h1 h
  · rw [if_neg (by simpa using h)]; exact h2 h
theorem ifND {p A B : Prop} [Decidable p] (h1 : ¬ p → A) (h2 : p → B) : if (!decide p) = true then A else B := by
  by_cases h : p
  · rw [if_neg (by simpa using h)]; exact h2 h
  · rw [if_pos (by simpa using h)]; exact h1 h
theorem ifNB {b : Bool} {A B : Prop} (h1 : b = false → A) (h2 : b = true → B) : if (!b) = true then A else B := by
  cases b with
  | true => exact h2 rfl
  | false => exact h1 rfl
section
variable {F : Fx} {env : List Ent} {ex : XP} {a b c e it : Expr} {es : List Expr} {pos p0 p1 : Pos} {n x : Str} {P : Po} {st : Stmt} {sts ss body : List Stmt}
theorem kt_imp {Q Q' : Bool → Prop} (q : ∀ x, Q x → Q' x) (h : KT F env e ex Q) : KT F env e ex Q' := fun own σ H k p => tT_mono (fun v H' ⟨s, z⟩ => ⟨s, q _ z⟩) (h own σ H k p)
theorem ktw_imp {Q Q' : Bool → Prop} (q : ∀ x, Q x → Q' x) (h : KTW F env e ex Q) : KTW F env e ex Q' := fun own σ H k p => tTW_mono (fun v H' ⟨s, z⟩ => ⟨s, q _ z⟩) (h own σ H k p)
theorem w_andD {Q : Bool → Prop} (y : Bool) (h : KT F env a ex fun x => (x = true → KTW F env (.BoolOp .And (b :: es) pos) ex fun z => z = y) ∧ Q (x && y)) : KTW F env (.BoolOp .And (a :: b :: es) pos) ex Q :=
  w_and (kt_imp (fun x ⟨h1, h2⟩ => by
    cases x with
    | true => exact ktw_imp (fun z ez => by subst ez; exact h2) (h1 rfl)
    | false => exact h2) h)
theorem w_orD {Q : Bool → Prop} (y : Bool) (h : KT F env a ex fun x => (x = false → KTW F env (.BoolOp .Or (b :: es) pos) ex fun z => z = y) ∧ Q (x || y)) : KTW F env (.BoolOp .Or (a :: b :: es) pos) ex Q :=
  w_or (kt_imp (fun x ⟨h1, h2⟩ => by
    cases x with
    | false => exact ktw_imp (fun z ez => by subst ez; exact h2) (h1 rfl)
    | true => exact h2) h)
theorem k_andD {Q : Bool → Prop} (y : Bool) (h : KE F env a ex fun x : Bool => (x = true → KE F env (.BoolOp .And (b :: es) pos) ex fun z : Bool => z = y) ∧ Q (x && y)) : KE F env (.BoolOp .And (a :: b :: es) pos) ex Q :=
  k_and (ke_imp (fun x ⟨h1, h2⟩ => by
    cases x with
    | true => exact ke_imp (fun z ez => by subst ez; exact h2) (h1 rfl)
    | false => exact h2) h)
theorem k_orD {Q : Bool → Prop} (y : Bool) (h : KE F env a ex fun x : Bool => (x = false → KE F env (.BoolOp .Or (b :: es) pos) ex fun z : Bool => z = y) ∧ Q (x || y)) : KE F env (.BoolOp .Or (a :: b :: es) pos) ex Q :=
  k_or (ke_imp (fun x ⟨h1, h2⟩ => by
    cases x with
    | false => exact ke_imp (fun z ez => by subst ez; exact h2) (h1 rfl)
    | true => exact h2) h)
theorem k_leleD {Q : Bool → Prop} (z : Int) (h : KE F env a ex fun x : Int => KE F env b ex fun y : Int => (KE F env c ex fun u : Int => u = z) ∧ Q (decide (x ≤ y ∧ y ≤ z)))
    (hm : lastMarks [.LtE, .LtE] [b, c] = false := by with_unfolding_all rfl) : KE F env (.Compare a [.LtE, .LtE] [b, c] pos) ex Q :=
  k_lele (ke_imp (fun x h => ke_imp (fun y ⟨h1, h2⟩ => by
    by_cases l : x ≤ y
    · rw [if_pos l]
      refine ke_imp (fun u eu => ?_) h1
      subst eu
      rw [show decide (y ≤ u) = decide (x ≤ y ∧ y ≤ u) from by simp [l]]
      exact h2
    · rw [if_neg l]
      rw [show decide (x ≤ y ∧ y ≤ z) = false from by simp [l]] at h2
      exact h2) h) h) hm
theorem t_leleD {Q : Bool → Prop} (z : Int) (h : KE F env a ex fun x : Int => KE F env b ex fun y : Int => (KE F env c ex fun u : Int => u = z) ∧ Q (decide (x ≤ y ∧ y ≤ z)))
    (hm : lastMarks [.LtE, .LtE] [b, c] = false := by with_unfolding_all rfl) : KT F env (.Compare a [.LtE, .LtE] [b, c] pos) ex Q :=
  t_lele (ke_imp (fun x h => ke_imp (fun y ⟨h1, h2⟩ => by
    by_cases l : x ≤ y
    · rw [if_pos l]
      refine ke_imp (fun u eu => ?_) h1
      subst eu
      rw [show decide (y ≤ u) = decide (x ≤ y ∧ y ≤ u) from by simp [l]]
      exact h2
    · rw [if_neg l]
      rw [show decide (x ≤ y ∧ y ≤ z) = false from by simp [l]] at h2
      exact h2) h) h) hm
theorem Got.ite {α : Type} [Rp α] {Q : α → Prop} {p : Prop} [Decidable p] {r1 r2 : Rz} (h1 : p → Got env ex Q r1) (h2 : ¬ p → Got env ex Q r2) : Got env ex Q (if p then r1 else r2) := by
  by_cases h : p
  · rw [if_pos h]; exact h1 h
  · rw [if_neg h]; exact h2 h
theorem Got.eq {α : Type} [Rp α] {ex : XP} {Q : α → Prop} {x : α} {r : Rz} (e : r = .ok (dv x)) (q : Q x) : Got env ex Q r := by rw [e]; exact ⟨x, rfl, q⟩
theorem Got.via {α : Type} [Rp α] {ex : XP} {Q : α → Prop} {r r' : Rz} (e : r = r') (q : Got env ex Q r') : Got env ex Q r := e ▸ q
theorem GotI.via {α : Type} {fs : α → List (Str × DV)} {ex : XP} {Q : α → Prop} {r r' : Ri} (e : r = r') (q : GotI fs env ex Q r') : GotI fs env ex Q r := e ▸ q
theorem GotI.ite {α : Type} {fs : α → List (Str × DV)} {ex : XP} {Q : α → Prop} {p : Prop} [Decidable p] {r1 r2 : Ri} (h1 : p → GotI fs env ex Q r1) (h2 : ¬ p → GotI fs env ex Q r2) : GotI fs env ex Q (if p then r1 else r2) := by
  by_cases h : p
  · rw [if_pos h]; exact h1 h
  · rw [if_neg h]; exact h2 h
theorem GotI.eq {α : Type} {fs : α → List (Str × DV)} {ex : XP} {Q : α → Prop} {y : α} {r : Ri} (e : r = .ok (fs y)) (q : Q y) : GotI fs env ex Q r := by rw [e]; exact ⟨y, rfl, q⟩
/-- x = e, the value by a name -/
theorem s_let {α : Type} [Rp α] (i : Nat) (nd : F.X.N.Nodup) (hi : F.X.N[i]? = some x) (h : KE F env e P.ex fun y : α => ∀ z : α, z = y → P.nx (env.set i (.sh (dv z)))) (hx : Loc F.X.env.scope x := by first | exact Or.inl rfl | exact Or.inr rfl) (hs : swapsWith e (some (.Name x p1)) pos.line F.X.env = pure false := by rfl)
    (hf : F.X.fn x = true ∨ F.X.env.scope.names.lookup x = some .local := by exact Or.inl rfl) : KS F env (.Assign [.Name x p1] e pos) P := s_asg i nd hi (ke_imp (fun y h => h y rfl) h) hx hs hf
theorem s_lets {α : Type} {ds : α → List DV} (is : List Nat) {kx : Nat} (hg : PGs F.X es (gNs is)) (hl : ∀ y, is.length = (ds y).length) (h : @KE F env e P.ex α (tpRp ds) fun y => ∀ z : α, z = y → P.nx (setAll env is (ds z))) (hc : F.X.calm = true := by rfl)
    (hn : (assignEach es F.X.env).length = is.length := by rfl) (hst : (assignEach es F.X.env).findIdx? (·.1) = none := by rfl) (hs : swapsWithSole [.Tuple es kx p1] e pos.line F.X.env = pure false := by rfl) (hw : swappedStores [.Tuple es kx p1] e F.X.env = pure none := by rfl)
    (h1 : (assignEach [.Tuple es kx p1] F.X.env).map (·.2) = [assign (.Tuple es kx p1) F.X.env] := by rfl) : KS F env (.Assign [.Tuple es kx p1] e pos) P := by
  letI : Rp α := tpRp ds
  exact s_unpack is hg hl (ke_imp (fun y h => h y rfl) h) hc hn hst hs hw h1
/-- slots forgotten -/
def fgt (env : List Ent) (ns : List Nat) : List Ent := ns.foldl (fun e j => e.set j .no) env
theorem Kn.fgt {σ : L2.St} {H : Hp} : ∀ (ns : List Nat) {env : List Ent} {own : Nat → Option Addr}, F.Kn own env σ H → ∃ own', F.Kn own' (Rk.fgt env ns) σ H ∧ Fr F.hs own own' H H
  | [], _, own, k => ⟨own, k, Fr.refl⟩
  | n :: ns, _, _, k => by
    obtain ⟨o, k', f⟩ := Kn.fgt ns (k.forget n)
    exact ⟨o, k', (Fr.drop n).trans f⟩
theorem At.fgt {own : Nat → Option Addr} {H : Hp} {q : List Ent → Prop} {σ : L2.St} {H' : Hp} (h : At F own H (fun e => ∃ ns, q (Rk.fgt e ns)) σ H') : At F own H q σ H' := by
  obtain ⟨env, o, k, f, ns, z⟩ := h
  obtain ⟨o', k', f'⟩ := Kn.fgt ns k
  exact ⟨_, o', k', f.trans f', z⟩
/-- the end of a turn: some slots may be forgotten -/
theorem turn_fgt {I : List Ent → Prop} (h : KSs F env body (turn P fun e => ∃ ns, I (fgt e ns))) : KSs F env body (turn P I) := fun own σ H k p =>
  tSs_mono (D := ends F own H (turn P fun e => ∃ ns, I (fgt e ns))) (D' := ends F own H (turn P I)) (fun _ _ z => At.fgt z) (fun _ _ z => z) (fun _ _ z => z) (fun _ _ z => At.fgt z) (h own σ H k p)
/-- a tuple of scalars: an item -/
theorem k_ixV {ex : XP} {i j} {p1 : Pos} {Q : V → Prop} (n : Nat) (hi : i = (n : Int)) (h : KE F env a ex fun t : Tv => ∃ v, t.vs[n]? = some v ∧ Q v) : KE F env (.Subscript a (.Constant (.int i) j p1) pos) ex Q := fun own σ H k p =>
  tE_of (pe_ix ix_tup peE pe_int (fun _ _ => rfl)) (tE_mono (fun v H' ⟨o, s, ⟨q, vs, e1, e2, e3⟩, u, hu, z⟩ => by
    obtain ⟨w, h1, h2⟩ := e3.get (i := n) (d := dv u) (by show (dvs o.vs)[n]? = _; rw [dvs_get, hu]; rfl)
    refine ⟨q, vs, _, w, e1, rfl, SqT.of (hid_of e2), ?_, u, s, h2, z⟩
    subst hi
    have hl : n < vs.length := (List.getElem?_eq_some_iff.mp h1).1
    unfold atI ixN
    rw [if_pos (by omega), if_pos (by omega)]
    simpa using h1) (h own σ H k p))
/-- a slot's int by a name -/
theorem at_int {i : Nat} {k v : Int} (e : k = v) (h : KSs F (env.set i (.sh (dv k))) sts P) : KSs F (env.set i (.sh (dv v))) sts P := e ▸ h
/-- a slot's datum as another -/
theorem ks_conv {α β : Type} [Rp α] [Rp β] (i : Nat) {y : α} (z : β) (he : env[i]? = some (.sh (dv y))) (hc : Cv y z) (h : KSs F (env.set i (.sh (dv z))) sts P) : KSs F env sts P :=
  ks_as (fun own σ H k => by
    obtain ⟨v, h1, h2⟩ := k.sh he
    have k2 := k.set (i := i) (v := v) (d := dv z) (hc _ _ _ h2)
    have es : σ.set i (some v) = σ := by
      apply List.ext_getElem?
      intro j
      by_cases q : i = j
      · subst q
        rw [List.getElem?_set_self (List.getElem?_eq_some_iff.mp h1).1, h1]
      · rw [List.getElem?_set_ne q]
    rw [es] at k2
    exact ⟨_, k2, Fr.drop i⟩) h
end
/-! ### the law's own promise -/
theorem hid_nil (H : Hp) : Hid (fun _ => False) H = H := by
  funext a
  exact hid_at fun z => z
/-- a list of at most n ints is handed in, True comes out -/
def lawSp (n : Nat) (K : PySem.W.Frag) : Sp := fun vs H Q _ => ∃ (a : Addr) (ns : List Int), vs = [.ref a] ∧ ns.length ≤ n ∧ SqL K H a (ns.map V.int) ∧ ∀ H', Q (.bl true) H'
theorem law_to {n : Nat} {K : PySem.W.Frag} {cls : Nat → Addr} {S : Pm} (h : ∀ ns : List Int, ns.length ≤ n → S [dv (Scr.mk ns)] (.ok (dv true))) : ∀ vs H Q E, lawSp n K vs H Q E → spOf K cls S vs H Q E := by
  rintro vs H Q E ⟨a, ns, rfl, hl, hs, q⟩
  refine ⟨fun _ => False, [dv (Scr.mk ns)], .ok (dv true), fun _ z => z.elim, ⟨⟨a, rfl, ?_⟩, trivial⟩, h ns hl, fun v H' _ r => ?_⟩
  · rw [hid_nil]; exact hs
  · have e : v = V.bl true := r
    rw [e]; exact q H'
theorem law_cx {P : Program} {w : World} {H : Hp} {s : Shared} {e : Value} {s' : Shared} (h : L2.CX P w [] H s (fun _ _ _ => False) e s') : False := by
  obtain ⟨_, _, _, _, _, _, _, _, _, _, _, _, z⟩ := h
  exact z
end Rk

set_option maxHeartbeats 4000000
/-! # The data of the program, and what its defs come to -/
namespace Sk
open PySem L2 PyProof.Rows Rk
/-- the five numbers of works -/
structure Wk where
  wall : Int
  flow : Int
  pump : Int
  rest : Int
  deep : Int
  deriving DecidableEq
/-- an hour -/
structure Hr where
  sl : Int
  sh : Int
  rl : Int
  rh : Int
  ship : Bool
  deriving DecidableEq
/-- a state -/
structure Stt where
  level : Int
  shut : Bool
  since : Int
  deriving DecidableEq
structure Crs where
  hours : List Hr
  deriving DecidableEq
def Wk.l (w : Wk) : List Int := [w.wall, w.flow, w.pump, w.rest, w.deep]
abbrev Hr.ds (h : Hr) : List DV := [dv h.sl, dv h.sh, dv h.rl, dv h.rh, dv h.ship]
abbrev Stt.ds (s : Stt) : List DV := [dv s.level, dv s.shut, dv s.since]
abbrev Tv.ds (t : Tv) : List DV := dvs t.vs
abbrev ds2 {α β : Type} [Rp α] [Rp β] (p : α × β) : List DV := [dv p.1, dv p.2]
instance : Rp Hr := tpRp Hr.ds
instance : Rp Stt := tpRp Stt.ds
def Wk.fs (w : Wk) : List (Str × DV) := [("wall", dv w.wall), ("flow", dv w.flow), ("pump", dv w.pump), ("rest", dv w.rest), ("deep", dv w.deep)]
def Crs.fs (c : Crs) : List (Str × DV) := [("hours", dv c.hours)]
instance : Rp Wk := obRp 0 Wk.fs
instance : Rp Crs := obRp 1 Crs.fs
theorem Wk.lk_wall (w : Wk) : w.fs.lookup ("wall" : Str) = some (dv w.wall) := by rfl
theorem Wk.lk_flow (w : Wk) : w.fs.lookup ("flow" : Str) = some (dv w.flow) := by rfl
theorem Wk.lk_pump (w : Wk) : w.fs.lookup ("pump" : Str) = some (dv w.pump) := by rfl
theorem Wk.lk_rest (w : Wk) : w.fs.lookup ("rest" : Str) = some (dv w.rest) := by rfl
theorem Wk.lk_deep (w : Wk) : w.fs.lookup ("deep" : Str) = some (dv w.deep) := by rfl
theorem Crs.lk_hours (c : Crs) : c.fs.lookup ("hours" : Str) = some (dv c.hours) := by rfl
theorem Wk.no_check_state (w : Wk) : w.fs.lookup ("check_state" : Str) = none := by rfl
theorem Wk.no_may_move (w : Wk) : w.fs.lookup ("may_move" : Str) = none := by rfl
theorem Wk.no_moved (w : Wk) : w.fs.lookup ("moved" : Str) = none := by rfl
theorem Wk.no_next_level (w : Wk) : w.fs.lookup ("next_level" : Str) = none := by rfl
theorem Crs.no_count (c : Crs) : c.fs.lookup ("count" : Str) = none := by rfl
theorem Crs.no_hour (c : Crs) : c.fs.lookup ("hour" : Str) = none := by rfl
theorem Crs.no_has (c : Crs) : c.fs.lookup ("has" : Str) = none := by rfl
theorem Crs.no_narrowed (c : Crs) : c.fs.lookup ("narrowed" : Str) = none := by rfl
theorem Crs.no_raised (c : Crs) : c.fs.lookup ("raised" : Str) = none := by rfl
/-- tuples by their scalars -/
def Hr.tv (h : Hr) : Tv := ⟨[.int h.sl, .int h.sh, .int h.rl, .int h.rh, .bl h.ship]⟩
def Stt.tv (s : Stt) : Tv := ⟨[.int s.level, .bl s.shut, .int s.since]⟩
theorem cv_of {α β : Type} {d1 : α → List DV} {d2 : β → List DV} {x : α} {y : β} (h : ∀ G H vs, RepAll G H vs (d1 x) → RepAll G H vs (d2 y)) : @Cv α β (tpRp d1) (tpRp d2) x y := fun G H v ⟨p, vs, e1, e2, e3⟩ => ⟨p, vs, e1, e2, h _ _ _ e3⟩
theorem cv_hr (h : Hr) : Cv h h.tv := cv_of fun G H vs r => match vs, r with | [_, _, _, _, _], r => r
theorem cv_hr' (h : Hr) : Cv h.tv h := cv_of fun G H vs r => match vs, r with | [_, _, _, _, _], r => r
theorem cv_st (h : Stt) : Cv h h.tv := cv_of fun G H vs r => match vs, r with | [_, _, _], r => r
theorem cv_st' (h : Stt) : Cv h.tv h := cv_of fun G H vs r => match vs, r with | [_, _, _], r => r
instance : Dt Hr := ⟨fun h => .tuple [.int h.sl, .int h.sh, .int h.rl, .int h.rh, .bool h.ship], 1, fun {G H v x} ⟨p, vs, e1, e2, e3⟩ => by
    subst e1
    match vs, e3 with
    | [_, _, _, _, _], e3 => exact .tup (SqT.of e2) (.cons (Dt.rp (x := x.sl) e3.1) (.cons (Dt.rp (x := x.sh) e3.2.1) (.cons (Dt.rp (x := x.rl) e3.2.2.1) (.cons (Dt.rp (x := x.rh) e3.2.2.2.1) (.cons (Dt.rp (x := x.ship) e3.2.2.2.2.1) .nil))))),
  fun _ => rfl, fun _ => Nat.le_refl _, fun x y => by
    show (x.sl == y.sl && (x.sh == y.sh && (x.rl == y.rl && (x.rh == y.rh && (x.ship == y.ship && true))))) = true ↔ _
    cases x; cases y; simp⟩
instance : Dt Stt := ⟨fun h => .tuple [.int h.level, .bool h.shut, .int h.since], 1, fun {G H v x} ⟨p, vs, e1, e2, e3⟩ => by
    subst e1
    match vs, e3 with
    | [_, _, _], e3 => exact .tup (SqT.of e2) (.cons (Dt.rp (x := x.level) e3.1) (.cons (Dt.rp (x := x.shut) e3.2.1) (.cons (Dt.rp (x := x.since) e3.2.2.1) .nil))),
  fun _ => rfl, fun _ => Nat.le_refl _, fun x y => by
    show (x.level == y.level && (x.shut == y.shut && (x.since == y.since && true))) = true ↔ _
    cases x; cases y; simp⟩
/-! ### what the defs come to -/
/-- a whole number from lo to hi -/
def isWh (v : V) (lo hi : Int) : Bool := match v with
  | .int i => decide (lo ≤ i ∧ i ≤ hi)
  | _ => false
/-- a scalar that may be asked -/
def scl (v : V) : Prop := ∃ t, tyS v = some t
def nextL (w : Wk) (level : Int) (shut : Bool) (sea river : Int) : Int := if shut = true then max 0 (level + river - w.pump) else level + river + max (-w.flow) (min w.flow (sea - level))
/-- works of good numbers -/
def Wk.Ok (w : Wk) : Prop := (1 ≤ w.wall ∧ w.wall ≤ 200) ∧ (1 ≤ w.flow ∧ w.flow ≤ 400) ∧ (0 ≤ w.pump ∧ w.pump ≤ 400) ∧ (1 ≤ w.rest ∧ w.rest ≤ 6) ∧ 0 ≤ w.deep ∧ w.deep ≤ w.wall
instance (w : Wk) : Decidable w.Ok := by unfold Wk.Ok; infer_instance
def Hr.Ok (h : Hr) : Prop := (0 ≤ h.sl ∧ h.sl ≤ h.sh ∧ h.sh ≤ 400) ∧ 0 ≤ h.rl ∧ h.rl ≤ h.rh ∧ h.rh ≤ 400
instance (h : Hr) : Decidable h.Ok := by unfold Hr.Ok; infer_instance
def Stt.Ok (w : Wk) (s : Stt) : Prop := (0 ≤ s.level ∧ s.level ≤ w.wall) ∧ 1 ≤ s.since ∧ s.since ≤ w.rest
instance (w : Wk) (s : Stt) : Decidable (s.Ok w) := by unfold Stt.Ok; infer_instance
def Crs.Ok (c : Crs) : Prop := 1 ≤ c.hours.length ∧ c.hours.length ≤ 72 ∧ ∀ h ∈ c.hours, h.Ok
/-- which state a tuple is of the works -/
def mkSt (w : Wk) (t : Tv) : Option Stt := match t.vs with
  | [.int l, .bl s, .int n] => if (Stt.mk l s n).Ok w then some ⟨l, s, n⟩ else none
  | _ => none
theorem mkSt_ok {w : Wk} {s : Stt} (h : s.Ok w) : mkSt w s.tv = some s := by
  unfold mkSt Stt.tv
  simp only
  rw [if_pos h]
theorem mkSt_some {w : Wk} {t : Tv} {s : Stt} (h : mkSt w t = some s) : t = s.tv ∧ s.Ok w := by
  unfold mkSt at h
  split at h
  · split at h
    · cases h
      refine ⟨?_, by assumption⟩
      cases t; simp_all [Stt.tv]
    · cases h
  · cases h
def mkHr (t : Tv) : Option Hr := match t.vs with
  | [.int a, .int b, .int c, .int d, .bl s] => if (Hr.mk a b c d s).Ok then some ⟨a, b, c, d, s⟩ else none
  | _ => none
theorem mkHr_ok {h : Hr} (k : h.Ok) : mkHr h.tv = some h := by
  unfold mkHr Hr.tv
  simp only
  rw [if_pos k]
theorem mkHr_not {h : Hr} (k : ¬ h.Ok) : mkHr h.tv = none := by
  unfold mkHr Hr.tv
  simp only
  rw [if_neg k]
theorem mkHr_some {t : Tv} {h : Hr} (k : mkHr t = some h) : t = h.tv ∧ h.Ok := by
  unfold mkHr at k
  split at k
  · split at k
    · cases k
      refine ⟨?_, by assumption⟩
      cases t; simp_all [Hr.tv]
    · cases k
  · cases k
def movedR (w : Wk) (s : Stt) (shut : Bool) : Rz := if shut = s.shut then .ok (dv (min (s.since + 1) w.rest)) else if s.since = w.rest then .ok (dv (1 : Int)) else .err 13
def goodL (w : Wk) (h : Hr) (shut : Bool) (level : Int) : Bool := decide (level ≤ w.wall) && (!h.ship || (!shut && decide (w.deep ≤ level)))

/-! ### tuples of three and five scalars -/
structure T3v where
  a : V
  b : V
  c : V
structure T5v where
  a : V
  b : V
  c : V
  d : V
  e : V
abbrev T3v.ds (t : T3v) : List DV := [dv t.a, dv t.b, dv t.c]
abbrev T5v.ds (t : T5v) : List DV := [dv t.a, dv t.b, dv t.c, dv t.d, dv t.e]
instance : Rp T3v := tpRp T3v.ds
instance : Rp T5v := tpRp T5v.ds
theorem cv_t3 (a b c : V) : Cv (Tv.mk [a, b, c]) (T3v.mk a b c) := cv_of fun G H vs r => match vs, r with | [_, _, _], r => r
theorem cv_t5 (a b c d e : V) : Cv (Tv.mk [a, b, c, d, e]) (T5v.mk a b c d e) := cv_of fun G H vs r => match vs, r with | [_, _, _, _, _], r => r
theorem tv3 {t : Tv} (h : (!true || !decide (((dvs t.vs).length : Int) = 3)) = false) : ∃ a b c, t = ⟨[a, b, c]⟩ := by
  obtain ⟨vs⟩ := t
  simp [dvs_len] at h
  match vs, h with
  | [a, b, c], _ => exact ⟨a, b, c, rfl⟩
  | [], h => simp at h
  | [_], h => simp at h
  | [_, _], h => simp at h
  | _ :: _ :: _ :: _ :: _, h => simp at h; omega
theorem tv5 {t : Tv} (h : (!true || !decide (((dvs t.vs).length : Int) = 5)) = false) : ∃ a b c d e, t = ⟨[a, b, c, d, e]⟩ := by
  obtain ⟨vs⟩ := t
  simp [dvs_len] at h
  match vs, h with
  | [a, b, c, d, e], _ => exact ⟨a, b, c, d, e, rfl⟩
  | [], h => simp at h
  | [_], h => simp at h
  | [_, _], h => simp at h
  | [_, _, _], h => simp at h
  | [_, _, _, _], h => simp at h
  | _ :: _ :: _ :: _ :: _ :: _ :: _, h => simp at h; omega
theorem no3 {w : Wk} {t : Tv} (h : (!true || !decide (((dvs t.vs).length : Int) = 3)) = true) : mkSt w t = none := by
  obtain ⟨vs⟩ := t
  unfold mkSt
  simp [dvs_len] at h
  split
  · rename_i e; simp only at e; subst e; simp at h
  · rfl
theorem no5 {t : Tv} (h : (!true || !decide (((dvs t.vs).length : Int) = 5)) = true) : mkHr t = none := by
  obtain ⟨vs⟩ := t
  unfold mkHr
  simp [dvs_len] at h
  split
  · rename_i e; simp only at e; subst e; simp at h
  · rfl
def isBl (v : V) : Bool := match v with
  | .bl _ => true
  | _ => false
theorem kb {v : V} (h : scl v) : ∃ k, tyS v = some k ∧ kitB k "bool" = some (isBl v) := by
  obtain ⟨t, ht⟩ := h
  cases v with
  | non => exact ⟨_, rfl, by decide +kernel⟩
  | bl b => exact ⟨_, rfl, by show kitB "bool" "bool" = some true; decide +kernel⟩
  | int i => exact ⟨_, rfl, by show kitB "int" "bool" = some false; decide +kernel⟩
  | str x => exact ⟨_, rfl, by show kitB "str" "bool" = some false; decide +kernel⟩
  | byt x => cases ht
  | flt x => cases ht
  | ref x => cases ht
  | ty x => cases ht
theorem isWh_int {v : V} {lo hi : Int} (h : isWh v lo hi = true) : ∃ i, v = .int i ∧ lo ≤ i ∧ i ≤ hi := by
  cases v with
  | int i => exact ⟨i, rfl, by simpa [isWh] using h⟩
  | _ => cases h
theorem isBl_bl {v : V} (h : isBl v = true) : ∃ b, v = .bl b := by
  cases v with
  | bl b => exact ⟨b, rfl⟩
  | _ => cases h
theorem cv_vi {v : V} {i : Int} (h : v = .int i) : Cv v i := fun G H u r => by
  have r : u = v := r
  rw [r, h]; exact rfl
theorem cv_vb {v : V} {i : Bool} (h : v = .bl i) : Cv v i := fun G H u r => by
  have r : u = v := r
  rw [r, h]; exact rfl
def bndOk (lo hi : V) : Bool := match hi with
  | .int h => decide (0 ≤ h ∧ h ≤ 400) && isWh lo 0 h
  | _ => false
theorem mkSt_isSome (w : Wk) (a b c : V) : (mkSt w ⟨[a, b, c]⟩).isSome = (isWh a 0 w.wall && isBl b && isWh c 1 w.rest) := by
  unfold mkSt
  split
  · rename_i l s n e
    simp only [List.cons.injEq, and_true] at e
    obtain ⟨rfl, rfl, rfl⟩ := e
    by_cases h : (Stt.mk l s n).Ok w
    · rw [if_pos h]
      unfold Stt.Ok at h
      simp only [isWh, isBl, Option.isSome]
      simp only [Bool.true_eq, Bool.and_eq_true, decide_eq_true_eq]
      exact ⟨⟨⟨h.1.1, h.1.2⟩, trivial⟩, h.2.1, h.2.2⟩
    · rw [if_neg h]
      unfold Stt.Ok at h
      simp only [isWh, isBl, Option.isSome]
      symm
      simp only [Bool.and_true, Bool.and_eq_false_iff, decide_eq_false_iff_not]
      simp only at h
      by_cases h1 : 0 ≤ l ∧ l ≤ w.wall
      · exact .inr fun h2 => h ⟨h1, h2⟩
      · exact .inl h1
  · rename_i ne
    simp only [Option.isSome]
    symm
    cases a with
    | int l =>
      cases b with
      | bl s =>
        cases c with
        | int n => exact absurd rfl (ne l s n)
        | _ => simp [isWh, isBl]
      | _ => simp [isBl]
    | _ => simp [isWh]
theorem mkHr_isSome (a b c d e : V) : (mkHr ⟨[a, b, c, d, e]⟩).isSome = (bndOk a b && bndOk c d && isBl e) := by
  unfold mkHr
  split
  · rename_i a b c d s e
    simp only [List.cons.injEq, and_true] at e
    obtain ⟨rfl, rfl, rfl, rfl, rfl⟩ := e
    by_cases h : (Hr.mk a b c d s).Ok
    · rw [if_pos h]
      unfold Hr.Ok at h
      simp only at h
      simp only [bndOk, isWh, isBl, Option.isSome]
      simp only [Bool.true_eq, Bool.and_eq_true, decide_eq_true_eq, and_true]
      omega
    · rw [if_neg h]
      unfold Hr.Ok at h
      simp only at h
      simp only [bndOk, isWh, isBl, Option.isSome]
      symm
      simp only [Bool.and_true, Bool.and_eq_false_iff, decide_eq_false_iff_not]
      omega
  · rename_i ne
    simp only [Option.isSome]
    symm
    cases b with
    | int b =>
      cases a with
      | int a =>
        cases d with
        | int d =>
          cases c with
          | int c =>
            cases e with
            | bl s => exact absurd rfl (ne a b c d s)
            | _ => simp [isBl]
          | _ => simp [bndOk, isWh]
        | _ => simp [bndOk]
      | _ => simp [bndOk, isWh]
    | _ => simp [bndOk]
theorem scl_i (i : Int) : scl (.int i) := ⟨_, rfl⟩
theorem scl_b (b : Bool) : scl (.bl b) := ⟨_, rfl⟩
theorem scl_st (s : Stt) : ∀ v ∈ s.tv.vs, scl v := by
  intro v hv
  simp only [Stt.tv, List.mem_cons, List.not_mem_nil, or_false] at hv
  rcases hv with rfl | rfl | rfl
  · exact scl_i _
  · exact scl_b _
  · exact scl_i _
theorem scl_hr (s : Hr) : ∀ v ∈ s.tv.vs, scl v := by
  intro v hv
  simp only [Hr.tv, List.mem_cons, List.not_mem_nil, or_false] at hv
  rcases hv with rfl | rfl | rfl | rfl | rfl
  · exact scl_i _
  · exact scl_i _
  · exact scl_i _
  · exact scl_i _
  · exact scl_b _
/-! ### works, courses made; what the methods answer -/
def initWk (a b c d e : V) : Ri :=
  if isWh a 1 200 = true then (if isWh b 1 400 = true then (if isWh c 0 400 = true then (if isWh d 1 6 = true then
    (match a, b, c, d, e with
    | .int a, .int b, .int c, .int d, .int e => if 0 ≤ e ∧ e ≤ a then .ok (Wk.fs ⟨a, b, c, d, e⟩) else .err 10
    | _, _, _, _, _ => .err 10) else .err 10) else .err 10) else .err 10) else .err 10
theorem initWk_ok {w : Wk} (h : w.Ok) : initWk (.int w.wall) (.int w.flow) (.int w.pump) (.int w.rest) (.int w.deep) = .ok w.fs := by
  unfold Wk.Ok at h
  unfold initWk
  rw [if_pos (by simp [isWh, h]), if_pos (by simp [isWh, h]), if_pos (by simp [isWh, h]), if_pos (by simp [isWh, h])]
  simp only
  rw [if_pos ⟨h.2.2.2.2.1, h.2.2.2.2.2⟩]
def mayR (w : Wk) (t : Tv) : Rz := match mkSt w t with
  | some s => .ok (dv (decide (s.since = w.rest)))
  | none => .err 12
theorem mayR_ok {w : Wk} {s : Stt} (h : s.Ok w) : mayR w s.tv = .ok (dv (decide (s.since = w.rest))) := by
  unfold mayR; rw [mkSt_ok h]
def movR (w : Wk) (t : Tv) (shut : Bool) : Rz := match mkSt w t with
  | some s => movedR w s shut
  | none => .err 12
theorem movR_ok {w : Wk} {s : Stt} {b : Bool} (h : s.Ok w) : movR w s.tv b = movedR w s b := by
  unfold movR; rw [mkSt_ok h]
def Crs.at_ (c : Crs) (n : V) : Option Hr := match n with
  | .int i => if 0 ≤ i then c.hours[i.toNat]? else none
  | _ => none
def hourR (c : Crs) (n : V) : Rz := match c.at_ n with
  | some h => .ok (dv h)
  | none => .err 12
theorem at_some {c : Crs} {i : Int} {h : Hr} (h0 : 0 ≤ i) (hi : c.hours[i.toNat]? = some h) : c.at_ (.int i) = some h := by
  unfold Crs.at_; simp only; rw [if_pos h0]; exact hi
theorem hourR_ok {c : Crs} {i : Int} {h : Hr} (h0 : 0 ≤ i) (hi : c.hours[i.toNat]? = some h) : hourR c (.int i) = .ok (dv h) := by
  unfold hourR; rw [at_some h0 hi]
def Hr.has (h : Hr) (sea river : Int) : Bool := decide (h.sl ≤ sea ∧ sea ≤ h.sh) && decide (h.rl ≤ river ∧ river ≤ h.rh)
def hasR (c : Crs) (n : V) (sea river : Int) : Rz := match c.at_ n with
  | some h => .ok (dv (h.has sea river))
  | none => .err 12
def spanL (w : Wk) (h : Hr) (level : Int) (shut : Bool) : Int × Int := (nextL w level shut h.sl h.rl, nextL w level shut h.sh h.rh)
def spanR (w : Wk) (c : Crs) (n : V) (level : Int) (shut : Bool) : Rz := match c.at_ n with
  | some h => .ok (dv (spanL w h level shut))
  | none => .err 12
def goodR (w : Wk) (c : Crs) (n : V) (shut : Bool) (level : Int) : Rz := match c.at_ n with
  | some h => .ok (dv (goodL w h shut level))
  | none => .err 12
def initCrs (hs : List Tv) : Ri := if 1 ≤ hs.length ∧ hs.length ≤ 72 ∧ hs.all (fun t => (mkHr t).isSome) = true then .ok (Crs.fs ⟨hs.filterMap mkHr⟩) else .err 11
theorem tvs_hr {hs : List Tv} (h : ∀ t ∈ hs, (mkHr t).isSome = true) : hs = (hs.filterMap mkHr).map Hr.tv := by
  induction hs with
  | nil => rfl
  | cons t ts ih =>
    have h1 := h t List.mem_cons_self
    cases e : mkHr t with
    | none => rw [e] at h1; cases h1
    | some x =>
      rw [List.filterMap_cons_some e, List.map_cons, ← ih fun u hu => h u (List.mem_cons_of_mem _ hu), ← (mkHr_some e).1]
theorem cv_hrs {hs : List Tv} (h : ∀ t ∈ hs, (mkHr t).isSome = true) : Cv hs (hs.filterMap mkHr) := by
  have e := tvs_hr h
  have c : Cv ((hs.filterMap mkHr).map Hr.tv) (hs.filterMap mkHr) := cv_list' cv_hr' _
  rw [← e] at c
  exact c
theorem hrs_back {hs : List Hr} (h : ∀ x ∈ hs, x.Ok) : (hs.map Hr.tv).filterMap mkHr = hs := by
  induction hs with
  | nil => rfl
  | cons x xs ih =>
    rw [List.map_cons, List.filterMap_cons_some (mkHr_ok (h x List.mem_cons_self)), ih fun y hy => h y (List.mem_cons_of_mem _ hy)]
theorem initCrs_ok {c : Crs} (h : c.Ok) : initCrs (c.hours.map Hr.tv) = .ok c.fs := by
  have hall : (c.hours.map Hr.tv).all (fun t => (mkHr t).isSome) = true := by
    rw [List.all_eq_true]
    intro t ht
    obtain ⟨x, hx, rfl⟩ := List.mem_map.mp ht
    rw [mkHr_ok (h.2.2 x hx)]; rfl
  unfold initCrs
  rw [List.length_map, if_pos ⟨h.1, h.2.1, hall⟩, hrs_back h.2.2]
/-- the n-th turn's function, from the first on -/
def runI {α : Type} (f : Nat → α → α) : Nat → α → α
  | 0, a => a
  | n + 1, a => f n (runI f n a)
theorem foldl_step {α β : Type} {f : β → α → β} {b : β} {xs : List α} {i : Nat} {y : α} (h : xs[i]? = some y) : (xs.take (i + 1)).foldl f b = f ((xs.take i).foldl f b) y := by
  rw [List.take_add_one, h, List.foldl_append]; rfl
theorem initWk_e {b c d e : V} {w : Int} (h1 : isWh (.int w) 1 200 = true) (h2 : isWh b 1 400 = true) (h3 : isWh c 0 400 = true) (h4 : isWh d 1 6 = true) (h5 : ¬ isWh e 0 w = true) : initWk (.int w) b c d e = .err 10 := by
  obtain ⟨b, rfl, _⟩ := isWh_int h2
  obtain ⟨c, rfl, _⟩ := isWh_int h3
  obtain ⟨d, rfl, _⟩ := isWh_int h4
  unfold initWk
  rw [if_pos h1, if_pos h2, if_pos h3, if_pos h4]
  cases e with
  | int e =>
    simp only
    rw [if_neg]
    intro z
    exact h5 (by simp [isWh, z])
  | _ => rfl
theorem initWk_ok' {a b c d e : Int} (h1 : isWh (.int a) 1 200 = true) (h2 : isWh (.int b) 1 400 = true) (h3 : isWh (.int c) 0 400 = true) (h4 : isWh (.int d) 1 6 = true) (h5 : 0 ≤ e ∧ e ≤ a) : initWk (.int a) (.int b) (.int c) (.int d) (.int e) = .ok (Wk.fs ⟨a, b, c, d, e⟩) := by
  unfold initWk
  rw [if_pos h1, if_pos h2, if_pos h3, if_pos h4]
  simp only
  rw [if_pos h5]
theorem bnd_wh {lo hi : V} (h : bndOk lo hi = true) : isWh hi 0 400 = true := by
  cases hi with
  | int i => simp [bndOk] at h; simp [isWh, h.1]
  | _ => cases h
end Sk
namespace Sk
open PySem L2 PyProof.Rows Rk
theorem hour_no {c : Crs} {n : V} (h : isWh n 0 ((c.hours.length : Int) - 1) = false) : hourR c n = .err 12 := by
  unfold hourR Crs.at_
  cases n with
  | int i =>
    simp only [isWh, decide_eq_false_iff_not] at h
    simp only
    by_cases h0 : 0 ≤ i
    · rw [if_pos h0, List.getElem?_eq_none_iff.mpr (by omega)]
    · rw [if_neg h0]
  | _ => rfl
end Sk

set_option maxHeartbeats 4000000
/-! # What the laws' own helpers come to -/
namespace Sk
open PySem L2 PyProof.Rows Rk
def cellOf (ns : List Int) (k : Int) : Int := if k < (ns.length : Int) then (ns[k.toNat]?).getD 0 else 7 * k + 3
theorem cell_in {ns : List Int} {k x : Int} (h : k < (ns.length : Int)) (e : ns[k.toNat]? = some x) : cellOf ns k = x := by
  unfold cellOf; rw [if_pos h, e]; rfl
theorem cell_out {ns : List Int} {k : Int} (h : ¬ k < (ns.length : Int)) : cellOf ns k = 7 * k + 3 := by
  unfold cellOf; rw [if_neg h]
def worksOf (c : Int) : Wk := ⟨2 + c % 7, 1 + c / 7 % 4, c / 28 % 4, 1 + c / 112 % 3, c / 336 % (2 + c % 7 + 1) * b2 (decide (c / 5 % 3 = 0))⟩
theorem b2_01 (b : Bool) : b2 b = 0 ∨ b2 b = 1 := by cases b <;> simp [b2]
theorem worksOf_ok (c : Int) : (worksOf c).Ok := by
  unfold Wk.Ok worksOf
  simp only
  refine ⟨⟨by omega, by omega⟩, ⟨by omega, by omega⟩, ⟨by omega, by omega⟩, ⟨by omega, by omega⟩, ?_⟩
  have h1 : 0 ≤ c / 336 % (2 + c % 7 + 1) := Int.emod_nonneg _ (by omega)
  have h2 : c / 336 % (2 + c % 7 + 1) < 2 + c % 7 + 1 := Int.emod_lt_of_pos _ (by omega)
  rcases b2_01 (decide (c / 5 % 3 = 0)) with e | e <;> rw [e] <;> omega
theorem worksOf_small (c : Int) : (worksOf c).wall ≤ 8 ∧ (worksOf c).rest ≤ 3 ∧ 2 ≤ (worksOf c).wall := by
  unfold worksOf; simp only; omega
def hourOf (c : Int) : Hr := ⟨c % 6, c % 6 + c / 18 % 5, c / 6 % 3, c / 6 % 3 + c / 90 % 3, decide (c / 270 % 5 = 0)⟩
theorem hourOf_ok (c : Int) : (hourOf c).Ok := by
  unfold Hr.Ok hourOf; simp only; omega
theorem hourOf_small (c : Int) : (hourOf c).sh ≤ 9 ∧ (hourOf c).rh ≤ 4 := by
  unfold hourOf; simp only; omega
def hrsTo (ns : List Int) (m : Int) : List Hr := (span 0 m).map fun k => hourOf (cellOf ns (2 + k))
def hoursOf (ns : List Int) (most : Int) : List Hr := hrsTo ns (1 + cellOf ns 1 % most)
theorem hoursOf_ok (ns : List Int) (most : Int) : ∀ h ∈ hoursOf ns most, h.Ok := by
  intro h hh
  obtain ⟨k, _, rfl⟩ := List.mem_map.mp hh
  exact hourOf_ok _
theorem hoursOf_len (ns : List Int) (most : Int) : (hoursOf ns most).length = (1 + cellOf ns 1 % most).toNat := by
  unfold hoursOf hrsTo; rw [List.length_map, span_len]; congr 1; omega
theorem hoursOf_bnd (ns : List Int) {most : Int} (h : 0 < most) : 1 ≤ (hoursOf ns most).length ∧ (hoursOf ns most).length ≤ most.toNat := by
  rw [hoursOf_len]
  have h1 : 0 ≤ cellOf ns 1 % most := Int.emod_nonneg _ (by omega)
  have h2 : cellOf ns 1 % most < most := Int.emod_lt_of_pos _ h
  omega
theorem next_le {w : Wk} (h : 0 ≤ w.flow) {l : Int} {s : Bool} {a b : Int} (hs : s = false) (hl : l < a) : nextL w l s a b = l + b + min (a - l) w.flow := by
  subst hs; unfold nextL; rw [if_neg (by decide)]; omega
theorem next_ge {w : Wk} (h : 0 ≤ w.flow) {l : Int} {s : Bool} {a b : Int} (hs : s = false) (hl : ¬ l < a) : nextL w l s a b = l + b - min (l - a) w.flow := by
  subst hs; unfold nextL; rw [if_neg (by decide)]; omega
def lSince (w : Wk) (s : Stt) (shut : Bool) : Int := if shut = s.shut then min w.rest (s.since + 1) else 1
def lMay (w : Wk) (s : Stt) (shut : Bool) : Bool := decide (shut = s.shut) || decide (w.rest ≤ s.since)
theorem movedR_may {w : Wk} {s : Stt} (h : s.Ok w) (shut : Bool) : movedR w s shut = if lMay w s shut = true then .ok (dv (lSince w s shut)) else .err 13 := by
  unfold movedR lMay lSince
  by_cases e : shut = s.shut
  · rw [if_pos e, if_pos e, if_pos (by simp [e]), Int.min_comm]
  · rw [if_neg e, if_neg e]
    by_cases g : s.since = w.rest
    · rw [if_pos g, if_pos (by simp [g])]
    · rw [if_neg g, if_neg]
      have := h.2.2
      simp [e]; omega
def stGo (l : Int) (b : Bool) (n : Int) : List Stt := (span 1 n).map fun k => ⟨l, b, k⟩
def stBl (w : Wk) (l : Int) (bs : List Bool) : List Stt := bs.flatMap fun b => stGo l b (w.rest + 1)
def stLv (w : Wk) (m : Int) : List Stt := (span 0 m).flatMap fun l => stBl w l [false, true]
def statesOf (w : Wk) : List Stt := stLv w (w.wall + 1)
theorem mem_span {lo hi y : Int} : y ∈ span lo hi ↔ lo ≤ y ∧ y < hi := by
  unfold span
  rw [List.mem_map]
  constructor
  · rintro ⟨k, hk, rfl⟩
    rw [List.mem_range] at hk
    omega
  · rintro ⟨h1, h2⟩
    exact ⟨(y - lo).toNat, by rw [List.mem_range]; omega, by omega⟩
theorem mem_states {w : Wk} (hw : w.Ok) {s : Stt} : s ∈ statesOf w ↔ s.Ok w := by
  unfold statesOf stLv stBl stGo
  simp only [List.mem_flatMap, List.mem_map, mem_span]
  unfold Stt.Ok
  constructor
  · rintro ⟨l, hl, b, _, k, hk, rfl⟩
    simp only
    omega
  · obtain ⟨l, b, n⟩ := s
    intro h
    simp only at h
    exact ⟨l, by omega, b, by cases b <;> simp, n, by omega, rfl⟩
theorem span_succ {lo : Int} {n : Nat} : span lo (lo + ((n + 1 : Nat) : Int)) = span lo (lo + (n : Int)) ++ [lo + (n : Int)] := by
  unfold span
  have e1 : (lo + ((n + 1 : Nat) : Int) - lo).toNat = n + 1 := by omega
  have e2 : (lo + (n : Int) - lo).toNat = n := by omega
  rw [e1, e2, List.range_succ, List.map_append]; rfl
theorem span_self (lo : Int) : span lo lo = [] := by unfold span; rw [Int.sub_self]; rfl
theorem span_s {lo k : Int} (h : lo ≤ k) : span lo (k + 1) = span lo k ++ [k] := by
  obtain ⟨n, rfl⟩ : ∃ n : Nat, k = lo + n := ⟨(k - lo).toNat, by omega⟩
  have := span_succ (lo := lo) (n := n)
  rw [← this]; congr 1; omega
theorem hrsTo_s {ns : List Int} {k : Int} (h : 0 ≤ k) : hrsTo ns (k + 1) = hrsTo ns k ++ [hourOf (cellOf ns (2 + k))] := by
  unfold hrsTo; rw [span_s h, List.map_append]; rfl
theorem hrsTo_len (ns : List Int) (k : Int) : (hrsTo ns k).length = k.toNat := by
  unfold hrsTo; rw [List.length_map, span_len]; congr 1; omega
theorem b2_ok (b : Bool) : -(2 ^ 64) < b2 b ∧ b2 b < 2 ^ 64 := by cases b <;> decide
theorem stGo_s {l : Int} {b : Bool} {k : Int} (h : 1 ≤ k) : stGo l b (k + 1) = stGo l b k ++ [⟨l, b, k⟩] := by
  unfold stGo; rw [span_s h, List.map_append]; rfl
theorem stGo_0 (l : Int) (b : Bool) : stGo l b 1 = [] := rfl
theorem stBl_s {w : Wk} {l : Int} {bs : List Bool} {b : Bool} : stBl w l (bs ++ [b]) = stBl w l bs ++ stGo l b (w.rest + 1) := by
  unfold stBl; rw [List.flatMap_append]; simp
theorem stLv_s {w : Wk} {m : Int} (h : 0 ≤ m) : stLv w (m + 1) = stLv w m ++ stBl w m [false, true] := by
  unfold stLv; rw [span_s h, List.flatMap_append]; simp
theorem stGo_len (l : Int) (b : Bool) (n : Int) : (stGo l b n).length = (n - 1).toNat := by unfold stGo; rw [List.length_map, span_len]
theorem stBl_len {w : Wk} {l : Int} : ∀ bs : List Bool, (stBl w l bs).length = bs.length * w.rest.toNat
  | [] => by simp [stBl]
  | b :: bs => by
    have e : stBl w l (b :: bs) = stGo l b (w.rest + 1) ++ stBl w l bs := by unfold stBl; rw [List.flatMap_cons]
    rw [e, List.length_append, stBl_len bs, stGo_len, List.length_cons, Nat.add_mul]; omega
theorem stLv_len {w : Wk} : ∀ n : Nat, (stLv w (n : Int)).length = n * (2 * w.rest.toNat)
  | 0 => by unfold stLv; rw [show ((0 : Nat) : Int) = 0 from rfl, span_self]; simp
  | n + 1 => by
    have e : (((n + 1 : Nat) : Int)) = (n : Int) + 1 := by omega
    rw [e, stLv_s (by omega), List.length_append, stLv_len n, stBl_len, Nat.add_mul]; simp
theorem stLv_le {w : Wk} (hw : w.Ok) {m : Int} (h0 : 0 ≤ m) (h1 : m ≤ 201) : (stLv w m).length ≤ 2412 := by
  obtain ⟨n, rfl⟩ : ∃ n : Nat, m = n := ⟨m.toNat, by omega⟩
  rw [stLv_len]
  unfold Wk.Ok at hw
  have h2 : w.rest.toNat ≤ 6 := by omega
  have h3 : n ≤ 201 := by omega
  calc n * (2 * w.rest.toNat) ≤ 201 * 12 := Nat.mul_le_mul h3 (by omega)
    _ = 2412 := rfl
/-! ### the levels that an hour lets come -/
def addL (f : List Int) (y : Int) : List Int := if y ∈ f then f else f ++ [y]
def lvR (w : Wk) (h : Hr) (l : Int) (s : Bool) (sea : Int) (f : List Int) (m : Int) : List Int := (span h.rl m).foldl (fun f river => addL f (nextL w l s sea river)) f
def lvS (w : Wk) (h : Hr) (l : Int) (s : Bool) (m : Int) : List Int := (span h.sl m).foldl (fun f sea => lvR w h l s sea f (h.rh + 1)) []
def levelsOf (w : Wk) (h : Hr) (l : Int) (s : Bool) : List Int := lvS w h l s (h.sh + 1)
theorem lvR_0 {w : Wk} {h : Hr} {l : Int} {s : Bool} {sea : Int} {f : List Int} : lvR w h l s sea f h.rl = f := by unfold lvR; rw [span_self]; rfl
theorem lvS_0 {w : Wk} {h : Hr} {l : Int} {s : Bool} : lvS w h l s h.sl = [] := by unfold lvS; rw [span_self]; rfl
theorem lvR_s {w : Wk} {h : Hr} {l : Int} {s : Bool} {sea : Int} {f : List Int} {m : Int} (g : h.rl ≤ m) : lvR w h l s sea f (m + 1) = addL (lvR w h l s sea f m) (nextL w l s sea m) := by
  unfold lvR; rw [span_s g, List.foldl_append]; rfl
theorem lvS_s {w : Wk} {h : Hr} {l : Int} {s : Bool} {m : Int} (g : h.sl ≤ m) : lvS w h l s (m + 1) = lvR w h l s m (lvS w h l s m) (h.rh + 1) := by
  unfold lvS; rw [span_s g, List.foldl_append]; rfl
theorem addL_mem {f : List Int} {y z : Int} : z ∈ addL f y ↔ z ∈ f ∨ z = y := by
  unfold addL
  by_cases h : y ∈ f
  · rw [if_pos h]
    exact ⟨.inl, fun g => g.elim id fun e => e ▸ h⟩
  · rw [if_neg h, List.mem_append, List.mem_singleton]
theorem addL_nd {f : List Int} {y : Int} (h : f.Nodup) : (addL f y).Nodup := by
  unfold addL
  by_cases g : y ∈ f
  · rw [if_pos g]; exact h
  · rw [if_neg g]
    refine List.nodup_append.mpr ⟨h, by simp, fun a ha b hb e => ?_⟩
    rw [List.mem_singleton] at hb
    exact g (by rw [← hb, ← e]; exact ha)
theorem foldl_mem {α : Type} {g : List Int → α → List Int} {P : α → Int → Prop} (hg : ∀ f x z, z ∈ g f x ↔ z ∈ f ∨ P x z) : ∀ (xs : List α) (f : List Int) (z : Int), z ∈ xs.foldl g f ↔ z ∈ f ∨ ∃ x ∈ xs, P x z
  | [], f, z => by simp
  | x :: xs, f, z => by
    rw [List.foldl_cons, foldl_mem hg xs, hg]
    constructor
    · rintro ((h | h) | ⟨y, hy, h⟩)
      · exact .inl h
      · exact .inr ⟨x, List.mem_cons_self, h⟩
      · exact .inr ⟨y, List.mem_cons_of_mem _ hy, h⟩
    · rintro (h | ⟨y, hy, h⟩)
      · exact .inl (.inl h)
      · rcases List.mem_cons.mp hy with rfl | hy
        · exact .inl (.inr h)
        · exact .inr ⟨y, hy, h⟩
theorem foldl_nd {α : Type} {g : List Int → α → List Int} (hg : ∀ f x, f.Nodup → (g f x).Nodup) : ∀ (xs : List α) (f : List Int), f.Nodup → (xs.foldl g f).Nodup
  | [], f, h => h
  | x :: xs, f, h => foldl_nd hg xs _ (hg f x h)
theorem lvR_mem {w : Wk} {h : Hr} {l : Int} {s : Bool} {sea : Int} {f : List Int} {m z : Int} : z ∈ lvR w h l s sea f m ↔ z ∈ f ∨ ∃ river, (h.rl ≤ river ∧ river < m) ∧ z = nextL w l s sea river := by
  unfold lvR
  rw [foldl_mem (P := fun river z => z = nextL w l s sea river) (fun f x z => addL_mem)]
  simp only [mem_span]
theorem lvS_mem {w : Wk} {h : Hr} {l : Int} {s : Bool} {m z : Int} : z ∈ lvS w h l s m ↔ ∃ sea, (h.sl ≤ sea ∧ sea < m) ∧ ∃ river, (h.rl ≤ river ∧ river < h.rh + 1) ∧ z = nextL w l s sea river := by
  unfold lvS
  rw [foldl_mem (P := fun sea z => ∃ river, (h.rl ≤ river ∧ river < h.rh + 1) ∧ z = nextL w l s sea river) (fun f x z => lvR_mem)]
  simp only [mem_span, List.not_mem_nil, false_or]
theorem lvR_nd {w : Wk} {h : Hr} {l : Int} {s : Bool} {sea : Int} {f : List Int} {m : Int} (n : f.Nodup) : (lvR w h l s sea f m).Nodup := foldl_nd (fun _ _ => addL_nd) _ _ n
theorem lvS_nd {w : Wk} {h : Hr} {l : Int} {s : Bool} {m : Int} : (lvS w h l s m).Nodup := foldl_nd (fun _ _ n => lvR_nd n) _ _ (by simp)
theorem mem_levels {w : Wk} {h : Hr} {l : Int} {s : Bool} {z : Int} : z ∈ levelsOf w h l s ↔ ∃ sea, (h.sl ≤ sea ∧ sea ≤ h.sh) ∧ ∃ river, (h.rl ≤ river ∧ river ≤ h.rh) ∧ z = nextL w l s sea river := by
  unfold levelsOf
  rw [lvS_mem]
  simp only [Int.lt_add_one_iff]
theorem levels_nd {w : Wk} {h : Hr} {l : Int} {s : Bool} : (levelsOf w h l s).Nodup := lvS_nd
theorem addL_len (f : List Int) (y : Int) : (addL f y).length ≤ f.length + 1 := by
  unfold addL
  by_cases h : y ∈ f
  · rw [if_pos h]; omega
  · rw [if_neg h, List.length_append]; exact Nat.le_refl _
theorem foldl_len {α : Type} {g : List Int → α → List Int} {c : Nat} (hg : ∀ f x, (g f x).length ≤ f.length + c) : ∀ (xs : List α) (f : List Int), (xs.foldl g f).length ≤ f.length + xs.length * c
  | [], f => by simp
  | x :: xs, f => by
    rw [List.foldl_cons, List.length_cons, Nat.add_mul]
    have h1 := foldl_len hg xs (g f x)
    have h2 := hg f x
    omega
theorem lv_small {w : Wk} {h : Hr} {l : Int} {s : Bool} {sea a b : Int} (hh : h.Ok) (h1 : h.sh ≤ 100) (h2 : h.rh ≤ 100) (ha : a ≤ h.sh) (hb : b ≤ h.rh + 1) : (lvR w h l s sea (lvS w h l s a) b).length < 100000 := by
  unfold Hr.Ok at hh
  have e1 : (lvR w h l s sea (lvS w h l s a) b).length ≤ (lvS w h l s a).length + (span h.rl b).length * 1 := foldl_len (fun f x => addL_len f _) _ _
  have e2 : (lvS w h l s a).length ≤ ([] : List Int).length + (span h.sl a).length * 101 := foldl_len (fun f x => by
    have e3 : (lvR w h l s x f (h.rh + 1)).length ≤ f.length + (span h.rl (h.rh + 1)).length * 1 := foldl_len (fun f x => addL_len f _) _ _
    rw [span_len] at e3
    omega) _ _
  rw [span_len] at e1 e2
  simp only [List.length_nil] at e2
  omega
/-- a walk by steps of at most one meets all between its ends -/
theorem walk_meets {g : Nat → Int} (hg : ∀ n, g (n + 1) ≤ g n + 1) : ∀ (n : Nat) (y : Int), g 0 ≤ y → y ≤ g n → ∃ k ≤ n, g k = y
  | 0, y, h0, h1 => ⟨0, Nat.le_refl _, Int.le_antisymm h0 h1⟩
  | n + 1, y, h0, h1 => by
    by_cases h : y ≤ g n
    · obtain ⟨k, hk, e⟩ := walk_meets hg n y h0 h
      exact ⟨k, Nat.le_succ_of_le hk, e⟩
    · have := hg n
      exact ⟨n + 1, Nat.le_refl _, by omega⟩
theorem next_up {w : Wk} (hf : 0 ≤ w.flow) {l : Int} {s : Bool} {a b a' b' : Int} (ha : a ≤ a') (hb : b ≤ b') : nextL w l s a b ≤ nextL w l s a' b' := by
  unfold nextL
  cases s <;> simp only [if_pos, if_neg, Bool.false_eq_true, if_false, if_true] <;> omega
theorem next_step1 {w : Wk} {l : Int} {s : Bool} {a b : Int} : nextL w l s (a + 1) b ≤ nextL w l s a b + 1 := by
  unfold nextL
  cases s <;> simp only [Bool.false_eq_true, if_false, if_true] <;> omega
theorem next_step2 {w : Wk} {l : Int} {s : Bool} {a b : Int} : nextL w l s a (b + 1) ≤ nextL w l s a b + 1 := by
  unfold nextL
  cases s <;> simp only [Bool.false_eq_true, if_false, if_true] <;> omega
/-- the levels are all from one end of the span to the other -/
theorem levels_span {w : Wk} {h : Hr} (hf : 0 ≤ w.flow) (hh : h.Ok) {l : Int} {s : Bool} {z : Int} : z ∈ levelsOf w h l s ↔ (spanL w h l s).1 ≤ z ∧ z ≤ (spanL w h l s).2 := by
  rw [mem_levels]
  unfold spanL Hr.Ok at *
  simp only
  constructor
  · rintro ⟨a, ha, b, hb, rfl⟩
    exact ⟨next_up hf ha.1 hb.1, next_up hf ha.2 hb.2⟩
  · rintro ⟨h1, h2⟩
    by_cases q : z ≤ nextL w l s h.sh h.rl
    · obtain ⟨k, hk, e⟩ := walk_meets (g := fun n => nextL w l s (h.sl + (n : Int)) h.rl) (fun n => by
        have := next_step1 (w := w) (l := l) (s := s) (a := h.sl + (n : Int)) (b := h.rl)
        have e : h.sl + ((n + 1 : Nat) : Int) = h.sl + (n : Int) + 1 := by omega
        simp only [e]; exact this) (h.sh - h.sl).toNat z (by simpa using h1) (by
          have e : h.sl + ((h.sh - h.sl).toNat : Int) = h.sh := by omega
          simp only [e]; exact q)
      exact ⟨h.sl + (k : Int), by omega, h.rl, by omega, e.symm⟩
    · obtain ⟨k, hk, e⟩ := walk_meets (g := fun n => nextL w l s h.sh (h.rl + (n : Int))) (fun n => by
        have := next_step2 (w := w) (l := l) (s := s) (a := h.sh) (b := h.rl + (n : Int))
        have e : h.rl + ((n + 1 : Nat) : Int) = h.rl + (n : Int) + 1 := by omega
        simp only [e]; exact this) (h.rh - h.rl).toNat z (by simp; omega) (by
          have e : h.rl + ((h.rh - h.rl).toNat : Int) = h.rh := by omega
          simp only [e]; exact h2)
      exact ⟨h.sh, by omega, h.rl + (k : Int), by omega, e.symm⟩
theorem span_nd (lo hi : Int) : (span lo hi).Nodup := by
  unfold span
  refine List.Pairwise.map _ (R := (· ≠ ·)) (fun a b h e => h (by omega)) (List.nodup_range)
theorem span_sorted (lo hi : Int) : (span lo hi).Pairwise (· ≤ ·) := by
  unfold span
  refine List.Pairwise.map _ (R := (· < ·)) (fun a b h => by omega) (List.pairwise_lt_range)
theorem levels_perm {w : Wk} {h : Hr} (hf : 0 ≤ w.flow) (hh : h.Ok) {l : Int} {s : Bool} : (levelsOf w h l s).Perm (span (spanL w h l s).1 ((spanL w h l s).2 + 1)) := by
  rw [List.perm_ext_iff_of_nodup levels_nd (span_nd _ _)]
  intro z
  rw [levels_span hf hh, mem_span, Int.lt_add_one_iff]
theorem sorted_eq {xs ys zs : List Int} (h1 : ys.Perm xs) (h2 : ys.Pairwise (· ≤ ·)) (h3 : xs.Perm zs) (h4 : zs.Pairwise (· ≤ ·)) : ys = zs :=
  List.Perm.eq_of_pairwise (fun _ _ _ _ => Int.le_antisymm) h2 h4 (h1.trans h3)
theorem levels_ne {w : Wk} {h : Hr} (hf : 0 ≤ w.flow) (hh : h.Ok) {l : Int} {s : Bool} : (spanL w h l s).1 ∈ levelsOf w h l s ∧ (spanL w h l s).2 ∈ levelsOf w h l s := by
  have e : (spanL w h l s).1 ≤ (spanL w h l s).2 := by
    unfold spanL; simp only
    unfold Hr.Ok at hh
    exact next_up hf hh.1.2.1 hh.2.2.1
  rw [levels_span hf hh, levels_span hf hh]
  omega
/-! ### works and hours of the whole range -/
def gW (c : Int) : Wk := ⟨1 + c % 200, 1 + c / 200 % 400, c / 80000 % 401, 1 + c / 7 % 6, c / 11 % (1 + c % 200 + 1)⟩
def gH (m : Int) : Hr := ⟨m % 401, m % 401 + m / 160801 % (401 - m % 401), m / 401 % 401, m / 401 % 401 + m / 7 % (401 - m / 401 % 401), decide (m % 3 = 0)⟩
theorem gW_ok (c : Int) : (gW c).Ok := by
  unfold Wk.Ok gW
  simp only
  have h1 : 0 ≤ c / 11 % (1 + c % 200 + 1) := Int.emod_nonneg _ (by omega)
  have h2 : c / 11 % (1 + c % 200 + 1) < 1 + c % 200 + 1 := Int.emod_lt_of_pos _ (by omega)
  omega
theorem gH_ok (m : Int) : (gH m).Ok := by
  unfold Hr.Ok gH
  simp only
  have h1 : 0 ≤ m / 160801 % (401 - m % 401) := Int.emod_nonneg _ (by omega)
  have h2 : m / 160801 % (401 - m % 401) < 401 - m % 401 := Int.emod_lt_of_pos _ (by omega)
  have h3 : 0 ≤ m / 7 % (401 - m / 401 % 401) := Int.emod_nonneg _ (by omega)
  have h4 : m / 7 % (401 - m / 401 % 401) < 401 - m / 401 % 401 := Int.emod_lt_of_pos _ (by omega)
  omega
theorem hoursOf_small (ns : List Int) (most : Int) : ∀ h ∈ hoursOf ns most, h.sh ≤ 9 ∧ h.rh ≤ 4 := by
  intro h hh
  obtain ⟨k, _, rfl⟩ := List.mem_map.mp hh
  exact hourOf_small _
theorem scl_hrs (hs : List Hr) : ∀ t ∈ hs.map Hr.tv, ∀ v ∈ t.vs, scl v := by
  intro t ht
  obtain ⟨h, _, rfl⟩ := List.mem_map.mp ht
  exact scl_hr h
theorem spanR_ok {w : Wk} {c : Crs} {i : Int} {h : Hr} {l : Int} {s : Bool} (h0 : 0 ≤ i) (hi : c.hours[i.toNat]? = some h) : spanR w c (.int i) l s = .ok (dv (spanL w h l s)) := by
  unfold spanR; rw [at_some h0 hi]
theorem goodR_ok {w : Wk} {c : Crs} {i : Int} {h : Hr} {l : Int} {s : Bool} (h0 : 0 ≤ i) (hi : c.hours[i.toNat]? = some h) : goodR w c (.int i) s l = .ok (dv (goodL w h s l)) := by
  unfold goodR; rw [at_some h0 hi]
theorem hasR_ok {c : Crs} {i : Int} {h : Hr} {a b : Int} (h0 : 0 ≤ i) (hi : c.hours[i.toNat]? = some h) : hasR c (.int i) a b = .ok (dv (h.has a b)) := by
  unfold hasR; rw [at_some h0 hi]
theorem crs1 {h : Hr} (k : h.Ok) : Crs.Ok ⟨[h]⟩ := ⟨Nat.le_refl _, Nat.le_of_ble_eq_true rfl, fun x hx => by rw [List.mem_singleton] at hx; exact hx ▸ k⟩
theorem stc_ok {w : Wk} (hw : w.Ok) (b : Bool) : ∀ s ∈ ((span 1 (w.rest + 1)).filter (fun _ => true)).map (fun x => Stt.mk (w.wall / 2) b x), s.Ok w := by
  intro s hs
  obtain ⟨x, hx, rfl⟩ := List.mem_map.mp hs
  have hx := mem_span.mp (List.mem_filter.mp hx).1
  unfold Wk.Ok at hw
  unfold Stt.Ok
  simp only
  omega
theorem stc_len {w : Wk} (hw : w.Ok) (l : Int) (b : Bool) : (((span 1 (w.rest + 1)).filter (fun _ => true)).map (fun x => Stt.mk l b x)).length ≤ 6 := by
  rw [List.length_map]
  have h1 := List.length_filter_le (fun _ : Int => true) (span 1 (w.rest + 1))
  rw [span_len] at h1
  unfold Wk.Ok at hw
  omega
theorem spanL_bnd {w : Wk} {h : Hr} (hw : w.Ok) (hh : h.Ok) {l : Int} {s : Bool} (h0 : 0 ≤ l) (h1 : l ≤ 201) : (-1000 < (spanL w h l s).1 ∧ (spanL w h l s).1 < 2000) ∧ -1000 < (spanL w h l s).2 ∧ (spanL w h l s).2 < 2000 := by
  unfold Wk.Ok at hw
  unfold Hr.Ok at hh
  unfold spanL nextL
  cases s <;> simp only [Bool.false_eq_true, if_false, if_true] <;> omega
theorem ends_eq {w : Wk} {h : Hr} {l : Int} {s : Bool} {levels : List Int} (hs : ∀ z, z ∈ levels ↔ (spanL w h l s).1 ≤ z ∧ z ≤ (spanL w h l s).2) {a b : Int} (ha : a ∈ levels) (la : ∀ z ∈ levels, a ≤ z) (hb : b ∈ levels) (lb : ∀ z ∈ levels, z ≤ b) : spanL w h l s = (a, b) := by
  have h1 := (hs a).mp ha
  have h2 := (hs b).mp hb
  have h3 := la (spanL w h l s).1 ((hs _).mpr (by omega))
  have h4 := lb (spanL w h l s).2 ((hs _).mpr (by omega))
  exact Prod.ext (by show (spanL w h l s).1 = a; omega) (by show (spanL w h l s).2 = b; omega)
end Sk

set_option maxHeartbeats 4000000
namespace Rk
open PySem L2 PyProof.Rows
/-! ### None or a datum -/
structure Op (α : Type) where
  o : Option α
instance {α : Type} [Rp α] : Rp (Op α) where
  rep := fun G H v a => match a.o with
    | none => v = .non
    | some x => Rp.rep G H v x
  mono := fun {G H H' v a} e h => by
    obtain ⟨o⟩ := a
    cases o with
    | none => exact h
    | some x => exact Rp.mono e h
/-- data that are never None -/
class NN (α : Type) [Rp α] : Prop where
  ne : ∀ {G : Gm} {H : Hp} {v : V} {x : α}, Rp.rep G H v x → v ≠ .non
theorem nn_ob {α : Type} {c : Nat} {fs : α → List (Str × DV)} : @NN α (obRp c fs) := by
  letI : Rp α := obRp c fs
  exact ⟨fun {G H v x} ⟨p, _, _, e, _⟩ z => by rw [e] at z; cases z⟩
theorem nn_tp {α : Type} {ds : α → List DV} : @NN α (tpRp ds) := by
  letI : Rp α := tpRp ds
  exact ⟨fun {G H v x} ⟨p, _, e, _⟩ z => by rw [e] at z; cases z⟩
instance {α : Type} [Rp α] : NN (List α) := ⟨fun {G H v x} ⟨p, _, e, _⟩ z => by rw [e] at z; cases z⟩
instance : NN Int := ⟨fun {G H v x} e z => by
  have e : v = V.int x := e
  rw [e] at z; cases z⟩
instance {α : Type} [Rp α] [NN α] : Nn (Op α) := ⟨fun a => a.o.isNone, fun {G H v a} h => by
  obtain ⟨o⟩ := a
  cases o with
  | none =>
    have e : v = .non := h
    rw [e]; rfl
  | some x => exact decide_eq_false (NN.ne (show Rp.rep G H v x from h))⟩
theorem cv_some {α : Type} [Rp α] (x : α) : Cv x (Op.mk (some x)) := fun _ _ _ r => r
theorem cv_op {α : Type} [Rp α] {t : Op α} {x : α} (h : t.o = some x) : Cv t x := fun G H v r => by
  obtain ⟨o⟩ := t
  have h : o = some x := h
  subst h
  exact r
section
variable {F : Fx} {env : List Ent} {ex : XP} {a b c e it : Expr} {es : List Expr} {pos p0 p1 : Pos} {n x : Str} {P : Po} {st : Stmt} {sts ss body : List Stmt}
theorem k_nonO {α : Type} [Rp α] {j} {Q : Op α → Prop} (q : Q ⟨none⟩) : KE F env (.Constant .none j pos) ex Q := fun own σ H k p => tE_of pe_non ⟨⟨none⟩, Same.refl H, rfl, q⟩
theorem g_tupK {α : Type} {ds : α → List DV} {K : PySem.W.Frag} (is : List Nat) {kx : Nat} (hK : F.X.K = K) (hg : PGs F.X es (gNs is)) (hl : ∀ y, is.length = (ds y).length) (hc : F.X.calm = true) (hn : (assignEach es F.X.env).length = is.length) (hst : (assignEach es F.X.env).findIdx? (·.1) = none) :
    @Tg F (.Tuple es kx pos) α (tpRp ds) (gTup K is.length (gNs is)) is fun y env => setAll env is (ds y) := by
  subst hK
  exact g_tup is hg hl hc hn hst
/-- a tuple's item at a place that is reckoned -/
theorem k_ixTv {α β : Type} [Rp β] {ds : α → List DV} {Q : β → Prop} (h : @KE F env a ex α (tpRp ds) fun o => KE F env b ex fun i : Int => ∃ x : β, (0 ≤ i ∧ (ds o)[i.toNat]? = some (dv x)) ∧ Q x) (hs : PlainIx b := by intro _ _; rfl) : KE F env (.Subscript a b pos) ex Q := fun own σ H k p => by
  letI : Rp α := tpRp ds
  exact tE_of (pe_ix ix_tup peE peE hs) (two k p h fun v u o i H' s r1 r2 ⟨x, hx, q⟩ => by
    obtain ⟨l, vs, e1, e2, e3⟩ := r1
    cases r2
    obtain ⟨w, h1, h2⟩ := e3.get hx.2
    exact ⟨l, vs, i, w, e1, rfl, SqT.of (hid_of e2), at_nat hx.1 h1, x, s, h2, q⟩)
end
end Rk

set_option maxHeartbeats 4000000
/-! # Courses narrowed and raised -/
namespace Sk
open PySem L2 PyProof.Rows Rk
instance : NN Crs := nn_ob
instance : NN Hr := nn_tp
instance : NN Stt := nn_tp
def withinH (h o : Hr) : Bool := decide (o.sl ≤ h.sl) && (decide (h.sh ≤ o.sh) && (decide (o.rl ≤ h.rl) && (decide (h.rh ≤ o.rh) && decide (h.ship = o.ship))))
def fitH (h o : Hr) : Bool := decide h.Ok && withinH h o
def ixV (n : V) : Nat := match n with
  | .int i => i.toNat
  | _ => 0
def narrowR (c : Crs) (n : V) (t : Tv) : Rz := match mkHr t with
  | none => .err 11
  | some h => match c.at_ n with
    | none => .err 12
    | some o => if withinH h o = true then .ok (dv (Crs.mk (c.hours.set (ixV n) h))) else .err 11
theorem at_inv {c : Crs} {n : V} {o : Hr} (h : c.at_ n = some o) : ∃ i : Int, n = .int i ∧ 0 ≤ i ∧ c.hours[i.toNat]? = some o := by
  unfold Crs.at_ at h
  cases n with
  | int i =>
    simp only at h
    by_cases h0 : 0 ≤ i
    · rw [if_pos h0] at h; exact ⟨i, rfl, h0, h⟩
    · rw [if_neg h0] at h; cases h
  | _ => cases h
theorem narrowR_ok {c : Crs} {i : Int} {h o : Hr} (h0 : 0 ≤ i) (hi : c.hours[i.toNat]? = some o) : narrowR c (.int i) h.tv = if fitH h o = true then .ok (dv (Crs.mk (c.hours.set i.toNat h))) else .err 11 := by
  unfold narrowR fitH
  by_cases k : h.Ok
  · rw [mkHr_ok k]
    simp only
    rw [at_some h0 hi]
    simp only [k, decide_true, Bool.true_and]
    rfl
  · rw [mkHr_not k]
    simp only
    rw [if_neg (by simp [k])]
theorem crs_set {c : Crs} (hc : c.Ok) {h : Hr} (k : h.Ok) (i : Nat) : Crs.Ok ⟨c.hours.set i h⟩ := by
  refine ⟨?_, ?_, fun x hx => ?_⟩
  · show 1 ≤ (c.hours.set i h).length; rw [List.length_set]; exact hc.1
  · show (c.hours.set i h).length ≤ 72; rw [List.length_set]; exact hc.2.1
  · rcases List.mem_or_eq_of_mem_set hx with z | z
    · exact hc.2.2 x z
    · rw [z]; exact k
def Hr.up (h : Hr) (s : Int) : Hr := ⟨h.sl, h.sh + s, h.rl, h.rh, h.ship⟩
def raisedOk (c : Crs) (s : Int) : Bool := c.hours.all fun h => decide (h.up s).Ok
def raisedR (c : Crs) (s : Int) : Rz := if raisedOk c s = true then .ok (dv (Crs.mk (c.hours.map fun h => h.up s))) else .err 11
theorem filter_mk {hs : List Hr} (h : ∀ x ∈ hs, x.Ok) : (hs.map Hr.tv).filterMap mkHr = hs := hrs_back h
theorem mkHr_ok? (h : Hr) : (mkHr h.tv).isSome = decide h.Ok := by
  by_cases k : h.Ok
  · rw [mkHr_ok k, decide_eq_true k]; rfl
  · rw [mkHr_not k, decide_eq_false k]; rfl
theorem initCrs_up {c : Crs} (hc : c.Ok) (s : Int) : initCrs ((c.hours.map fun h => h.up s).map Hr.tv) = if raisedOk c s = true then .ok (Crs.fs ⟨c.hours.map fun h => h.up s⟩) else .err 11 := by
  have e : ((c.hours.map fun h => h.up s).map Hr.tv).all (fun t => (mkHr t).isSome) = raisedOk c s := by
    unfold raisedOk
    rw [List.all_map, List.all_map]
    congr 1
    funext h
    exact mkHr_ok? _
  unfold initCrs
  rw [e, List.length_map, List.length_map]
  by_cases q : raisedOk c s = true
  · rw [if_pos ⟨hc.1, hc.2.1, q⟩, if_pos q, filter_mk]
    intro x hx
    obtain ⟨h, hh, rfl⟩ := List.mem_map.mp hx
    unfold raisedOk at q
    rw [List.all_eq_true] at q
    simpa using q h hh
  · rw [if_neg fun z => q z.2.2, if_neg q]
theorem fit_eq {o : Hr} (ho : o.Ok) (a b c d : Int) (s : Bool) :
    ((decide (o.sl ≤ a) && (decide (b ≤ o.sh) && (decide (o.rl ≤ c) && (decide (d ≤ o.rh) && decide (s = o.ship))))) && (decide (a ≤ b) && decide (c ≤ d))) = fitH ⟨a, b, c, d, s⟩ o := by
  unfold fitH withinH
  unfold Hr.Ok at ho
  rw [Bool.eq_iff_iff]
  simp only [Bool.and_eq_true, decide_eq_true_eq]
  unfold Hr.Ok
  simp only
  constructor
  · rintro ⟨⟨h1, h2, h3, h4, h5⟩, h6, h7⟩
    exact ⟨⟨by omega, by omega⟩, h1, h2, h3, h4, h5⟩
  · rintro ⟨⟨h1, h2⟩, h3, h4, h5, h6, h7⟩
    exact ⟨⟨h3, h4, h5, h6, h7⟩, by omega, by omega⟩
def hAt (hs : List Hr) (k : Int) : Hr := (hs[k.toNat]?).getD ⟨0, 0, 0, 0, false⟩
theorem hAt_some {hs : List Hr} {k : Int} (h0 : 0 ≤ k) (h1 : k < (hs.length : Int)) : hs[k.toNat]? = some (hAt hs k) := by
  unfold hAt
  rw [List.getElem?_eq_getElem (by omega)]; rfl
theorem filter_yes {α : Type} (xs : List α) : xs.filter (fun _ => true) = xs := List.filter_eq_self.mpr fun _ _ => rfl
theorem hAt_all (hs : List Hr) : ((span 0 (hs.length : Int)).filter (fun _ => true)).map (hAt hs) = hs := by
  rw [filter_yes]
  apply List.ext_getElem?
  intro i
  rw [List.getElem?_map]
  by_cases h : i < hs.length
  · rw [span_get (by omega), Option.map_some, List.getElem?_eq_getElem h]
    unfold hAt
    rw [show ((0 : Int) + (i : Int)).toNat = i from by omega, List.getElem?_eq_getElem h]; rfl
  · rw [List.getElem?_eq_none_iff.mpr (by rw [span_len]; omega), List.getElem?_eq_none_iff.mpr (by omega)]; rfl
def o4 (h : Hr) (k : Int) : Int := if k = 0 then h.sl else if k = 1 then h.sh else if k = 2 then h.rl else h.rh
def c4 (a b c d : Int) (k : Int) : Int := if k = 0 then a else if k = 1 then b else if k = 2 then c else d
theorem in4 {k : Int} (h : k ∈ span 0 4) : k = 0 ∨ k = 1 ∨ k = 2 ∨ k = 3 := by
  rw [mem_span] at h; omega
theorem o4_at {h : Hr} {k : Int} (m : k ∈ span 0 4) : 0 ≤ k ∧ h.ds[k.toNat]? = some (dv (o4 h k)) := by
  rcases in4 m with rfl | rfl | rfl | rfl <;> exact ⟨by decide, rfl⟩
theorem c4_at {a b c d k : Int} (m : k ∈ span 0 4) : 0 ≤ k ∧ [a, b, c, d][k.toNat]? = some (c4 a b c d k) := by
  rcases in4 m with rfl | rfl | rfl | rfl <;> exact ⟨by decide, rfl⟩
theorem set_cut {hs : List Hr} {i : Int} {h : Hr} (h0 : 0 ≤ i) (h1 : i < (hs.length : Int)) : hs.set i.toNat h = hs.take i.toNat ++ [h] ++ hs.drop (i + 1).toNat := by
  rw [List.set_eq_take_append_cons_drop, if_pos (by omega), show (i + 1).toNat = i.toNat + 1 from by omega, List.append_assoc]; rfl
theorem up_ok {hs : List Hr} (ho : ∀ h ∈ hs, h.Ok) {s : Int} (h0 : 0 ≤ s) (h1 : ∀ h ∈ hs, h.sh + s ≤ 400) : raisedOk ⟨hs⟩ s = true := by
  unfold raisedOk
  rw [List.all_eq_true]
  intro h hh
  have a := ho h hh
  have b := h1 h hh
  unfold Hr.Ok at a
  refine decide_eq_true ?_
  unfold Hr.Ok Hr.up
  simp only
  omega
theorem up_no {hs : List Hr} {h : Hr} (hh : h ∈ hs) {s : Int} (h1 : 400 < h.sh + s) : raisedOk ⟨hs⟩ s = false := by
  cases q : raisedOk ⟨hs⟩ s with
  | false => rfl
  | true =>
    unfold raisedOk at q
    rw [List.all_eq_true] at q
    have z := of_decide_eq_true (q h hh)
    unfold Hr.Ok Hr.up at z
    simp only at z
    omega
theorem raisedR_ok {c : Crs} {s : Int} (h : raisedOk c s = true) : raisedR c s = .ok (dv (Crs.mk (c.hours.map fun h => h.up s))) := if_pos h
end Sk

set_option maxHeartbeats 4000000
namespace Sk
open PySem L2 PyProof.Rows Rk
def top (i : Nat) : Stmt := PySem.Challenge.pw_surgekept_k22_courses_narrowed_and_raise.main.body.getD i (.Pass ⟨0, 0, 0, 0⟩)
abbrev s_is_whole : Stmt := top 7
theorem sc_is_whole : FnScope ["value", "least", "most"] ["value", "least", "most"] (defScope s_is_whole) := ⟨rfl, rfl, rfl, by decide +kernel, rfl, by decide +kernel, by decide +kernel⟩
abbrev s_check_bounds : Stmt := top 10
theorem sc_check_bounds : FnScope ["low", "high"] ["low", "high"] (defScope s_check_bounds) := ⟨rfl, rfl, rfl, by decide +kernel, rfl, by decide +kernel, by decide +kernel⟩
abbrev s_check_hour : Stmt := top 9
theorem sc_check_hour : FnScope ["hour", "sea_low", "sea_high", "river_low", "river_high", "ship"] ["hour"] (defScope s_check_hour) := ⟨rfl, rfl, rfl, by decide +kernel, rfl, by decide +kernel, by decide +kernel⟩
abbrev s_Course__init : Stmt := inClass (top 8) 0
theorem sc_Course__init : FnScope ["self", "hours", "hour"] ["self", "hours"] (defScope s_Course__init) := ⟨rfl, rfl, rfl, by decide +kernel, rfl, by decide +kernel, by decide +kernel⟩
abbrev s_Course_count : Stmt := inClass (top 8) 1
theorem sc_Course_count : FnScope ["self"] ["self"] (defScope s_Course_count) := ⟨rfl, rfl, rfl, by decide +kernel, rfl, by decide +kernel, by decide +kernel⟩
abbrev s_Course_hour : Stmt := inClass (top 8) 2
theorem sc_Course_hour : FnScope ["self", "number"] ["self", "number"] (defScope s_Course_hour) := ⟨rfl, rfl, rfl, by decide +kernel, rfl, by decide +kernel, by decide +kernel⟩
abbrev s_Course_has : Stmt := inClass (top 8) 3
theorem sc_Course_has : FnScope ["self", "number", "sea", "river", "sea_low", "sea_high", "river_low", "river_high", "_"] ["self", "number", "sea", "river"] (defScope s_Course_has) := ⟨rfl, rfl, rfl, by decide +kernel, rfl, by decide +kernel, by decide +kernel⟩
abbrev s_law_cell : Stmt := top 13
theorem sc_law_cell : FnScope ["script", "k"] ["script", "k"] (defScope s_law_cell) := ⟨rfl, rfl, rfl, by decide +kernel, rfl, by decide +kernel, by decide +kernel⟩
abbrev s_law_hours : Stmt := top 15
theorem sc_law_hours : FnScope ["script", "most", "rows", "k", "cell", "low", "least"] ["script", "most"] (defScope s_law_hours) := ⟨rfl, rfl, rfl, by decide +kernel, rfl, by decide +kernel, by decide +kernel⟩
abbrev s_is_within : Stmt := top 11
theorem sc_is_within : FnScope ["hour", "wider", "sea_low", "sea_high", "river_low", "river_high", "ship"] ["hour", "wider"] (defScope s_is_within) := ⟨rfl, rfl, rfl, by decide +kernel, rfl, by decide +kernel, by decide +kernel⟩
abbrev s_Course_narrowed : Stmt := inClass (top 8) 4
theorem sc_Course_narrowed : FnScope ["self", "number", "hour", "hours"] ["self", "number", "hour"] (defScope s_Course_narrowed) := ⟨rfl, rfl, rfl, by decide +kernel, rfl, by decide +kernel, by decide +kernel⟩
abbrev s_Course_raised : Stmt := inClass (top 8) 5
theorem sc_Course_raised : FnScope ["self", "surge", "sea_low", "sea_high", "river_low", "river_high", "ship"] ["self", "surge"] (defScope s_Course_raised) := ⟨rfl, rfl, rfl, by decide +kernel, rfl, by decide +kernel, by decide +kernel⟩
abbrev s_law_narrowed : Stmt := top 25
theorem sc_law_narrowed : FnScope ["course", "number", "hour"] ["course", "number", "hour"] (defScope s_law_narrowed) := ⟨rfl, rfl, rfl, by decide +kernel, rfl, by decide +kernel, by decide +kernel⟩
abbrev s_law_too_high : Stmt := top 26
theorem sc_law_too_high : FnScope ["course", "surge"] ["course", "surge"] (defScope s_law_too_high) := ⟨rfl, rfl, rfl, by decide +kernel, rfl, by decide +kernel, by decide +kernel⟩
abbrev s_law : Stmt := top 27
theorem sc_law : FnScope ["script", "hours", "course", "k", "cell", "number", "old", "change", "new", "ship", "fits", "told", "sea", "river", "surge", "raised", "row", "highest"] ["script"] (defScope s_law) := ⟨rfl, rfl, rfl, by decide +kernel, rfl, by decide +kernel, by decide +kernel⟩
structure Tx (K : PySem.W.Frag) (mg : Str → Option Value) where
  nogl : NoGl mg
  cls : Nat → Addr
  e_InvalidCourse : ExcT K mg "InvalidCourse" (cls 11)
  e_InvalidState : ExcT K mg "InvalidState" (cls 12)
  x_11_11 : PySem.W.exmOne K (.ref (cls 11)) (.ref (cls 11)) = some true
  c_MOST_HOURS : ∃ t, mg "MOST_HOURS" = some (.int 72 t)
  c_MOST_BOUND : ∃ t, mg "MOST_BOUND" = some (.int 400 t)
  cl_1 : Cls K (cls 1)
  g_Course : mg "Course" = some (.ref (cls 1))
  na_hours : NoAttr K (cls 1) "hours"
  a_is_whole : Addr
  fd_is_whole : FuncData
  F_is_whole : Fun K "is_whole" "is_whole" s_is_whole a_is_whole fd_is_whole
  k_is_whole : PySem.W.keepIn K (.ref a_is_whole) = true
  b_is_whole : Binds K fd_is_whole ["value", "least", "most"] []
  g_is_whole : mg "is_whole" = some (.ref a_is_whole)
  a_check_bounds : Addr
  fd_check_bounds : FuncData
  F_check_bounds : Fun K "_check_bounds" "_check_bounds" s_check_bounds a_check_bounds fd_check_bounds
  k_check_bounds : PySem.W.keepIn K (.ref a_check_bounds) = true
  b_check_bounds : Binds K fd_check_bounds ["low", "high"] []
  g_check_bounds : mg "_check_bounds" = some (.ref a_check_bounds)
  a_check_hour : Addr
  fd_check_hour : FuncData
  F_check_hour : Fun K "_check_hour" "_check_hour" s_check_hour a_check_hour fd_check_hour
  k_check_hour : PySem.W.keepIn K (.ref a_check_hour) = true
  b_check_hour : Binds K fd_check_hour ["hour"] []
  g_check_hour : mg "_check_hour" = some (.ref a_check_hour)
  a_Course__init : Addr
  fd_Course__init : FuncData
  F_Course__init : Fun K "__init__" "Course.__init__" s_Course__init a_Course__init fd_Course__init
  b_Course__init : Binds K fd_Course__init ["self", "hours"] []
  mk_1 : Mk K (cls 1) a_Course__init
  a_Course_count : Addr
  fd_Course_count : FuncData
  F_Course_count : Fun K "count" "Course.count" s_Course_count a_Course_count fd_Course_count
  b_Course_count : Binds K fd_Course_count ["self"] []
  m_Course_count : Meth K (cls 1) "count" a_Course_count
  a_Course_hour : Addr
  fd_Course_hour : FuncData
  F_Course_hour : Fun K "hour" "Course.hour" s_Course_hour a_Course_hour fd_Course_hour
  b_Course_hour : Binds K fd_Course_hour ["self", "number"] []
  m_Course_hour : Meth K (cls 1) "hour" a_Course_hour
  a_Course_has : Addr
  fd_Course_has : FuncData
  F_Course_has : Fun K "has" "Course.has" s_Course_has a_Course_has fd_Course_has
  b_Course_has : Binds K fd_Course_has ["self", "number", "sea", "river"] []
  m_Course_has : Meth K (cls 1) "has" a_Course_has
  a_law_cell : Addr
  fd_law_cell : FuncData
  F_law_cell : Fun K "_law_cell" "_law_cell" s_law_cell a_law_cell fd_law_cell
  k_law_cell : PySem.W.keepIn K (.ref a_law_cell) = true
  b_law_cell : Binds K fd_law_cell ["script", "k"] []
  g_law_cell : mg "_law_cell" = some (.ref a_law_cell)
  a_law_hours : Addr
  fd_law_hours : FuncData
  F_law_hours : Fun K "_law_hours" "_law_hours" s_law_hours a_law_hours fd_law_hours
  k_law_hours : PySem.W.keepIn K (.ref a_law_hours) = true
  b_law_hours : Binds K fd_law_hours ["script", "most"] []
  g_law_hours : mg "_law_hours" = some (.ref a_law_hours)
  a_is_within : Addr
  fd_is_within : FuncData
  F_is_within : Fun K "_is_within" "_is_within" s_is_within a_is_within fd_is_within
  k_is_within : PySem.W.keepIn K (.ref a_is_within) = true
  b_is_within : Binds K fd_is_within ["hour", "wider"] []
  g_is_within : mg "_is_within" = some (.ref a_is_within)
  a_Course_narrowed : Addr
  fd_Course_narrowed : FuncData
  F_Course_narrowed : Fun K "narrowed" "Course.narrowed" s_Course_narrowed a_Course_narrowed fd_Course_narrowed
  b_Course_narrowed : Binds K fd_Course_narrowed ["self", "number", "hour"] []
  m_Course_narrowed : Meth K (cls 1) "narrowed" a_Course_narrowed
  a_Course_raised : Addr
  fd_Course_raised : FuncData
  F_Course_raised : Fun K "raised" "Course.raised" s_Course_raised a_Course_raised fd_Course_raised
  b_Course_raised : Binds K fd_Course_raised ["self", "surge"] []
  m_Course_raised : Meth K (cls 1) "raised" a_Course_raised
  a_law_narrowed : Addr
  fd_law_narrowed : FuncData
  F_law_narrowed : Fun K "_law_narrowed" "_law_narrowed" s_law_narrowed a_law_narrowed fd_law_narrowed
  k_law_narrowed : PySem.W.keepIn K (.ref a_law_narrowed) = true
  b_law_narrowed : Binds K fd_law_narrowed ["course", "number", "hour"] []
  g_law_narrowed : mg "_law_narrowed" = some (.ref a_law_narrowed)
  a_law_too_high : Addr
  fd_law_too_high : FuncData
  F_law_too_high : Fun K "_law_too_high" "_law_too_high" s_law_too_high a_law_too_high fd_law_too_high
  k_law_too_high : PySem.W.keepIn K (.ref a_law_too_high) = true
  b_law_too_high : Binds K fd_law_too_high ["course", "surge"] []
  g_law_too_high : mg "_law_too_high" = some (.ref a_law_too_high)
  a_law : Addr
  fd_law : FuncData
  F_law : Fun K "law" "law" s_law a_law fd_law
section
variable {PP : Program} {w : World} {K : PySem.W.Frag} {mg : Str → Option Value} {base : Heap}
/-! is_whole -/
def S_is_whole : Pm := fun ds r => ∃ (v_ : V) (lo_ hi_ : Int), ds = [dv v_, dv lo_, dv hi_] ∧ (scl v_) ∧ r = .ok (dv (isWh v_ lo_ hi_))
theorem ok_is_whole (T : Tx K mg) : FnOk PP w K mg base (L2.CX PP w) 1 T.a_is_whole T.fd_is_whole ["value", "least", "most"] (spOf K T.cls S_is_whole) := by
  refine fn_ok T.F_is_whole sc_is_whole (fun ds r h => by obtain ⟨v_, lo_, hi_, rfl, _⟩ := h; rfl) fun cd A outer s H E hs ds r hr h => ?_
  obtain ⟨v_, lo_, hi_, rfl, p1, rfl⟩ := h
  obtain ⟨t_, ht_⟩ := p1
  have cases_ : (∃ i, v_ = V.int i) ∨ (∃ k r1, tyS v_ = some k ∧ kitB k "int" = some r1 ∧ isWh v_ lo_ hi_ = false ∧ (r1 = true → ∃ b, v_ = V.bl b)) := by
    cases v_ with
    | int i => exact .inl ⟨i, rfl⟩
    | bl b => exact .inr ⟨_, true, rfl, by decide +kernel, rfl, fun _ => ⟨b, rfl⟩⟩
    | non => exact .inr ⟨_, false, rfl, by decide +kernel, rfl, fun h => (by cases h)⟩
    | str x => exact .inr ⟨_, false, rfl, by decide +kernel, rfl, fun h => (by cases h)⟩
    | byt x => cases ht_
    | flt x => cases ht_
    | ref x => cases ht_
    | ty x => cases ht_
  rcases cases_ with ⟨i, rfl⟩ | ⟨k, r1, e1, e2, e3, e4⟩
  · refine ks_one (s_ret (α := Bool) ?_)
    refine' k_andD _ ?_; rotate_left
    refine k_isV (T := "int") T.nogl (T.nogl _ (by simp)) (by decide +kernel) ?_
    refine k_var 0 rfl rfl ?_
    refine ⟨_, true, rfl, by decide +kernel, ?_⟩
    refine ⟨fun _ => ?_, ?_⟩
    · refine' k_andD _ ?_; rotate_left
      refine k_not ?_
      refine k_isV (T := "bool") T.nogl (T.nogl _ (by simp)) (by decide +kernel) ?_
      refine k_var 0 rfl rfl ?_
      refine ⟨_, false, rfl, by decide +kernel, ?_⟩
      refine ⟨fun _ => ?_, ?_⟩
      · refine k_one ?_
        refine' k_leleD _ ?_; rotate_left
        refine k_var 1 rfl rfl ?_
        refine k_cv (α := V) ?_
        refine k_var 0 rfl rfl ?_
        refine ⟨i, fun _ _ _ r => r, ?_⟩
        refine ⟨?_, ?_⟩
        · refine k_var 2 rfl rfl ?_
          exact rfl
        exact rfl
      exact rfl
    exact congrArg (fun b => Rz.ok (dv b)) (by show decide _ = (true && (!false && decide _)); simp)
  · refine ks_one (s_ret (α := Bool) ?_)
    refine' k_andD false ?_
    refine k_isV (T := "int") T.nogl (T.nogl _ (by simp)) (by decide +kernel) ?_
    refine k_var 0 rfl rfl ?_
    refine ⟨_, _, e1, e2, ?_⟩
    refine ⟨fun h => ?_, ?_⟩
    · obtain ⟨b, rfl⟩ := e4 h
      refine' k_andD false ?_
      refine k_not ?_
      refine k_isV (T := "bool") T.nogl (T.nogl _ (by simp)) (by decide +kernel) ?_
      refine k_var 0 rfl rfl ?_
      refine ⟨_, true, rfl, by decide +kernel, ?_⟩
      exact ⟨fun h => (by cases h), rfl⟩
    exact congrArg (fun b => Rz.ok (dv b)) (by rw [e3]; simp)
/-! _check_bounds -/
def S_check_bounds : Pm := fun ds r => ∃ (lo_ hi_ : V), ds = [dv lo_, dv hi_] ∧ (scl lo_) ∧ (scl hi_) ∧ r = (if bndOk lo_ hi_ = true then .ok (dv ()) else .err 11)
theorem ok_check_bounds (T : Tx K mg) : FnOk PP w K mg base (L2.CX PP w) 2 T.a_check_bounds T.fd_check_bounds ["low", "high"] (spOf K T.cls S_check_bounds) := by
  refine fn_ok T.F_check_bounds sc_check_bounds (fun ds r h => by obtain ⟨lo_, hi_, rfl, _⟩ := h; rfl) fun cd A outer s H E hs ds r hr h => ?_
  obtain ⟨lo_, hi_, rfl, p1, p2, rfl⟩ := h
  show KSs _ ([.sh (dv lo_), .sh (dv hi_)] : List Ent) _ _
  refine ks_one (s_if ?_)
  refine t_w ?_
  refine w_orD (!bndOk lo_ hi_) ?_
  refine t_not ?_
  refine t_val ?_
  refine k_call (ok_is_whole T) (hr.mono (by decide)) T.g_is_whole T.k_is_whole T.b_is_whole ?_
  refine a_cons (α := V) ?_
  refine k_var 1 rfl rfl ?_
  refine a_cons (α := Int) ?_
  refine k_int ?_
  refine a_cons (α := Int) ?_
  refine k_gint T.c_MOST_BOUND ?_
  refine a_nil ?_
  refine ⟨_, ⟨_, _, _, rfl, p2, rfl⟩, Got.ok ?_⟩
  refine ⟨fun hb1 => ?_, ?_⟩
  · skip
    obtain ⟨h_, eh_, h0_, h4_⟩ := isWh_int (by simpa using hb1)
    refine w_or1 ?_
    refine t_not ?_
    refine t_val ?_
    refine k_call (ok_is_whole T) (hr.mono (by decide)) T.g_is_whole T.k_is_whole T.b_is_whole ?_
    refine a_cons (α := V) ?_
    refine k_var 0 rfl rfl ?_
    refine a_cons (α := Int) ?_
    refine k_int ?_
    refine a_cons (α := Int) ?_
    refine k_cv (α := V) ?_
    refine k_var 1 rfl rfl ?_
    refine ⟨_, cv_vi (by assumption), ?_⟩
    refine a_nil ?_
    refine ⟨_, ⟨_, _, _, rfl, p1, rfl⟩, Got.ok ?_⟩
    exact (by rw [eh_]; simp [bndOk, h0_, h4_])
  refine ifB (fun h1 => ?_) (fun h1 => ?_)
  · skip
    refine ks_one (s_raise (cn := 11) T.e_InvalidCourse ?_)
    refine k_join ?_ (by decide)
    refine k_lit (by decide) ?_
    refine k_fmtI ?_
    refine k_gint T.c_MOST_BOUND ?_
    refine ⟨by omega, ?_⟩
    refine k_lit (by decide) ?_
    show (_ : Rz) = _
    exact if_neg (fun z => by rw [z, bnd_wh z] at h1; cases h1)
  · skip
    refine ks_nil ?_
    show (_ : Rz) = _
    exact if_pos (by simp at h1; exact h1.2)
/-! _check_hour -/
def S_check_hour : Pm := fun ds r => ∃ (t_ : Tv), ds = [dv t_] ∧ (∀ v ∈ t_.vs, scl v) ∧ r = (if (mkHr t_).isSome = true then .ok (dv ()) else .err 11)
theorem ok_check_hour (T : Tx K mg) : FnOk PP w K mg base (L2.CX PP w) 3 T.a_check_hour T.fd_check_hour ["hour"] (spOf K T.cls S_check_hour) := by
  refine fn_ok T.F_check_hour sc_check_hour (fun ds r h => by obtain ⟨t_, rfl, _⟩ := h; rfl) fun cd A outer s H E hs ds r hr h => ?_
  obtain ⟨t_, rfl, p1, rfl⟩ := h
  show KSs _ ([.sh (dv t_), .no, .no, .no, .no, .no] : List Ent) _ _
  refine ks_cons (s_if ?_)
  refine t_w ?_
  refine' w_orD _ ?_; rotate_left
  refine t_not ?_
  refine t_val ?_
  refine k_isTup (α := Tv) (ds := Tv.ds) T.nogl ?_
  refine k_var 0 rfl rfl ?_
  refine ⟨fun hb1 => ?_, ?_⟩
  · skip
    refine w_or1 ?_
    refine t_ne (α := Int) ?_
    refine k_lenT (α := Tv) (ds := Tv.ds) T.nogl ?_
    refine k_var 0 rfl rfl ?_
    refine k_int ?_
    exact rfl
  refine ifB (fun h1 => ?_) (fun h1 => ?_)
  · skip
    refine ks_one (s_raise (cn := 11) T.e_InvalidCourse ?_)
    refine k_str ?_
    show (_ : Rz) = _
    exact if_neg (by rw [no5 h1]; decide)
  · skip
    obtain ⟨a_, b_, c_, d_, e_, rfl⟩ := tv5 h1
    have sa_ := p1 a_ (by simp)
    have sb_ := p1 b_ (by simp)
    have sc_ := p1 c_ (by simp)
    have sd_ := p1 d_ (by simp)
    have se_ := p1 e_ (by simp)
    refine ks_conv 0 (T5v.mk a_ b_ c_ d_ e_) rfl (cv_t5 a_ b_ c_ d_ e_) ?_
    show KSs _ ([.sh (dv (T5v.mk a_ b_ c_ d_ e_)), .no, .no, .no, .no, .no] : List Ent) _ _
    refine ks_nil ?_
    show KSs _ ([.sh (dv (T5v.mk a_ b_ c_ d_ e_)), .no, .no, .no, .no, .no] : List Ent) _ _
    refine ks_cons (s_lets (α := T5v) (ds := T5v.ds) [1, 2, 3, 4, 5] (pgs_cons (pg_name (i := 1) sc_check_hour.nd rfl (by first | exact .inl rfl | exact .inr rfl)) (pgs_cons (pg_name (i := 2) sc_check_hour.nd rfl (by first | exact .inl rfl | exact .inr rfl)) (pgs_cons (pg_name (i := 3) sc_check_hour.nd rfl (by first | exact .inl rfl | exact .inr rfl)) (pgs_cons (pg_name (i := 4) sc_check_hour.nd rfl (by first | exact .inl rfl | exact .inr rfl)) (pgs_cons (pg_name (i := 5) sc_check_hour.nd rfl (by first | exact .inl rfl | exact .inr rfl)) (pgs_nil)))))) (fun _ => rfl) ?_)
    refine k_var 0 rfl rfl ?_
    intro z_ ez_; subst z_
    show KSs _ ([.sh (dv (T5v.mk a_ b_ c_ d_ e_)), .sh (dv a_), .sh (dv b_), .sh (dv c_), .sh (dv d_), .sh (dv e_)] : List Ent) _ _
    refine ks_cons (s_expr (α := Unit) ?_)
    refine k_call (ok_check_bounds T) (hr.mono (by decide)) T.g_check_bounds T.k_check_bounds T.b_check_bounds ?_
    refine a_cons (α := V) ?_
    refine k_var 1 rfl rfl ?_
    refine a_cons (α := V) ?_
    refine k_var 2 rfl rfl ?_
    refine a_nil ?_
    refine ⟨_, ⟨_, _, rfl, sa_, sb_, rfl⟩, ?_⟩
    refine Got.ite (fun c1 => ?_) (fun c1 => ?_)
    rotate_left
    · exact (show (if (mkHr ⟨[a_, b_, c_, d_, e_]⟩).isSome = true then Rz.ok (dv ()) else Rz.err 11) = Rz.err 11 from if_neg (by rw [mkHr_isSome]; simp at c1; simp [c1]))
    refine Got.ok ?_
    show KSs _ ([.sh (dv (T5v.mk a_ b_ c_ d_ e_)), .sh (dv a_), .sh (dv b_), .sh (dv c_), .sh (dv d_), .sh (dv e_)] : List Ent) _ _
    show KSs _ ([.sh (dv (T5v.mk a_ b_ c_ d_ e_)), .sh (dv a_), .sh (dv b_), .sh (dv c_), .sh (dv d_), .sh (dv e_)] : List Ent) _ _
    refine ks_cons (s_expr (α := Unit) ?_)
    refine k_call (ok_check_bounds T) (hr.mono (by decide)) T.g_check_bounds T.k_check_bounds T.b_check_bounds ?_
    refine a_cons (α := V) ?_
    refine k_var 3 rfl rfl ?_
    refine a_cons (α := V) ?_
    refine k_var 4 rfl rfl ?_
    refine a_nil ?_
    refine ⟨_, ⟨_, _, rfl, sc_, sd_, rfl⟩, ?_⟩
    refine Got.ite (fun c2 => ?_) (fun c2 => ?_)
    rotate_left
    · exact (show (if (mkHr ⟨[a_, b_, c_, d_, e_]⟩).isSome = true then Rz.ok (dv ()) else Rz.err 11) = Rz.err 11 from if_neg (by rw [mkHr_isSome]; simp at c2; simp [c2]))
    refine Got.ok ?_
    show KSs _ ([.sh (dv (T5v.mk a_ b_ c_ d_ e_)), .sh (dv a_), .sh (dv b_), .sh (dv c_), .sh (dv d_), .sh (dv e_)] : List Ent) _ _
    show KSs _ ([.sh (dv (T5v.mk a_ b_ c_ d_ e_)), .sh (dv a_), .sh (dv b_), .sh (dv c_), .sh (dv d_), .sh (dv e_)] : List Ent) _ _
    refine ks_one (s_if ?_)
    refine t_not ?_
    refine t_val ?_
    refine k_isV (T := "bool") T.nogl (T.nogl _ (by simp)) (by decide +kernel) ?_
    refine k_var 5 rfl rfl ?_
    obtain ⟨k_, k1_, k2_⟩ := kb se_
    refine ⟨_, _, k1_, k2_, ?_⟩
    refine ifNB (fun h2 => ?_) (fun h2 => ?_)
    · skip
      refine ks_one (s_raise (cn := 11) T.e_InvalidCourse ?_)
      refine k_str ?_
      show (_ : Rz) = _
      exact if_neg (by rw [mkHr_isSome, h2]; simp)
    · skip
      refine ks_nil ?_
      show (_ : Rz) = _
      exact if_pos (by rw [mkHr_isSome, c1, c2, h2]; rfl)
/-! Course.__init__ -/
def S_Course__init : List DV → Ri → Prop := fun ds r => ∃ (hs_ : List Tv), ds = [dv hs_] ∧ (∀ t ∈ hs_, ∀ v ∈ t.vs, scl v) ∧ r = initCrs hs_
theorem ok_Course__init (T : Tx K mg) : FnOk PP w K mg base (L2.CX PP w) 4 T.a_Course__init T.fd_Course__init ["self", "hours"] (spInit K T.cls 1 S_Course__init) := by
  refine init_ok T.F_Course__init sc_Course__init (fun ds r h => by obtain ⟨hs_, rfl, _⟩ := h; rfl) fun cd A outer s H B E hs p_ ds r hr h => ?_
  obtain ⟨hs_, rfl, p1, rfl⟩ := h
  show KSs _ ([(.ow (oobj p_ 1 [])), .sh (dv hs_), .no] : List Ent) _ _
  refine ks_cons (s_if ?_)
  refine t_w ?_
  refine w_orD (!isWh (.int (hs_.length : Int)) 1 72) ?_
  refine t_not ?_
  refine t_val ?_
  refine k_isLst (α := Tv) T.nogl ?_
  refine k_var 1 rfl rfl ?_
  refine ⟨fun hb1 => ?_, ?_⟩
  · skip
    refine w_or1 ?_
    refine t_not ?_
    refine t_val ?_
    refine k_call (ok_is_whole T) (hr.mono (by decide)) T.g_is_whole T.k_is_whole T.b_is_whole ?_
    refine a_cons (α := V) ?_
    refine k_toV (α := Int) ?_
    refine k_lenL (α := Tv) T.nogl ?_
    refine k_var 1 rfl rfl ?_
    refine a_cons (α := Int) ?_
    refine k_int ?_
    refine a_cons (α := Int) ?_
    refine k_gint T.c_MOST_HOURS ?_
    refine a_nil ?_
    refine ⟨_, ⟨_, _, _, rfl, scl_i _, rfl⟩, Got.ok ?_⟩
    exact rfl
  refine ifB (fun h1 => ?_) (fun h1 => ?_)
  · skip
    refine ks_one (s_raise (cn := 11) T.e_InvalidCourse ?_)
    refine k_join ?_ (by decide)
    refine k_lit (by decide) ?_
    refine k_fmtI ?_
    refine k_gint T.c_MOST_HOURS ?_
    refine ⟨by omega, ?_⟩
    refine k_lit (by decide) ?_
    show (_ : Ri) = _
    exact if_neg (by simp [isWh] at h1; omega)
  · skip
    have hl_ : 1 ≤ hs_.length ∧ hs_.length ≤ 72 := by simp [isWh] at h1; omega
    refine ks_nil ?_
    show KSs _ ([(.ow (oobj p_ 1 [])), .sh (dv hs_), .no] : List Ent) _ _
    show KSs _ ([(.ow (oobj p_ 1 [])), .sh (dv hs_), .no] : List Ent) _ _
    refine ks_cons (s_for (α := Tv) (g_name (α := Tv) 2 sc_Course__init.nd rfl) ?_)
    refine k_var 1 rfl rfl ?_
    refine ⟨fun (i_for1 : Nat) e_ => e_ = ([(.ow (oobj p_ 1 [])), .sh (dv hs_), .no] : List Ent) ∧ (∀ (j_ : Nat) t_, j_ < i_for1 → hs_[j_]? = some t_ → (mkHr t_).isSome = true), ?_, ?_, ?_⟩
    · exact ⟨rfl, fun _ _ h_ => absurd h_ (Nat.not_lt_zero _)⟩
    · rintro i_for1 hour _ for1_at ⟨rfl, for1_i⟩
      refine turn_fgt ?_
      show KSs _ ([(.ow (oobj p_ 1 [])), .sh (dv hs_), .sh (dv hour)] : List Ent) _ _
      refine ks_one (s_expr (α := Unit) ?_)
      refine k_call (ok_check_hour T) (hr.mono (by decide)) T.g_check_hour T.k_check_hour T.b_check_hour ?_
      refine a_cons (α := Tv) ?_
      refine k_var 2 rfl rfl ?_
      refine a_nil ?_
      refine ⟨_, ⟨_, rfl, p1 _ (List.mem_of_getElem? for1_at), rfl⟩, ?_⟩
      refine Got.ite (fun c1 => ?_) (fun c1 => ?_)
      rotate_left
      · exact (show initCrs hs_ = Ri.err 11 from if_neg (fun z => c1 (by have z2 := z.2.2; rw [List.all_eq_true] at z2; exact z2 _ (List.mem_of_getElem? for1_at))))
      refine Got.ok ?_
      exact ⟨[2], rfl, fun j_ t_ hj_ ht_ => by
        rcases Nat.lt_succ_iff_lt_or_eq.mp hj_ with h_ | h_
        · exact for1_i j_ t_ h_ ht_
        · subst h_; rw [for1_at] at ht_; cases ht_; exact c1⟩
    · rintro _ ⟨rfl, for1_d⟩
      have hall : ∀ t_ ∈ hs_, (mkHr t_).isSome = true := fun t_ ht_ => by
        obtain ⟨j_, hj_, e_⟩ := List.mem_iff_getElem.mp ht_
        exact for1_d j_ t_ hj_ (by rw [List.getElem?_eq_getElem hj_, e_])
      show KSs _ ([(.ow (oobj p_ 1 [])), .sh (dv hs_), .no] : List Ent) _ _
      refine ks_one (s_setF (α := List Hr) (num := 1) 0 rfl rfl (by decide) T.cl_1 T.na_hours ?_)
      refine k_cv (α := List Tv) ?_
      refine k_list T.nogl ?_
      refine k_var 1 rfl rfl ?_
      refine ⟨_, cv_hrs (by assumption), ?_⟩
      refine fun set1 set1_e => ?_
      have set1_l : set1.length ≤ 1 := by rw [set1_e]; exact Nat.le_trans (putD_le _ _ _) (Nat.le_refl 1)
      subst set1_e
      exact ⟨_, rfl, if_pos ⟨hl_.1, hl_.2, List.all_eq_true.mpr hall⟩⟩
/-! Course.count -/
def S_Course_count : Pm := fun ds r => ∃ (c_ : Crs), ds = [dv c_] ∧ r = .ok (dv (c_.hours.length : Int))
theorem ok_Course_count (T : Tx K mg) : FnOk PP w K mg base (L2.CX PP w) 1 T.a_Course_count T.fd_Course_count ["self"] (spOf K T.cls S_Course_count) := by
  refine fn_ok T.F_Course_count sc_Course_count (fun ds r h => by obtain ⟨c_, rfl, _⟩ := h; rfl) fun cd A outer s H E hs ds r hr h => ?_
  obtain ⟨c_, rfl, rfl⟩ := h
  show KSs _ ([.sh (dv c_)] : List Ent) _ _
  refine ks_one (s_ret (α := Int) ?_)
  refine k_lenL (α := Hr) T.nogl ?_
  refine k_fld (n := 1) Crs.hours Crs.lk_hours T.cl_1 T.na_hours ?_
  refine k_var 0 rfl rfl ?_
  show (_ : Rz) = _
  first | rfl | assumption | (simp_all; done)
/-! Course.hour -/
def S_Course_hour : Pm := fun ds r => ∃ (c_ : Crs) (n_ : V), ds = [dv c_, dv n_] ∧ (c_.hours.length ≤ 100000) ∧ (scl n_) ∧ r = hourR c_ n_
theorem ok_Course_hour (T : Tx K mg) : FnOk PP w K mg base (L2.CX PP w) 2 T.a_Course_hour T.fd_Course_hour ["self", "number"] (spOf K T.cls S_Course_hour) := by
  refine fn_ok T.F_Course_hour sc_Course_hour (fun ds r h => by obtain ⟨c_, n_, rfl, _⟩ := h; rfl) fun cd A outer s H E hs ds r hr h => ?_
  obtain ⟨c_, n_, rfl, p1, p2, rfl⟩ := h
  show KSs _ ([.sh (dv c_), .sh (dv n_)] : List Ent) _ _
  refine ks_cons (s_if ?_)
  refine t_not ?_
  refine t_val ?_
  refine k_call (ok_is_whole T) (hr.mono (by decide)) T.g_is_whole T.k_is_whole T.b_is_whole ?_
  refine a_cons (α := V) ?_
  refine k_var 1 rfl rfl ?_
  refine a_cons (α := Int) ?_
  refine k_int ?_
  refine a_cons (α := Int) ?_
  refine k_sub ?_
  refine k_meth0 (num := 1) Crs.no_count T.cl_1 T.m_Course_count (ok_Course_count T) (hr.mono (by decide)) T.b_Course_count ?_
  refine k_var 0 rfl rfl ?_
  refine ⟨_, ⟨_, rfl, rfl⟩, Got.ok ?_⟩
  refine k_int ?_
  refine a_nil ?_
  refine ⟨_, ⟨_, _, _, rfl, p2, rfl⟩, Got.ok ?_⟩
  refine ifNB (fun h1 => ?_) (fun h1 => ?_)
  · skip
    refine ks_one (s_raise (cn := 12) T.e_InvalidState ?_)
    refine k_join ?_ (by decide)
    refine k_lit (by decide) ?_
    refine k_fmtI ?_
    refine k_sub ?_
    refine k_meth0 (num := 1) Crs.no_count T.cl_1 T.m_Course_count (ok_Course_count T) (hr.mono (by decide)) T.b_Course_count ?_
    refine k_var 0 rfl rfl ?_
    refine ⟨_, ⟨_, rfl, rfl⟩, Got.ok ?_⟩
    refine k_int ?_
    refine ⟨by omega, ?_⟩
    show (_ : Rz) = _
    exact hour_no (by simpa using h1)
  · skip
    obtain ⟨k_, ek_, k0_, k1_⟩ := isWh_int (by simpa using h1)
    obtain ⟨x_, hx_⟩ : ∃ x, c_.hours[k_.toNat]? = some x := ⟨_, List.getElem?_eq_getElem (by omega)⟩
    refine ks_nil ?_
    show KSs _ ([.sh (dv c_), .sh (dv n_)] : List Ent) _ _
    refine ks_one (s_ret (α := Hr) ?_)
    refine k_ixL ?_
    refine k_fld (n := 1) Crs.hours Crs.lk_hours T.cl_1 T.na_hours ?_
    refine k_var 0 rfl rfl ?_
    refine k_cv (α := V) ?_
    refine k_var 1 rfl rfl ?_
    refine ⟨_, cv_vi (by assumption), ?_⟩
    refine ⟨x_, ⟨k0_, hx_⟩, ?_⟩
    show (_ : Rz) = _
    exact (by rw [ek_]; exact hourR_ok k0_ hx_)
/-! Course.has -/
def S_Course_has : Pm := fun ds r => ∃ (c_ : Crs) (n_ : V) (se_ ri_ : Int), ds = [dv c_, dv n_, dv se_, dv ri_] ∧ (c_.hours.length ≤ 100000) ∧ (scl n_) ∧ r = hasR c_ n_ se_ ri_
theorem ok_Course_has (T : Tx K mg) : FnOk PP w K mg base (L2.CX PP w) 3 T.a_Course_has T.fd_Course_has ["self", "number", "sea", "river"] (spOf K T.cls S_Course_has) := by
  refine fn_ok T.F_Course_has sc_Course_has (fun ds r h => by obtain ⟨c_, n_, se_, ri_, rfl, _⟩ := h; rfl) fun cd A outer s H E hs ds r hr h => ?_
  obtain ⟨c_, n_, se_, ri_, rfl, p1, p2, rfl⟩ := h
  show KSs _ ([.sh (dv c_), .sh (dv n_), .sh (dv se_), .sh (dv ri_), .no, .no, .no, .no, .no] : List Ent) _ _
  refine ks_cons (s_lets (α := Hr) (ds := Hr.ds) [4, 5, 6, 7, 8] (pgs_cons (pg_name (i := 4) sc_Course_has.nd rfl (by first | exact .inl rfl | exact .inr rfl)) (pgs_cons (pg_name (i := 5) sc_Course_has.nd rfl (by first | exact .inl rfl | exact .inr rfl)) (pgs_cons (pg_name (i := 6) sc_Course_has.nd rfl (by first | exact .inl rfl | exact .inr rfl)) (pgs_cons (pg_name (i := 7) sc_Course_has.nd rfl (by first | exact .inl rfl | exact .inr rfl)) (pgs_cons (pg_name (i := 8) sc_Course_has.nd rfl (by first | exact .inl rfl | exact .inr rfl)) (pgs_nil)))))) (fun _ => rfl) ?_)
  refine k_meth (num := 1) Crs.no_hour T.cl_1 T.m_Course_hour (ok_Course_hour T) (hr.mono (by decide)) T.b_Course_hour ?_
  refine k_var 0 rfl rfl ?_
  refine a_cons (α := V) ?_
  refine k_var 1 rfl rfl ?_
  refine a_nil ?_
  refine ⟨_, ⟨_, _, rfl, p1, p2, rfl⟩, ?_⟩
  unfold hourR
  cases eh_ : Crs.at_ c_ n_ with
  | none => exact (show hasR c_ n_ se_ ri_ = Rz.err 12 from by unfold hasR; rw [eh_])
  | some h_ =>
  refine Got.ok ?_
  refine fun tu1 tu1_e => ?_
  show KSs _ ([.sh (dv c_), .sh (dv n_), .sh (dv se_), .sh (dv ri_), .sh (dv (Hr.sl tu1)), .sh (dv (Hr.sh tu1)), .sh (dv (Hr.rl tu1)), .sh (dv (Hr.rh tu1)), .sh (dv (Hr.ship tu1))] : List Ent) _ _
  refine ks_one (s_ret (α := Bool) ?_)
  refine' k_andD _ ?_; rotate_left
  refine' k_leleD _ ?_; rotate_left
  refine k_var 4 rfl rfl ?_
  refine k_var 2 rfl rfl ?_
  refine ⟨?_, ?_⟩
  · skip
    refine k_var 5 rfl rfl ?_
    exact rfl
  refine ⟨fun hb1 => ?_, ?_⟩
  · skip
    refine k_one ?_
    refine' k_leleD _ ?_; rotate_left
    refine k_var 6 rfl rfl ?_
    refine k_var 3 rfl rfl ?_
    refine ⟨?_, ?_⟩
    · skip
      refine k_var 7 rfl rfl ?_
      exact rfl
    exact rfl
  show (_ : Rz) = _
  exact (by unfold hasR; rw [eh_, tu1_e]; rfl)
/-! _law_cell -/
def S_law_cell : Pm := fun ds r => ∃ (ns_ : List Int) (k_ : Int), ds = [dv (Scr.mk ns_), dv k_] ∧ (0 ≤ k_) ∧ r = .ok (dv (cellOf ns_ k_))
theorem ok_law_cell (T : Tx K mg) : FnOk PP w K mg base (L2.CX PP w) 1 T.a_law_cell T.fd_law_cell ["script", "k"] (spOf K T.cls S_law_cell) := by
  refine fn_ok T.F_law_cell sc_law_cell (fun ds r h => by obtain ⟨ns_, k_, rfl, _⟩ := h; rfl) fun cd A outer s H E hs ds r hr h => ?_
  obtain ⟨ns_, k_, rfl, p1, rfl⟩ := h
  show KSs _ ([.sh (dv (Scr.mk ns_)), .sh (dv k_)] : List Ent) _ _
  refine ks_cons (s_if ?_)
  refine t_lt ?_
  refine k_var 1 rfl rfl ?_
  refine k_lenS T.nogl ?_
  refine k_var 0 rfl rfl ?_
  refine ifD (fun h1 => ?_) (fun h1 => ?_)
  · skip
    have h1' : k_ < (ns_.length : Int) := h1
    obtain ⟨x_, hx_⟩ : ∃ x, ns_[k_.toNat]? = some x := ⟨_, List.getElem?_eq_getElem (by omega)⟩
    refine ks_one (s_ret (α := Int) ?_)
    refine k_intI T.nogl ?_
    refine k_ixScr ?_
    refine k_var 0 rfl rfl ?_
    refine k_var 1 rfl rfl ?_
    refine ⟨x_, ⟨p1, hx_⟩, ?_⟩
    show (_ : Rz) = _
    exact congrArg (fun x => Rz.ok (dv x)) (cell_in h1 hx_)
  · skip
    refine ks_nil ?_
    show KSs _ ([.sh (dv (Scr.mk ns_)), .sh (dv k_)] : List Ent) _ _
    refine ks_one (s_ret (α := Int) ?_)
    refine k_add ?_
    refine k_mul ?_
    refine k_int ?_
    refine k_var 1 rfl rfl ?_
    refine ⟨.inl ⟨by decide, by decide⟩, ?_⟩
    refine k_int ?_
    show (_ : Rz) = _
    exact congrArg (fun x => Rz.ok (dv x)) (cell_out h1)
/-! _law_hours -/
def S_law_hours : Pm := fun ds r => ∃ (ns_ : List Int) (m_ : Int), ds = [dv (Scr.mk ns_), dv m_] ∧ (0 < m_) ∧ (m_ ≤ 100) ∧ r = .ok (dv (hoursOf ns_ m_))
theorem ok_law_hours (T : Tx K mg) : FnOk PP w K mg base (L2.CX PP w) 2 T.a_law_hours T.fd_law_hours ["script", "most"] (spOf K T.cls S_law_hours) := by
  refine fn_ok T.F_law_hours sc_law_hours (fun ds r h => by obtain ⟨ns_, m_, rfl, _⟩ := h; rfl) fun cd A outer s H E hs ds r hr h => ?_
  obtain ⟨ns_, m_, rfl, p1, p2, rfl⟩ := h
  show KSs _ ([.sh (dv (Scr.mk ns_)), .sh (dv m_), .no, .no, .no, .no, .no] : List Ent) _ _
  refine ks_cons (s_new (α := Hr) 2 sc_law_hours.nd rfl (Nat.le_of_ble_eq_true rfl) ?_)
  refine a_nil ?_
  refine ⟨Nat.le_of_ble_eq_true rfl, ([] : List Hr), rfl, ?_⟩
  rintro _ rfl
  show KSs _ ([.sh (dv (Scr.mk ns_)), .sh (dv m_), .ow (olist ([] : List Hr)), .no, .no, .no, .no] : List Ent) _ _
  show KSs _ ([.sh (dv (Scr.mk ns_)), .sh (dv m_), .ow (olist ([] : List Hr)), .no, .no, .no, .no] : List Ent) _ _
  refine ks_cons (s_forR1 (g_name (α := Int) 3 sc_law_hours.nd rfl) T.nogl ?_)
  refine k_add ?_
  refine k_int ?_
  refine k_mod ?_
  refine k_call (ok_law_cell T) (hr.mono (by decide)) T.g_law_cell T.k_law_cell T.b_law_cell ?_
  refine a_cons (α := Scr) ?_
  refine k_var 0 rfl rfl ?_
  refine a_cons (α := Int) ?_
  refine k_int ?_
  refine a_nil ?_
  refine ⟨_, ⟨_, _, rfl, by first | assumption | omega, rfl⟩, Got.ok ?_⟩
  refine k_var 1 rfl rfl ?_
  refine ⟨by omega, ?_⟩
  refine ⟨by have := Int.emod_lt_of_pos (cellOf ns_ 1) p1; have := Int.emod_nonneg (cellOf ns_ 1) (by omega : m_ ≠ 0); omega, by have := Int.emod_lt_of_pos (cellOf ns_ 1) p1; have := Int.emod_nonneg (cellOf ns_ 1) (by omega : m_ ≠ 0); omega, fun (i_for1 : Nat) e_ => e_ = ([.sh (dv (Scr.mk ns_)), .sh (dv m_), .ow (olist (hrsTo ns_ (i_for1 : Int))), .no, .no, .no, .no] : List Ent) ∧ (True), ?_, ?_, ?_⟩
  · exact ⟨rfl, by first | trivial | rfl | simp⟩
  · rintro i_for1 _ for1_lt ⟨rfl, for1_i⟩
    refine turn_fgt ?_
    obtain ⟨k, k_e⟩ : ∃ v_ : Int, v_ = ((i_for1 : Nat) : Int) := ⟨_, rfl⟩
    refine at_int (i := 3) k_e ?_
    show KSs _ ([.sh (dv (Scr.mk ns_)), .sh (dv m_), .ow (olist (hrsTo ns_ (i_for1 : Int))), .sh (dv k), .no, .no, .no] : List Ent) _ _
    have hm_ := Int.emod_lt_of_pos (cellOf ns_ 1) p1
    refine ks_cons (s_let (α := Int) 4 sc_law_hours.nd rfl ?_)
    refine k_call (ok_law_cell T) (hr.mono (by decide)) T.g_law_cell T.k_law_cell T.b_law_cell ?_
    refine a_cons (α := Scr) ?_
    refine k_var 0 rfl rfl ?_
    refine a_cons (α := Int) ?_
    refine k_add ?_
    refine k_int ?_
    refine k_var 3 rfl rfl ?_
    refine a_nil ?_
    refine ⟨_, ⟨_, _, rfl, by first | assumption | omega, rfl⟩, Got.ok ?_⟩
    refine fun cell cell_e => ?_
    show KSs _ ([.sh (dv (Scr.mk ns_)), .sh (dv m_), .ow (olist (hrsTo ns_ (i_for1 : Int))), .sh (dv k), .sh (dv cell), .no, .no] : List Ent) _ _
    refine ks_cons (s_let (α := Int) 5 sc_law_hours.nd rfl ?_)
    refine k_mod ?_
    refine k_var 4 rfl rfl ?_
    refine k_int ?_
    refine ⟨by omega, ?_⟩
    refine fun low low_e => ?_
    show KSs _ ([.sh (dv (Scr.mk ns_)), .sh (dv m_), .ow (olist (hrsTo ns_ (i_for1 : Int))), .sh (dv k), .sh (dv cell), .sh (dv low), .no] : List Ent) _ _
    refine ks_cons (s_let (α := Int) 6 sc_law_hours.nd rfl ?_)
    refine k_mod ?_
    refine k_div ?_
    refine k_var 4 rfl rfl ?_
    refine k_int ?_
    refine ⟨by omega, ?_⟩
    refine k_int ?_
    refine ⟨by omega, ?_⟩
    refine fun least least_e => ?_
    show KSs _ ([.sh (dv (Scr.mk ns_)), .sh (dv m_), .ow (olist (hrsTo ns_ (i_for1 : Int))), .sh (dv k), .sh (dv cell), .sh (dv low), .sh (dv least)] : List Ent) _ _
    refine ks_one (s_app 2 rfl rfl (by rw [hrsTo_len]; omega) ?_)
    refine k_tup (α := Hr) (ds := Hr.ds) ?_
    refine a_cons (α := Int) ?_
    refine k_var 5 rfl rfl ?_
    refine a_cons (α := Int) ?_
    refine k_add ?_
    refine k_var 5 rfl rfl ?_
    refine k_mod ?_
    refine k_div ?_
    refine k_var 4 rfl rfl ?_
    refine k_int ?_
    refine ⟨by omega, ?_⟩
    refine k_int ?_
    refine ⟨by omega, ?_⟩
    refine a_cons (α := Int) ?_
    refine k_var 6 rfl rfl ?_
    refine a_cons (α := Int) ?_
    refine k_add ?_
    refine k_var 6 rfl rfl ?_
    refine k_mod ?_
    refine k_div ?_
    refine k_var 4 rfl rfl ?_
    refine k_int ?_
    refine ⟨by omega, ?_⟩
    refine k_int ?_
    refine ⟨by omega, ?_⟩
    refine a_cons (α := Bool) ?_
    refine k_eq (α := Int) ?_
    refine k_mod ?_
    refine k_div ?_
    refine k_var 4 rfl rfl ?_
    refine k_int ?_
    refine ⟨by omega, ?_⟩
    refine k_int ?_
    refine ⟨by omega, ?_⟩
    refine k_int ?_
    refine a_nil ?_
    refine ⟨Nat.le_of_ble_eq_true rfl, ⟨_, _, _, _, _⟩, rfl, ?_⟩
    refine fun rows_app1 rows_app1_e => ?_
    have e_ : rows_app1 = hrsTo ns_ ((i_for1 + 1 : Nat) : Int) := by
      rw [rows_app1_e, show ((i_for1 + 1 : Nat) : Int) = (i_for1 : Int) + 1 from rfl, hrsTo_s (by omega), low_e, least_e, cell_e, k_e]; rfl
    rw [e_]
    exact ⟨[4, 5, 6, 3], rfl, trivial⟩
  · rintro _ ⟨rfl, for1_d⟩
    have hm_ := Int.emod_nonneg (cellOf ns_ 1) (by omega : m_ ≠ 0)
    show KSs _ ([.sh (dv (Scr.mk ns_)), .sh (dv m_), .ow (olist (hrsTo ns_ (((1 + cellOf ns_ 1 % m_).toNat) : Int))), .no, .no, .no, .no] : List Ent) _ _
    refine ks_freeze 2 rfl ?_
    show KSs _ ([.sh (dv (Scr.mk ns_)), .sh (dv m_), .sh (dv (hrsTo ns_ (((1 + cellOf ns_ 1 % m_).toNat) : Int))), .no, .no, .no, .no] : List Ent) _ _
    refine ks_one (s_ret (α := List Hr) ?_)
    refine k_var 2 rfl rfl ?_
    show (_ : Rz) = _
    exact (by rw [show (((1 + cellOf ns_ 1 % m_).toNat : Nat) : Int) = 1 + cellOf ns_ 1 % m_ from by omega]; rfl)
/-! _is_within -/
def S_is_within : Pm := fun ds r => ∃ (h_ o_ : Hr), ds = [dv h_, dv o_] ∧ r = .ok (dv (withinH h_ o_))
theorem ok_is_within (T : Tx K mg) : FnOk PP w K mg base (L2.CX PP w) 1 T.a_is_within T.fd_is_within ["hour", "wider"] (spOf K T.cls S_is_within) := by
  refine fn_ok T.F_is_within sc_is_within (fun ds r h => by obtain ⟨h_, o_, rfl, _⟩ := h; rfl) fun cd A outer s H E hs ds r hr h => ?_
  obtain ⟨h_, o_, rfl, rfl⟩ := h
  show KSs _ ([.sh (dv h_), .sh (dv o_), .no, .no, .no, .no, .no] : List Ent) _ _
  refine ks_cons (s_lets (α := Hr) (ds := Hr.ds) [2, 3, 4, 5, 6] (pgs_cons (pg_name (i := 2) sc_is_within.nd rfl (by first | exact .inl rfl | exact .inr rfl)) (pgs_cons (pg_name (i := 3) sc_is_within.nd rfl (by first | exact .inl rfl | exact .inr rfl)) (pgs_cons (pg_name (i := 4) sc_is_within.nd rfl (by first | exact .inl rfl | exact .inr rfl)) (pgs_cons (pg_name (i := 5) sc_is_within.nd rfl (by first | exact .inl rfl | exact .inr rfl)) (pgs_cons (pg_name (i := 6) sc_is_within.nd rfl (by first | exact .inl rfl | exact .inr rfl)) (pgs_nil)))))) (fun _ => rfl) ?_)
  refine k_var 1 rfl rfl ?_
  intro z_ ez_; subst z_
  show KSs _ ([.sh (dv h_), .sh (dv o_), .sh (dv o_.sl), .sh (dv o_.sh), .sh (dv o_.rl), .sh (dv o_.rh), .sh (dv o_.ship)] : List Ent) _ _
  refine ks_one (s_ret (α := Bool) ?_)
  refine' k_andD _ ?_; rotate_left
  refine k_le ?_
  refine k_var 2 rfl rfl ?_
  refine k_ixT (α := Hr) (ds := Hr.ds) 0 Hr.sl (fun _ => rfl) rfl ?_
  refine k_var 0 rfl rfl ?_
  refine ⟨fun hb1 => ?_, ?_⟩
  · skip
    refine' k_andD _ ?_; rotate_left
    refine k_le ?_
    refine k_ixT (α := Hr) (ds := Hr.ds) 1 Hr.sh (fun _ => rfl) rfl ?_
    refine k_var 0 rfl rfl ?_
    refine k_var 3 rfl rfl ?_
    refine ⟨fun hb2 => ?_, ?_⟩
    · skip
      refine' k_andD _ ?_; rotate_left
      refine k_le ?_
      refine k_var 4 rfl rfl ?_
      refine k_ixT (α := Hr) (ds := Hr.ds) 2 Hr.rl (fun _ => rfl) rfl ?_
      refine k_var 0 rfl rfl ?_
      refine ⟨fun hb3 => ?_, ?_⟩
      · skip
        refine' k_andD _ ?_; rotate_left
        refine k_le ?_
        refine k_ixT (α := Hr) (ds := Hr.ds) 3 Hr.rh (fun _ => rfl) rfl ?_
        refine k_var 0 rfl rfl ?_
        refine k_var 5 rfl rfl ?_
        refine ⟨fun hb4 => ?_, ?_⟩
        · skip
          refine k_one ?_
          refine k_eq (α := Bool) ?_
          refine k_ixT (α := Hr) (ds := Hr.ds) 4 Hr.ship (fun _ => rfl) rfl ?_
          refine k_var 0 rfl rfl ?_
          refine k_var 6 rfl rfl ?_
          exact rfl
        exact rfl
      exact rfl
    exact rfl
  show (_ : Rz) = _
  first | rfl | assumption | (simp_all; done)
/-! Course.narrowed -/
def S_Course_narrowed : Pm := fun ds r => ∃ (c_ : Crs) (n_ : V) (t_ : Tv), ds = [dv c_, dv n_, dv t_] ∧ (c_.Ok) ∧ (scl n_) ∧ (∀ v ∈ t_.vs, scl v) ∧ r = narrowR c_ n_ t_
theorem ok_Course_narrowed (T : Tx K mg) : FnOk PP w K mg base (L2.CX PP w) 6 T.a_Course_narrowed T.fd_Course_narrowed ["self", "number", "hour"] (spOf K T.cls S_Course_narrowed) := by
  refine fn_ok T.F_Course_narrowed sc_Course_narrowed (fun ds r h => by obtain ⟨c_, n_, t_, rfl, _⟩ := h; rfl) fun cd A outer s H E hs ds r hr h => ?_
  obtain ⟨c_, n_, t_, rfl, p1, p2, p3, rfl⟩ := h
  have hl_ : c_.hours.length ≤ 100000 := by have := p1.2.1; omega
  show KSs _ ([.sh (dv c_), .sh (dv n_), .sh (dv t_), .no] : List Ent) _ _
  refine ks_cons (s_expr (α := Unit) ?_)
  refine k_call (ok_check_hour T) (hr.mono (by decide)) T.g_check_hour T.k_check_hour T.b_check_hour ?_
  refine a_cons (α := Tv) ?_
  refine k_var 2 rfl rfl ?_
  refine a_nil ?_
  refine ⟨_, ⟨_, rfl, p3, rfl⟩, ?_⟩
  refine Got.ite (fun c1 => ?_) (fun c1 => ?_)
  rotate_left
  · exact (show narrowR c_ n_ t_ = Rz.err 11 from by unfold narrowR; simp at c1; rw [c1])
  refine Got.ok ?_
  obtain ⟨h_, hh_⟩ := Option.isSome_iff_exists.mp c1
  obtain ⟨et_, ok_⟩ := mkHr_some hh_
  show KSs _ ([.sh (dv c_), .sh (dv n_), .sh (dv t_), .no] : List Ent) _ _
  refine ks_conv 2 h_ rfl (by rw [et_]; exact cv_hr' h_) ?_
  show KSs _ ([.sh (dv c_), .sh (dv n_), .sh (dv h_), .no] : List Ent) _ _
  show KSs _ ([.sh (dv c_), .sh (dv n_), .sh (dv h_), .no] : List Ent) _ _
  refine ks_cons (s_if ?_)
  refine t_not ?_
  refine t_val ?_
  refine k_call (ok_is_within T) (hr.mono (by decide)) T.g_is_within T.k_is_within T.b_is_within ?_
  refine a_cons (α := Hr) ?_
  refine k_var 2 rfl rfl ?_
  refine a_cons (α := Hr) ?_
  refine k_meth (num := 1) Crs.no_hour T.cl_1 T.m_Course_hour (ok_Course_hour T) (hr.mono (by decide)) T.b_Course_hour ?_
  refine k_var 0 rfl rfl ?_
  refine a_cons (α := V) ?_
  refine k_var 1 rfl rfl ?_
  refine a_nil ?_
  refine ⟨_, ⟨_, _, rfl, hl_, p2, rfl⟩, ?_⟩
  unfold hourR
  cases eh_ : Crs.at_ c_ n_ with
  | none => exact (show narrowR c_ n_ t_ = Rz.err 12 from by unfold narrowR; rw [hh_]; simp only; rw [eh_])
  | some o_ =>
  obtain ⟨i_, ei_, i0_, ix_⟩ := at_inv eh_
  refine Got.ok ?_
  refine a_nil ?_
  refine ⟨_, ⟨_, _, rfl, rfl⟩, Got.ok ?_⟩
  refine ifNB (fun h1 => ?_) (fun h1 => ?_)
  · skip
    refine ks_conv 1 i_ rfl (cv_vi ei_) ?_
    show KSs _ ([.sh (dv c_), .sh (dv i_), .sh (dv h_), .no] : List Ent) _ _
    refine ks_one (s_raise (cn := 11) T.e_InvalidCourse ?_)
    refine k_join ?_ (by decide)
    refine k_lit (by decide) ?_
    refine k_fmtI ?_
    refine k_var 1 rfl rfl ?_
    refine ⟨by have := p1.2.1; have := (List.getElem?_eq_some_iff.mp ix_).1; omega, ?_⟩
    refine k_lit (by decide) ?_
    show (_ : Rz) = _
    exact (by unfold narrowR; rw [hh_]; simp only; rw [eh_]; simp only; rw [if_neg (by rw [h1]; decide)])
  · skip
    refine ks_conv 1 i_ rfl (cv_vi ei_) ?_
    show KSs _ ([.sh (dv c_), .sh (dv i_), .sh (dv h_), .no] : List Ent) _ _
    have il_ : i_.toNat < c_.hours.length := (List.getElem?_eq_some_iff.mp ix_).1
    refine ks_nil ?_
    show KSs _ ([.sh (dv c_), .sh (dv i_), .sh (dv h_), .no] : List Ent) _ _
    refine ks_cons (s_newList (α := Hr) 3 T.nogl sc_Course_narrowed.nd rfl (Nat.le_of_ble_eq_true rfl) ?_)
    refine k_fld (n := 1) Crs.hours Crs.lk_hours T.cl_1 T.na_hours ?_
    refine k_var 0 rfl rfl ?_
    refine fun hours hours_e => ?_
    show KSs _ ([.sh (dv c_), .sh (dv i_), .sh (dv h_), .ow (olist hours)] : List Ent) _ _
    refine ks_cons (s_setIx (α := Hr) 3 rfl rfl ?_)
    refine k_var 2 rfl rfl ?_
    refine k_var 1 rfl rfl ?_
    refine ⟨⟨i0_, by rw [hours_e]; exact il_⟩, ?_⟩
    refine fun hours_six1 hours_six1_e => ?_
    show KSs _ ([.sh (dv c_), .sh (dv i_), .sh (dv h_), .ow (olist hours_six1)] : List Ent) _ _
    refine ks_freeze 3 rfl ?_
    show KSs _ ([.sh (dv c_), .sh (dv i_), .sh (dv h_), .sh (dv hours_six1)] : List Ent) _ _
    refine ks_one (s_ret (α := Crs) ?_)
    refine k_make (num := 1) (fs := Crs.fs) T.mk_1 (ok_Course__init T) (hr.mono (by decide)) T.g_Course T.b_Course__init ?_
    refine a_cons (α := List Tv) ?_
    refine k_cv (α := List Hr) ?_
    refine k_var 3 rfl rfl ?_
    refine ⟨_, cv_list cv_hr _, ?_⟩
    refine a_nil ?_
    refine ⟨_, ⟨_, rfl, scl_hrs _, rfl⟩, ?_⟩
    refine GotI.eq (initCrs_ok (c := ⟨hours_six1⟩) (by rw [hours_six1_e, hours_e]; exact crs_set p1 ok_ _)) ?_
    show (_ : Rz) = _
    exact (by unfold narrowR; rw [hh_]; simp only; rw [eh_]; simp only; rw [if_pos (by simpa using h1), hours_six1_e, hours_e, ei_]; rfl)
/-! Course.raised -/
def S_Course_raised : Pm := fun ds r => ∃ (c_ : Crs) (s_ : Int), ds = [dv c_, dv s_] ∧ (c_.Ok) ∧ r = raisedR c_ s_
theorem ok_Course_raised (T : Tx K mg) : FnOk PP w K mg base (L2.CX PP w) 6 T.a_Course_raised T.fd_Course_raised ["self", "surge"] (spOf K T.cls S_Course_raised) := by
  refine fn_ok T.F_Course_raised sc_Course_raised (fun ds r h => by obtain ⟨c_, s_, rfl, _⟩ := h; rfl) fun cd A outer s H E hs ds r hr h => ?_
  obtain ⟨c_, s_, rfl, p1, rfl⟩ := h
  show KSs _ ([.sh (dv c_), .sh (dv s_), .no, .no, .no, .no, .no] : List Ent) _ _
  refine ks_one (s_ret (α := Crs) ?_)
  refine k_make (num := 1) (fs := Crs.fs) T.mk_1 (ok_Course__init T) (hr.mono (by decide)) T.g_Course T.b_Course__init ?_
  refine a_cons (α := List Tv) ?_
  refine k_cv (α := List Hr) ?_
  refine k_ofLc (q_lc (α := Hr) (β := Hr) [("sea_low", 2), ("sea_high", 3), ("river_low", 4), ("river_high", 5), ("ship", 6)] sc_Course_raised.nd (blkOk_by rfl) (Nat.le_of_ble_eq_true rfl) (fun F' ⟨s', H', C', cl', fp', hs', e'⟩ => by subst e'; exact g_tupK (ds := Hr.ds) (K := K) [2, 3, 4, 5, 6] rfl (pgs_cons (pg_name (i := 2) sc_Course_raised.nd rfl (by first | exact .inl rfl | exact .inr rfl)) (pgs_cons (pg_name (i := 3) sc_Course_raised.nd rfl (by first | exact .inl rfl | exact .inr rfl)) (pgs_cons (pg_name (i := 4) sc_Course_raised.nd rfl (by first | exact .inl rfl | exact .inr rfl)) (pgs_cons (pg_name (i := 5) sc_Course_raised.nd rfl (by first | exact .inl rfl | exact .inr rfl)) (pgs_cons (pg_name (i := 6) sc_Course_raised.nd rfl (by first | exact .inl rfl | exact .inr rfl)) (pgs_nil)))))) (fun _ => rfl) rfl rfl rfl) (by decide) (by intro i hi o; simp only [List.map_cons, List.map_nil, List.mem_cons, List.not_mem_nil, or_false] at hi; rcases hi with rfl | rfl | rfl | rfl | rfl <;> intro z <;> cases z) ?_)
  refine k_fld (n := 1) Crs.hours Crs.lk_hours T.cl_1 T.na_hours ?_
  refine k_var 0 rfl rfl ?_
  refine ⟨by have := p1.2.1; omega, fun _ => true, fun it_ => Hr.up it_ s_, ?_, ?_, ?_⟩
  · rintro F' it_ ⟨s', H', C', cl', fp', hs', rfl⟩ comp1_m
    exact rfl
  · rintro F' it_ ⟨s', H', C', cl', fp', hs', rfl⟩ comp1_m comp1_t
    show KE _ [.sh (dv c_), .sh (dv s_), .sh (dv (Hr.sl it_)), .sh (dv (Hr.sh it_)), .sh (dv (Hr.rl it_)), .sh (dv (Hr.rh it_)), .sh (dv (Hr.ship it_))] _ _ _
    refine k_tup (α := Hr) (ds := Hr.ds) ?_
    refine a_cons (α := Int) ?_
    refine k_var 2 rfl rfl ?_
    refine a_cons (α := Int) ?_
    refine k_add ?_
    refine k_var 3 rfl rfl ?_
    refine k_var 1 rfl rfl ?_
    refine a_cons (α := Int) ?_
    refine k_var 4 rfl rfl ?_
    refine a_cons (α := Int) ?_
    refine k_var 5 rfl rfl ?_
    refine a_cons (α := Bool) ?_
    refine k_var 6 rfl rfl ?_
    refine a_nil ?_
    refine ⟨Nat.le_of_ble_eq_true rfl, ⟨it_.sl, it_.sh + s_, it_.rl, it_.rh, it_.ship⟩, rfl, ?_⟩
    exact rfl
  refine ⟨_, cv_list cv_hr _, ?_⟩
  refine a_nil ?_
  refine ⟨_, ⟨_, rfl, scl_hrs _, rfl⟩, ?_⟩
  rw [filter_yes, initCrs_up p1]
  refine GotI.ite (fun c1 => ?_) (fun c1 => ?_)
  rotate_left
  · exact (show raisedR c_ s_ = Rz.err 11 from if_neg c1)
  refine ⟨_, rfl, ?_⟩
  show (_ : Rz) = _
  exact if_pos c1
/-! _law_narrowed -/
def S_law_narrowed : Pm := fun ds r => ∃ (c_ : Crs) (i_ : Int) (h_ o_ : Hr), ds = [dv c_, dv i_, dv h_] ∧ (c_.Ok) ∧ (0 ≤ i_) ∧ (c_.hours[i_.toNat]? = some o_) ∧ r = .ok (dv (Op.mk (if fitH h_ o_ = true then some (Crs.mk (c_.hours.set i_.toNat h_)) else none)))
theorem ok_law_narrowed (T : Tx K mg) : FnOk PP w K mg base (L2.CX PP w) 7 T.a_law_narrowed T.fd_law_narrowed ["course", "number", "hour"] (spOf K T.cls S_law_narrowed) := by
  refine fn_ok T.F_law_narrowed sc_law_narrowed (fun ds r h => by obtain ⟨c_, i_, h_, o_, rfl, _⟩ := h; rfl) fun cd A outer s H E hs ds r hr h => ?_
  obtain ⟨c_, i_, h_, o_, rfl, p1, p2, p3, rfl⟩ := h
  show KSs _ ([.sh (dv c_), .sh (dv i_), .sh (dv h_)] : List Ent) _ _
  refine ks_one (s_tryO (cn := 11) T.e_InvalidCourse ?_)
  intro pn_ xe_
  refine ks_one (s_ret (α := Op Crs) ?_)
  refine k_cv (α := Crs) ?_
  refine k_meth (num := 1) Crs.no_narrowed T.cl_1 T.m_Course_narrowed (ok_Course_narrowed T) (hr.mono (by decide)) T.b_Course_narrowed ?_
  refine k_var 0 rfl rfl ?_
  refine a_cons (α := V) ?_
  refine k_toV (α := Int) ?_
  refine k_var 1 rfl rfl ?_
  refine a_cons (α := Tv) ?_
  refine k_cv (α := Hr) ?_
  refine k_var 2 rfl rfl ?_
  refine ⟨_, cv_hr _, ?_⟩
  refine a_nil ?_
  refine ⟨_, ⟨_, _, _, rfl, p1, scl_i _, scl_hr _, rfl⟩, ?_⟩
  refine Got.via (narrowR_ok (i := i_) p2 p3) ?_
  refine Got.ite (fun c1 => ?_) (fun c1 => ?_)
  rotate_left
  · show ∃ m, _
    refine ⟨true, T.x_11_11, fun _ q_ oe_ pn2_ hz_ hv_ => ?_, nofun⟩
    show KSs _ ([.sh (dv c_), .sh (dv i_), .sh (dv h_)] : List Ent) _ _
    refine ks_one (s_ret (α := Op Crs) ?_)
    refine k_nonO ?_
    show (_ : Rz) = _
    exact (by rw [if_neg c1])
  refine Got.ok ?_
  refine ⟨_, cv_some _, ?_⟩
  show (_ : Rz) = _
  exact (by rw [if_pos c1])
/-! _law_too_high -/
def S_law_too_high : Pm := fun ds r => ∃ (c_ : Crs) (s_ : Int), ds = [dv c_, dv s_] ∧ (c_.Ok) ∧ r = .ok (dv (!raisedOk c_ s_))
theorem ok_law_too_high (T : Tx K mg) : FnOk PP w K mg base (L2.CX PP w) 7 T.a_law_too_high T.fd_law_too_high ["course", "surge"] (spOf K T.cls S_law_too_high) := by
  refine fn_ok T.F_law_too_high sc_law_too_high (fun ds r h => by obtain ⟨c_, s_, rfl, _⟩ := h; rfl) fun cd A outer s H E hs ds r hr h => ?_
  obtain ⟨c_, s_, rfl, p1, rfl⟩ := h
  show KSs _ ([.sh (dv c_), .sh (dv s_)] : List Ent) _ _
  refine ks_cons (s_tryO (cn := 11) T.e_InvalidCourse ?_)
  intro pn_ xe_
  refine ks_one (s_expr (α := Crs) ?_)
  refine k_meth (num := 1) Crs.no_raised T.cl_1 T.m_Course_raised (ok_Course_raised T) (hr.mono (by decide)) T.b_Course_raised ?_
  refine k_var 0 rfl rfl ?_
  refine a_cons (α := Int) ?_
  refine k_var 1 rfl rfl ?_
  refine a_nil ?_
  refine ⟨_, ⟨_, _, rfl, p1, rfl⟩, ?_⟩
  unfold raisedR
  refine Got.ite (fun c1 => ?_) (fun c1 => ?_)
  rotate_left
  · show ∃ m, _
    refine ⟨true, T.x_11_11, fun _ q_ oe_ pn2_ hz_ hv_ => ?_, nofun⟩
    show KSs _ ([.sh (dv c_), .sh (dv s_)] : List Ent) _ _
    refine ks_one (s_ret (α := Bool) ?_)
    refine k_bl ?_
    show (_ : Rz) = _
    exact (by rw [show raisedOk c_ s_ = false from by simpa using c1]; rfl)
  refine Got.ok ?_
  show KSs _ ([.sh (dv c_), .sh (dv s_)] : List Ent) _ _
  refine ks_one (s_ret (α := Bool) ?_)
  refine k_bl ?_
  show (_ : Rz) = _
  exact (by rw [c1]; rfl)
/-! law -/
def S_law : Pm := fun ds r => ∃ (ns_ : List Int), ds = [dv (Scr.mk ns_)] ∧ (ns_.length ≤ 63) ∧ r = .ok (dv true)
theorem ok_law (T : Tx K mg) : FnOk PP w K mg base (L2.CX PP w) 8 T.a_law T.fd_law ["script"] (spOf K T.cls S_law) := by
  refine fn_ok T.F_law sc_law (fun ds r h => by obtain ⟨ns_, rfl, _⟩ := h; rfl) fun cd A outer s H E hs ds r hr h => ?_
  obtain ⟨ns_, rfl, p1, rfl⟩ := h
  show KSs _ ([.sh (dv (Scr.mk ns_)), .no, .no, .no, .no, .no, .no, .no, .no, .no, .no, .no, .no, .no, .no, .no, .no, .no] : List Ent) _ _
  refine ks_cons (s_let (α := List Hr) 1 sc_law.nd rfl ?_)
  refine k_call (ok_law_hours T) (hr.mono (by decide)) T.g_law_hours T.k_law_hours T.b_law_hours ?_
  refine a_cons (α := Scr) ?_
  refine k_var 0 rfl rfl ?_
  refine a_cons (α := Int) ?_
  refine k_int ?_
  refine a_nil ?_
  refine ⟨_, ⟨_, _, rfl, by first | assumption | omega, by first | assumption | omega, rfl⟩, Got.ok ?_⟩
  refine fun hours hours_e => ?_
  have ho_ : ∀ h ∈ hours, h.Ok := by rw [hours_e]; exact hoursOf_ok _ _
  have hb_ : 1 ≤ hours.length ∧ hours.length ≤ 8 := by rw [hours_e]; exact hoursOf_bnd ns_ (by decide)
  have hm_ : ∀ h ∈ hours, h.sh ≤ 9 ∧ h.rh ≤ 4 := by rw [hours_e]; exact hoursOf_small _ _
  have hc_ : Crs.Ok ⟨hours⟩ := ⟨hb_.1, by have := hb_.2; show hours.length ≤ 72; omega, ho_⟩
  have hlen_ : (Crs.mk hours).hours.length ≤ 100000 := by have := hb_.2; show hours.length ≤ _; omega
  show KSs _ ([.sh (dv (Scr.mk ns_)), .sh (dv hours), .no, .no, .no, .no, .no, .no, .no, .no, .no, .no, .no, .no, .no, .no, .no, .no] : List Ent) _ _
  refine ks_cons (s_let (α := Crs) 2 sc_law.nd rfl ?_)
  refine k_make (num := 1) (fs := Crs.fs) T.mk_1 (ok_Course__init T) (hr.mono (by decide)) T.g_Course T.b_Course__init ?_
  refine a_cons (α := List Tv) ?_
  refine k_cv (α := List Hr) ?_
  refine k_var 1 rfl rfl ?_
  refine ⟨_, cv_list cv_hr _, ?_⟩
  refine a_nil ?_
  refine ⟨_, ⟨_, rfl, scl_hrs _, rfl⟩, ?_⟩
  refine GotI.eq (initCrs_ok (c := ⟨hours⟩) hc_) ?_
  refine fun course course_e => ?_
  subst course_e
  show KSs _ ([.sh (dv (Scr.mk ns_)), .sh (dv hours), .sh (dv (Crs.mk hours)), .no, .no, .no, .no, .no, .no, .no, .no, .no, .no, .no, .no, .no, .no, .no] : List Ent) _ _
  refine ks_cons (s_if ?_)
  refine t_w ?_
  refine' w_orD _ ?_; rotate_left
  refine t_neD (α := List Hr) hr.units ?_
  refine k_fld (n := 1) Crs.hours Crs.lk_hours T.cl_1 T.na_hours ?_
  refine k_var 2 rfl rfl ?_
  refine k_var 1 rfl rfl ?_
  refine ⟨fun hb1 => ?_, ?_⟩
  · skip
    refine' w_orD _ ?_; rotate_left
    refine t_ne (α := Int) ?_
    refine k_meth0 (num := 1) Crs.no_count T.cl_1 T.m_Course_count (ok_Course_count T) (hr.mono (by decide)) T.b_Course_count ?_
    refine k_var 2 rfl rfl ?_
    refine ⟨_, ⟨_, rfl, rfl⟩, Got.ok ?_⟩
    refine k_lenL (α := Hr) T.nogl ?_
    refine k_var 1 rfl rfl ?_
    refine ⟨fun hb2 => ?_, ?_⟩
    · skip
      refine w_or1 ?_
      refine t_neD (α := List Hr) hr.units ?_
      refine k_ofLc (q_lcR1 (β := Hr) [("k", 3)] sc_law.nd T.nogl (blkOk_by rfl) (Nat.le_of_ble_eq_true rfl) (fun F' ⟨s', H', C', cl', fp', hs', e'⟩ => by subst e'; exact g_name (α := Int) 3 sc_law.nd rfl) (by decide) (by intro i hi o; simp only [List.map_cons, List.map_nil, List.mem_cons, List.not_mem_nil, or_false] at hi; subst hi <;> intro z <;> cases z) ?_)
      refine k_lenL (α := Hr) T.nogl ?_
      refine k_var 1 rfl rfl ?_
      refine ⟨by have := hb_.2; omega, fun _ => true, hAt hours, ?_, ?_, ?_⟩
      · rintro F' k ⟨s', H', C', cl', fp', hs', rfl⟩ comp1_m
        have hk_ := mem_span.mp comp1_m
        exact rfl
      · rintro F' k ⟨s', H', C', cl', fp', hs', rfl⟩ comp1_m comp1_t
        have hk_ := mem_span.mp comp1_m
        show KE _ [.sh (dv (Scr.mk ns_)), .sh (dv hours), .sh (dv (Crs.mk hours)), .sh (dv k), .no, .no, .no, .no, .no, .no, .no, .no, .no, .no, .no, .no, .no, .no] _ _ _
        refine k_meth (num := 1) Crs.no_hour T.cl_1 T.m_Course_hour (ok_Course_hour T) (hr.mono (by decide)) T.b_Course_hour ?_
        refine k_var 2 rfl rfl ?_
        refine a_cons (α := V) ?_
        refine k_toV (α := Int) ?_
        refine k_var 3 rfl rfl ?_
        refine a_nil ?_
        refine ⟨_, ⟨_, _, rfl, hlen_, scl_i _, rfl⟩, ?_⟩
        refine Got.eq (hourR_ok (i := k) hk_.1 (hAt_some hk_.1 hk_.2)) ?_
        exact rfl
      refine k_var 1 rfl rfl ?_
      exact rfl
    exact rfl
  refine ifB (fun h1 => ?_) (fun h1 => ?_)
  · skip
    refine ks_one (s_ret (α := Bool) ?_)
    refine k_bl ?_
    show (_ : Rz) = _
    exact (by rw [hAt_all] at h1; simp at h1)
  · skip
    refine ks_nil ?_
    show KSs _ ([.sh (dv (Scr.mk ns_)), .sh (dv hours), .sh (dv (Crs.mk hours)), .no, .no, .no, .no, .no, .no, .no, .no, .no, .no, .no, .no, .no, .no, .no] : List Ent) _ _
    show KSs _ ([.sh (dv (Scr.mk ns_)), .sh (dv hours), .sh (dv (Crs.mk hours)), .no, .no, .no, .no, .no, .no, .no, .no, .no, .no, .no, .no, .no, .no, .no] : List Ent) _ _
    refine ks_cons (s_for (α := Int) (g_name (α := Int) 4 sc_law.nd rfl) ?_)
    refine k_cat ?_
    refine k_slScr ?_
    refine k_var 0 rfl rfl ?_
    refine k_int ?_
    refine k_int ?_
    refine ⟨by omega, ?_⟩
    refine k_lst (α := List Int) (ds := dvs) ?_
    refine a_cons (α := Int) ?_
    refine k_int ?_
    refine a_cons (α := Int) ?_
    refine k_int ?_
    refine a_nil ?_
    refine ⟨Nat.le_of_ble_eq_true rfl, [_, _], rfl, ?_⟩
    refine ⟨by simp only [List.length_take, List.length_drop, List.length_cons, List.length_nil]; omega, ?_⟩
    refine ⟨fun (i_for1 : Nat) e_ => e_ = ([.sh (dv (Scr.mk ns_)), .sh (dv hours), .sh (dv (Crs.mk hours)), .no, .no, .no, .no, .no, .no, .no, .no, .no, .no, .no, .no, .no, .no, .no] : List Ent) ∧ (True), ?_, ?_, ?_⟩
    · exact ⟨rfl, by first | trivial | rfl | simp⟩
    · rintro i_for1 cell _ for1_at ⟨rfl, for1_i⟩
      refine turn_fgt ?_
      show KSs _ ([.sh (dv (Scr.mk ns_)), .sh (dv hours), .sh (dv (Crs.mk hours)), .no, .sh (dv cell), .no, .no, .no, .no, .no, .no, .no, .no, .no, .no, .no, .no, .no] : List Ent) _ _
      refine ks_cons (s_let (α := Int) 5 sc_law.nd rfl ?_)
      refine k_mod ?_
      refine k_intI T.nogl ?_
      refine k_var 4 rfl rfl ?_
      refine k_lenL (α := Hr) T.nogl ?_
      refine k_var 1 rfl rfl ?_
      refine ⟨by omega, ?_⟩
      refine fun number number_e => ?_
      have nm_ : 0 ≤ number ∧ number < (hours.length : Int) := by rw [number_e]; exact ⟨Int.emod_nonneg _ (by omega), Int.emod_lt_of_pos _ (by omega)⟩
      obtain ⟨h_, hh_⟩ : ∃ x, hours[number.toNat]? = some x := ⟨_, List.getElem?_eq_getElem (by omega)⟩
      show KSs _ ([.sh (dv (Scr.mk ns_)), .sh (dv hours), .sh (dv (Crs.mk hours)), .no, .sh (dv cell), .sh (dv number), .no, .no, .no, .no, .no, .no, .no, .no, .no, .no, .no, .no] : List Ent) _ _
      refine ks_cons (s_let (α := Hr) 6 sc_law.nd rfl ?_)
      refine k_ixL ?_
      refine k_var 1 rfl rfl ?_
      refine k_var 5 rfl rfl ?_
      refine ⟨h_, ⟨by omega, hh_⟩, ?_⟩
      refine fun old old_e => ?_
      subst old_e
      have hho_ := ho_ _ (List.mem_of_getElem? hh_)
      show KSs _ ([.sh (dv (Scr.mk ns_)), .sh (dv hours), .sh (dv (Crs.mk hours)), .no, .sh (dv cell), .sh (dv number), .sh (dv old), .no, .no, .no, .no, .no, .no, .no, .no, .no, .no, .no] : List Ent) _ _
      refine ks_cons (s_let (α := List Int) 7 sc_law.nd rfl ?_)
      refine k_lst (α := List Int) (ds := dvs) ?_
      refine a_cons (α := Int) ?_
      refine k_sub ?_
      refine k_mod ?_
      refine k_div ?_
      refine k_intI T.nogl ?_
      refine k_var 4 rfl rfl ?_
      refine k_int ?_
      refine ⟨by omega, ?_⟩
      refine k_int ?_
      refine ⟨by omega, ?_⟩
      refine k_int ?_
      refine a_cons (α := Int) ?_
      refine k_sub ?_
      refine k_mod ?_
      refine k_div ?_
      refine k_intI T.nogl ?_
      refine k_var 4 rfl rfl ?_
      refine k_int ?_
      refine ⟨by omega, ?_⟩
      refine k_int ?_
      refine ⟨by omega, ?_⟩
      refine k_int ?_
      refine a_cons (α := Int) ?_
      refine k_sub ?_
      refine k_mod ?_
      refine k_div ?_
      refine k_intI T.nogl ?_
      refine k_var 4 rfl rfl ?_
      refine k_int ?_
      refine ⟨by omega, ?_⟩
      refine k_int ?_
      refine ⟨by omega, ?_⟩
      refine k_int ?_
      refine a_cons (α := Int) ?_
      refine k_sub ?_
      refine k_mod ?_
      refine k_div ?_
      refine k_intI T.nogl ?_
      refine k_var 4 rfl rfl ?_
      refine k_int ?_
      refine ⟨by omega, ?_⟩
      refine k_int ?_
      refine ⟨by omega, ?_⟩
      refine k_int ?_
      refine a_nil ?_
      refine ⟨Nat.le_of_ble_eq_true rfl, [_, _, _, _], rfl, ?_⟩
      refine fun change change_e => ?_
      obtain ⟨x0_, x0_e⟩ : ∃ x, x = cell / 24 % 3 - 1 := ⟨_, rfl⟩
      obtain ⟨x1_, x1_e⟩ : ∃ x, x = cell / 72 % 3 - 1 := ⟨_, rfl⟩
      obtain ⟨x2_, x2_e⟩ : ∃ x, x = cell / 216 % 3 - 1 := ⟨_, rfl⟩
      obtain ⟨x3_, x3_e⟩ : ∃ x, x = cell / 648 % 3 - 1 := ⟨_, rfl⟩
      rw [← x0_e, ← x1_e, ← x2_e, ← x3_e] at change_e
      subst change_e
      show KSs _ ([.sh (dv (Scr.mk ns_)), .sh (dv hours), .sh (dv (Crs.mk hours)), .no, .sh (dv cell), .sh (dv number), .sh (dv old), .sh (dv [x0_, x1_, x2_, x3_]), .no, .no, .no, .no, .no, .no, .no, .no, .no, .no] : List Ent) _ _
      refine ks_cons (s_letLc 8 rfl (q_lcR1 (β := Int) [("k", 3)] sc_law.nd T.nogl (blkOk_by rfl) (Nat.le_of_ble_eq_true rfl) (fun F' ⟨s', H', C', cl', fp', hs', e'⟩ => by subst e'; exact g_name (α := Int) 3 sc_law.nd rfl) (by decide) (by intro i hi o; simp only [List.map_cons, List.map_nil, List.mem_cons, List.not_mem_nil, or_false] at hi; subst hi <;> intro z <;> cases z) ?_))
      refine k_int ?_
      refine ⟨by omega, fun _ => true, fun k => o4 old k + c4 x0_ x1_ x2_ x3_ k, ?_, ?_, ?_⟩
      · rintro F' k ⟨s', H', C', cl', fp', hs', rfl⟩ comp2_m
        exact rfl
      · rintro F' k ⟨s', H', C', cl', fp', hs', rfl⟩ comp2_m comp2_t
        show KE _ [.sh (dv (Scr.mk ns_)), .sh (dv hours), .sh (dv (Crs.mk hours)), .sh (dv k), .sh (dv cell), .sh (dv number), .sh (dv old), .sh (dv [x0_, x1_, x2_, x3_]), .no, .no, .no, .no, .no, .no, .no, .no, .no, .no] _ _ _
        refine k_add ?_
        refine k_ixTv (α := Hr) (ds := Hr.ds) ?_
        refine k_var 6 rfl rfl ?_
        refine k_var 3 rfl rfl ?_
        refine ⟨_, o4_at comp2_m, ?_⟩
        refine k_ixL ?_
        refine k_var 7 rfl rfl ?_
        refine k_var 3 rfl rfl ?_
        refine ⟨_, c4_at comp2_m, ?_⟩
        exact rfl
      refine fun new new_e => ?_
      have hx_ : new = [old.sl + x0_, old.sh + x1_, old.rl + x2_, old.rh + x3_] := by rw [new_e]; rfl
      subst hx_
      show KSs _ ([.sh (dv (Scr.mk ns_)), .sh (dv hours), .sh (dv (Crs.mk hours)), .no, .sh (dv cell), .sh (dv number), .sh (dv old), .sh (dv [x0_, x1_, x2_, x3_]), .sh (dv [old.sl + x0_, old.sh + x1_, old.rl + x2_, old.rh + x3_]), .no, .no, .no, .no, .no, .no, .no, .no, .no] : List Ent) _ _
      refine ks_cons (s_let (α := Bool) 9 sc_law.nd rfl ?_)
      refine k_ne (α := Bool) ?_
      refine k_ixT (α := Hr) (ds := Hr.ds) 4 Hr.ship (fun _ => rfl) rfl ?_
      refine k_var 6 rfl rfl ?_
      refine k_eq (α := Int) ?_
      refine k_mod ?_
      refine k_div ?_
      refine k_intI T.nogl ?_
      refine k_var 4 rfl rfl ?_
      refine k_int ?_
      refine ⟨by omega, ?_⟩
      refine k_int ?_
      refine ⟨by omega, ?_⟩
      refine k_int ?_
      refine fun ship ship_e => ?_
      show KSs _ ([.sh (dv (Scr.mk ns_)), .sh (dv hours), .sh (dv (Crs.mk hours)), .no, .sh (dv cell), .sh (dv number), .sh (dv old), .sh (dv [x0_, x1_, x2_, x3_]), .sh (dv [old.sl + x0_, old.sh + x1_, old.rl + x2_, old.rh + x3_]), .sh (dv ship), .no, .no, .no, .no, .no, .no, .no, .no] : List Ent) _ _
      refine ks_cons (s_let (α := Bool) 10 sc_law.nd rfl ?_)
      refine' k_andD _ ?_; rotate_left
      refine k_ge ?_
      refine k_ixL ?_
      refine k_var 8 rfl rfl ?_
      refine k_int ?_
      refine ⟨_, ⟨by decide, rfl⟩, ?_⟩
      refine k_ixT (α := Hr) (ds := Hr.ds) 0 Hr.sl (fun _ => rfl) rfl ?_
      refine k_var 6 rfl rfl ?_
      refine ⟨fun hb3 => ?_, ?_⟩
      · skip
        refine' k_andD _ ?_; rotate_left
        refine k_le ?_
        refine k_ixL ?_
        refine k_var 8 rfl rfl ?_
        refine k_int ?_
        refine ⟨_, ⟨by decide, rfl⟩, ?_⟩
        refine k_ixT (α := Hr) (ds := Hr.ds) 1 Hr.sh (fun _ => rfl) rfl ?_
        refine k_var 6 rfl rfl ?_
        refine ⟨fun hb4 => ?_, ?_⟩
        · skip
          refine' k_andD _ ?_; rotate_left
          refine k_ge ?_
          refine k_ixL ?_
          refine k_var 8 rfl rfl ?_
          refine k_int ?_
          refine ⟨_, ⟨by decide, rfl⟩, ?_⟩
          refine k_ixT (α := Hr) (ds := Hr.ds) 2 Hr.rl (fun _ => rfl) rfl ?_
          refine k_var 6 rfl rfl ?_
          refine ⟨fun hb5 => ?_, ?_⟩
          · skip
            refine' k_andD _ ?_; rotate_left
            refine k_le ?_
            refine k_ixL ?_
            refine k_var 8 rfl rfl ?_
            refine k_int ?_
            refine ⟨_, ⟨by decide, rfl⟩, ?_⟩
            refine k_ixT (α := Hr) (ds := Hr.ds) 3 Hr.rh (fun _ => rfl) rfl ?_
            refine k_var 6 rfl rfl ?_
            refine ⟨fun hb6 => ?_, ?_⟩
            · skip
              refine k_one ?_
              refine k_eq (α := Bool) ?_
              refine k_var 9 rfl rfl ?_
              refine k_ixT (α := Hr) (ds := Hr.ds) 4 Hr.ship (fun _ => rfl) rfl ?_
              refine k_var 6 rfl rfl ?_
              exact rfl
            exact rfl
          exact rfl
        exact rfl
      refine fun fits fits_e => ?_
      show KSs _ ([.sh (dv (Scr.mk ns_)), .sh (dv hours), .sh (dv (Crs.mk hours)), .no, .sh (dv cell), .sh (dv number), .sh (dv old), .sh (dv [x0_, x1_, x2_, x3_]), .sh (dv [old.sl + x0_, old.sh + x1_, old.rl + x2_, old.rh + x3_]), .sh (dv ship), .sh (dv fits), .no, .no, .no, .no, .no, .no, .no] : List Ent) _ _
      refine ks_cons (s_let (α := Bool) 10 sc_law.nd rfl ?_)
      refine' k_andD _ ?_; rotate_left
      refine k_var 10 rfl rfl ?_
      refine ⟨fun hb7 => ?_, ?_⟩
      · skip
        refine' k_andD _ ?_; rotate_left
        refine k_le ?_
        refine k_ixL ?_
        refine k_var 8 rfl rfl ?_
        refine k_int ?_
        refine ⟨_, ⟨by decide, rfl⟩, ?_⟩
        refine k_ixL ?_
        refine k_var 8 rfl rfl ?_
        refine k_int ?_
        refine ⟨_, ⟨by decide, rfl⟩, ?_⟩
        refine ⟨fun hb8 => ?_, ?_⟩
        · skip
          refine k_one ?_
          refine k_le ?_
          refine k_ixL ?_
          refine k_var 8 rfl rfl ?_
          refine k_int ?_
          refine ⟨_, ⟨by decide, rfl⟩, ?_⟩
          refine k_ixL ?_
          refine k_var 8 rfl rfl ?_
          refine k_int ?_
          refine ⟨_, ⟨by decide, rfl⟩, ?_⟩
          exact rfl
        exact rfl
      refine fun fits fits_e2 => ?_
      have ft_ : fits = fitH (Hr.mk (old.sl + x0_) (old.sh + x1_) (old.rl + x2_) (old.rh + x3_) ship) old := by rw [fits_e2, fits_e]; exact fit_eq hho_ _ _ _ _ _
      show KSs _ ([.sh (dv (Scr.mk ns_)), .sh (dv hours), .sh (dv (Crs.mk hours)), .no, .sh (dv cell), .sh (dv number), .sh (dv old), .sh (dv [x0_, x1_, x2_, x3_]), .sh (dv [old.sl + x0_, old.sh + x1_, old.rl + x2_, old.rh + x3_]), .sh (dv ship), .sh (dv fits), .no, .no, .no, .no, .no, .no, .no] : List Ent) _ _
      refine ks_cons (s_let (α := Op Crs) 11 sc_law.nd rfl ?_)
      refine k_call (ok_law_narrowed T) (hr.mono (by decide)) T.g_law_narrowed T.k_law_narrowed T.b_law_narrowed ?_
      refine a_cons (α := Crs) ?_
      refine k_var 2 rfl rfl ?_
      refine a_cons (α := Int) ?_
      refine k_var 5 rfl rfl ?_
      refine a_cons (α := Hr) ?_
      refine k_tup (α := Hr) (ds := Hr.ds) ?_
      refine a_cons (α := Int) ?_
      refine k_ixL ?_
      refine k_var 8 rfl rfl ?_
      refine k_int ?_
      refine ⟨_, ⟨by decide, rfl⟩, ?_⟩
      refine a_cons (α := Int) ?_
      refine k_ixL ?_
      refine k_var 8 rfl rfl ?_
      refine k_int ?_
      refine ⟨_, ⟨by decide, rfl⟩, ?_⟩
      refine a_cons (α := Int) ?_
      refine k_ixL ?_
      refine k_var 8 rfl rfl ?_
      refine k_int ?_
      refine ⟨_, ⟨by decide, rfl⟩, ?_⟩
      refine a_cons (α := Int) ?_
      refine k_ixL ?_
      refine k_var 8 rfl rfl ?_
      refine k_int ?_
      refine ⟨_, ⟨by decide, rfl⟩, ?_⟩
      refine a_cons (α := Bool) ?_
      refine k_var 9 rfl rfl ?_
      refine a_nil ?_
      refine ⟨Nat.le_of_ble_eq_true rfl, ⟨_, _, _, _, _⟩, rfl, ?_⟩
      refine a_nil ?_
      refine ⟨_, ⟨_, _, _, _, rfl, hc_, nm_.1, hh_, rfl⟩, Got.ok ?_⟩
      refine fun told told_e => ?_
      have tc_ : fits = true → told.o = some (Crs.mk (hours.set number.toNat (Hr.mk (old.sl + x0_) (old.sh + x1_) (old.rl + x2_) (old.rh + x3_) ship))) := fun z => by rw [told_e]; show (if _ then _ else _) = _; rw [if_pos (by rw [← ft_]; exact z)]
      show KSs _ ([.sh (dv (Scr.mk ns_)), .sh (dv hours), .sh (dv (Crs.mk hours)), .no, .sh (dv cell), .sh (dv number), .sh (dv old), .sh (dv [x0_, x1_, x2_, x3_]), .sh (dv [old.sl + x0_, old.sh + x1_, old.rl + x2_, old.rh + x3_]), .sh (dv ship), .sh (dv fits), .sh (dv told), .no, .no, .no, .no, .no, .no] : List Ent) _ _
      refine ks_cons (s_if ?_)
      refine t_ne (α := Bool) ?_
      refine k_notN (α := Op Crs) ?_
      refine k_var 11 rfl rfl ?_
      refine k_var 10 rfl rfl ?_
      refine ifND (fun h2 => ?_) (fun h2 => ?_)
      · skip
        refine ks_one (s_ret (α := Bool) ?_)
        refine k_bl ?_
        show (_ : Rz) = _
        exact absurd (by rw [told_e, ft_]; cases fitH (Hr.mk (old.sl + x0_) (old.sh + x1_) (old.rl + x2_) (old.rh + x3_) ship) old <;> rfl) h2
      · skip
        refine ks_nil ?_
        show KSs _ ([.sh (dv (Scr.mk ns_)), .sh (dv hours), .sh (dv (Crs.mk hours)), .no, .sh (dv cell), .sh (dv number), .sh (dv old), .sh (dv [x0_, x1_, x2_, x3_]), .sh (dv [old.sl + x0_, old.sh + x1_, old.rl + x2_, old.rh + x3_]), .sh (dv ship), .sh (dv fits), .sh (dv told), .no, .no, .no, .no, .no, .no] : List Ent) _ _
        refine ks_cons (s_if ?_)
        refine t_w ?_
        refine' w_andD _ ?_; rotate_left
        refine t_val ?_
        refine k_var 10 rfl rfl ?_
        refine ⟨fun hb9 => ?_, ?_⟩
        · skip
          refine w_and1 ?_
          refine t_neD (α := List Hr) hr.units ?_
          refine k_fld (n := 1) Crs.hours Crs.lk_hours T.cl_1 T.na_hours ?_
          refine k_cv (α := Op Crs) ?_
          refine k_var 11 rfl rfl ?_
          refine ⟨_, cv_op (tc_ hb9), ?_⟩
          refine k_cat ?_
          refine k_cat ?_
          refine k_slTo ?_
          refine k_var 1 rfl rfl ?_
          refine k_var 5 rfl rfl ?_
          refine ⟨by omega, ?_⟩
          refine k_lst (α := List Hr) (ds := dvs) ?_
          refine a_cons (α := Hr) ?_
          refine k_tup (α := Hr) (ds := Hr.ds) ?_
          refine a_cons (α := Int) ?_
          refine k_ixL ?_
          refine k_var 8 rfl rfl ?_
          refine k_int ?_
          refine ⟨_, ⟨by decide, rfl⟩, ?_⟩
          refine a_cons (α := Int) ?_
          refine k_ixL ?_
          refine k_var 8 rfl rfl ?_
          refine k_int ?_
          refine ⟨_, ⟨by decide, rfl⟩, ?_⟩
          refine a_cons (α := Int) ?_
          refine k_ixL ?_
          refine k_var 8 rfl rfl ?_
          refine k_int ?_
          refine ⟨_, ⟨by decide, rfl⟩, ?_⟩
          refine a_cons (α := Int) ?_
          refine k_ixL ?_
          refine k_var 8 rfl rfl ?_
          refine k_int ?_
          refine ⟨_, ⟨by decide, rfl⟩, ?_⟩
          refine a_cons (α := Bool) ?_
          refine k_var 9 rfl rfl ?_
          refine a_nil ?_
          refine ⟨Nat.le_of_ble_eq_true rfl, ⟨_, _, _, _, _⟩, rfl, ?_⟩
          refine a_nil ?_
          refine ⟨Nat.le_of_ble_eq_true rfl, [_], rfl, ?_⟩
          refine ⟨by simp <;> omega, ?_⟩
          refine k_slFrom ?_
          refine k_var 1 rfl rfl ?_
          refine k_add ?_
          refine k_var 5 rfl rfl ?_
          refine k_int ?_
          refine ⟨by omega, ?_⟩
          refine ⟨by simp <;> omega, ?_⟩
          exact rfl
        refine ifB (fun h3 => ?_) (fun h3 => ?_)
        · skip
          refine ks_one (s_ret (α := Bool) ?_)
          refine k_bl ?_
          show (_ : Rz) = _
          exact (by rw [set_cut nm_.1 nm_.2] at h3; simp at h3)
        · skip
          refine ks_nil ?_
          show KSs _ ([.sh (dv (Scr.mk ns_)), .sh (dv hours), .sh (dv (Crs.mk hours)), .no, .sh (dv cell), .sh (dv number), .sh (dv old), .sh (dv [x0_, x1_, x2_, x3_]), .sh (dv [old.sl + x0_, old.sh + x1_, old.rl + x2_, old.rh + x3_]), .sh (dv ship), .sh (dv fits), .sh (dv told), .no, .no, .no, .no, .no, .no] : List Ent) _ _
          refine ks_cons (s_let (α := Int) 12 sc_law.nd rfl ?_)
          refine k_sub ?_
          refine k_add ?_
          refine k_ixT (α := Hr) (ds := Hr.ds) 0 Hr.sl (fun _ => rfl) rfl ?_
          refine k_var 6 rfl rfl ?_
          refine k_mod ?_
          refine k_div ?_
          refine k_intI T.nogl ?_
          refine k_var 4 rfl rfl ?_
          refine k_int ?_
          refine ⟨by omega, ?_⟩
          refine k_int ?_
          refine ⟨by omega, ?_⟩
          refine k_int ?_
          refine fun sea sea_e => ?_
          show KSs _ ([.sh (dv (Scr.mk ns_)), .sh (dv hours), .sh (dv (Crs.mk hours)), .no, .sh (dv cell), .sh (dv number), .sh (dv old), .sh (dv [x0_, x1_, x2_, x3_]), .sh (dv [old.sl + x0_, old.sh + x1_, old.rl + x2_, old.rh + x3_]), .sh (dv ship), .sh (dv fits), .sh (dv told), .sh (dv sea), .no, .no, .no, .no, .no] : List Ent) _ _
          refine ks_cons (s_let (α := Int) 13 sc_law.nd rfl ?_)
          refine k_sub ?_
          refine k_add ?_
          refine k_ixT (α := Hr) (ds := Hr.ds) 2 Hr.rl (fun _ => rfl) rfl ?_
          refine k_var 6 rfl rfl ?_
          refine k_mod ?_
          refine k_div ?_
          refine k_intI T.nogl ?_
          refine k_var 4 rfl rfl ?_
          refine k_int ?_
          refine ⟨by omega, ?_⟩
          refine k_int ?_
          refine ⟨by omega, ?_⟩
          refine k_int ?_
          refine fun river river_e => ?_
          show KSs _ ([.sh (dv (Scr.mk ns_)), .sh (dv hours), .sh (dv (Crs.mk hours)), .no, .sh (dv cell), .sh (dv number), .sh (dv old), .sh (dv [x0_, x1_, x2_, x3_]), .sh (dv [old.sl + x0_, old.sh + x1_, old.rl + x2_, old.rh + x3_]), .sh (dv ship), .sh (dv fits), .sh (dv told), .sh (dv sea), .sh (dv river), .no, .no, .no, .no] : List Ent) _ _
          refine ks_cons (s_let (α := Bool) 11 sc_law.nd rfl ?_)
          refine k_meth (num := 1) Crs.no_has T.cl_1 T.m_Course_has (ok_Course_has T) (hr.mono (by decide)) T.b_Course_has ?_
          refine k_var 2 rfl rfl ?_
          refine a_cons (α := V) ?_
          refine k_toV (α := Int) ?_
          refine k_var 5 rfl rfl ?_
          refine a_cons (α := Int) ?_
          refine k_var 12 rfl rfl ?_
          refine a_cons (α := Int) ?_
          refine k_var 13 rfl rfl ?_
          refine a_nil ?_
          refine ⟨_, ⟨_, _, _, _, rfl, hlen_, scl_i _, rfl⟩, ?_⟩
          refine Got.eq (hasR_ok (i := number) nm_.1 hh_) ?_
          refine fun told told_e2 => ?_
          show KSs _ ([.sh (dv (Scr.mk ns_)), .sh (dv hours), .sh (dv (Crs.mk hours)), .no, .sh (dv cell), .sh (dv number), .sh (dv old), .sh (dv [x0_, x1_, x2_, x3_]), .sh (dv [old.sl + x0_, old.sh + x1_, old.rl + x2_, old.rh + x3_]), .sh (dv ship), .sh (dv fits), .sh (dv told), .sh (dv sea), .sh (dv river), .no, .no, .no, .no] : List Ent) _ _
          refine ks_one (s_if ?_)
          refine t_w ?_
          refine' w_orD _ ?_; rotate_left
          refine t_w ?_
          refine' w_andD _ ?_; rotate_left
          refine t_notB ?_
          refine k_var 11 rfl rfl ?_
          refine k_bl ?_
          refine ⟨fun hb10 => ?_, ?_⟩
          · skip
            refine w_and1 ?_
            refine t_notB ?_
            refine k_var 11 rfl rfl ?_
            refine k_bl ?_
            exact rfl
          refine ⟨fun hb11 => ?_, ?_⟩
          · skip
            refine w_or1 ?_
            refine t_ne (α := Bool) ?_
            refine k_var 11 rfl rfl ?_
            refine' k_andD _ ?_; rotate_left
            refine' k_leleD _ ?_; rotate_left
            refine k_ixT (α := Hr) (ds := Hr.ds) 0 Hr.sl (fun _ => rfl) rfl ?_
            refine k_var 6 rfl rfl ?_
            refine k_var 12 rfl rfl ?_
            refine ⟨?_, ?_⟩
            · skip
              refine k_ixT (α := Hr) (ds := Hr.ds) 1 Hr.sh (fun _ => rfl) rfl ?_
              refine k_var 6 rfl rfl ?_
              exact rfl
            refine ⟨fun hb12 => ?_, ?_⟩
            · skip
              refine k_one ?_
              refine' k_leleD _ ?_; rotate_left
              refine k_ixT (α := Hr) (ds := Hr.ds) 2 Hr.rl (fun _ => rfl) rfl ?_
              refine k_var 6 rfl rfl ?_
              refine k_var 13 rfl rfl ?_
              refine ⟨?_, ?_⟩
              · skip
                refine k_ixT (α := Hr) (ds := Hr.ds) 3 Hr.rh (fun _ => rfl) rfl ?_
                refine k_var 6 rfl rfl ?_
                exact rfl
              exact rfl
            exact rfl
          refine ifB (fun h4 => ?_) (fun h4 => ?_)
          · skip
            refine ks_one (s_ret (α := Bool) ?_)
            refine k_bl ?_
            show (_ : Rz) = _
            exact (by exfalso; rw [told_e2] at h4; simp [Hr.has] at h4; omega)
          · skip
            refine ks_nil ?_
            exact ⟨[5, 6, 7, 8, 9, 10, 11, 12, 13, 4], rfl, by first | trivial | assumption | omega⟩
    · rintro _ ⟨rfl, for1_d⟩
      show KSs _ ([.sh (dv (Scr.mk ns_)), .sh (dv hours), .sh (dv (Crs.mk hours)), .no, .no, .no, .no, .no, .no, .no, .no, .no, .no, .no, .no, .no, .no, .no] : List Ent) _ _
      refine ks_cons (s_let (α := Int) 14 sc_law.nd rfl ?_)
      refine k_mod ?_
      refine k_call (ok_law_cell T) (hr.mono (by decide)) T.g_law_cell T.k_law_cell T.b_law_cell ?_
      refine a_cons (α := Scr) ?_
      refine k_var 0 rfl rfl ?_
      refine a_cons (α := Int) ?_
      refine k_int ?_
      refine a_nil ?_
      refine ⟨_, ⟨_, _, rfl, by first | assumption | omega, rfl⟩, Got.ok ?_⟩
      refine k_int ?_
      refine ⟨by omega, ?_⟩
      refine fun surge surge_e => ?_
      show KSs _ ([.sh (dv (Scr.mk ns_)), .sh (dv hours), .sh (dv (Crs.mk hours)), .no, .no, .no, .no, .no, .no, .no, .no, .no, .no, .no, .sh (dv surge), .no, .no, .no] : List Ent) _ _
      refine ks_cons (s_let (α := List Hr) 15 sc_law.nd rfl ?_)
      refine k_fld (n := 1) Crs.hours Crs.lk_hours T.cl_1 T.na_hours ?_
      refine k_meth (num := 1) Crs.no_raised T.cl_1 T.m_Course_raised (ok_Course_raised T) (hr.mono (by decide)) T.b_Course_raised ?_
      refine k_var 2 rfl rfl ?_
      refine a_cons (α := Int) ?_
      refine k_var 14 rfl rfl ?_
      refine a_nil ?_
      refine ⟨_, ⟨_, _, rfl, hc_, rfl⟩, ?_⟩
      refine Got.eq (raisedR_ok (up_ok (s := surge) ho_ (by omega) (fun h hh => by have := (hm_ h hh).1; omega))) ?_
      refine fun raised raised_e => ?_
      show KSs _ ([.sh (dv (Scr.mk ns_)), .sh (dv hours), .sh (dv (Crs.mk hours)), .no, .no, .no, .no, .no, .no, .no, .no, .no, .no, .no, .sh (dv surge), .sh (dv raised), .no, .no] : List Ent) _ _
      refine ks_cons (s_if ?_)
      refine t_neD (α := List Hr) hr.units ?_
      refine k_var 15 rfl rfl ?_
      refine k_ofLc (q_lc (α := Hr) (β := Hr) [("row", 16)] sc_law.nd (blkOk_by rfl) (Nat.le_of_ble_eq_true rfl) (fun F' ⟨s', H', C', cl', fp', hs', e'⟩ => by subst e'; exact g_name (α := Hr) 16 sc_law.nd rfl) (by decide) (by intro i hi o; simp only [List.map_cons, List.map_nil, List.mem_cons, List.not_mem_nil, or_false] at hi; subst hi <;> intro z <;> cases z) ?_)
      refine k_var 1 rfl rfl ?_
      refine ⟨by have := hb_.2; omega, fun _ => true, fun row => row.up surge, ?_, ?_, ?_⟩
      · rintro F' row ⟨s', H', C', cl', fp', hs', rfl⟩ comp3_m
        exact rfl
      · rintro F' row ⟨s', H', C', cl', fp', hs', rfl⟩ comp3_m comp3_t
        show KE _ [.sh (dv (Scr.mk ns_)), .sh (dv hours), .sh (dv (Crs.mk hours)), .no, .no, .no, .no, .no, .no, .no, .no, .no, .no, .no, .sh (dv surge), .sh (dv raised), .sh (dv row), .no] _ _ _
        refine k_tup (α := Hr) (ds := Hr.ds) ?_
        refine a_cons (α := Int) ?_
        refine k_ixT (α := Hr) (ds := Hr.ds) 0 Hr.sl (fun _ => rfl) rfl ?_
        refine k_var 16 rfl rfl ?_
        refine a_cons (α := Int) ?_
        refine k_add ?_
        refine k_ixT (α := Hr) (ds := Hr.ds) 1 Hr.sh (fun _ => rfl) rfl ?_
        refine k_var 16 rfl rfl ?_
        refine k_var 14 rfl rfl ?_
        refine a_cons (α := Int) ?_
        refine k_ixT (α := Hr) (ds := Hr.ds) 2 Hr.rl (fun _ => rfl) rfl ?_
        refine k_var 16 rfl rfl ?_
        refine a_cons (α := Int) ?_
        refine k_ixT (α := Hr) (ds := Hr.ds) 3 Hr.rh (fun _ => rfl) rfl ?_
        refine k_var 16 rfl rfl ?_
        refine a_cons (α := Bool) ?_
        refine k_ixT (α := Hr) (ds := Hr.ds) 4 Hr.ship (fun _ => rfl) rfl ?_
        refine k_var 16 rfl rfl ?_
        refine a_nil ?_
        refine ⟨Nat.le_of_ble_eq_true rfl, ⟨row.sl, row.sh + surge, row.rl, row.rh, row.ship⟩, rfl, ?_⟩
        exact rfl
      refine ifND (fun h5 => ?_) (fun h5 => ?_)
      · skip
        refine ks_one (s_ret (α := Bool) ?_)
        refine k_bl ?_
        show (_ : Rz) = _
        exact (by rw [raised_e, filter_yes] at h5; simp at h5)
      · skip
        refine ks_nil ?_
        show KSs _ ([.sh (dv (Scr.mk ns_)), .sh (dv hours), .sh (dv (Crs.mk hours)), .no, .no, .no, .no, .no, .no, .no, .no, .no, .no, .no, .sh (dv surge), .sh (dv raised), .no, .no] : List Ent) _ _
        refine ks_cons (s_let (α := Int) 17 sc_law.nd rfl ?_)
        refine k_sub ?_
        refine k_int ?_
        refine k_maxL T.nogl ?_
        refine k_ofLc (q_lc (α := Hr) (β := Int) [("row", 16)] sc_law.nd (blkOk_by rfl) (Nat.le_of_ble_eq_true rfl) (fun F' ⟨s', H', C', cl', fp', hs', e'⟩ => by subst e'; exact g_name (α := Hr) 16 sc_law.nd rfl) (by decide) (by intro i hi o; simp only [List.map_cons, List.map_nil, List.mem_cons, List.not_mem_nil, or_false] at hi; subst hi <;> intro z <;> cases z) ?_)
        refine k_var 1 rfl rfl ?_
        refine ⟨by have := hb_.2; omega, fun _ => true, fun row => row.sh, ?_, ?_, ?_⟩
        · rintro F' row ⟨s', H', C', cl', fp', hs', rfl⟩ comp4_m
          exact rfl
        · rintro F' row ⟨s', H', C', cl', fp', hs', rfl⟩ comp4_m comp4_t
          show KE _ [.sh (dv (Scr.mk ns_)), .sh (dv hours), .sh (dv (Crs.mk hours)), .no, .no, .no, .no, .no, .no, .no, .no, .no, .no, .no, .sh (dv surge), .sh (dv raised), .sh (dv row), .no] _ _ _
          refine k_ixT (α := Hr) (ds := Hr.ds) 1 Hr.sh (fun _ => rfl) rfl ?_
          refine k_var 16 rfl rfl ?_
          exact rfl
        refine ⟨by rw [filter_yes]; intro z; have := hb_.1; rw [List.map_eq_nil_iff] at z; rw [z] at this; exact absurd this (by decide), fun mx_ mx_m mx_l => ?_⟩
        rw [filter_yes] at mx_m mx_l
        obtain ⟨g_, g_m, g_e⟩ := List.mem_map.mp mx_m
        have mxl_ : ∀ h ∈ hours, h.sh ≤ mx_ := fun h hh => mx_l _ (List.mem_map.mpr ⟨h, hh, rfl⟩)
        have mx9_ := (hm_ g_ g_m).1
        replace g_e : g_.sh = mx_ := g_e
        refine fun highest highest_e => ?_
        show KSs _ ([.sh (dv (Scr.mk ns_)), .sh (dv hours), .sh (dv (Crs.mk hours)), .no, .no, .no, .no, .no, .no, .no, .no, .no, .no, .no, .sh (dv surge), .sh (dv raised), .no, .sh (dv highest)] : List Ent) _ _
        refine ks_cons (s_if ?_)
        refine t_neD (α := List Hr) hr.units ?_
        refine k_fld (n := 1) Crs.hours Crs.lk_hours T.cl_1 T.na_hours ?_
        refine k_meth (num := 1) Crs.no_raised T.cl_1 T.m_Course_raised (ok_Course_raised T) (hr.mono (by decide)) T.b_Course_raised ?_
        refine k_var 2 rfl rfl ?_
        refine a_cons (α := Int) ?_
        refine k_var 17 rfl rfl ?_
        refine a_nil ?_
        refine ⟨_, ⟨_, _, rfl, hc_, rfl⟩, ?_⟩
        refine Got.eq (raisedR_ok (up_ok (s := highest) ho_ (by omega) (fun h hh => by have := mxl_ h hh; omega))) ?_
        refine k_ofLc (q_lc (α := Hr) (β := Hr) [("row", 16)] sc_law.nd (blkOk_by rfl) (Nat.le_of_ble_eq_true rfl) (fun F' ⟨s', H', C', cl', fp', hs', e'⟩ => by subst e'; exact g_name (α := Hr) 16 sc_law.nd rfl) (by decide) (by intro i hi o; simp only [List.map_cons, List.map_nil, List.mem_cons, List.not_mem_nil, or_false] at hi; subst hi <;> intro z <;> cases z) ?_)
        refine k_var 1 rfl rfl ?_
        refine ⟨by have := hb_.2; omega, fun _ => true, fun row => row.up highest, ?_, ?_, ?_⟩
        · rintro F' row ⟨s', H', C', cl', fp', hs', rfl⟩ comp5_m
          exact rfl
        · rintro F' row ⟨s', H', C', cl', fp', hs', rfl⟩ comp5_m comp5_t
          show KE _ [.sh (dv (Scr.mk ns_)), .sh (dv hours), .sh (dv (Crs.mk hours)), .no, .no, .no, .no, .no, .no, .no, .no, .no, .no, .no, .sh (dv surge), .sh (dv raised), .sh (dv row), .sh (dv highest)] _ _ _
          refine k_tup (α := Hr) (ds := Hr.ds) ?_
          refine a_cons (α := Int) ?_
          refine k_ixT (α := Hr) (ds := Hr.ds) 0 Hr.sl (fun _ => rfl) rfl ?_
          refine k_var 16 rfl rfl ?_
          refine a_cons (α := Int) ?_
          refine k_add ?_
          refine k_ixT (α := Hr) (ds := Hr.ds) 1 Hr.sh (fun _ => rfl) rfl ?_
          refine k_var 16 rfl rfl ?_
          refine k_var 17 rfl rfl ?_
          refine a_cons (α := Int) ?_
          refine k_ixT (α := Hr) (ds := Hr.ds) 2 Hr.rl (fun _ => rfl) rfl ?_
          refine k_var 16 rfl rfl ?_
          refine a_cons (α := Int) ?_
          refine k_ixT (α := Hr) (ds := Hr.ds) 3 Hr.rh (fun _ => rfl) rfl ?_
          refine k_var 16 rfl rfl ?_
          refine a_cons (α := Bool) ?_
          refine k_ixT (α := Hr) (ds := Hr.ds) 4 Hr.ship (fun _ => rfl) rfl ?_
          refine k_var 16 rfl rfl ?_
          refine a_nil ?_
          refine ⟨Nat.le_of_ble_eq_true rfl, ⟨row.sl, row.sh + highest, row.rl, row.rh, row.ship⟩, rfl, ?_⟩
          exact rfl
        refine ifND (fun h6 => ?_) (fun h6 => ?_)
        · skip
          refine ks_one (s_ret (α := Bool) ?_)
          refine k_bl ?_
          show (_ : Rz) = _
          exact (by rw [filter_yes] at h6; simp at h6)
        · skip
          refine ks_nil ?_
          show KSs _ ([.sh (dv (Scr.mk ns_)), .sh (dv hours), .sh (dv (Crs.mk hours)), .no, .no, .no, .no, .no, .no, .no, .no, .no, .no, .no, .sh (dv surge), .sh (dv raised), .no, .sh (dv highest)] : List Ent) _ _
          refine ks_one (s_ret (α := Bool) ?_)
          refine' k_andD _ ?_; rotate_left
          refine k_eqD (α := List Hr) hr.units ?_
          refine k_fld (n := 1) Crs.hours Crs.lk_hours T.cl_1 T.na_hours ?_
          refine k_var 2 rfl rfl ?_
          refine k_var 1 rfl rfl ?_
          refine ⟨fun hb13 => ?_, ?_⟩
          · skip
            refine' k_andD _ ?_; rotate_left
            refine k_call (ok_law_too_high T) (hr.mono (by decide)) T.g_law_too_high T.k_law_too_high T.b_law_too_high ?_
            refine a_cons (α := Crs) ?_
            refine k_var 2 rfl rfl ?_
            refine a_cons (α := Int) ?_
            refine k_add ?_
            refine k_var 17 rfl rfl ?_
            refine k_int ?_
            refine a_nil ?_
            refine ⟨_, ⟨_, _, rfl, hc_, rfl⟩, Got.ok ?_⟩
            refine ⟨fun hb14 => ?_, ?_⟩
            · skip
              refine k_one ?_
              refine k_call (ok_law_too_high T) (hr.mono (by decide)) T.g_law_too_high T.k_law_too_high T.b_law_too_high ?_
              refine a_cons (α := Crs) ?_
              refine k_var 2 rfl rfl ?_
              refine a_cons (α := Int) ?_
              refine k_add ?_
              refine k_add ?_
              refine k_var 17 rfl rfl ?_
              refine k_int ?_
              refine k_var 14 rfl rfl ?_
              refine a_nil ?_
              refine ⟨_, ⟨_, _, rfl, hc_, rfl⟩, Got.ok ?_⟩
              exact rfl
            exact rfl
          show (_ : Rz) = _
          exact (by rw [up_no g_m (by omega), up_no g_m (by omega)]; simp)
end
end Sk
namespace Sk
open PySem L2 PyProof.Rows Rk
theorem all_mk {PP : Program} {w : World} {K : PySem.W.Frag} {h : Heap} {mg : Str → Option Value} {fa : Addr} (X : K.In h) (G : h.Ns mainGlobals mg) (hfa : mg "law" = some (.ref fa))
    {C1 C11 C12 C16 : Addr}
    {t_MOST_HOURS : Tok}
    {t_MOST_BOUND : Tok}
    {f_is_whole : Addr} {od_is_whole an_is_whole : Option Addr} {sl_is_whole : Array (Option Value)} {oc_is_whole kV_is_whole dc_is_whole pm_is_whole cd_is_whole ct_is_whole : Value}
    {f_check_bounds : Addr} {od_check_bounds an_check_bounds : Option Addr} {sl_check_bounds : Array (Option Value)} {oc_check_bounds kV_check_bounds dc_check_bounds pm_check_bounds cd_check_bounds ct_check_bounds : Value}
    {f_check_hour : Addr} {od_check_hour an_check_hour : Option Addr} {sl_check_hour : Array (Option Value)} {oc_check_hour kV_check_hour dc_check_hour pm_check_hour cd_check_hour ct_check_hour : Value}
    {f_Course__init : Addr} {od_Course__init an_Course__init : Option Addr} {sl_Course__init : Array (Option Value)} {oc_Course__init kV_Course__init dc_Course__init pm_Course__init cd_Course__init ct_Course__init : Value}
    {f_Course_count : Addr} {od_Course_count an_Course_count : Option Addr} {sl_Course_count : Array (Option Value)} {oc_Course_count kV_Course_count dc_Course_count pm_Course_count cd_Course_count ct_Course_count : Value}
    {f_Course_hour : Addr} {od_Course_hour an_Course_hour : Option Addr} {sl_Course_hour : Array (Option Value)} {oc_Course_hour kV_Course_hour dc_Course_hour pm_Course_hour cd_Course_hour ct_Course_hour : Value}
    {f_Course_has : Addr} {od_Course_has an_Course_has : Option Addr} {sl_Course_has : Array (Option Value)} {oc_Course_has kV_Course_has dc_Course_has pm_Course_has cd_Course_has ct_Course_has : Value}
    {f_law_cell : Addr} {od_law_cell an_law_cell : Option Addr} {sl_law_cell : Array (Option Value)} {oc_law_cell kV_law_cell dc_law_cell pm_law_cell cd_law_cell ct_law_cell : Value}
    {f_law_hours : Addr} {od_law_hours an_law_hours : Option Addr} {sl_law_hours : Array (Option Value)} {oc_law_hours kV_law_hours dc_law_hours pm_law_hours cd_law_hours ct_law_hours : Value}
    {f_is_within : Addr} {od_is_within an_is_within : Option Addr} {sl_is_within : Array (Option Value)} {oc_is_within kV_is_within dc_is_within pm_is_within cd_is_within ct_is_within : Value}
    {f_Course_narrowed : Addr} {od_Course_narrowed an_Course_narrowed : Option Addr} {sl_Course_narrowed : Array (Option Value)} {oc_Course_narrowed kV_Course_narrowed dc_Course_narrowed pm_Course_narrowed cd_Course_narrowed ct_Course_narrowed : Value}
    {f_Course_raised : Addr} {od_Course_raised an_Course_raised : Option Addr} {sl_Course_raised : Array (Option Value)} {oc_Course_raised kV_Course_raised dc_Course_raised pm_Course_raised cd_Course_raised ct_Course_raised : Value}
    {f_law_narrowed : Addr} {od_law_narrowed an_law_narrowed : Option Addr} {sl_law_narrowed : Array (Option Value)} {oc_law_narrowed kV_law_narrowed dc_law_narrowed pm_law_narrowed cd_law_narrowed ct_law_narrowed : Value}
    {f_law_too_high : Addr} {od_law_too_high an_law_too_high : Option Addr} {sl_law_too_high : Array (Option Value)} {oc_law_too_high kV_law_too_high dc_law_too_high pm_law_too_high cd_law_too_high ct_law_too_high : Value}
    {f_law : Addr} {od_law an_law : Option Addr} {sl_law : Array (Option Value)} {oc_law kV_law dc_law pm_law cd_law ct_law : Value}
    (h0 : PySem.W.nsIn K mainGlobals "Course" = some (some (.ref C1)))
    (h1 : PySem.W.nsIn K mainGlobals "InvalidCourse" = some (some (.ref C11)))
    (h2 : PySem.W.nsIn K mainGlobals "InvalidState" = some (some (.ref C12)))
    (h3 : PySem.W.nsIn K mainGlobals "KeepError" = some (some (.ref C16)))
    (h4 : PySem.W.excIn K C11 [.type "ValueError", .type "Exception", .type "BaseException", .type "object"] "ValueError.__new__" = true)
    (h5 : PySem.W.keepIn K (.ref C11) = true)
    (h6 : PySem.W.subIn K (.ref C11) (.type "BaseException") = some true)
    (h7 : PySem.W.typeIn K (.ref C11) = some (.type "type"))
    (h8 : PySem.W.excIn K C12 [.type "ValueError", .type "Exception", .type "BaseException", .type "object"] "ValueError.__new__" = true)
    (h9 : PySem.W.keepIn K (.ref C12) = true)
    (h10 : PySem.W.subIn K (.ref C12) (.type "BaseException") = some true)
    (h11 : PySem.W.typeIn K (.ref C12) = some (.type "type"))
    (h12 : PySem.W.subIn K (.ref C11) (.ref C11) = some true)
    (h13 : PySem.W.hasDictIn K C11 = true)
    (h14 : PySem.W.nsIn K mainGlobals "MOST_HOURS" = some (some (.int 72 t_MOST_HOURS)))
    (h15 : PySem.W.nsIn K mainGlobals "MOST_BOUND" = some (some (.int 400 t_MOST_BOUND)))
    (h16 : PySem.W.plainGet K C1 Str.empty = true)
    (h17 : PySem.W.hasDictIn K C1 = true)
    (h18 : PySem.W.plainOver K C1 = true)
    (h19 : PySem.W.findIn K (.ref C1) "__setattr__" = some (some (.builtin "object.__setattr__")))
    (h20 : PySem.W.findIn K (.ref C1) "hours" = some none)
    (h21 : PySem.W.nsIn K mainGlobals "is_whole" = some (some (.ref f_is_whole)))
    (h22 : K.lookup f_is_whole = some ⟨oc_is_whole, od_is_whole, .func (PySem.W.fnOf "is_whole" "is_whole" (defArgs s_is_whole) (defBody s_is_whole) (defScope s_is_whole) .none kV_is_whole dc_is_whole pm_is_whole an_is_whole cd_is_whole ct_is_whole), sl_is_whole⟩)
    (h23 : PySem.W.codeIn K cd_is_whole "is_whole" = true)
    (h24 : PySem.W.keepIn K (.ref f_is_whole) = true)
    (h25 : PySem.W.nsIn K mainGlobals "_check_bounds" = some (some (.ref f_check_bounds)))
    (h26 : K.lookup f_check_bounds = some ⟨oc_check_bounds, od_check_bounds, .func (PySem.W.fnOf "_check_bounds" "_check_bounds" (defArgs s_check_bounds) (defBody s_check_bounds) (defScope s_check_bounds) .none kV_check_bounds dc_check_bounds pm_check_bounds an_check_bounds cd_check_bounds ct_check_bounds), sl_check_bounds⟩)
    (h27 : PySem.W.codeIn K cd_check_bounds "_check_bounds" = true)
    (h28 : PySem.W.keepIn K (.ref f_check_bounds) = true)
    (h29 : PySem.W.nsIn K mainGlobals "_check_hour" = some (some (.ref f_check_hour)))
    (h30 : K.lookup f_check_hour = some ⟨oc_check_hour, od_check_hour, .func (PySem.W.fnOf "_check_hour" "_check_hour" (defArgs s_check_hour) (defBody s_check_hour) (defScope s_check_hour) .none kV_check_hour dc_check_hour pm_check_hour an_check_hour cd_check_hour ct_check_hour), sl_check_hour⟩)
    (h31 : PySem.W.codeIn K cd_check_hour "_check_hour" = true)
    (h32 : PySem.W.keepIn K (.ref f_check_hour) = true)
    (h33 : PySem.W.findIn K (.ref C1) "__init__" = some (some (.ref f_Course__init)))
    (h34 : PySem.W.isFn K (.ref f_Course__init) = true)
    (h35 : K.lookup f_Course__init = some ⟨oc_Course__init, od_Course__init, .func (PySem.W.fnOf "__init__" "Course.__init__" (defArgs s_Course__init) (defBody s_Course__init) (defScope s_Course__init) .none kV_Course__init dc_Course__init pm_Course__init an_Course__init cd_Course__init ct_Course__init), sl_Course__init⟩)
    (h36 : PySem.W.codeIn K cd_Course__init "Course.__init__" = true)
    (h37 : PySem.W.keepIn K (.ref f_Course__init) = true)
    (h38 : PySem.W.makesIn K C1 = true)
    (h39 : PySem.W.keepIn K (.ref C1) = true)
    (h40 : PySem.W.findIn K (.ref C1) "count" = some (some (.ref f_Course_count)))
    (h41 : PySem.W.isFn K (.ref f_Course_count) = true)
    (h42 : K.lookup f_Course_count = some ⟨oc_Course_count, od_Course_count, .func (PySem.W.fnOf "count" "Course.count" (defArgs s_Course_count) (defBody s_Course_count) (defScope s_Course_count) .none kV_Course_count dc_Course_count pm_Course_count an_Course_count cd_Course_count ct_Course_count), sl_Course_count⟩)
    (h43 : PySem.W.codeIn K cd_Course_count "Course.count" = true)
    (h44 : PySem.W.keepIn K (.ref f_Course_count) = true)
    (h45 : PySem.W.findIn K (.ref C1) "hour" = some (some (.ref f_Course_hour)))
    (h46 : PySem.W.isFn K (.ref f_Course_hour) = true)
    (h47 : K.lookup f_Course_hour = some ⟨oc_Course_hour, od_Course_hour, .func (PySem.W.fnOf "hour" "Course.hour" (defArgs s_Course_hour) (defBody s_Course_hour) (defScope s_Course_hour) .none kV_Course_hour dc_Course_hour pm_Course_hour an_Course_hour cd_Course_hour ct_Course_hour), sl_Course_hour⟩)
    (h48 : PySem.W.codeIn K cd_Course_hour "Course.hour" = true)
    (h49 : PySem.W.keepIn K (.ref f_Course_hour) = true)
    (h50 : PySem.W.findIn K (.ref C1) "has" = some (some (.ref f_Course_has)))
    (h51 : PySem.W.isFn K (.ref f_Course_has) = true)
    (h52 : K.lookup f_Course_has = some ⟨oc_Course_has, od_Course_has, .func (PySem.W.fnOf "has" "Course.has" (defArgs s_Course_has) (defBody s_Course_has) (defScope s_Course_has) .none kV_Course_has dc_Course_has pm_Course_has an_Course_has cd_Course_has ct_Course_has), sl_Course_has⟩)
    (h53 : PySem.W.codeIn K cd_Course_has "Course.has" = true)
    (h54 : PySem.W.keepIn K (.ref f_Course_has) = true)
    (h55 : PySem.W.nsIn K mainGlobals "_law_cell" = some (some (.ref f_law_cell)))
    (h56 : K.lookup f_law_cell = some ⟨oc_law_cell, od_law_cell, .func (PySem.W.fnOf "_law_cell" "_law_cell" (defArgs s_law_cell) (defBody s_law_cell) (defScope s_law_cell) .none kV_law_cell dc_law_cell pm_law_cell an_law_cell cd_law_cell ct_law_cell), sl_law_cell⟩)
    (h57 : PySem.W.codeIn K cd_law_cell "_law_cell" = true)
    (h58 : PySem.W.keepIn K (.ref f_law_cell) = true)
    (h59 : PySem.W.nsIn K mainGlobals "_law_hours" = some (some (.ref f_law_hours)))
    (h60 : K.lookup f_law_hours = some ⟨oc_law_hours, od_law_hours, .func (PySem.W.fnOf "_law_hours" "_law_hours" (defArgs s_law_hours) (defBody s_law_hours) (defScope s_law_hours) .none kV_law_hours dc_law_hours pm_law_hours an_law_hours cd_law_hours ct_law_hours), sl_law_hours⟩)
    (h61 : PySem.W.codeIn K cd_law_hours "_law_hours" = true)
    (h62 : PySem.W.keepIn K (.ref f_law_hours) = true)
    (h63 : PySem.W.nsIn K mainGlobals "_is_within" = some (some (.ref f_is_within)))
    (h64 : K.lookup f_is_within = some ⟨oc_is_within, od_is_within, .func (PySem.W.fnOf "_is_within" "_is_within" (defArgs s_is_within) (defBody s_is_within) (defScope s_is_within) .none kV_is_within dc_is_within pm_is_within an_is_within cd_is_within ct_is_within), sl_is_within⟩)
    (h65 : PySem.W.codeIn K cd_is_within "_is_within" = true)
    (h66 : PySem.W.keepIn K (.ref f_is_within) = true)
    (h67 : PySem.W.findIn K (.ref C1) "narrowed" = some (some (.ref f_Course_narrowed)))
    (h68 : PySem.W.isFn K (.ref f_Course_narrowed) = true)
    (h69 : K.lookup f_Course_narrowed = some ⟨oc_Course_narrowed, od_Course_narrowed, .func (PySem.W.fnOf "narrowed" "Course.narrowed" (defArgs s_Course_narrowed) (defBody s_Course_narrowed) (defScope s_Course_narrowed) .none kV_Course_narrowed dc_Course_narrowed pm_Course_narrowed an_Course_narrowed cd_Course_narrowed ct_Course_narrowed), sl_Course_narrowed⟩)
    (h70 : PySem.W.codeIn K cd_Course_narrowed "Course.narrowed" = true)
    (h71 : PySem.W.keepIn K (.ref f_Course_narrowed) = true)
    (h72 : PySem.W.findIn K (.ref C1) "raised" = some (some (.ref f_Course_raised)))
    (h73 : PySem.W.isFn K (.ref f_Course_raised) = true)
    (h74 : K.lookup f_Course_raised = some ⟨oc_Course_raised, od_Course_raised, .func (PySem.W.fnOf "raised" "Course.raised" (defArgs s_Course_raised) (defBody s_Course_raised) (defScope s_Course_raised) .none kV_Course_raised dc_Course_raised pm_Course_raised an_Course_raised cd_Course_raised ct_Course_raised), sl_Course_raised⟩)
    (h75 : PySem.W.codeIn K cd_Course_raised "Course.raised" = true)
    (h76 : PySem.W.keepIn K (.ref f_Course_raised) = true)
    (h77 : PySem.W.nsIn K mainGlobals "_law_narrowed" = some (some (.ref f_law_narrowed)))
    (h78 : K.lookup f_law_narrowed = some ⟨oc_law_narrowed, od_law_narrowed, .func (PySem.W.fnOf "_law_narrowed" "_law_narrowed" (defArgs s_law_narrowed) (defBody s_law_narrowed) (defScope s_law_narrowed) .none kV_law_narrowed dc_law_narrowed pm_law_narrowed an_law_narrowed cd_law_narrowed ct_law_narrowed), sl_law_narrowed⟩)
    (h79 : PySem.W.codeIn K cd_law_narrowed "_law_narrowed" = true)
    (h80 : PySem.W.keepIn K (.ref f_law_narrowed) = true)
    (h81 : PySem.W.nsIn K mainGlobals "_law_too_high" = some (some (.ref f_law_too_high)))
    (h82 : K.lookup f_law_too_high = some ⟨oc_law_too_high, od_law_too_high, .func (PySem.W.fnOf "_law_too_high" "_law_too_high" (defArgs s_law_too_high) (defBody s_law_too_high) (defScope s_law_too_high) .none kV_law_too_high dc_law_too_high pm_law_too_high an_law_too_high cd_law_too_high ct_law_too_high), sl_law_too_high⟩)
    (h83 : PySem.W.codeIn K cd_law_too_high "_law_too_high" = true)
    (h84 : PySem.W.keepIn K (.ref f_law_too_high) = true)
    (h85 : PySem.W.nsIn K mainGlobals "law" = some (some (.ref f_law)))
    (h86 : K.lookup f_law = some ⟨oc_law, od_law, .func (PySem.W.fnOf "law" "law" (defArgs s_law) (defBody s_law) (defScope s_law) .none kV_law dc_law pm_law an_law cd_law ct_law), sl_law⟩)
    (h87 : PySem.W.codeIn K cd_law "law" = true)
    (h88 : PySem.W.keepIn K (.ref f_law) = true)
    (h89 : PySem.W.nsIn K mainGlobals "len" = some none)
    (h90 : PySem.W.nsIn K mainGlobals "range" = some none)
    (h91 : PySem.W.nsIn K mainGlobals "min" = some none)
    (h92 : PySem.W.nsIn K mainGlobals "max" = some none)
    (h93 : PySem.W.nsIn K mainGlobals "int" = some none)
    (h94 : PySem.W.nsIn K mainGlobals "isinstance" = some none)
    (h95 : PySem.W.nsIn K mainGlobals "list" = some none)
    (h96 : PySem.W.nsIn K mainGlobals "tuple" = some none)
    (h97 : PySem.W.nsIn K mainGlobals "sorted" = some none)
    (h98 : PySem.W.nsIn K mainGlobals "enumerate" = some none)
    (h99 : PySem.W.nsIn K mainGlobals "zip" = some none)
    (h100 : PySem.W.nsIn K mainGlobals "all" = some none)
    (h101 : PySem.W.nsIn K mainGlobals "any" = some none)
    (h102 : PySem.W.nsIn K mainGlobals "bool" = some none)
    (h103 : PySem.W.nsIn K mainGlobals "dict" = some none)
    (h104 : PySem.W.nsIn K mainGlobals "str" = some none)
    (h105 : PySem.W.nsIn K mainGlobals "sum" = some none)
    (h106 : PySem.W.nsIn K mainGlobals "reversed" = some none)
    (h107 : PySem.W.nsIn K mainGlobals "ValueError" = some none) :
    ∃ fd : FuncData, (∀ (s : Shared) (v : Value), BindsTo s fd ⟨[v], []⟩ [("script", v)]) ∧ ∀ base : Heap, K.In base → base.Ns mainGlobals mg → FnOk PP w K mg base (L2.CX PP w) 8 fa fd ["script"] (lawSp 63 K) := by
  have e := hfa.symm.trans (PySem.W.mg_of X G h85)
  cases e
  let T : Tx K mg := {
    cls := (fun n_ => match n_ with | 1 => C1 | 11 => C11 | 12 => C12 | 16 => C16 | _ => 0)
    e_InvalidCourse := ⟨PySem.W.mg_of X G h1, h4, h5, h6, h7⟩
    e_InvalidState := ⟨PySem.W.mg_of X G h2, h8, h9, h10, h11⟩
    x_11_11 := PySem.W.exm_ref h6 h13 h7 h12
    c_MOST_HOURS := ⟨_, PySem.W.mg_of X G h14⟩
    c_MOST_BOUND := ⟨_, PySem.W.mg_of X G h15⟩
    cl_1 := ⟨h16, h17, h18, h19⟩
    g_Course := PySem.W.mg_of X G h0
    na_hours := h20
    a_is_whole := f_is_whole
    fd_is_whole := PySem.W.fnOf "is_whole" "is_whole" (defArgs s_is_whole) (defBody s_is_whole) (defScope s_is_whole) .none kV_is_whole dc_is_whole pm_is_whole an_is_whole cd_is_whole ct_is_whole
    F_is_whole := fun_mk (st := s_is_whole) h22 h23 h24
    k_is_whole := h24
    b_is_whole := (fun_mk (st := s_is_whole) h22 h23 h24).binds fun _ _ _ _ _ _ us hl => match us, hl with | [_, _, _], _ => rfl
    g_is_whole := PySem.W.mg_of X G h21
    a_check_bounds := f_check_bounds
    fd_check_bounds := PySem.W.fnOf "_check_bounds" "_check_bounds" (defArgs s_check_bounds) (defBody s_check_bounds) (defScope s_check_bounds) .none kV_check_bounds dc_check_bounds pm_check_bounds an_check_bounds cd_check_bounds ct_check_bounds
    F_check_bounds := fun_mk (st := s_check_bounds) h26 h27 h28
    k_check_bounds := h28
    b_check_bounds := (fun_mk (st := s_check_bounds) h26 h27 h28).binds fun _ _ _ _ _ _ us hl => match us, hl with | [_, _], _ => rfl
    g_check_bounds := PySem.W.mg_of X G h25
    a_check_hour := f_check_hour
    fd_check_hour := PySem.W.fnOf "_check_hour" "_check_hour" (defArgs s_check_hour) (defBody s_check_hour) (defScope s_check_hour) .none kV_check_hour dc_check_hour pm_check_hour an_check_hour cd_check_hour ct_check_hour
    F_check_hour := fun_mk (st := s_check_hour) h30 h31 h32
    k_check_hour := h32
    b_check_hour := (fun_mk (st := s_check_hour) h30 h31 h32).binds fun _ _ _ _ _ _ us hl => match us, hl with | [_], _ => rfl
    g_check_hour := PySem.W.mg_of X G h29
    a_Course__init := f_Course__init
    fd_Course__init := PySem.W.fnOf "__init__" "Course.__init__" (defArgs s_Course__init) (defBody s_Course__init) (defScope s_Course__init) .none kV_Course__init dc_Course__init pm_Course__init an_Course__init cd_Course__init ct_Course__init
    F_Course__init := fun_mk (st := s_Course__init) h35 h36 h37
    b_Course__init := (fun_mk (st := s_Course__init) h35 h36 h37).binds fun _ _ _ _ _ _ us hl => match us, hl with | [_, _], _ => rfl
    mk_1 := ⟨h38, h33, h34, h39⟩
    a_Course_count := f_Course_count
    fd_Course_count := PySem.W.fnOf "count" "Course.count" (defArgs s_Course_count) (defBody s_Course_count) (defScope s_Course_count) .none kV_Course_count dc_Course_count pm_Course_count an_Course_count cd_Course_count ct_Course_count
    F_Course_count := fun_mk (st := s_Course_count) h42 h43 h44
    b_Course_count := (fun_mk (st := s_Course_count) h42 h43 h44).binds fun _ _ _ _ _ _ us hl => match us, hl with | [_], _ => rfl
    m_Course_count := ⟨h40, h41, h44⟩
    a_Course_hour := f_Course_hour
    fd_Course_hour := PySem.W.fnOf "hour" "Course.hour" (defArgs s_Course_hour) (defBody s_Course_hour) (defScope s_Course_hour) .none kV_Course_hour dc_Course_hour pm_Course_hour an_Course_hour cd_Course_hour ct_Course_hour
    F_Course_hour := fun_mk (st := s_Course_hour) h47 h48 h49
    b_Course_hour := (fun_mk (st := s_Course_hour) h47 h48 h49).binds fun _ _ _ _ _ _ us hl => match us, hl with | [_, _], _ => rfl
    m_Course_hour := ⟨h45, h46, h49⟩
    a_Course_has := f_Course_has
    fd_Course_has := PySem.W.fnOf "has" "Course.has" (defArgs s_Course_has) (defBody s_Course_has) (defScope s_Course_has) .none kV_Course_has dc_Course_has pm_Course_has an_Course_has cd_Course_has ct_Course_has
    F_Course_has := fun_mk (st := s_Course_has) h52 h53 h54
    b_Course_has := (fun_mk (st := s_Course_has) h52 h53 h54).binds fun _ _ _ _ _ _ us hl => match us, hl with | [_, _, _, _], _ => rfl
    m_Course_has := ⟨h50, h51, h54⟩
    a_law_cell := f_law_cell
    fd_law_cell := PySem.W.fnOf "_law_cell" "_law_cell" (defArgs s_law_cell) (defBody s_law_cell) (defScope s_law_cell) .none kV_law_cell dc_law_cell pm_law_cell an_law_cell cd_law_cell ct_law_cell
    F_law_cell := fun_mk (st := s_law_cell) h56 h57 h58
    k_law_cell := h58
    b_law_cell := (fun_mk (st := s_law_cell) h56 h57 h58).binds fun _ _ _ _ _ _ us hl => match us, hl with | [_, _], _ => rfl
    g_law_cell := PySem.W.mg_of X G h55
    a_law_hours := f_law_hours
    fd_law_hours := PySem.W.fnOf "_law_hours" "_law_hours" (defArgs s_law_hours) (defBody s_law_hours) (defScope s_law_hours) .none kV_law_hours dc_law_hours pm_law_hours an_law_hours cd_law_hours ct_law_hours
    F_law_hours := fun_mk (st := s_law_hours) h60 h61 h62
    k_law_hours := h62
    b_law_hours := (fun_mk (st := s_law_hours) h60 h61 h62).binds fun _ _ _ _ _ _ us hl => match us, hl with | [_, _], _ => rfl
    g_law_hours := PySem.W.mg_of X G h59
    a_is_within := f_is_within
    fd_is_within := PySem.W.fnOf "_is_within" "_is_within" (defArgs s_is_within) (defBody s_is_within) (defScope s_is_within) .none kV_is_within dc_is_within pm_is_within an_is_within cd_is_within ct_is_within
    F_is_within := fun_mk (st := s_is_within) h64 h65 h66
    k_is_within := h66
    b_is_within := (fun_mk (st := s_is_within) h64 h65 h66).binds fun _ _ _ _ _ _ us hl => match us, hl with | [_, _], _ => rfl
    g_is_within := PySem.W.mg_of X G h63
    a_Course_narrowed := f_Course_narrowed
    fd_Course_narrowed := PySem.W.fnOf "narrowed" "Course.narrowed" (defArgs s_Course_narrowed) (defBody s_Course_narrowed) (defScope s_Course_narrowed) .none kV_Course_narrowed dc_Course_narrowed pm_Course_narrowed an_Course_narrowed cd_Course_narrowed ct_Course_narrowed
    F_Course_narrowed := fun_mk (st := s_Course_narrowed) h69 h70 h71
    b_Course_narrowed := (fun_mk (st := s_Course_narrowed) h69 h70 h71).binds fun _ _ _ _ _ _ us hl => match us, hl with | [_, _, _], _ => rfl
    m_Course_narrowed := ⟨h67, h68, h71⟩
    a_Course_raised := f_Course_raised
    fd_Course_raised := PySem.W.fnOf "raised" "Course.raised" (defArgs s_Course_raised) (defBody s_Course_raised) (defScope s_Course_raised) .none kV_Course_raised dc_Course_raised pm_Course_raised an_Course_raised cd_Course_raised ct_Course_raised
    F_Course_raised := fun_mk (st := s_Course_raised) h74 h75 h76
    b_Course_raised := (fun_mk (st := s_Course_raised) h74 h75 h76).binds fun _ _ _ _ _ _ us hl => match us, hl with | [_, _], _ => rfl
    m_Course_raised := ⟨h72, h73, h76⟩
    a_law_narrowed := f_law_narrowed
    fd_law_narrowed := PySem.W.fnOf "_law_narrowed" "_law_narrowed" (defArgs s_law_narrowed) (defBody s_law_narrowed) (defScope s_law_narrowed) .none kV_law_narrowed dc_law_narrowed pm_law_narrowed an_law_narrowed cd_law_narrowed ct_law_narrowed
    F_law_narrowed := fun_mk (st := s_law_narrowed) h78 h79 h80
    k_law_narrowed := h80
    b_law_narrowed := (fun_mk (st := s_law_narrowed) h78 h79 h80).binds fun _ _ _ _ _ _ us hl => match us, hl with | [_, _, _], _ => rfl
    g_law_narrowed := PySem.W.mg_of X G h77
    a_law_too_high := f_law_too_high
    fd_law_too_high := PySem.W.fnOf "_law_too_high" "_law_too_high" (defArgs s_law_too_high) (defBody s_law_too_high) (defScope s_law_too_high) .none kV_law_too_high dc_law_too_high pm_law_too_high an_law_too_high cd_law_too_high ct_law_too_high
    F_law_too_high := fun_mk (st := s_law_too_high) h82 h83 h84
    k_law_too_high := h84
    b_law_too_high := (fun_mk (st := s_law_too_high) h82 h83 h84).binds fun _ _ _ _ _ _ us hl => match us, hl with | [_, _], _ => rfl
    g_law_too_high := PySem.W.mg_of X G h81
    a_law := fa
    fd_law := PySem.W.fnOf "law" "law" (defArgs s_law) (defBody s_law) (defScope s_law) .none kV_law dc_law pm_law an_law cd_law ct_law
    F_law := fun_mk (st := s_law) h86 h87 h88
    nogl := List.forall_mem_cons.mpr ⟨PySem.W.mg_none_of X G h89, List.forall_mem_cons.mpr ⟨PySem.W.mg_none_of X G h90, List.forall_mem_cons.mpr ⟨PySem.W.mg_none_of X G h91, List.forall_mem_cons.mpr ⟨PySem.W.mg_none_of X G h92, List.forall_mem_cons.mpr ⟨PySem.W.mg_none_of X G h93, List.forall_mem_cons.mpr ⟨PySem.W.mg_none_of X G h94, List.forall_mem_cons.mpr ⟨PySem.W.mg_none_of X G h95, List.forall_mem_cons.mpr ⟨PySem.W.mg_none_of X G h96, List.forall_mem_cons.mpr ⟨PySem.W.mg_none_of X G h97, List.forall_mem_cons.mpr ⟨PySem.W.mg_none_of X G h98, List.forall_mem_cons.mpr ⟨PySem.W.mg_none_of X G h99, List.forall_mem_cons.mpr ⟨PySem.W.mg_none_of X G h100, List.forall_mem_cons.mpr ⟨PySem.W.mg_none_of X G h101, List.forall_mem_cons.mpr ⟨PySem.W.mg_none_of X G h102, List.forall_mem_cons.mpr ⟨PySem.W.mg_none_of X G h103, List.forall_mem_cons.mpr ⟨PySem.W.mg_none_of X G h104, List.forall_mem_cons.mpr ⟨PySem.W.mg_none_of X G h105, List.forall_mem_cons.mpr ⟨PySem.W.mg_none_of X G h106, List.forall_mem_cons.mpr ⟨PySem.W.mg_none_of X G h107, fun _ h_ => nomatch h_⟩⟩⟩⟩⟩⟩⟩⟩⟩⟩⟩⟩⟩⟩⟩⟩⟩⟩⟩ }
  exact ⟨_, fun s v => .of_eq rfl, fun base _ _ => (ok_law (PP := PP) (w := w) (base := base) T).imp (law_to fun ns hl => ⟨ns, rfl, hl, rfl⟩)⟩
end Sk
open PySem PySem.W PyProof.Rows
set_option maxHeartbeats 0
open_top Sk.top_head for PySem.Challenge.rw_surgekept_k22_courses_narrowed_and_raise
theorem PySem.Challenge.cw_surgekept_k22_courses_narrowed_and_raise_holds : PySem.Challenge.rw_surgekept_k22_courses_narrowed_and_raise.Holds := by
  refine Sk.top_head ?_
  k_fill
  refine L2.walk_of (l := PySem.Challenge.rw_surgekept_k22_courses_narrowed_and_raise) (n := 63) (k := 8) (x := "script") (CX := fun w => L2.CX PySem.Challenge.rw_surgekept_k22_courses_narrowed_and_raise.prog w) (sp := fun w => Rk.lawSp 63 _) rfl (by decide) rfl ⟨rfl, by decide, by decide⟩ (fun w h Y => kIn_of Y) ?F (fun _ _ a ns hl _ hS => ⟨a, ns, rfl, hl, hS, fun _ => rfl⟩) (fun _ _ _ _ _ z => Rk.law_cx z)
  intro w mg fa h KX G hmg
  refine' Sk.all_mk KX G hmg ?h0 ?h1 ?h2 ?h3 ?h4 ?h5 ?h6 ?h7 ?h8 ?h9 ?h10 ?h11 ?h12 ?h13 ?h14 ?h15 ?h16 ?h17 ?h18 ?h19 ?h20 ?h21 ?h22 ?h23 ?h24 ?h25 ?h26 ?h27 ?h28 ?h29 ?h30 ?h31 ?h32 ?h33 ?h34 ?h35 ?h36 ?h37 ?h38 ?h39 ?h40 ?h41 ?h42 ?h43 ?h44 ?h45 ?h46 ?h47 ?h48 ?h49 ?h50 ?h51 ?h52 ?h53 ?h54 ?h55 ?h56 ?h57 ?h58 ?h59 ?h60 ?h61 ?h62 ?h63 ?h64 ?h65 ?h66 ?h67 ?h68 ?h69 ?h70 ?h71 ?h72 ?h73 ?h74 ?h75 ?h76 ?h77 ?h78 ?h79 ?h80 ?h81 ?h82 ?h83 ?h84 ?h85 ?h86 ?h87 ?h88 ?h89 ?h90 ?h91 ?h92 ?h93 ?h94 ?h95 ?h96 ?h97 ?h98 ?h99 ?h100 ?h101 ?h102 ?h103 ?h104 ?h105 ?h106 ?h107
  (case h0 => k_is)
  (case h1 => k_is)
  (case h2 => k_is)
  (case h3 => k_is)
  (case h4 => k_exc)
  (case h5 => k_is)
  (case h6 => k_is)
  (case h7 => k_is)
  (case h8 => k_exc)
  (case h9 => k_is)
  (case h10 => k_is)
  (case h11 => k_is)
  (case h12 => first | rfl | k_is)
  (case h13 => k_is)
  (case h14 => k_is)
  (case h15 => k_is)
  (case h16 => k_is)
  (case h17 => k_is)
  (case h18 => k_is)
  (case h19 => k_is)
  (case h20 => k_is)
  (case h21 => k_is)
  (case h22 => k_is)
  (case h23 => k_is)
  (case h24 => k_is)
  (case h25 => k_is)
  (case h26 => k_is)
  (case h27 => k_is)
  (case h28 => k_is)
  (case h29 => k_is)
  (case h30 => k_is)
  (case h31 => k_is)
  (case h32 => k_is)
  (case h33 => k_is)
  (case h34 => k_is)
  (case h35 => k_is)
  (case h36 => k_is)
  (case h37 => k_is)
  (case h38 => k_is)
  (case h39 => k_is)
  (case h40 => k_is)
  (case h41 => k_is)
  (case h42 => k_is)
  (case h43 => k_is)
  (case h44 => k_is)
  (case h45 => k_is)
  (case h46 => k_is)
  (case h47 => k_is)
  (case h48 => k_is)
  (case h49 => k_is)
  (case h50 => k_is)
  (case h51 => k_is)
  (case h52 => k_is)
  (case h53 => k_is)
  (case h54 => k_is)
  (case h55 => k_is)
  (case h56 => k_is)
  (case h57 => k_is)
  (case h58 => k_is)
  (case h59 => k_is)
  (case h60 => k_is)
  (case h61 => k_is)
  (case h62 => k_is)
  (case h63 => k_is)
  (case h64 => k_is)
  (case h65 => k_is)
  (case h66 => k_is)
  (case h67 => k_is)
  (case h68 => k_is)
  (case h69 => k_is)
  (case h70 => k_is)
  (case h71 => k_is)
  (case h72 => k_is)
  (case h73 => k_is)
  (case h74 => k_is)
  (case h75 => k_is)
  (case h76 => k_is)
  (case h77 => k_is)
  (case h78 => k_is)
  (case h79 => k_is)
  (case h80 => k_is)
  (case h81 => k_is)
  (case h82 => k_is)
  (case h83 => k_is)
  (case h84 => k_is)
  (case h85 => k_is)
  (case h86 => k_is)
  (case h87 => k_is)
  (case h88 => k_is)
  (case h89 => k_is)
  (case h90 => k_is)
  (case h91 => k_is)
  (case h92 => k_is)
  (case h93 => k_is)
  (case h94 => k_is)
  (case h95 => k_is)
  (case h96 => k_is)
  (case h97 => k_is)
  (case h98 => k_is)
  (case h99 => k_is)
  (case h100 => k_is)
  (case h101 => k_is)
  (case h102 => k_is)
  (case h103 => k_is)
  (case h104 => k_is)
  (case h105 => k_is)
  (case h106 => k_is)
  (case h107 => k_is)

