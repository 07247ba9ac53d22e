import PyProof.Rows.All
import Wide.All
import OpenK.AllK
import Wide.FinOn
import HandS.ForMost
import HandS.ForExc
import HandS.FStr
import HandS.Small
import HandS.Style
import HandS.IsInst
import HandS.ExcIs
import HandS.Flow
import HandS.CallSlots
import HandS.RaiseMore
import HandS.Conv
import HandS.SortInts
import KE.KeyNested
import HandS.SetBool
import HandS.DictComp
import HandS.AnyAll
import KE.KDictZip
import HandS.Star
import HandS.TryOnly
import HandS.Flt
import HandS.Sort
import HandS.ExcInit
import HandS.StrMore
import HandS.StrSplit
import HandS.HotCalls
import KE.KExcIs
import HandS.ExcField
import HandS.Iter
import PyProof.Rows.SortStrRead
import PyProof.Rows.StrSplitAre
import PyProof.Rows.StrSplitJoin
import KE.GoesEnumKw
import PyProof.Rows.StrItems
import PyProof.Rows.StrPins2
import PyProof.Rows.RegReprOcc
import PySem.Challenge.RW_surgekept_k61_whole_books_come_back
set_option Elab.async false
set_option linter.all false
set_option maxRecDepth 100000
set_option maxHeartbeats 4000000
/-! # A layer over HandS: what a piece of Python does, told by typed data, the heap out of sight -/
namespace Rk
open PySem L2

/-- the written part and where the own classes stand, by number -/
structure Gm where
  K : PySem.W.Frag
  cls : Nat → Addr
/-- what is hidden from what is shared -/
noncomputable def Hid (hs : Addr → Prop) (H : Hp) : Hp := fun a => open Classical in if hs a then none else H a
theorem hid_of {hs : Addr → Prop} {H : Hp} {a : Addr} {o : HO} (h : Hid hs H a = some o) : H a = some o := by
  unfold Hid at h
  split at h
  · cases h
  · exact h
theorem hid_at {hs : Addr → Prop} {H : Hp} {a : Addr} (h : ¬ hs a) : Hid hs H a = H a := by
  unfold Hid; rw [if_neg h]
theorem hid_same {hs : Addr → Prop} {H H' : Hp} (e : Same H H') : Same (Hid hs H) (Hid hs H') := fun a o h => by
  have h1 := hid_of h
  by_cases q : hs a
  · unfold Hid at h; rw [if_pos q] at h; cases h
  · rw [hid_at q]; exact e a o h1
theorem hid_le {hs : Addr → Prop} {H : Hp} : Same (Hid hs H) H := fun _ _ h => hid_of h
theorem hid_more {hs hs' : Addr → Prop} {H : Hp} (h : ∀ a, hs' a → hs a) : Same (Hid hs H) (Hid hs' H) := fun a o e => by
  have h1 := hid_of e
  by_cases q : hs a
  · unfold Hid at e; rw [if_pos q] at e; cases e
  · rw [hid_at fun z => q (h a z)]; exact h1
/-- a hidden object changes -/
theorem hid_upd {hs : Addr → Prop} {H : Hp} {p : Addr} {o : HO} (h : hs p) : Hid hs (upd H p o) = Hid hs H := by
  funext a
  by_cases q : hs a
  · unfold Hid; rw [if_pos q, if_pos q]
  · rw [hid_at q, hid_at q, upd_ne fun e => q (by rw [e]; exact h)]
theorem same_new {H : Hp} {p : Addr} {o : HO} (h : H p = none) : Same H (upd H p o) := fun b u e => by
  rw [upd_ne (ne_of_none e h)]; exact e
theorem sq_same {K : PySem.W.Frag} {H H' : Hp} {a : Addr} {xs : List V} (e : Same H H') (h : SqT K H a xs) : SqT K H' a xs := by
  rcases h with (h | ⟨o, h⟩) | h
  · exact .inl (.inl (e _ _ h))
  · exact .inl (.inr ⟨o, e _ _ h⟩)
  · exact .inr h

/-- how a value bears data of a type -/
class Rp (α : Type) where
  rep : Gm → Hp → V → α → Prop
  mono : ∀ {G : Gm} {H H' : Hp} {v : V} {a : α}, Same H H' → rep G H v a → rep G H' v a
structure DV : Type 1 where
  ty : Type
  ins : Rp ty
  val : ty
@[reducible] def dv {α : Type} [i : Rp α] (a : α) : DV := ⟨α, i, a⟩
def DV.rep (G : Gm) (H : Hp) (v : V) (d : DV) : Prop := d.ins.rep G H v d.val
theorem DV.mono {G : Gm} {H H' : Hp} {v : V} {d : DV} (e : Same H H') (h : d.rep G H v) : d.rep G H' v := d.ins.mono e h
def RepAll (G : Gm) (H : Hp) : List V → List DV → Prop
  | [], [] => True
  | v :: vs, d :: ds => d.rep G H v ∧ RepAll G H vs ds
  | _, _ => False
theorem RepAll.mono {G : Gm} {H H' : Hp} (e : Same H H') : ∀ {vs : List V} {ds : List DV}, RepAll G H vs ds → RepAll G H' vs ds
  | [], [], _ => trivial
  | _ :: _, _ :: _, h => ⟨DV.mono e h.1, RepAll.mono e h.2⟩
theorem RepAll.len {G : Gm} {H : Hp} : ∀ {vs : List V} {ds : List DV}, RepAll G H vs ds → vs.length = ds.length
  | [], [], _ => rfl
  | _ :: _, _ :: _, h => congrArg (· + 1) (RepAll.len h.2)
theorem RepAll.get {G : Gm} {H : Hp} : ∀ {vs : List V} {ds : List DV} {i : Nat} {d : DV}, RepAll G H vs ds → ds[i]? = some d → ∃ v, vs[i]? = some v ∧ d.rep G H v
  | [], [], _, _, _, e => by simp at e
  | v :: _, d :: _, 0, x, h, e => by
    have q : d = x := by simpa using e
    exact ⟨v, rfl, q ▸ h.1⟩
  | _ :: _, _ :: _, i + 1, _, h, e => by
    obtain ⟨v, h1, h2⟩ := RepAll.get (i := i) h.2 (by simpa using e)
    exact ⟨v, by simpa using h1, h2⟩
theorem RepAll.get' {G : Gm} {H : Hp} : ∀ {vs : List V} {ds : List DV} {i : Nat} {v : V}, RepAll G H vs ds → vs[i]? = some v → ∃ d, ds[i]? = some d ∧ d.rep G H v
  | [], [], _, _, _, e => by simp at e
  | w :: _, d :: _, 0, x, h, e => by
    have q : w = x := by simpa using e
    exact ⟨d, rfl, q ▸ h.1⟩
  | _ :: _, _ :: _, i + 1, _, h, e => by
    obtain ⟨v, h1, h2⟩ := RepAll.get' (i := i) h.2 (by simpa using e)
    exact ⟨v, by simpa using h1, h2⟩
theorem RepAll.app {G : Gm} {H : Hp} : ∀ {vs ws : List V} {ds es : List DV}, RepAll G H vs ds → RepAll G H ws es → RepAll G H (vs ++ ws) (ds ++ es)
  | [], _, [], _, _, k => k
  | _ :: _, _, _ :: _, _, h, k => ⟨h.1, RepAll.app h.2 k⟩
theorem RepAll.take {G : Gm} {H : Hp} : ∀ {vs : List V} {ds : List DV} (n : Nat), RepAll G H vs ds → RepAll G H (vs.take n) (ds.take n)
  | _, _, 0, _ => trivial
  | [], [], _ + 1, _ => trivial
  | _ :: _, _ :: _, n + 1, h => ⟨h.1, RepAll.take n h.2⟩
theorem RepAll.drop {G : Gm} {H : Hp} : ∀ {vs : List V} {ds : List DV} (n : Nat), RepAll G H vs ds → RepAll G H (vs.drop n) (ds.drop n)
  | _, _, 0, h => h
  | [], [], _ + 1, _ => trivial
  | _ :: _, _ :: _, n + 1, h => RepAll.drop n h.2
theorem RepAll.set {G : Gm} {H : Hp} {v : V} {d : DV} (r : d.rep G H v) : ∀ {vs : List V} {ds : List DV} (n : Nat), RepAll G H vs ds → RepAll G H (vs.set n v) (ds.set n d)
  | [], [], _, _ => trivial
  | _ :: _, _ :: _, 0, h => ⟨r, h.2⟩
  | _ :: _, _ :: _, n + 1, h => ⟨h.1, RepAll.set r n h.2⟩

/-! ### scalars -/
/-- a type whose data are values without the heap -/
class Sc (α : Type) where
  v : α → V
  inj : ∀ {a b : α}, v a = v b → a = b
@[reducible] def scRp (α : Type) [i : Sc α] : Rp α := ⟨fun _ _ v a => v = i.v a, fun _ h => h⟩
instance : Sc Int := ⟨V.int, fun h => by injection h⟩
instance : Sc Bool := ⟨V.bl, fun h => by injection h⟩
instance : Sc Unit := ⟨fun _ => V.non, fun _ => rfl⟩
instance : Sc Str := ⟨V.str, fun h => by injection h⟩
instance : Sc V := ⟨id, fun h => h⟩
def oiV : Option Int → V
  | none => .non
  | some i => .int i
instance : Sc (Option Int) := ⟨oiV, fun {a b} h => by cases a <;> cases b <;> first | rfl | (injection h with e; rw [e]) | cases h⟩
def obV : Option Bool → V
  | none => .non
  | some i => .bl i
instance : Sc (Option Bool) := ⟨obV, fun {a b} h => by cases a <;> cases b <;> first | rfl | (injection h with e; rw [e]) | cases h⟩
instance : Rp Int := scRp Int
instance : Rp Bool := scRp Bool
instance : Rp Unit := scRp Unit
instance : Rp Str := scRp Str
instance : Rp V := scRp V
instance : Rp (Option Int) := scRp (Option Int)
instance : Rp (Option Bool) := scRp (Option Bool)

/-! ### tuples, lists, instances -/
@[reducible] def tpRp {α : Type} (ds : α → List DV) : Rp α where
  rep := fun G H v a => ∃ p vs, v = .ref p ∧ H p = some (.tup vs) ∧ RepAll G H vs (ds a)
  mono := fun e ⟨p, vs, h1, h2, h3⟩ => ⟨p, vs, h1, e _ _ h2, h3.mono e⟩
instance {α β : Type} [Rp α] [Rp β] : Rp (α × β) := tpRp fun p => [dv p.1, dv p.2]
@[reducible] def lsRp {α : Type} (ds : α → List DV) : Rp α where
  rep := fun G H v a => ∃ p vs, v = .ref p ∧ H p = some (.lst vs) ∧ RepAll G H vs (ds a)
  mono := fun e ⟨p, vs, h1, h2, h3⟩ => ⟨p, vs, h1, e _ _ h2, h3.mono e⟩
def dvs {α : Type} [Rp α] (xs : List α) : List DV := xs.map dv
instance {α : Type} [Rp α] : Rp (List α) := lsRp dvs
/-- the script: read alone -/
structure Scr where
  ns : List Int
instance : Rp Scr where
  rep := fun G H v a => ∃ p, v = .ref p ∧ SqL G.K H p (a.ns.map V.int)
  mono := fun e ⟨p, h1, h2⟩ => ⟨p, h1, e.seq h2⟩
theorem dvs_len {α : Type} [Rp α] (xs : List α) : (dvs xs).length = xs.length := List.length_map _
theorem dvs_get {α : Type} [Rp α] (xs : List α) (i : Nat) : (dvs xs)[i]? = (xs[i]?).map dv := List.getElem?_map
/-- attributes -/
def RepF (G : Gm) (H : Hp) : List (Str × V) → List (Str × DV) → Prop
  | [], [] => True
  | (n, v) :: vs, (m, d) :: ds => n = m ∧ d.rep G H v ∧ RepF G H vs ds
  | _, _ => False
theorem RepF.mono {G : Gm} {H H' : Hp} (e : Same H H') : ∀ {vs : List (Str × V)} {ds : List (Str × DV)}, RepF G H vs ds → RepF G H' vs ds
  | [], [], _ => trivial
  | (_, _) :: _, (_, _) :: _, h => ⟨h.1, DV.mono e h.2.1, RepF.mono e h.2.2⟩
theorem RepF.get {G : Gm} {H : Hp} {f : Str} : ∀ {vs : List (Str × V)} {ds : List (Str × DV)} {d : DV}, RepF G H vs ds → ds.lookup f = some d → ∃ v, vs.lookup f = some v ∧ d.rep G H v
  | [], [], _, _, e => by simp at e
  | (n, v) :: vs, (m, d) :: ds, x, h, e => by
    obtain ⟨rfl, h1, h2⟩ := h
    by_cases q : f == n
    · rw [List.lookup_cons, q] at e ⊢
      have z : d = x := by simpa using e
      exact ⟨v, rfl, z ▸ h1⟩
    · have q' : (f == n) = false := by simpa using q
      rw [List.lookup_cons, q'] at e ⊢
      exact RepF.get h2 e
theorem RepF.no {G : Gm} {H : Hp} {f : Str} : ∀ {vs : List (Str × V)} {ds : List (Str × DV)}, RepF G H vs ds → ds.lookup f = none → vs.lookup f = none
  | [], [], _, _ => rfl
  | (n, v) :: vs, (m, d) :: ds, h, e => by
    obtain ⟨rfl, h1, h2⟩ := h
    by_cases q : f == n
    · rw [List.lookup_cons, q] at e; cases e
    · have q' : (f == n) = false := by simpa using q
      rw [List.lookup_cons, q'] at e ⊢
      exact RepF.no h2 e
@[reducible] def obRp {α : Type} (c : Nat) (fs : α → List (Str × DV)) : Rp α where
  rep := fun G H v a => ∃ p dx kvs, v = .ref p ∧ H p = some (.ins (G.cls c) dx kvs) ∧ RepF G H kvs (fs a)
  mono := fun e ⟨p, dx, kvs, h1, h2, h3⟩ => ⟨p, dx, kvs, h1, e _ _ h2, h3.mono e⟩

/-! ### what is known of the slots -/
/-- the content of an object that the def alone holds -/
structure OV : Type 1 where
  ok : Gm → Hp → Addr → HO → Prop
  mono : ∀ {G : Gm} {H H' : Hp} {p : Addr} {o : HO}, Same H H' → ok G H p o → ok G H' p o
inductive Ent : Type 1 where
  | no
  | sh (d : DV)
  | ow (o : OV)
def olist {α : Type} [Rp α] (xs : List α) : OV := ⟨fun G H _ o => ∃ vs, o = .lst vs ∧ RepAll G H vs (dvs xs), fun e ⟨vs, h1, h2⟩ => ⟨vs, h1, h2.mono e⟩⟩
/-- the instance at p, not yet shared -/
def oobj (p : Addr) (c : Nat) (fs : List (Str × DV)) : OV := ⟨fun G H q o => q = p ∧ ∃ dx kvs, o = .ins (G.cls c) dx kvs ∧ RepF G H kvs fs, fun e ⟨h0, dx, vs, h1, h2⟩ => ⟨h0, dx, vs, h1, h2.mono e⟩⟩
def hd (hs : Addr → Prop) (own : Nat → Option Addr) : Addr → Prop := fun a => hs a ∨ ∃ i, own i = some a
def EntOk (G : Gm) (hs : Addr → Prop) (own : Nat → Option Addr) (σ : L2.St) (H : Hp) (i : Nat) : Ent → Prop
  | .no => True
  | .sh d => ∃ v, σ[i]? = some (some v) ∧ d.rep G (Hid (hd hs own) H) v
  | .ow o => ∃ p ho, own i = some p ∧ σ[i]? = some (some (.ref p)) ∧ H p = some ho ∧ o.ok G (Hid (hd hs own) H) p ho
structure Kn (G : Gm) (hs : Addr → Prop) (B : Hp) (own : Nat → Option Addr) (env : List Ent) (σ : L2.St) (H : Hp) : Prop where
  ex : Same B H
  hsB : ∀ a, hs a → H a ≠ none
  dis : ∀ i p, own i = some p → ¬ hs p
  len : σ.length = env.length
  inj : ∀ i j p, own i = some p → own j = some p → i = j
  new : ∀ i p, own i = some p → B p = none ∧ H p ≠ none
  out : ∀ i p, own i = some p → ∃ o, env[i]? = some (.ow o)
  ent : ∀ i e, env[i]? = some e → EntOk G hs own σ H i e
section
variable {G : Gm} {hs : Addr → Prop} {B : Hp} {own : Nat → Option Addr} {env : List Ent} {σ : L2.St} {H H' : Hp}
theorem EntOk.mono {i : Nat} {e : Ent} (s : Same H H') (h : EntOk G hs own σ H i e) : EntOk G hs own σ H' i e := by
  cases e with
  | no => trivial
  | sh d => obtain ⟨v, h1, h2⟩ := h; exact ⟨v, h1, DV.mono (hid_same s) h2⟩
  | ow o => obtain ⟨p, ho, h0, h1, h2, h3⟩ := h; exact ⟨p, ho, h0, h1, s _ _ h2, o.mono (hid_same s) h3⟩
theorem stays {a : Addr} (s : Same H H') (h : H a ≠ none) : H' a ≠ none := fun z => by
  cases q : H a with
  | none => exact h q
  | some o => rw [s a o q] at z; cases z
theorem Kn.mono (k : Kn G hs B own env σ H) (s : Same H H') : Kn G hs B own env σ H' where
  ex := k.ex.trans s
  hsB := fun a h => stays s (k.hsB a h)
  dis := k.dis
  len := k.len
  inj := k.inj
  new := fun i p h => ⟨(k.new i p h).1, stays s (k.new i p h).2⟩
  out := k.out
  ent := fun i e h => (k.ent i e h).mono s
theorem Kn.sh (k : Kn G hs B own env σ H) {i : Nat} {d : DV} (h : env[i]? = some (.sh d)) : ∃ v, σ[i]? = some (some v) ∧ d.rep G (Hid (hd hs own) H) v := k.ent i _ h
/-- a fresh address is hidden nowhere -/
theorem Kn.fresh (k : Kn G hs B own env σ H) (s : Same H H') {p : Addr} (h : H' p = none) : ¬ hd hs own p := fun z => by
  rcases z with z | ⟨i, z⟩
  · cases q : H p with
    | none => exact k.hsB p z q
    | some o => rw [s _ _ q] at h; cases h
  · cases q : H p with
    | none => exact (k.new i p z).2 q
    | some o => rw [s _ _ q] at h; cases h
def drop (own : Nat → Option Addr) (i : Nat) : Nat → Option Addr := fun j => if j = i then none else own j
theorem drop_sub {i j : Nat} {p : Addr} (h : drop own i j = some p) : own j = some p ∧ j ≠ i := by
  unfold drop at h
  split at h
  · cases h
  · exact ⟨h, by assumption⟩
theorem drop_hd {i : Nat} {a : Addr} (h : hd hs (drop own i) a) : hd hs own a := by
  rcases h with h | ⟨j, h⟩
  · exact .inl h
  · exact .inr ⟨j, (drop_sub h).1⟩
/-- a slot is stored: shared data -/
theorem Kn.set (k : Kn G hs B own env σ H) {i : Nat} {v : V} {d : DV} (r : d.rep G (Hid (hd hs own) H) v) : Kn G hs B (drop own i) (env.set i (.sh d)) (σ.set i (some v)) H where
  ex := k.ex
  hsB := k.hsB
  dis := fun a p h => k.dis a p (drop_sub h).1
  len := by rw [List.length_set, List.length_set]; exact k.len
  inj := fun a b p h1 h2 => k.inj a b p (drop_sub h1).1 (drop_sub h2).1
  new := fun a p h => k.new a p (drop_sub h).1
  out := fun a p h => by
    obtain ⟨h1, h2⟩ := drop_sub h
    obtain ⟨o, ho⟩ := k.out a p h1
    exact ⟨o, by rw [List.getElem?_set_ne (Ne.symm h2)]; exact ho⟩
  ent := fun j e h => by
    have sm : Same (Hid (hd hs own) H) (Hid (hd hs (drop own i)) H) := hid_more fun a z => drop_hd z
    by_cases q : i = j
    · subst q
      have hi : i < env.length := by
        have z := (List.getElem?_eq_some_iff.mp h).1
        rw [List.length_set] at z
        exact z
      rw [List.getElem?_set_self hi] at h
      cases h
      exact ⟨v, by rw [List.getElem?_set_self (by rw [k.len]; exact hi)], DV.mono sm r⟩
    · rw [List.getElem?_set_ne q] at h
      have z := k.ent j e h
      cases e with
      | no => trivial
      | sh d' => obtain ⟨w, h1, h2⟩ := z; exact ⟨w, by rw [List.getElem?_set_ne q]; exact h1, DV.mono sm h2⟩
      | ow o =>
        obtain ⟨p, ho, h0, h1, h2, h3⟩ := z
        exact ⟨p, ho, by unfold drop; rw [if_neg (Ne.symm q)]; exact h0, by rw [List.getElem?_set_ne q]; exact h1, h2, o.mono sm h3⟩
/-- a slot is forgotten -/
theorem Kn.forget (k : Kn G hs B own env σ H) (i : Nat) : Kn G hs B (drop own i) (env.set i .no) σ H where
  ex := k.ex
  hsB := k.hsB
  dis := fun a p h => k.dis a p (drop_sub h).1
  len := by rw [List.length_set]; exact k.len
  inj := fun a b p h1 h2 => k.inj a b p (drop_sub h1).1 (drop_sub h2).1
  new := fun a p h => k.new a p (drop_sub h).1
  out := fun a p h => by
    obtain ⟨h1, h2⟩ := drop_sub h
    obtain ⟨o, ho⟩ := k.out a p h1
    exact ⟨o, by rw [List.getElem?_set_ne (Ne.symm h2)]; exact ho⟩
  ent := fun j e h => by
    have sm : Same (Hid (hd hs own) H) (Hid (hd hs (drop own i)) H) := hid_more fun a z => drop_hd z
    by_cases q : i = j
    · subst q
      by_cases hi : i < env.length
      · rw [List.getElem?_set_self hi] at h; cases h; trivial
      · have : (env.set i Ent.no)[i]? = none := List.getElem?_eq_none_iff.mpr (by rw [List.length_set]; omega)
        rw [this] at h; cases h
    · rw [List.getElem?_set_ne q] at h
      have z := k.ent j e h
      cases e with
      | no => trivial
      | sh d' => obtain ⟨w, h1, h2⟩ := z; exact ⟨w, h1, DV.mono sm h2⟩
      | ow o =>
        obtain ⟨p, ho, h0, h1, h2, h3⟩ := z
        exact ⟨p, ho, by unfold drop; rw [if_neg (Ne.symm q)]; exact h0, h1, h2, o.mono sm h3⟩
def hold (own : Nat → Option Addr) (i : Nat) (p : Addr) : Nat → Option Addr := fun j => if j = i then some p else own j
/-- a slot gets an object of its own, new since H -/
theorem Kn.gain (k : Kn G hs B own env σ H) {i : Nat} {p : Addr} {ho : HO} {o : OV} (hi : i < env.length) (s : Same H H') (hp : H p = none) (hH : H' p = some ho) (r : o.ok G (Hid (hd hs own) H) p ho) : Kn G hs B (hold (drop own i) i p) (env.set i (.ow o)) (σ.set i (some (.ref p))) H' := by
  have sm : Same (Hid (hd hs own) H) (Hid (hd hs (hold (drop own i) i p)) H') := fun a u e => by
    have h1 := hid_of e
    have ne : a ≠ p := ne_of_none h1 hp
    have nh : ¬ hd hs own a := fun z => by unfold Hid at e; rw [if_pos z] at e; cases e
    have nh' : ¬ hd hs (hold (drop own i) i p) a := fun z => by
      rcases z with z | ⟨j, z⟩
      · exact nh (.inl z)
      · unfold hold at z
        split at z
        · cases z; exact ne rfl
        · exact nh (.inr ⟨j, (drop_sub z).1⟩)
    rw [hid_at nh']
    exact s a u h1
  have npo : ∀ j q, own j = some q → q ≠ p := fun j q h e => by
    subst e
    exact (k.new j q h).2 hp
  exact {
    ex := k.ex.trans s
    hsB := fun a h z => by
      cases q : H a with
      | none => exact k.hsB a h q
      | some o => rw [s a o q] at z; cases z
    dis := fun a q h z => by
      unfold hold at h
      by_cases ha : a = i
      · rw [if_pos ha] at h; cases h
        exact k.hsB p z hp
      · rw [if_neg ha] at h; exact k.dis a q (drop_sub h).1 z
    len := by rw [List.length_set, List.length_set]; exact k.len
    inj := fun a b q h1 h2 => by
      unfold hold at h1 h2
      by_cases ha : a = i
      · by_cases hb : b = i
        · rw [ha, hb]
        · rw [if_pos ha] at h1; rw [if_neg hb] at h2
          cases h1
          exact absurd rfl (npo b _ (drop_sub h2).1)
      · by_cases hb : b = i
        · rw [if_neg ha] at h1; rw [if_pos hb] at h2
          cases h2
          exact absurd rfl (npo a _ (drop_sub h1).1)
        · rw [if_neg ha] at h1; rw [if_neg hb] at h2
          exact k.inj a b q (drop_sub h1).1 (drop_sub h2).1
    new := fun a q h => by
      unfold hold at h
      by_cases ha : a = i
      · rw [if_pos ha] at h; cases h
        refine ⟨?_, by rw [hH]; simp⟩
        cases z : B p with
        | none => rfl
        | some u => rw [k.ex _ _ z] at hp; cases hp
      · rw [if_neg ha] at h
        have z := k.new a q (drop_sub h).1
        refine ⟨z.1, fun e => ?_⟩
        cases y : H q with
        | none => exact z.2 y
        | some u => rw [s _ _ y] at e; cases e
    out := fun a q h => by
      unfold hold at h
      by_cases ha : a = i
      · subst ha; exact ⟨o, List.getElem?_set_self hi⟩
      · rw [if_neg ha] at h
        obtain ⟨h1, h2⟩ := drop_sub h
        obtain ⟨o', ho'⟩ := k.out a q h1
        exact ⟨o', by rw [List.getElem?_set_ne (Ne.symm ha)]; exact ho'⟩
    ent := fun j e h => by
      by_cases q : i = j
      · subst q
        rw [List.getElem?_set_self hi] at h
        cases h
        exact ⟨p, ho, by unfold hold; rw [if_pos rfl], by rw [List.getElem?_set_self (by rw [k.len]; exact hi)], hH, o.mono sm r⟩
      · rw [List.getElem?_set_ne q] at h
        have z := k.ent j e h
        cases e with
        | no => trivial
        | sh d' => obtain ⟨w, h1, h2⟩ := z; exact ⟨w, by rw [List.getElem?_set_ne q]; exact h1, DV.mono sm h2⟩
        | ow o' =>
          obtain ⟨p', ho', h0, h1, h2, h3⟩ := z
          refine ⟨p', ho', ?_, by rw [List.getElem?_set_ne q]; exact h1, s _ _ h2, o'.mono sm h3⟩
          unfold hold drop
          rw [if_neg (Ne.symm q), if_neg (Ne.symm q)]
          exact h0 }
/-- the object of a slot changes -/
theorem Kn.chg (k : Kn G hs B own env σ H) {i : Nat} {p : Addr} {ho : HO} {o : OV} (hi : i < env.length) (hp : own i = some p) (r : o.ok G (Hid (hd hs own) H) p ho) : Kn G hs B own (env.set i (.ow o)) σ (upd H p ho) := by
  have hh : hd hs own p := .inr ⟨i, hp⟩
  exact {
    ex := fun a u e => by
      rw [upd_ne fun z => ?_]
      · exact k.ex a u e
      · subst z
        rw [(k.new i a hp).1] at e; cases e
    hsB := fun a h z => by
      by_cases e : a = p
      · subst e; rw [upd_same] at z; cases z
      · rw [upd_ne e] at z; exact k.hsB a h z
    dis := k.dis
    len := by rw [List.length_set]; exact k.len
    inj := k.inj
    new := fun a q h => ⟨(k.new a q h).1, fun z => by
      by_cases e : q = p
      · subst e; rw [upd_same] at z; cases z
      · rw [upd_ne e] at z; exact (k.new a q h).2 z⟩
    out := fun a q h => by
      by_cases ha : a = i
      · subst ha; exact ⟨o, List.getElem?_set_self hi⟩
      · obtain ⟨o', ho'⟩ := k.out a q h
        exact ⟨o', by rw [List.getElem?_set_ne (Ne.symm ha)]; exact ho'⟩
    ent := fun j e h => by
      have eh : Hid (hd hs own) (upd H p ho) = Hid (hd hs own) H := hid_upd hh
      by_cases q : i = j
      · subst q
        rw [List.getElem?_set_self hi] at h
        cases h
        obtain ⟨o0, ho0⟩ := k.out i p hp
        obtain ⟨p', _, h0, h1, _, _⟩ := (show EntOk G hs own σ H i (.ow o0) from k.ent i _ ho0)
        rw [hp] at h0; cases h0
        exact ⟨p, ho, hp, h1, upd_same, by rw [eh]; exact r⟩
      · rw [List.getElem?_set_ne q] at h
        have z := k.ent j e h
        cases e with
        | no => trivial
        | sh d' => obtain ⟨w, h1, h2⟩ := z; exact ⟨w, h1, by rw [eh]; exact h2⟩
        | ow o' =>
          obtain ⟨p', ho', h0, h1, h2, h3⟩ := z
          have ne : p' ≠ p := fun e => q (k.inj i j p hp (e ▸ h0))
          exact ⟨p', ho', h0, h1, by rw [upd_ne ne]; exact h2, by rw [eh]; exact h3⟩ }
/-- the object of a slot is shared from here on -/
theorem Kn.freeze (k : Kn G hs B own env σ H) {i : Nat} {o : OV} {d : DV} (he : env[i]? = some (.ow o)) (r : ∀ p ho (H1 : Hp), H p = some ho → H1 p = some ho → Same (Hid (hd hs own) H) H1 → o.ok G (Hid (hd hs own) H) p ho → d.rep G H1 (.ref p)) : Kn G hs B (drop own i) (env.set i (.sh d)) σ H := by
  have hi : i < env.length := (List.getElem?_eq_some_iff.mp he).1
  obtain ⟨p, ho, h0, h1, h2, h3⟩ := (show EntOk G hs own σ H i (.ow o) from k.ent i _ he)
  have sm : Same (Hid (hd hs own) H) (Hid (hd hs (drop own i)) H) := hid_more fun a z => drop_hd z
  have np : ¬ hd hs (drop own i) p := fun z => by
    rcases z with z | ⟨j, z⟩
    · exact k.dis i p h0 z
    · obtain ⟨z1, z2⟩ := drop_sub z
      exact z2 (k.inj j i p z1 h0)
  have es : σ.set i (some (.ref p)) = σ := by
    apply List.ext_getElem?
    intro j
    by_cases q : i = j
    · subst q; rw [List.getElem?_set_self (by rw [k.len]; exact hi), h1]
    · rw [List.getElem?_set_ne q]
  have z := (k.forget i)
  have rr : d.rep G (Hid (hd hs (drop (drop own i) i)) H) (.ref p) := by
    have e2 : drop (drop own i) i = drop own i := by
      funext j; unfold drop; split <;> rfl
    rw [e2]
    exact r p ho _ h2 (by rw [hid_at np]; exact h2) sm h3
  have w := z.set (i := i) (v := .ref p) (d := d) (by
    have e2 : drop (drop own i) i = drop own i := by
      funext j; unfold drop; split <;> rfl
    rw [e2] at rr
    exact rr)
  have e2 : drop (drop own i) i = drop own i := by
    funext j; unfold drop; split <;> rfl
  rw [e2, List.set_set, es] at w
  exact w
/-- what is shared stays shared -/
def Fr (hs : Addr → Prop) (own own' : Nat → Option Addr) (H H' : Hp) : Prop := Same (Hid (hd hs own) H) (Hid (hd hs own') H')
theorem Fr.refl : Fr hs own own H H := Same.refl _
theorem Fr.trans {own' own'' : Nat → Option Addr} {H'' : Hp} (a : Fr hs own own' H H') (b : Fr hs own' own'' H' H'') : Fr hs own own'' H H'' := Same.trans a b
theorem Fr.of (s : Same H H') : Fr hs own own H H' := hid_same s
theorem Fr.drop (i : Nat) : Fr hs own (Rk.drop own i) H H := hid_more fun _ z => drop_hd z
theorem Fr.chg {p : Addr} {ho : HO} {i : Nat} (h : own i = some p) : Fr hs own own H (upd H p ho) := by
  unfold Fr
  rw [hid_upd (show hd hs own p from .inr ⟨i, h⟩)]
  exact Same.refl _
theorem Fr.gain {p : Addr} {i : Nat} (s : Same H H') (hp : H p = none) : Fr hs own (hold (Rk.drop own i) i p) H H' := fun a u e => by
  have h1 := hid_of e
  have ne : a ≠ p := ne_of_none h1 hp
  have nh : ¬ hd hs own a := fun z => by unfold Hid at e; rw [if_pos z] at e; cases e
  have nh' : ¬ hd hs (hold (Rk.drop own i) i p) a := fun z => by
    rcases z with z | ⟨j, z⟩
    · exact nh (.inl z)
    · unfold hold at z
      split at z
      · cases z; exact ne rfl
      · exact nh (.inr ⟨j, (drop_sub z).1⟩)
  rw [hid_at nh']
  exact s a u h1
end
end Rk

set_option maxHeartbeats 4000000
/-! # Judgements -/
namespace Rk
open PySem L2

/-! ### what must hold ahead, as a reading of the thing itself -/
section
variable (X : Cx)
def tE (e : Expr) : TE := fun σ H Q => ∀ (pins : List (Addr × Obj)) (s : Shared), Inv X pins σ H s → wpAny (model X.prog X.w) X.A (eval e X.env) (EP X pins σ Q) X.xe s
def tT (e : Expr) : TT := fun σ H Q => ∀ (pins : List (Addr × Obj)) (s : Shared), Inv X pins σ H s → wpAny (model X.prog X.w) X.A (isTrue e X.env (eval e X.env)) (TP X pins σ Q) X.xe s
def tTW (e : Expr) : TT := fun σ H Q => ∀ (whole : Sem Value) (pins : List (Addr × Obj)) (s : Shared), Inv X pins σ H s → wpAny (model X.prog X.w) X.A (isTrue e X.env whole) (TP X pins σ Q) X.xe s
def tA (es : List Expr) : TA := fun σ H Q => ∀ (pos : Pos) (pins : List (Addr × Obj)) (s : Shared), Inv X pins σ H s → wpAny (model X.prog X.w) X.A (spliced (backTo pos (starEach es X.env))) (AP X pins σ Q) X.xe s
def tS (st : Stmt) : TS := fun D σ H => ∀ (pins : List (Addr × Obj)) (s : Shared), Inv X pins σ H s → wpAny (model X.prog X.w) X.A (exec st X.env) (SP X pins D) X.xe s
def tSs (st : List Stmt) : TS := fun D σ H => ∀ (pins : List (Addr × Obj)) (s : Shared), Inv X pins σ H s → wpAny (model X.prog X.w) X.A (execs st X.env) (SP X pins D) X.xe s
end
section
variable {X : Cx} {e : Expr} {es : List Expr} {st : Stmt} {sts : List Stmt} {σ : L2.St} {H : Hp}
theorem peE : PE X e (tE X e) := ⟨fun pins s σ H Q I h => h pins s I⟩
theorem peT : PT X e (tT X e) := ⟨fun pins s σ H Q I h => h pins s I⟩
theorem peTW : PW X e (tTW X e) := ⟨fun w pins s σ H Q I h => h w pins s I⟩
theorem peA : PA X es (tA X es) := ⟨fun pos pins s σ H Q I h => h pos pins s I⟩
theorem peS : PS X st (tS X st) := ⟨fun pins s σ H D I h => h pins s I⟩
theorem peSs : PSs X sts (tSs X sts) := ⟨fun pins s σ H D I h => h pins s I⟩
theorem tE_mono {Q Q' : VK} (q : ∀ v H', Q v H' → Q' v H') (h : tE X e σ H Q) : tE X e σ H Q' := fun pins s I => thn (h pins s I) fun u s' ⟨v, H', J, r, z⟩ => ⟨v, H', J, r, q v H' z⟩
theorem tT_mono {Q Q' : Bool → Hp → Prop} (q : ∀ v H', Q v H' → Q' v H') (h : tT X e σ H Q) : tT X e σ H Q' := fun pins s I => thn (h pins s I) fun u s' ⟨H', J, z⟩ => ⟨H', J, q _ H' z⟩
theorem tTW_mono {Q Q' : Bool → Hp → Prop} (q : ∀ v H', Q v H' → Q' v H') (h : tTW X e σ H Q) : tTW X e σ H Q' := fun w pins s I => thn (h w pins s I) fun u s' ⟨H', J, z⟩ => ⟨H', J, q _ H' z⟩
theorem tA_mono {Q Q' : List V → Hp → Prop} (q : ∀ v H', Q v H' → Q' v H') (h : tA X es σ H Q) : tA X es σ H Q' := fun pos pins s I => thn (h pos pins s I) fun u s' ⟨v, H', J, r, z⟩ => ⟨v, H', J, r, q v H' z⟩
theorem sp_mono {D D' : Ends} {pins : List (Addr × Obj)} {f : Flow} {s' : Shared} (n : ∀ σ H, D.nx σ H → D'.nx σ H) (r : ∀ v H, D.rt v H → D'.rt v H) (b : ∀ σ H, D.bk σ H → D'.bk σ H) (c : ∀ σ H, D.ct σ H → D'.ct σ H)
    (h : SP X pins D f s') : SP X pins D' f s' := by
  cases f with
  | next => obtain ⟨σ', H', J, q⟩ := h; exact ⟨σ', H', J, n _ _ q⟩
  | brk => obtain ⟨σ', H', J, q⟩ := h; exact ⟨σ', H', J, b _ _ q⟩
  | cont => obtain ⟨σ', H', J, q⟩ := h; exact ⟨σ', H', J, c _ _ q⟩
  | ret u => obtain ⟨v, σ', H', J, rv, q⟩ := h; exact ⟨v, σ', H', J, rv, r _ _ q⟩
theorem tS_mono {D D' : Ends} (n : ∀ σ H, D.nx σ H → D'.nx σ H) (r : ∀ v H, D.rt v H → D'.rt v H) (b : ∀ σ H, D.bk σ H → D'.bk σ H) (c : ∀ σ H, D.ct σ H → D'.ct σ H) (h : tS X st D σ H) : tS X st D' σ H :=
  fun pins s I => thn (h pins s I) fun f s' z => sp_mono n r b c z
theorem tSs_mono {D D' : Ends} (n : ∀ σ H, D.nx σ H → D'.nx σ H) (r : ∀ v H, D.rt v H → D'.rt v H) (b : ∀ σ H, D.bk σ H → D'.bk σ H) (c : ∀ σ H, D.ct σ H → D'.ct σ H) (h : tSs X sts D σ H) : tSs X sts D' σ H :=
  fun pins s I => thn (h pins s I) fun f s' z => sp_mono n r b c z
theorem tE_of {t : TE} {Q : VK} (p : PE X e t) (h : t σ H Q) : tE X e σ H Q := fun pins s I => p.run pins s σ H Q I h
theorem tT_of {t : TT} {Q : Bool → Hp → Prop} (p : PT X e t) (h : t σ H Q) : tT X e σ H Q := fun pins s I => p.run pins s σ H Q I h
theorem tTW_of {t : TT} {Q : Bool → Hp → Prop} (p : PW X e t) (h : t σ H Q) : tTW X e σ H Q := fun w pins s I => p.run w pins s σ H Q I h
theorem tA_of {t : TA} {Q : List V → Hp → Prop} (p : PA X es t) (h : t σ H Q) : tA X es σ H Q := fun pos pins s I => p.run pos pins s σ H Q I h
theorem tS_of {t : TS} {D : Ends} (p : PS X st t) (h : t D σ H) : tS X st D σ H := fun pins s I => p.run pins s σ H D I h
theorem tSs_of {t : TS} {D : Ends} (p : PSs X sts t) (h : t D σ H) : tSs X sts D σ H := fun pins s I => p.run pins s σ H D I h
end

/-! ### the judgements -/
structure Fx where
  X : Cx
  cls : Nat → Addr
  hs : Addr → Prop
  B : Hp
def Fx.G (F : Fx) : Gm := ⟨F.X.K, F.cls⟩
abbrev Fx.Kn (F : Fx) := Rk.Kn F.G F.hs F.B
/-- an error's own dict: classes below 100 have none; from 100 on it is InvalidLine with the line C - 100 -/
def Xd (C : Nat) (dd : Option Addr) (H : Hp) : Prop := if C < 100 then dd = none else ∃ d, dd = some d ∧ H d = some (.xd [("line", .int ((C : Int) - 100))])
theorem Xd.lo {C : Nat} {H : Hp} (h : C < 100) : Xd C none H := by unfold Xd; rw [if_pos h]
theorem Xd.hi {C : Nat} {H : Hp} {dd : Option Addr} (h : 100 ≤ C) (x : Xd C dd H) : ∃ d, dd = some d ∧ H d = some (.xd [("line", .int ((C : Int) - 100))]) := by unfold Xd at x; rw [if_neg (by omega)] at x; exact x
theorem Xd.no {C : Nat} {H : Hp} {dd : Option Addr} (h : C < 100) (x : Xd C dd H) : dd = none := by unfold Xd at x; rw [if_pos h] at x; exact x
theorem Xd.mono {C : Nat} {H H' : Hp} {dd : Option Addr} (s : Same H H') (x : Xd C dd H) : Xd C dd H' := by
  by_cases h : C < 100
  · rw [Xd.no h x]; exact Xd.lo h
  · obtain ⟨d, e, q⟩ := Xd.hi (by omega) x
    unfold Xd
    rw [if_neg h]; exact ⟨d, e, s _ _ q⟩
/-- where an error of an own class may go -/
def Port (F : Fx) (own : Nat → Option Addr) (H : Hp) (ex : List Ent → Nat → Prop) : Prop :=
  PassesOwn (model F.X.prog F.X.w) F.X.A F.X.env F.X.xe ∧ ∃ W : WX, Takes F.X W ∧ ∀ env own' C dd σ H', F.Kn own' env σ H' → Fr F.hs own own' H H' → ex env C → Xd C dd (Hid (hd F.hs own') H') → W (.ref (F.cls C)) dd σ H'
theorem Port.imp {F : Fx} {own : Nat → Option Addr} {H : Hp} {ex ex' : List Ent → Nat → Prop} (p : Port F own H ex) (h : ∀ env C, ex' env C → ex env C) : Port F own H ex' :=
  ⟨p.1, p.2.elim fun W ⟨t, w⟩ => ⟨W, t, fun env own C dd σ H k f q => w env own C dd σ H k f (h _ _ q)⟩⟩
theorem Port.step {F : Fx} {own own' : Nat → Option Addr} {H H' : Hp} {ex : List Ent → Nat → Prop} (p : Port F own H ex) (f : Fr F.hs own own' H H') : Port F own' H' ex :=
  ⟨p.1, p.2.elim fun W ⟨t, w⟩ => ⟨W, t, fun env o C dd σ h k g q => w env o C dd σ h k (f.trans g) q⟩⟩
theorem Port.mono {F : Fx} {own : Nat → Option Addr} {H H' : Hp} {ex : List Ent → Nat → Prop} (p : Port F own H ex) (s : Same H H') : Port F own H' ex := p.step (Fr.of s)
abbrev XP := List Ent → Nat → Prop
def KE (F : Fx) (env : List Ent) (e : Expr) (ex : XP) {α : Type} [Rp α] (Q : α → Prop) : Prop :=
  ∀ own σ H, F.Kn own env σ H → Port F own H ex → tE F.X e σ H fun v H' => ∃ a : α, Same H H' ∧ Rp.rep F.G (Hid (hd F.hs own) H') v a ∧ Q a
def KT (F : Fx) (env : List Ent) (e : Expr) (ex : XP) (Q : Bool → Prop) : Prop :=
  ∀ own σ H, F.Kn own env σ H → Port F own H ex → tT F.X e σ H fun b H' => Same H H' ∧ Q b
def KTW (F : Fx) (env : List Ent) (e : Expr) (ex : XP) (Q : Bool → Prop) : Prop :=
  ∀ own σ H, F.Kn own env σ H → Port F own H ex → tTW F.X e σ H fun b H' => Same H H' ∧ Q b
def KA (F : Fx) (env : List Ent) (es : List Expr) (ex : XP) (Q : List DV → Prop) : Prop :=
  ∀ own σ H, F.Kn own env σ H → Port F own H ex → tA F.X es σ H fun vs H' => ∃ ds, Same H H' ∧ RepAll F.G (Hid (hd F.hs own) H') vs ds ∧ Q ds
structure Po : Type 1 where
  nx : List Ent → Prop
  rt : DV → Prop
  bk : List Ent → Prop := fun _ => False
  ct : List Ent → Prop := fun _ => False
  ex : XP := fun _ _ => False
/-- what a state is to bear -/
def At (F : Fx) (own : Nat → Option Addr) (H : Hp) (p : List Ent → Prop) (σ : L2.St) (H' : Hp) : Prop := ∃ env own', F.Kn own' env σ H' ∧ Fr F.hs own own' H H' ∧ p env
def Rt (F : Fx) (p : DV → Prop) (v : V) (H : Hp) : Prop := ∃ d : DV, Same F.B H ∧ d.rep F.G (Hid F.hs H) v ∧ p d
def ends (F : Fx) (own : Nat → Option Addr) (H : Hp) (P : Po) : Ends := { nx := At F own H P.nx, rt := Rt F P.rt, bk := At F own H P.bk, ct := At F own H P.ct }
def KS (F : Fx) (env : List Ent) (st : Stmt) (P : Po) : Prop := ∀ own σ H, F.Kn own env σ H → Port F own H P.ex → tS F.X st (ends F own H P) σ H
def KSs (F : Fx) (env : List Ent) (st : List Stmt) (P : Po) : Prop := ∀ own σ H, F.Kn own env σ H → Port F own H P.ex → tSs F.X st (ends F own H P) σ H
section
variable {F : Fx} {env : List Ent} {ex : XP} {a b c e : Expr} {es : List Expr} {pos : Pos}

theorem ke_imp {α : Type} [Rp α] {Q Q' : α → Prop} (q : ∀ x, Q x → Q' x) (h : KE F env e ex Q) : KE F env e ex Q' := fun own σ H k p => tE_mono (fun v H' ⟨x, s, r, z⟩ => ⟨x, s, r, q x z⟩) (h own σ H k p)
theorem At.imp {own : Nat → Option Addr} {H H' : Hp} {p q : List Ent → Prop} {σ : L2.St} (h : ∀ env, p env → q env) (a : At F own H p σ H') : At F own H q σ H' := a.elim fun env ⟨own, k, f, z⟩ => ⟨env, own, k, f, h env z⟩

/-! ### values -/
theorem k_var {α : Type} [Rp α] {x : α} {Q : α → Prop} (i : Nat) {n : Str} (hN : F.X.N[i]? = some n) (he : env[i]? = some (.sh (dv x))) (q : Q x)
    (hv : Vis F.X.env.scope n := by first | exact Or.inl rfl | exact Or.inr (Or.inl rfl) | exact Or.inr (Or.inr rfl)) (hd : (n == ("__debug__" : Str)) = false := by decide) (hcd : (n == ("__classdict__" : Str)) = false := by decide) :
    KE F env (.Name n pos) ex Q := fun own σ H k p => by
  obtain ⟨v, h1, h2⟩ := k.sh he
  exact tE_of (pe_var hN hv hd hcd) ⟨v, h1, x, Same.refl H, h2, q⟩
theorem k_int {i : Int} {j} {Q : Int → Prop} (q : Q i) : KE F env (.Constant (.int i) j pos) ex Q := fun own σ H k p => tE_of pe_int ⟨i, Same.refl H, rfl, q⟩
theorem k_bl {i : Bool} {j} {Q : Bool → Prop} (q : Q i) : KE F env (.Constant (.bool i) j pos) ex Q := fun own σ H k p => tE_of pe_bl ⟨i, Same.refl H, rfl, q⟩
theorem k_str {i : Str} {j} {Q : Str → Prop} (q : Q i) : KE F env (.Constant (.str i) j pos) ex Q := fun own σ H k p => tE_of pe_str ⟨i, Same.refl H, rfl, q⟩
theorem k_non {j} {Q : Unit → Prop} (q : Q ()) : KE F env (.Constant .none j pos) ex Q := fun own σ H k p => tE_of pe_non ⟨(), Same.refl H, rfl, q⟩
/-- None as an optional datum -/
theorem k_nonI {j} {Q : Option Int → Prop} (q : Q none) : KE F env (.Constant .none j pos) ex Q := fun own σ H k p => tE_of pe_non ⟨none, Same.refl H, rfl, q⟩
theorem k_nonB {j} {Q : Option Bool → Prop} (q : Q none) : KE F env (.Constant .none j pos) ex Q := fun own σ H k p => tE_of pe_non ⟨none, Same.refl H, rfl, q⟩
/-- a module's constant, an int -/
theorem k_gint {n : Str} {i : Int} {Q : Int → Prop} (hm : ∃ t, F.X.mg n = some (.int i t)) (q : Q i) (hg : Gl F.X n := by rfl) (hd : (n == ("__debug__" : Str)) = false := by decide) : KE F env (.Name n pos) ex Q := fun own σ H k p => by
  obtain ⟨t, hm⟩ := hm
  exact tE_of (pe_glob hg hm (v := .int i) ⟨t, rfl⟩ hd) ⟨i, Same.refl H, rfl, q⟩
/-- a datum taken as another that the same value bears -/
theorem k_as {α β : Type} [Rp α] [Rp β] {Q : β → Prop} (f : α → β) (hf : ∀ G H v x, Rp.rep G H v x → Rp.rep G H v (f x)) (h : KE F env e ex fun x : α => Q (f x)) : KE F env e ex Q :=
  fun own σ H k p => tE_mono (fun v H' ⟨x, s, r, z⟩ => ⟨f x, s, hf _ _ _ _ r, z⟩) (h own σ H k p)
theorem k_some {Q : Option Int → Prop} (h : KE F env e ex fun x : Int => Q (some x)) : KE F env e ex Q := k_as some (fun _ _ _ _ r => r) h
theorem k_someB {Q : Option Bool → Prop} (h : KE F env e ex fun x : Bool => Q (some x)) : KE F env e ex Q := k_as some (fun _ _ _ _ r => r) h

/-! ### two operands -/
theorem two {α β : Type} [Rp α] [Rp β] {own : Nat → Option Addr} {σ : L2.St} {H : Hp} {Q : α → β → Prop} {R : V → V → Hp → Prop} (k : F.Kn own env σ H) (p : Port F own H ex) (h : KE F env a ex fun x : α => KE F env b ex fun y : β => Q x y)
    (f : ∀ v u x y H', Same H H' → Rp.rep F.G (Hid (hd F.hs own) H') v x → Rp.rep F.G (Hid (hd F.hs own) H') u y → Q x y → R v u H') : tE F.X a σ H fun v H1 => tE F.X b σ H1 fun u H2 => R v u H2 :=
  tE_mono (fun v H1 ⟨x, s1, r1, h1⟩ => tE_mono (fun u H2 ⟨y, s2, r2, q⟩ => f v u x y H2 (s1.trans s2) (Rp.mono (hid_same s2) r1) r2 q) (h1 own σ H1 (k.mono s1) (p.mono s1))) (h own σ H k p)
/-- what is wanted of an expression's value -/
def Rs (F : Fx) (own : Nat → Option Addr) (H : Hp) {α : Type} [Rp α] (Q : α → Prop) : VK := fun v H' => ∃ x : α, Same H H' ∧ Rp.rep F.G (Hid (hd F.hs own) H') v x ∧ Q x
theorem k_op {α β γ : Type} [Rp α] [Rp β] [Rp γ] {op : Operator} {r : R2} (ho : OpR F.X (binaryOp op) r) {Q : γ → Prop} {Q2 : α → β → Prop} (h : KE F env a ex fun x : α => KE F env b ex fun y : β => Q2 x y)
    (f : ∀ own σ H0 H v u x y, Same H0 H → F.Kn own env σ H → Rp.rep F.G (Hid (hd F.hs own) H) v x → Rp.rep F.G (Hid (hd F.hs own) H) u y → Q2 x y → r v u H (Rs F own H0 Q)) :
    KE F env (.BinOp a op b pos) ex Q := fun own σ H k p =>
  tE_of (pe_op ho peE peE) (two (R := fun v u H' => r v u H' (Rs F own H Q)) k p h fun v u x y H' s r1 r2 q => f own σ H H' v u x y s (k.mono s) r1 r2 q)
theorem k_cmp {α β γ : Type} [Rp α] [Rp β] [Rp γ] {op : CmpOp} {r : R2} (ho : OpR F.X (compareOp op) r) {Q : γ → Prop} {Q2 : α → β → Prop} (h : KE F env a ex fun x : α => KE F env b ex fun y : β => Q2 x y)
    (f : ∀ own σ H0 H v u x y, Same H0 H → F.Kn own env σ H → Rp.rep F.G (Hid (hd F.hs own) H) v x → Rp.rep F.G (Hid (hd F.hs own) H) u y → Q2 x y → r v u H (Rs F own H0 Q)) (hm : behindInMarks op b = false) :
    KE F env (.Compare a [op] [b] pos) ex Q := fun own σ H k p =>
  tE_of (pe_cmpR ho peE peE hm) (two (R := fun v u H' => r v u H' (Rs F own H Q)) k p h fun v u x y H' s r1 r2 q => f own σ H H' v u x y s (k.mono s) r1 r2 q)
theorem t_cmp {α β : Type} [Rp α] [Rp β] {op : CmpOp} {r : R2} (ho : OpR F.X (compareOp op) r) {Q : Bool → Prop} {Q2 : α → β → Prop} (h : KE F env a ex fun x : α => KE F env b ex fun y : β => Q2 x y)
    (f : ∀ own σ H0 H v u x y, Same H0 H → F.Kn own env σ H → Rp.rep F.G (Hid (hd F.hs own) H) v x → Rp.rep F.G (Hid (hd F.hs own) H) u y → Q2 x y → r v u H (fun z H' => ∃ c, z = .bl c ∧ Same H0 H' ∧ Q c)) (hm : behindInMarks op b = false) :
    KT F env (.Compare a [op] [b] pos) ex Q := fun own σ H k p =>
  tT_of (pt_cmpR ho peE peE hm) (two (R := fun v u H' => r v u H' (fun z H'' => ∃ c, z = .bl c ∧ Same H H'' ∧ Q c)) k p h fun v u x y H' s r1 r2 q => f own σ H H' v u x y s (k.mono s) r1 r2 q)

/-! ### ints -/
theorem k_add {Q : Int → Prop} (h : KE F env a ex fun x : Int => KE F env b ex fun y : Int => Q (x + y)) : KE F env (.BinOp a .Add b pos) ex Q :=
  k_op op_add h fun _ _ _ _ _ _ x y s _ r1 r2 q => by cases r1; cases r2; exact ⟨x, y, rfl, rfl, _, s, rfl, q⟩
theorem k_sub {Q : Int → Prop} (h : KE F env a ex fun x : Int => KE F env b ex fun y : Int => Q (x - y)) : KE F env (.BinOp a .Sub b pos) ex Q :=
  k_op op_sub h fun _ _ _ _ _ _ x y s _ r1 r2 q => by cases r1; cases r2; exact ⟨x, y, rfl, rfl, _, s, rfl, q⟩
def okMul (x y : Int) : Prop := (-(2 ^ 64) < x ∧ x < 2 ^ 64) ∨ (-(2 ^ 64) < y ∧ y < 2 ^ 64)
theorem k_mul {Q : Int → Prop} (h : KE F env a ex fun x : Int => KE F env b ex fun y : Int => okMul x y ∧ Q (x * y)) : KE F env (.BinOp a .Mult b pos) ex Q :=
  k_op op_mul h fun _ _ _ _ _ _ x y s _ r1 r2 q => by cases r1; cases r2; exact ⟨x, y, rfl, rfl, q.1, _, s, rfl, q.2⟩
/-- // by a divisor above 0: the quotient that Lean's / is -/
theorem k_div {Q : Int → Prop} (h : KE F env a ex fun x : Int => KE F env b ex fun y : Int => (0 < y ∧ y < 1073741824) ∧ Q (x / y)) : KE F env (.BinOp a .FloorDiv b pos) ex Q :=
  k_op op_fdivN h fun _ _ _ _ _ _ x y s _ r1 r2 q => by
    cases r1; cases r2
    refine ⟨x, y, rfl, rfl, ⟨by omega, by omega⟩, x / y, s, ?_, q.2⟩
    show V.int (x.fdiv y) = V.int (x / y)
    rw [Int.fdiv_eq_ediv_of_nonneg _ (Int.le_of_lt q.1.1)]
theorem k_mod {Q : Int → Prop} (h : KE F env a ex fun x : Int => KE F env b ex fun y : Int => 0 < y ∧ Q (x % y)) : KE F env (.BinOp a .Mod b pos) ex Q :=
  k_op op_modN h fun _ _ _ _ _ _ x y s _ r1 r2 q => by
    cases r1; cases r2
    refine ⟨x, y, rfl, rfl, by have := q.1; omega, x % y, s, ?_, q.2⟩
    show V.int (x.fmod y) = V.int (x % y)
    rw [Int.fmod_eq_emod_of_nonneg _ (Int.le_of_lt q.1)]
theorem k_neg {Q : Int → Prop} (h : KE F env a ex fun x : Int => Q (-x)) : KE F env (.UnaryOp .USub a pos) ex Q := fun own σ H k p =>
  tE_of (pe_un un_neg peE) (tE_mono (fun v H' ⟨x, s, r, q⟩ => by cases r; exact ⟨x, rfl, _, s, rfl, q⟩) (h own σ H k p))

/-! ### comparisons -/
theorem k_lt {Q : Bool → Prop} (h : KE F env a ex fun x : Int => KE F env b ex fun y : Int => Q (decide (x < y))) : KE F env (.Compare a [.Lt] [b] pos) ex Q :=
  k_cmp op_lt h (fun _ _ _ _ _ _ x y s _ r1 r2 q => by cases r1; cases r2; exact ⟨x, y, rfl, rfl, _, s, rfl, q⟩) (nomark _)
theorem k_le {Q : Bool → Prop} (h : KE F env a ex fun x : Int => KE F env b ex fun y : Int => Q (decide (x ≤ y))) : KE F env (.Compare a [.LtE] [b] pos) ex Q :=
  k_cmp op_le h (fun _ _ _ _ _ _ x y s _ r1 r2 q => by cases r1; cases r2; exact ⟨x, y, rfl, rfl, _, s, rfl, q⟩) (nomark _)
theorem k_gt {Q : Bool → Prop} (h : KE F env a ex fun x : Int => KE F env b ex fun y : Int => Q (decide (y < x))) : KE F env (.Compare a [.Gt] [b] pos) ex Q :=
  k_cmp op_gt h (fun _ _ _ _ _ _ x y s _ r1 r2 q => by cases r1; cases r2; exact ⟨x, y, rfl, rfl, _, s, rfl, q⟩) (nomark _)
theorem k_ge {Q : Bool → Prop} (h : KE F env a ex fun x : Int => KE F env b ex fun y : Int => Q (decide (y ≤ x))) : KE F env (.Compare a [.GtE] [b] pos) ex Q :=
  k_cmp op_ge h (fun _ _ _ _ _ _ x y s _ r1 r2 q => by cases r1; cases r2; exact ⟨x, y, rfl, rfl, _, s, rfl, q⟩) (nomark _)
theorem t_lt {Q : Bool → Prop} (h : KE F env a ex fun x : Int => KE F env b ex fun y : Int => Q (decide (x < y))) : KT F env (.Compare a [.Lt] [b] pos) ex Q :=
  t_cmp op_lt h (fun _ _ _ _ _ _ x y s _ r1 r2 q => by cases r1; cases r2; exact ⟨x, y, rfl, rfl, _, rfl, s, q⟩) (nomark _)
theorem t_le {Q : Bool → Prop} (h : KE F env a ex fun x : Int => KE F env b ex fun y : Int => Q (decide (x ≤ y))) : KT F env (.Compare a [.LtE] [b] pos) ex Q :=
  t_cmp op_le h (fun _ _ _ _ _ _ x y s _ r1 r2 q => by cases r1; cases r2; exact ⟨x, y, rfl, rfl, _, rfl, s, q⟩) (nomark _)
theorem t_gt {Q : Bool → Prop} (h : KE F env a ex fun x : Int => KE F env b ex fun y : Int => Q (decide (y < x))) : KT F env (.Compare a [.Gt] [b] pos) ex Q :=
  t_cmp op_gt h (fun _ _ _ _ _ _ x y s _ r1 r2 q => by cases r1; cases r2; exact ⟨x, y, rfl, rfl, _, rfl, s, q⟩) (nomark _)
theorem t_ge {Q : Bool → Prop} (h : KE F env a ex fun x : Int => KE F env b ex fun y : Int => Q (decide (y ≤ x))) : KT F env (.Compare a [.GtE] [b] pos) ex Q :=
  t_cmp op_ge h (fun _ _ _ _ _ _ x y s _ r1 r2 q => by cases r1; cases r2; exact ⟨x, y, rfl, rfl, _, rfl, s, q⟩) (nomark _)
/-- a scalar's values may be compared by == -/
class ScE (α : Type) extends Sc α where
  ok : ∀ a b : α, scal (v a) (v b) = true
instance : ScE Int := ⟨fun _ _ => rfl⟩
instance : ScE Bool := ⟨fun _ _ => rfl⟩
instance : ScE Str := ⟨fun _ _ => rfl⟩
instance : ScE (Option Int) := ⟨fun a b => by cases a <;> cases b <;> rfl⟩
instance : ScE (Option Bool) := ⟨fun a b => by cases a <;> cases b <;> rfl⟩
theorem sc_dec {α : Type} [Sc α] [DecidableEq α] (x y : α) : decide (Sc.v x = Sc.v y) = decide (x = y) := by
  by_cases h : x = y
  · rw [decide_eq_true h, decide_eq_true (congrArg Sc.v h)]
  · rw [decide_eq_false h, decide_eq_false fun z => h (Sc.inj z)]
theorem k_eq {α : Type} [i : ScE α] [DecidableEq α] {Q : Bool → Prop} (h : @KE F env a ex α (scRp α) fun x : α => @KE F env b ex α (scRp α) fun y : α => Q (decide (x = y))) : KE F env (.Compare a [.Eq] [b] pos) ex Q :=
  @k_cmp F env ex a b pos α α Bool (scRp α) (scRp α) _ _ _ op_eq _ _ h (fun _ _ _ _ v u x y s _ r1 r2 q => by
    have e1 : v = Sc.v x := r1
    have e2 : u = Sc.v y := r2
    refine ⟨by rw [e1, e2]; exact ScE.ok x y, _, s, ?_, q⟩
    rw [e1, e2, sc_dec]; exact rfl) (nomark _)
theorem k_ne {α : Type} [i : ScE α] [DecidableEq α] {Q : Bool → Prop} (h : @KE F env a ex α (scRp α) fun x : α => @KE F env b ex α (scRp α) fun y : α => Q (!decide (x = y))) : KE F env (.Compare a [.NotEq] [b] pos) ex Q :=
  @k_cmp F env ex a b pos α α Bool (scRp α) (scRp α) _ _ _ op_ne _ _ h (fun _ _ _ _ v u x y s _ r1 r2 q => by
    have e1 : v = Sc.v x := r1
    have e2 : u = Sc.v y := r2
    refine ⟨by rw [e1, e2]; exact ScE.ok x y, _, s, ?_, q⟩
    rw [e1, e2, sc_dec]; exact rfl) (nomark _)
theorem t_eq {α : Type} [i : ScE α] [DecidableEq α] {Q : Bool → Prop} (h : @KE F env a ex α (scRp α) fun x : α => @KE F env b ex α (scRp α) fun y : α => Q (decide (x = y))) : KT F env (.Compare a [.Eq] [b] pos) ex Q :=
  @t_cmp F env ex a b pos α α (scRp α) (scRp α) _ _ op_eq _ _ h (fun _ _ _ _ v u x y s _ r1 r2 q => by
    have e1 : v = Sc.v x := r1
    have e2 : u = Sc.v y := r2
    refine ⟨by rw [e1, e2]; exact ScE.ok x y, _, ?_, s, q⟩
    rw [e1, e2, sc_dec]) (nomark _)
theorem t_ne {α : Type} [i : ScE α] [DecidableEq α] {Q : Bool → Prop} (h : @KE F env a ex α (scRp α) fun x : α => @KE F env b ex α (scRp α) fun y : α => Q (!decide (x = y))) : KT F env (.Compare a [.NotEq] [b] pos) ex Q :=
  @t_cmp F env ex a b pos α α (scRp α) (scRp α) _ _ op_ne _ _ h (fun _ _ _ _ v u x y s _ r1 r2 q => by
    have e1 : v = Sc.v x := r1
    have e2 : u = Sc.v y := r2
    refine ⟨by rw [e1, e2]; exact ScE.ok x y, _, ?_, s, q⟩
    rw [e1, e2, sc_dec]) (nomark _)
/-- is None, is not None: isN tells it of the data -/
class Nn (α : Type) [Rp α] where
  isN : α → Bool
  ok : ∀ {G : Gm} {H : Hp} {v : V} {a : α}, Rp.rep G H v a → decide (v = .non) = isN a
instance : Nn (Option Int) := ⟨fun a => a.isNone, fun {G H v a} h => by
  have e : v = oiV a := h
  cases a <;> rw [e] <;> rfl⟩
instance : Nn (Option Bool) := ⟨fun a => a.isNone, fun {G H v a} h => by
  have e : v = obV a := h
  cases a <;> rw [e] <;> rfl⟩
theorem k_isN {α : Type} [Rp α] [Nn α] {j p1} {Q : Bool → Prop} (h : KE F env a ex fun x : α => Q (Nn.isN x)) : KE F env (.Compare a [.Is] [.Constant .none j p1] pos) ex Q :=
  k_cmp (β := Unit) (Q2 := fun x _ => Q (Nn.isN x)) op_isN (ke_imp (fun x q => k_non q) h) (fun _ _ _ _ v u x y s _ r1 r2 q => by
    cases r2
    refine ⟨rfl, _, s, ?_, q⟩
    rw [Nn.ok r1]; exact rfl) (nomark _)
theorem k_notN {α : Type} [Rp α] [Nn α] {j p1} {Q : Bool → Prop} (h : KE F env a ex fun x : α => Q (!Nn.isN x)) : KE F env (.Compare a [.IsNot] [.Constant .none j p1] pos) ex Q :=
  k_cmp (β := Unit) (Q2 := fun x _ => Q (!Nn.isN x)) op_notN (ke_imp (fun x q => k_non q) h) (fun _ _ _ _ v u x y s _ r1 r2 q => by
    cases r2
    refine ⟨rfl, _, s, ?_, q⟩
    rw [Nn.ok r1]; exact rfl) (nomark _)
theorem t_isN {α : Type} [Rp α] [Nn α] {j p1} {Q : Bool → Prop} (h : KE F env a ex fun x : α => Q (Nn.isN x)) : KT F env (.Compare a [.Is] [.Constant .none j p1] pos) ex Q :=
  t_cmp (β := Unit) (Q2 := fun x _ => Q (Nn.isN x)) op_isN (ke_imp (fun x q => k_non q) h) (fun _ _ _ _ v u x y s _ r1 r2 q => by
    cases r2
    exact ⟨rfl, _, by rw [Nn.ok r1], s, q⟩) (nomark _)
theorem t_notN {α : Type} [Rp α] [Nn α] {j p1} {Q : Bool → Prop} (h : KE F env a ex fun x : α => Q (!Nn.isN x)) : KT F env (.Compare a [.IsNot] [.Constant .none j p1] pos) ex Q :=
  t_cmp (β := Unit) (Q2 := fun x _ => Q (!Nn.isN x)) op_notN (ke_imp (fun x q => k_non q) h) (fun _ _ _ _ v u x y s _ r1 r2 q => by
    cases r2
    exact ⟨rfl, _, by rw [Nn.ok r1], s, q⟩) (nomark _)
/-- is True, is not True -/
theorem k_isB {Q : Bool → Prop} (h : KE F env a ex fun x : Bool => KE F env b ex fun y : Bool => Q (decide (x = y))) : KE F env (.Compare a [.Is] [b] pos) ex Q :=
  k_cmp op_isBl h (fun _ _ _ _ _ _ x y s _ r1 r2 q => by cases r1; cases r2; exact ⟨x, y, rfl, rfl, _, s, rfl, q⟩) (nomark _)
theorem t_isB {Q : Bool → Prop} (h : KE F env a ex fun x : Bool => KE F env b ex fun y : Bool => Q (decide (x = y))) : KT F env (.Compare a [.Is] [b] pos) ex Q :=
  t_cmp op_isBl h (fun _ _ _ _ _ _ x y s _ r1 r2 q => by cases r1; cases r2; exact ⟨x, y, rfl, rfl, _, rfl, s, q⟩) (nomark _)
theorem k_notB {Q : Bool → Prop} (h : KE F env a ex fun x : Bool => KE F env b ex fun y : Bool => Q (!decide (x = y))) : KE F env (.Compare a [.IsNot] [b] pos) ex Q :=
  k_cmp op_notBl h (fun _ _ _ _ _ _ x y s _ r1 r2 q => by cases r1; cases r2; exact ⟨x, y, rfl, rfl, _, s, rfl, q⟩) (nomark _)
theorem t_notB {Q : Bool → Prop} (h : KE F env a ex fun x : Bool => KE F env b ex fun y : Bool => Q (!decide (x = y))) : KT F env (.Compare a [.IsNot] [b] pos) ex Q :=
  t_cmp op_notBl h (fun _ _ _ _ _ _ x y s _ r1 r2 q => by cases r1; cases r2; exact ⟨x, y, rfl, rfl, _, rfl, s, q⟩) (nomark _)
/-- a <= b <= c -/
theorem k_lele {Q : Bool → Prop} (h : KE F env a ex fun x : Int => KE F env b ex fun y : Int => if x ≤ y then KE F env c ex fun z : Int => Q (decide (y ≤ z)) else Q false)
    (hm : lastMarks [.LtE, .LtE] [b, c] = false := by with_unfolding_all rfl) : KE F env (.Compare a [.LtE, .LtE] [b, c] pos) ex Q := fun own σ H k p =>
  tE_of (pe_chain op_le op_le peE peE peE hm) (two k p h fun v u x y H' s r1 r2 q => by
    cases r1; cases r2
    refine ⟨x, y, rfl, rfl, _, rfl, ?_⟩
    by_cases l : x ≤ y
    · rw [if_pos (decide_eq_true l)]
      rw [if_pos l] at q
      exact tE_mono (fun w H3 ⟨z, s3, r3, q3⟩ => by cases r3; exact ⟨y, z, rfl, rfl, _, s.trans s3, rfl, q3⟩) (q own σ H' (k.mono s) (p.mono s))
    · rw [if_neg (by simpa using l)]
      rw [if_neg l] at q
      exact ⟨_, s, rfl, q⟩)
theorem t_lele {Q : Bool → Prop} (h : KE F env a ex fun x : Int => KE F env b ex fun y : Int => if x ≤ y then KE F env c ex fun z : Int => Q (decide (y ≤ z)) else Q false)
    (hm : lastMarks [.LtE, .LtE] [b, c] = false := by with_unfolding_all rfl) : KT F env (.Compare a [.LtE, .LtE] [b, c] pos) ex Q := fun own σ H k p =>
  tT_of (pt_chain op_le op_le peE peE peE hm) (two k p h fun v u x y H' s r1 r2 q => by
    cases r1; cases r2
    refine ⟨x, y, rfl, rfl, _, rfl, ?_⟩
    by_cases l : x ≤ y
    · rw [if_pos (decide_eq_true l)]
      rw [if_pos l] at q
      exact tE_mono (fun w H3 ⟨z, s3, r3, q3⟩ => by cases r3; exact ⟨y, z, rfl, rfl, _, rfl, s.trans s3, q3⟩) (q own σ H' (k.mono s) (p.mono s))
    · rw [if_neg (by simpa using l)]
      rw [if_neg l] at q
      exact ⟨_, rfl, s, q⟩)

/-! ### and, or, not, a if c else b -/
theorem k_not {Q : Bool → Prop} (h : KE F env a ex fun x : Bool => Q (!x)) : KE F env (.UnaryOp .Not a pos) ex Q := fun own σ H k p =>
  tE_of (pe_not peE) (tE_mono (fun v H' ⟨x, s, r, q⟩ => by cases r; exact ⟨x, rfl, _, s, rfl, q⟩) (h own σ H k p))
theorem k_and {Q : Bool → Prop} (h : KE F env a ex fun x : Bool => if x = true then KE F env (.BoolOp .And (b :: es) pos) ex Q else Q false) : KE F env (.BoolOp .And (a :: b :: es) pos) ex Q := fun own σ H k p =>
  tE_of (pe_and peE peE) (tE_mono (fun v H' ⟨x, s, r, q⟩ => by
    cases r
    refine ⟨x, rfl, ?_⟩
    cases x with
    | true => exact tE_mono (fun w H2 ⟨y, s2, r2, q2⟩ => ⟨y, s.trans s2, r2, q2⟩) (q own σ H' (k.mono s) (p.mono s))
    | false => exact ⟨false, s, rfl, q⟩) (h own σ H k p))
theorem k_or {Q : Bool → Prop} (h : KE F env a ex fun x : Bool => if x = true then Q true else KE F env (.BoolOp .Or (b :: es) pos) ex Q) : KE F env (.BoolOp .Or (a :: b :: es) pos) ex Q := fun own σ H k p =>
  tE_of (pe_or peE peE) (tE_mono (fun v H' ⟨x, s, r, q⟩ => by
    cases r
    refine ⟨x, rfl, ?_⟩
    cases x with
    | false => exact tE_mono (fun w H2 ⟨y, s2, r2, q2⟩ => ⟨y, s.trans s2, r2, q2⟩) (q own σ H' (k.mono s) (p.mono s))
    | true => exact ⟨true, s, rfl, q⟩) (h own σ H k p))
theorem k_one {α : Type} [Rp α] {op : BoolOp} {Q : α → Prop} (h : KE F env a ex Q) : KE F env (.BoolOp op [a] pos) ex Q := fun own σ H k p => tE_of (pe_one peE) (h own σ H k p)
theorem t_val {Q : Bool → Prop} (h : KE F env a ex Q) (he : ∀ whole, isTrue a F.X.env whole = (do let v ← whole; standAt a.pos; holding [v] (truthy v)) := by intro _; rfl) : KT F env a ex Q := fun own σ H k p =>
  tT_of (pt_val peE he) (tE_mono (fun v H' ⟨x, s, r, q⟩ => by cases r; exact ⟨x, rfl, s, q⟩) (h own σ H k p))
theorem t_not {Q : Bool → Prop} (h : KT F env a ex fun x => Q (!x)) : KT F env (.UnaryOp .Not a pos) ex Q := fun own σ H k p =>
  tT_of (pt_not peT) (tT_mono (fun v H' ⟨s, q⟩ => ⟨s, q⟩) (h own σ H k p))
theorem t_w {Q : Bool → Prop} (h : KTW F env a ex Q) : KT F env a ex Q := fun own σ H k p => tT_of (peTW.pt) (h own σ H k p)
theorem w_and {Q : Bool → Prop} (h : KT F env a ex fun x => if x = true then KTW F env (.BoolOp .And (b :: es) pos) ex Q else Q false) : KTW F env (.BoolOp .And (a :: b :: es) pos) ex Q := fun own σ H k p =>
  tTW_of (pw_and peT peTW) (tT_mono (fun x H' ⟨s, q⟩ => by
    cases x with
    | true => exact tTW_mono (fun w H2 ⟨s2, q2⟩ => ⟨s.trans s2, q2⟩) (q own σ H' (k.mono s) (p.mono s))
    | false => exact ⟨s, q⟩) (h own σ H k p))
theorem w_or {Q : Bool → Prop} (h : KT F env a ex fun x => if x = true then Q true else KTW F env (.BoolOp .Or (b :: es) pos) ex Q) : KTW F env (.BoolOp .Or (a :: b :: es) pos) ex Q := fun own σ H k p =>
  tTW_of (pw_or peT peTW) (tT_mono (fun x H' ⟨s, q⟩ => by
    cases x with
    | false => exact tTW_mono (fun w H2 ⟨s2, q2⟩ => ⟨s.trans s2, q2⟩) (q own σ H' (k.mono s) (p.mono s))
    | true => exact ⟨s, q⟩) (h own σ H k p))
theorem w_and1 {Q : Bool → Prop} (h : KT F env a ex Q) : KTW F env (.BoolOp .And [a] pos) ex Q := fun own σ H k p => tTW_of (pw_and1 peT) (h own σ H k p)
theorem w_or1 {Q : Bool → Prop} (h : KT F env a ex Q) : KTW F env (.BoolOp .Or [a] pos) ex Q := fun own σ H k p => tTW_of (pw_or1 peT) (h own σ H k p)
theorem k_if {α : Type} [Rp α] {Q : α → Prop} (h : KT F env c ex fun x => if x = true then KE F env a ex Q else KE F env b ex Q) : KE F env (.IfExp c a b pos) ex Q := fun own σ H k p =>
  tE_of (pe_ifExp peT peE peE) (tT_mono (fun x H' ⟨s, q⟩ => by
    cases x with
    | true => exact tE_mono (fun w H2 ⟨y, s2, r2, q2⟩ => ⟨y, s.trans s2, r2, q2⟩) (q own σ H' (k.mono s) (p.mono s))
    | false => exact tE_mono (fun w H2 ⟨y, s2, r2, q2⟩ => ⟨y, s.trans s2, r2, q2⟩) (q own σ H' (k.mono s) (p.mono s))) (h own σ H k p))

/-! ### arguments, displays -/
theorem a_nil {Q : List DV → Prop} (q : Q []) : KA F env [] ex Q := fun own σ H k p => tA_of pa_nil ⟨[], Same.refl H, trivial, q⟩
theorem a_cons {α : Type} [Rp α] {Q : List DV → Prop} (h : KE F env e ex fun x : α => KA F env es ex fun ds => Q (dv x :: ds)) (hs : starEach (e :: es) F.X.env = (false, eval e F.X.env) :: starEach es F.X.env := by rfl) : KA F env (e :: es) ex Q := fun own σ H k p =>
  tA_of (pa_cons peE peA hs) (tE_mono (fun v H1 ⟨x, s1, r1, h1⟩ => tA_mono (fun vs H2 ⟨ds, s2, r2, q⟩ => ⟨dv x :: ds, s1.trans s2, ⟨DV.mono (d := dv x) (hid_same s2) r1, r2⟩, q⟩) (h1 own σ H1 (k.mono s1) (p.mono s1))) (h own σ H k p))
theorem hid_new {own : Nat → Option Addr} {σ : L2.St} {H H1 : Hp} {p : Addr} {o : HO} (k : F.Kn own env σ H) (s : Same H H1) (hp : H1 p = none) : Hid (hd F.hs own) (upd H1 p o) p = some o := by
  rw [hid_at (k.fresh s hp), upd_same]
theorem k_tup {α : Type} {ds : α → List DV} {x1} {Q : α → Prop} (h : KA F env es ex fun xs => xs.length ≤ 1000 ∧ ∃ y, ds y = xs ∧ Q y) : @KE F env (.Tuple es x1 pos) ex α (tpRp ds) Q := fun own σ H k p =>
  tE_of (pe_tup peA) (tA_mono (fun vs H1 ⟨xs, s, r, hl, y, e, q⟩ => ⟨by rw [r.len]; exact Nat.le_of_lt (small1000 hl), fun a ha => ⟨y, s.trans (same_new ha), ⟨a, vs, rfl, hid_new k s ha, by rw [e]; exact r.mono (hid_same (same_new ha))⟩, q⟩⟩) (h own σ H k p))
theorem k_lst {α : Type} {ds : α → List DV} {Q : α → Prop} (h : KA F env es ex fun xs => xs.length ≤ 1000 ∧ ∃ y, ds y = xs ∧ Q y) : @KE F env (.List es pos) ex α (lsRp ds) Q := fun own σ H k p =>
  tE_of (pe_lst peA) (tA_mono (fun vs H1 ⟨xs, s, r, hl, y, e, q⟩ => ⟨by rw [r.len]; exact Nat.le_of_lt (small1000 hl), fun a ha => ⟨y, s.trans (same_new ha), ⟨a, vs, rfl, hid_new k s ha, by rw [e]; exact r.mono (hid_same (same_new ha))⟩, q⟩⟩) (h own σ H k p))
end
end Rk

set_option maxHeartbeats 4000000
namespace Rk
open PySem L2
section
variable {F : Fx} {env : List Ent} {ex : XP} {a b c e : Expr} {es : List Expr} {pos : Pos}

/-! ### attributes, items, slices -/
theorem k_fld {α β : Type} [Rp β] {n : Nat} {fs : α → List (Str × DV)} {f : Str} {Q : β → Prop} (g : α → β) (hg : ∀ o, (fs o).lookup f = some (dv (g o))) (hc : Cls F.X.K (F.cls n)) (hn : NoAttr F.X.K (F.cls n) f)
    (h : @KE F env a ex α (obRp n fs) fun o => Q (g o)) (hb : attributeBase a f F.X.env (eval a F.X.env) = eval a F.X.env := by rfl) : KE F env (.Attribute a f pos) ex Q := fun own σ H k p =>
  tE_of (pe_fld peE hb) (tE_mono (fun v H' ⟨o, s, ⟨q, dx, kvs, e1, e2, e3⟩, z⟩ => by
    obtain ⟨w, h1, h2⟩ := e3.get (hg o)
    exact ⟨q, F.cls n, dx, kvs, w, e1, hid_of e2, hc, hn, h1, g o, s, h2, z⟩) (h own σ H k p))
/-- a tuple's item at a written place -/
theorem k_ixT {α β : Type} [Rp β] {ds : α → List DV} {i j} {p1 : Pos} {Q : β → Prop} (n : Nat) (g : α → β) (hg : ∀ o, (ds o)[n]? = some (dv (g o))) (hi : i = (n : Int)) (h : @KE F env a ex α (tpRp ds) fun o => Q (g o)) :
    KE F env (.Subscript a (.Constant (.int i) j p1) pos) ex Q := fun own σ H k p =>
  tE_of (pe_ix ix_tup peE pe_int (fun _ _ => rfl)) (tE_mono (fun v H' ⟨o, s, ⟨q, vs, e1, e2, e3⟩, z⟩ => by
    obtain ⟨w, h1, h2⟩ := e3.get (hg o)
    refine ⟨q, vs, _, w, e1, rfl, SqT.of (hid_of e2), ?_, g o, s, h2, z⟩
    subst hi
    have hl : n < vs.length := (List.getElem?_eq_some_iff.mp h1).1
    unfold atI ixN
    rw [if_pos (by omega), if_pos (by omega)]
    simpa using h1) (h own σ H k p))
theorem at_nat {α : Type} {xs : List α} {i : Int} {x : α} (h0 : 0 ≤ i) (h : xs[i.toNat]? = some x) : atI xs i = some x := by
  have hl : i.toNat < xs.length := (List.getElem?_eq_some_iff.mp h).1
  unfold atI ixN
  rw [if_pos h0, if_pos (by omega)]
  simpa using h
theorem at_last {α : Type} {xs : List α} {x : α} (h : xs.getLast? = some x) : atI xs (-1) = some x := by
  rw [List.getLast?_eq_getElem?] at h
  have hl : xs.length - 1 < xs.length := (List.getElem?_eq_some_iff.mp h).1
  unfold atI ixN
  rw [if_neg (by decide), if_pos (by omega)]
  have e : ((-1 : Int) + (xs.length : Int)).toNat = xs.length - 1 := by omega
  simpa [e] using h
/-- a list's item -/
theorem k_ixL {α : Type} [Rp α] {Q : α → Prop} (h : KE F env a ex fun xs : List α => KE F env b ex fun i : Int => ∃ x, (0 ≤ i ∧ xs[i.toNat]? = some x) ∧ Q x) (hs : PlainIx b := by intro _ _; rfl) : KE F env (.Subscript a b pos) ex Q := fun own σ H k p =>
  tE_of (pe_ix ix_list peE peE hs) (two k p h fun v u xs i H' s r1 r2 ⟨x, hx, q⟩ => by
    obtain ⟨l, vs, e1, e2, e3⟩ := r1
    cases r2
    obtain ⟨w, h1, h2⟩ := e3.get (i := i.toNat) (d := dv x) (by rw [dvs_get, hx.2]; rfl)
    exact ⟨l, vs, i, w, e1, rfl, SqL.of (hid_of e2), at_nat hx.1 h1, x, s, h2, q⟩)
theorem k_ixLast {α : Type} [Rp α] {Q : α → Prop} {j : Nat} {p1 p2 : Pos} (h : KE F env a ex fun xs : List α => ∃ x, xs.getLast? = some x ∧ Q x) : KE F env (.Subscript a (.UnaryOp .USub (.Constant (.int 1) j p1) p2) pos) ex Q := fun own σ H k p =>
  tE_of (pe_ix ix_list peE (pe_un un_neg pe_int) (fun _ _ => rfl)) (tE_mono (fun v H' ⟨xs, s, ⟨l, vs, e1, e2, e3⟩, x, hx, q⟩ => by
    rw [List.getLast?_eq_getElem?] at hx
    obtain ⟨w, h1, h2⟩ := e3.get (i := xs.length - 1) (d := dv x) (by rw [dvs_get, hx]; rfl)
    have hl : vs.length = xs.length := by rw [e3.len, dvs_len]
    refine ⟨1, rfl, l, vs, -1, w, e1, rfl, SqL.of (hid_of e2), at_last ?_, x, s, h2, q⟩
    rw [List.getLast?_eq_getElem?, hl]
    exact h1) (h own σ H k p))
/-- a list's item that the def alone holds, by its name -/
theorem rep_ls {α : Type} [Rp α] {G : Gm} {H : Hp} {l : Addr} {vs : List V} {xs : List α} (h : H l = some (.lst vs)) (r : RepAll G H vs (dvs xs)) : Rp.rep G H (V.ref l) xs := ⟨l, vs, rfl, h, r⟩
theorem cut_rep {α : Type} [Rp α] {G : Gm} {H : Hp} {vs : List V} {xs : List α} (r : RepAll G H vs (dvs xs)) (m n : Nat) : RepAll G H ((vs.drop m).take n) (dvs ((xs.drop m).take n)) := by
  unfold dvs
  rw [List.map_take, List.map_drop]
  exact (r.drop m).take n
/-- xs[lo:hi], both not below 0 -/
theorem k_sl {α : Type} [Rp α] {Q : List α → Prop} {p2 : Pos} (h : KE F env a ex fun xs : List α => KE F env b ex fun i : Int => KE F env c ex fun j : Int => (0 ≤ i ∧ 0 ≤ j) ∧ Q ((xs.drop i.toNat).take (j.toNat - i.toNat))) :
    KE F env (.Subscript a (.Slice (some b) (some c) none p2) pos) ex Q := fun own σ H k p =>
  tE_of (pe_slice sl_list peE (po_some peE) (po_some peE)) (two k p h fun v u xs i H' s r1 r2 q => by
    cases r2
    refine ⟨i, rfl, ?_⟩
    refine tE_mono (fun w H3 ⟨j, s3, r3, q3, q4⟩ => ?_) (q own σ H' (k.mono s) (p.mono s))
    cases r3
    obtain ⟨l, vs, e1, e2, e3⟩ := Rp.mono (hid_same s3) r1
    have st : Same H H3 := s.trans s3
    have hl : vs.length = xs.length := by rw [e3.len, dvs_len]
    refine ⟨j, rfl, l, vs, e1, SqL.of (hid_of e2), fun t ht => ⟨_, st.trans (same_new ht), ?_, q4⟩⟩
    have ec : cutV vs (some i) (some j) = (vs.drop i.toNat).take (j.toNat - i.toNat) := by
      have ei : (i : Int) = (i.toNat : Int) := by omega
      have ej : (j : Int) = (j.toNat : Int) := by omega
      unfold cutV
      rw [ei, ej, HT.sIx_nat, HT.sIx_nat]
      simp only [Int.toNat_natCast]
      by_cases g : i.toNat ≤ vs.length
      · rw [Nat.min_eq_left g]
        by_cases g2 : j.toNat ≤ vs.length
        · rw [Nat.min_eq_left g2]
        · rw [Nat.min_eq_right (by omega), List.take_of_length_le (by rw [List.length_drop]; omega), List.take_of_length_le (by rw [List.length_drop]; omega)]
      · rw [List.drop_of_length_le (by omega), List.drop_of_length_le (by omega), List.take_nil, List.take_nil]
    refine ⟨t, _, rfl, hid_new k st ht, ?_⟩
    rw [ec]
    exact (cut_rep e3 _ _).mono (hid_same (same_new ht)))
theorem k_slTo {α : Type} [Rp α] {Q : List α → Prop} {p2 : Pos} (h : KE F env a ex fun xs : List α => KE F env c ex fun j : Int => 0 ≤ j ∧ Q (xs.take j.toNat)) :
    KE F env (.Subscript a (.Slice none (some c) none p2) pos) ex Q := fun own σ H k p =>
  tE_of (pe_slice sl_list peE po_none (po_some peE)) (two k p h fun v u xs j H' s r1 r2 q => by
    cases r2
    obtain ⟨l, vs, e1, e2, e3⟩ := r1
    have hl : vs.length = xs.length := by rw [e3.len, dvs_len]
    refine ⟨j, rfl, l, vs, e1, SqL.of (hid_of e2), fun t ht => ⟨_, s.trans (same_new ht), ?_, q.2⟩⟩
    have ec : cutV vs none (some j) = vs.take j.toNat := by
      have ej : (j : Int) = (j.toNat : Int) := by have := q.1; omega
      unfold cutV
      rw [ej, HT.sIx_nat, HT.sIx_none]
      simp only [Int.toNat_natCast, List.drop_zero, Nat.sub_zero]
      by_cases g2 : j.toNat ≤ vs.length
      · rw [Nat.min_eq_left g2]
      · rw [Nat.min_eq_right (by omega), List.take_of_length_le (Nat.le_refl _), List.take_of_length_le (by omega)]
    refine ⟨t, _, rfl, hid_new k s ht, ?_⟩
    rw [ec]
    have g := (cut_rep e3 0 j.toNat)
    rw [List.drop_zero, List.drop_zero] at g
    exact g.mono (hid_same (same_new ht)))
theorem k_slFrom {α : Type} [Rp α] {Q : List α → Prop} {p2 : Pos} (h : KE F env a ex fun xs : List α => KE F env b ex fun i : Int => 0 ≤ i ∧ Q (xs.drop i.toNat)) :
    KE F env (.Subscript a (.Slice (some b) none none p2) pos) ex Q := fun own σ H k p =>
  tE_of (pe_slice sl_list peE (po_some peE) po_none) (two k p h fun v u xs i H' s r1 r2 q => by
    cases r2
    obtain ⟨l, vs, e1, e2, e3⟩ := r1
    refine ⟨i, rfl, l, vs, e1, SqL.of (hid_of e2), fun t ht => ⟨_, s.trans (same_new ht), ?_, q.2⟩⟩
    have ec : cutV vs (some i) none = vs.drop i.toNat := by
      have ei : (i : Int) = (i.toNat : Int) := by have := q.1; omega
      unfold cutV
      rw [ei, HT.sIx_nat, HT.sIx_none]
      simp only [Int.toNat_natCast]
      by_cases g : i.toNat ≤ vs.length
      · rw [Nat.min_eq_left g, List.take_of_length_le (by rw [List.length_drop]; omega)]
      · rw [List.drop_of_length_le (by omega), List.drop_of_length_le (by omega), List.take_nil]
    refine ⟨t, _, rfl, hid_new k s ht, ?_⟩
    rw [ec]
    have g := e3.drop i.toNat
    unfold dvs at g
    rw [← List.map_drop] at g
    exact RepAll.mono (hid_same (same_new ht)) g)
/-- xs + ys, xs * n of lists -/
theorem k_cat {α : Type} [Rp α] {Q : List α → Prop} (h : KE F env a ex fun xs : List α => KE F env b ex fun ys : List α => (xs.length + ys.length ≤ 100000) ∧ Q (xs ++ ys)) : KE F env (.BinOp a .Add b pos) ex Q :=
  k_op op_cat h fun own σ H0 H v u xs ys s k r1 r2 q => by
    obtain ⟨l, vs, e1, e2, e3⟩ := r1
    obtain ⟨l', vs', e1', e2', e3'⟩ := r2
    have h1 : vs.length = xs.length := by rw [e3.len, dvs_len]
    have h2 : vs'.length = ys.length := by rw [e3'.len, dvs_len]
    have hz : vs.length + vs'.length ≤ 100000 := by rw [h1, h2]; exact q.1
    refine ⟨l, l', vs, vs', e1, e1', hid_of e2, hid_of e2', Nat.le_trans hz (by decide), fun t ht => ⟨_, s.trans (same_new ht), ?_, q.2⟩⟩
    refine ⟨t, _, rfl, hid_new k (Same.refl _) ht, ?_⟩
    have g := e3.app e3'
    unfold dvs at g ⊢
    rw [List.map_append]
    exact RepAll.mono (hid_same (same_new ht)) g
theorem scr_get {ns : List Int} {i : Nat} {x : Int} (h : ns[i]? = some x) : (ns.map V.int)[i]? = some (V.int x) := by
  rw [List.getElem?_map, h]
  rfl
theorem k_ixScr {Q : Int → Prop} (h : KE F env a ex fun xs : Scr => KE F env b ex fun i : Int => ∃ x, (0 ≤ i ∧ xs.ns[i.toNat]? = some x) ∧ Q x) (hs : PlainIx b := by intro _ _; rfl) : KE F env (.Subscript a b pos) ex Q := fun own σ H k p =>
  tE_of (pe_ix ix_list peE peE hs) (two k p h fun v u xs i H' s r1 r2 ⟨x, hx, q⟩ => by
    obtain ⟨l, e1, e2⟩ := r1
    cases r2
    exact ⟨l, _, i, _, e1, rfl, hid_le.seq e2, at_nat hx.1 (scr_get hx.2), x, s, rfl, q⟩)
theorem rep_ints {G : Gm} {H : Hp} : ∀ ns : List Int, RepAll G H (ns.map V.int) (dvs ns)
  | [] => trivial
  | n :: r => ⟨rfl, rep_ints r⟩
/-- script[lo:hi] -/
theorem k_slScr {Q : List Int → Prop} {p2 : Pos} (h : KE F env a ex fun xs : Scr => KE F env b ex fun i : Int => KE F env c ex fun j : Int => (0 ≤ i ∧ 0 ≤ j) ∧ Q ((xs.ns.drop i.toNat).take (j.toNat - i.toNat))) :
    KE F env (.Subscript a (.Slice (some b) (some c) none p2) pos) ex Q := fun own σ H k p =>
  tE_of (pe_slice sl_list peE (po_some peE) (po_some peE)) (two k p h fun v u xs i H' s r1 r2 q => by
    cases r2
    refine ⟨i, rfl, ?_⟩
    refine tE_mono (fun w H3 ⟨j, s3, r3, q3, q4⟩ => ?_) (q own σ H' (k.mono s) (p.mono s))
    cases r3
    obtain ⟨l, e1, e2⟩ := Rp.mono (hid_same s3) r1
    have st : Same H H3 := s.trans s3
    have hl : (xs.ns.map V.int).length = xs.ns.length := List.length_map _
    refine ⟨j, rfl, l, _, e1, hid_le.seq e2, fun t ht => ⟨_, st.trans (same_new ht), ?_, q4⟩⟩
    refine ⟨t, _, rfl, hid_new k st ht, ?_⟩
    have ec : cutV (xs.ns.map V.int) (some i) (some j) = ((xs.ns.drop i.toNat).take (j.toNat - i.toNat)).map V.int := by
      have ei : (i : Int) = (i.toNat : Int) := by omega
      have ej : (j : Int) = (j.toNat : Int) := by omega
      unfold cutV
      rw [ei, ej, HT.sIx_nat, HT.sIx_nat, List.map_take, List.map_drop]
      simp only [Int.toNat_natCast]
      by_cases g : i.toNat ≤ (xs.ns.map V.int).length
      · rw [Nat.min_eq_left g]
        by_cases g2 : j.toNat ≤ (xs.ns.map V.int).length
        · rw [Nat.min_eq_left g2]
        · rw [Nat.min_eq_right (by omega), List.take_of_length_le (by rw [List.length_drop]; omega), List.take_of_length_le (by rw [List.length_drop]; omega)]
      · rw [List.drop_of_length_le (by omega), List.drop_of_length_le (by omega), List.take_nil, List.take_nil]
    rw [ec]
    exact rep_ints _)
theorem rep_rep {G : Gm} {H : Hp} {vs : List V} {ds : List DV} (r : RepAll G H vs ds) : ∀ n, RepAll G H (List.replicate n vs).flatten (List.replicate n ds).flatten
  | 0 => trivial
  | n + 1 => r.app (rep_rep r n)
end
end Rk

set_option maxHeartbeats 4000000
namespace Rk
open PySem L2
section
variable {F : Fx} {env : List Ent} {ex : XP} {a b c e : Expr} {es : List Expr} {pos p0 : Pos} {n : Str}

/-! ### calls of built-ins -/
/-- no name of the module hides a built-in -/
def NoGl (mg : Str → Option Value) : Prop := ∀ x ∈ (["len", "range", "min", "max", "int", "isinstance", "list", "tuple", "sorted", "enumerate", "zip", "all", "any", "bool", "dict", "str", "sum", "reversed", "ValueError"] : List Str), mg x = none
theorem cb {id : String} {r : List V → Hp → VK → Prop} {γ : Type} [Rp γ] {Q : γ → Prop} {Q2 : List DV → Prop} (hc : CallR F.X (.builtin id) r) (hm : F.X.mg n = none) (hv : bootBuiltins n = some (.builtin id)) (h : KA F env (e :: es) ex Q2)
    (f : ∀ own σ H0 H vs ds, Same H0 H → F.Kn own env σ H → RepAll F.G (Hid (hd F.hs own) H) vs ds → Q2 ds → r vs H (Rs F own H0 Q))
    (hg : Gl F.X n := by rfl) (hn : n ≠ "__name__" := by decide) (hdb : (n == ("__debug__" : Str)) = false := by decide)
    (hz : starEach (e :: es) F.X.env = (false, eval e F.X.env) :: starEach es F.X.env := by rfl) (hpl : (backTo pos (starEach es F.X.env)).any (·.1) = false := by rfl) :
    KE F env (.Call (.Name n p0) (e :: es) [] pos) ex Q := fun own σ H k p =>
  tE_of (pe_callB hc hg hm hv peA hn hdb hz hpl) (tA_mono (fun vs H' ⟨ds, s, r1, q⟩ => f own σ H H' vs ds s (k.mono s) r1 q) (h own σ H k p))
theorem ct {id : String} {r : List V → Hp → VK → Prop} {γ : Type} [Rp γ] {Q : γ → Prop} {Q2 : List DV → Prop} (hc : CallR F.X (.type id) r) (hm : F.X.mg n = none) (hv : bootBuiltins n = some (.type id)) (h : KA F env (e :: es) ex Q2)
    (f : ∀ own σ H0 H vs ds, Same H0 H → F.Kn own env σ H → RepAll F.G (Hid (hd F.hs own) H) vs ds → Q2 ds → r vs H (Rs F own H0 Q))
    (hg : Gl F.X n := by rfl) (hn : n ≠ "__name__" := by decide) (hdb : (n == ("__debug__" : Str)) = false := by decide)
    (hz : starEach (e :: es) F.X.env = (false, eval e F.X.env) :: starEach es F.X.env := by rfl) (hpl : (backTo pos (starEach es F.X.env)).any (·.1) = false := by rfl) :
    KE F env (.Call (.Name n p0) (e :: es) [] pos) ex Q := fun own σ H k p =>
  tE_of (pe_callTy hc hg hm hv peA hn hdb hz hpl) (tA_mono (fun vs H' ⟨ds, s, r1, q⟩ => f own σ H H' vs ds s (k.mono s) r1 q) (h own σ H k p))
/-- one argument of a type, two -/
def One {α : Type} [Rp α] (Q : α → Prop) (ds : List DV) : Prop := ∃ x : α, ds = [dv x] ∧ Q x
def Two {α β : Type} [Rp α] [Rp β] (Q : α → β → Prop) (ds : List DV) : Prop := ∃ (x : α) (y : β), ds = [dv x, dv y] ∧ Q x y
/-- an argument without a star -/
abbrev Ns (F : Fx) (e : Expr) (es : List Expr) : Prop := starEach (e :: es) F.X.env = (false, eval e F.X.env) :: starEach es F.X.env
theorem a_one {α : Type} [Rp α] {Q : α → Prop} (h : KE F env e ex Q) (z : Ns F e []) : KA F env [e] ex (One Q) := a_cons (ke_imp (fun x q => a_nil ⟨x, rfl, q⟩) h) z
theorem a_two {α β : Type} [Rp α] [Rp β] {Q : α → β → Prop} (h : KE F env a ex fun x => KE F env b ex fun y => Q x y) (z : Ns F a [b]) (z2 : Ns F b []) : KA F env [a, b] ex (Two Q) := a_cons (ke_imp (fun x q => a_cons (ke_imp (fun y q => a_nil ⟨x, y, rfl, q⟩) q) z2) h) z
theorem rep1 {G : Gm} {H : Hp} {vs : List V} {d : DV} (r : RepAll G H vs [d]) : ∃ v, vs = [v] ∧ d.rep G H v := by
  match vs, r with
  | [v], r => exact ⟨v, rfl, r.1⟩
theorem rep2 {G : Gm} {H : Hp} {vs : List V} {d d' : DV} (r : RepAll G H vs [d, d']) : ∃ v w, vs = [v, w] ∧ d.rep G H v ∧ d'.rep G H w := by
  match vs, r with
  | [v, w], r => exact ⟨v, w, rfl, r.1, r.2.1⟩
theorem k_lenL {α : Type} [Rp α] {Q : Int → Prop} (m : NoGl F.X.mg) (h : KE F env e ex fun xs : List α => Q (xs.length : Int)) (z : Ns F e [] := by rfl) (hg : Gl F.X "len" := by rfl) : KE F env (.Call (.Name "len" p0) [e] [] pos) ex Q :=
  cb call_len_seq (m _ (by simp)) PySem.boot_len (a_one h z) (fun own σ H0 H vs ds s k r ⟨xs, ed, q⟩ => by
    subst ed
    obtain ⟨v, rfl, l, ws, e1, e2, e3⟩ := rep1 r
    refine ⟨l, ws, by rw [e1], .inl (SqL.of (hid_of e2)), _, s, ?_, q⟩
    show V.int _ = V.int _
    rw [e3.len, dvs_len]) hg (hz := z)
theorem k_lenS {Q : Int → Prop} (m : NoGl F.X.mg) (h : KE F env e ex fun xs : Scr => Q (xs.ns.length : Int)) (z : Ns F e [] := by rfl) (hg : Gl F.X "len" := by rfl) : KE F env (.Call (.Name "len" p0) [e] [] pos) ex Q :=
  cb call_len_seq (m _ (by simp)) PySem.boot_len (a_one h z) (fun own σ H0 H vs ds s k r ⟨xs, ed, q⟩ => by
    subst ed
    obtain ⟨v, rfl, l, e1, e2⟩ := rep1 r
    refine ⟨l, _, by rw [e1], .inl (hid_le.seq e2), _, s, ?_, q⟩
    show V.int _ = V.int _
    rw [List.length_map]) hg (hz := z)
theorem k_lenT {α : Type} {ds : α → List DV} {Q : Int → Prop} (m : NoGl F.X.mg) (h : @KE F env e ex α (tpRp ds) fun x : α => Q ((ds x).length : Int)) (z : Ns F e [] := by rfl) (hg : Gl F.X "len" := by rfl) : KE F env (.Call (.Name "len" p0) [e] [] pos) ex Q :=
  cb call_len_seq (m _ (by simp)) PySem.boot_len (@a_one F env ex e α (tpRp ds) _ h z) (fun own σ H0 H vs _ s k r ⟨xs, ed, q⟩ => by
    subst ed
    obtain ⟨v, rfl, l, ws, e1, e2, e3⟩ := rep1 r
    refine ⟨l, ws, by rw [e1], .inr (SqT.of (hid_of e2)), _, s, ?_, q⟩
    show V.int _ = V.int _
    rw [e3.len]) hg (hz := z)
theorem k_intI {Q : Int → Prop} (m : NoGl F.X.mg) (h : KE F env e ex Q) (z : Ns F e [] := by rfl) (hg : Gl F.X "int" := by rfl) : KE F env (.Call (.Name "int" p0) [e] [] pos) ex Q :=
  ct call_int1 (m _ (by simp)) (by decide +kernel) (a_one h z) (fun own σ H0 H vs ds s k r ⟨x, ed, q⟩ => by
    subst ed
    obtain ⟨v, rfl, e1⟩ := rep1 r
    cases e1
    exact .inl ⟨x, rfl, x, s, rfl, q⟩) hg (hz := z)
def b2 (b : Bool) : Int := if b then 1 else 0
theorem k_intB {Q : Int → Prop} (m : NoGl F.X.mg) (h : KE F env e ex fun x : Bool => Q (b2 x)) (z : Ns F e [] := by rfl) (hg : Gl F.X "int" := by rfl) : KE F env (.Call (.Name "int" p0) [e] [] pos) ex Q :=
  ct call_int1 (m _ (by simp)) (by decide +kernel) (a_one h z) (fun own σ H0 H vs ds s k r ⟨x, ed, q⟩ => by
    subst ed
    obtain ⟨v, rfl, e1⟩ := rep1 r
    cases e1
    exact .inr ⟨x, rfl, _, s, rfl, q⟩) hg (hz := z)
theorem k_max2 {Q : Int → Prop} (m : NoGl F.X.mg) (h : KE F env a ex fun x : Int => KE F env b ex fun y : Int => Q (max x y)) (hc : F.X.calm = true := by rfl) (z : Ns F a [b] := by rfl) (z2 : Ns F b [] := by rfl) (hpl : (backTo pos (starEach [b] F.X.env)).any (·.1) = false := by rfl) (hg : Gl F.X "max" := by rfl) : KE F env (.Call (.Name "max" p0) [a, b] [] pos) ex Q :=
  cb (call_max2 hc) (m _ (by simp)) (by decide +kernel) (a_two h z z2) (fun own σ H0 H vs ds s k r ⟨x, y, ed, q⟩ => by
    subst ed
    obtain ⟨v, w, rfl, e1, e2⟩ := rep2 r
    cases e1; cases e2
    refine ⟨x, y, rfl, _, s, ?_, q⟩
    show V.int _ = V.int _
    congr 1
    split <;> omega) hg (hz := z) (hpl := hpl)
theorem k_min2 {Q : Int → Prop} (m : NoGl F.X.mg) (h : KE F env a ex fun x : Int => KE F env b ex fun y : Int => Q (min x y)) (hc : F.X.calm = true := by rfl) (z : Ns F a [b] := by rfl) (z2 : Ns F b [] := by rfl) (hpl : (backTo pos (starEach [b] F.X.env)).any (·.1) = false := by rfl) (hg : Gl F.X "min" := by rfl) : KE F env (.Call (.Name "min" p0) [a, b] [] pos) ex Q :=
  cb (call_min2 hc) (m _ (by simp)) (by decide +kernel) (a_two h z z2) (fun own σ H0 H vs ds s k r ⟨x, y, ed, q⟩ => by
    subst ed
    obtain ⟨v, w, rfl, e1, e2⟩ := rep2 r
    cases e1; cases e2
    refine ⟨x, y, rfl, _, s, ?_, q⟩
    show V.int _ = V.int _
    congr 1
    split <;> omega) hg (hz := z) (hpl := hpl)
theorem reps_ints {G : Gm} {H : Hp} : ∀ {vs : List V} {ns : List Int}, RepAll G H vs (dvs ns) → vs = ns.map V.int
  | [], [], _ => rfl
  | v :: vs, n :: ns, h => by
    have e : v = V.int n := h.1
    rw [e, reps_ints (vs := vs) (ns := ns) h.2] <;> rfl
/-- the greatest, the least of a list -/
theorem k_maxL {Q : Int → Prop} (m : NoGl F.X.mg) (h : KE F env e ex fun xs : List Int => xs ≠ [] ∧ ∀ y, y ∈ xs → (∀ z ∈ xs, z ≤ y) → Q y) (hc : F.X.calm = true := by rfl) (z : Ns F e [] := by rfl) (hg : Gl F.X "max" := by rfl) : KE F env (.Call (.Name "max" p0) [e] [] pos) ex Q :=
  cb (cr_max hc) (m _ (by simp)) (by decide +kernel) (a_one h z) (fun own σ H0 H vs ds s k r ⟨xs, ed, q0, q⟩ => by
    subst ed
    obtain ⟨v, rfl, l, ws, e1, e2, e3⟩ := rep1 r
    have e4 := reps_ints e3
    refine ⟨l, xs, by rw [e1], SqL.of (by rw [← e4]; exact hid_of e2), List.length_pos_iff.mpr q0, fun y hy hle => ⟨y, s, rfl, q y hy hle⟩⟩) hg (hz := z)
theorem k_minL {Q : Int → Prop} (m : NoGl F.X.mg) (h : KE F env e ex fun xs : List Int => xs ≠ [] ∧ ∀ y, y ∈ xs → (∀ z ∈ xs, y ≤ z) → Q y) (hc : F.X.calm = true := by rfl) (z : Ns F e [] := by rfl) (hg : Gl F.X "min" := by rfl) : KE F env (.Call (.Name "min" p0) [e] [] pos) ex Q :=
  cb (cr_min hc) (m _ (by simp)) (by decide +kernel) (a_one h z) (fun own σ H0 H vs ds s k r ⟨xs, ed, q0, q⟩ => by
    subst ed
    obtain ⟨v, rfl, l, ws, e1, e2, e3⟩ := rep1 r
    have e4 := reps_ints e3
    refine ⟨l, xs, by rw [e1], SqL.of (by rw [← e4]; exact hid_of e2), List.length_pos_iff.mpr q0, fun y hy hle => ⟨y, s, rfl, q y hy hle⟩⟩) hg (hz := z)
/-- list(xs): a new list -/
theorem k_list {α : Type} [Rp α] {Q : List α → Prop} (m : NoGl F.X.mg) (h : KE F env e ex Q) (z : Ns F e [] := by rfl) (hg : Gl F.X "list" := by rfl) : KE F env (.Call (.Name "list" p0) [e] [] pos) ex Q :=
  ct call_list_of (m _ (by simp)) (by decide +kernel) (a_one h z) (fun own σ H0 H vs ds s k r ⟨xs, ed, q⟩ => by
    subst ed
    obtain ⟨v, rfl, l, ws, e1, e2, e3⟩ := rep1 r
    exact ⟨l, ws, by rw [e1], .inl (SqL.of (hid_of e2)), fun t ht => ⟨xs, s.trans (same_new ht), ⟨t, ws, rfl, hid_new k (Same.refl _) ht, e3.mono (hid_same (same_new ht))⟩, q⟩⟩) hg (hz := z)

/-! ### calls of the text's own defs -/
inductive Rz : Type 1 where
  | ok (d : DV)
  | err (c : Nat)
/-- a promise: what the arguments lead to -/
abbrev Pm := List DV → Rz → Prop
def spOf (K : PySem.W.Frag) (cls : Nat → Addr) (S : Pm) : Sp := fun vs H Q E => ∃ (hs : Addr → Prop) (ds : List DV) (r : Rz), (∀ x, hs x → H x ≠ none) ∧ RepAll ⟨K, cls⟩ (Hid hs H) vs ds ∧ S ds r ∧
  match r with
  | .ok d => ∀ v H', Same H H' → d.rep ⟨K, cls⟩ (Hid hs H') v → Q v H'
  | .err c => ∀ dd H', Same H H' → Xd c dd (Hid hs H') → E (.ref (cls c)) dd H'
/-- what a caller makes of it -/
def Got {α : Type} [Rp α] (env : List Ent) (ex : XP) (Q : α → Prop) : Rz → Prop
  | .ok d => ∃ x : α, d = dv x ∧ Q x
  | .err c => ex env c
theorem Got.ok {α : Type} [Rp α] {env : List Ent} {ex : XP} {Q : α → Prop} {x : α} (q : Q x) : Got env ex Q (.ok (dv x)) := ⟨x, rfl, q⟩
theorem Kn.hidden {own : Nat → Option Addr} {σ : L2.St} {H : Hp} (k : F.Kn own env σ H) : ∀ x, hd F.hs own x → H x ≠ none := fun x z => by
  rcases z with z | ⟨i, z⟩
  · exact k.hsB x z
  · exact (k.new i x z).2
section
variable {kk : Nat} {f : Addr} {fd : FuncData} {ps : List Str} {S : Pm}
theorem spec_run {own : Nat → Option Addr} {σ : L2.St} {H0 H : Hp} {α : Type} [Rp α] {Q : α → Prop} {W : WX} {vs : List V} {ds : List DV} {r : Rz} (s : Same H0 H) (k : F.Kn own env σ H) (hw : ∀ env own' C dd σ H', F.Kn own' env σ H' → Fr F.hs own own' H0 H' → ex env C → Xd C dd (Hid (hd F.hs own') H') → W (.ref (F.cls C)) dd σ H')
    (rv : RepAll F.G (Hid (hd F.hs own) H) vs ds) (hS : S ds r) (q : Got env ex Q r) : spOf F.X.K F.cls S vs H (Rs F own H0 Q) (WE W σ) := by
  refine ⟨hd F.hs own, ds, r, Kn.hidden k, rv, hS, ?_⟩
  cases r with
  | ok d =>
    obtain ⟨x, ed, q⟩ := q
    intro v H' s' rd
    subst ed
    exact ⟨x, s.trans s', rd, q⟩
  | err c => exact fun dd H' s' x => hw env own c dd σ H' (k.mono s') (Fr.of (s.trans s')) q x
theorem k_call {α : Type} [Rp α] {Q : α → Prop} (G : FnOk F.X.prog F.X.w F.X.K F.X.mg F.X.base (L2.CX F.X.prog F.X.w) kk f fd ps (spOf F.X.K F.cls S)) (hr : Room kk F.X.A) (hm : F.X.mg n = some (.ref f)) (hk : PySem.W.keepIn F.X.K (.ref f) = true) (hb : Binds F.X.K fd ps [])
    (h : KA F env (e :: es) ex fun ds => ∃ r, S ds r ∧ Got env ex Q r) (hg : Gl F.X n := by rfl) (hdb : (n == ("__debug__" : Str)) = false := by decide)
    (hz : starEach (e :: es) F.X.env = (false, eval e F.X.env) :: starEach es F.X.env := by rfl) (hpl : (backTo pos (starEach es F.X.env)).any (·.1) = false := by rfl) : KE F env (.Call (.Name n p0) (e :: es) [] pos) ex Q := fun own σ H k p => by
  obtain ⟨pa, W, tk, hw⟩ := id p
  exact tE_of (pe_callS G hr hg hm hk hb (fun σ => passAt tk σ) peA hdb hz hpl) (tA_mono (fun vs H' ⟨ds, s, r1, r, hS, q⟩ => spec_run s (k.mono s) hw r1 hS q) (h own σ H k p))
/-- o.m(e, ..) -/
theorem pe_methS {X : Cx} {C : Addr} {sp : Sp} {E : L2.St → XK} {m : Str} {apos : Pos} {o : Expr} {ta : TE} {t : TA} {pl : Sem Bool} {CT : CXT} (he : PE X o ta) (cl : Cls X.K C) (hm : Meth X.K C m f) (G : FnOk X.prog X.w X.K X.mg X.base CT kk f fd ps sp) (hr : Room kk X.A) (hb : Binds X.K fd ps []) (hx : ∀ σ, PassesAt CT X σ (E σ)) (ha : PA X (e :: es) t)
    (hst : starEach (e :: es) X.env = (false, eval e X.env) :: starEach es X.env := by rfl) (hpl : (backTo pos (starEach es X.env)).any (·.1) = false := by rfl)
    (ht : eval (.Call (.Attribute o m apos) (e :: es) [] pos) X.env = (do
      let recv ← eval o X.env
      standAt apos.atName
      let (fn, fst) ← holding [recv] (getMethod recv m pl)
      callWith pos fn fst (backTo pos (starEach (e :: es) X.env)) (backToKw pos (keywordEach [] X.env))) := by rfl) :
    PE X (.Call (.Attribute o m apos) (e :: es) [] pos) (fun σ H Q => ta σ H fun x H1 => ∃ a dx fs, x = .ref a ∧ H1 a = some (.ins C dx fs) ∧ fs.lookup m = none ∧ t σ H1 fun vs H2 => sp (x :: vs) H2 Q (E σ)) := by
  refine ⟨fun pins s σ H Q I hq => ?_⟩
  refine PySem.W.methodCall_KW (pl := pl) (thn (he.run pins s σ H _ I hq) fun u s1 ⟨x, H1, I1, rx, a, dx, fs, ex1, ea, l, q⟩ => ?_) ht
  subst ex1
  obtain rfl : u = Value.ref a := rx
  refine getmeth_ok I1 ea cl hm l ?_
  refine PySem.W.callWith_K (h₀ := X.base) (first := [.ref a]) I.ok.mod.kin hm.kp (thn (ha.run pos pins s1 σ H1 _ I1 q) fun vals s2 ⟨vs, H2, I2, r, q2⟩ => ⟨I2.kIn, ?_⟩) hst hpl
  exact run_fnS (vs := .ref a :: vs) (us := .ref a :: vals) G hr hb (hx σ) I2 (.cons rfl r) q2
theorem pe_methS0 {X : Cx} {C : Addr} {sp : Sp} {E : L2.St → XK} {m : Str} {apos : Pos} {o : Expr} {ta : TE} {pl : Sem Bool} {CT : CXT} (he : PE X o ta) (cl : Cls X.K C) (hm : Meth X.K C m f) (G : FnOk X.prog X.w X.K X.mg X.base CT kk f fd ps sp) (hr : Room kk X.A) (hb : Binds X.K fd ps []) (hx : ∀ σ, PassesAt CT X σ (E σ))
    (ht : eval (.Call (.Attribute o m apos) [] [] pos) X.env = (do
      let recv ← eval o X.env
      standAt apos.atName
      let (fn, fst) ← holding [recv] (getMethod recv m pl)
      callWith pos fn fst (backTo pos (starEach [] X.env)) (backToKw pos (keywordEach [] X.env))) := by rfl) :
    PE X (.Call (.Attribute o m apos) [] [] pos) (fun σ H Q => ta σ H fun x H1 => ∃ a dx fs, x = .ref a ∧ H1 a = some (.ins C dx fs) ∧ fs.lookup m = none ∧ sp [x] H1 Q (E σ)) := by
  refine ⟨fun pins s σ H Q I hq => ?_⟩
  refine PySem.W.methodCall_KW (pl := pl) (thn (he.run pins s σ H _ I hq) fun u s1 ⟨x, H1, I1, rx, a, dx, fs, ex1, ea, l, q⟩ => ?_) ht
  subst ex1
  obtain rfl : u = Value.ref a := rx
  refine getmeth_ok I1 ea cl hm l ?_
  exact PySem.W.callWith_K0 (first := [.ref a]) I1.kIn hm.kp (run_fnS (vs := [.ref a]) (us := [.ref a]) G hr hb (hx σ) I1 (.cons rfl .nil) q)
theorem k_meth {α β : Type} [Rp β] {num : Nat} {fs : α → List (Str × DV)} {m : Str} {apos : Pos} {Q : β → Prop} (hf : ∀ o, (fs o).lookup m = none) (cl : Cls F.X.K (F.cls num)) (hm : Meth F.X.K (F.cls num) m f)
    (G : FnOk F.X.prog F.X.w F.X.K F.X.mg F.X.base (L2.CX F.X.prog F.X.w) kk f fd ps (spOf F.X.K F.cls S)) (hr : Room kk F.X.A) (hb : Binds F.X.K fd ps [])
    (h : @KE F env a ex α (obRp num fs) fun o => KA F env (e :: es) ex fun ds => ∃ r, S (@dv α (obRp num fs) o :: ds) r ∧ Got env ex Q r)
    (hst : starEach (e :: es) F.X.env = (false, eval e F.X.env) :: starEach es F.X.env := by rfl) (hpl : (backTo pos (starEach es F.X.env)).any (·.1) = false := by rfl) {pl : Sem Bool}
    (ht : eval (.Call (.Attribute a m apos) (e :: es) [] pos) F.X.env = (do
      let recv ← eval a F.X.env
      standAt apos.atName
      let (fn, fst) ← holding [recv] (getMethod recv m pl)
      callWith pos fn fst (backTo pos (starEach (e :: es) F.X.env)) (backToKw pos (keywordEach [] F.X.env))) := by rfl) :
    KE F env (.Call (.Attribute a m apos) (e :: es) [] pos) ex Q := fun own σ H k p => by
  obtain ⟨pa, W, tk, hw⟩ := id p
  refine tE_of (pe_methS peE cl hm G hr hb (fun σ => passAt tk σ) peA hst hpl ht) (tE_mono (fun v H1 ⟨o, s1, r1, q1⟩ => ?_) (h own σ H k p))
  obtain ⟨x, dx, kvs, e1, e2, e3⟩ := id r1
  refine ⟨x, dx, kvs, e1, hid_of e2, e3.no (hf o), tA_mono (fun vs H2 ⟨ds, s2, r2, r, hS, q⟩ => ?_) (q1 own σ H1 (k.mono s1) (p.mono s1))⟩
  exact spec_run (s1.trans s2) (k.mono (s1.trans s2)) hw (ds := @dv α (obRp num fs) o :: ds) ⟨(obRp num fs).mono (hid_same s2) r1, r2⟩ hS q
theorem k_meth0 {α β : Type} [Rp β] {num : Nat} {fs : α → List (Str × DV)} {m : Str} {apos : Pos} {Q : β → Prop} (hf : ∀ o, (fs o).lookup m = none) (cl : Cls F.X.K (F.cls num)) (hm : Meth F.X.K (F.cls num) m f)
    (G : FnOk F.X.prog F.X.w F.X.K F.X.mg F.X.base (L2.CX F.X.prog F.X.w) kk f fd ps (spOf F.X.K F.cls S)) (hr : Room kk F.X.A) (hb : Binds F.X.K fd ps [])
    (h : @KE F env a ex α (obRp num fs) fun o => ∃ r, S [@dv α (obRp num fs) o] r ∧ Got env ex Q r) {pl : Sem Bool}
    (ht : eval (.Call (.Attribute a m apos) [] [] pos) F.X.env = (do
      let recv ← eval a F.X.env
      standAt apos.atName
      let (fn, fst) ← holding [recv] (getMethod recv m pl)
      callWith pos fn fst (backTo pos (starEach [] F.X.env)) (backToKw pos (keywordEach [] F.X.env))) := by rfl) :
    KE F env (.Call (.Attribute a m apos) [] [] pos) ex Q := fun own σ H k p => by
  obtain ⟨pa, W, tk, hw⟩ := id p
  refine tE_of (pe_methS0 peE cl hm G hr hb (fun σ => passAt tk σ) ht) (tE_mono (fun v H1 ⟨o, s1, r1, r, hS, q⟩ => ?_) (h own σ H k p))
  obtain ⟨x, dx, kvs, e1, e2, e3⟩ := id r1
  refine ⟨x, dx, kvs, e1, hid_of e2, e3.no (hf o), ?_⟩
  exact spec_run s1 (k.mono s1) hw (ds := [@dv α (obRp num fs) o]) ⟨r1, trivial⟩ hS q
end
end
end Rk

set_option maxHeartbeats 4000000
set_option exponentiation.threshold 3000
namespace Rk
open PySem L2
section
variable {F : Fx} {env : List Ent} {a b c e : Expr} {es : List Expr} {pos p0 p1 : Pos} {n x : Str} {P : Po} {st : Stmt} {sts ss : List Stmt}

/-! ### texts made of parts: some text -/
def Parts (F : Fx) (env : List Ent) (ex : XP) (q : Prop) : List Expr → Prop
  | [] => q
  | e :: es => KE F env e ex fun z : Str => z.length ≤ 100 ∧ Parts F env ex q es
theorem k_fmtI {ex : XP} {q : Prop} (h : KE F env e ex fun i : Int => i.natAbs < 1000000 ∧ q) : KE F env (.FormattedValue e (-1) none pos) ex fun z : Str => z.length ≤ 100 ∧ q := fun own σ H kn p =>
  tE_of (pe_fmt peE) (tE_mono (fun v H' ⟨i, s, r, h1, h2⟩ => by
    cases r
    have hb : i.natAbs.log2 < 1920 := by
      by_cases z : i.natAbs = 0
      · rw [z]; decide
      · exact (Nat.log2_lt z).mpr (Nat.lt_of_lt_of_le h1 (Nat.le_trans (by decide : 1000000 ≤ 2 ^ 20) (Nat.pow_le_pow_right (by decide) (by decide))))
    refine .inr ⟨i, rfl, hb, _, s, rfl, ?_, h2⟩
    have e1 := int_text_length_le10 (a := i) (k := 6) (by decide) h1
    rw [ofString_length]
    omega) (h own σ H kn p))
theorem k_fmtS {ex : XP} {q : Prop} (h : KE F env e ex fun z : Str => z.length ≤ 100 ∧ q) : KE F env (.FormattedValue e (-1) none pos) ex fun z : Str => z.length ≤ 100 ∧ q := fun own σ H kn p =>
  tE_of (pe_fmt peE) (tE_mono (fun v H' ⟨z, s, r, h1, h2⟩ => by
    cases r
    exact .inl ⟨z, rfl, Nat.le_of_lt (small1000 (by omega)), z, s, rfl, h1, h2⟩) (h own σ H kn p))
theorem k_lit {ex : XP} {q : Prop} {s : Str} {j} (h : s.length ≤ 100) (hq : q) : KE F env (.Constant (.str s) j pos) ex fun z : Str => z.length ≤ 100 ∧ q := k_str ⟨h, hq⟩
def pjs (X : Cx) : List Expr → List TE
  | [] => []
  | e :: es => tE X e :: pjs X es
theorem pj_all {X : Cx} : ∀ es : List Expr, PJ X es (pjs X es)
  | [] => .nil
  | _ :: es => .cons peE (pj_all es)
theorem parts_run {ex : XP} {q : Prop} {own : Nat → Option Addr} {σ : L2.St} {H0 : Hp} : ∀ (es : List Expr) (acc : Str) (k : Nat) (H : Hp), es.length + k ≤ 100 → acc.length ≤ 100 * k → Same H0 H → F.Kn own env σ H → Port F own H ex → Parts F env ex q es →
    tJs (pjs F.X es) acc σ H fun out H1 => Rs F own H0 (fun _ : Str => q) (.str out) H1
  | [], acc, k, H, _, _, s, kn, p, h => ⟨acc, s, rfl, h⟩
  | e :: es, acc, k, H, hk, ha, s, kn, p, h => tE_mono (fun v H' ⟨z, s', r, hz, h'⟩ => by
      cases r
      have hl : (acc ++ z).length = acc.length + z.length := Str.length_append acc z
      simp only [List.length_cons] at hk
      refine ⟨z, rfl, Nat.le_trans (by rw [hl]; omega : (acc ++ z).length ≤ 20000) (by decide), ?_⟩
      exact parts_run es (acc ++ z) (k + 1) H' (by omega) (by rw [hl]; omega) (s.trans s') (kn.mono s') (p.mono s') h') (h own σ H kn p)
theorem k_join {ex : XP} {q : Prop} {v1 v2 : Expr} {rest : List Expr} (h : Parts F env ex q (v1 :: v2 :: rest)) (hl : rest.length ≤ 90) : KE F env (.JoinedStr (v1 :: v2 :: rest) pos) ex fun _ : Str => q := fun own σ H kn p =>
  tE_of (pe_joined (pj_all _)) (parts_run _ _ 0 H (by simp only [List.length_cons]; omega) (Nat.le_of_eq rfl) (Same.refl H) kn p h)
theorem k_join1 {ex : XP} {q : Prop} (h : Parts F env ex q [e]) : KE F env (.JoinedStr [e] pos) ex fun _ : Str => q := fun own σ H kn p =>
  tE_of (pe_joined1 peE) (tE_mono (fun v H' ⟨z, s, r, _, hq⟩ => ⟨z, s, r, hq⟩) (h own σ H kn p))

/-! ### blocks -/
theorem At.more {own own' : Nat → Option Addr} {H H' : Hp} {p : List Ent → Prop} {σ : L2.St} {H2 : Hp} (f : Fr F.hs own own' H H') (h : At F own' H' p σ H2) : At F own H p σ H2 := h.elim fun env ⟨o, k, g, z⟩ => ⟨env, o, k, f.trans g, z⟩
theorem b_more {own own' : Nat → Option Addr} {H H' H2 : Hp} {σ : L2.St} (f : Fr F.hs own own' H H') (h : tSs F.X sts (ends F own' H' P) σ H2) : tSs F.X sts (ends F own H P) σ H2 :=
  tSs_mono (D := ends F own' H' P) (D' := ends F own H P) (fun _ _ z => At.more f z) (fun _ _ z => z) (fun _ _ z => At.more f z) (fun _ _ z => At.more f z) h
theorem ks_imp {P' : Po} (n : ∀ env, P.nx env → P'.nx env) (r : ∀ d, P.rt d → P'.rt d) (b : ∀ env, P.bk env → P'.bk env) (c : ∀ env, P.ct env → P'.ct env) (x : ∀ env C, P.ex env C → P'.ex env C) (h : KSs F env sts P) : KSs F env sts P' := fun own σ H k p =>
  tSs_mono (D := ends F own H P) (D' := ends F own H P') (fun _ _ z => At.imp n z) (fun v H ⟨d, s, rd, z⟩ => ⟨d, s, rd, r d z⟩) (fun _ _ z => At.imp b z) (fun _ _ z => At.imp c z) (h own σ H k (p.imp x))
theorem ks_nil (q : P.nx env) : KSs F env [] P := fun own σ H k p => tSs_of pss_nil ⟨env, own, k, Fr.refl, q⟩
theorem ks_one (h : KS F env st P) : KSs F env [st] P := fun own σ H k p => tSs_of (pss_one peS) (h own σ H k p)
theorem ks_cons (h : KS F env st { P with nx := fun env' => KSs F env' (sts) P }) : KSs F env (st :: sts) P := fun own σ H k p => by
  refine tSs_of (pss_cons peS peSs) ?_
  refine tS_mono (D := ends F own H { P with nx := fun env' => KSs F env' sts P }) (D' := { ends F own H P with nx := tSs F.X sts (ends F own H P) }) (fun σ' H' z => ?_) (fun _ _ z => z) (fun _ _ z => z) (fun _ _ z => z) (h own σ H k p)
  obtain ⟨env', own', k', f, z⟩ := z
  exact b_more f (z own' σ' H' k' (p.step f))
theorem ks_as {env' : List Ent} (f : ∀ own σ H, F.Kn own env σ H → ∃ own', F.Kn own' env' σ H ∧ Fr F.hs own own' H H) (h : KSs F env' sts P) : KSs F env sts P := fun own σ H k p => by
  obtain ⟨own', k', g⟩ := f own σ H k
  exact b_more g (h own' σ H k' (p.step g))
/-- an own list is shared from here on -/
theorem ks_freeze {α : Type} [Rp α] (i : Nat) {xs : List α} (he : env[i]? = some (.ow (olist xs))) (h : KSs F (env.set i (.sh (dv xs))) sts P) : KSs F env sts P :=
  ks_as (fun own σ H k => ⟨_, k.freeze he (fun p ho H1 _ h1 sm ok => by
    obtain ⟨vs, e1, r⟩ := ok
    subst e1
    exact ⟨p, vs, rfl, h1, r.mono sm⟩), Fr.drop i⟩) h
theorem ks_forget (i : Nat) (h : KSs F (env.set i .no) sts P) : KSs F env sts P := ks_as (fun own σ H k => ⟨_, k.forget i, Fr.drop i⟩) h

/-! ### statements -/
theorem s_pass (q : P.nx env) : KS F env (.Pass pos) P := fun own σ H k p => tS_of ps_pass ⟨env, own, k, Fr.refl, q⟩
theorem s_brk (q : P.bk env) : KS F env (.Break pos) P := fun own σ H k p => tS_of ps_break ⟨env, own, k, Fr.refl, q⟩
theorem s_cont (q : P.ct env) : KS F env (.Continue pos) P := fun own σ H k p => tS_of ps_continue ⟨env, own, k, Fr.refl, q⟩
theorem s_ret {α : Type} [Rp α] (h : KE F env e P.ex fun y : α => P.rt (dv y)) : KS F env (.Return (some e) pos) P := fun own σ H k p =>
  tS_of (ps_ret peE) (tE_mono (fun v H' ⟨y, s, r, q⟩ => ⟨dv y, k.ex.trans s, DV.mono (d := dv y) (hid_more fun _ z => .inl z) r, q⟩) (h own σ H k p))
theorem s_retN (q : P.rt (dv ())) : KS F env (.Return none pos) P := fun own σ H k p => tS_of ps_retN ⟨dv (), k.ex, rfl, q⟩
theorem s_if (h : KT F env c P.ex fun b => if b = true then KSs F env sts P else KSs F env ss P) : KS F env (.If c sts ss pos) P := fun own σ H k p =>
  tS_of (ps_if peT peSs peSs) (tT_mono (fun b H' ⟨s, q⟩ => by
    have f : Fr F.hs own own H H' := Fr.of s
    cases b with
    | true => exact b_more f (q own σ H' (k.mono s) (p.mono s))
    | false => exact b_more f (q own σ H' (k.mono s) (p.mono s))) (h own σ H k p))
theorem s_expr {α : Type} [Rp α] (h : KE F env e P.ex fun _ : α => P.nx env) (hs : swapsWith e none pos.line F.X.env = pure false := by rfl) : KS F env (.Expr e pos) P := fun own σ H k p =>
  tS_of (ps_expr peE hs) (tE_mono (fun v H' ⟨_, s, _, q⟩ => ⟨env, own, k.mono s, Fr.of s, q⟩) (h own σ H k p))
/-- name = e -/
theorem s_asg {α : Type} [Rp α] (i : Nat) (nd : F.X.N.Nodup) (hi : F.X.N[i]? = some x) (h : KE F env e P.ex fun y : α => P.nx (env.set i (.sh (dv y)))) (hx : Loc F.X.env.scope x := by first | exact Or.inl rfl | exact Or.inr rfl) (hs : swapsWith e (some (.Name x p1)) pos.line F.X.env = pure false := by rfl)
    (hf : F.X.fn x = true ∨ F.X.env.scope.names.lookup x = some .local := by exact Or.inl rfl) : KS F env (.Assign [.Name x p1] e pos) P := fun own σ H k p =>
  tS_of (ps_set nd hi hx peE hs hf) (tE_mono (fun v H' ⟨y, s, r, q⟩ => ⟨_, _, (k.mono s).set (i := i) (d := dv y) r, (Fr.of s).trans (Fr.drop i), q⟩) (h own σ H k p))
/-- name = [..]: a list that the def alone holds -/
theorem s_new {α : Type} [Rp α] (i : Nat) (nd : F.X.N.Nodup) (hi : F.X.N[i]? = some x) (hl : i < env.length) (h : KA F env es P.ex fun ds => ds.length ≤ 1000 ∧ ∃ xs : List α, dvs xs = ds ∧ ∀ zs, zs = xs → P.nx (env.set i (.ow (olist zs)))) (hx : Loc F.X.env.scope x := by first | exact Or.inl rfl | exact Or.inr rfl)
    (hs : swapsWith (.List es p0) (some (.Name x p1)) pos.line F.X.env = pure false := by rfl) (hf : F.X.fn x = true ∨ F.X.env.scope.names.lookup x = some .local := by exact Or.inl rfl) : KS F env (.Assign [.Name x p1] (.List es p0) pos) P := fun own σ H k p =>
  tS_of (ps_set nd hi hx (pe_lst peA) hs hf) (tA_mono (fun vs H' ⟨ds, s, r, hz, xs, ed, q⟩ => ⟨by rw [r.len]; exact Nat.le_of_lt (small1000 hz), fun t ht =>
    ⟨_, _, (k.mono s).gain (i := i) (o := olist xs) hl (same_new ht) ht upd_same ⟨vs, rfl, by rw [ed]; exact r⟩, (Fr.of s).trans (Fr.gain (same_new ht) ht), q xs rfl⟩⟩) (h own σ H k p))
/-- name = list(e): a list that the def alone holds -/
theorem s_newList {α : Type} [Rp α] (i : Nat) (m : NoGl F.X.mg) (nd : F.X.N.Nodup) (hi : F.X.N[i]? = some x) (hl : i < env.length) (h : KE F env e P.ex fun xs : List α => ∀ zs, zs = xs → P.nx (env.set i (.ow (olist zs)))) (hx : Loc F.X.env.scope x := by first | exact Or.inl rfl | exact Or.inr rfl)
    (hs : swapsWith (.Call (.Name "list" p0) [e] [] pos) (some (.Name x p1)) pos.line F.X.env = pure false := by rfl) (hf : F.X.fn x = true ∨ F.X.env.scope.names.lookup x = some .local := by exact Or.inl rfl) (z : Ns F e [] := by rfl) (hg : Gl F.X "list" := by rfl) :
    KS F env (.Assign [.Name x p1] (.Call (.Name "list" p0) [e] [] pos) pos) P := fun own σ H k p =>
  tS_of (ps_set nd hi hx (pe_callTy call_list_of hg (m _ (by simp)) (by decide +kernel) (pa_cons peE pa_nil z) (he := z)) hs hf) (tE_mono (fun v H' ⟨xs, s, ⟨l, ws, e1, e2, e3⟩, q⟩ => by
    refine ⟨l, ws, by rw [e1], .inl (SqL.of (hid_of e2)), fun t ht => ?_⟩
    exact ⟨_, _, (k.mono s).gain (i := i) (o := olist xs) hl (same_new ht) ht upd_same ⟨ws, rfl, e3⟩, (Fr.of s).trans (Fr.gain (same_new ht) ht), q xs rfl⟩) (h own σ H k p))
/-- rows.append(e), rows a list that the def alone holds -/
theorem s_app {α : Type} [Rp α] (i : Nat) {xs : List α} {q0 q1 : Pos} (hN : F.X.N[i]? = some x) (he : env[i]? = some (.ow (olist xs))) (hz : xs.length < 100000) (h : KE F env e P.ex fun y : α => ∀ zs, zs = xs ++ [y] → P.nx (env.set i (.ow (olist zs)))) (z : Ns F e [] := by rfl)
    (hv : Vis F.X.env.scope x := by first | exact Or.inl rfl | exact Or.inr (Or.inl rfl) | exact Or.inr (Or.inr rfl)) (hdb : (x == ("__debug__" : Str)) = false := by decide) (hcd : (x == ("__classdict__" : Str)) = false := by decide)
    (hbase : attributeBase (.Name x q0) "append" F.X.env (eval (.Name x q0) F.X.env) = eval (.Name x q0) F.X.env := by rfl)
    (hfew : ((backTo p0 (starEach (e :: []) F.X.env)).all (fun x => !x.1) && (backToKw p0 (keywordEach [] F.X.env)).all (fun x => x.1.isSome)
      && decide ((e :: ([] : List Expr)).length + ([] : List Keyword).length + (if ([] : List Keyword).isEmpty then 0 else 1) < 30)) = true := by rfl)
    (hline : (q1.endLine == p0.line) = true := by rfl) (hplain : (backTo p0 (starEach ([] : List Expr) F.X.env)).any (·.1) = false := by rfl)
    (hs : swapsWith (.Call (.Attribute (.Name x q0) "append" q1) [e] [] p0) none pos.line F.X.env = pure false := by rfl) :
    KS F env (.Expr (.Call (.Attribute (.Name x q0) "append" q1) [e] [] p0) pos) P := fun own σ H k p => by
  have hi : i < env.length := (List.getElem?_eq_some_iff.mp he).1
  obtain ⟨l, ho, h0, h1, h2, vs, e3, r3⟩ := (show EntOk F.G F.hs own σ H i (.ow (olist xs)) from k.ent i _ he)
  subst e3
  refine tS_of (ps_expr (pe_bm PySem.F.plainAttrs_list PySem.F.slot_list_append PySem.F.type_list_append mt_append (pe_var hN hv hdb hcd) (pa_cons peE pa_nil z) hbase hfew hline z hplain) hs) ⟨.ref l, h1, .inl ⟨rfl, _, SqL.of h2⟩, ?_⟩
  refine tE_mono (fun v H' ⟨y, s, r, q⟩ => ?_) (h own σ H k p)
  have k' := k.mono s
  have r3' := r3.mono (hid_same (hs := hd F.hs own) s)
  refine ⟨l, vs, v, rfl, rfl, s _ _ h2, Nat.lt_of_lt_of_le (by rw [r3.len, dvs_len]; exact hz) (by decide : 100000 ≤ sizeLine), ?_⟩
  refine ⟨_, _, k'.chg (i := i) hi h0 (o := olist (xs ++ [y])) ⟨vs ++ [v], rfl, ?_⟩, (Fr.of s).trans (Fr.chg h0), q _ rfl⟩
  unfold dvs
  rw [List.map_append]
  exact r3'.app ⟨r, trivial⟩
/-- x += e, x -= e -/
theorem s_augAdd (i : Nat) {y : Int} (nd : F.X.N.Nodup) (hi : F.X.N[i]? = some x) (he : env[i]? = some (.sh (dv y))) (h : KE F env e P.ex fun z : Int => ∀ u : Int, u = y + z → P.nx (env.set i (.sh (dv u)))) (hx : Loc F.X.env.scope x := by first | exact Or.inl rfl | exact Or.inr rfl)
    (hf : F.X.fn x = true ∨ F.X.env.scope.names.lookup x = some .local := by exact Or.inl rfl) : KS F env (.AugAssign (.Name x p1) .Add e pos) P := fun own σ H k p => by
  obtain ⟨v, h1, h2⟩ := k.sh he
  have h2' : v = V.int y := h2
  subst h2'
  exact tS_of (ps_aug nd hi hx peE ip_add hf) ⟨_, h1, tE_mono (fun v H' ⟨z, s, r, q⟩ => by
    cases r
    exact ⟨y, z, rfl, rfl, _, _, (k.mono s).set (i := i) (d := dv (y + z)) rfl, (Fr.of s).trans (Fr.drop i), q _ rfl⟩) (h own σ H k p)⟩
theorem s_augSub (i : Nat) {y : Int} (nd : F.X.N.Nodup) (hi : F.X.N[i]? = some x) (he : env[i]? = some (.sh (dv y))) (h : KE F env e P.ex fun z : Int => ∀ u : Int, u = y - z → P.nx (env.set i (.sh (dv u)))) (hx : Loc F.X.env.scope x := by first | exact Or.inl rfl | exact Or.inr rfl)
    (hf : F.X.fn x = true ∨ F.X.env.scope.names.lookup x = some .local := by exact Or.inl rfl) : KS F env (.AugAssign (.Name x p1) .Sub e pos) P := fun own σ H k p => by
  obtain ⟨v, h1, h2⟩ := k.sh he
  have h2' : v = V.int y := h2
  subst h2'
  exact tS_of (ps_aug nd hi hx peE ip_sub hf) ⟨_, h1, tE_mono (fun v H' ⟨z, s, r, q⟩ => by
    cases r
    exact ⟨y, z, rfl, rfl, _, _, (k.mono s).set (i := i) (d := dv (y - z)) rfl, (Fr.of s).trans (Fr.drop i), q _ rfl⟩) (h own σ H k p)⟩
/-- a, b, .. = e -/
def setAll (env : List Ent) : List Nat → List DV → List Ent
  | i :: is, d :: ds => setAll (env.set i (.sh d)) is ds
  | _, _ => env
def gNs : List Nat → TGs
  | [] => gNil
  | i :: is => gCons (gName i) (gNs is)
/-- but for the slots is, σ' is σ -/
def Wp (is : List Nat) (σ σ' : L2.St) : Prop := ∀ vs : List Nat, (∀ i ∈ is, i ∈ vs) → wipe σ' vs = wipe σ vs
theorem wipe_set {σ : L2.St} {i : Nat} {o : Option V} : ∀ {vs : List Nat}, i ∈ vs → wipe (σ.set i o) vs = wipe σ vs
  | [], h => nomatch h
  | v :: vs, h => by
    show (wipe (σ.set i o) vs).set v none = (wipe σ vs).set v none
    by_cases q : i ∈ vs
    · rw [wipe_set q]
    · have e : i = v := by
        rcases List.mem_cons.mp h with e | e
        · exact e
        · exact absurd e q
      subst e
      have sc : ∀ (σ : L2.St) (vs : List Nat), i ∉ vs → wipe (σ.set i o) vs = (wipe σ vs).set i o := by
        intro σ vs
        induction vs with
        | nil => intro _; rfl
        | cons u us ih =>
          intro hn
          show (wipe (σ.set i o) us).set u none = ((wipe σ us).set u none).set i o
          rw [ih fun z => hn (List.mem_cons_of_mem _ z), List.set_comm _ _ (fun z => hn (by rw [z]; exact List.mem_cons_self))]
      rw [sc σ vs q, List.set_set]
theorem Wp.one {σ : L2.St} {i : Nat} {o : Option V} : Wp [i] σ (σ.set i o) := fun vs h => wipe_set (h i List.mem_cons_self)
/-- but for the slots is, what is held stays held -/
def Kp (is : List Nat) (own own' : Nat → Option Addr) : Prop := ∀ i p, own i = some p → i ∈ is ∨ own' i = some p
theorem Kp.one {own : Nat → Option Addr} {i : Nat} : Kp [i] own (drop own i) := fun j p h => by
  by_cases e : j = i
  · subst e; exact .inl List.mem_cons_self
  · exact .inr (by unfold drop; rw [if_neg e]; exact h)
theorem unpack {Q : L2.St → Hp → Prop} : ∀ (is : List Nat) (ds : List DV) (vs : List V) (env : List Ent) (own : Nat → Option Addr) (σ : L2.St) (H : Hp), is.length = ds.length → F.Kn own env σ H → RepAll F.G (Hid (hd F.hs own) H) vs ds →
    (∀ own' σ', F.Kn own' (setAll env is ds) σ' H → Fr F.hs own own' H H → Wp is σ σ' → Kp is own own' → Q σ' H) → gNs is vs σ H Q
  | [], [], [], env, own, σ, H, _, k, _, q => ⟨rfl, q own σ k Fr.refl (fun _ _ => rfl) fun _ _ h => .inr h⟩
  | i :: is, d :: ds, v :: vs, env, own, σ, H, hl, k, r, q => ⟨v, vs, rfl, unpack is ds vs _ _ _ H (by simpa using hl) (k.set (i := i) r.1) (r.2.mono (Fr.drop i)) fun own' σ' k' f wp kp => q own' σ' k' ((Fr.drop i).trans f) (fun vs h => by
      rw [wp vs fun j hj => h j (List.mem_cons_of_mem _ hj)]
      exact wipe_set (h i List.mem_cons_self)) fun j p h => by
      rcases Kp.one j p h with z | z
      · exact .inl (by rw [List.mem_singleton.mp z]; exact List.mem_cons_self)
      · rcases kp j p z with y | y
        · exact .inl (List.mem_cons_of_mem _ y)
        · exact .inr y⟩
theorem s_unpack {α : Type} {ds : α → List DV} (is : List Nat) {kx : Nat} (hg : PGs F.X es (gNs is)) (hl : ∀ y, is.length = (ds y).length) (h : @KE F env e P.ex α (tpRp ds) fun y => P.nx (setAll env is (ds y))) (hc : F.X.calm = true := by rfl)
    (hn : (assignEach es F.X.env).length = is.length := by rfl) (hst : (assignEach es F.X.env).findIdx? (·.1) = none := by rfl) (hs : swapsWithSole [.Tuple es kx p1] e pos.line F.X.env = pure false := by rfl) (hw : swappedStores [.Tuple es kx p1] e F.X.env = pure none := by rfl)
    (h1 : (assignEach [.Tuple es kx p1] F.X.env).map (·.2) = [assign (.Tuple es kx p1) F.X.env] := by rfl) : KS F env (.Assign [.Tuple es kx p1] e pos) P := fun own σ H k p =>
  tS_of (ps_asg peE (pg_tup hc hg hn hst) hs hw h1) (tE_mono (fun v H' ⟨y, s, ⟨l, vs, e1, e2, e3⟩, q⟩ => ⟨l, vs, e1, SqT.of (hid_of e2), by rw [e3.len, ← hl y], unpack is _ vs env own σ H' (hl y) (k.mono s) e3 fun own' σ' k' f _ _ => ⟨_, own', k', (Fr.of s).trans f, q⟩⟩) (h own σ H k p))

/-! ### errors -/
structure ExcT (K : PySem.W.Frag) (mg : Str → Option Value) (x : Str) (C : Addr) : Prop where
  gC : mg x = some (.ref C)
  q : PySem.W.excIn K C [.type "ValueError", .type "Exception", .type "BaseException", .type "object"] "ValueError.__new__" = true
  kC : PySem.W.keepIn K (.ref C) = true
  sB : PySem.W.subIn K (.ref C) (.type "BaseException") = some true
  tC : PySem.W.typeIn K (.ref C) = some (.type "type")
theorem s_raise {cn : Nat} (T : ExcT F.X.K F.X.mg x (F.cls cn)) (h : KE F env e P.ex fun _ : Str => P.ex env cn) (hc : F.X.calm = true := by rfl) (hg : Gl F.X x := by rfl) (z : Ns F e [] := by rfl) (hdb : (x == ("__debug__" : Str)) = false := by decide) (hcn : cn < 100 := by decide) :
    KS F env (.Raise (some (.Call (.Name x p0) [e] [] p1)) none pos) P := fun own σ H k p => by
  obtain ⟨_, W, tk, hw⟩ := id p
  refine tS_of (ps_raise hc tk (SkE.pmk_own1 PySem.F.excBase_ValueError T.q T.gC T.kC (raises_own T.sB T.tC) hg peE z hdb)) ?_
  exact tE_mono (fun v H' ⟨y, s, r, q⟩ => hw env own cn none σ H' (k.mono s) (Fr.of s) q (Xd.lo hcn)) (h own σ H k p)
end
end Rk

set_option maxHeartbeats 4000000
namespace Rk
open PySem L2 PyProof.Rows
section
variable {F : Fx} {env : List Ent} {a b c e it : Expr} {es : List Expr} {pos p0 p1 : Pos} {n x : Str} {P : Po} {st : Stmt} {sts ss body : List Stmt}

/-! ### targets of a loop -/
/-- a kind of target: how it changes what is known, for each datum of a type -/
structure Tg (F : Fx) (tg : Expr) (α : Type) [Rp α] (g : TG) (is : List Nat) (f : α → List Ent → List Ent) : Prop where
  pg : PG F.X tg g
  sem : ∀ (x : α) (Q : L2.St → Hp → Prop) (env : List Ent) (own : Nat → Option Addr) (σ : L2.St) (H : Hp) (v : V), F.Kn own env σ H → Rp.rep F.G (Hid (hd F.hs own) H) v x →
    (∀ own' σ', F.Kn own' (f x env) σ' H → Fr F.hs own own' H H → Wp is σ σ' → Kp is own own' → Q σ' H) → g v σ H Q
theorem g_name {α : Type} [Rp α] (j : Nat) (nd : F.X.N.Nodup) (hi : F.X.N[j]? = some x) (hx : Loc F.X.env.scope x := by first | exact Or.inl rfl | exact Or.inr rfl) (hf : F.X.fn x = true ∨ F.X.env.scope.names.lookup x = some .local := by first | exact Or.inl rfl | exact Or.inr rfl) :
    Tg F (.Name x pos) α (gName j) [j] fun y env => env.set j (.sh (dv y)) := ⟨pg_name nd hi hx hf, fun y Q env own σ H v k r q => q _ _ (k.set (i := j) (d := dv y) r) (Fr.drop j) Wp.one Kp.one⟩
theorem g_tup {α : Type} {ds : α → List DV} (is : List Nat) {kx : Nat} (hg : PGs F.X es (gNs is)) (hl : ∀ y, is.length = (ds y).length) (hc : F.X.calm = true := by rfl) (hn : (assignEach es F.X.env).length = is.length := by rfl) (hst : (assignEach es F.X.env).findIdx? (·.1) = none := by rfl) :
    @Tg F (.Tuple es kx pos) α (tpRp ds) (gTup F.X.K is.length (gNs is)) is fun y env => setAll env is (ds y) := by
  refine @Tg.mk F _ α (tpRp ds) _ _ _ (pg_tup hc hg hn hst) fun y Q env own σ H v k r q => ?_
  obtain ⟨l, vs, e1, e2, e3⟩ := r
  exact ⟨l, vs, e1, SqT.of (hid_of e2), by rw [e3.len, ← hl y], unpack is _ vs env own σ H (hl y) k e3 q⟩

/-! ### loops over data -/
/-- the ends of a turn -/
abbrev turn (P : Po) (nx : List Ent → Prop) : Po := { nx := nx, ct := nx, bk := P.nx, rt := P.rt, ex := P.ex }
theorem b_turn {own own' : Nat → Option Addr} {H H' H2 : Hp} {σ : L2.St} {nx : List Ent → Prop} {D : Ends} (f : Fr F.hs own own' H H') (hn : D.nx = At F own H nx) (hc : D.ct = At F own H nx) (hb : D.bk = At F own H P.nx) (hr : D.rt = Rt F P.rt)
    (h : tSs F.X body (ends F own' H' (turn P nx)) σ H2) : tSs F.X body D σ H2 :=
  tSs_mono (D := ends F own' H' (turn P nx)) (D' := D) (fun _ _ z => by rw [hn]; exact At.more f z) (fun _ _ z => by rw [hr]; exact z) (fun _ _ z => by rw [hb]; exact At.more f z) (fun _ _ z => by rw [hc]; exact At.more f z) h
theorem s_for {α : Type} [Rp α] {f : α → List Ent → List Ent} {g : TG} {is : List Nat} (tg : Tg F a α g is f) (h : KE F env it P.ex fun xs : List α => ∃ I : Nat → List Ent → Prop, I 0 env ∧ (∀ i y env', xs[i]? = some y → I i env' → KSs F (f y env') body (turn P (I (i + 1)))) ∧ ∀ env', I xs.length env' → P.nx env')
    (hc : F.X.calm = true := by rfl) (hs : ∀ x, foldedSetIterable it F.X.env x = pure x := by intro _; rfl) : KS F env (.For a it body [] pos) P := fun own σ H k p => by
  refine tS_of (ps_for p.1 hc (pi_list peE) tg.pg peSs hs) (tE_mono (fun v H1 ⟨xs, s, ⟨l, vs, e1, e2, e3⟩, I, h0, h1, h2⟩ => ?_) (h own σ H k p))
  have hlen : vs.length = xs.length := by rw [e3.len, dvs_len]
  refine ⟨l, e1, ⟨vs, SqL.of (hid_of e2)⟩, for_list (K := F.X.K) (a := l) (xs := vs) (fun i σ' H' => ∃ own', Fr F.hs own own' H1 H' ∧ ∃ env', F.Kn own' env' σ' H' ∧ I i env') ⟨own, Fr.refl, env, k.mono s, h0⟩ ?_ ?_ ?_⟩
  · rintro i σ' H' _ ⟨own', fr, _, _, _⟩
    exact SqL.of (hid_of (fr _ _ e2))
  · rintro i v' σ' H' hv ⟨own', fr, env', k', hI⟩
    obtain ⟨d, hd1, hd2⟩ := e3.get' hv
    rw [dvs_get] at hd1
    cases hx : xs[i]? with
    | none => rw [hx] at hd1; cases hd1
    | some y =>
      rw [hx] at hd1
      have ed : dv y = d := Option.some.inj hd1
      subst ed
      have base : Fr F.hs own own H H1 := Fr.of s
      refine tg.sem y _ env' own' σ' H' v' k' (DV.mono (d := dv y) fr hd2) fun own2 σ2 k2 f2 _ _ => ?_
      have tot : Fr F.hs own own2 H H' := (base.trans fr).trans f2
      refine tSs_mono (D := ends F own2 H' (turn P (I (i + 1)))) ?n (fun _ _ z => z) (fun _ _ z => At.more tot z) ?c (h1 i y env' hx hI own2 σ2 H' k2 (p.step tot))
      all_goals
        rintro σ3 H3 ⟨env3, own3, k3, f3, q3⟩
        exact ⟨own3, fr.trans (f2.trans f3), env3, k3, q3⟩
  · rintro σ' H' ⟨own', fr, env', k', hI⟩
    rw [hlen] at hI
    exact ⟨env', own', k', (Fr.of s).trans fr, h2 env' hI⟩

/-- a tuple of data of one type, as a loop walks it -/
structure Tl (α : Type) where
  xs : List α
instance {α : Type} [Rp α] : Rp (Tl α) := tpRp fun t => dvs t.xs
theorem s_forT {α : Type} [Rp α] {f : α → List Ent → List Ent} {g : TG} {is : List Nat} (tg : Tg F a α g is f) (h : KE F env it P.ex fun t : Tl α => ∃ I : Nat → List Ent → Prop, I 0 env ∧ (∀ i y env', t.xs[i]? = some y → I i env' → KSs F (f y env') body (turn P (I (i + 1)))) ∧ ∀ env', I t.xs.length env' → P.nx env')
    (hc : F.X.calm = true := by rfl) (hs : ∀ x, foldedSetIterable it F.X.env x = pure x := by intro _; rfl) : KS F env (.For a it body [] pos) P := fun own σ H k p => by
  refine tS_of (ps_for p.1 hc (pi_tup peE) tg.pg peSs hs) (tE_mono (fun v H1 ⟨⟨xs⟩, s, ⟨l, vs, e1, e2, e3⟩, I, h0, h1, h2⟩ => ?_) (h own σ H k p))
  have e3 : RepAll F.G (Hid (hd F.hs own) H1) vs (dvs xs) := e3
  have h1 : ∀ i y env', xs[i]? = some y → I i env' → KSs F (f y env') body (turn P (I (i + 1))) := h1
  have h2 : ∀ env', I xs.length env' → P.nx env' := h2
  have hlen : vs.length = xs.length := by rw [e3.len, dvs_len]
  refine ⟨l, e1, ⟨vs, SqT.of (hid_of e2)⟩, for_tup (K := F.X.K) (a := l) (xs := vs) (fun i σ' H' => ∃ own', Fr F.hs own own' H1 H' ∧ ∃ env', F.Kn own' env' σ' H' ∧ I i env') ⟨own, Fr.refl, env, k.mono s, h0⟩ ?_ ?_ ?_⟩
  · rintro i σ' H' _ ⟨own', fr, _, _, _⟩
    exact SqT.of (hid_of (fr _ _ e2))
  · rintro i v' σ' H' hv ⟨own', fr, env', k', hI⟩
    obtain ⟨d, hd1, hd2⟩ := e3.get' hv
    rw [dvs_get] at hd1
    cases hx : xs[i]? with
    | none => rw [hx] at hd1; cases hd1
    | some y =>
      rw [hx] at hd1
      have ed : dv y = d := Option.some.inj hd1
      subst ed
      have base : Fr F.hs own own H H1 := Fr.of s
      refine tg.sem y _ env' own' σ' H' v' k' (DV.mono (d := dv y) fr hd2) fun own2 σ2 k2 f2 _ _ => ?_
      have tot : Fr F.hs own own2 H H' := (base.trans fr).trans f2
      refine tSs_mono (D := ends F own2 H' (turn P (I (i + 1)))) ?n (fun _ _ z => z) (fun _ _ z => At.more tot z) ?c (h1 i y env' hx hI own2 σ2 H' k2 (p.step tot))
      all_goals
        rintro σ3 H3 ⟨env3, own3, k3, f3, q3⟩
        exact ⟨own3, fr.trans (f2.trans f3), env3, k3, q3⟩
  · rintro σ' H' ⟨own', fr, env', k', hI⟩
    rw [hlen] at hI
    exact ⟨env', own', k', (Fr.of s).trans fr, h2 env' hI⟩
/-- for name in range(lo, hi): what both forms share -/
theorem rng_core {is : List Nat} {f : Int → List Ent → List Ent} {g : TG} {own : Nat → Option Addr} {σ : L2.St} {H H1 : Hp} {lo : Int} {m : Nat} (hg : ∀ (x : Int) (Q : L2.St → Hp → Prop) (env : List Ent) (own : Nat → Option Addr) (σ : L2.St) (H : Hp) (v : V), F.Kn own env σ H → Rp.rep F.G (Hid (hd F.hs own) H) v x → (∀ own' σ', F.Kn own' (f x env) σ' H → Fr F.hs own own' H H → Wp is σ σ' → Kp is own own' → Q σ' H) → g v σ H Q)
    (s : Same H H1) (k : F.Kn own env σ H) (p : Port F own H P.ex) {I : Nat → List Ent → Prop} (h0 : I 0 env) (h1 : ∀ (i : Nat) env', i < m → I i env' → KSs F (f (lo + i) env') body (turn P (I (i + 1)))) (h2 : ∀ env', I m env' → P.nx env') :
    ∃ W : Nat → Nat → L2.St → Hp → Prop, (∃ m, W 0 m σ H1) ∧ ∀ i m' σ' H', W i m' σ' H' →
      ((Itr lo m).stop i H' ∧ (ends F own H P).nx σ' H') ∨ ((Itr lo m).go i H' ∧ ∃ N : L2.St → Hp → Prop, (∀ σ2 H2, N σ2 H2 → ∃ m2, m2 < m' ∧ W (i + 1) m2 σ2 H2) ∧ ∀ x H2, (Itr lo m).yld i H' x H2 → g x σ' H2 fun σ2 H3 => tSs F.X body { ends F own H P with nx := N, ct := N, bk := (ends F own H P).nx } σ2 H3) := by
  refine for_range (lo := lo) (n := m) (fun i σ' H' => ∃ own', Fr F.hs own own' H1 H' ∧ ∃ env', F.Kn own' env' σ' H' ∧ I i env') ⟨own, Fr.refl, env, k.mono s, h0⟩ ?_ ?_
  · rintro i σ' H' hi ⟨own', fr, env', k', hI⟩
    have base : Fr F.hs own own H H1 := Fr.of s
    refine hg (lo + i) _ env' own' σ' H' _ k' rfl fun own2 σ2 k2 f2 _ _ => ?_
    have tot : Fr F.hs own own2 H H' := (base.trans fr).trans f2
    refine tSs_mono (D := ends F own2 H' (turn P (I (i + 1)))) ?n (fun _ _ z => z) (fun _ _ z => At.more tot z) ?c (h1 i env' hi hI own2 σ2 H' k2 (p.step tot))
    all_goals
      rintro σ3 H3 ⟨env3, own3, k3, f3, q3⟩
      exact ⟨own3, fr.trans (f2.trans f3), env3, k3, q3⟩
  · rintro σ' H' ⟨own', fr, env', k', hI⟩
    exact ⟨env', own', k', (Fr.of s).trans fr, h2 env' hI⟩
theorem s_forR1 {f : Int → List Ent → List Ent} {g : TG} {is : List Nat} (tg : Tg F a Int g is f) (m : NoGl F.X.mg) (h : KE F env e P.ex fun hi : Int => hi < 2 ^ 40 ∧ -(2 ^ 40) < hi ∧ ∃ I : Nat → List Ent → Prop, I 0 env ∧ (∀ (i : Nat) env', (i : Int) < hi → I i env' → KSs F (f i env') body (turn P (I (i + 1)))) ∧ ∀ env', I hi.toNat env' → P.nx env')
    (hc : F.X.calm = true := by rfl) (hg : Gl F.X "range" := by rfl) (z : Ns F e [] := by rfl) (z1 : starEach [e] F.X.env = [(false, eval e F.X.env)] := by rfl) (hs : ∀ x, foldedSetIterable (.Call (.Name "range" p0) [e] [] p1) F.X.env x = pure x := by intro _; rfl) :
    KS F env (.For a (.Call (.Name "range" p0) [e] [] p1) body [] pos) P := fun own σ H k p => by
  refine tS_of (ps_for p.1 hc (pi_range1 hg (m _ (by simp)) (pa_cons peE pa_nil z) z1) tg.pg peSs hs) (tE_mono (fun v H1 ⟨hi, s, r, b1, b2, I, h0, h1, h2⟩ => ?_) (h own σ H k p))
  cases r
  refine ⟨hi, rfl, by omega, by omega, rng_core tg.sem s k p h0 (fun i env' hi' q => ?_) h2⟩
  have e0 : (0 : Int) + (i : Int) = (i : Int) := Int.zero_add _
  rw [e0]
  exact h1 i env' (by omega) q
theorem s_forR2 {f : Int → List Ent → List Ent} {g : TG} {is : List Nat} (tg : Tg F a Int g is f) (m : NoGl F.X.mg) (h : KE F env b P.ex fun lo : Int => KE F env e P.ex fun hi : Int => (hi < 2 ^ 40 ∧ -(2 ^ 40) < hi ∧ lo < 2 ^ 40 ∧ -(2 ^ 40) < lo) ∧ ∃ I : Nat → List Ent → Prop, I 0 env ∧ (∀ (i : Nat) env', lo + (i : Int) < hi → I i env' → KSs F (f (lo + i) env') body (turn P (I (i + 1)))) ∧ ∀ env', I (hi - lo).toNat env' → P.nx env')
    (hc : F.X.calm = true := by rfl) (hg : Gl F.X "range" := by rfl) (z : Ns F b [e] := by rfl) (z' : Ns F e [] := by rfl) (z1 : starEach [b, e] F.X.env = [(false, eval b F.X.env), (false, eval e F.X.env)] := by rfl) (z2 : starEach [e] F.X.env = [(false, eval e F.X.env)] := by rfl)
    (hs : ∀ x, foldedSetIterable (.Call (.Name "range" p0) [b, e] [] p1) F.X.env x = pure x := by intro _; rfl) :
    KS F env (.For a (.Call (.Name "range" p0) [b, e] [] p1) body [] pos) P := fun own σ H k p => by
  refine tS_of (ps_for p.1 hc (pi_range2 hg (m _ (by simp)) (pa_cons peE (pa_cons peE pa_nil z') z) z1 z2) tg.pg peSs hs) (two k p h fun u v lo hi H1 s r1 r2 ⟨⟨b1, b2, b3, b4⟩, I, h0, h1, h2⟩ => ?_)
  cases r1; cases r2
  exact ⟨lo, hi, rfl, ⟨by omega, by omega, by omega, by omega⟩, rng_core tg.sem s k p h0 (fun i env' hi' q => h1 i env' (by omega) q) h2⟩
/-- while c: body, by a number that falls -/
theorem s_while (I : Nat → List Ent → Prop) (m0 : Nat) (h0 : I m0 env) (h : ∀ m env', I m env' → KT F env' c P.ex fun b => if b = true then KSs F env' body (turn P fun env2 => ∃ m', m' < m ∧ I m' env2) else P.nx env') : KS F env (.While c body [] pos) P := fun own σ H k p => by
  refine tS_of (ps_while p.1 peT peSs) ⟨fun m σ' H' => ∃ own', Fr F.hs own own' H H' ∧ ∃ env', F.Kn own' env' σ' H' ∧ I m env', ⟨m0, own, Fr.refl, env, k, h0⟩, ?_⟩
  rintro m σ' H' ⟨own', fr, env', k', hI⟩
  refine tT_mono (fun b H2 ⟨s, q⟩ => ?_) (h m env' hI own' σ' H' k' (p.step fr))
  have f2 : Fr F.hs own own' H H2 := fr.trans (Fr.of s)
  cases b with
  | true =>
    rw [if_pos rfl]
    rw [if_pos rfl] at q
    refine ⟨At F own' H2 fun env2 => ∃ m', m' < m ∧ I m' env2, ?_, ?_⟩
    · rintro σ3 H3 ⟨env3, own3, k3, f3, m', hm, q3⟩
      exact ⟨m', hm, own3, f2.trans f3, env3, k3, q3⟩
    · exact tSs_mono (D := ends F own' H2 (turn P fun env2 => ∃ m', m' < m ∧ I m' env2)) (fun _ _ z => z) (fun _ _ z => z) (fun _ _ z => At.more f2 z) (fun _ _ z => z) (q own' σ' H2 (k'.mono s) (p.step f2))
  | false =>
    rw [if_neg Bool.false_ne_true]
    rw [if_neg Bool.false_ne_true] at q
    exact ⟨env', own', k'.mono s, f2, q⟩

/-! ### a def keeps its promise -/
def fx (P : Program) (w : World) (K : PySem.W.Frag) (mg : Str → Option Value) (base : Heap) (cls : Nat → Addr) (N : List Str) (qual : Str) (sc : Scope) (f : Addr) (cd : Value) (A : Around) (outer : List Env) (s : Shared) (H : Hp) (E : XK) (hs : Addr → Prop) : Fx :=
  ⟨cxOf (L2.CX P w) P w K mg base N qual sc f cd A outer s H E, cls, hs, H⟩
def env0 (ds : List DV) (n : Nat) : List Ent := ds.map .sh ++ List.replicate (n - ds.length) .no
theorem kn_start {G : Gm} {hs : Addr → Prop} {H : Hp} {vs : List V} {ds : List DV} {N : List Str} (hh : ∀ x, hs x → H x ≠ none) (r : RepAll G (Hid hs H) vs ds) : Kn G hs H (fun _ => none) (env0 ds N.length) (L2.start N vs) H where
  ex := Same.refl _
  hsB := hh
  dis := fun _ _ h => nomatch h
  len := by
    unfold L2.start env0
    rw [List.length_append, List.length_append, List.length_map, List.length_map, List.length_replicate, List.length_replicate, r.len]
  inj := fun _ _ _ h => nomatch h
  new := fun _ _ h => nomatch h
  out := fun _ _ h => nomatch h
  ent := fun i e h => by
    have eh : hd hs (fun _ => (none : Option Addr)) = hs := by
      funext a
      apply propext
      constructor
      · rintro (z | ⟨_, z⟩)
        · exact z
        · cases z
      · exact .inl
    unfold env0 at h
    by_cases hi : i < ds.length
    · rw [List.getElem?_append_left (by rw [List.length_map]; exact hi), List.getElem?_map, List.getElem?_eq_getElem hi] at h
      have e1 : Ent.sh ds[i] = e := Option.some.inj h
      subst e1
      obtain ⟨v, h1, h2⟩ := r.get (List.getElem?_eq_getElem hi)
      refine ⟨v, ?_, by rw [eh]; exact h2⟩
      unfold L2.start
      have hv : i < vs.length := (List.getElem?_eq_some_iff.mp h1).1
      rw [List.getElem?_append_left (by rw [List.length_map]; exact hv), List.getElem?_map, h1]
      rfl
    · rw [List.getElem?_append_right (by rw [List.length_map]; omega), List.getElem?_replicate] at h
      split at h
      · cases h; trivial
      · cases h
/-- the promise at a body's end -/
def bodyPo (r : Rz) : Po := { nx := fun _ => r = .ok (dv ()), rt := fun d => r = .ok d, ex := fun _ C => r = .err C }
section
variable {PP : Program} {w : World} {K : PySem.W.Frag} {mg : Str → Option Value} {base : Heap} {cls : Nat → Addr}
theorem fn_ok {name qual : Str} {st : Stmt} {f : Addr} {fd : FuncData} {N ps : List Str} {k : Nat} {S : Pm} (Fn : Fun K name qual st f fd) (sc : FnScope N ps (defScope st)) (len : ∀ ds r, S ds r → ds.length = ps.length)
    (hb : ∀ (cd : Value) (A : Around) (outer : List Env) (s : Shared) (H : Hp) (E : XK) (hs : Addr → Prop) (ds : List DV) (r : Rz), Room k (A.deeper (envOfC qual (defScope st) s.heap.objs.size f cd)) → S ds r →
      KSs (fx PP w K mg base cls N qual (defScope st) f cd A outer s H E hs) (env0 ds N.length) (defBody st) (bodyPo r)) : FnOk PP w K mg base (L2.CX PP w) (k + 1) f fd ps (spOf K cls S) := by
  refine Fn.okX sc (fun vs H Q E ⟨hs, ds, r, _, rv, hS, _⟩ => by rw [rv.len]; exact len ds r hS) (fun cd A outer s H vs Q E hr ⟨hs, ds, r, hh, rv, hS, q⟩ => ⟨_, peSs, ?_⟩)
  have kn := kn_start (N := N) hh rv
  have pt : Port (fx PP w K mg base cls N qual (defScope st) f cd A outer s H E hs) (fun _ => none) H (bodyPo r).ex := by
    refine ⟨passes_of rfl, _, takes_of (E := E) rfl rfl rfl rfl, fun env own' C dd σ H' k' fr e xd => ?_⟩
    have e : r = .err C := e
    subst e
    exact q dd H' k'.ex (xd.mono (hid_more fun _ z => .inl z))
  refine tSs_mono (D := ends (fx PP w K mg base cls N qual (defScope st) f cd A outer s H E hs) (fun _ => none) H (bodyPo r)) ?_ ?_ ?_ ?_ (hb cd A outer s H E hs ds r hr hS _ _ H kn pt)
  · rintro σ' H' ⟨env', own', k', fr, e⟩
    have e : r = .ok (dv ()) := e
    subst e
    exact q .non H' k'.ex rfl
  · rintro v H' ⟨d, sm, rd, e⟩
    have e : r = .ok d := e
    subst e
    exact q v H' sm rd
  · rintro σ' H' ⟨env', own', k', fr, e⟩
    exact e.elim
  · rintro σ' H' ⟨env', own', k', fr, e⟩
    exact e.elim
end
end
end Rk

set_option maxHeartbeats 4000000
namespace Rk
open PySem L2 PyProof.Rows
/-- an attribute stored -/
def putD (f : Str) (d : DV) : List (Str × DV) → List (Str × DV)
  | [] => [(f, d)]
  | (n, x) :: r => if n = f then (n, d) :: r else (n, x) :: putD f d r
theorem putD_le (f : Str) (d : DV) : ∀ fs : List (Str × DV), (putD f d fs).length ≤ fs.length + 1
  | [] => Nat.le_refl _
  | (n, x) :: r => by
    unfold putD
    split
    · exact Nat.le_succ _
    · exact Nat.succ_le_succ (putD_le f d r)
theorem RepF.put {G : Gm} {H : Hp} {f : Str} {v : V} {d : DV} (r : d.rep G H v) : ∀ {kvs : List (Str × V)} {fs : List (Str × DV)}, RepF G H kvs fs → RepF G H (putF f v kvs) (putD f d fs)
  | [], [], _ => ⟨rfl, r, trivial⟩
  | (m, w) :: kvs, (n, x) :: fs, h => by
    obtain ⟨rfl, h1, h2⟩ := h
    show RepF G H (if m = f then (m, v) :: kvs else (m, w) :: putF f v kvs) (if m = f then (m, d) :: fs else (m, x) :: putD f d fs)
    by_cases e : m = f
    · rw [if_pos e, if_pos e]; exact ⟨rfl, r, h2⟩
    · rw [if_neg e, if_neg e]; exact ⟨rfl, h1, RepF.put r h2⟩
theorem RepF.len {G : Gm} {H : Hp} : ∀ {kvs : List (Str × V)} {fs : List (Str × DV)}, RepF G H kvs fs → kvs.length = fs.length
  | [], [], _ => rfl
  | (_, _) :: _, (_, _) :: _, h => congrArg (· + 1) (RepF.len h.2.2)
section
variable {F : Fx} {env : List Ent} {a b c e it : Expr} {es : List Expr} {pos p0 p1 : Pos} {n x : Str} {P : Po} {st : Stmt} {sts ss body : List Stmt}
/-- self.f = e, self the instance that is being made -/
theorem s_setF {α : Type} [Rp α] {q : Addr} {num : Nat} {f : Str} {p2 p3 : Pos} {fs : List (Str × DV)} (i : Nat) (hN : F.X.N[i]? = some x) (he : env[i]? = some (.ow (oobj q num fs))) (hl : fs.length < 1000) (cl : Cls F.X.K (F.cls num)) (hn : NoAttr F.X.K (F.cls num) f)
    (h : KE F env e P.ex fun y : α => ∀ g, g = putD f (dv y) fs → P.nx (env.set i (.ow (oobj q num g)))) (hv : Vis F.X.env.scope x := by first | exact Or.inl rfl | exact Or.inr (Or.inl rfl) | exact Or.inr (Or.inr rfl)) (hdb : (x == ("__debug__" : Str)) = false := by decide) (hcd : (x == ("__classdict__" : Str)) = false := by decide)
    (hs : swapsWith e (some (.Attribute (.Name x p2) f p3)) pos.line F.X.env = pure false := by rfl) : KS F env (.Assign [.Attribute (.Name x p2) f p3] e pos) P := fun own σ H k p => by
  have hi : i < env.length := (List.getElem?_eq_some_iff.mp he).1
  obtain ⟨l, ho, h0, h1, h2, h3⟩ := (show EntOk F.G F.hs own σ H i (.ow (oobj q num fs)) from k.ent i _ he)
  obtain ⟨rfl, dx, kvs, e3, r3⟩ := h3
  subst e3
  refine tS_of (ps_fld (pe_var hN hv hdb hcd) peE hs) (tE_mono (fun v H' ⟨y, s, r, z⟩ => ?_) (h own σ H k p))
  refine ⟨.ref l, h1, l, F.cls num, dx, kvs, rfl, s _ _ h2, cl, hn, by rw [r3.len]; exact hl, ?_⟩
  exact ⟨_, _, (k.mono s).chg (i := i) (o := oobj l num (putD f (dv y) fs)) hi h0 ⟨rfl, dx, _, rfl, RepF.put (d := dv y) r (r3.mono (hid_same s))⟩, (Fr.of s).trans (Fr.chg h0), z _ rfl⟩
/-- xs[i] = e, xs a list that the def alone holds -/
theorem s_setIx {α : Type} [Rp α] {p2 p3 : Pos} (i : Nat) {xs : List α} (hN : F.X.N[i]? = some x) (he : env[i]? = some (.ow (olist xs))) (h : KE F env e P.ex fun y : α => KE F env b P.ex fun j : Int => (0 ≤ j ∧ j.toNat < xs.length) ∧ ∀ zs, zs = xs.set j.toNat y → P.nx (env.set i (.ow (olist zs))))
    (hv : Vis F.X.env.scope x := by first | exact Or.inl rfl | exact Or.inr (Or.inl rfl) | exact Or.inr (Or.inr rfl)) (hdb : (x == ("__debug__" : Str)) = false := by decide) (hcd : (x == ("__classdict__" : Str)) = false := by decide)
    (ha : ∀ v, assign (.Subscript (.Name x p2) b p3) F.X.env v = (do
      let recv ← holding [v] (eval (.Name x p2) F.X.env)
      let ix ← holding [v, recv] (eval b F.X.env)
      standAt p3
      holding [v, recv, ix] (setItem recv ix v)
      release [v, recv, ix] []) := by intro _; rfl)
    (hs : swapsWithSole [.Subscript (.Name x p2) b p3] e pos.line F.X.env = pure false := by rfl) (hw : swappedStores [.Subscript (.Name x p2) b p3] e F.X.env = pure none := by rfl)
    (h1 : (assignEach [.Subscript (.Name x p2) b p3] F.X.env).map (·.2) = [assign (.Subscript (.Name x p2) b p3) F.X.env] := by rfl) : KS F env (.Assign [.Subscript (.Name x p2) b p3] e pos) P := fun own σ H k p => by
  have hi : i < env.length := (List.getElem?_eq_some_iff.mp he).1
  obtain ⟨l, ho, h0, g1, h2, vs, e3, r3⟩ := (show EntOk F.G F.hs own σ H i (.ow (olist xs)) from k.ent i _ he)
  subst e3
  refine tS_of (ps_asg peE (pg_sub (pe_var hN hv hdb hcd) peE set_list ha) hs hw h1) (tE_mono (fun v H' ⟨y, s, r, z⟩ => ?_) (h own σ H k p))
  refine ⟨.ref l, g1, tE_mono (fun u H2 ⟨j, s2, rj, hj, z2⟩ => ?_) (z own σ H' (k.mono s) (p.mono s))⟩
  cases rj
  have st : Same H H2 := s.trans s2
  have hlen : vs.length = xs.length := by rw [r3.len, dvs_len]
  have hj0 := hj.1
  have hj1 := hj.2
  refine ⟨l, vs, j, j.toNat, rfl, rfl, st _ _ h2, ?_, ?_⟩
  · unfold ixN
    rw [if_pos hj0, if_pos (by omega)]
  · refine ⟨_, _, (k.mono st).chg (i := i) (o := olist (xs.set j.toNat y)) hi h0 ⟨_, rfl, ?_⟩, (Fr.of st).trans (Fr.chg h0), z2 _ rfl⟩
    unfold dvs
    rw [List.map_set]
    exact RepAll.set (d := dv y) (DV.mono (d := dv y) (hid_same s2) r) _ (r3.mono (hid_same st))

/-! ### instances made -/
inductive Ri : Type 1 where
  | ok (fs : List (Str × DV))
  | err (c : Nat)
def spInit (K : PySem.W.Frag) (cls : Nat → Addr) (num : Nat) (S : List DV → Ri → Prop) : Sp := fun vs H Q E => ∃ (hs : Addr → Prop) (p dx : Addr) (ws : List V) (ds : List DV) (r : Ri), vs = .ref p :: ws ∧ H p = some (.ins (cls num) dx []) ∧ (∀ x, hs x → H x ≠ none) ∧ ¬ hs p ∧
  RepAll ⟨K, cls⟩ (Hid (fun x => hs x ∨ x = p) H) ws ds ∧ S ds r ∧
  match r with
  | .ok fs => ∀ kvs dx' H', Same (Hid (fun x => x = p) H) H' → H' p = some (.ins (cls num) dx' kvs) → RepF ⟨K, cls⟩ (Hid (fun x => hs x ∨ x = p) H') kvs fs → Q .non H'
  | .err c => ∀ dd H', Same (Hid (fun x => x = p) H) H' → Xd c dd (Hid hs H') → E (.ref (cls c)) dd H'
section
variable {kk : Nat} {f : Addr} {fd : FuncData} {ps : List Str} {S : List DV → Ri → Prop}
theorem run_makeS {X : Cx} {C : Addr} {sp : Sp} {CT : CXT} {E : L2.St → XK} {pins : List (Addr × Obj)} {σ : L2.St} {H : Hp} {s : Shared} {Q : VK} {us : List Value} {vs : List V} (M : Mk X.K C f) (G : FnOk X.prog X.w X.K X.mg X.base CT kk f fd ps sp) (hr : Room (kk + 1) X.A) (hb : Binds X.K fd ps [])
    (hx : PassesAt CT X σ (E σ)) (I : Inv X pins σ H s) (r : Vals vs us)
    (h : ∀ y dy, H y = none → H dy = none → dy ≠ y → sp (.ref y :: vs) (upd (upd H dy (.own y)) y (.ins C dy [])) (fun v H2 => v = .non ∧ Q (.ref y) H2) (E σ)) :
    wpAny (model X.prog X.w) X.A (call (.ref C) us) (EP X pins σ Q) X.xe s := by
  have hq := h (s.heap.objs.size + 1) s.heap.objs.size (I.hok.fresh (Nat.le_succ _)) (I.hok.fresh (Nat.le_refl _)) (Nat.ne_of_lt (Nat.lt_succ_self _))
  have J := Inv.made (C := C) I
  have rr : Vals (V.ref (s.heap.objs.size + 1) :: vs) (Value.ref (s.heap.objs.size + 1) :: us) := .cons rfl r
  have hlen : (Value.ref (s.heap.objs.size + 1) :: us).length = ps.length := by
    have e1 := rr.length
    rw [G.len _ _ _ _ hq] at e1
    exact e1.symm
  have bb := hb _ (Value.ref (s.heap.objs.size + 1) :: us) J.kIn (by rw [List.append_nil]; exact hlen)
  rw [List.append_nil] at bb
  refine wpAny_call (make_map (f := f) I.kIn M.makes M.init (beq_iff_eq.mp M.fn) (codeAny_mono (G.run _ X.stack _ _ ⟨Value.ref (s.heap.objs.size + 1) :: us, []⟩ (Value.ref (s.heap.objs.size + 1) :: us) _ _ (E σ) (hr.make C us [])
    (J.env0.make C us []) bb rr hq) fun res s' hres => ?_))
  cases res with
  | error er => exact hx pins _ _ er s' J hres
  | ok fl =>
    cases fl with
    | ret u =>
      obtain ⟨v, H', J3, rv, ev, q3⟩ := J.after hres
      subst ev
      exact ⟨rv, ⟨V.ref (s.heap.objs.size + 1), H', J3, rfl, q3⟩⟩
    | next => exact hres.elim
    | brk => exact hres.elim
    | cont => exact hres.elim
def GotI {α : Type} (fs : α → List (Str × DV)) (env : List Ent) (ex : XP) (Q : α → Prop) : Ri → Prop
  | .ok g => ∃ y : α, g = fs y ∧ Q y
  | .err c => ex env c
theorem k_make {α : Type} {num : Nat} {fs : α → List (Str × DV)} {ex : XP} {Q : α → Prop} (M : Mk F.X.K (F.cls num) f) (G : FnOk F.X.prog F.X.w F.X.K F.X.mg F.X.base (L2.CX F.X.prog F.X.w) kk f fd ps (spInit F.X.K F.cls num S)) (hr : Room (kk + 1) F.X.A) (hm : F.X.mg n = some (.ref (F.cls num))) (hb : Binds F.X.K fd ps [])
    (h : KA F env (e :: es) ex fun ds => ∃ r, S ds r ∧ GotI fs env ex Q r) (hg : Gl F.X n := by rfl) (hdb : (n == ("__debug__" : Str)) = false := by decide)
    (hz : starEach (e :: es) F.X.env = (false, eval e F.X.env) :: starEach es F.X.env := by rfl) (hpl : (backTo pos (starEach es F.X.env)).any (·.1) = false := by rfl) : @KE F env (.Call (.Name n p0) (e :: es) [] pos) ex α (obRp num fs) Q := fun own σ H k p pins s I => by
  obtain ⟨pa, W, tk, hw⟩ := id p
  refine wpAny_Call_Name_kw (ld_glob I hg hm ?_ hdb)
  refine PySem.W.callWith_K (h₀ := F.X.base) I.ok.mod.kin M.kp (thn (h own σ H k p pos pins s I) fun vals s1 ⟨vs, H1, J, rv, ds, sm, rr, r, hS, q⟩ => ⟨J.kIn, ?_⟩) hz hpl
  refine run_makeS (E := WE W) M G hr hb (passAt tk σ) J rv fun y dy ny ndy ne => ?_
  have kn := k.mono sm
  have fy : ¬ hd F.hs own y := kn.fresh (Same.refl _) ny
  have s1' : Same H1 (upd (upd H1 dy (.own y)) y (.ins (F.cls num) dy [])) := fun b o eb => by
    rw [upd_ne (ne_of_none eb ny), upd_ne (ne_of_none eb ndy)]; exact eb
  have hidy : Same H1 (Hid (fun x => x = y) (upd (upd H1 dy (.own y)) y (.ins (F.cls num) dy []))) := fun b o eb => by
    have hb' : b ≠ y := ne_of_none eb ny
    rw [hid_at (hs := fun x => x = y) hb']; exact s1' b o eb
  refine ⟨hd F.hs own, y, dy, vs, ds, r, rfl, upd_same, fun x hx => stays s1' (Kn.hidden kn x hx), fy, rr.mono fun b o eb => ?_, hS, ?_⟩
  · have h1 := hid_of eb
    have hb' : b ≠ y := ne_of_none h1 ny
    have nh : ¬ hd F.hs own b := fun z => by unfold Hid at eb; rw [if_pos z] at eb; cases eb
    rw [hid_at fun z => z.elim nh hb']
    exact s1' b o h1
  · cases r with
    | ok g =>
      obtain ⟨o, eo, q⟩ := q
      subst eo
      intro kvs dx' H' s' hy rf
      refine ⟨rfl, o, sm.trans (hidy.trans s'), ⟨y, dx', kvs, rfl, ?_, rf.mono (hid_more fun x z => .inl z)⟩, q⟩
      rw [hid_at fy]; exact hy
    | err cc => exact fun dd H' s' x => hw env own cc dd σ H' (kn.mono (hidy.trans s')) (Fr.of (sm.trans (hidy.trans s'))) q x
end
section
variable {PP : Program} {w : World} {K : PySem.W.Frag} {mg : Str → Option Value} {base : Heap} {cls : Nat → Addr}
def envI (p : Addr) (num : Nat) (ds : List DV) (n : Nat) : List Ent := .ow (oobj p num []) :: env0 ds n
def initPo (p : Addr) (num : Nat) (r : Ri) : Po := { nx := fun env => ∃ fs, env[0]? = some (.ow (oobj p num fs)) ∧ r = .ok fs, rt := fun _ => False, ex := fun _ C => r = .err C }
/-- an __init__ keeps its promise; N: self, then the other names -/
theorem init_ok {qual : Str} {st : Stmt} {f : Addr} {fd : FuncData} {s0 : Str} {N ps : List Str} {k num : Nat} {S : List DV → Ri → Prop} (Fn : Fun K "__init__" qual st f fd) (sc : FnScope (s0 :: N) (s0 :: ps) (defScope st)) (len : ∀ ds r, S ds r → ds.length = ps.length)
    (hb : ∀ (cd : Value) (A : Around) (outer : List Env) (s : Shared) (H B : Hp) (E : XK) (hs : Addr → Prop) (p : Addr) (ds : List DV) (r : Ri), Room k (A.deeper (envOfC qual (defScope st) s.heap.objs.size f cd)) → S ds r →
      KSs ⟨cxOf (L2.CX PP w) PP w K mg base (s0 :: N) qual (defScope st) f cd A outer s H E, cls, hs, B⟩ (envI p num ds N.length) (defBody st) (initPo p num r)) : FnOk PP w K mg base (L2.CX PP w) (k + 1) f fd (s0 :: ps) (spInit K cls num S) := by
  refine Fn.okX sc (fun vs H Q E ⟨hs, p, dx, ws, ds, r, ev, _, _, _, rv, hS, _⟩ => by rw [ev, List.length_cons, rv.len, len ds r hS, List.length_cons]) (fun cd A outer s H vs Q E hr ⟨hs, p, dx, ws, ds, r, ev, hp, hh, np, rv, hS, q⟩ => ⟨_, peSs, ?_⟩)
  subst ev
  have hB : Same (Hid (fun x => x = p) H) H := hid_le
  have kn : Kn ⟨K, cls⟩ hs (Hid (fun x => x = p) H) (fun i => if i = 0 then some p else none) (envI p num ds N.length) (L2.start (s0 :: N) (.ref p :: ws)) H := by
    have eh : hd hs (fun i => if i = 0 then some p else none) = fun x => hs x ∨ x = p := by
      funext x
      apply propext
      constructor
      · rintro (z | ⟨i, z⟩)
        · exact .inl z
        · dsimp only at z
          split at z
          · cases z; exact .inr rfl
          · cases z
      · rintro (z | z)
        · exact .inl z
        · exact .inr ⟨0, by show some p = some x; rw [z]⟩
    exact {
      ex := hB
      hsB := hh
      dis := fun i x h z => by
        split at h
        · cases h; exact np z
        · cases h
      len := by
        unfold L2.start envI env0
        simp only [List.length_append, List.length_map, List.length_cons, List.length_replicate, rv.len]
        omega
      inj := fun i j x h1 h2 => by
        split at h1
        · split at h2
          · omega
          · cases h2
        · cases h1
      new := fun i x h => by
        split at h
        · cases h
          refine ⟨?_, by rw [hp]; simp⟩
          unfold Hid; rw [if_pos rfl]
        · cases h
      out := fun i x h => by
        split at h
        · rename_i e0; subst e0; exact ⟨oobj p num [], rfl⟩
        · cases h
      ent := fun i e h => by
        cases i with
        | zero =>
          have e1 : Ent.ow (oobj p num []) = e := Option.some.inj h
          subst e1
          exact ⟨p, _, rfl, rfl, hp, rfl, dx, [], rfl, trivial⟩
        | succ i =>
          have h' : (env0 ds N.length)[i]? = some e := h
          unfold env0 at h'
          by_cases hi : i < ds.length
          · rw [List.getElem?_append_left (by rw [List.length_map]; exact hi), List.getElem?_map, List.getElem?_eq_getElem hi] at h'
            have e1 : Ent.sh ds[i] = e := Option.some.inj h'
            subst e1
            obtain ⟨v, h1, h2⟩ := rv.get (List.getElem?_eq_getElem hi)
            refine ⟨v, ?_, by rw [eh]; exact h2⟩
            have hv : i < ws.length := (List.getElem?_eq_some_iff.mp h1).1
            unfold L2.start
            show ((V.ref p :: ws).map some ++ _)[i + 1]? = _
            rw [List.getElem?_append_left (by rw [List.length_map, List.length_cons]; omega), List.getElem?_map, List.getElem?_cons_succ, h1]
            rfl
          · rw [List.getElem?_append_right (by rw [List.length_map]; omega), List.getElem?_replicate] at h'
            split at h'
            · cases h'; trivial
            · cases h' }
  have pt : Port ⟨cxOf (L2.CX PP w) PP w K mg base (s0 :: N) qual (defScope st) f cd A outer s H E, cls, hs, Hid (fun x => x = p) H⟩ (fun i => if i = 0 then some p else none) H (initPo p num r).ex := by
    refine ⟨passes_of rfl, _, takes_of (E := E) rfl rfl rfl rfl, fun env own' C dd σ H' k' fr e xd => ?_⟩
    have e : r = .err C := e
    subst e
    exact q dd H' k'.ex (xd.mono (hid_more fun _ z => .inl z))
  refine tSs_mono (D := ends ⟨cxOf (L2.CX PP w) PP w K mg base (s0 :: N) qual (defScope st) f cd A outer s H E, cls, hs, Hid (fun x => x = p) H⟩ (fun i => if i = 0 then some p else none) H (initPo p num r)) ?_ ?_ ?_ ?_ (hb cd A outer s H (Hid (fun x => x = p) H) E hs p ds r hr hS _ _ H kn pt)
  · rintro σ' H' ⟨env', own', k', fr, fs, he, e⟩
    subst e
    obtain ⟨p', ho, h0, h1, h2, rfl, dx', kvs, e3, r3⟩ := (show EntOk _ hs own' σ' H' 0 (.ow (oobj p num fs)) from k'.ent 0 _ he)
    subst e3
    refine q kvs dx' H' k'.ex h2 (r3.mono (hid_more fun x z => ?_))
    rcases z with z | z
    · exact .inl z
    · exact .inr ⟨0, by rw [z]; exact h0⟩
  · rintro v H' ⟨d, sm, rd, e⟩
    exact e.elim
  · rintro σ' H' ⟨env', own', k', fr, e⟩
    exact e.elim
  · rintro σ' H' ⟨env', own', k', fr, e⟩
    exact e.elim
end
end
end Rk

set_option maxHeartbeats 4000000
namespace Rk
open PySem L2 PyProof.Rows
section
variable {F : Fx} {env : List Ent} {ex : XP} {a b c e it : Expr} {es : List Expr} {pos p0 p1 : Pos} {n x : Str} {P : Po} {st : Stmt} {sts ss body : List Stmt}

/-! ### one datum as another -/
/-- what bears x bears y too -/
def Cv {α β : Type} [Rp α] [Rp β] (x : α) (y : β) : Prop := ∀ G H v, Rp.rep G H v x → Rp.rep G H v y
theorem k_cv {α β : Type} [Rp α] [Rp β] {Q : β → Prop} (h : KE F env e ex fun x : α => ∃ y : β, Cv x y ∧ Q y) : KE F env e ex Q := fun own σ H k p =>
  tE_mono (fun v H' ⟨x, s, r, y, c, q⟩ => ⟨y, s, c _ _ _ r, q⟩) (h own σ H k p)
theorem k_toV {α : Type} [Sc α] {Q : V → Prop} (h : @KE F env e ex α (scRp α) fun x => Q (Sc.v x)) : KE F env e ex Q := fun own σ H k p =>
  tE_mono (fun v H' ⟨x, s, r, q⟩ => ⟨Sc.v x, s, r, q⟩) (h own σ H k p)
/-- a tuple of scalars of any kinds -/
structure Tv where
  vs : List V
  deriving DecidableEq
instance : Rp Tv := tpRp fun t => dvs t.vs
theorem reps_vs {G : Gm} {H : Hp} : ∀ {ws vs : List V}, RepAll G H ws (dvs vs) → ws = vs
  | [], [], _ => rfl
  | w :: ws, v :: vs, h => by
    have e : w = v := h.1
    rw [e, reps_vs (ws := ws) (vs := vs) h.2]
theorem reps_to {α β : Type} [Rp α] [Rp β] {f : α → β} (hf : ∀ x, Cv x (f x)) {G : Gm} {H : Hp} : ∀ {vs : List V} {xs : List α}, RepAll G H vs (dvs xs) → RepAll G H vs (dvs (xs.map f))
  | [], [], _ => trivial
  | _ :: _, x :: _, h => ⟨hf x _ _ _ h.1, reps_to hf h.2⟩
theorem reps_from {α β : Type} [Rp α] [Rp β] {f : β → α} (hf : ∀ y, Cv (f y) y) {G : Gm} {H : Hp} : ∀ {vs : List V} {ys : List β}, RepAll G H vs (dvs (ys.map f)) → RepAll G H vs (dvs ys)
  | [], [], _ => trivial
  | _ :: _, y :: _, h => ⟨hf y _ _ _ h.1, reps_from hf h.2⟩
theorem cv_list {α β : Type} [Rp α] [Rp β] {f : α → β} (hf : ∀ x, Cv x (f x)) (xs : List α) : Cv xs (xs.map f) := fun G H v ⟨p, vs, e1, e2, e3⟩ => ⟨p, vs, e1, e2, reps_to hf e3⟩
theorem cv_list' {α β : Type} [Rp α] [Rp β] {f : β → α} (hf : ∀ y, Cv (f y) y) (ys : List β) : Cv (ys.map f) ys := fun G H v ⟨p, vs, e1, e2, e3⟩ => ⟨p, vs, e1, e2, reps_from hf e3⟩

/-! ### == of data -/
class Dt (α : Type) [Rp α] where
  d : α → PyData
  dp : Nat
  rp : ∀ {G : Gm} {H : Hp} {v : V} {x : α}, Rp.rep G H v x → Dp G.K H v (d x)
  lay : ∀ x, (d x).canLay0 = true
  deep : ∀ x, (d x).depth ≤ dp
  inj : ∀ x y, PyData.eqv (d x) (d y) = true ↔ x = y
theorem Dt.eq {α : Type} [Rp α] [Dt α] [DecidableEq α] (x y : α) : PyData.eqv (Dt.d x) (Dt.d y) = decide (x = y) := by
  by_cases h : x = y
  · rw [decide_eq_true h, (Dt.inj x y).mpr h]
  · rw [decide_eq_false h]
    cases z : PyData.eqv (Dt.d x) (Dt.d y) with
    | false => rfl
    | true => exact absurd ((Dt.inj x y).mp z) h
instance : Dt Int := ⟨fun x => .int x, 0, fun {G H v x} r => by cases r; exact .int x, fun _ => rfl, fun _ => Nat.le_refl _, fun x y => by show (x == y) = true ↔ _; simp⟩
instance : Dt Bool := ⟨fun x => .bool x, 0, fun {G H v x} r => by cases r; exact .bl x, fun _ => rfl, fun _ => Nat.le_refl _, fun x y => by show (x == y) = true ↔ _; simp⟩
def oiD : Option Int → PyData
  | none => .none
  | some i => .int i
instance : Dt (Option Int) := ⟨oiD, 0, fun {G H v x} r => by
    have e : v = oiV x := r
    subst e
    cases x with
    | none => exact .non
    | some i => exact .int i, fun x => by cases x <;> rfl, fun x => by cases x <;> exact Nat.le_refl _, fun x y => by
    cases x with
    | none => cases y with
      | none => exact ⟨fun _ => rfl, fun _ => rfl⟩
      | some j => exact ⟨fun h => (by cases h), fun h => (by cases h)⟩
    | some i => cases y with
      | none => exact ⟨fun h => (by cases h), fun h => (by cases h)⟩
      | some j => show (i == j) = true ↔ _; simp⟩
def obD : Option Bool → PyData
  | none => .none
  | some i => .bool i
instance : Dt (Option Bool) := ⟨obD, 0, fun {G H v x} r => by
    have e : v = obV x := r
    subst e
    cases x with
    | none => exact .non
    | some i => exact .bl i, fun x => by cases x <;> rfl, fun x => by cases x <;> exact Nat.le_refl _, fun x y => by
    cases x with
    | none => cases y with
      | none => exact ⟨fun _ => rfl, fun _ => rfl⟩
      | some j => exact ⟨fun h => (by cases h), fun h => (by cases h)⟩
    | some i => cases y with
      | none => exact ⟨fun h => (by cases h), fun h => (by cases h)⟩
      | some j => show (i == j) = true ↔ _; simp⟩
theorem dp_list {α : Type} [Rp α] [Dt α] {G : Gm} {H : Hp} : ∀ {vs : List V} {xs : List α}, RepAll G H vs (dvs xs) → DpAll G.K H vs (xs.map Dt.d)
  | [], [], _ => .nil
  | _ :: _, _ :: _, h => .cons (Dt.rp h.1) (dp_list h.2)
theorem eqv_list {α : Type} [Rp α] [Dt α] : ∀ xs ys : List α, PyData.eqvAll (xs.map Dt.d) (ys.map Dt.d) = true ↔ xs = ys
  | [], [] => ⟨fun _ => rfl, fun _ => rfl⟩
  | [], _ :: _ => ⟨fun h => (by cases h), fun h => (by cases h)⟩
  | _ :: _, [] => ⟨fun h => (by cases h), fun h => (by cases h)⟩
  | x :: xs, y :: ys => by
    show (PyData.eqv (Dt.d x) (Dt.d y) && PyData.eqvAll (xs.map Dt.d) (ys.map Dt.d)) = true ↔ _
    rw [Bool.and_eq_true, Dt.inj, eqv_list xs ys, List.cons.injEq]
theorem lay_list {α : Type} [Rp α] [Dt α] : ∀ xs : List α, PyData.canLayAll0 (xs.map Dt.d) = true
  | [] => rfl
  | x :: xs => by
    show ((Dt.d x).canLay0 && PyData.canLayAll0 (xs.map Dt.d)) = true
    rw [Dt.lay x, lay_list xs] <;> rfl
theorem deep_list {α : Type} [Rp α] [Dt α] : ∀ xs : List α, PyData.depthAll (xs.map Dt.d) ≤ Dt.dp α
  | [] => Nat.zero_le _
  | x :: xs => Nat.max_le.mpr ⟨Dt.deep x, deep_list xs⟩
instance {α : Type} [Rp α] [Dt α] : Dt (List α) := ⟨fun xs => .list (xs.map Dt.d), Dt.dp α + 1, fun {G H v xs} ⟨p, vs, e1, e2, e3⟩ => by subst e1; exact .lst (SqL.of e2) (dp_list e3), fun xs => lay_list xs, fun xs => Nat.succ_le_succ (deep_list xs), fun xs ys => eqv_list xs ys⟩
instance {α β : Type} [Rp α] [Dt α] [Rp β] [Dt β] : Dt (α × β) := ⟨fun p => .tuple [Dt.d p.1, Dt.d p.2], max (Dt.dp α) (Dt.dp β) + 1, fun {G H v x} ⟨p, vs, e1, e2, e3⟩ => by
    subst e1
    match vs, e3 with
    | [u, w], e3 => exact .tup (SqT.of e2) (.cons (Dt.rp e3.1) (.cons (Dt.rp e3.2.1) .nil)), fun x => by
    show ((Dt.d x.1).canLay0 && ((Dt.d x.2).canLay0 && true)) = true
    rw [Dt.lay, Dt.lay] <;> rfl, fun x => Nat.succ_le_succ (Nat.max_le.mpr ⟨Nat.le_trans (Dt.deep _) (Nat.le_max_left _ _), Nat.max_le.mpr ⟨Nat.le_trans (Dt.deep _) (Nat.le_max_right _ _), Nat.zero_le _⟩⟩), fun x y => by
    show (PyData.eqv (Dt.d x.1) (Dt.d y.1) && (PyData.eqv (Dt.d x.2) (Dt.d y.2) && true)) = true ↔ _
    rw [Bool.and_true, Bool.and_eq_true, Dt.inj, Dt.inj, Prod.ext_iff]⟩
theorem shaped_dt {α : Type} [Rp α] [Dt α] (h : Dt.dp α ≤ 60) (x : α) : SeqAt.shaped (Dt.d x) = true := by
  unfold SeqAt.shaped
  rw [Dt.lay, decide_eq_true (Nat.le_trans (Dt.deep x) (by omega))]
  rfl
theorem k_eqD {α : Type} [Rp α] [Dt α] [DecidableEq α] {Q : Bool → Prop} (hu : F.X.A.units + 64 < cLine) (h : KE F env a ex fun x : α => KE F env b ex fun y : α => Q (decide (x = y))) (hz : Dt.dp α ≤ 60 := by decide) : KE F env (.Compare a [.Eq] [b] pos) ex Q :=
  k_cmp (op_eqD hu) h (fun _ _ _ _ v u x y s _ r1 r2 q => ⟨_, _, Dt.rp (Rp.mono hid_le r1), Dt.rp (Rp.mono hid_le r2), shaped_dt hz x, shaped_dt hz y, _, s, by rw [Dt.eq]; exact rfl, q⟩) (nomark _)
theorem k_neD {α : Type} [Rp α] [Dt α] [DecidableEq α] {Q : Bool → Prop} (hu : F.X.A.units + 64 < cLine) (h : KE F env a ex fun x : α => KE F env b ex fun y : α => Q (!decide (x = y))) (hz : Dt.dp α ≤ 60 := by decide) : KE F env (.Compare a [.NotEq] [b] pos) ex Q :=
  k_cmp (op_neD hu) h (fun _ _ _ _ v u x y s _ r1 r2 q => ⟨_, _, Dt.rp (Rp.mono hid_le r1), Dt.rp (Rp.mono hid_le r2), shaped_dt hz x, shaped_dt hz y, _, s, by rw [Dt.eq]; exact rfl, q⟩) (nomark _)
theorem t_eqD {α : Type} [Rp α] [Dt α] [DecidableEq α] {Q : Bool → Prop} (hu : F.X.A.units + 64 < cLine) (h : KE F env a ex fun x : α => KE F env b ex fun y : α => Q (decide (x = y))) (hz : Dt.dp α ≤ 60 := by decide) : KT F env (.Compare a [.Eq] [b] pos) ex Q :=
  t_cmp (op_eqD hu) h (fun _ _ _ _ v u x y s _ r1 r2 q => ⟨_, _, Dt.rp (Rp.mono hid_le r1), Dt.rp (Rp.mono hid_le r2), shaped_dt hz x, shaped_dt hz y, _, by rw [Dt.eq], s, q⟩) (nomark _)
theorem t_neD {α : Type} [Rp α] [Dt α] [DecidableEq α] {Q : Bool → Prop} (hu : F.X.A.units + 64 < cLine) (h : KE F env a ex fun x : α => KE F env b ex fun y : α => Q (!decide (x = y))) (hz : Dt.dp α ≤ 60 := by decide) : KT F env (.Compare a [.NotEq] [b] pos) ex Q :=
  t_cmp (op_neD hu) h (fun _ _ _ _ v u x y s _ r1 r2 q => ⟨_, _, Dt.rp (Rp.mono hid_le r1), Dt.rp (Rp.mono hid_le r2), shaped_dt hz x, shaped_dt hz y, _, by rw [Dt.eq], s, q⟩) (nomark _)

/-! ### in, not in over a list of ints -/
theorem in_ints (y : Int) : ∀ xs : List Int, inV (V.int y) (xs.map V.int) = decide (y ∈ xs)
  | [] => rfl
  | x :: xs => by
    show (eqV (V.int x) (V.int y) || inV (V.int y) (xs.map V.int)) = _
    rw [in_ints y xs]
    have e : eqV (V.int x) (V.int y) = decide (y = x) := by
      show (x == y) = _
      by_cases h : x = y
      · subst h; simp
      · rw [decide_eq_false (Ne.symm h)]; simpa using h
    rw [e, ← Bool.decide_or]
    congr 1
    rw [List.mem_cons]
theorem flat_ints : ∀ xs : List Int, (xs.map V.int).all flatV = true
  | [] => rfl
  | x :: xs => flat_ints xs
/-- e not in rows, rows a list of ints that the def alone holds -/
theorem t_notInO {Q : Bool → Prop} {p2 : Pos} (i : Nat) {xs : List Int} (hN : F.X.N[i]? = some x) (he : env[i]? = some (.ow (olist xs))) (h : KE F env a ex fun y : Int => Q (!decide (y ∈ xs)))
    (hv : Vis F.X.env.scope x := by first | exact Or.inl rfl | exact Or.inr (Or.inl rfl) | exact Or.inr (Or.inr rfl)) (hdb : (x == ("__debug__" : Str)) = false := by decide) (hcd : (x == ("__classdict__" : Str)) = false := by decide) (hm : behindInMarks .NotIn (.Name x p2) = false := by with_unfolding_all rfl) :
    KT F env (.Compare a [.NotIn] [.Name x p2] pos) ex Q := fun own σ H k p => by
  obtain ⟨l, ho, h0, h1, h2, vs, e3, r3⟩ := (show EntOk F.G F.hs own σ H i (.ow (olist xs)) from k.ent i _ he)
  subst e3
  have e4 := reps_ints r3
  subst e4
  refine tT_of (pt_cmpR op_notIn_seq peE (pe_var hN hv hdb hcd) hm) (tE_mono (fun v H' ⟨y, s, r, q⟩ => ?_) (h own σ H k p))
  cases r
  exact ⟨_, h1, l, _, rfl, .inl (SqL.of (s _ _ h2)), rfl, flat_ints xs, _, by show V.bl (!inV (V.int y) (xs.map V.int)) = _; rw [in_ints], s, q⟩

/-! ### isinstance of a value of a known kind -/
def tyS : V → Option String
  | .non => some "NoneType"
  | .bl _ => some "bool"
  | .int _ => some "int"
  | .str _ => some "str"
  | _ => none
theorem tyS_of {K : PySem.W.Frag} {H : Hp} {v : V} {t : String} (h : tyS v = some t) : TyX K H v (.type t) := by
  cases v <;> (try cases h)
  · exact .base .non
  · exact .base (.bl _)
  · exact .base (.int _)
  · exact .base (.str _)
theorem k_isV {Q : Bool → Prop} {T : String} {t : Str} (m : NoGl F.X.mg) (ht : F.X.mg t = none) (hv : bootBuiltins t = some (.type T)) (h : KE F env a ex fun y : V => ∃ k r, tyS y = some k ∧ kitB k T = some r ∧ Q r) (hg : Gl F.X "isinstance" := by rfl) (hgt : Gl F.X t := by rfl)
    (z : Ns F a [.Name t p1] := by rfl) (z2 : Ns F (.Name t p1) [] := by rfl) (hpl : (backTo pos (starEach [.Name t p1] F.X.env)).any (·.1) = false := by rfl) (htn : t ≠ "__name__" := by decide) (htd : (t == ("__debug__" : Str)) = false := by decide) :
    KE F env (.Call (.Name "isinstance" p0) [a, .Name t p1] [] pos) ex Q := fun own σ H k p =>
  tE_of (pe_callB call_isi hg (m _ (by simp)) (by decide +kernel) (pa_cons peE (pa_cons (pe_bltn (v := .ty T) hgt ht hv rfl htn htd) pa_nil z2) z) (he := z) (hpl := hpl)) (tE_mono (fun v H' ⟨y, s, r, kt, rr, e1, e2, q⟩ => by
    have r : v = y := r
    subst r
    exact ⟨v, .ty T, _, _, rr, rfl, .ty T, tyS_of e1, kit_ty e2, rr, s, rfl, q⟩) (h own σ H k p))
theorem k_isTup {α : Type} {ds : α → List DV} {Q : Bool → Prop} (m : NoGl F.X.mg) (h : @KE F env a ex α (tpRp ds) fun _ => Q true) (hg : Gl F.X "isinstance" := by rfl) (hgt : Gl F.X "tuple" := by rfl)
    (z : Ns F a [.Name "tuple" p1] := by rfl) (z2 : Ns F (.Name "tuple" p1) [] := by rfl) (hpl : (backTo pos (starEach [.Name "tuple" p1] F.X.env)).any (·.1) = false := by rfl) :
    KE F env (.Call (.Name "isinstance" p0) [a, .Name "tuple" p1] [] pos) ex Q := fun own σ H k p =>
  tE_of (pe_callB call_isi hg (m _ (by simp)) (by decide +kernel) (pa_cons peE (pa_cons (pe_bltn (v := .ty "tuple") hgt (m _ (by simp)) (by decide +kernel) rfl) pa_nil z2) z) (he := z) (hpl := hpl)) (tE_mono (fun v H' ⟨y, s, ⟨l, vs, e1, e2, e3⟩, q⟩ => by
    subst e1
    exact ⟨.ref l, .ty "tuple", _, _, true, rfl, .ty _, .base (.tup (hid_of e2)), kit_ty (by decide +kernel), true, s, rfl, q⟩) (h own σ H k p))
theorem k_isLst {α : Type} [Rp α] {Q : Bool → Prop} (m : NoGl F.X.mg) (h : KE F env a ex fun _ : List α => Q true) (hg : Gl F.X "isinstance" := by rfl) (hgt : Gl F.X "list" := by rfl)
    (z : Ns F a [.Name "list" p1] := by rfl) (z2 : Ns F (.Name "list" p1) [] := by rfl) (hpl : (backTo pos (starEach [.Name "list" p1] F.X.env)).any (·.1) = false := by rfl) :
    KE F env (.Call (.Name "isinstance" p0) [a, .Name "list" p1] [] pos) ex Q := fun own σ H k p =>
  tE_of (pe_callB call_isi hg (m _ (by simp)) (by decide +kernel) (pa_cons peE (pa_cons (pe_bltn (v := .ty "list") hgt (m _ (by simp)) (by decide +kernel) rfl) pa_nil z2) z) (he := z) (hpl := hpl)) (tE_mono (fun v H' ⟨y, s, ⟨l, vs, e1, e2, e3⟩, q⟩ => by
    subst e1
    exact ⟨.ref l, .ty "list", _, _, true, rfl, .ty _, .base (.lst (hid_of e2)), kit_ty (by decide +kernel), true, s, rfl, q⟩) (h own σ H k p))

/-! ### sorted, list(range(..)) -/
theorem k_sorted {Q : List Int → Prop} (m : NoGl F.X.mg) (h : KE F env e ex fun xs : List Int => ∀ ys : List Int, ys.Perm xs → ys.Pairwise (· ≤ ·) → Q ys) (z : Ns F e [] := by rfl) (hg : Gl F.X "sorted" := by rfl) : KE F env (.Call (.Name "sorted" p0) [e] [] pos) ex Q :=
  cb cr_sortedI (m _ (by simp)) (by decide +kernel) (a_one h z) (fun own σ H0 H vs ds s k r ⟨xs, ed, q⟩ => by
    subst ed
    obtain ⟨v, rfl, l, ws, e1, e2, e3⟩ := rep1 r
    have e4 := reps_ints e3
    refine ⟨l, xs, by rw [e1], SqL.of (by rw [← e4]; exact hid_of e2), fun ys t hp hs ht => ⟨ys, s.trans (same_new ht), ⟨t, _, rfl, hid_new k (Same.refl _) ht, rep_ints ys⟩, q ys hp hs⟩⟩) hg (hz := z)
/-- the ints from lo to below hi -/
def span (lo hi : Int) : List Int := (List.range (hi - lo).toNat).map fun i : Nat => lo + (i : Int)
theorem ints_rg (lo hi : Int) : rgV lo hi = (span lo hi).map V.int := by
  unfold rgV span
  rw [List.map_map]
  rfl
theorem k_listRg2 {Q : List Int → Prop} {p2 p3 : Pos} (m : NoGl F.X.mg) (h : KE F env a ex fun lo : Int => KE F env b ex fun hi : Int => (-1000000 < lo ∧ lo < 1000000 ∧ -1000000 < hi ∧ hi < 1000000) ∧ Q (span lo hi)) (hc : F.X.calm = true := by rfl) (hg : Gl F.X "list" := by rfl) (hgr : Gl F.X "range" := by rfl)
    (na : Ns F a [b] := by rfl) (nb : Ns F b [] := by rfl) (hp : (backTo p2 (starEach [b] F.X.env)).any (·.1) = false := by rfl) (nr : Ns F (.Call (.Name "range" p3) [a, b] [] p2) [] := by rfl) :
    KE F env (.Call (.Name "list" p0) [.Call (.Name "range" p3) [a, b] [] p2] [] pos) ex Q := fun own σ H k p =>
  tE_of (pe_listRg hc hg (m _ (by simp)) (prg_2 hgr (m _ (by simp)) peE peE na nb hp) nr) (two k p h fun v u lo hi H' s r1 r2 ⟨hb, q⟩ => by
    cases r1; cases r2
    refine ⟨lo, hi, rfl, rfl, ⟨by omega, by omega, by omega, by omega, by omega⟩, fun t ht => ⟨_, s.trans (same_new ht), ⟨t, _, rfl, hid_new k s ht, ?_⟩, q⟩⟩
    rw [ints_rg]
    exact rep_ints _)
end
end Rk

set_option maxHeartbeats 4000000
namespace Rk
open PySem L2 PyProof.Rows
section
variable {F : Fx} {env : List Ent} {ex : XP} {a b c e it elt tg : Expr} {es ifs : List Expr} {pos p0 p1 : Pos} {n x : Str} {P : Po} {st : Stmt} {sts ss body : List Stmt}

/-! ### try: body, except X: suite -/
/-- the body's frame, the suite's -/
def Fx.tr (F : Fx) (pn : List (Addr × Obj)) (xe : Value → Shared → Prop) : Fx := { F with X := F.X.tr pn xe }
def Fx.su (F : Fx) (q : Addr) (pn : List (Addr × Obj)) : Fx := { F with X := F.X.suite q pn }
theorem s_tryO {cn : Nat} {b0 : Stmt} {pos' : Pos} (T : ExcT F.X.K F.X.mg x (F.cls cn))
    (hb : ∀ pn xe, KSs (F.tr pn xe) env body { P with ex := fun env' C => ∃ m, PySem.W.exmOne F.X.K (.ref (F.cls C)) (.ref (F.cls cn)) = some m ∧
      (m = true → ∀ q oe pn dd, Zc (.ref (F.cls C)) dd oe → (∃ vs, oe.data = .fields vs) → KSs (F.su q ((q, oe) :: pn)) env' (b0 :: ss) { P with ex := fun _ _ => False }) ∧ (m = false → P.ex env' C) })
    (hg : Gl F.X x := by rfl) (hdb : (x == ("__debug__" : Str)) = false := by decide) (hs : F.X.stack = F.X.env :: F.X.outer := by rfl) (hf : F.X.env.frame = some F.X.env.locals := by rfl) :
    KS F env (.Try body [.ExceptHandler (some (.Name x p0)) none (b0 :: ss) pos'] [] [] pos) P := fun own σ H k p => by
  obtain ⟨pa, W, tk, hw⟩ := id p
  refine tS_of (ps_try_only (tb := fun W' D σ H => ∀ pn xe, Takes (F.X.tr pn xe) W' → PassesOwn (model F.X.prog F.X.w) F.X.A F.X.env xe → tSs (F.X.tr pn xe) body D σ H)
    (ts := fun q cls d D σ H => ∀ oe pn, Zc cls d oe → (∃ vs, oe.data = .fields vs) → tSs (F.X.suite q ((q, oe) :: pn)) (b0 :: ss) D σ H) hs hf ⟨hg, hdb, .inl T.gC⟩ tk (fun W' pn xe t po => ⟨fun pins s σ H D I h => h pn xe t po pins s I⟩) (fun q oe cls d pn hz hv => ⟨fun pins s σ H D I h => h oe pn hz hv pins s I⟩)) ?_
  intro pn xe tk' po
  refine hb pn xe own σ H k ⟨po, _, tk', fun env' own' C dd σ' H' k' fr q xd => ?_⟩
  obtain ⟨m, hm, h1, h2⟩ := q
  refine ⟨m, hm, fun e q na oe pn2 hz hv => ?_, fun e => hw env' own' C dd σ' H' k' fr (h2 e) xd⟩
  have z := h1 e q oe pn2 dd hz hv own' σ' H' k' ⟨PassesOwn.never, _, takes0, fun _ _ _ _ _ _ _ _ q _ => q.elim⟩
  exact tSs_mono (D := ends (F.su q ((q, oe) :: pn2)) own' H' { P with ex := fun _ _ => False }) (fun _ _ z => At.more (F := F) fr z) (fun _ _ z => z) (fun _ _ z => At.more (F := F) fr z) (fun _ _ z => At.more (F := F) fr z) z
/-- an exception that a suite holds -/
structure Exo where
  at_ : Addr
instance : Sc Exo := ⟨fun x => .ref x.at_, fun {a b} h => by cases a; cases b; injection h with h; subst h; rfl⟩
instance : Rp Exo := scRp Exo
/-- InvalidLine, held: its own dict, its line -/
structure Exl where
  at_ : Addr
  d : Addr
  line : Int
instance : Rp Exl where
  rep := fun G H v x => v = .ref x.at_ ∧ H x.d = some (.xd [("line", .int x.line)])
  mono := fun e ⟨h1, h2⟩ => ⟨h1, e _ _ h2⟩
theorem s_tryA {cn : Nat} {b0 : Stmt} {pos' : Pos} (i : Nat) (nd : F.X.N.Nodup) (hi : F.X.N[i]? = some n) (T : ExcT F.X.K F.X.mg x (F.cls cn))
    (hb : ∀ pn xe, KSs (F.tr pn xe) env body { P with ex := fun env' C => ∃ m, PySem.W.exmOne F.X.K (.ref (F.cls C)) (.ref (F.cls cn)) = some m ∧
      (m = true → (C < 100 → ∀ q oe pn, Zc (.ref (F.cls C)) none oe → (∃ vs, oe.data = .fields vs) → KSs (F.su q ((q, oe) :: pn)) (env'.set i (.sh (dv (Exo.mk q)))) (b0 :: ss) { nx := fun env2 => P.nx (env2.set i .no), rt := P.rt, bk := fun env2 => P.bk (env2.set i .no), ct := fun env2 => P.ct (env2.set i .no) }) ∧ (100 ≤ C → ∀ q oe pn d, Zc (.ref (F.cls C)) (some d) oe → (∃ vs, oe.data = .fields vs) → KSs (F.su q ((q, oe) :: pn)) (env'.set i (.sh (dv (Exl.mk q d ((C : Int) - 100))))) (b0 :: ss) { nx := fun env2 => P.nx (env2.set i .no), rt := P.rt, bk := fun env2 => P.bk (env2.set i .no), ct := fun env2 => P.ct (env2.set i .no) })) ∧ (m = false → P.ex env' C) })
    (hg : Gl F.X x := by rfl) (hdb : (x == ("__debug__" : Str)) = false := by decide) (hln : F.X.env.kindOf n = some .local := by rfl) (hs : F.X.stack = F.X.env :: F.X.outer := by rfl) (hf : F.X.env.frame = some F.X.env.locals := by rfl) :
    KS F env (.Try body [.ExceptHandler (some (.Name x p0)) (some n) (b0 :: ss) pos'] [] [] pos) P := fun own σ H k p => by
  obtain ⟨pa, W, tk, hw⟩ := id p
  refine tS_of (ps_try_as (i := i) (tb := fun W' D σ H => ∀ pn xe, Takes (F.X.tr pn xe) W' → PassesOwn (model F.X.prog F.X.w) F.X.A F.X.env xe → tSs (F.X.tr pn xe) body D σ H)
    (ts := fun q cls d D σ H => ∀ oe pn, Zc cls d oe → (∃ vs, oe.data = .fields vs) → tSs (F.X.suite q ((q, oe) :: pn)) (b0 :: ss) D σ H) hs hf nd hi hln ⟨hg, hdb, .inl T.gC⟩ tk (fun W' pn xe t po => ⟨fun pins s σ H D I h => h pn xe t po pins s I⟩) (fun q oe cls d pn hz hv => ⟨fun pins s σ H D I h => h oe pn hz hv pins s I⟩)) ?_
  intro pn xe tk' po
  refine hb pn xe own σ H k ⟨po, _, tk', fun env' own' C dd σ' H' k' fr q xd => ?_⟩
  obtain ⟨m, hm, h1, h2⟩ := q
  refine ⟨m, hm, fun e q na oe pn2 hz hv => ?_, fun e => hw env' own' C dd σ' H' k' fr (h2 e) xd⟩
  have fr2 : Fr F.hs own (drop own' i) H H' := fr.trans (Fr.drop i)
  have un : ∀ {q : List Ent → Prop} {σ2 : L2.St} {H2 : Hp}, At F own H (fun env2 => q (env2.set i .no)) σ2 H2 → At F own H q (σ2.set i none) H2 := fun {q σ2 H2} ⟨env2, own2, k2, f2, z⟩ => by
    have kf := k2.forget i
    refine ⟨env2.set i .no, drop own2 i, ?_, f2.trans (Fr.drop i), z⟩
    exact { kf with
      len := by rw [List.length_set]; exact kf.len
      ent := fun j e h => by
        have y := kf.ent j e h
        by_cases ij : i = j
        · subst ij
          have hl := (List.getElem?_eq_some_iff.mp h).1
          rw [List.length_set] at hl
          rw [List.getElem?_set_self hl] at h
          cases h
          trivial
        · cases e with
          | no => trivial
          | sh d => obtain ⟨v, y1, y2⟩ := y; exact ⟨v, by rw [List.getElem?_set_ne ij]; exact y1, y2⟩
          | ow o => obtain ⟨p', ho, y0, y1, y2, y3⟩ := y; exact ⟨p', ho, y0, by rw [List.getElem?_set_ne ij]; exact y1, y2, y3⟩ }
  obtain ⟨g1, g2⟩ := h1 e
  by_cases lt : C < 100
  · have e0 := Xd.no lt xd
    subst e0
    have k2 : (F.su q ((q, oe) :: pn2)).Kn (drop own' i) (env'.set i (.sh (dv (Exo.mk q)))) (σ'.set i (some (.ref q))) H' := k'.set (i := i) (d := dv (Exo.mk q)) rfl
    exact tSs_mono (D := ends (F.su q ((q, oe) :: pn2)) (drop own' i) H' { nx := fun env2 => P.nx (env2.set i .no), rt := P.rt, bk := fun env2 => P.bk (env2.set i .no), ct := fun env2 => P.ct (env2.set i .no) })
      (fun _ _ z => un (At.more (F := F) fr2 z)) (fun _ _ z => z) (fun _ _ z => un (At.more (F := F) fr2 z)) (fun _ _ z => un (At.more (F := F) fr2 z)) (g1 lt q oe pn2 hz hv _ _ H' k2 ⟨PassesOwn.never, _, takes0, fun _ _ _ _ _ _ _ _ q _ => q.elim⟩)
  · obtain ⟨d, e0, hx⟩ := Xd.hi (by omega) xd
    subst e0
    have k2 : (F.su q ((q, oe) :: pn2)).Kn (drop own' i) (env'.set i (.sh (dv (Exl.mk q d ((C : Int) - 100))))) (σ'.set i (some (.ref q))) H' := k'.set (i := i) (d := dv (Exl.mk q d ((C : Int) - 100))) ⟨rfl, hx⟩
    exact tSs_mono (D := ends (F.su q ((q, oe) :: pn2)) (drop own' i) H' { nx := fun env2 => P.nx (env2.set i .no), rt := P.rt, bk := fun env2 => P.bk (env2.set i .no), ct := fun env2 => P.ct (env2.set i .no) })
      (fun _ _ z => un (At.more (F := F) fr2 z)) (fun _ _ z => z) (fun _ _ z => un (At.more (F := F) fr2 z)) (fun _ _ z => un (At.more (F := F) fr2 z)) (g2 (by omega) q oe pn2 d hz hv _ _ H' k2 ⟨PassesOwn.never, _, takes0, fun _ _ _ _ _ _ _ _ q _ => q.elim⟩)

/-! ### comprehensions -/
/-- the frame of a comprehension's block -/
def Blk (F : Fx) (scope : Scope) (F' : Fx) : Prop := ∃ (s : Shared) (H : Hp) (C : Addr) (cl : List (Str × Addr)) (fp : List Addr) (hs : Addr → Prop), F' = ⟨F.X.blk s H scope (compEnvC scope cl C F.X.env) fp, F.cls, hs, F.B⟩
def noex : XP := fun _ _ => False
def wipeE (env : List Ent) : List Nat → List Ent
  | [] => env
  | v :: vs => (wipeE env vs).set v .no
def wipeO (own : Nat → Option Addr) : List Nat → Nat → Option Addr
  | [] => own
  | v :: vs => drop (wipeO own vs) v
theorem wipe_mem {σ : L2.St} {i : Nat} : ∀ {vs : List Nat}, i ∈ vs → ∀ v, (wipe σ vs)[i]? ≠ some (some v)
  | [], h, _ => nomatch h
  | u :: vs, h, v => by
    show ((wipe σ vs).set u none)[i]? ≠ _
    by_cases e : u = i
    · subst e
      intro z
      by_cases hl : u < (wipe σ vs).length
      · rw [List.getElem?_set_self hl] at z; cases z
      · rw [List.getElem?_eq_none_iff.mpr (by rw [List.length_set]; omega)] at z; cases z
    · rw [List.getElem?_set_ne e]
      exact wipe_mem ((List.mem_cons.mp h).resolve_left (Ne.symm e)) v
theorem Kn.unset {own : Nat → Option Addr} {σ : L2.St} {H : Hp} (k2 : F.Kn own env σ H) (i : Nat) : F.Kn (drop own i) (env.set i .no) (σ.set i none) H := by
  have kf := k2.forget i
  exact { kf with
    len := by rw [List.length_set]; exact kf.len
    ent := fun j e h => by
      have y := kf.ent j e h
      by_cases ij : i = j
      · subst ij
        have hl := (List.getElem?_eq_some_iff.mp h).1
        rw [List.length_set] at hl
        rw [List.getElem?_set_self hl] at h
        cases h
        trivial
      · cases e with
        | no => trivial
        | sh d => obtain ⟨v, y1, y2⟩ := y; exact ⟨v, by rw [List.getElem?_set_ne ij]; exact y1, y2⟩
        | ow o => obtain ⟨p', ho, y0, y1, y2, y3⟩ := y; exact ⟨p', ho, y0, by rw [List.getElem?_set_ne ij]; exact y1, y2, y3⟩ }
theorem Kn.wipe {own : Nat → Option Addr} {σ : L2.St} {H : Hp} (k : F.Kn own env σ H) : ∀ vs : List Nat, F.Kn (wipeO own vs) (wipeE env vs) (L2.wipe σ vs) H ∧ Fr F.hs own (wipeO own vs) H H
  | [] => ⟨k, Fr.refl⟩
  | v :: vs => ⟨((Kn.wipe k vs).1).unset v, (Kn.wipe k vs).2.trans (Fr.drop v)⟩
/-- one more address is hidden: a new one -/
theorem Kn.veil {own : Nat → Option Addr} {σ : L2.St} {H H' : Hp} {t : Addr} {o : HO} (k : F.Kn own env σ H) (s : Same H H') (ht : H t = none) (ho : H' t = some o) : Rk.Kn F.G (fun x => F.hs x ∨ x = t) F.B own env σ H' := by
  have nt : ¬ hd F.hs own t := k.fresh (Same.refl _) ht
  have sm : Same (Hid (hd F.hs own) H) (Hid (hd (fun x => F.hs x ∨ x = t) own) H') := fun x u e => by
    have h1 := hid_of e
    have ne : x ≠ t := ne_of_none h1 ht
    have nh : ¬ hd F.hs own x := fun z => by unfold Hid at e; rw [if_pos z] at e; cases e
    rw [hid_at fun z => by
      rcases z with (z | z) | z
      · exact nh (.inl z)
      · exact ne z
      · exact nh (.inr z)]
    exact s x u h1
  exact {
    ex := k.ex.trans s
    hsB := fun x h => by
      rcases h with h | h
      · exact stays s (k.hsB x h)
      · subst h; rw [ho]; simp
    dis := fun i p h z => by
      rcases z with z | z
      · exact k.dis i p h z
      · subst z; exact nt (.inr ⟨i, h⟩)
    len := k.len
    inj := k.inj
    new := fun i p h => ⟨(k.new i p h).1, stays s (k.new i p h).2⟩
    out := k.out
    ent := fun i e h => by
      have y := k.ent i e h
      cases e with
      | no => trivial
      | sh d => obtain ⟨v, y1, y2⟩ := y; exact ⟨v, y1, DV.mono sm y2⟩
      | ow o => obtain ⟨p', ho', y0, y1, y2, y3⟩ := y; exact ⟨p', ho', y0, y1, s _ _ y2, o.mono sm y3⟩ }
/-- a comprehension's test -/
def KTs (F : Fx) (env : List Ent) : List Expr → (Bool → Prop) → Prop
  | [], Q => Q true
  | [c], Q => KT F env c noex Q
  | _, _ => False
def tIfs (X : Cx) : List Expr → TT
  | [c] => tT X c
  | _ => tYes
theorem noPort {own : Nat → Option Addr} {H : Hp} {F' : Fx} {scope : Scope} (h : Blk F scope F') : Port F' own H noex := by
  obtain ⟨s, H0, C, cl, fp, hs, rfl⟩ := h
  exact ⟨PassesOwn.never, _, takes0, fun _ _ _ _ _ _ _ _ q _ => q.elim⟩
/-- what a block's test and element ask, in whatever frame it runs -/
def uT (F : Fx) (scope : Scope) (ifs : List Expr) : TT := fun σ H Q => ∀ (s : Shared) (H0 : Hp) (C : Addr) (cl : List (Str × Addr)) (fp : List Addr), tIfs (F.X.blk s H0 scope (compEnvC scope cl C F.X.env) fp) ifs σ H Q
def uE (F : Fx) (scope : Scope) (e : Expr) : TE := fun σ H Q => ∀ (s : Shared) (H0 : Hp) (C : Addr) (cl : List (Str × Addr)) (fp : List Addr), tE (F.X.blk s H0 scope (compEnvC scope cl C F.X.env) fp) e σ H Q
theorem wipeO_same {own : Nat → Option Addr} : ∀ {vs : List Nat}, (∀ i ∈ vs, own i = none) → wipeO own vs = own
  | [], _ => rfl
  | v :: vs, h => by
    show drop (wipeO own vs) v = own
    rw [wipeO_same fun i hi => h i (List.mem_cons_of_mem _ hi)]
    funext j
    unfold drop
    split
    · rename_i e; subst e; exact (h j List.mem_cons_self).symm
    · rfl
/-- what a comprehension has made of the items done -/
def LcAt {α β : Type} [Rp α] [Rp β] (F : Fx) (own : Nat → Option Addr) (H1 : Hp) (D : Addr) (t : α → Bool) (v : α → β) (done : List α) (H2 : Hp) : Prop :=
  Same H1 (fun x => if x = D then none else H2 x) ∧ ∃ acc, H2 D = some (.lst acc) ∧ RepAll F.G (Hid (hd (fun x => F.hs x ∨ x = D) own) H2) acc (dvs ((done.filter t).map v))
theorem LcAt.same {α β : Type} [Rp α] [Rp β] {own : Nat → Option Addr} {H1 H2 : Hp} {D : Addr} {t : α → Bool} {v : α → β} {done : List α} (h : LcAt F own H1 D t v done H2) (hD : H1 D = none) : Same H1 H2 := fun x o e => by
  have ne : x ≠ D := ne_of_none e hD
  have z : (if x = D then none else H2 x) = some o := h.1 x o e
  rw [if_neg ne] at z; exact z
theorem LcAt.start {α β : Type} [Rp α] [Rp β] {own : Nat → Option Addr} {H1 : Hp} {D : Addr} {t : α → Bool} {v : α → β} (hD : H1 D = none) : LcAt F own H1 D t v [] (upd H1 D (.lst [])) := by
  refine ⟨fun x o e => ?_, [], upd_same, trivial⟩
  have ne : x ≠ D := ne_of_none e hD
  show (if x = D then none else upd H1 D (.lst []) x) = some o
  rw [if_neg ne, upd_ne ne]; exact e
theorem wipe_twice {σ : L2.St} (vs : List Nat) : L2.wipe (L2.wipe σ vs) vs = L2.wipe σ vs := by
  have key : ∀ us : List Nat, (∀ i ∈ us, i ∈ vs) → L2.wipe (L2.wipe σ vs) us = L2.wipe σ vs := fun us => by
    induction us with
    | nil => intro _; rfl
    | cons u us ih =>
      intro hh
      show (L2.wipe (L2.wipe σ vs) us).set u none = _
      rw [ih fun i hi => hh i (List.mem_cons_of_mem _ hi)]
      apply List.ext_getElem?
      intro j
      by_cases e : u = j
      · subst e
        by_cases hl : u < (L2.wipe σ vs).length
        · rw [List.getElem?_set_self hl]
          have nv := wipe_mem (σ := σ) (hh u List.mem_cons_self)
          cases q : (L2.wipe σ vs)[u]? with
          | none => rw [List.getElem?_eq_none_iff] at q; omega
          | some o => cases o with
            | none => rfl
            | some w => exact absurd q (nv w)
        · rw [List.getElem?_eq_none_iff.mpr (by rw [List.length_set]; omega), List.getElem?_eq_none_iff.mpr (by omega)]
      · rw [List.getElem?_set_ne e]
  exact key vs fun _ h => h
/-- one turn of a comprehension -/
theorem lc_stepG {α β : Type} [Rp α] [Rp β] {scope : Scope} (own0 : List (Str × Nat)) {g : TG} {is : List Nat} {f : α → List Ent → List Ent} {own : Nat → Option Addr} {σ : L2.St} {H1 H2 : Hp} {D : Addr} {t : α → Bool} {v : α → β} {done : List α} {y : α} {u : V}
    (hlen : ifs.length ≤ 1) (htg : ∀ F', Blk F scope F' → Tg F' tg α g is f) (his : ∀ i ∈ is, i ∈ own0.map (·.2)) (onone : ∀ i ∈ own0.map (·.2), own i = none) (k1 : F.Kn own env σ H1) (hD : H1 D = none) (hx : done.length ≤ 40000)
    (ht : ∀ F', Blk F scope F' → KTs F' (f y (wipeE env (own0.map (·.2)))) ifs fun b => b = t y) (hv : ∀ F', Blk F scope F' → t y = true → KE F' (f y (wipeE env (own0.map (·.2)))) elt noex fun z => z = v y)
    (hd2 : Rp.rep F.G (Hid (hd (fun x => F.hs x ∨ x = D) own) H2) u y) (p : LcAt F own H1 D t v done H2) :
    g u (L2.wipe σ (own0.map (·.2))) H2 fun σ2 H2' => L2.wipe σ2 (own0.map (·.2)) = L2.wipe σ (own0.map (·.2)) ∧ uT F scope ifs σ2 H2' fun b H3 =>
      if b = true then uE F scope elt σ2 H3 fun z H4 => ∃ acc, H4 D = some (.lst acc) ∧ acc.length < sizeLine ∧ LcAt F own H1 D t v (done ++ [y]) (upd H4 D (.lst (acc ++ [z]))) else LcAt F own H1 D t v (done ++ [y]) H3 := by
  have s12 := p.same hD
  obtain ⟨s2, acc, hacc, hr⟩ := p
  have kD : Rk.Kn F.G (fun x => F.hs x ∨ x = D) F.B own env σ H2 := k1.veil s12 hD hacc
  obtain ⟨kw, frw⟩ := Kn.wipe (F := ⟨F.X, F.cls, fun x => F.hs x ∨ x = D, F.B⟩) (show (⟨F.X, F.cls, fun x => F.hs x ∨ x = D, F.B⟩ : Fx).Kn own env σ H2 from kD) (own0.map (·.2))
  refine (htg ⟨F.X.blk F.X.s_0 H1 scope (compEnvC scope [] 0 F.X.env) [], F.cls, fun x => F.hs x ∨ x = D, F.B⟩ ⟨F.X.s_0, H1, 0, [], [], _, rfl⟩).sem y _ _ _ _ H2 u kw (DV.mono (d := dv y) frw hd2) fun own2 σ2 k2 f2 wp kp => ?_
  rw [wipeO_same onone] at kp
  refine ⟨by rw [wp _ his]; exact wipe_twice _, ?_⟩
  have keep : ∀ (s' : Shared) (H0 : Hp) (C : Addr) (cl : List (Str × Addr)) (fp : List Addr) (H3 : Hp), Same H2 H3 → t y = true → tE (F.X.blk s' H0 scope (compEnvC scope cl C F.X.env) fp) elt σ2 H3 fun z H4 => ∃ acc, H4 D = some (.lst acc) ∧ acc.length < sizeLine ∧ LcAt F own H1 D t v (done ++ [y]) (upd H4 D (.lst (acc ++ [z]))) := fun s' H0 C cl fp H3 s3 hty => by
    have B' : Blk F scope ⟨F.X.blk s' H0 scope (compEnvC scope cl C F.X.env) fp, F.cls, fun x => F.hs x ∨ x = D, F.B⟩ := ⟨s', H0, C, cl, fp, _, rfl⟩
    refine tE_mono (fun z H4 ⟨w, s4, rw', ew⟩ => ?_) (hv _ B' hty own2 σ2 H3 (k2.mono s3) (noPort B'))
    subst ew
    have s24 : Same H2 H4 := s3.trans s4
    have hD4 : H4 D = some (.lst acc) := s24 _ _ hacc
    have la : acc.length = ((done.filter t).map v).length := by rw [hr.len, dvs_len]
    have lb : ((done.filter t).map v).length ≤ 40000 := by
      rw [List.length_map]
      exact Nat.le_trans (List.length_filter_le _ _) hx
    refine ⟨acc, hD4, Nat.lt_of_le_of_lt (by rw [la]; exact lb) (by decide : 40000 < sizeLine), fun x o e => ?_, acc ++ [z], upd_same, ?_⟩
    · have ne : x ≠ D := ne_of_none e hD
      show (if x = D then none else upd H4 D (.lst (acc ++ [z])) x) = some o
      rw [if_neg ne, upd_ne ne]; exact s24 _ _ (s12 _ _ e)
    · rw [List.filter_append, List.map_append, List.filter_cons, if_pos hty, List.filter_nil]
      have hidD : hd (fun x => F.hs x ∨ x = D) own D := .inl (.inr rfl)
      rw [hid_upd hidD]
      unfold dvs
      rw [List.map_append]
      refine RepAll.app (hr.mono (hid_same s24)) ⟨?_, trivial⟩
      refine DV.mono (d := dv (v y)) (hid_more fun x q => ?_) rw'
      rcases q with q | ⟨i, q⟩
      · exact .inl q
      · rcases kp i x q with z | z
        · rw [onone i (his i z)] at q; cases q
        · exact .inr ⟨i, z⟩
  have skip : ∀ H3 : Hp, Same H2 H3 → t y = false → LcAt F own H1 D t v (done ++ [y]) H3 := fun H3 s3 hty => by
    refine ⟨fun x o e => ?_, acc, s3 _ _ hacc, ?_⟩
    · have ne : x ≠ D := ne_of_none e hD
      show (if x = D then none else H3 x) = some o
      rw [if_neg ne]; exact s3 _ _ (s12 _ _ e)
    · rw [List.filter_append, List.map_append, List.filter_cons, if_neg (by rw [hty]; decide), List.filter_nil, List.map_nil, List.append_nil]
      exact hr.mono (hid_same s3)
  intro s' H0 C cl fp
  match ifs, hlen, ht with
  | [], _, ht =>
    have B' : Blk F scope ⟨F.X.blk s' H0 scope (compEnvC scope cl C F.X.env) fp, F.cls, fun x => F.hs x ∨ x = D, F.B⟩ := ⟨s', H0, C, cl, fp, _, rfl⟩
    have hty : true = t y := ht _ B'
    exact fun s2' H02 C2 cl2 fp2 => keep s2' H02 C2 cl2 fp2 H2 (Same.refl _) hty.symm
  | [c], _, ht =>
    have B' : Blk F scope ⟨F.X.blk s' H0 scope (compEnvC scope cl C F.X.env) fp, F.cls, fun x => F.hs x ∨ x = D, F.B⟩ := ⟨s', H0, C, cl, fp, _, rfl⟩
    refine tT_mono (fun b H3 ⟨s3, eb⟩ => ?_) (ht _ B' own2 σ2 H2 k2 (noPort B'))
    cases hty : t y with
    | true =>
      rw [hty] at eb; subst eb
      exact fun s2' H02 C2 cl2 fp2 => keep s2' H02 C2 cl2 fp2 H3 s3 hty
    | false =>
      rw [hty] at eb; subst eb
      exact skip H3 s3 hty
/-- one turn of a comprehension -/
theorem lc_step {α β : Type} [Rp α] [Rp β] {scope : Scope} (own0 : List (Str × Nat)) {g : TG} {is : List Nat} {f : α → List Ent → List Ent} {own : Nat → Option Addr} {σ : L2.St} {H1 H2 : Hp} {D : Addr} {t : α → Bool} {v : α → β} {done : List α} {y : α} {u : V}
    (hlen : ifs.length ≤ 1) (htg : ∀ F', Blk F scope F' → Tg F' tg α g is f) (his : ∀ i ∈ is, i ∈ own0.map (·.2)) (onone : ∀ i ∈ own0.map (·.2), own i = none) (k1 : F.Kn own env σ H1) (hD : H1 D = none) (hx : done.length ≤ 40000)
    (ht : ∀ F', Blk F scope F' → KTs F' (f y (wipeE env (own0.map (·.2)))) ifs fun b => b = t y) (hv : ∀ F', Blk F scope F' → t y = true → KE F' (f y (wipeE env (own0.map (·.2)))) elt noex fun z => z = v y)
    (hd2 : Rp.rep F.G (Hid (hd F.hs own) H1) u y) (p : LcAt F own H1 D t v done H2) :
    g u (L2.wipe σ (own0.map (·.2))) H2 fun σ2 H2' => L2.wipe σ2 (own0.map (·.2)) = L2.wipe σ (own0.map (·.2)) ∧ uT F scope ifs σ2 H2' fun b H3 =>
      if b = true then uE F scope elt σ2 H3 fun z H4 => ∃ acc, H4 D = some (.lst acc) ∧ acc.length < sizeLine ∧ LcAt F own H1 D t v (done ++ [y]) (upd H4 D (.lst (acc ++ [z]))) else LcAt F own H1 D t v (done ++ [y]) H3 := by
  have s12 := p.same hD
  have sD : Same (Hid (hd F.hs own) H1) (Hid (hd (fun x => F.hs x ∨ x = D) own) H2) := fun x o e => by
    have h1 := hid_of e
    have ne : x ≠ D := ne_of_none h1 hD
    have nh : ¬ hd F.hs own x := fun z => by unfold Hid at e; rw [if_pos z] at e; cases e
    rw [hid_at fun z => by
      rcases z with (z | z) | z
      · exact nh (.inl z)
      · exact ne z
      · exact nh (.inr z)]
    exact s12 x o h1
  exact lc_stepG own0 hlen htg his onone k1 hD hx ht hv (DV.mono (d := dv y) sD hd2) p
theorem lc_end {α β : Type} [Rp α] [Rp β] {own : Nat → Option Addr} {σ : L2.St} {H H1 H2 : Hp} {D : Addr} {t : α → Bool} {v : α → β} {xs : List α} {Q : List β → Prop} (k1 : F.Kn own env σ H1) (sm : Same H H1) (hD : H1 D = none) (p : LcAt F own H1 D t v xs H2) (hQ : Q ((xs.filter t).map v)) :
    ∃ y : List β, Same H H2 ∧ Rp.rep F.G (Hid (hd F.hs own) H2) (V.ref D) y ∧ Q y := by
  have s12 := p.same hD
  have nD : ¬ hd F.hs own D := k1.fresh (Same.refl _) hD
  obtain ⟨s2, acc, hacc, hr⟩ := p
  refine ⟨_, sm.trans s12, ⟨D, acc, rfl, by rw [hid_at nD]; exact hacc, hr.mono (hid_more fun x z => ?_)⟩, hQ⟩
  rcases z with z | z
  · exact .inl (.inl z)
  · exact .inr z
theorem lc_tests (hlen : ifs.length ≤ 1) {scope : Scope} (s : Shared) (H : Hp) (C : Addr) (cl : List (Str × Addr)) (fp : List Addr) : PTs (F.X.blk s H scope (compEnvC scope cl C F.X.env) fp) ifs (uT F scope ifs) := by
  match ifs, hlen with
  | [], _ => exact ⟨fun pins s' σ H' Q I h => pts_nil.run pins s' σ H' Q I (h s H C cl fp)⟩
  | [c], _ => exact ⟨fun pins s' σ H' Q I h => (pts_one peT).run pins s' σ H' Q I (h s H C cl fp)⟩
theorem same_none {H H1 : Hp} {D : Addr} (s : Same H H1) (h : H1 D = none) : H D = none := by
  cases q : H D with
  | none => rfl
  | some o => rw [s _ _ q] at h; cases h
/-- what a comprehension asks, as a value and as a name's value -/
def KLc {β : Type} [Rp β] (F : Fx) (env : List Ent) (elt tg it : Expr) (ifs : List Expr) (scope : Scope) (ex : XP) (Q : List β → Prop) : Prop := ∀ own σ H, F.Kn own env σ H → Port F own H ex → ∃ (wi : TI) (g : TG) (own0 : List (Str × Nat)),
  F.X.calm = true ∧ F.X.N.Nodup ∧ PI F.X tg it wi ∧ BlkOk F.X.N F.X.env.scope scope own0 ∧ (∀ (s : Shared) (H : Hp) (C : Addr) (cl : List (Str × Addr)) (fp : List Addr), PG (F.X.blk s H scope (compEnvC scope cl C F.X.env) fp) tg g) ∧ ifs.length ≤ 1 ∧ (∀ x, foldedSetIterable it F.X.env x = pure x) ∧
  ∀ Q' : VK, (∀ v H', Rs F own H Q v H' → (∃ p, v = .ref p ∧ H p = none) → Q' v H') → tLc wi g (uT F scope ifs) (uE F scope elt) (own0.map (·.2)) σ H Q'
theorem k_ofLc {β : Type} [Rp β] {scope : Scope} {Q : List β → Prop} {ex : XP} (h : KLc F env elt tg it ifs scope ex Q) : KE F env (.ListComp elt [⟨tg, it, ifs, 0⟩] scope pos) ex Q := fun own σ H k p => by
  obtain ⟨wi, g, own0, hc, nd, pi, ok, pg, hlen, hs, z⟩ := h own σ H k p
  exact tE_of (pe_lc (own := own0) (g := g) (te := uE F scope elt) hc nd pi ok pg (lc_tests hlen) (fun s H C cl fp => ⟨fun pins s' σ H' Q I h => h s H C cl fp pins s' I⟩) hs) (z _ fun _ _ q _ => q)
theorem s_letLc {β : Type} [Rp β] {scope : Scope} {y : Str} (i : Nat) (hy : F.X.N[i]? = some y) (h : KLc F env elt tg it ifs scope P.ex fun ys : List β => ∀ z : List β, z = ys → P.nx (env.set i (.sh (dv z))))
    (hyl : F.X.env.scope.names.lookup y = some .local := by rfl) (hsw : swapsWith (.ListComp elt [⟨tg, it, ifs, 0⟩] scope p0) (some (.Name y p1)) pos.line F.X.env = pure true := by rfl) : KS F env (.Assign [.Name y p1] (.ListComp elt [⟨tg, it, ifs, 0⟩] scope p0) pos) P := fun own σ H k p => by
  obtain ⟨wi, g, own0, hc, nd, pi, ok, pg, hlen, hs, z⟩ := h own σ H k p
  refine tS_of (ps_setLc (own := own0) (g := g) (te := uE F scope elt) (i := i) hc nd hy hyl hsw pi ok pg (lc_tests hlen) (fun s H C cl fp => ⟨fun pins s' σ H' Q I h => h s H C cl fp pins s' I⟩) hs) (z _ fun v H' ⟨ys, s, r, q⟩ _ => ?_)
  exact ⟨_, _, (k.mono s).set (i := i) (d := dv ys) r, (Fr.of s).trans (Fr.drop i), q ys rfl⟩
section
variable {α β : Type} [Rp α] [Rp β] {scope : Scope} {Q : List β → Prop} {g : TG} {is : List Nat} {f : α → List Ent → List Ent}
/-- [elt for tg in it if ..] over a list -/
theorem q_lc (own0 : List (Str × Nat)) (nd : F.X.N.Nodup) (ok : BlkOk F.X.N F.X.env.scope scope own0)
    (hlen : ifs.length ≤ 1) (htg : ∀ F', Blk F scope F' → Tg F' tg α g is f) (his : ∀ i ∈ is, i ∈ own0.map (·.2)) (hno : ∀ i ∈ own0.map (·.2), ∀ o, env[i]? ≠ some (.ow o))
    (h : KE F env it ex fun xs : List α => xs.length ≤ 40000 ∧ ∃ (t : α → Bool) (v : α → β), (∀ F' x, Blk F scope F' → x ∈ xs → KTs F' (f x (wipeE env (own0.map (·.2)))) ifs fun b => b = t x) ∧
      (∀ F' x, Blk F scope F' → x ∈ xs → t x = true → KE F' (f x (wipeE env (own0.map (·.2)))) elt noex fun y => y = v x) ∧ Q ((xs.filter t).map v))
    (hc : F.X.calm = true := by rfl) (hs : ∀ x, foldedSetIterable it F.X.env x = pure x := by intro _; rfl) : KLc F env elt tg it ifs scope ex Q := fun own σ H k p => by
  have onone : ∀ i ∈ own0.map (·.2), own i = none := fun i hi => by
    cases q : own i with
    | none => rfl
    | some p => exact absurd (k.out i p q).choose_spec (hno i hi _)
  refine ⟨_, g, own0, hc, nd, (pi_list peE), ok, (fun s H C cl fp => (htg ⟨F.X.blk s H scope (compEnvC scope cl C F.X.env) fp, F.cls, F.hs, F.B⟩ ⟨s, H, C, cl, fp, F.hs, rfl⟩).pg), hlen, hs, fun Q' hq => ?_⟩
  refine tE_mono (fun v0 H1 ⟨xs, sm, ⟨l, vs, e1, e2, e3⟩, hx, t, v, ht, hv, hQ⟩ => ?_) (h own σ H k p)
  have hlv : vs.length = xs.length := by rw [e3.len, dvs_len]
  refine ⟨l, e1, ⟨vs, SqL.of (hid_of e2)⟩, fun D hD => ?_⟩
  have k1 := k.mono sm
  refine lc_list (K := F.X.K) (a := l) (xs := vs) (g := g) (tt := uT F scope ifs) (te := uE F scope elt) (vs := own0.map (·.2)) (σ := σ) (H1 := H1) (D := D) (Qd := fun H' => Q' (.ref D) H')
    (fun i H2 => LcAt F own H1 D t v (xs.take i) H2) (LcAt.start hD) (fun i H2 _ p => SqL.of (p.same hD _ _ (hid_of e2))) ?_ (fun H2 p => hq _ _ (lc_end k1 sm hD (by rw [hlv, List.take_length] at p; exact p) hQ) ⟨D, rfl, same_none sm hD⟩)
  intro i u H2 hu p2
  obtain ⟨d, hd1, hd2⟩ := e3.get' hu
  rw [dvs_get] at hd1
  cases hxi : xs[i]? with
  | none => rw [hxi] at hd1; cases hd1
  | some y =>
    rw [hxi] at hd1
    have ed : dv y = d := Option.some.inj hd1
    subst ed
    have hmem : y ∈ xs := List.mem_of_getElem? hxi
    have tk : xs.take (i + 1) = xs.take i ++ [y] := by rw [List.take_add_one, hxi]; rfl
    rw [tk]
    exact lc_step own0 hlen htg his onone k1 hD (by rw [List.length_take]; omega) (fun F' b => ht F' y b hmem) (fun F' b z => hv F' y b hmem z) hd2 p2
/-- over a written tuple -/
theorem q_lcT (own0 : List (Str × Nat)) (nd : F.X.N.Nodup) (ok : BlkOk F.X.N F.X.env.scope scope own0)
    (hlen : ifs.length ≤ 1) (htg : ∀ F', Blk F scope F' → Tg F' tg α g is f) (his : ∀ i ∈ is, i ∈ own0.map (·.2)) (hno : ∀ i ∈ own0.map (·.2), ∀ o, env[i]? ≠ some (.ow o))
    (h : KE F env it ex fun xs : Tl α => xs.xs.length ≤ 40000 ∧ ∃ (t : α → Bool) (v : α → β), (∀ F' x, Blk F scope F' → x ∈ xs.xs → KTs F' (f x (wipeE env (own0.map (·.2)))) ifs fun b => b = t x) ∧
      (∀ F' x, Blk F scope F' → x ∈ xs.xs → t x = true → KE F' (f x (wipeE env (own0.map (·.2)))) elt noex fun y => y = v x) ∧ Q ((xs.xs.filter t).map v))
    (hc : F.X.calm = true := by rfl) (hs : ∀ x, foldedSetIterable it F.X.env x = pure x := by intro _; rfl) : KLc F env elt tg it ifs scope ex Q := fun own σ H k p => by
  have onone : ∀ i ∈ own0.map (·.2), own i = none := fun i hi => by
    cases q : own i with
    | none => rfl
    | some p => exact absurd (k.out i p q).choose_spec (hno i hi _)
  refine ⟨_, g, own0, hc, nd, (pi_tup peE), ok, (fun s H C cl fp => (htg ⟨F.X.blk s H scope (compEnvC scope cl C F.X.env) fp, F.cls, F.hs, F.B⟩ ⟨s, H, C, cl, fp, F.hs, rfl⟩).pg), hlen, hs, fun Q' hq => ?_⟩
  refine tE_mono (fun v0 H1 ⟨⟨xs⟩, sm, ⟨l, vs, e1, e2, e3⟩, hx, t, v, ht, hv, hQ⟩ => ?_) (h own σ H k p)
  have e3 : RepAll F.G (Hid (hd F.hs own) H1) vs (dvs xs) := e3
  have hlv : vs.length = xs.length := by rw [e3.len, dvs_len]
  refine ⟨l, e1, ⟨vs, SqT.of (hid_of e2)⟩, fun D hD => ?_⟩
  have k1 := k.mono sm
  refine lc_tup (K := F.X.K) (a := l) (xs := vs) (g := g) (tt := uT F scope ifs) (te := uE F scope elt) (vs := own0.map (·.2)) (σ := σ) (H1 := H1) (D := D) (Qd := fun H' => Q' (.ref D) H')
    (fun i H2 => LcAt F own H1 D t v (xs.take i) H2) (LcAt.start hD) (fun i H2 _ p => SqT.of (p.same hD _ _ (hid_of e2))) ?_ (fun H2 p => hq _ _ (lc_end k1 sm hD (by rw [hlv, List.take_length] at p; exact p) hQ) ⟨D, rfl, same_none sm hD⟩)
  intro i u H2 hu p2
  obtain ⟨d, hd1, hd2⟩ := e3.get' hu
  rw [dvs_get] at hd1
  cases hxi : xs[i]? with
  | none => rw [hxi] at hd1; cases hd1
  | some y =>
    rw [hxi] at hd1
    have ed : dv y = d := Option.some.inj hd1
    subst ed
    have hmem : y ∈ xs := List.mem_of_getElem? hxi
    have tk : xs.take (i + 1) = xs.take i ++ [y] := by rw [List.take_add_one, hxi]; rfl
    rw [tk]
    exact lc_step own0 hlen htg his onone k1 hD (by rw [List.length_take]; show min i xs.length ≤ 40000; have : xs.length ≤ 40000 := hx; omega) (fun F' b => ht F' y b hmem) (fun F' b z => hv F' y b hmem z) hd2 p2
end
section
variable {β : Type} [Rp β] {scope : Scope} {Q : List β → Prop} {g : TG} {is : List Nat} {f : Int → List Ent → List Ent}
theorem span_get {lo hi : Int} {i : Nat} (h : i < (hi - lo).toNat) : (span lo hi)[i]? = some (lo + (i : Int)) := by
  unfold span
  rw [List.getElem?_map, List.getElem?_range h]; rfl
theorem span_len (lo hi : Int) : (span lo hi).length = (hi - lo).toNat := by unfold span; rw [List.length_map, List.length_range]
theorem lcr_core (own0 : List (Str × Nat)) {own : Nat → Option Addr} {σ : L2.St} {H H1 : Hp} {lo hi : Int} (hlen : ifs.length ≤ 1) (htg : ∀ F', Blk F scope F' → Tg F' tg Int g is f) (his : ∀ i ∈ is, i ∈ own0.map (·.2)) (onone : ∀ i ∈ own0.map (·.2), own i = none)
    (k1 : F.Kn own env σ H1) (sm : Same H H1) (hx : hi - lo ≤ 40000) {t : Int → Bool} {v : Int → β} (ht : ∀ F' x, Blk F scope F' → x ∈ span lo hi → KTs F' (f x (wipeE env (own0.map (·.2)))) ifs fun b => b = t x)
    (hv : ∀ F' x, Blk F scope F' → x ∈ span lo hi → t x = true → KE F' (f x (wipeE env (own0.map (·.2)))) elt noex fun y => y = v x) (hQ : Q (((span lo hi).filter t).map v)) {Q' : VK} (hq : ∀ v H', Rs F own H Q v H' → (∃ p, v = .ref p ∧ H p = none) → Q' v H') (D : Addr) (hD : H1 D = none) :
    ∃ W : Nat → Nat → Hp → Prop, (∃ m, W 0 m (upd H1 D (.lst []))) ∧ ∀ i m H', W i m H' →
      ((Itr lo (hi - lo).toNat).stop i H' ∧ Q' (.ref D) H') ∨ ((Itr lo (hi - lo).toNat).go i H' ∧ ∃ Nx : Hp → Prop, (∀ H'', Nx H'' → ∃ m', m' < m ∧ W (i + 1) m' H'') ∧ ∀ x H'', (Itr lo (hi - lo).toNat).yld i H' x H'' → g x (L2.wipe σ (own0.map (·.2))) H'' fun σ2 H2 => L2.wipe σ2 (own0.map (·.2)) = L2.wipe σ (own0.map (·.2)) ∧ uT F scope ifs σ2 H2 fun b H3 =>
        if b = true then uE F scope elt σ2 H3 fun y H4 => ∃ acc, H4 D = some (.lst acc) ∧ acc.length < sizeLine ∧ Nx (upd H4 D (.lst (acc ++ [y]))) else Nx H3) := by
  refine lc_range (lo := lo) (n := (hi - lo).toNat) (g := g) (tt := uT F scope ifs) (te := uE F scope elt) (vs := own0.map (·.2)) (σ := σ) (H1 := H1) (D := D) (Qd := fun H' => Q' (.ref D) H')
    (fun i H2 => LcAt F own H1 D t v ((span lo hi).take i) H2) (LcAt.start hD) ?_ (fun H2 p => hq _ _ (lc_end k1 sm hD (by rw [List.take_of_length_le (by rw [span_len]; exact Nat.le_refl _)] at p; exact p) hQ) ⟨D, rfl, same_none sm hD⟩)
  intro i H2 hi' p2
  have tk : (span lo hi).take (i + 1) = (span lo hi).take i ++ [lo + (i : Int)] := by rw [List.take_add_one, span_get hi']; rfl
  rw [tk]
  have hmem : lo + (i : Int) ∈ span lo hi := List.mem_of_getElem? (span_get hi')
  exact lc_step own0 hlen htg his onone k1 hD (by rw [List.length_take]; omega) (fun F' b => ht F' _ b hmem) (fun F' b z => hv F' _ b hmem z) rfl p2
/-- over range(lo, hi) -/
theorem q_lcR2 {e2 : Expr} {p2 p3 : Pos} (own0 : List (Str × Nat)) (nd : F.X.N.Nodup) (m : NoGl F.X.mg) (ok : BlkOk F.X.N F.X.env.scope scope own0)
    (hlen : ifs.length ≤ 1) (htg : ∀ F', Blk F scope F' → Tg F' tg Int g is f) (his : ∀ i ∈ is, i ∈ own0.map (·.2)) (hno : ∀ i ∈ own0.map (·.2), ∀ o, env[i]? ≠ some (.ow o))
    (h : KE F env e ex fun lo : Int => KE F env e2 ex fun hi : Int => (hi - lo ≤ 40000 ∧ hi < 1000000 ∧ -1000000 < hi ∧ lo < 1000000 ∧ -1000000 < lo) ∧ ∃ (t : Int → Bool) (v : Int → β), (∀ F' x, Blk F scope F' → x ∈ span lo hi → KTs F' (f x (wipeE env (own0.map (·.2)))) ifs fun b => b = t x) ∧
      (∀ F' x, Blk F scope F' → x ∈ span lo hi → t x = true → KE F' (f x (wipeE env (own0.map (·.2)))) elt noex fun y => y = v x) ∧ Q (((span lo hi).filter t).map v))
    (hc : F.X.calm = true := by rfl) (hg : Gl F.X "range" := by rfl) (z : Ns F e [e2] := by rfl) (z' : Ns F e2 [] := by rfl) (z1 : starEach [e, e2] F.X.env = [(false, eval e F.X.env), (false, eval e2 F.X.env)] := by rfl) (z2 : starEach [e2] F.X.env = [(false, eval e2 F.X.env)] := by rfl)
    (hs : ∀ x, foldedSetIterable (.Call (.Name "range" p2) [e, e2] [] p3) F.X.env x = pure x := by intro _; rfl) : KLc F env elt tg (.Call (.Name "range" p2) [e, e2] [] p3) ifs scope ex Q := fun own σ H k p => by
  have onone : ∀ i ∈ own0.map (·.2), own i = none := fun i hi => by
    cases q : own i with
    | none => rfl
    | some p => exact absurd (k.out i p q).choose_spec (hno i hi _)
  refine ⟨_, g, own0, hc, nd, (pi_range2 hg (m _ (by simp)) (pa_cons peE (pa_cons peE pa_nil z') z) z1 z2), ok, (fun s H C cl fp => (htg ⟨F.X.blk s H scope (compEnvC scope cl C F.X.env) fp, F.cls, F.hs, F.B⟩ ⟨s, H, C, cl, fp, F.hs, rfl⟩).pg), hlen, hs, fun Q' hq => ?_⟩
  refine two k p h fun u1 u2 lo hi H1 sm r1 r2 ⟨⟨b0, b1, b2, b3, b4⟩, t, v, ht, hv, hQ⟩ => ?_
  cases r1; cases r2
  exact ⟨lo, hi, rfl, ⟨by omega, by omega, by omega, by omega⟩, lcr_core own0 hlen htg his onone (k.mono sm) sm b0 ht hv hQ hq⟩
/-- over range(hi) -/
theorem q_lcR1 {p2 p3 : Pos} (own0 : List (Str × Nat)) (nd : F.X.N.Nodup) (m : NoGl F.X.mg) (ok : BlkOk F.X.N F.X.env.scope scope own0)
    (hlen : ifs.length ≤ 1) (htg : ∀ F', Blk F scope F' → Tg F' tg Int g is f) (his : ∀ i ∈ is, i ∈ own0.map (·.2)) (hno : ∀ i ∈ own0.map (·.2), ∀ o, env[i]? ≠ some (.ow o))
    (h : KE F env e ex fun hi : Int => (hi ≤ 40000 ∧ -1000000 < hi) ∧ ∃ (t : Int → Bool) (v : Int → β), (∀ F' x, Blk F scope F' → x ∈ span 0 hi → KTs F' (f x (wipeE env (own0.map (·.2)))) ifs fun b => b = t x) ∧
      (∀ F' x, Blk F scope F' → x ∈ span 0 hi → t x = true → KE F' (f x (wipeE env (own0.map (·.2)))) elt noex fun y => y = v x) ∧ Q (((span 0 hi).filter t).map v))
    (hc : F.X.calm = true := by rfl) (hg : Gl F.X "range" := by rfl) (z : Ns F e [] := by rfl) (z1 : starEach [e] F.X.env = [(false, eval e F.X.env)] := by rfl)
    (hs : ∀ x, foldedSetIterable (.Call (.Name "range" p2) [e] [] p3) F.X.env x = pure x := by intro _; rfl) : KLc F env elt tg (.Call (.Name "range" p2) [e] [] p3) ifs scope ex Q := fun own σ H k p => by
  have onone : ∀ i ∈ own0.map (·.2), own i = none := fun i hi => by
    cases q : own i with
    | none => rfl
    | some p => exact absurd (k.out i p q).choose_spec (hno i hi _)
  refine ⟨_, g, own0, hc, nd, (pi_range1 hg (m _ (by simp)) (pa_cons peE pa_nil z) z1), ok, (fun s H C cl fp => (htg ⟨F.X.blk s H scope (compEnvC scope cl C F.X.env) fp, F.cls, F.hs, F.B⟩ ⟨s, H, C, cl, fp, F.hs, rfl⟩).pg), hlen, hs, fun Q' hq => ?_⟩
  refine tE_mono (fun u1 H1 ⟨hi, sm, r1, ⟨b0, b1⟩, t, v, ht, hv, hQ⟩ => ?_) (h own σ H k p)
  cases r1
  have z0 : (hi - 0).toNat = hi.toNat := by rw [Int.sub_zero]
  refine ⟨hi, rfl, by omega, by omega, ?_⟩
  have y := lcr_core (lo := 0) (hi := hi) own0 hlen htg his onone (k.mono sm) sm (by omega) ht hv hQ hq
  rw [z0] at y
  exact y
end
end
end Rk

set_option maxHeartbeats 4000000
namespace Rk
open PySem L2 PyProof.Rows
/-! ### tests decided -/
theorem ifB {b : Bool} {A B : Prop} (h1 : b = true → A) (h2 : b = false → B) : if b = true then A else B := by
  cases b with
  | true => exact h1 rfl
  | false => exact h2 rfl
theorem ifD {p A B : Prop} [Decidable p] (h1 : p → A) (h2 : ¬ p → B) : if decide p = true then A else B := by
  by_cases h : p
  · rw [if_pos (decide_eq_true h)]; exact h1 h
  · rw [if_neg (by simpa using h)]; exact h2 h
theorem ifND {p A B : Prop} [Decidable p] (h1 : ¬ p → A) (h2 : p → B) : if (!decide p) = true then A else B := by
  by_cases h : p
  · rw [if_neg (by simpa using h)]; exact h2 h
  · rw [if_pos (by simpa using h)]; exact h1 h
theorem ifNB {b : Bool} {A B : Prop} (h1 : b = false → A) (h2 : b = true → B) : if (!b) = true then A else B := by
  cases b with
  | true => exact h2 rfl
  | false => exact h1 rfl
section
variable {F : Fx} {env : List Ent} {ex : XP} {a b c e it : Expr} {es : List Expr} {pos p0 p1 : Pos} {n x : Str} {P : Po} {st : Stmt} {sts ss body : List Stmt}
theorem kt_imp {Q Q' : Bool → Prop} (q : ∀ x, Q x → Q' x) (h : KT F env e ex Q) : KT F env e ex Q' := fun own σ H k p => tT_mono (fun v H' ⟨s, z⟩ => ⟨s, q _ z⟩) (h own σ H k p)
theorem ktw_imp {Q Q' : Bool → Prop} (q : ∀ x, Q x → Q' x) (h : KTW F env e ex Q) : KTW F env e ex Q' := fun own σ H k p => tTW_mono (fun v H' ⟨s, z⟩ => ⟨s, q _ z⟩) (h own σ H k p)
theorem w_andD {Q : Bool → Prop} (y : Bool) (h : KT F env a ex fun x => (x = true → KTW F env (.BoolOp .And (b :: es) pos) ex fun z => z = y) ∧ Q (x && y)) : KTW F env (.BoolOp .And (a :: b :: es) pos) ex Q :=
  w_and (kt_imp (fun x ⟨h1, h2⟩ => by
    cases x with
    | true => exact ktw_imp (fun z ez => by subst ez; exact h2) (h1 rfl)
    | false => exact h2) h)
theorem w_orD {Q : Bool → Prop} (y : Bool) (h : KT F env a ex fun x => (x = false → KTW F env (.BoolOp .Or (b :: es) pos) ex fun z => z = y) ∧ Q (x || y)) : KTW F env (.BoolOp .Or (a :: b :: es) pos) ex Q :=
  w_or (kt_imp (fun x ⟨h1, h2⟩ => by
    cases x with
    | false => exact ktw_imp (fun z ez => by subst ez; exact h2) (h1 rfl)
    | true => exact h2) h)
theorem k_andD {Q : Bool → Prop} (y : Bool) (h : KE F env a ex fun x : Bool => (x = true → KE F env (.BoolOp .And (b :: es) pos) ex fun z : Bool => z = y) ∧ Q (x && y)) : KE F env (.BoolOp .And (a :: b :: es) pos) ex Q :=
  k_and (ke_imp (fun x ⟨h1, h2⟩ => by
    cases x with
    | true => exact ke_imp (fun z ez => by subst ez; exact h2) (h1 rfl)
    | false => exact h2) h)
theorem k_orD {Q : Bool → Prop} (y : Bool) (h : KE F env a ex fun x : Bool => (x = false → KE F env (.BoolOp .Or (b :: es) pos) ex fun z : Bool => z = y) ∧ Q (x || y)) : KE F env (.BoolOp .Or (a :: b :: es) pos) ex Q :=
  k_or (ke_imp (fun x ⟨h1, h2⟩ => by
    cases x with
    | false => exact ke_imp (fun z ez => by subst ez; exact h2) (h1 rfl)
    | true => exact h2) h)
theorem k_leleD {Q : Bool → Prop} (z : Int) (h : KE F env a ex fun x : Int => KE F env b ex fun y : Int => (KE F env c ex fun u : Int => u = z) ∧ Q (decide (x ≤ y ∧ y ≤ z)))
    (hm : lastMarks [.LtE, .LtE] [b, c] = false := by with_unfolding_all rfl) : KE F env (.Compare a [.LtE, .LtE] [b, c] pos) ex Q :=
  k_lele (ke_imp (fun x h => ke_imp (fun y ⟨h1, h2⟩ => by
    by_cases l : x ≤ y
    · rw [if_pos l]
      refine ke_imp (fun u eu => ?_) h1
      subst eu
      rw [show decide (y ≤ u) = decide (x ≤ y ∧ y ≤ u) from by simp [l]]
      exact h2
    · rw [if_neg l]
      rw [show decide (x ≤ y ∧ y ≤ z) = false from by simp [l]] at h2
      exact h2) h) h) hm
theorem t_leleD {Q : Bool → Prop} (z : Int) (h : KE F env a ex fun x : Int => KE F env b ex fun y : Int => (KE F env c ex fun u : Int => u = z) ∧ Q (decide (x ≤ y ∧ y ≤ z)))
    (hm : lastMarks [.LtE, .LtE] [b, c] = false := by with_unfolding_all rfl) : KT F env (.Compare a [.LtE, .LtE] [b, c] pos) ex Q :=
  t_lele (ke_imp (fun x h => ke_imp (fun y ⟨h1, h2⟩ => by
    by_cases l : x ≤ y
    · rw [if_pos l]
      refine ke_imp (fun u eu => ?_) h1
      subst eu
      rw [show decide (y ≤ u) = decide (x ≤ y ∧ y ≤ u) from by simp [l]]
      exact h2
    · rw [if_neg l]
      rw [show decide (x ≤ y ∧ y ≤ z) = false from by simp [l]] at h2
      exact h2) h) h) hm
theorem Got.ite {α : Type} [Rp α] {Q : α → Prop} {p : Prop} [Decidable p] {r1 r2 : Rz} (h1 : p → Got env ex Q r1) (h2 : ¬ p → Got env ex Q r2) : Got env ex Q (if p then r1 else r2) := by
  by_cases h : p
  · rw [if_pos h]; exact h1 h
  · rw [if_neg h]; exact h2 h
theorem Got.eq {α : Type} [Rp α] {ex : XP} {Q : α → Prop} {x : α} {r : Rz} (e : r = .ok (dv x)) (q : Q x) : Got env ex Q r := by rw [e]; exact ⟨x, rfl, q⟩
theorem Got.via {α : Type} [Rp α] {ex : XP} {Q : α → Prop} {r r' : Rz} (e : r = r') (q : Got env ex Q r') : Got env ex Q r := e ▸ q
theorem GotI.via {α : Type} {fs : α → List (Str × DV)} {ex : XP} {Q : α → Prop} {r r' : Ri} (e : r = r') (q : GotI fs env ex Q r') : GotI fs env ex Q r := e ▸ q
theorem GotI.ite {α : Type} {fs : α → List (Str × DV)} {ex : XP} {Q : α → Prop} {p : Prop} [Decidable p] {r1 r2 : Ri} (h1 : p → GotI fs env ex Q r1) (h2 : ¬ p → GotI fs env ex Q r2) : GotI fs env ex Q (if p then r1 else r2) := by
  by_cases h : p
  · rw [if_pos h]; exact h1 h
  · rw [if_neg h]; exact h2 h
theorem GotI.eq {α : Type} {fs : α → List (Str × DV)} {ex : XP} {Q : α → Prop} {y : α} {r : Ri} (e : r = .ok (fs y)) (q : Q y) : GotI fs env ex Q r := by rw [e]; exact ⟨y, rfl, q⟩
/-- x = e, the value by a name -/
theorem s_let {α : Type} [Rp α] (i : Nat) (nd : F.X.N.Nodup) (hi : F.X.N[i]? = some x) (h : KE F env e P.ex fun y : α => ∀ z : α, z = y → P.nx (env.set i (.sh (dv z)))) (hx : Loc F.X.env.scope x := by first | exact Or.inl rfl | exact Or.inr rfl) (hs : swapsWith e (some (.Name x p1)) pos.line F.X.env = pure false := by rfl)
    (hf : F.X.fn x = true ∨ F.X.env.scope.names.lookup x = some .local := by exact Or.inl rfl) : KS F env (.Assign [.Name x p1] e pos) P := s_asg i nd hi (ke_imp (fun y h => h y rfl) h) hx hs hf
theorem s_lets {α : Type} {ds : α → List DV} (is : List Nat) {kx : Nat} (hg : PGs F.X es (gNs is)) (hl : ∀ y, is.length = (ds y).length) (h : @KE F env e P.ex α (tpRp ds) fun y => ∀ z : α, z = y → P.nx (setAll env is (ds z))) (hc : F.X.calm = true := by rfl)
    (hn : (assignEach es F.X.env).length = is.length := by rfl) (hst : (assignEach es F.X.env).findIdx? (·.1) = none := by rfl) (hs : swapsWithSole [.Tuple es kx p1] e pos.line F.X.env = pure false := by rfl) (hw : swappedStores [.Tuple es kx p1] e F.X.env = pure none := by rfl)
    (h1 : (assignEach [.Tuple es kx p1] F.X.env).map (·.2) = [assign (.Tuple es kx p1) F.X.env] := by rfl) : KS F env (.Assign [.Tuple es kx p1] e pos) P := by
  letI : Rp α := tpRp ds
  exact s_unpack is hg hl (ke_imp (fun y h => h y rfl) h) hc hn hst hs hw h1
/-- slots forgotten -/
def fgt (env : List Ent) (ns : List Nat) : List Ent := ns.foldl (fun e j => e.set j .no) env
theorem Kn.fgt {σ : L2.St} {H : Hp} : ∀ (ns : List Nat) {env : List Ent} {own : Nat → Option Addr}, F.Kn own env σ H → ∃ own', F.Kn own' (Rk.fgt env ns) σ H ∧ Fr F.hs own own' H H
  | [], _, own, k => ⟨own, k, Fr.refl⟩
  | n :: ns, _, _, k => by
    obtain ⟨o, k', f⟩ := Kn.fgt ns (k.forget n)
    exact ⟨o, k', (Fr.drop n).trans f⟩
theorem At.fgt {own : Nat → Option Addr} {H : Hp} {q : List Ent → Prop} {σ : L2.St} {H' : Hp} (h : At F own H (fun e => ∃ ns, q (Rk.fgt e ns)) σ H') : At F own H q σ H' := by
  obtain ⟨env, o, k, f, ns, z⟩ := h
  obtain ⟨o', k', f'⟩ := Kn.fgt ns k
  exact ⟨_, o', k', f.trans f', z⟩
/-- the end of a turn: some slots may be forgotten -/
theorem turn_fgt {I : List Ent → Prop} (h : KSs F env body (turn P fun e => ∃ ns, I (fgt e ns))) : KSs F env body (turn P I) := fun own σ H k p =>
  tSs_mono (D := ends F own H (turn P fun e => ∃ ns, I (fgt e ns))) (D' := ends F own H (turn P I)) (fun _ _ z => At.fgt z) (fun _ _ z => z) (fun _ _ z => z) (fun _ _ z => At.fgt z) (h own σ H k p)
/-- a tuple of scalars: an item -/
theorem k_ixV {ex : XP} {i j} {p1 : Pos} {Q : V → Prop} (n : Nat) (hi : i = (n : Int)) (h : KE F env a ex fun t : Tv => ∃ v, t.vs[n]? = some v ∧ Q v) : KE F env (.Subscript a (.Constant (.int i) j p1) pos) ex Q := fun own σ H k p =>
  tE_of (pe_ix ix_tup peE pe_int (fun _ _ => rfl)) (tE_mono (fun v H' ⟨o, s, ⟨q, vs, e1, e2, e3⟩, u, hu, z⟩ => by
    obtain ⟨w, h1, h2⟩ := e3.get (i := n) (d := dv u) (by show (dvs o.vs)[n]? = _; rw [dvs_get, hu]; rfl)
    refine ⟨q, vs, _, w, e1, rfl, SqT.of (hid_of e2), ?_, u, s, h2, z⟩
    subst hi
    have hl : n < vs.length := (List.getElem?_eq_some_iff.mp h1).1
    unfold atI ixN
    rw [if_pos (by omega), if_pos (by omega)]
    simpa using h1) (h own σ H k p))
/-- a slot's int by a name -/
theorem at_int {i : Nat} {k v : Int} (e : k = v) (h : KSs F (env.set i (.sh (dv k))) sts P) : KSs F (env.set i (.sh (dv v))) sts P := e ▸ h
/-- a slot's datum as another -/
theorem ks_conv {α β : Type} [Rp α] [Rp β] (i : Nat) {y : α} (z : β) (he : env[i]? = some (.sh (dv y))) (hc : Cv y z) (h : KSs F (env.set i (.sh (dv z))) sts P) : KSs F env sts P :=
  ks_as (fun own σ H k => by
    obtain ⟨v, h1, h2⟩ := k.sh he
    have k2 := k.set (i := i) (v := v) (d := dv z) (hc _ _ _ h2)
    have es : σ.set i (some v) = σ := by
      apply List.ext_getElem?
      intro j
      by_cases q : i = j
      · subst q
        rw [List.getElem?_set_self (List.getElem?_eq_some_iff.mp h1).1, h1]
      · rw [List.getElem?_set_ne q]
    rw [es] at k2
    exact ⟨_, k2, Fr.drop i⟩) h
end
/-! ### the law's own promise -/
theorem hid_nil (H : Hp) : Hid (fun _ => False) H = H := by
  funext a
  exact hid_at fun z => z
/-- a list of at most n ints is handed in, True comes out -/
def lawSp (n : Nat) (K : PySem.W.Frag) : Sp := fun vs H Q _ => ∃ (a : Addr) (ns : List Int), vs = [.ref a] ∧ ns.length ≤ n ∧ SqL K H a (ns.map V.int) ∧ ∀ H', Q (.bl true) H'
theorem law_to {n : Nat} {K : PySem.W.Frag} {cls : Nat → Addr} {S : Pm} (h : ∀ ns : List Int, ns.length ≤ n → S [dv (Scr.mk ns)] (.ok (dv true))) : ∀ vs H Q E, lawSp n K vs H Q E → spOf K cls S vs H Q E := by
  rintro vs H Q E ⟨a, ns, rfl, hl, hs, q⟩
  refine ⟨fun _ => False, [dv (Scr.mk ns)], .ok (dv true), fun _ z => z.elim, ⟨⟨a, rfl, ?_⟩, trivial⟩, h ns hl, fun v H' _ r => ?_⟩
  · rw [hid_nil]; exact hs
  · have e : v = V.bl true := r
    rw [e]; exact q H'
theorem law_cx {P : Program} {w : World} {H : Hp} {s : Shared} {e : Value} {s' : Shared} (h : L2.CX P w [] H s (fun _ _ _ => False) e s') : False := by
  obtain ⟨_, _, _, _, _, _, _, _, _, _, _, _, z⟩ := h
  exact z
end Rk

set_option maxHeartbeats 4000000
namespace Rk
open PySem L2 PyProof.Rows
/-! ### None or a datum -/
structure Op (α : Type) where
  o : Option α
instance {α : Type} [Rp α] : Rp (Op α) where
  rep := fun G H v a => match a.o with
    | none => v = .non
    | some x => Rp.rep G H v x
  mono := fun {G H H' v a} e h => by
    obtain ⟨o⟩ := a
    cases o with
    | none => exact h
    | some x => exact Rp.mono e h
/-- data that are never None -/
class NN (α : Type) [Rp α] : Prop where
  ne : ∀ {G : Gm} {H : Hp} {v : V} {x : α}, Rp.rep G H v x → v ≠ .non
theorem nn_ob {α : Type} {c : Nat} {fs : α → List (Str × DV)} : @NN α (obRp c fs) := by
  letI : Rp α := obRp c fs
  exact ⟨fun {G H v x} ⟨p, _, _, e, _⟩ z => by rw [e] at z; cases z⟩
theorem nn_tp {α : Type} {ds : α → List DV} : @NN α (tpRp ds) := by
  letI : Rp α := tpRp ds
  exact ⟨fun {G H v x} ⟨p, _, e, _⟩ z => by rw [e] at z; cases z⟩
instance {α : Type} [Rp α] : NN (List α) := ⟨fun {G H v x} ⟨p, _, e, _⟩ z => by rw [e] at z; cases z⟩
instance : NN Int := ⟨fun {G H v x} e z => by
  have e : v = V.int x := e
  rw [e] at z; cases z⟩
instance {α : Type} [Rp α] [NN α] : Nn (Op α) := ⟨fun a => a.o.isNone, fun {G H v a} h => by
  obtain ⟨o⟩ := a
  cases o with
  | none =>
    have e : v = .non := h
    rw [e]; rfl
  | some x => exact decide_eq_false (NN.ne (show Rp.rep G H v x from h))⟩
theorem cv_some {α : Type} [Rp α] (x : α) : Cv x (Op.mk (some x)) := fun _ _ _ r => r
theorem cv_op {α : Type} [Rp α] {t : Op α} {x : α} (h : t.o = some x) : Cv t x := fun G H v r => by
  obtain ⟨o⟩ := t
  have h : o = some x := h
  subst h
  exact r
section
variable {F : Fx} {env : List Ent} {ex : XP} {a b c e it : Expr} {es : List Expr} {pos p0 p1 : Pos} {n x : Str} {P : Po} {st : Stmt} {sts ss body : List Stmt}
theorem k_nonO {α : Type} [Rp α] {j} {Q : Op α → Prop} (q : Q ⟨none⟩) : KE F env (.Constant .none j pos) ex Q := fun own σ H k p => tE_of pe_non ⟨⟨none⟩, Same.refl H, rfl, q⟩
theorem g_tupK {α : Type} {ds : α → List DV} {K : PySem.W.Frag} (is : List Nat) {kx : Nat} (hK : F.X.K = K) (hg : PGs F.X es (gNs is)) (hl : ∀ y, is.length = (ds y).length) (hc : F.X.calm = true) (hn : (assignEach es F.X.env).length = is.length) (hst : (assignEach es F.X.env).findIdx? (·.1) = none) :
    @Tg F (.Tuple es kx pos) α (tpRp ds) (gTup K is.length (gNs is)) is fun y env => setAll env is (ds y) := by
  subst hK
  exact g_tup is hg hl hc hn hst
/-- a tuple's item at a place that is reckoned -/
theorem k_ixTv {α β : Type} [Rp β] {ds : α → List DV} {Q : β → Prop} (h : @KE F env a ex α (tpRp ds) fun o => KE F env b ex fun i : Int => ∃ x : β, (0 ≤ i ∧ (ds o)[i.toNat]? = some (dv x)) ∧ Q x) (hs : PlainIx b := by intro _ _; rfl) : KE F env (.Subscript a b pos) ex Q := fun own σ H k p => by
  letI : Rp α := tpRp ds
  exact tE_of (pe_ix ix_tup peE peE hs) (two k p h fun v u o i H' s r1 r2 ⟨x, hx, q⟩ => by
    obtain ⟨l, vs, e1, e2, e3⟩ := r1
    cases r2
    obtain ⟨w, h1, h2⟩ := e3.get hx.2
    exact ⟨l, vs, i, w, e1, rfl, SqT.of (hid_of e2), at_nat hx.1 h1, x, s, h2, q⟩)
end
end Rk

set_option maxHeartbeats 4000000
/-! # Dicts whose keys are truth values, or tuples of ints and truth values -/
namespace Rk
open PySem L2 PyProof.Rows
/-- a key as data -/
inductive KeyD where
  | b (x : Bool)
  | t (xs : List Int)
  deriving DecidableEq
def numV : V → Option Int
  | .int i => some i
  | .bl b => some (b2 b)
  | _ => none
def KeyRep (H : Hp) (x : V) : KeyD → Prop
  | .b y => x = .bl y
  | .t ks => ∃ p vs, x = .ref p ∧ H p = some (.tup vs) ∧ vs.map numV = ks.map some
theorem KeyRep.mono {H H' : Hp} (e : Same H H') {x : V} : ∀ {k : KeyD}, KeyRep H x k → KeyRep H' x k
  | .b _, h => h
  | .t _, ⟨p, vs, h1, h2, h3⟩ => ⟨p, vs, h1, e _ _ h2, h3⟩
def hashD : KeyD → Int
  | .b x => PpSet.hB x
  | .t ks => reduceHash (Builtin.Tuple.tupleHashOf (ks.map hashInt))
abbrev nk (ks : List Int) : NestedKey := .tup (ks.map .num)
theorem nk_inj {a b : List Int} (h : nk a = nk b) : a = b := by
  unfold nk at h
  injection h with h
  induction a generalizing b with
  | nil => cases b with
    | nil => rfl
    | cons => cases h
  | cons x xs ih =>
    cases b with
    | nil => cases h
    | cons y ys =>
      rw [List.map_cons, List.map_cons] at h
      injection h with h1 h2
      injection h1 with h1
      rw [h1, ih h2]
theorem hashes_num (w : World) : ∀ ks : List Int, NestedKey.hashes w (ks.map .num) = ks.map hashInt
  | [] => rfl
  | k :: ks => by
    show NestedKey.hash w (.num k) :: NestedKey.hashes w (ks.map .num) = _
    rw [hashes_num w ks]; rfl
theorem hash_nk (w : World) (ks : List Int) : NestedKey.hash w (nk ks) = hashD (.t ks) := by
  show reduceHash (Builtin.Tuple.tupleHashOf (NestedKey.hashes w (ks.map .num))) = _
  rw [hashes_num]; rfl
theorem depth_num : ∀ ks : List Int, NestedKey.depthAll (ks.map .num) = 0
  | [] => rfl
  | k :: ks => by
    show max (NestedKey.depth (.num k)) (NestedKey.depthAll (ks.map .num)) = 0
    rw [depth_num ks]; rfl
theorem nested_one {h : Heap} {v : V} {i : Int} {u : Value} (e : numV v = some i) (r : RelV v u) : NestedIs h (.num i) u := by
  cases v with
  | int j =>
    have e : some j = some i := e
    cases e
    obtain ⟨t, q⟩ := (show ∃ t, u = Value.int i t from r)
    subst q
    exact .int _ _
  | bl b =>
    have e : some (b2 b) = some i := e
    cases e
    have q : u = Value.bool b := r
    subst q
    exact .bool rfl
  | _ => cases e
theorem nested_all {h : Heap} : ∀ {vs : List V} {us : List Value} {ks : List Int}, Vals vs us → vs.map numV = ks.map some → NestedAll h (ks.map .num) us
  | [], _, ks, r, e => by
    cases r
    cases ks with
    | nil => exact .nil
    | cons => cases e
  | v :: vs, _, ks, r, e => by
    cases r with
    | cons r1 r2 =>
      cases ks with
      | nil => cases e
      | cons k ks =>
        rw [List.map_cons, List.map_cons] at e
        injection e with e1 e2
        exact .cons (nested_one e1 r1) (nested_all r2 e2)
theorem nested_at {P : Program} {w : World} {H : Hp} {h : Heap} {p : Addr} {vs : List V} {ks : List Int} (ok : HOk P w H h) (e : H p = some (.tup vs)) (q : vs.map numV = ks.map some) : (nestedKind P w).is h (nk ks) p := by
  obtain ⟨_, its, r, o, h1, h2, n, h3⟩ := (show ObjOk P w H h p (.tup vs) from ok p _ e)
  refine ⟨.tup h1 h2 h3 ?_, ?_⟩
  · have z := nested_all (h := h) r q
    simpa using z
  · show NestedKey.depthAll (ks.map .num) + 1 ≤ 8
    rw [depth_num]; decide
/-! ### entries -/
structure En where
  h : Int
  k : V
  v : V
def EnOk (e : En) (d : DictEntry) : Prop := d.hash = e.h ∧ RelV e.k d.key ∧ RelV e.v d.val
def DictAt (a : Addr) (es : List En) (h : Heap) : Prop := es.length ≤ sizeLine ∧ (a == sysModules) = false ∧ ∃ o arr ep, h.get? a = some o ∧ o.ExactDict ∧ o.data = .dict arr ep ∧ Paired EnOk es arr.toList
/-- a dict of these entries at a -/
def DO (a : Addr) (es : List En) : HO := .ext (DictAt a es)
theorem dictAt_stays {a : Addr} {es : List En} (h1 h2 : Heap) (d : DictAt a es h1) (k : ∀ o, h1.get? a = some o → h2.get? a = some o) : DictAt a es h2 := by
  obtain ⟨l, s, o, arr, ep, ho, r⟩ := d
  exact ⟨l, s, o, arr, ep, k o ho, r⟩
theorem do_ok {P : Program} {w : World} {H : Hp} {h : Heap} {a : Addr} {es : List En} (d : DictAt a es h) : ObjOk P w H h a (DO a es) := by
  refine ⟨d, ?_, dictAt_stays⟩
  obtain ⟨_, _, o, _, _, ho, _⟩ := d
  exact ⟨o, ho⟩
theorem do_at {P : Program} {w : World} {H : Hp} {h : Heap} {a : Addr} {es : List En} (ok : HOk P w H h) (e : Rd H a (DO a es)) : DictAt a es h := (show ObjOk P w H h a (DO a es) from e.ok ok).1
abbrev KeysAt (H : Hp) (es : List En) (ks : List KeyD) : Prop := Paired (fun e k => e.h = hashD k ∧ KeyRep H e.k k) es ks
/-- tuple keys: the entries as the library's -/
theorem ents_t {P : Program} {w : World} {H : Hp} {h : Heap} (ok : HOk P w H h) : ∀ {es : List En} {ds : List DictEntry} {ks : List (List Int)}, Paired EnOk es ds → KeysAt H es (ks.map .t) →
    ∃ xs : List (NestedKey × Addr × Value), ds = xs.map (entryOfKey (nestedKind P w)) ∧ xs.map (·.1) = ks.map nk ∧ (∀ x ∈ xs, (nestedKind P w).is h x.1 x.2.1) ∧ Paired (fun (e : En) x => e.k = .ref x.2.1 ∧ RelV e.v x.2.2) es xs
  | [], ds, ks, p, q => by
    cases p
    cases ks with
    | nil => exact ⟨[], rfl, rfl, ⟨fun _ h => (List.not_mem_nil h).elim, .nil⟩⟩
    | cons => cases q
  | e :: es, ds, ks, p, q => by
    cases p with
    | @cons _ d _ ds p1 p2 =>
      cases ks with
      | nil => cases q
      | cons k ks =>
        cases q with
        | cons q1 q2 =>
          obtain ⟨xs, h1, h2, h3, h4⟩ := ents_t ok p2 q2
          obtain ⟨hh, hk, hv⟩ := p1
          obtain ⟨eh, b, vs, ek, hb, hn⟩ := q1
          rw [ek] at hk
          refine ⟨(nk k, b, d.val) :: xs, ?_, ?_, ?_, .cons ⟨ek, hv⟩ h4⟩
          · rw [List.map_cons, h1]
            congr 1
            obtain ⟨dh, dk, dv⟩ := d
            have hk : dk = Value.ref b := hk
            have hh : dh = e.h := hh
            unfold entryOfKey
            rw [hk, hh, eh]
            show _ = DictEntry.mk (NestedKey.hash w (nk k)) _ _
            rw [hash_nk]
          · rw [List.map_cons, List.map_cons, h2]
          · intro x hx
            rcases List.mem_cons.mp hx with rfl | hx
            · exact nested_at ok hb hn
            · exact h3 x hx
theorem nodup_nk {ks : List (List Int)} (h : ks.Nodup) : (ks.map nk).Nodup := List.Pairwise.map _ (fun a b n e => n (nk_inj e)) h
theorem nodup_t {ks : List (List Int)} (h : (ks.map KeyD.t).Nodup) : ks.Nodup := by
  rw [List.nodup_iff_pairwise_ne, List.pairwise_map] at h
  exact h.imp fun n e => n (by rw [e])
theorem nodup_b {ks : List Bool} (h : (ks.map KeyD.b).Nodup) : ks.Nodup := by
  rw [List.nodup_iff_pairwise_ne, List.pairwise_map] at h
  exact h.imp fun n e => n (by rw [e])
/-- keys that are truth values -/
theorem ents_b {P : Program} {w : World} {H : Hp} : ∀ {es : List En} {ds : List DictEntry} {ks : List Bool}, Paired EnOk es ds → KeysAt H es (ks.map .b) →
    ∃ xs : List (Bool × Value), Pairs (PpSet.boolK P w) ds xs ∧ xs.map (·.1) = ks ∧ (∀ d ∈ ds, ∃ k, (PpSet.boolK P w).is k d.key = true ∧ d.hash = (PpSet.boolK P w).hash k) ∧ Paired (fun (e : En) x => RelV e.v x.2) es xs
  | [], ds, ks, p, q => by
    cases p
    cases ks with
    | nil => exact ⟨[], .nil, rfl, ⟨fun _ h => (List.not_mem_nil h).elim, .nil⟩⟩
    | cons => cases q
  | e :: es, ds, ks, p, q => by
    cases p with
    | @cons _ d _ ds p1 p2 =>
      cases ks with
      | nil => cases q
      | cons k ks =>
        cases q with
        | cons q1 q2 =>
          obtain ⟨xs, h1, h2, h3, h4⟩ := ents_b (P := P) (w := w) p2 q2
          obtain ⟨hh, hk, hv⟩ := p1
          obtain ⟨eh, ek⟩ := q1
          have ek : e.k = V.bl k := ek
          rw [ek] at hk
          have hk : d.key = Value.bool k := hk
          have is : (PpSet.boolK P w).is k d.key = true := by rw [hk]; exact PpSet.boolK_is P w k
          refine ⟨(k, d.val) :: xs, .cons is rfl h1, ?_, ?_, .cons hv h4⟩
          · rw [List.map_cons, h2]
          · intro x hx
            rcases List.mem_cons.mp hx with rfl | hx
            · exact ⟨k, is, by rw [hh, eh]; rfl⟩
            · exact h3 x hx
/-! ### what the library says of them -/
inductive Hom : List KeyD → KeyD → Prop
  | b (ks : List Bool) (k : Bool) : Hom (ks.map .b) (.b k)
  | t (ks : List (List Int)) (k : List Int) : Hom (ks.map .t) (.t k)
theorem valueAt_get {κ : Type} [DecidableEq κ] : ∀ {xs : List (κ × Value)} {i : Nat} {k : κ} {v : Value}, (xs.map (·.1)).Nodup → xs[i]? = some (k, v) → valueAt xs k = some v
  | [], _, _, _, _, e => by simp at e
  | x :: xs, 0, k, v, _, e => by
    have e : x = (k, v) := by simpa using e
    subst e
    simp [valueAt]
  | x :: xs, i + 1, k, v, n, e => by
    rw [List.map_cons, List.nodup_cons] at n
    have e : xs[i]? = some (k, v) := by simpa using e
    have m : k ∈ xs.map (·.1) := List.mem_map.mpr ⟨(k, v), List.mem_of_getElem? e, rfl⟩
    have ne : ¬ x.1 = k := fun z => n.1 (z ▸ m)
    have ih := valueAt_get n.2 e
    unfold valueAt at ih ⊢
    rw [List.find?_cons]
    simp only [ne, decide_false]
    exact ih
theorem valueAt_in {κ : Type} [DecidableEq κ] (xs : List (κ × Value)) (k : κ) : (valueAt xs k).isSome = decide (k ∈ xs.map (·.1)) := by
  unfold valueAt
  rw [Option.isSome_map]
  by_cases h : k ∈ xs.map (·.1)
  · rw [decide_eq_true h]
    obtain ⟨x, hx, e⟩ := List.mem_map.mp h
    rw [List.find?_isSome]
    exact ⟨x, hx, by simp [e]⟩
  · rw [decide_eq_false h]
    cases q : xs.find? fun kv => decide (kv.1 = k) with
    | none => rfl
    | some x =>
      have := List.find?_some q
      exact absurd (List.mem_map.mpr ⟨x, List.mem_of_find?_eq_some q, by simpa using this⟩) h
theorem atKey_in {κ : Type} [DecidableEq κ] (xs : List (κ × Addr × Value)) (k : κ) : (atKey xs k).isSome = decide (k ∈ xs.map (·.1)) := by
  unfold atKey
  rw [Option.isSome_map]
  by_cases h : k ∈ xs.map (·.1)
  · rw [decide_eq_true h]
    obtain ⟨x, hx, e⟩ := List.mem_map.mp h
    rw [List.find?_isSome]
    exact ⟨x, hx, by simp [e]⟩
  · rw [decide_eq_false h]
    cases q : xs.find? fun kv => decide (kv.1 = k) with
    | none => rfl
    | some x =>
      have := List.find?_some q
      exact absurd (List.mem_map.mpr ⟨x, List.mem_of_find?_eq_some q, by simpa using this⟩) h
theorem mem_b {ks : List Bool} {k : Bool} : KeyD.b k ∈ ks.map KeyD.b ↔ k ∈ ks := by
  rw [List.mem_map]
  exact ⟨fun ⟨x, hx, e⟩ => by injection e with e; exact e ▸ hx, fun h => ⟨k, h, rfl⟩⟩
theorem mem_t {ks : List (List Int)} {k : List Int} : KeyD.t k ∈ ks.map KeyD.t ↔ nk k ∈ ks.map nk := by
  rw [List.mem_map, List.mem_map]
  exact ⟨fun ⟨x, hx, e⟩ => by injection e with e; exact ⟨x, hx, by rw [e]⟩, fun ⟨x, hx, e⟩ => ⟨x, hx, by rw [nk_inj e]⟩⟩
section
variable {X : Cx} {pins : List (Addr × Obj)} {σ : L2.St} {H : Hp} {s : Shared} {a : Addr} {es : List En} {ks : List KeyD} {k : KeyD} {y : V} {u : Value} {A : Around} {E : Value → Shared → Prop}
/-- the library's word for the dict at a: keys that are truth values -/
theorem lib_b {ks : List Bool} (I : Inv X pins σ H s) (hD : Rd H a (DO a es)) (hk : KeysAt H es (ks.map .b)) (nd : (ks.map KeyD.b).Nodup) :
    ∃ xs : List (Bool × Value), s.heap.DictOf (PpSet.boolK X.prog X.w) a xs ∧ xs.map (·.1) = ks ∧ Paired (fun (e : En) x => RelV e.v x.2) es xs ∧ (a == sysModules) = false ∧ es.length ≤ sizeLine := by
  obtain ⟨hl, hs, o, arr, ep, ho, hex, hd, hp⟩ := do_at I.hok hD
  obtain ⟨xs, h1, h2, h3, h4⟩ := ents_b (P := X.prog) (w := X.w) hp hk
  exact ⟨xs, ⟨o, arr, ep, ho, hex, hd, fun e he => h3 e (Array.mem_def.mp he), h1, by rw [h2]; exact nodup_b nd⟩, h2, h4, hs, hl⟩
theorem lib_t {ks : List (List Int)} (I : Inv X pins σ H s) (hD : Rd H a (DO a es)) (hk : KeysAt H es (ks.map .t)) (nd : (ks.map KeyD.t).Nodup) :
    ∃ xs : List (NestedKey × Addr × Value), s.heap.DictOfH (nestedKind X.prog X.w) a xs ∧ xs.map (·.1) = ks.map nk ∧ Paired (fun (e : En) x => e.k = .ref x.2.1 ∧ RelV e.v x.2.2) es xs ∧ (a == sysModules) = false ∧ es.length ≤ sizeLine := by
  obtain ⟨hl, hs, o, arr, ep, ho, hex, hd, hp⟩ := do_at I.hok hD
  obtain ⟨xs, h1, h2, h3, h4⟩ := ents_t I.hok hp hk
  exact ⟨xs, ⟨o, arr, ep, ho, hex, hd, h1, h3, by rw [h2]; exact nodup_nk (nodup_t nd)⟩, h2, h4, hs, hl⟩
theorem key_of_t {ks : List Int} (I : Inv X pins σ H s) (hy : KeyRep H y (.t ks)) (ry : RelV y u) : ∃ b, u = .ref b ∧ y = .ref b ∧ (nestedKind X.prog X.w).is s.heap (nk ks) b := by
  obtain ⟨p, vs, e, hp, hn⟩ := hy
  subst e
  exact ⟨p, ry, rfl, nested_at I.hok hp hn⟩
theorem key_of_b {b : Bool} (hy : KeyRep H y (.b b)) (ry : RelV y u) : u = .bool b := by
  have e : y = V.bl b := hy
  subst e
  exact ry
theorem room_nk (hu : A.units + 16 < cLine) : (nestedKind X.prog X.w).room A.in1 := by
  show A.in1.units + 8 < cLine
  rw [Around.in1_units]; omega
/-- d[k], there -/
theorem dx_get {i : Nat} {e : En} {Q : Value → Shared → Prop} (hu : A.units + 16 < cLine) (I : Inv X pins σ H s) (hD : Rd H a (DO a es)) (hk : KeysAt H es ks) (nd : ks.Nodup) (hom : Hom ks k) (he : es[i]? = some e) (hi : ks[i]? = some k) (hy : KeyRep H y k) (ry : RelV y u)
    (h : ∀ w' s', Inv X pins σ H s' → RelV e.v w' → Q w' s') : wpAny (model X.prog X.w) A (getItem (.ref a) u) Q E s := by
  cases hom with
  | b ks k =>
    obtain ⟨xs, dd, hx, hp, _, _⟩ := lib_b I hD hk nd
    rw [key_of_b hy ry]
    obtain ⟨⟨k', w'⟩, hxi, hr⟩ := paired_get hp he
    have hki : (xs.map (·.1))[i]? = some k := by
      rw [hx]
      rw [List.getElem?_map] at hi
      cases q : ks[i]? with
      | none => rw [q] at hi; cases hi
      | some z =>
        rw [q] at hi
        have hi : KeyD.b z = KeyD.b k := Option.some.inj hi
        injection hi with hi
        rw [hi]
    have ek : k' = k := by
      rw [List.getElem?_map, hxi] at hki
      exact Option.some.inj hki
    subst ek
    refine wpAny_getItem_of (PpSet.boolK_is _ _ k') dd.mapOf (valueAt_get (by rw [hx]; exact nodup_b nd) hxi) (h w' _ (I.tok _) hr)
  | t ks k =>
    obtain ⟨xs, dd, hx, hp, _, _⟩ := lib_t I hD hk nd
    obtain ⟨b, eu, _, is⟩ := key_of_t I hy ry
    rw [eu]
    obtain ⟨⟨k', p⟩, hxi, _, hr⟩ := paired_get hp he
    have hki : (xs.map (·.1))[i]? = some (nk k) := by
      rw [hx, List.getElem?_map]
      rw [List.getElem?_map] at hi
      cases q : ks[i]? with
      | none => rw [q] at hi; cases hi
      | some z =>
        rw [q] at hi
        have hi : KeyD.t z = KeyD.t k := Option.some.inj hi
        injection hi with hi
        rw [hi]; rfl
    have ek : k' = nk k := by
      rw [List.getElem?_map, hxi] at hki
      exact Option.some.inj hki
    subst ek
    exact wpAny_getItem_heap (room_nk hu) is dd (atKey_of_get (by rw [hx]; exact nodup_nk (nodup_t nd)) hxi) (h p.2 _ (I.tok _) hr)
/-- k in d -/
theorem dx_in {Q : Value → Shared → Prop} (hu : A.units + 16 < cLine) (I : Inv X pins σ H s) (hD : Rd H a (DO a es)) (hk : KeysAt H es ks) (nd : ks.Nodup) (hom : Hom ks k) (hy : KeyRep H y k) (ry : RelV y u)
    (h : ∀ s', Inv X pins σ H s' → Q (.bool (decide (k ∈ ks))) s') : wpAny (model X.prog X.w) A (compareOp .In u (.ref a)) Q E s := by
  cases hom with
  | b ks k =>
    obtain ⟨xs, dd, hx, hp, hs, _⟩ := lib_b I hD hk nd
    rw [key_of_b hy ry]
    refine wpAny_in_of (PpSet.boolK_is _ _ k) hs dd.mapOf ?_
    rw [valueAt_in, hx, ← decide_eq_decide.mpr (mem_b (ks := ks) (k := k))]
    exact h _ (I.tok _)
  | t ks k =>
    obtain ⟨xs, dd, hx, hp, hs, _⟩ := lib_t I hD hk nd
    obtain ⟨b, eu, _, is⟩ := key_of_t I hy ry
    rw [eu]
    refine wpAny_in_heap (room_nk hu) is hs dd ?_
    rw [atKey_in, hx, ← decide_eq_decide.mpr (mem_t (ks := ks) (k := k))]
    exact h _ (I.tok _)
theorem dx_notIn {Q : Value → Shared → Prop} (hu : A.units + 16 < cLine) (I : Inv X pins σ H s) (hD : Rd H a (DO a es)) (hk : KeysAt H es ks) (nd : ks.Nodup) (hom : Hom ks k) (hy : KeyRep H y k) (ry : RelV y u)
    (h : ∀ s', Inv X pins σ H s' → Q (.bool (!decide (k ∈ ks))) s') : wpAny (model X.prog X.w) A (compareOp .NotIn u (.ref a)) Q E s := by
  cases hom with
  | b ks k =>
    obtain ⟨xs, dd, hx, hp, hs, _⟩ := lib_b I hD hk nd
    rw [key_of_b hy ry]
    refine wpAny_notIn_of (PpSet.boolK_is _ _ k) hs dd.mapOf ?_
    rw [valueAt_in, hx, ← decide_eq_decide.mpr (mem_b (ks := ks) (k := k))]
    exact h _ (I.tok _)
  | t ks k =>
    obtain ⟨xs, dd, hx, hp, hs, _⟩ := lib_t I hD hk nd
    obtain ⟨b, eu, _, is⟩ := key_of_t I hy ry
    rw [eu]
    refine wpAny_notIn_heap (room_nk hu) is hs dd ?_
    rw [atKey_in, hx, ← decide_eq_decide.mpr (mem_t (ks := ks) (k := k))]
    exact h _ (I.tok _)
end
end Rk

set_option maxHeartbeats 4000000
/-! # Dicts of own keys: written -/
namespace Rk
open PySem L2 PyProof.Rows
theorem back_b {P : Program} {w : World} {H : Hp} : ∀ {es : List En} {ds : List DictEntry} {xs : List (Bool × Value)} {ks : List Bool}, Pairs (PpSet.boolK P w) ds xs → (∀ d ∈ ds, ∃ k, (PpSet.boolK P w).is k d.key = true ∧ d.hash = (PpSet.boolK P w).hash k) → xs.map (·.1) = ks → KeysAt H es (ks.map .b) →
    Paired (fun (e : En) x => RelV e.v x.2) es xs → Paired EnOk es ds
  | [], _, _, _, p, _, _, _, v => by
    cases v
    cases p
    exact .nil
  | e :: es, _, _, ks, p, q, hx, hk, v => by
    cases v with
    | cons v1 v2 =>
      cases p with
      | cons p1 p2 p3 =>
        rw [List.map_cons] at hx
        subst hx
        rw [List.map_cons] at hk
        cases hk with
        | cons k1 k2 =>
          refine .cons ⟨?_, ?_, ?_⟩ (back_b p3 (fun d hd => q d (List.mem_cons_of_mem _ hd)) rfl k2 v2)
          · obtain ⟨k, h1, h2⟩ := q _ List.mem_cons_self
            have e1 := PpSet.isB_shape h1
            have e2 := PpSet.isB_shape p1
            rw [e1] at e2
            injection e2 with e2
            rw [h2, k1.1, e2]; rfl
          · have e2 := PpSet.isB_shape p1
            rw [e2, show e.k = _ from k1.2]; rfl
          · rw [p2]; exact v1
theorem back_t {P : Program} {w : World} {H : Hp} : ∀ {es : List En} {xs : List (NestedKey × Addr × Value)} {ks : List (List Int)}, xs.map (·.1) = ks.map nk → KeysAt H es (ks.map .t) → Paired (fun (e : En) x => e.k = .ref x.2.1 ∧ RelV e.v x.2.2) es xs → Paired EnOk es (xs.map (entryOfKey (nestedKind P w)))
  | [], _, _, _, _, v => by
    cases v
    exact .nil
  | e :: es, _, ks, hx, hk, v => by
    cases v with
    | @cons _ x _ xs v1 v2 =>
      cases ks with
      | nil => cases hk
      | cons k ks =>
        rw [List.map_cons, List.map_cons] at hx
        injection hx with hx1 hx2
        rw [List.map_cons] at hk
        cases hk with
        | cons k1 k2 =>
          refine .cons ⟨?_, ?_, v1.2⟩ (back_t hx2 k2 v2)
          · show NestedKey.hash w x.1 = e.h
            rw [hx1, hash_nk, k1.1]
          · show RelV e.k (.ref x.2.1)
            rw [v1.1]; rfl
section
variable {X : Cx} {pins : List (Addr × Obj)} {σ : L2.St} {H : Hp} {s : Shared} {a : Addr} {es : List En} {ks : List KeyD} {k : KeyD} {y v : V} {u r : Value} {A : Around} {E : Value → Shared → Prop}
theorem stored_new {κ : Type} [DecidableEq κ] {xs : List (κ × Value)} {k : κ} {r : Value} (h : k ∉ xs.map (·.1)) : stored xs k r = xs ++ [(k, r)] := by
  unfold stored
  rw [if_neg]
  intro z
  rw [List.any_eq_true] at z
  obtain ⟨x, hx, e⟩ := z
  exact h (List.mem_map.mpr ⟨x, hx, by simpa using e⟩)
theorem storedT_new {κ : Type} [DecidableEq κ] {xs : List (κ × Addr × Value)} {k : κ} {b : Addr} {r : Value} (h : k ∉ xs.map (·.1)) : storedH xs k b r = xs ++ [(k, b, r)] := by
  refine storedH_new ?_ b r
  cases q : atKey xs k with
  | none => rfl
  | some p =>
    have z := atKey_in xs k
    rw [q, decide_eq_false h] at z
    cases z
/-- the heap behind a key that was not there is stored -/
theorem put_b {ks : List Bool} {k : Bool} {xs : List (Bool × Value)} {h' : Heap} (hx : xs.map (·.1) = ks) (hp : Paired (fun (e : En) x => RelV e.v x.2) es xs) (hk : KeysAt H es (ks.map .b)) (hn : KeyD.b k ∉ ks.map KeyD.b) (hy : KeyRep H y (.b k)) (rv : RelV v r) (hs : (a == sysModules) = false) (hl : es.length < sizeLine)
    (dd : h'.DictOf (PpSet.boolK X.prog X.w) a (stored xs k r)) : DictAt a (es ++ [⟨hashD (.b k), y, v⟩]) h' := by
  rw [stored_new (by rw [hx]; exact fun z => hn (mem_b.mpr z))] at dd
  obtain ⟨o, arr, ep, ho, hex, hd, hko, hpr, _⟩ := dd
  refine ⟨by rw [List.length_append]; exact hl, hs, o, arr, ep, ho, hex, hd, ?_⟩
  refine back_b (H := H) (ks := ks ++ [k]) hpr (fun d hd => hko d (Array.mem_def.mpr hd)) (by rw [List.map_append, hx]; rfl) ?_ (Paired.snoc hp rv)
  rw [List.map_append]
  exact Paired.snoc hk ⟨rfl, hy⟩
theorem put_t {ks : List (List Int)} {k : List Int} {xs : List (NestedKey × Addr × Value)} {b : Addr} {h' : Heap} (hx : xs.map (·.1) = ks.map nk) (hp : Paired (fun (e : En) x => e.k = .ref x.2.1 ∧ RelV e.v x.2.2) es xs) (hk : KeysAt H es (ks.map .t)) (hn : KeyD.t k ∉ ks.map KeyD.t) (hy : KeyRep H y (.t k)) (ey : y = .ref b) (rv : RelV v r)
    (hs : (a == sysModules) = false) (hl : es.length < sizeLine) (dd : h'.DictOfH (nestedKind X.prog X.w) a (storedH xs (nk k) b r)) : DictAt a (es ++ [⟨hashD (.t k), y, v⟩]) h' := by
  rw [storedT_new (by rw [hx]; exact fun z => hn (mem_t.mpr z))] at dd
  obtain ⟨o, arr, ep, ho, hex, hd, hpr, _, _⟩ := dd
  refine ⟨by rw [List.length_append]; exact hl, hs, o, arr, ep, ho, hex, hd, ?_⟩
  rw [hpr]
  refine back_t (H := H) (ks := ks ++ [k]) (by rw [List.map_append, List.map_append, hx]; rfl) ?_ (Paired.snoc hp ⟨ey, rv⟩)
  rw [List.map_append]
  exact Paired.snoc hk ⟨rfl, hy⟩
theorem dx_dictSet {Q : Unit → Shared → Prop} (hu : A.units + 16 < cLine) (I : Inv X pins σ H s) (hD : H a = some (DO a es)) (hk : KeysAt H es ks) (nd : ks.Nodup) (hom : Hom ks k) (hn : k ∉ ks) (hl : es.length < sizeLine) (hy : KeyRep H y k) (ry : RelV y u) (rv : RelV v r)
    (h : ∀ s', Inv X pins σ (upd H a (DO a (es ++ [⟨hashD k, y, v⟩]))) s' → Q () s') : wpAny (model X.prog X.w) A (dictSet a u r) Q E s := by
  cases hom with
  | b ks k =>
    obtain ⟨xs, dd, hx, hp, hs, hl0⟩ := lib_b I (.of hD) hk nd
    have lx : xs.length = es.length := (Paired.length hp).symm
    rw [key_of_b hy ry]
    refine wpAny_dictSet_pairs (hsz := by rw [lx]; exact hl0) (PpSet.boolK_is _ _ k) dd fun h' dd' sb => h _ ?_
    have na := put_b (X := X) hx hp hk hn hy rv hs hl dd'
    exact d_write I (by rw [hD]; exact True.intro) sb (let ⟨_, _, q, _, _, hq, _⟩ := na; ⟨q, hq⟩) (do_ok na)
  | t ks k =>
    obtain ⟨xs, dd, hx, hp, hs, hl0⟩ := lib_t I (.of hD) hk nd
    obtain ⟨b, eu, ey, is⟩ := key_of_t I hy ry
    have lx : xs.length = es.length := (Paired.length hp).symm
    rw [eu]
    refine wpAny_dictSet_heap (hsz := by rw [lx]; exact hl0) (by show A.units + 8 < cLine; omega) is dd fun h' dd' sb => h _ ?_
    have na := put_t (X := X) hx hp hk hn hy ey rv hs hl dd'
    exact d_write I (by rw [hD]; exact True.intro) sb (let ⟨_, _, q, _, _, hq, _⟩ := na; ⟨q, hq⟩) (do_ok na)
theorem dx_setItem {Q : Unit → Shared → Prop} (hu : A.units + 16 < cLine) (I : Inv X pins σ H s) (hD : H a = some (DO a es)) (hk : KeysAt H es ks) (nd : ks.Nodup) (hom : Hom ks k) (hn : k ∉ ks) (hl : es.length < sizeLine) (hy : KeyRep H y k) (ry : RelV y u) (rv : RelV v r)
    (h : ∀ s', Inv X pins σ (upd H a (DO a (es ++ [⟨hashD k, y, v⟩]))) s' → Q () s') : wpAny (model X.prog X.w) A (setItem (.ref a) u r) Q E s := by
  cases hom with
  | b ks k =>
    obtain ⟨xs, dd, hx, hp, hs, hl0⟩ := lib_b I (.of hD) hk nd
    have lx : xs.length = es.length := (Paired.length hp).symm
    rw [key_of_b hy ry]
    refine wpAny_setItem_pairs (hsz := by rw [lx]; exact hl0) (PpSet.boolK_is _ _ k) dd fun h' dd' sb => h _ ?_
    have na := put_b (X := X) hx hp hk hn hy rv hs hl dd'
    exact d_write I (by rw [hD]; exact True.intro) sb (let ⟨_, _, q, _, _, hq, _⟩ := na; ⟨q, hq⟩) (do_ok na)
  | t ks k =>
    obtain ⟨xs, dd, hx, hp, hs, hl0⟩ := lib_t I (.of hD) hk nd
    obtain ⟨b, eu, ey, is⟩ := key_of_t I hy ry
    have lx : xs.length = es.length := (Paired.length hp).symm
    rw [eu]
    refine wpAny_setItem_heap (hsz := by rw [lx]; exact hl0) (room_nk hu) is dd fun h' dd' sb => h _ ?_
    have na := put_t (X := X) hx hp hk hn hy ey rv hs hl dd'
    exact d_write I (by rw [hD]; exact True.intro) sb (let ⟨_, _, q, _, _, hq, _⟩ := na; ⟨q, hq⟩) (do_ok na)
theorem do_empty {P : Program} {w : World} {H : Hp} (h : Heap) (hb : sysModules < h.objs.size) : ObjOk P w H (h.push { cls := .type "dict", data := .dict #[] }) h.objs.size (DO h.objs.size []) :=
  do_ok ⟨Nat.zero_le _, beq_eq_false_iff_ne.mpr (Ne.symm (Nat.ne_of_lt hb)), _, #[], 0, Heap.get?_push_size _ rfl, ⟨rfl, rfl, rfl⟩, rfl, .nil⟩
/-- {} -/
theorem pe_dnewX {pos : Pos} : PE X (.Dict [] [] pos) (fun _ H Q => ∀ p, H p = none → Q (.ref p) (upd H p (DO p []))) := ⟨fun pins s σ H Q I h =>
  wpAny_Dict_empty ⟨.ref s.heap.objs.size, _, I.laid (a := s.heap.objs.size) (o := DO s.heap.objs.size []) (t' := s.toks) (fun _ _ q => Heap.get?_push_of_some _ q) (Nat.le_refl _) (do_empty s.heap I.big), rfl, h _ (I.hok.fresh (Nat.le_refl _))⟩⟩
/-- d[k] -/
theorem pe_dgetX {o i : Expr} {pos : Pos} {td ty : TE} (hu : X.A.units + 16 < cLine) (ho : PE X o td) (hi : PE X i ty) (hs : NoSl i) :
    PE X (.Subscript o i pos) (fun σ H Q => td σ H fun x H1 => ty σ H1 fun y H2 => ∃ (a : Addr) (es : List En) (ks : List KeyD) (j : Nat) (e : En) (k : KeyD), x = .ref a ∧ Rd H2 a (DO a es) ∧ KeysAt H2 es ks ∧ ks.Nodup ∧ Hom ks k ∧ es[j]? = some e ∧ ks[j]? = some k ∧ KeyRep H2 y k ∧ Q e.v H2) := by
  refine ⟨fun pins s σ H Q I h => ?_⟩
  refine subD_of PySem.F.slot_dict_getitem.lookup hs (thn (ho.run pins s σ H _ I h) fun u s1 ⟨x, H1, I1, rx, q1⟩ => thn (hi.run pins s1 σ H1 _ I1 q1) fun iv s2 ⟨y, H2, I2, ry, a, es, ks, j, e, k, ex, hD, hk, nd, hom, he, hkj, hy, q2⟩ => ?_)
  subst ex
  obtain rfl : u = Value.ref a := rx
  refine ⟨?_, dx_get hu I2 hD hk nd hom he hkj hy ry fun w' s3 I3 rw' => ⟨e.v, H2, I3, rw', q2⟩⟩
  obtain ⟨_, _, ob, _, _, hob, hex, _⟩ := do_at I2.hok hD
  exact ⟨ob, hob, hex.1⟩
theorem pc_dinX {o i : Expr} {td ty : TE} (hu : X.A.units + 16 < cLine) (hi : PE X i ty) (ho : PE X o td) :
    PC X .In i o (fun σ H Q => ty σ H fun y H1 => td σ H1 fun x H2 => ∃ a es ks k, x = .ref a ∧ Rd H2 a (DO a es) ∧ KeysAt H2 es ks ∧ ks.Nodup ∧ Hom ks k ∧ KeyRep H2 y k ∧ Q (.bl (decide (k ∈ ks))) H2) := by
  refine ⟨fun pins s σ H Q I h => ?_⟩
  refine thn (hi.run pins s σ H _ I h) fun iv s1 ⟨y, H1, I1, ry, q1⟩ => thn (ho.run pins s1 σ H1 _ I1 q1) fun u s2 ⟨x, H2, I2, rx, a, es, ks, k, ex, hD, hk, nd, hom, hy, q2⟩ => ?_
  subst ex
  obtain rfl : u = Value.ref a := rx
  exact dx_in hu I2 hD hk nd hom hy ry fun s3 I3 => ⟨.bl (decide (k ∈ ks)), H2, I3, rfl, q2⟩
theorem pc_dnotinX {o i : Expr} {td ty : TE} (hu : X.A.units + 16 < cLine) (hi : PE X i ty) (ho : PE X o td) :
    PC X .NotIn i o (fun σ H Q => ty σ H fun y H1 => td σ H1 fun x H2 => ∃ a es ks k, x = .ref a ∧ Rd H2 a (DO a es) ∧ KeysAt H2 es ks ∧ ks.Nodup ∧ Hom ks k ∧ KeyRep H2 y k ∧ Q (.bl (!decide (k ∈ ks))) H2) := by
  refine ⟨fun pins s σ H Q I h => ?_⟩
  refine thn (hi.run pins s σ H _ I h) fun iv s1 ⟨y, H1, I1, ry, q1⟩ => thn (ho.run pins s1 σ H1 _ I1 q1) fun u s2 ⟨x, H2, I2, rx, a, es, ks, k, ex, hD, hk, nd, hom, hy, q2⟩ => ?_
  subst ex
  obtain rfl : u = Value.ref a := rx
  exact dx_notIn hu I2 hD hk nd hom hy ry fun s3 I3 => ⟨.bl (!decide (k ∈ ks)), H2, I3, rfl, q2⟩
/-- d[k] = v, k not there -/
theorem ps_dputX {o i value : Expr} {pos pos' : Pos} {td ty tv : TE} (hu : X.A.units + 16 < cLine) (ho : PE X o td) (hi : PE X i ty) (hv : PE X value tv) (hs : swapsWith value (some (.Subscript o i pos')) pos.line X.env = pure false) :
    PS X (.Assign [.Subscript o i pos'] value pos) (fun D σ H => tv σ H fun v H1 => td σ H1 fun x H2 => ty σ H2 fun y H3 => ∃ a es ks k, x = .ref a ∧ H3 a = some (DO a es) ∧ KeysAt H3 es ks ∧ ks.Nodup ∧ Hom ks k ∧ k ∉ ks ∧ es.length < sizeLine ∧ KeyRep H3 y k ∧ D.nx σ (upd H3 a (DO a (es ++ [⟨hashD k, y, v⟩])))) := by
  refine ⟨fun pins s σ H D I h => ?_⟩
  refine wpAny_Assign_Subscript (thn (hv.run pins s σ H _ I h) fun r s1 ⟨v, H1, I1, rv, q1⟩ => thn (ho.run pins s1 σ H1 _ I1 q1) fun u s2 ⟨x, H2, I2, rx, q2⟩ => thn (hi.run pins s2 σ H2 _ I2 q2) fun iv s3 ⟨y, H3, I3, ry, a, es, ks, k, ex, hD, hk, nd, hom, hn, hl, hy, q3⟩ => ?_) hs
  subst ex
  obtain rfl : u = Value.ref a := rx
  exact dx_setItem hu I3 hD hk nd hom hn hl hy ry rv fun s4 I4 => ⟨σ, _, I4, q3⟩
end
end Rk

set_option maxHeartbeats 4000000
/-! # Dicts of own keys as data -/
namespace Rk
open PySem L2 PyProof.Rows
/-- data that are keys -/
class Ky (κ : Type) [Rp κ] where
  kd : κ → KeyD
  hom : (∃ f : κ → Bool, ∀ k, kd k = .b (f k)) ∨ ∃ f : κ → List Int, ∀ k, kd k = .t (f k)
  inj : ∀ {a b : κ}, kd a = kd b → a = b
  rep : ∀ {G : Gm} {H : Hp} {v : V} {k : κ}, Rp.rep G H v k → KeyRep H v (kd k)
theorem b2_inj {a b : Bool} (h : b2 a = b2 b) : a = b := by cases a <;> cases b <;> first | rfl | (exact absurd h (by decide))
instance : Ky Bool := ⟨.b, .inl ⟨id, fun _ => rfl⟩, fun h => by injection h, fun h => h⟩
instance : Ky (Bool × Int) := ⟨fun p => .t [b2 p.1, p.2], .inr ⟨_, fun _ => rfl⟩, fun {a b} h => by
    injection h with h
    injection h with h1 h2
    injection h2 with h2 _
    exact Prod.ext (b2_inj h1) h2, fun {G H v k} ⟨p, vs, e1, e2, e3⟩ => by
    match vs, e3 with
    | [x, y], e3 =>
      have h1 : x = V.bl k.1 := e3.1
      have h2 : y = V.int k.2 := e3.2.1
      exact ⟨p, _, e1, e2, by rw [h1, h2]; rfl⟩⟩
section
variable {κ β : Type} [Rp κ] [Ky κ] [Rp β]
structure Dic (κ β : Type) where
  kvs : List (κ × β)
def EnsRep (G : Gm) (H : Hp) (es : List En) (kvs : List (κ × β)) : Prop := Paired (fun (e : En) kv => e.h = hashD (Ky.kd kv.1) ∧ Rp.rep G H e.k kv.1 ∧ Rp.rep G H e.v kv.2) es kvs
theorem EnsRep.mono {G : Gm} {H H' : Hp} (s : Same H H') {es : List En} {kvs : List (κ × β)} (h : EnsRep G H es kvs) : EnsRep G H' es kvs := Paired.mapP h fun _ _ z => ⟨z.1, Rp.mono s z.2.1, Rp.mono s z.2.2⟩
theorem EnsRep.keys {G : Gm} {H : Hp} {es : List En} {kvs : List (κ × β)} (h : EnsRep G H es kvs) : KeysAt H es (kvs.map fun kv => Ky.kd kv.1) := by
  unfold EnsRep at h
  induction h with
  | nil => exact .nil
  | cons r t ih => exact .cons ⟨r.1, Ky.rep r.2.1⟩ ih
theorem KeysAt.mono {H H' : Hp} (s : Same H H') {es : List En} {ks : List KeyD} (h : KeysAt H es ks) : KeysAt H' es ks := Paired.mapP h fun _ _ z => ⟨z.1, z.2.mono s⟩
theorem nodup_kd {kvs : List (κ × β)} (h : (kvs.map Prod.fst).Nodup) : (kvs.map fun kv => Ky.kd kv.1).Nodup := by
  rw [List.nodup_iff_pairwise_ne, List.pairwise_map] at h ⊢
  exact h.imp fun n e => n (Ky.inj e)
theorem hom_kd (kvs : List (κ × β)) (k : κ) : Hom (kvs.map fun kv => Ky.kd kv.1) (Ky.kd k) := by
  rcases (Ky.hom : (∃ f : κ → Bool, ∀ k, Ky.kd k = .b (f k)) ∨ ∃ f : κ → List Int, ∀ k, Ky.kd k = .t (f k)) with ⟨f, hf⟩ | ⟨f, hf⟩
  · have e : (kvs.map fun kv => Ky.kd kv.1) = (kvs.map fun kv => f kv.1).map .b := by
      rw [List.map_map]; exact List.map_congr_left fun kv _ => hf kv.1
    rw [e, hf]; exact .b _ _
  · have e : (kvs.map fun kv => Ky.kd kv.1) = (kvs.map fun kv => f kv.1).map .t := by
      rw [List.map_map]; exact List.map_congr_left fun kv _ => hf kv.1
    rw [e, hf]; exact .t _ _
theorem mem_kd {kvs : List (κ × β)} {k : κ} : Ky.kd k ∈ (kvs.map fun kv => Ky.kd kv.1) ↔ k ∈ kvs.map Prod.fst := by
  rw [List.mem_map, List.mem_map]
  exact ⟨fun ⟨x, hx, e⟩ => ⟨x, hx, Ky.inj e⟩, fun ⟨x, hx, e⟩ => ⟨x, hx, by rw [e]⟩⟩
instance : Rp (Dic κ β) where
  rep := fun G H v d => ∃ p o es, v = .ref p ∧ H p = some (.frz o (DO p es)) ∧ EnsRep G H es d.kvs ∧ (d.kvs.map Prod.fst).Nodup
  mono := fun e ⟨p, o, es, h1, h2, h3, h4⟩ => ⟨p, o, es, h1, e _ _ h2, h3.mono e, h4⟩
def odict (kvs : List (κ × β)) : OV := ⟨fun G H p o => ∃ es, o = DO p es ∧ EnsRep G H es kvs ∧ (kvs.map Prod.fst).Nodup, fun e ⟨es, h1, h2, h3⟩ => ⟨es, h1, h2.mono e, h3⟩⟩
section
variable {F : Fx} {env : List Ent} {ex : XP} {a b c e it : Expr} {es : List Expr} {pos p0 p1 p2 p3 : Pos} {n x : Str} {P : Po} {st : Stmt} {sts ss body : List Stmt}
/-- d[k], there -/
theorem k_ixD {Q : β → Prop} (hu : F.X.A.units + 64 < cLine) (h : KE F env a ex fun d : Dic κ β => KE F env b ex fun k : κ => ∃ x, (k, x) ∈ d.kvs ∧ Q x) (hs : NoSl b := by intro _ _; rfl) : KE F env (.Subscript a b pos) ex Q := fun own σ H k p =>
  tE_of (pe_dgetX (by omega) peE peE hs) (two k p h fun v u d kk H' s r1 r2 ⟨x, hx, q⟩ => by
    obtain ⟨l, o, es, e1, e2, e3, e4⟩ := r1
    obtain ⟨j, hj⟩ := List.mem_iff_getElem?.mp hx
    obtain ⟨e, he, g⟩ : ∃ e, es[j]? = some e ∧ Rp.rep F.G (Hid (hd F.hs own) H') e.v x := by
      have l1 : es.length = d.kvs.length := Paired.length e3
      have lj : j < d.kvs.length := (List.getElem?_eq_some_iff.mp hj).1
      have q := List.getElem?_eq_getElem (l := es) (i := j) (by omega)
      obtain ⟨kv, h1, h2⟩ := paired_get e3 q
      rw [hj] at h1
      cases h1
      exact ⟨_, q, h2.2.2⟩
    refine ⟨l, es, _, j, e, Ky.kd kk, e1, .inr ⟨o, hid_of e2⟩, (KeysAt.mono hid_le e3.keys), nodup_kd e4, hom_kd _ _, he, ?_, (Ky.rep r2).mono hid_le, x, s, g, q⟩
    rw [List.getElem?_map, hj]; rfl)
def rInX : R2 := fun x y H Q => ∃ (a : Addr) (es : List En) (ks : List KeyD) (k : KeyD), y = .ref a ∧ Rd H a (DO a es) ∧ KeysAt H es ks ∧ ks.Nodup ∧ Hom ks k ∧ KeyRep H x k ∧ Q (.bl (decide (k ∈ ks))) H
def rNotInX : R2 := fun x y H Q => ∃ (a : Addr) (es : List En) (ks : List KeyD) (k : KeyD), y = .ref a ∧ Rd H a (DO a es) ∧ KeysAt H es ks ∧ ks.Nodup ∧ Hom ks k ∧ KeyRep H x k ∧ Q (.bl (!decide (k ∈ ks))) H
theorem op_inX {X : Cx} (hu : X.A.units + 16 < cLine) : OpR X (compareOp .In) rInX := by
  intro pins s σ H x y v u Q I rx ry h
  obtain ⟨a, es, ks, k, ey, hD, hk, nd, hom, hy, q⟩ := h
  subst ey
  have eu : u = Value.ref a := ry
  subst eu
  exact dx_in hu I hD hk nd hom hy rx fun s3 I3 => ⟨.bl (decide (k ∈ ks)), H, I3, rfl, q⟩
theorem op_notinX {X : Cx} (hu : X.A.units + 16 < cLine) : OpR X (compareOp .NotIn) rNotInX := by
  intro pins s σ H x y v u Q I rx ry h
  obtain ⟨a, es, ks, k, ey, hD, hk, nd, hom, hy, q⟩ := h
  subst ey
  have eu : u = Value.ref a := ry
  subst eu
  exact dx_notIn hu I hD hk nd hom hy rx fun s3 I3 => ⟨.bl (!decide (k ∈ ks)), H, I3, rfl, q⟩
theorem k_inD [DecidableEq κ] {Q : Bool → Prop} (hu : F.X.A.units + 64 < cLine) (h : KE F env a ex fun k : κ => KE F env b ex fun d : Dic κ β => Q (decide (k ∈ d.kvs.map Prod.fst))) (hm : behindInMarks .In b = false := by with_unfolding_all rfl) : KE F env (.Compare a [.In] [b] pos) ex Q :=
  k_cmp (op_inX (by omega)) h (fun _ _ _ _ _ _ x d s _ r1 r2 q => by
    obtain ⟨l, o, es, e1, e2, e3, e4⟩ := r2
    refine ⟨l, es, _, Ky.kd x, e1, .inr ⟨o, hid_of e2⟩, KeysAt.mono hid_le e3.keys, nodup_kd e4, hom_kd _ _, (Ky.rep r1).mono hid_le, _, s, rfl, ?_⟩
    rw [decide_eq_decide.mpr (mem_kd (kvs := d.kvs) (k := x))]
    exact q) hm
theorem t_inD [DecidableEq κ] {Q : Bool → Prop} (hu : F.X.A.units + 64 < cLine) (h : KE F env a ex fun k : κ => KE F env b ex fun d : Dic κ β => Q (decide (k ∈ d.kvs.map Prod.fst))) (hm : behindInMarks .In b = false := by with_unfolding_all rfl) : KT F env (.Compare a [.In] [b] pos) ex Q :=
  t_cmp (op_inX (by omega)) h (fun _ _ _ _ _ _ x d s _ r1 r2 q => by
    obtain ⟨l, o, es, e1, e2, e3, e4⟩ := r2
    refine ⟨l, es, _, Ky.kd x, e1, .inr ⟨o, hid_of e2⟩, KeysAt.mono hid_le e3.keys, nodup_kd e4, hom_kd _ _, (Ky.rep r1).mono hid_le, _, rfl, s, ?_⟩
    rw [decide_eq_decide.mpr (mem_kd (kvs := d.kvs) (k := x))]
    exact q) hm
theorem t_notinD [DecidableEq κ] {Q : Bool → Prop} (hu : F.X.A.units + 64 < cLine) (h : KE F env a ex fun k : κ => KE F env b ex fun d : Dic κ β => Q (!decide (k ∈ d.kvs.map Prod.fst))) (hm : behindInMarks .NotIn b = false := by with_unfolding_all rfl) : KT F env (.Compare a [.NotIn] [b] pos) ex Q :=
  t_cmp (op_notinX (by omega)) h (fun _ _ _ _ _ _ x d s _ r1 r2 q => by
    obtain ⟨l, o, es, e1, e2, e3, e4⟩ := r2
    refine ⟨l, es, _, Ky.kd x, e1, .inr ⟨o, hid_of e2⟩, KeysAt.mono hid_le e3.keys, nodup_kd e4, hom_kd _ _, (Ky.rep r1).mono hid_le, _, rfl, s, ?_⟩
    rw [decide_eq_decide.mpr (mem_kd (kvs := d.kvs) (k := x))]
    exact q) hm
/-- x = {} -/
theorem s_newD (i : Nat) (nd : F.X.N.Nodup) (hi : F.X.N[i]? = some x) (hl : i < env.length) (h : P.nx (env.set i (.ow (odict ([] : List (κ × β)))))) (hx : Loc F.X.env.scope x := by first | exact Or.inl rfl | exact Or.inr rfl)
    (hs : swapsWith (.Dict [] [] p0) (some (.Name x p1)) pos.line F.X.env = pure false := by rfl) (hf : F.X.fn x = true ∨ F.X.env.scope.names.lookup x = some .local := by exact Or.inl rfl) : KS F env (.Assign [.Name x p1] (.Dict [] [] p0) pos) P := fun own σ H k p =>
  tS_of (ps_set nd hi hx pe_dnewX hs hf) fun t ht => ⟨_, _, k.gain (i := i) (o := odict ([] : List (κ × β))) hl (same_new ht) ht upd_same ⟨[], rfl, .nil, List.nodup_nil⟩, Fr.gain (same_new ht) ht, h⟩
/-- d[k] = v, d a dict that the def alone holds, k not there -/
theorem s_setD [DecidableEq κ] (i : Nat) {kvs : List (κ × β)} (hu : F.X.A.units + 64 < cLine) (hN : F.X.N[i]? = some x) (he : env[i]? = some (.ow (odict kvs))) (h : KE F env e P.ex fun y : β => KE F env b P.ex fun k : κ => (k ∉ kvs.map Prod.fst ∧ kvs.length < 100000) ∧ ∀ zs, zs = kvs ++ [(k, y)] → P.nx (env.set i (.ow (odict zs))))
    (hv : Vis F.X.env.scope x := by first | exact Or.inl rfl | exact Or.inr (Or.inl rfl) | exact Or.inr (Or.inr rfl)) (hdb : (x == ("__debug__" : Str)) = false := by decide) (hcd : (x == ("__classdict__" : Str)) = false := by decide)
    (hs : swapsWith e (some (.Subscript (.Name x p2) b p3)) pos.line F.X.env = pure false := by rfl) : KS F env (.Assign [.Subscript (.Name x p2) b p3] e pos) P := fun own σ H k p => by
  have hi : i < env.length := (List.getElem?_eq_some_iff.mp he).1
  obtain ⟨l, ho, h0, g1, h2, es, e3, e4, e5⟩ := (show EntOk F.G F.hs own σ H i (.ow (odict kvs)) from k.ent i _ he)
  subst e3
  refine tS_of (ps_dputX (by omega) (pe_var hN hv hdb hcd) peE peE hs) (tE_mono (fun v H' ⟨y, s, r, z⟩ => ?_) (h own σ H k p))
  refine ⟨.ref l, g1, tE_mono (fun u H2 ⟨kk, s2, rk, hc, z2⟩ => ?_) (z own σ H' (k.mono s) (p.mono s))⟩
  have st : Same H H2 := s.trans s2
  have e4' := e4.mono (hid_same st)
  have le : es.length = kvs.length := Paired.length e4
  have hsz : (100000 : Nat) ≤ sizeLine := by decide
  have hc2 := hc.2
  refine ⟨l, es, _, Ky.kd kk, rfl, st _ _ h2, KeysAt.mono hid_le e4'.keys, nodup_kd e5, hom_kd _ _, fun m => hc.1 (mem_kd.mp m), by omega, (Ky.rep rk).mono hid_le, ?_⟩
  refine ⟨_, _, (k.mono st).chg (i := i) (o := odict (kvs ++ [(kk, y)])) hi h0 ⟨_, rfl, Paired.snoc e4' ⟨rfl, rk, DV.mono (d := dv y) (hid_same s2) r⟩, ?_⟩, (Fr.of st).trans (Fr.chg h0), z2 _ rfl⟩
  rw [List.map_append]
  refine List.nodup_append.mpr ⟨e5, by simp, fun a ha b hb e => ?_⟩
  have hb : b = kk := by simpa using hb
  exact hc.1 (by rw [← hb, ← e]; exact ha)
def ofrz (kvs : List (κ × β)) : OV := ⟨fun G H p o => ∃ ob es, o = .frz ob (DO p es) ∧ EnsRep G H es kvs ∧ (kvs.map Prod.fst).Nodup, fun e ⟨ob, es, h1, h2, h3⟩ => ⟨ob, es, h1, h2.mono e, h3⟩⟩
/-- a dict that is not changed from here on -/
theorem ks_freezeD (i : Nat) {kvs : List (κ × β)} (he : env[i]? = some (.ow (odict kvs))) (h : KSs F (env.set i (.sh (dv (Dic.mk kvs)))) sts P) : KSs F env sts P := fun own σ H k p pins s I => by
  have hi : i < env.length := (List.getElem?_eq_some_iff.mp he).1
  obtain ⟨l, ho, h0, g1, h2, es, e3, e4, e5⟩ := (show EntOk F.G F.hs own σ H i (.ow (odict kvs)) from k.ent i _ he)
  subst e3
  obtain ⟨od, J⟩ := I.lock h2 True.intro
  have k2 := k.chg (i := i) (o := ofrz kvs) hi h0 ⟨od, es, rfl, e4, e5⟩
  have k3 := k2.freeze (i := i) (d := dv (Dic.mk kvs)) (by rw [List.getElem?_set_self hi]) (fun p ho H1 _ h1 sm ok => by
    obtain ⟨ob, es, e1, r, n⟩ := ok
    subst e1
    exact ⟨p, ob, es, rfl, h1, r.mono sm, n⟩)
  rw [List.set_set] at k3
  have fr : Fr F.hs own (drop own i) H (upd H l (.frz od (DO l es))) := (Fr.chg h0).trans (Fr.drop i)
  exact (b_more fr (h _ σ _ k3 (p.step fr))) pins s J
end
end
end Rk

set_option maxHeartbeats 4000000
/-! # Dict comprehensions over own keys: the machine's side -/
namespace Rk
open PySem L2 PyProof.Rows
/-- one more pair, its key new -/
def PutX (D : Addr) (Nx : Hp → Prop) (y z : V) (H : Hp) : Prop := ∃ (es : List En) (ks : List KeyD) (k : KeyD), H D = some (DO D es) ∧ KeysAt H es ks ∧ ks.Nodup ∧ Hom ks k ∧ k ∉ ks ∧ es.length < sizeLine ∧ KeyRep H y k ∧ Nx (upd H D (DO D (es ++ [⟨hashD k, y, z⟩])))
/-- {k: v for target in iter if ..}: D the new dict, known from its end on -/
def tDx (wi : TI) (g : TG) (tt : TT) (tk tv : TE) (vs : List Nat) : TE := fun σ H Q => wi σ H fun J H1 => ∀ D, H1 D = none → ∃ W : Nat → Nat → Hp → Prop, (∃ m, W 0 m (upd H1 D (DO D []))) ∧ ∀ i m H, W i m H →
  (J.stop i H ∧ ∃ es, H D = some (DO D es) ∧ ∀ ob, Q (.ref D) (upd H D (.frz ob (DO D es)))) ∨ (J.go i H ∧ ∃ Nx : Hp → Prop, (∀ H', Nx H' → ∃ m', m' < m ∧ W (i + 1) m' H') ∧
    ∀ x H', J.yld i H x H' → g x (wipe σ vs) H' fun σ2 H2 => wipe σ2 vs = wipe σ vs ∧ tt σ2 H2 fun b H3 => if b = true then tk σ2 H3 fun y H4 => tv σ2 H4 fun z H5 => PutX D Nx y z H5 else Nx H3)
section
variable {X : Cx}
theorem dictcomp_core {pins : List (Addr × Obj)} {s : Shared} {σ : L2.St} {H : Hp} {Q : VK} {ek ev tg iter : Expr} {ifs : List Expr} {scope : Scope} {own : List (Str × Nat)} {pos pos2 : Pos} {wi : TI} {g : TG} {tt : TT} {tk tv : TE} {use : Option (Value → Sem Unit)} {Qf : Value → Shared → Prop}
    (hu : X.A.units + 16 < cLine) (calm : X.calm = true) (nd : X.N.Nodup) (I : Inv X pins σ H s) (pi : PI X tg iter wi) (ok : BlkOk X.N X.env.scope scope own)
    (hg : ∀ (s : Shared) (H : Hp) (C : Addr) (cl : List (Str × Addr)) (fp : List Addr), PG (X.blk s H scope (compEnvC scope cl C X.env) fp) tg g) (ht : ∀ (s : Shared) (H : Hp) (C : Addr) (cl : List (Str × Addr)) (fp : List Addr), PTs (X.blk s H scope (compEnvC scope cl C X.env) fp) ifs tt)
    (hk : ∀ (s : Shared) (H : Hp) (C : Addr) (cl : List (Str × Addr)) (fp : List Addr), PE (X.blk s H scope (compEnvC scope cl C X.env) fp) ek tk) (hv : ∀ (s : Shared) (H : Hp) (C : Addr) (cl : List (Str × Addr)) (fp : List Addr), PE (X.blk s H scope (compEnvC scope cl C X.env) fp) ev tv)
    (hs : ∀ x, foldedSetIterable iter X.env x = pure x) (h : tDx wi g tt tk tv (own.map (·.2)) σ H Q)
    (fin : ∀ D C s' m H', Inv X pins σ H' s' → Q (.ref D) H' → s'.heap.Ns C m → FpOk X pins H' C → compPost (model X.prog X.w) X.A X.xe use Qf (.ref D) C (.ok .next) s') :
    wpAny (model X.prog X.w) X.A (comprehension (.DictComp ek ev [⟨tg, iter, ifs, 0⟩] scope pos) scope X.env pos2 newDict false (eval iter X.env) use) Qf X.xe s := by
  have free : ∀ y ∈ scope.names, y.2 = .free → ∃ c, X.env.cells.lookup y.1 = some c := fun y hy e => (ok.free y hy e).elim (fun z => I.ok.has _ (.inl z)) fun z => I.ok.has _ (.inr z)
  refine wpAny_comprehension_free (use := use) rfl hs (closure_ok free) ok.kind (fun y hy e => by rw [ok.uniq y hy, e]) (thn (pi.run pins s σ H _ I h) fun xv s1 hx => thn hx fun itv s2 h2 => ?_)
  obtain ⟨it, fp, tn, J, H2, rfl, I2, T, st2, f2, q⟩ := h2
  refine wpAny_newObj_type (newEnv_comp ?_)
  -- the new dict at D
  obtain ⟨D, eD⟩ : ∃ D, D = s2.heap.objs.size := ⟨_, rfl⟩
  rw [← eD]
  have nD : H2 D = none := I2.hok.fresh (Nat.le_of_eq eD.symm)
  obtain ⟨W, ⟨m0, w0⟩, turn⟩ := q D nD
  obtain ⟨s3, e3⟩ : ∃ s3 : Shared, s3 = { s2 with heap := s2.heap.push { cls := .type "dict", data := .dict #[] } } := ⟨_, rfl⟩
  rw [← e3]
  have hp3 : s3.heap = s2.heap.push { cls := .type "dict", data := .dict #[] } := by rw [e3]
  have I3 : Inv X pins σ (upd H2 D (DO D [])) s3 := by
    rw [e3]
    refine I2.laid (t' := s2.toks) (fun b o z => Heap.get?_push_of_some _ z) (Nat.le_of_eq eD.symm) ?_
    rw [eD]
    exact do_empty s2.heap I2.big
  have below : ∀ b ∈ fp, b < s2.heap.objs.size := fun b hb => let ⟨_, z, _⟩ := T.obj _ _ st2 b hb; Heap.lt_size z
  have f3 : ∀ b ∈ fp, FpOk X pins (upd H2 D (DO D [])) b ∧ b < s3.heap.objs.size := fun b hb => by
    have lt := below b hb
    constructor
    · exact ⟨by rw [upd_ne (by rw [eD]; exact Nat.ne_of_lt lt)]; exact (f2 b hb).1, (f2 b hb).2⟩
    · rw [hp3, Heap.size_push]; exact Nat.lt_succ_of_lt lt
  have st3 : tn 0 s3.heap := T.keep _ _ _ st2 fun b _ o z => by rw [hp3]; exact Heap.get?_push_of_some _ z
  have I4 := block_start I3 ok nd f3
  obtain ⟨cl, ecl⟩ : ∃ cl, cl = cellsFrom (s3.heap.objs.size + 1) scope.names (cloFrom X.env.cells scope.names []) := ⟨_, rfl⟩
  have pg := hg s3 (upd H2 D (DO D [])) s3.heap.objs.size cl fp
  have pt := ht s3 (upd H2 D (DO D [])) s3.heap.objs.size cl fp
  have pk := hk s3 (upd H2 D (DO D [])) s3.heap.objs.size cl fp
  have pv := hv s3 (upd H2 D (DO D [])) s3.heap.objs.size cl fp
  rw [← ecl] at I4
  show codeAny _ _ (.compStart (.DictComp ek ev [⟨tg, iter, ifs, 0⟩] scope pos) 0 (.ref it) (.ref D) (compEnvC scope (cellsFrom (s3.heap.objs.size + 1) scope.names (cloFrom X.env.cells scope.names [])) s3.heap.objs.size X.env)) (compPost (model X.prog X.w) X.A X.xe use Qf (.ref D) s3.heap.objs.size) { s3 with heap := pushCells (s3.heap.push { cls := .type "dict", data := .dict #[] }) scope.names }
  rw [← ecl]
  have nfp : ∀ b ∈ fp, (upd H2 D (DO D [])) b = none := fun b hb => (f3 b hb).1.1
  obtain ⟨ce, ece⟩ : ∃ ce, ce = compEnvC scope cl s3.heap.objs.size X.env := ⟨_, rfl⟩
  rw [← ece] at I4 pg pt pk pv ⊢
  have cL : ce.locals = s3.heap.objs.size := by rw [ece]; rfl
  obtain ⟨H3, eH3⟩ : ∃ H3, H3 = upd H2 D (DO D []) := ⟨_, rfl⟩
  rw [← eH3] at I3 I4 pg pt pk pv w0 nfp f3
  obtain ⟨s4, e4⟩ : ∃ s4 : Shared, s4 = { s3 with heap := pushCells (s3.heap.push { cls := .type "dict", data := .dict #[] }) scope.names } := ⟨_, rfl⟩
  rw [← e4] at I4 ⊢
  have st4 : tn 0 s4.heap := T.keep _ _ _ st3 fun b _ o z => by rw [e4]; exact pushCells_keeps _ _ _ _ (Heap.get?_push_of_some _ z)
  obtain ⟨Y, eY⟩ : ∃ Y, Y = X.blk s3 H3 scope ce fp := ⟨_, rfl⟩
  have still : ∀ {σ' : L2.St} {H' : Hp} {s' : Shared}, Inv (X.blk s3 H3 scope ce fp) [] σ' H' s' → (∀ b ∈ fp, H' b = none) → ∀ b ∈ fp, FpOk (X.blk s3 H3 scope ce fp) [] H' b := fun {σ' H' s'} J' hn b hb =>
    ⟨hn b hb, (J'.ok.exf b hb).1, J'.ok.exfs b hb, .inl hb, fun x c z => (J'.ok.exf b hb).2 x c z, fun p hp => absurd (show p ∈ ([] : List (Addr × Obj)) ++ [] from hp) (by simp)⟩
  have loop : codeAny (model X.prog X.w) X.A (.compLoop (.DictComp ek ev [⟨tg, iter, ifs, 0⟩] scope pos) 0 (.ref it) (.ref D) ce) (compPost (model X.prog X.w) X.A X.xe use Qf (.ref D) s3.heap.objs.size) s4 := by
    refine compLoop_anyD (fun n s' => ∃ i H', Inv (X.blk s3 H3 scope ce fp) [] (wipe σ (own.map (·.2))) H' s' ∧ tn i s'.heap ∧ (∀ b ∈ fp, H' b = none) ∧ W i n H') ?_ m0 ⟨0, H3, I4, st4, nfp, w0⟩
    rintro n s5 ⟨i, H5, I5, st5, n5, w5⟩
    rcases turn i n H5 w5 with ⟨stop, es, hDe, qq⟩ | ⟨go, Nx, less, step⟩
    · refine thnF (T.done (X.blk s3 H3 scope ce fp) rfl rfl rfl calm i [] s5 _ H5 (fun _ _ => False) I5 (still I5 n5) st5 stop) fun r s6 ⟨hr, I6⟩ => ?_
      subst hr
      have nC : H5 s3.heap.objs.size = none := by
        have z : H5 ce.locals = none := I6.free
        rw [cL] at z; exact z
      obtain ⟨m, hn, _⟩ := I6.loc
      replace hn : s6.heap.Ns ce.locals m := hn
      rw [cL] at hn
      -- back in the def's own frame; the dict is known from here on
      have I7 : Inv X pins σ H5 s6 := I3.call' (ch := fp) I6.os I6.base I6.hok I6.bare fun b hb => let z := (f3 b hb).1.2; ⟨z.2.2.1, z.1, z.2.2.2.1, z.2.2.2.2⟩
      obtain ⟨ob, I8⟩ := I7.lock hDe True.intro
      have neD : s3.heap.objs.size ≠ D := fun z => by rw [z, hDe] at nC; cases nC
      exact fin D s3.heap.objs.size s6 m _ I8 (qq ob) hn (I3.fpOk (Nat.le_refl _) nC |> fun z => ⟨by rw [upd_ne neD]; exact z.1, z.2⟩)
    · refine thnF (T.item (X.blk s3 H3 scope ce fp) rfl rfl rfl calm i [] s5 _ H5 (fun _ _ => False) I5 (still I5 n5) st5 go) fun r s6 ⟨u, hr, h6⟩ => ?_
      subst hr
      refine thnF h6 fun _ s7 ⟨x, H7, I7, r7, y7, st7, n7⟩ => ?_
      refine thnF (pg.run _ s7 _ H7 x u _ (I7.pinned (still I7 n7) (T.obj _ _ st7)) r7 (step x H7 y7)) fun _ s8 ⟨σ8, H8, I8, hw8, q8⟩ => ?_
      refine thnF (pt.run _ s8 σ8 H8 _ I8 q8) fun b s9 ⟨H9, I9, q9⟩ => ?_
      have last : ∀ {s' : Shared} {H' : Hp}, Inv (X.blk s3 H3 scope ce fp) ([] ++ pinsAt fp s7.heap) σ8 H' s' → Nx H' → ∃ m, m < n ∧ ∃ i H', Inv (X.blk s3 H3 scope ce fp) [] (wipe σ (own.map (·.2))) H' s' ∧ tn i s'.heap ∧ (∀ b ∈ fp, H' b = none) ∧ W i m H' := fun {s' H'} J' nx => by
        obtain ⟨m', lt, w'⟩ := less H' nx
        have pinned : ∀ b ∈ fp, ∀ o, s7.heap.get? b = some o → s'.heap.get? b = some o ∧ H' b = none := fun b hb o z =>
          let t := J'.pin (b, o) (List.mem_append_right _ (List.mem_append_right _ (mem_pinsAt hb z)))
          ⟨t.1, t.2.1⟩
        refine ⟨m', lt, i + 1, H', (J'.unpinned (pins := [])).weak (by rw [← hw8, wipe_length]) (fun j v z => ?_), T.keep _ _ _ st7 fun b hb o z => (pinned b hb o z).1, fun b hb => ?_, w'⟩
        · rw [← hw8] at z; exact (wipe_some z).1
        · obtain ⟨o, z, _⟩ := T.obj _ _ st7 b hb
          exact (pinned b hb o z).2
      cases b with
      | false =>
        simp only [Bool.false_eq_true, if_false] at q9 ⊢
        exact last I9 q9
      | true =>
        simp only [if_true] at q9 ⊢
        refine thnF (pk.run _ s9 σ8 H9 _ I9 q9) fun z s10 ⟨yk, H10, I10, r10, q10⟩ => ?_
        refine thnF (pv.run _ s10 σ8 H10 _ I10 q10) fun z2 s11 ⟨yv, H11, I11, r11, es, ks, k, hD11, ka, kn, kh, nk', lz, yr, nx⟩ => ?_
        exact dx_dictSet (X := X.blk s3 H3 scope ce fp) hu I11 hD11 ka kn kh nk' lz yr r10 r11 fun s12 I12 => last I12 nx
  exact codeAny_compStart_dict loop (T.self X.A 0 _ _ _ st4 loop)
theorem pe_dcX {ek ev tg iter : Expr} {ifs : List Expr} {scope : Scope} {own : List (Str × Nat)} {pos : Pos} {wi : TI} {g : TG} {tt : TT} {tk tv : TE} (hu : X.A.units + 16 < cLine) (calm : X.calm = true) (nd : X.N.Nodup) (pi : PI X tg iter wi) (ok : BlkOk X.N X.env.scope scope own)
    (hg : ∀ (s : Shared) (H : Hp) (C : Addr) (cl : List (Str × Addr)) (fp : List Addr), PG (X.blk s H scope (compEnvC scope cl C X.env) fp) tg g) (ht : ∀ (s : Shared) (H : Hp) (C : Addr) (cl : List (Str × Addr)) (fp : List Addr), PTs (X.blk s H scope (compEnvC scope cl C X.env) fp) ifs tt)
    (hk : ∀ (s : Shared) (H : Hp) (C : Addr) (cl : List (Str × Addr)) (fp : List Addr), PE (X.blk s H scope (compEnvC scope cl C X.env) fp) ek tk) (hv : ∀ (s : Shared) (H : Hp) (C : Addr) (cl : List (Str × Addr)) (fp : List Addr), PE (X.blk s H scope (compEnvC scope cl C X.env) fp) ev tv)
    (hs : ∀ x, foldedSetIterable iter X.env x = pure x) : PE X (.DictComp ek ev [⟨tg, iter, ifs, 0⟩] scope pos) (tDx wi g tt tk tv (own.map (·.2))) := by
  refine ⟨fun pins s σ H Q I h => ?_⟩
  rw [arm_eval_DictComp]
  refine dictcomp_core hu calm nd I pi ok hg ht hk hv hs h fun D C s' m H' J q hn f => ⟨m, hn, fun h'' sb => ?_⟩
  obtain ⟨f0, f1, f2, f3, f4, f5⟩ := f
  exact ⟨.ref D, H', J.turned (t' := s'.toks) (fun b o hb z => (sb.2 b hb).trans z) f0 f1 f3 f4 f5, rfl, q⟩
/-- name = {..} on one line, the name a local -/
theorem ps_setDcX {i : Nat} {y : Str} {py : Pos} {ek ev tg iter : Expr} {ifs : List Expr} {scope : Scope} {own : List (Str × Nat)} {pos spos : Pos} {wi : TI} {g : TG} {tt : TT} {tk tv : TE} (hu : X.A.units + 16 < cLine) (calm : X.calm = true) (nd : X.N.Nodup) (hy : X.N[i]? = some y) (hyl : X.env.scope.names.lookup y = some .local)
    (hsw : swapsWith (.DictComp ek ev [⟨tg, iter, ifs, 0⟩] scope pos) (some (.Name y py)) spos.line X.env = pure true) (pi : PI X tg iter wi) (ok : BlkOk X.N X.env.scope scope own)
    (hg : ∀ (s : Shared) (H : Hp) (C : Addr) (cl : List (Str × Addr)) (fp : List Addr), PG (X.blk s H scope (compEnvC scope cl C X.env) fp) tg g) (ht : ∀ (s : Shared) (H : Hp) (C : Addr) (cl : List (Str × Addr)) (fp : List Addr), PTs (X.blk s H scope (compEnvC scope cl C X.env) fp) ifs tt)
    (hk : ∀ (s : Shared) (H : Hp) (C : Addr) (cl : List (Str × Addr)) (fp : List Addr), PE (X.blk s H scope (compEnvC scope cl C X.env) fp) ek tk) (hv : ∀ (s : Shared) (H : Hp) (C : Addr) (cl : List (Str × Addr)) (fp : List Addr), PE (X.blk s H scope (compEnvC scope cl C X.env) fp) ev tv)
    (hs : ∀ x, foldedSetIterable iter X.env x = pure x) : PS X (.Assign [.Name y py] (.DictComp ek ev [⟨tg, iter, ifs, 0⟩] scope pos) spos) (tAsg (tDx wi g tt tk tv (own.map (·.2))) (gName i)) := by
  refine ⟨fun pins s σ H E I h => ?_⟩
  rw [exec_Assign_Name_used _ _ _ _ hsw]
  refine wpAny_bind (wpAny_standAt (wpAny_bind ?_))
  show wpAny _ X.A (do let _ ← comprehension (.DictComp ek ev [⟨tg, iter, ifs, 0⟩] scope pos) scope X.env (firstIterPos [⟨tg, iter, ifs, 0⟩] pos) newDict false (eval iter X.env) (some (assign (.Name y py) X.env))) _ _ s
  replace h : tDx wi g tt tk tv (own.map (·.2)) σ H (fun x H1 => gName i x σ H1 E.nx) := h
  refine wpAny_bind (thn (dictcomp_core (Qf := fun _ s' => SP X pins E .next s') hu calm nd I pi ok hg ht hk hv hs h fun L C s' m H' J q hn f => ?_) fun _ s' hq => wpAny_pure (wpAny_pure hq))
  show wpAny _ _ (assign (.Name y py) X.env (.ref L)) _ _ _
  refine wpAny_assign_Name (store_ok2 (v := V.ref L) J nd hy (.inl hyl) rfl (fun s2 J2 ⟨a, sb, ha⟩ => ?_) (.inr hyl))
  obtain ⟨f0, f1, f2, f3, f4, f5⟩ := f
  have ne : C ≠ a := ha.elim (fun z => by rw [z]; exact f1) fun z w => f4 y a z w.symm
  exact ⟨m, hn.sameBut sb ne, fun h3 sb3 => ⟨_, H', J2.turned (t' := s2.toks) (fun b o hb z => (sb3.2 b hb).trans z) f0 f1 f3 f4 f5, q⟩⟩
end
end Rk

set_option maxHeartbeats 4000000
/-! # Dict comprehensions over own keys as data -/
namespace Rk
open PySem L2 PyProof.Rows
section
variable {F : Fx} {env : List Ent} {ex : XP} {a b c e it ek ev tg : Expr} {es ifs : List Expr} {pos p0 p1 : Pos} {n x : Str} {P : Po} {st : Stmt} {sts ss body : List Stmt}
section
variable {α κ β : Type} [Rp α] [Rp κ] [Ky κ] [Rp β]
/-- what a dict comprehension has made of the items done -/
def DcAt (F : Fx) (own : Nat → Option Addr) (H1 : Hp) (D : Addr) (kvs : List (κ × β)) (H2 : Hp) : Prop :=
  Same H1 (fun x => if x = D then none else H2 x) ∧ ∃ es, H2 D = some (DO D es) ∧ EnsRep F.G (Hid (hd (fun x => F.hs x ∨ x = D) own) H2) es kvs
theorem DcAt.same {own : Nat → Option Addr} {H1 H2 : Hp} {D : Addr} {kvs : List (κ × β)} (h : DcAt F own H1 D kvs H2) (hD : H1 D = none) : Same H1 H2 := fun x o e => by
  have ne : x ≠ D := ne_of_none e hD
  have z : (if x = D then none else H2 x) = some o := h.1 x o e
  rw [if_neg ne] at z; exact z
theorem DcAt.start {own : Nat → Option Addr} {H1 : Hp} {D : Addr} (hD : H1 D = none) : DcAt F own H1 D ([] : List (κ × β)) (upd H1 D (DO D [])) := by
  refine ⟨fun x o e => ?_, [], upd_same, .nil⟩
  have ne : x ≠ D := ne_of_none e hD
  show (if x = D then none else upd H1 D (DO D []) x) = some o
  rw [if_neg ne, upd_ne ne]; exact e
/-- one turn -/
theorem dc_step {scope : Scope} (own0 : List (Str × Nat)) {g : TG} {is : List Nat} {f : α → List Ent → List Ent} {own : Nat → Option Addr} {σ : L2.St} {H1 H2 : Hp} {D : Addr} {t : α → Bool} {kf : α → κ} {vf : α → β} {kvs : List (κ × β)} {y : α} {u : V} {Nx : Hp → Prop} (hT : t y = true → ∀ H, DcAt F own H1 D (kvs ++ [(kf y, vf y)]) H → Nx H) (hF : t y = false → ∀ H, DcAt F own H1 D kvs H → Nx H)
    (hlen : ifs.length ≤ 1) (htg : ∀ F', Blk F scope F' → Tg F' tg α g is f) (his : ∀ i ∈ is, i ∈ own0.map (·.2)) (onone : ∀ i ∈ own0.map (·.2), own i = none) (k1 : F.Kn own env σ H1) (hD : H1 D = none) (hx : kvs.length ≤ 40000) (hn : (kvs.map Prod.fst).Nodup) (hnew : t y = true → kf y ∉ kvs.map Prod.fst)
    (ht : ∀ F', Blk F scope F' → KTs F' (f y (wipeE env (own0.map (·.2)))) ifs fun b => b = t y) (hk : ∀ F', Blk F scope F' → t y = true → KE F' (f y (wipeE env (own0.map (·.2)))) ek noex fun z => z = kf y)
    (hv : ∀ F', Blk F scope F' → t y = true → KE F' (f y (wipeE env (own0.map (·.2)))) ev noex fun z => z = vf y)
    (hd2 : Rp.rep F.G (Hid (hd F.hs own) H1) u y) (p : DcAt F own H1 D kvs H2) :
    g u (L2.wipe σ (own0.map (·.2))) H2 fun σ2 H2' => L2.wipe σ2 (own0.map (·.2)) = L2.wipe σ (own0.map (·.2)) ∧ uT F scope ifs σ2 H2' fun b H3 =>
      if b = true then uE F scope ek σ2 H3 fun yk H4 => uE F scope ev σ2 H4 fun z H5 => PutX D Nx yk z H5 else Nx H3 := by
  have s12 := p.same hD
  obtain ⟨s2, es, hes, hr⟩ := p
  have kD : Rk.Kn F.G (fun x => F.hs x ∨ x = D) F.B own env σ H2 := k1.veil s12 hD hes
  obtain ⟨kw, frw⟩ := Kn.wipe (F := ⟨F.X, F.cls, fun x => F.hs x ∨ x = D, F.B⟩) (show (⟨F.X, F.cls, fun x => F.hs x ∨ x = D, F.B⟩ : Fx).Kn own env σ H2 from kD) (own0.map (·.2))
  have sD : Same (Hid (hd F.hs own) H1) (Hid (hd (fun x => F.hs x ∨ x = D) own) H2) := fun x o e => by
    have h1 := hid_of e
    have ne : x ≠ D := ne_of_none h1 hD
    have nh : ¬ hd F.hs own x := fun z => by unfold Hid at e; rw [if_pos z] at e; cases e
    rw [hid_at fun z => by
      rcases z with (z | z) | z
      · exact nh (.inl z)
      · exact ne z
      · exact nh (.inr z)]
    exact s12 x o h1
  refine (htg ⟨F.X.blk F.X.s_0 H1 scope (compEnvC scope [] 0 F.X.env) [], F.cls, fun x => F.hs x ∨ x = D, F.B⟩ ⟨F.X.s_0, H1, 0, [], [], _, rfl⟩).sem y _ _ _ _ H2 u kw (DV.mono (d := dv y) (sD.trans frw) hd2) fun own2 σ2 k2 f2 wp kp => ?_
  rw [wipeO_same onone] at kp
  refine ⟨by rw [wp _ his]; exact wipe_twice _, ?_⟩
  have un : ∀ {H' : Hp} {d : DV} {w : V}, d.rep F.G (Hid (hd (fun x => F.hs x ∨ x = D) own2) H') w → d.rep F.G (Hid (hd (fun x => F.hs x ∨ x = D) own) H') w := fun {H' d w} r => DV.mono (hid_more fun x q => by
    rcases q with q | ⟨i, q⟩
    · exact .inl q
    · rcases kp i x q with z | z
      · rw [onone i (his i z)] at q; cases q
      · exact .inr ⟨i, z⟩) r
  have keep : ∀ (s' : Shared) (H0 : Hp) (C : Addr) (cl : List (Str × Addr)) (fp : List Addr) (H3 : Hp), Same H2 H3 → t y = true → tE (F.X.blk s' H0 scope (compEnvC scope cl C F.X.env) fp) ek σ2 H3 fun yk H4 => uE F scope ev σ2 H4 fun z H5 => PutX D Nx yk z H5 := fun s' H0 C cl fp H3 s3 hty => by
    have B' : Blk F scope ⟨F.X.blk s' H0 scope (compEnvC scope cl C F.X.env) fp, F.cls, fun x => F.hs x ∨ x = D, F.B⟩ := ⟨s', H0, C, cl, fp, _, rfl⟩
    refine tE_mono (fun yk H4 ⟨wk, s4, rk, ewk⟩ => ?_) (hk _ B' hty own2 σ2 H3 (k2.mono s3) (noPort B'))
    subst ewk
    intro s'2 H02 C2 cl2 fp2
    have B2 : Blk F scope ⟨F.X.blk s'2 H02 scope (compEnvC scope cl2 C2 F.X.env) fp2, F.cls, fun x => F.hs x ∨ x = D, F.B⟩ := ⟨s'2, H02, C2, cl2, fp2, _, rfl⟩
    refine tE_mono (fun z H5 ⟨w, s5, rw', ew⟩ => ?_) (hv _ B2 hty own2 σ2 H4 (k2.mono (s3.trans s4)) (noPort B2))
    subst ew
    have s25 : Same H2 H5 := (s3.trans s4).trans s5
    have rk5 : (dv (kf y)).rep F.G (Hid (hd (fun x => F.hs x ∨ x = D) own) H5) yk := un (DV.mono (d := dv (kf y)) (hid_same s5) rk)
    have hr5 := hr.mono (hid_same s25)
    have le : es.length = kvs.length := Paired.length hr
    have hidD : hd (fun x => F.hs x ∨ x = D) own D := .inl (.inr rfl)
    have big : (40000 : Nat) < sizeLine := by decide
    refine ⟨es, _, Ky.kd (kf y), s25 _ _ hes, KeysAt.mono hid_le hr5.keys, nodup_kd hn, hom_kd _ _, fun m => hnew hty (mem_kd.mp m), by omega, (Ky.rep rk5).mono hid_le, hT hty _ ⟨fun x o e => ?_, es ++ [⟨hashD (Ky.kd (kf y)), yk, z⟩], upd_same, ?_⟩⟩
    · have ne : x ≠ D := ne_of_none e hD
      show (if x = D then none else upd H5 D (DO D (es ++ [⟨hashD (Ky.kd (kf y)), yk, z⟩])) x) = some o
      rw [if_neg ne, upd_ne ne]; exact s25 _ _ (s12 _ _ e)
    · rw [hid_upd hidD]
      exact Paired.snoc hr5 ⟨rfl, rk5, un (d := dv (vf y)) rw'⟩
  have skip : ∀ H3 : Hp, Same H2 H3 → DcAt F own H1 D kvs H3 := fun H3 s3 => by
    refine ⟨fun x o e => ?_, es, s3 _ _ hes, hr.mono (hid_same s3)⟩
    have ne : x ≠ D := ne_of_none e hD
    show (if x = D then none else H3 x) = some o
    rw [if_neg ne]; exact s3 _ _ (s12 _ _ e)
  intro s' H0 C cl fp
  match ifs, hlen, ht with
  | [], _, ht =>
    have B' : Blk F scope ⟨F.X.blk s' H0 scope (compEnvC scope cl C F.X.env) fp, F.cls, fun x => F.hs x ∨ x = D, F.B⟩ := ⟨s', H0, C, cl, fp, _, rfl⟩
    have hty : true = t y := ht _ B'
    exact fun s2' H02 C2 cl2 fp2 => keep s2' H02 C2 cl2 fp2 H2 (Same.refl _) hty.symm
  | [c], _, ht =>
    have B' : Blk F scope ⟨F.X.blk s' H0 scope (compEnvC scope cl C F.X.env) fp, F.cls, fun x => F.hs x ∨ x = D, F.B⟩ := ⟨s', H0, C, cl, fp, _, rfl⟩
    refine tT_mono (fun b H3 ⟨s3, eb⟩ => ?_) (ht _ B' own2 σ2 H2 k2 (noPort B'))
    cases hty : t y with
    | true =>
      rw [hty] at eb; subst eb
      exact fun s2' H02 C2 cl2 fp2 => keep s2' H02 C2 cl2 fp2 H3 s3 hty
    | false =>
      rw [hty] at eb; subst eb
      exact hF hty H3 (skip H3 s3)
theorem dc_end {own : Nat → Option Addr} {σ : L2.St} {H H1 H2 : Hp} {D : Addr} {kvs : List (κ × β)} {Q : Dic κ β → Prop} (k1 : F.Kn own env σ H1) (sm : Same H H1) (hD : H1 D = none) (p : DcAt F own H1 D kvs H2) (hn : (kvs.map Prod.fst).Nodup) (hQ : Q ⟨kvs⟩) :
    ∃ es, H2 D = some (DO D es) ∧ ∀ ob, Rs F own H Q (.ref D) (upd H2 D (.frz ob (DO D es))) := by
  have s12 := p.same hD
  have nD : ¬ hd F.hs own D := k1.fresh (Same.refl _) hD
  obtain ⟨s2, es, hes, hr⟩ := p
  refine ⟨es, hes, fun ob => ⟨_, fun x o e => ?_, ⟨D, ob, es, rfl, by rw [hid_at nD, upd_same], hr.mono fun x o e => ?_, hn⟩, hQ⟩⟩
  · have h1 := sm x o e
    rw [upd_ne (ne_of_none h1 hD)]; exact s12 _ _ h1
  · have h1 := hid_of e
    have nh : ¬ hd (fun x => F.hs x ∨ x = D) own x := fun z => by unfold Hid at e; rw [if_pos z] at e; cases e
    have ne : x ≠ D := fun z => nh (.inl (.inr z))
    rw [hid_at fun z => by
      rcases z with z | z
      · exact nh (.inl (.inl z))
      · exact nh (.inr z), upd_ne ne]
    exact h1
end
/-- what a dict comprehension asks, as a value and as a name's value -/
def KDc {κ β : Type} [Rp κ] [Ky κ] [Rp β] (F : Fx) (env : List Ent) (ek ev tg it : Expr) (ifs : List Expr) (scope : Scope) (ex : XP) (Q : Dic κ β → Prop) : Prop := ∀ own σ H, F.Kn own env σ H → Port F own H ex → ∃ (wi : TI) (g : TG) (own0 : List (Str × Nat)),
  F.X.A.units + 16 < cLine ∧ F.X.calm = true ∧ F.X.N.Nodup ∧ PI F.X tg it wi ∧ BlkOk F.X.N F.X.env.scope scope own0 ∧ (∀ (s : Shared) (H : Hp) (C : Addr) (cl : List (Str × Addr)) (fp : List Addr), PG (F.X.blk s H scope (compEnvC scope cl C F.X.env) fp) tg g) ∧ ifs.length ≤ 1 ∧ (∀ x, foldedSetIterable it F.X.env x = pure x) ∧
  ∀ Q' : VK, (∀ v H', Rs F own H Q v H' → Q' v H') → tDx wi g (uT F scope ifs) (uE F scope ek) (uE F scope ev) (own0.map (·.2)) σ H Q'
theorem k_ofDc {κ β : Type} [Rp κ] [Ky κ] [Rp β] {scope : Scope} {Q : Dic κ β → Prop} {ex : XP} (h : KDc F env ek ev tg it ifs scope ex Q) : KE F env (.DictComp ek ev [⟨tg, it, ifs, 0⟩] scope pos) ex Q := fun own σ H k p => by
  obtain ⟨wi, g, own0, hu, hc, nd, pi, ok, pg, hlen, hs, z⟩ := h own σ H k p
  exact tE_of (pe_dcX (own := own0) (g := g) (tk := uE F scope ek) (tv := uE F scope ev) hu hc nd pi ok pg (lc_tests hlen) (fun s H C cl fp => ⟨fun pins s' σ H' Q I h => h s H C cl fp pins s' I⟩) (fun s H C cl fp => ⟨fun pins s' σ H' Q I h => h s H C cl fp pins s' I⟩) hs) (z _ fun _ _ q => q)
theorem s_letDc {κ β : Type} [Rp κ] [Ky κ] [Rp β] {scope : Scope} {y : Str} (i : Nat) (hy : F.X.N[i]? = some y) (h : KDc F env ek ev tg it ifs scope P.ex fun ys : Dic κ β => ∀ z : Dic κ β, z = ys → P.nx (env.set i (.sh (dv z))))
    (hyl : F.X.env.scope.names.lookup y = some .local := by rfl) (hsw : swapsWith (.DictComp ek ev [⟨tg, it, ifs, 0⟩] scope p0) (some (.Name y p1)) pos.line F.X.env = pure true := by rfl) : KS F env (.Assign [.Name y p1] (.DictComp ek ev [⟨tg, it, ifs, 0⟩] scope p0) pos) P := fun own σ H k p => by
  obtain ⟨wi, g, own0, hu, hc, nd, pi, ok, pg, hlen, hs, z⟩ := h own σ H k p
  refine tS_of (ps_setDcX (own := own0) (g := g) (tk := uE F scope ek) (tv := uE F scope ev) (i := i) hu hc nd hy hyl hsw pi ok pg (lc_tests hlen) (fun s H C cl fp => ⟨fun pins s' σ H' Q I h => h s H C cl fp pins s' I⟩) (fun s H C cl fp => ⟨fun pins s' σ H' Q I h => h s H C cl fp pins s' I⟩) hs) (z _ fun v H' ⟨ys, s, r, q⟩ => ?_)
  exact ⟨_, _, (k.mono s).set (i := i) (d := dv ys) r, (Fr.of s).trans (Fr.drop i), q ys rfl⟩
/-- a comprehension's turns over items that stay -/
theorem dx_over {J : It} {S : Hp → List V → Prop} (hgo : ∀ i H xs x, S H xs → xs[i]? = some x → J.go i H) (hyl : ∀ i H x H' xs, S H xs → J.yld i H x H' → H' = H ∧ xs[i]? = some x) (hst : ∀ i H xs, S H xs → xs.length ≤ i → J.stop i H)
    {xs : List V} {g : TG} {tt : TT} {tk tv : TE} {vs : List Nat} {σ : L2.St} {H1 : Hp} {D : Addr} {Q : VK} (Pv : Nat → Hp → Prop) (h0 : Pv 0 (upd H1 D (DO D []))) (hl : ∀ i H, Pv i H → S H xs)
    (hs : ∀ i x H, xs[i]? = some x → Pv i H → g x (wipe σ vs) H fun σ2 H2 => wipe σ2 vs = wipe σ vs ∧ tt σ2 H2 fun b H3 => if b = true then tk σ2 H3 fun y H4 => tv σ2 H4 fun z H5 => PutX D (Pv (i + 1)) y z H5 else Pv (i + 1) H3)
    (hd : ∀ H, Pv xs.length H → ∃ es, H D = some (DO D es) ∧ ∀ ob, Q (.ref D) (upd H D (.frz ob (DO D es)))) :
    ∃ W : Nat → Nat → Hp → Prop, (∃ m, W 0 m (upd H1 D (DO D []))) ∧ ∀ i m H, W i m H → (J.stop i H ∧ ∃ es, H D = some (DO D es) ∧ ∀ ob, Q (.ref D) (upd H D (.frz ob (DO D es)))) ∨ (J.go i H ∧ ∃ Nx : Hp → Prop, (∀ H', Nx H' → ∃ m', m' < m ∧ W (i + 1) m' H') ∧
      ∀ x H', J.yld i H x H' → g x (wipe σ vs) H' fun σ2 H2 => wipe σ2 vs = wipe σ vs ∧ tt σ2 H2 fun b H3 => if b = true then tk σ2 H3 fun y H4 => tv σ2 H4 fun z H5 => PutX D Nx y z H5 else Nx H3) := by
  refine ⟨fun i m H => m + i = xs.length ∧ Pv i H, ⟨xs.length, rfl, h0⟩, ?_⟩
  rintro i m H ⟨em, p⟩
  by_cases lt : i < xs.length
  · refine .inr ⟨hgo i H xs _ (hl i H p) (List.getElem?_eq_getElem lt), Pv (i + 1), fun H' p' => ⟨m - 1, by omega, by omega, p'⟩, fun x H' y => ?_⟩
    obtain ⟨eH, ex⟩ := hyl i H x H' xs (hl i H p) y
    subst eH
    exact hs i x _ ex p
  · have e : i = xs.length := by omega
    subst e
    exact .inl ⟨hst _ H xs (hl _ H p) (Nat.le_refl _), hd H p⟩
section
variable {α κ β : Type} [Rp α] [Rp κ] [Ky κ] [Rp β] {scope : Scope} {ex : XP} {Q : Dic κ β → Prop} {g : TG} {is : List Nat} {f : α → List Ent → List Ent}
def dcF (t : α → Bool) (kf : α → κ) (vf : α → β) (xs : List α) : List (κ × β) := (xs.filter t).map fun x => (kf x, vf x)
theorem dcF_keys {t : α → Bool} {kf : α → κ} {vf : α → β} {xs : List α} : (dcF t kf vf xs).map Prod.fst = (xs.filter t).map kf := by
  unfold dcF; rw [List.map_map]; rfl
theorem dcF_one {t : α → Bool} {kf : α → κ} {vf : α → β} {xs : List α} {y : α} : dcF t kf vf (xs ++ [y]) = if t y = true then dcF t kf vf xs ++ [(kf y, vf y)] else dcF t kf vf xs := by
  unfold dcF
  rw [List.filter_append, List.map_append, List.filter_cons]
  by_cases h : t y = true
  · rw [if_pos h, if_pos h]; rfl
  · rw [if_neg h, if_neg h]; simp
/-- what both forms share: items that stay, borne by xs -/
theorem dc_turns (own0 : List (Str × Nat)) {own : Nat → Option Addr} {σ : L2.St} {H H1 : Hp} {J : It} {S : Hp → List V → Prop} {vs : List V} {xs : List α} (hgo : ∀ i H xs x, S H xs → xs[i]? = some x → J.go i H) (hyl : ∀ i H x H' xs, S H xs → J.yld i H x H' → H' = H ∧ xs[i]? = some x) (hst : ∀ i H xs, S H xs → xs.length ≤ i → J.stop i H)
    (hS : ∀ H2, Same H1 H2 → S H2 vs) (e3 : RepAll F.G (Hid (hd F.hs own) H1) vs (dvs xs)) (hlen : ifs.length ≤ 1) (htg : ∀ F', Blk F scope F' → Tg F' tg α g is f) (his : ∀ i ∈ is, i ∈ own0.map (·.2)) (onone : ∀ i ∈ own0.map (·.2), own i = none) (k1 : F.Kn own env σ H1) (sm : Same H H1) (hx : xs.length ≤ 40000)
    {t : α → Bool} {kf : α → κ} {vf : α → β} (ht : ∀ F' x, Blk F scope F' → x ∈ xs → KTs F' (f x (wipeE env (own0.map (·.2)))) ifs fun b => b = t x) (hk : ∀ F' x, Blk F scope F' → x ∈ xs → t x = true → KE F' (f x (wipeE env (own0.map (·.2)))) ek noex fun y => y = kf x)
    (hv : ∀ F' x, Blk F scope F' → x ∈ xs → t x = true → KE F' (f x (wipeE env (own0.map (·.2)))) ev noex fun y => y = vf x) (hn : ((xs.filter t).map kf).Nodup) (hQ : Q ⟨dcF t kf vf xs⟩) {Q' : VK} (hq : ∀ v H', Rs F own H Q v H' → Q' v H') (D : Addr) (hD : H1 D = none) :
    ∃ W : Nat → Nat → Hp → Prop, (∃ m, W 0 m (upd H1 D (DO D []))) ∧ ∀ i m H, W i m H → (J.stop i H ∧ ∃ es, H D = some (DO D es) ∧ ∀ ob, Q' (.ref D) (upd H D (.frz ob (DO D es)))) ∨ (J.go i H ∧ ∃ Nx : Hp → Prop, (∀ H', Nx H' → ∃ m', m' < m ∧ W (i + 1) m' H') ∧
      ∀ x H', J.yld i H x H' → g x (wipe σ (own0.map (·.2))) H' fun σ2 H2 => wipe σ2 (own0.map (·.2)) = wipe σ (own0.map (·.2)) ∧ uT F scope ifs σ2 H2 fun b H3 => if b = true then uE F scope ek σ2 H3 fun y H4 => uE F scope ev σ2 H4 fun z H5 => PutX D Nx y z H5 else Nx H3) := by
  have hlv : vs.length = xs.length := by rw [e3.len, dvs_len]
  refine dx_over hgo hyl hst (xs := vs) (fun i H2 => DcAt F own H1 D (dcF t kf vf (xs.take i)) H2) (DcAt.start hD) (fun i H2 p => hS H2 (p.same hD)) ?_ (fun H2 p => ?_)
  · intro i u H2 hu p2
    obtain ⟨d, hd1, hd2⟩ := e3.get' hu
    rw [dvs_get] at hd1
    cases hxi : xs[i]? with
    | none => rw [hxi] at hd1; cases hd1
    | some y =>
      rw [hxi] at hd1
      have ed : dv y = d := Option.some.inj hd1
      subst ed
      have hmem : y ∈ xs := List.mem_of_getElem? hxi
      have tk : xs.take (i + 1) = xs.take i ++ [y] := by rw [List.take_add_one, hxi]; rfl
      have sub : ∀ zs : List α, ∀ rest, zs ++ rest = xs → ((zs.filter t).map kf).Nodup := fun zs rest e => by
        rw [← e, List.filter_append, List.map_append] at hn
        exact (List.nodup_append.mp hn).1
      have nd0 := sub (xs.take i) (xs.drop i) (List.take_append_drop _ _)
      have nd1 := sub (xs.take (i + 1)) (xs.drop (i + 1)) (List.take_append_drop _ _)
      rw [tk, List.filter_append, List.map_append, List.filter_cons] at nd1
      have e : dcF t kf vf (xs.take i ++ [y]) = if t y = true then dcF t kf vf (xs.take i) ++ [(kf y, vf y)] else dcF t kf vf (xs.take i) := dcF_one
      rw [tk]
      exact dc_step own0 (t := t) (kf := kf) (vf := vf) (kvs := dcF t kf vf (xs.take i)) (Nx := DcAt F own H1 D (dcF t kf vf (xs.take i ++ [y]))) (fun hty H z => by rw [e, if_pos hty]; exact z) (fun hty H z => by rw [e, if_neg (by rw [hty]; decide)]; exact z) hlen htg his onone k1 hD
        (by unfold dcF; rw [List.length_map]; exact Nat.le_trans (List.length_filter_le _ _) (by rw [List.length_take]; omega)) (by rw [dcF_keys]; exact nd0)
        (fun hty => by
          rw [if_pos hty] at nd1
          rw [dcF_keys]
          intro m
          exact (List.nodup_append.mp nd1).2.2 _ m _ (by simp) rfl) (fun F' b => ht F' y b hmem) (fun F' b z => hk F' y b hmem z) (fun F' b z => hv F' y b hmem z) hd2 p2
  · obtain ⟨es, h1, h2⟩ := dc_end (Q := Q) k1 sm hD p (by rw [dcF_keys, hlv, List.take_length]; exact hn) (by rw [hlv, List.take_length]; exact hQ)
    exact ⟨es, h1, fun ob => hq _ _ (h2 ob)⟩
/-- {k: v for tg in it if ..} over a list -/
theorem q_dc (own0 : List (Str × Nat)) (hu : F.X.A.units + 64 < cLine) (nd : F.X.N.Nodup) (ok : BlkOk F.X.N F.X.env.scope scope own0)
    (hlen : ifs.length ≤ 1) (htg : ∀ F', Blk F scope F' → Tg F' tg α g is f) (his : ∀ i ∈ is, i ∈ own0.map (·.2)) (hno : ∀ i ∈ own0.map (·.2), ∀ o, env[i]? ≠ some (.ow o))
    (h : KE F env it ex fun xs : List α => xs.length ≤ 40000 ∧ ∃ (t : α → Bool) (kf : α → κ) (vf : α → β), (∀ F' x, Blk F scope F' → x ∈ xs → KTs F' (f x (wipeE env (own0.map (·.2)))) ifs fun b => b = t x) ∧
      (∀ F' x, Blk F scope F' → x ∈ xs → t x = true → KE F' (f x (wipeE env (own0.map (·.2)))) ek noex fun y => y = kf x) ∧ (∀ F' x, Blk F scope F' → x ∈ xs → t x = true → KE F' (f x (wipeE env (own0.map (·.2)))) ev noex fun y => y = vf x) ∧ ((xs.filter t).map kf).Nodup ∧ Q ⟨dcF t kf vf xs⟩)
    (hc : F.X.calm = true := by rfl) (hs : ∀ x, foldedSetIterable it F.X.env x = pure x := by intro _; rfl) : KDc F env ek ev tg it ifs scope ex Q := fun own σ H k p => by
  have onone : ∀ i ∈ own0.map (·.2), own i = none := fun i hi => by
    cases q : own i with
    | none => rfl
    | some p => exact absurd (k.out i p q).choose_spec (hno i hi _)
  refine ⟨_, g, own0, by omega, hc, nd, (pi_list peE), ok, (fun s H C cl fp => (htg ⟨F.X.blk s H scope (compEnvC scope cl C F.X.env) fp, F.cls, F.hs, F.B⟩ ⟨s, H, C, cl, fp, F.hs, rfl⟩).pg), hlen, hs, fun Q' hq => ?_⟩
  refine tE_mono (fun v0 H1 ⟨xs, sm, ⟨l, vs, e1, e2, e3⟩, hx, t, kf, vf, ht, hk, hv, hn, hQ⟩ => ?_) (h own σ H k p)
  refine ⟨l, e1, ⟨vs, SqL.of (hid_of e2)⟩, fun D hD => ?_⟩
  exact dc_turns own0 (J := Itl F.X.K l) (S := fun H2 ws => SqL F.X.K H2 l ws) (fun i H xs x q e => ⟨xs, x, q, e⟩) (fun i H x H' xs q ⟨e, y⟩ => ⟨e, y xs q⟩) (fun i H xs q e => ⟨xs, q, e⟩) (fun H2 s => SqL.of (s _ _ (hid_of e2))) e3 hlen htg his onone (k.mono sm) sm hx ht hk hv hn hQ hq D hD
/-- over a written tuple -/
theorem q_dcT (own0 : List (Str × Nat)) (hu : F.X.A.units + 64 < cLine) (nd : F.X.N.Nodup) (ok : BlkOk F.X.N F.X.env.scope scope own0)
    (hlen : ifs.length ≤ 1) (htg : ∀ F', Blk F scope F' → Tg F' tg α g is f) (his : ∀ i ∈ is, i ∈ own0.map (·.2)) (hno : ∀ i ∈ own0.map (·.2), ∀ o, env[i]? ≠ some (.ow o))
    (h : KE F env it ex fun xs : Tl α => xs.xs.length ≤ 40000 ∧ ∃ (t : α → Bool) (kf : α → κ) (vf : α → β), (∀ F' x, Blk F scope F' → x ∈ xs.xs → KTs F' (f x (wipeE env (own0.map (·.2)))) ifs fun b => b = t x) ∧
      (∀ F' x, Blk F scope F' → x ∈ xs.xs → t x = true → KE F' (f x (wipeE env (own0.map (·.2)))) ek noex fun y => y = kf x) ∧ (∀ F' x, Blk F scope F' → x ∈ xs.xs → t x = true → KE F' (f x (wipeE env (own0.map (·.2)))) ev noex fun y => y = vf x) ∧ ((xs.xs.filter t).map kf).Nodup ∧ Q ⟨dcF t kf vf xs.xs⟩)
    (hc : F.X.calm = true := by rfl) (hs : ∀ x, foldedSetIterable it F.X.env x = pure x := by intro _; rfl) : KDc F env ek ev tg it ifs scope ex Q := fun own σ H k p => by
  have onone : ∀ i ∈ own0.map (·.2), own i = none := fun i hi => by
    cases q : own i with
    | none => rfl
    | some p => exact absurd (k.out i p q).choose_spec (hno i hi _)
  refine ⟨_, g, own0, by omega, hc, nd, (pi_tup peE), ok, (fun s H C cl fp => (htg ⟨F.X.blk s H scope (compEnvC scope cl C F.X.env) fp, F.cls, F.hs, F.B⟩ ⟨s, H, C, cl, fp, F.hs, rfl⟩).pg), hlen, hs, fun Q' hq => ?_⟩
  refine tE_mono (fun v0 H1 ⟨⟨xs⟩, sm, ⟨l, vs, e1, e2, e3⟩, hx, t, kf, vf, ht, hk, hv, hn, hQ⟩ => ?_) (h own σ H k p)
  have e3 : RepAll F.G (Hid (hd F.hs own) H1) vs (dvs xs) := e3
  refine ⟨l, e1, ⟨vs, SqT.of (hid_of e2)⟩, fun D hD => ?_⟩
  exact dc_turns own0 (J := Itt F.X.K l) (S := fun H2 ws => SqT F.X.K H2 l ws) (fun i H xs x q e => ⟨xs, x, q, e⟩) (fun i H x H' xs q ⟨e, y⟩ => ⟨e, y xs q⟩) (fun i H xs q e => ⟨xs, q, e⟩) (fun H2 s => SqT.of (s _ _ (hid_of e2))) e3 hlen htg his onone (k.mono sm) sm hx ht hk hv hn hQ hq D hD
end
end
end Rk

set_option maxHeartbeats 4000000
/-! # Walks over a dict's keys, enumerate, and comprehensions over any walk -/
namespace Rk
open PySem L2 PyProof.Rows
section
variable {X : Cx} {pins : List (Addr × Obj)} {σ : L2.St} {H : Hp} {s : Shared} {d : Addr} {o : Obj} {ens : List En}
theorem frzX (I : Inv X pins σ H s) (h : H d = some (.frz o (DO d ens))) : s.heap.get? d = some o ∧ (d == sysModules) = false ∧ o.ExactDict ∧ ∃ (arr : Array DictEntry) (ep : Nat), o.data = .dict arr ep ∧ arr.size = ens.length ∧ ∀ (i : Nat) (e : En), ens[i]? = some e → ∃ en, arr[i]? = some en ∧ RelV e.k en.key := by
  obtain ⟨ho, q, _⟩ := I.hok d _ h
  obtain ⟨_, hs, o', arr, ep, ho', hx, hd, hp⟩ := q
  rw [ho] at ho'
  cases ho'
  refine ⟨ho, hs, hx, arr, ep, hd, ?_, fun i e he => ?_⟩
  · have l := Paired.length hp
    rw [Array.length_toList] at l
    exact l.symm
  · obtain ⟨en, h1, h2⟩ := paired_get hp he
    exact ⟨en, by rw [← Array.getElem?_toList]; exact h1, h2.2.1⟩
end
/-- the keys of the known dict at d -/
def Itx (d : Addr) (o : Obj) (ens : List En) : It :=
  ⟨fun i H => H d = some (.frz o (DO d ens)) ∧ i < ens.length, fun i H x H' => H' = H ∧ ∃ e, ens[i]? = some e ∧ x = e.k, fun i H => H d = some (.frz o (DO d ens)) ∧ ens.length ≤ i⟩
section
variable {P : Program} {w : World} {K : PySem.W.Frag} {tg : Expr} {d : Addr} {o : Obj} {ens : List En} {arr : Array DictEntry} {ep : Nat}
theorem turn_keysX (it : Addr) (hod : o.data = .dict arr ep) : Turn P w K tg (Itx d o ens) [it] it (fun i h => h.IsKeyIter it d i ens.length ep) where
  mem := List.mem_singleton.mpr rfl
  obj := fun i h st b hb => by
    rw [List.mem_singleton] at hb
    obtain ⟨oi, z, _, dd⟩ := st
    exact ⟨oi, hb ▸ z, fun v q => by rw [dd] at q; cases q⟩
  keep := fun i h h' st k => st.at fun oi z => k it (List.mem_singleton.mpr rfl) oi z
  item := by
    intro X hP hw hK hc i pins s σ H E I hf st hg
    subst hP hw hK
    obtain ⟨g0, g1, g2, g3, g4, g5⟩ := hf it (List.mem_singleton.mpr rfl)
    obtain ⟨hgd, hs, hx, arr', ep', hdt, hsz, ent⟩ := frzX I hg.1
    obtain ⟨ea, eb⟩ := dict_ep hod hdt
    subst ea eb
    obtain ⟨e, he⟩ : ∃ e, ens[i]? = some e := ⟨_, List.getElem?_eq_getElem hg.2⟩
    obtain ⟨en, hen, hr⟩ := ent i e he
    refine next_key_item st hgd hdt hsz hen fun h' st' sb => ?_
    have J : Inv X pins σ H { s with heap := h' } := I.turned (t' := s.toks) (fun b ob hb z => (sb.2 b hb).trans z) g0 g1 g3 g4 g5
    obtain ⟨oi, z1, z2, z3⟩ := id st'
    exact ⟨en.key, rfl, go_of (s := { s with heap := h' }) z1 z2 z3 (by decide) ⟨e.k, H, J, hr, ⟨rfl, e, he, rfl⟩, st', fun b hb => (hf b hb).1⟩⟩
  done := by
    intro X hP hw hK hc i pins s σ H E I hf st hg
    subst hP hw hK
    obtain ⟨g0, g1, g2, g3, g4, g5⟩ := hf it (List.mem_singleton.mpr rfl)
    obtain ⟨hgd, hs, hx, arr', ep', hdt, hsz, ent⟩ := frzX I hg.1
    obtain ⟨ea, eb⟩ := dict_ep hod hdt
    subst ea eb
    exact next_key_end (I.ok.hd hc) st hgd hdt hsz hg.2 fun h' eb => ⟨rfl, I.turned (t' := s.toks) (fun b ob hb z => eb b ob hb z) g0 g1 g3 g4 g5⟩
  self := fun A i s Q E st h => wpAny_pyIter_keyiter st h
end
theorem pi_keysX {X : Cx} {tg e : Expr} {td : TE} (he : PE X e td) : PI X tg e (fun σ H R => td σ H fun x H1 => ∃ (d : Addr) (o : Obj) (ens : List En), x = .ref d ∧ H1 d = some (.frz o (DO d ens)) ∧ R (Itx d o ens) H1) := by
  refine ⟨fun pins s σ H R I h => ?_⟩
  refine thn (he.run pins s σ H _ I h) fun u s1 ⟨x, H1, J, rx, d, o, ens, ex, hd, q⟩ => ?_
  subst ex
  have eu : u = Value.ref d := rx
  subst eu
  obtain ⟨hgd, hs, hx, arr, ep, hdt, hsz, _⟩ := frzX J hd
  refine iter_keys hs hgd hx hdt (pi_one (tk := s1.toks) J _ (turn_keysX _ hdt) ⟨_, Heap.get?_push_size _ rfl, rfl, ?_⟩ q)
  rw [hsz] <;> rfl
section
variable {F : Fx} {env : List Ent} {ex : XP} {a b c e it elt tg : Expr} {es ifs : List Expr} {pos p0 p1 p2 p3 : Pos} {n x : Str} {P : Po} {st : Stmt} {sts ss body : List Stmt}
theorem LcAt.mono {α β : Type} [Rp α] [Rp β] {own : Nat → Option Addr} {H1 H2 H3 : Hp} {D : Addr} {t : α → Bool} {v : α → β} {done : List α} (hD : H1 D = none) (p : LcAt F own H1 D t v done H2) (s : Same H2 H3) : LcAt F own H1 D t v done H3 := by
  obtain ⟨s2, acc, h1, h2⟩ := p
  refine ⟨fun x o e => ?_, acc, s _ _ h1, h2.mono (hid_same s)⟩
  have ne : x ≠ D := ne_of_none e hD
  have z : (if x = D then none else H2 x) = some o := s2 x o e
  show (if x = D then none else H3 x) = some o
  rw [if_neg ne] at z ⊢
  exact s _ _ z
/-- a comprehension's turns over any walk: J yields what bears the items of xs -/
theorem lc_any {α β : Type} [Rp α] [Rp β] {scope : Scope} {Q : List β → Prop} {g : TG} {is : List Nat} {f : α → List Ent → List Ent} (own0 : List (Str × Nat)) {own : Nat → Option Addr} {σ : L2.St} {H H1 : Hp} {J : It} {xs : List α}
    (hgo : ∀ i H2, Same H1 H2 → i < xs.length → J.go i H2) (hst : ∀ H2, Same H1 H2 → J.stop xs.length H2)
    (hyl : ∀ i H2 u H' y, Same H1 H2 → xs[i]? = some y → J.yld i H2 u H' → Same H2 H' ∧ ∀ hid : Addr → Prop, (∀ a, hid a → H2 a ≠ none) → Same (Hid (hd F.hs own) H1) (Hid hid H2) → Rp.rep F.G (Hid hid H') u y)
    (hlen : ifs.length ≤ 1) (htg : ∀ F', Blk F scope F' → Tg F' tg α g is f) (his : ∀ i ∈ is, i ∈ own0.map (·.2)) (onone : ∀ i ∈ own0.map (·.2), own i = none) (k1 : F.Kn own env σ H1) (sm : Same H H1) (hx : xs.length ≤ 40000)
    {t : α → Bool} {v : α → β} (ht : ∀ F' x, Blk F scope F' → x ∈ xs → KTs F' (f x (wipeE env (own0.map (·.2)))) ifs fun b => b = t x) (hv : ∀ F' x, Blk F scope F' → x ∈ xs → t x = true → KE F' (f x (wipeE env (own0.map (·.2)))) elt noex fun y => y = v x)
    (hQ : Q ((xs.filter t).map v)) {Q' : VK} (hq : ∀ v H', Rs F own H Q v H' → (∃ p, v = .ref p ∧ H p = none) → Q' v H') (D : Addr) (hD : H1 D = none) :
    ∃ W : Nat → Nat → Hp → Prop, (∃ m, W 0 m (upd H1 D (.lst []))) ∧ ∀ i m H, W i m H → (J.stop i H ∧ Q' (.ref D) H) ∨ (J.go i H ∧ ∃ Nx : Hp → Prop, (∀ H', Nx H' → ∃ m', m' < m ∧ W (i + 1) m' H') ∧
      ∀ x H', J.yld i H x H' → g x (wipe σ (own0.map (·.2))) H' fun σ2 H2 => wipe σ2 (own0.map (·.2)) = wipe σ (own0.map (·.2)) ∧ uT F scope ifs σ2 H2 fun b H3 => if b = true then uE F scope elt σ2 H3 fun y H4 => ∃ acc, H4 D = some (.lst acc) ∧ acc.length < sizeLine ∧ Nx (upd H4 D (.lst (acc ++ [y]))) else Nx H3) := by
  refine ⟨fun i m H2 => m + i = xs.length ∧ LcAt F own H1 D t v (xs.take i) H2, ⟨xs.length, rfl, LcAt.start hD⟩, ?_⟩
  rintro i m H2 ⟨em, p⟩
  have s12 := p.same hD
  by_cases lt : i < xs.length
  · obtain ⟨y, hy⟩ : ∃ y, xs[i]? = some y := ⟨_, List.getElem?_eq_getElem lt⟩
    have hmem : y ∈ xs := List.mem_of_getElem? hy
    refine .inr ⟨hgo i H2 s12 lt, LcAt F own H1 D t v (xs.take (i + 1)), fun H' p' => ⟨m - 1, by omega, by omega, p'⟩, fun u H' yl => ?_⟩
    obtain ⟨s2', rp⟩ := hyl i H2 u H' y s12 hy yl
    have tk : xs.take (i + 1) = xs.take i ++ [y] := by rw [List.take_add_one, hy]; rfl
    rw [tk]
    have sD : Same (Hid (hd F.hs own) H1) (Hid (hd (fun x => F.hs x ∨ x = D) own) H2) := fun x o e => by
      have h1 := hid_of e
      have ne : x ≠ D := ne_of_none h1 hD
      have nh : ¬ hd F.hs own x := fun z => by unfold Hid at e; rw [if_pos z] at e; cases e
      rw [hid_at fun z => by
        rcases z with (z | z) | z
        · exact nh (.inl z)
        · exact ne z
        · exact nh (.inr z)]
      exact s12 x o h1
    have r := rp (hd (fun x => F.hs x ∨ x = D) own) (fun a z => by
      rcases z with (z | z) | ⟨j, z⟩
      · exact stays s12 (k1.hsB a z)
      · obtain ⟨_, acc, h1, _⟩ := p
        rw [z, h1]; exact nofun
      · exact stays s12 (k1.new j a z).2) sD
    exact lc_stepG own0 hlen htg his onone k1 hD (by rw [List.length_take]; omega) (fun F' b => ht F' y b hmem) (fun F' b z => hv F' y b hmem z) r (p.mono hD s2')
  · have e : i = xs.length := by omega
    subst e
    exact .inl ⟨hst H2 s12, hq _ _ (lc_end k1 sm hD (by rw [List.take_length] at p; exact p) hQ) ⟨D, rfl, same_none sm hD⟩⟩
end
end Rk

set_option maxHeartbeats 4000000
/-! # Small things: xs * n, all, min of a tuple, three names at once; comprehensions over keys and enumerate -/
namespace Rk
open PySem L2 PyProof.Rows
/-- min over a tuple of ints -/
theorem min_tupRaw {prog : Program} {w : World} {A : Around} {E : Value → Shared → Prop} {s : Shared} {l : Addr} {its : List Value} {ns : List Int} {Q : Value → Shared → Prop} (hh : A.handled = none) (hl : s.heap.IsTuple l its.toArray) (hi : IntsAre its ns) (hne : 0 < ns.length)
    (h : ∀ h' tk M t', (∀ b o, s.heap.get? b = some o → h'.get? b = some o) → M ∈ ns → (∀ a, a ∈ ns → M ≤ a) → Q (.int M t') { s with heap := h', toks := tk }) : wpAny (model prog w) A (call (.builtin "min") [.ref l]) Q E s := by
  obtain ⟨xs, e⟩ := hi.allInts.items
  have hn : numsOf (intItems xs).toList = ns := by rw [← e]; exact hi.numsOf
  rw [nums_intItems] at hn
  subst hn
  rw [e] at hl
  have hsz : 0 < xs.size := by simpa using hne
  have lt : l < s.heap.objs.size := by obtain ⟨_, z, _⟩ := id hl; exact Heap.lt_size z
  have ne : l ≠ s.heap.objs.size := Nat.ne_of_lt lt
  refine call_min_walk (wpAny_pyIter_tuple hl ?_)
  have hl2 : (s.heap.push { cls := .type "tuple_iterator", data := .fields #[.ref l, .int 0 0] }).IsTuple l (intItems xs) := by
    obtain ⟨o, z, r⟩ := hl
    exact ⟨o, Heap.get?_push_of_some _ z, r⟩
  refine ⟨s.heap.objs.size, _, _, _, _, _, _, rfl, Walks.tuple (A := A.in1) hh _ l ne (intItems xs), ⟨⟨_, Heap.get?_push_size _ rfl, rfl, rfl⟩, hl2⟩, fun b hb => ?_, by simpa [intItems] using hsz, CmpOf.ints_lt (numAt xs) (fun _ _ => intItems_at), fun v h' tk hP hk => ?_⟩
  · show b < (s.heap.push _).objs.size
    rw [Heap.size_push]
    simp only [List.mem_cons, List.not_mem_nil, or_false] at hb
    rcases hb with z | z
    · rw [z]; exact Nat.lt_succ_self _
    · rw [z]; exact Nat.lt_succ_of_lt lt
  · have hv : (intItems xs)[argBest (fun i j => decide (numAt xs i < numAt xs j)) (xs.size - 1)]? = some v := by simpa [intItems] using hP
    obtain ⟨t, ev⟩ := intItems_at hv
    subst ev
    obtain ⟨h1, h2⟩ := argBest_lt (numAt xs) (xs.size - 1)
    refine h h' tk _ t (fun b o z => ?_) ?_ fun a ha => ?_
    · refine hk b o (fun m => ?_) (Heap.get?_push_of_some _ z)
      rw [List.mem_singleton] at m
      exact absurd (m ▸ Heap.lt_size z) (Nat.lt_irrefl _)
    · rw [numAt_eq]; exact PySem.getD_mem (by rw [List.length_map, Array.length_toList]; omega)
    · obtain ⟨j, hj, rfl⟩ := mem_getD ha
      rw [List.length_map, Array.length_toList] at hj
      rw [← numAt_eq]; exact h2 j (by omega)
theorem cr_minTup {X : Cx} (hc : X.calm = true) : CallR X (.builtin "min") (fun vs H Q => ∃ (a : Addr) (ns : List Int), vs = [V.ref a] ∧ SqT X.K H a (ns.map V.int) ∧ 0 < ns.length ∧ ∀ m, m ∈ ns → (∀ y, y ∈ ns → m ≤ y) → Q (.int m) H) := by
  intro pins s σ H vs us Q I r h
  obtain ⟨a, ns, rfl, hs, hne, q⟩ := h
  obtain ⟨its, rv, hl, _⟩ := I.tuple hs
  rw [Vals.ref1 r]
  exact min_tupRaw (I.ok.hd hc) (show s.heap.IsTuple a its.toArray from hl) rv.ints hne fun h' tk m t' hk h1 h2 => ⟨.int _, H, I.kept hk, ⟨_, rfl⟩, q m h1 h2⟩
theorem reps_bls {G : Gm} {H : Hp} : ∀ {vs : List V} {bs : List Bool}, RepAll G H vs (dvs bs) → vs = bs.map V.bl
  | [], [], _ => rfl
  | v :: vs, b :: bs, h => by
    have e : v = V.bl b := h.1
    rw [e, reps_bls (vs := vs) (bs := bs) h.2]; rfl
section
variable {F : Fx} {env : List Ent} {ex : XP} {a b c e it elt tg : Expr} {es ifs : List Expr} {pos p0 p1 p2 p3 : Pos} {n x : Str} {P : Po} {st : Stmt} {sts ss body : List Stmt}
/-- min(row), row a tuple of ints -/
theorem k_minT {Q : Int → Prop} (m : NoGl F.X.mg) (h : KE F env e ex fun t : Tl Int => t.xs ≠ [] ∧ ∀ y, y ∈ t.xs → (∀ z ∈ t.xs, y ≤ z) → Q y) (hc : F.X.calm = true := by rfl) (z : Ns F e [] := by rfl) (hg : Gl F.X "min" := by rfl) : KE F env (.Call (.Name "min" p0) [e] [] pos) ex Q :=
  cb (cr_minTup hc) (m _ (by simp)) (by decide +kernel) (a_one h z) (fun own σ H0 H vs ds s k r ⟨t, ed, q0, q⟩ => by
    subst ed
    obtain ⟨v, rfl, l, ws, e1, e2, e3⟩ := rep1 r
    have e4 := reps_ints e3
    refine ⟨l, t.xs, by rw [e1], SqT.of (by rw [← e4]; exact hid_of e2), List.length_pos_iff.mpr q0, fun y hy hle => ⟨y, s, rfl, q y hy hle⟩⟩) hg (hz := z)
/-- all(xs), xs truth values -/
theorem k_all {Q : Bool → Prop} (m : NoGl F.X.mg) (h : KE F env e ex fun bs : List Bool => Q (bs.all id)) (hc : F.X.calm = true := by rfl) (z : Ns F e [] := by rfl) (hg : Gl F.X "all" := by rfl) : KE F env (.Call (.Name "all" p0) [e] [] pos) ex Q :=
  cb (cr_all hc) (m _ (by simp)) (by decide +kernel) (a_one h z) (fun own σ H0 H vs ds s k r ⟨bs, ed, q⟩ => by
    subst ed
    obtain ⟨v, rfl, l, ws, e1, e2, e3⟩ := rep1 r
    have e4 := reps_bls e3
    exact ⟨l, bs, by rw [e1], SqL.of (by rw [← e4]; exact hid_of e2), _, s, rfl, q⟩) hg (hz := z)
/-- xs * n -/
theorem k_rep {α : Type} [Rp α] {Q : List α → Prop} (h : KE F env a ex fun xs : List α => KE F env b ex fun n : Int => (-100000 < n ∧ n < 100000 ∧ xs.length ≤ 100) ∧ Q (List.replicate n.toNat xs).flatten) : KE F env (.BinOp a .Mult b pos) ex Q :=
  k_op op_rep h fun own σ H0 H v u xs n s k r1 r2 ⟨⟨b1, b2, b3⟩, q⟩ => by
    obtain ⟨l, vs, e1, e2, e3⟩ := r1
    have hl : vs.length = xs.length := by rw [e3.len, dvs_len]
    have e : u = V.int n := r2
    refine ⟨l, n, vs, e1, e, hid_of e2, by omega, by omega, ?_, fun t ht => ⟨_, s.trans (same_new ht), ?_, q⟩⟩
    · rw [hl]
      calc xs.length * n.toNat ≤ 100 * 100000 := Nat.mul_le_mul b3 (by omega)
        _ ≤ sizeLine := by decide
    · refine ⟨t, _, rfl, hid_new k (Same.refl _) ht, ?_⟩
      have g := rep_rep e3 n.toNat
      have ed : dvs (List.replicate n.toNat xs).flatten = (List.replicate n.toNat (dvs xs)).flatten := by
        unfold dvs
        rw [List.map_flatten, List.map_replicate]
      rw [ed]
      exact RepAll.mono (hid_same (same_new ht)) g
theorem k_someO {α : Type} [Rp α] {Q : Op α → Prop} (h : KE F env e ex fun x : α => Q ⟨some x⟩) : KE F env e ex Q := fun own σ H k p => tE_mono (fun v H' ⟨x, s, r, q⟩ => ⟨⟨some x⟩, s, r, q⟩) (h own σ H k p)
/-- x, y, z = a, b, c: ints -/
theorem s_par3 {i j l : Nat} {y z : Str} {kt k2 : Nat} {q1 q2 q3 pt pt2 : Pos} (nd : F.X.N.Nodup) (hi : F.X.N[i]? = some x) (hj : F.X.N[j]? = some y) (hl : F.X.N[l]? = some z) (hij : i ≠ j) (hil : i ≠ l) (hjl : j ≠ l)
    (h : KE F env a P.ex fun u : Int => KE F env b P.ex fun v : Int => KE F env c P.ex fun w : Int => P.nx (((env.set i (.sh (dv u))).set j (.sh (dv v))).set l (.sh (dv w))))
    (hw : swappedStores [.Tuple [.Name x q1, .Name y q2, .Name z q3] kt pt] (.Tuple [a, b, c] k2 pt2) F.X.env = pure (some [x, y, z]) := by rfl)
    (hc : F.X.calm = true := by rfl) (hx : F.X.env.scope.names.lookup x = some .local := by rfl) (hy : F.X.env.scope.names.lookup y = some .local := by rfl) (hz : F.X.env.scope.names.lookup z = some .local := by rfl)
    (n1 : Ns F a [b, c] := by rfl) (n2 : Ns F b [c] := by rfl) (n3 : Ns F c [] := by rfl)
    (hs : swapsWithSole [.Tuple [.Name x q1, .Name y q2, .Name z q3] kt pt] (.Tuple [a, b, c] k2 pt2) pos.line F.X.env = pure false := by rfl) :
    KS F env (.Assign [.Tuple [.Name x q1, .Name y q2, .Name z q3] kt pt] (.Tuple [a, b, c] k2 pt2) pos) P := fun own σ H k p => by
  have args : KA F env [a, b, c] P.ex fun ds => ∃ u v w : Int, ds = [dv u, dv v, dv w] ∧ P.nx (((env.set i (.sh (dv u))).set j (.sh (dv v))).set l (.sh (dv w))) :=
    a_cons (ke_imp (fun u q => a_cons (ke_imp (fun v q => a_cons (ke_imp (fun w q => a_nil ⟨u, v, w, rfl, q⟩) q) n3) q) n2) h) n1
  refine tS_of (ps_par3 hc nd hi hj hl hij hil hjl hx hy hz peA hw hs) (tA_mono (fun vs H' ⟨ds, s, r, u, v, w, ed, q⟩ => ?_) (args own σ H k p))
  subst ed
  match vs, r with
  | [v1, v2, v3], r =>
    have k1 := (k.mono s).set (i := i) (v := v1) (d := dv u) r.1
    have k2 := k1.set (i := j) (v := v2) (d := dv v) (DV.mono (d := dv v) (hid_more fun _ z => drop_hd z) r.2.1)
    have k3 := k2.set (i := l) (v := v3) (d := dv w) (DV.mono (d := dv w) (hid_more fun _ z => drop_hd (drop_hd z)) r.2.2.1)
    exact ⟨v1, v2, v3, rfl, _, _, k3, (Fr.of s).trans ((Fr.drop i).trans ((Fr.drop j).trans (Fr.drop l))), q⟩
/-- [elt for tg in d if ..], d a dict -/
theorem q_lcK {κ β γ : Type} [Rp κ] [Ky κ] [Rp β] [Rp γ] {scope : Scope} {Q : List γ → Prop} {g : TG} {is : List Nat} {f : κ → List Ent → List Ent} (own0 : List (Str × Nat)) (nd : F.X.N.Nodup) (ok : BlkOk F.X.N F.X.env.scope scope own0)
    (hlen : ifs.length ≤ 1) (htg : ∀ F', Blk F scope F' → Tg F' tg κ g is f) (his : ∀ i ∈ is, i ∈ own0.map (·.2)) (hno : ∀ i ∈ own0.map (·.2), ∀ o, env[i]? ≠ some (.ow o))
    (h : KE F env it ex fun d : Dic κ β => d.kvs.length ≤ 40000 ∧ ∃ (t : κ → Bool) (v : κ → γ), (∀ F' x, Blk F scope F' → x ∈ d.kvs.map Prod.fst → KTs F' (f x (wipeE env (own0.map (·.2)))) ifs fun b => b = t x) ∧
      (∀ F' x, Blk F scope F' → x ∈ d.kvs.map Prod.fst → t x = true → KE F' (f x (wipeE env (own0.map (·.2)))) elt noex fun y => y = v x) ∧ Q (((d.kvs.map Prod.fst).filter t).map v))
    (hc : F.X.calm = true := by rfl) (hs : ∀ x, foldedSetIterable it F.X.env x = pure x := by intro _; rfl) : KLc F env elt tg it ifs scope ex Q := fun own σ H k p => by
  have onone : ∀ i ∈ own0.map (·.2), own i = none := fun i hi => by
    cases q : own i with
    | none => rfl
    | some p => exact absurd (k.out i p q).choose_spec (hno i hi _)
  refine ⟨_, g, own0, hc, nd, (pi_keysX peE), ok, (fun s H C cl fp => (htg ⟨F.X.blk s H scope (compEnvC scope cl C F.X.env) fp, F.cls, F.hs, F.B⟩ ⟨s, H, C, cl, fp, F.hs, rfl⟩).pg), hlen, hs, fun Q' hq => ?_⟩
  refine tE_mono (fun v0 H1 ⟨d, sm, ⟨l, o, ens, e1, e2, e3, e4⟩, hx, t, v, ht, hv, hQ⟩ => ⟨l, o, ens, e1, hid_of e2, fun D hD => ?_⟩) (h own σ H k p)
  have le : ens.length = d.kvs.length := Paired.length e3
  exact lc_any own0 (J := Itx l o ens) (xs := d.kvs.map Prod.fst) (fun i H2 s lt => ⟨s _ _ (hid_of e2), by rw [List.length_map] at lt; omega⟩) (fun H2 s => ⟨s _ _ (hid_of e2), by rw [List.length_map]; omega⟩)
    (fun i H2 u H' y s hy ⟨eH, e, he, ex⟩ => by
      subst eH
      refine ⟨Same.refl _, fun hid _ sm2 => ?_⟩
      obtain ⟨kv, h1, h2⟩ := paired_get e3 he
      rw [List.getElem?_map, h1] at hy
      have ey : kv.1 = y := Option.some.inj hy
      rw [ex, ← ey]
      exact Rp.mono sm2 h2.2.1) hlen htg his onone (k.mono sm) sm (by rw [List.length_map]; exact hx) ht hv hQ hq D hD
def enumL {α : Type} (xs : List α) : List (Int × α) := xs.zipIdx.map fun p => ((p.2 : Int), p.1)
theorem enumL_get {α : Type} {xs : List α} {i : Nat} : (enumL xs)[i]? = (xs[i]?).map fun x => ((i : Int), x) := by
  unfold enumL
  rw [List.getElem?_map, List.getElem?_zipIdx, Option.map_map]
  cases xs[i]? with
  | none => rfl
  | some x => simp
theorem enumL_len {α : Type} {xs : List α} : (enumL xs).length = xs.length := by unfold enumL; rw [List.length_map, List.length_zipIdx]
/-- [elt for i, x in enumerate(xs) if ..] -/
theorem q_lcE {α γ : Type} [Rp α] [Rp γ] {scope : Scope} {Q : List γ → Prop} {g : TG} {is : List Nat} {f : Int × α → List Ent → List Ent} {elts : List Expr} {kk : Nat} {tpos : Pos} (own0 : List (Str × Nat)) (nd : F.X.N.Nodup) (m : NoGl F.X.mg) (ok : BlkOk F.X.N F.X.env.scope scope own0)
    (hlen : ifs.length ≤ 1) (htg : ∀ F', Blk F scope F' → Tg F' (.Tuple elts kk tpos) (Int × α) g is f) (his : ∀ i ∈ is, i ∈ own0.map (·.2)) (hno : ∀ i ∈ own0.map (·.2), ∀ o, env[i]? ≠ some (.ow o))
    (h : KE F env it ex fun xs : List α => xs.length ≤ 40000 ∧ ∃ (t : Int × α → Bool) (v : Int × α → γ), (∀ F' x, Blk F scope F' → x ∈ enumL xs → KTs F' (f x (wipeE env (own0.map (·.2)))) ifs fun b => b = t x) ∧
      (∀ F' x, Blk F scope F' → x ∈ enumL xs → t x = true → KE F' (f x (wipeE env (own0.map (·.2)))) elt noex fun y => y = v x) ∧ Q (((enumL xs).filter t).map v))
    (hc : F.X.calm = true := by rfl) (hg : Gl F.X "enumerate" := by rfl) (z : Ns F it [] := by rfl) (z1 : starEach [it] F.X.env = [(false, eval it F.X.env)] := by rfl)
    (hs : ∀ x, foldedSetIterable (.Call (.Name "enumerate" p0) [it] [] p1) F.X.env x = pure x := by intro _; rfl) : KLc F env elt (.Tuple elts kk tpos) (.Call (.Name "enumerate" p0) [it] [] p1) ifs scope ex Q := fun own σ H k p => by
  have onone : ∀ i ∈ own0.map (·.2), own i = none := fun i hi => by
    cases q : own i with
    | none => rfl
    | some p => exact absurd (k.out i p q).choose_spec (hno i hi _)
  refine ⟨_, g, own0, hc, nd, (pi_enum hg (m _ (by simp)) (pa_cons peE pa_nil z) z1), ok, (fun s H C cl fp => (htg ⟨F.X.blk s H scope (compEnvC scope cl C F.X.env) fp, F.cls, F.hs, F.B⟩ ⟨s, H, C, cl, fp, F.hs, rfl⟩).pg), hlen, hs, fun Q' hq => ?_⟩
  refine tE_mono (fun v0 H1 ⟨xs, sm, ⟨l, vs, e1, e2, e3⟩, hx, t, v, ht, hv, hQ⟩ => ?_) (h own σ H k p)
  have hl : vs.length = xs.length := by rw [e3.len, dvs_len]
  have sq : ∀ H2, Same H1 H2 → SqL F.X.K H2 l vs := fun H2 s => SqL.of (s _ _ (hid_of e2))
  refine ⟨l, vs, by rw [e1], sq H1 (Same.refl _), fun D hD => ?_⟩
  exact lc_any own0 (J := Ite F.X.K l) (xs := enumL xs) (fun i H2 s lt => ⟨vs, _, sq H2 s, List.getElem?_eq_getElem (by rw [enumL_len] at lt; omega)⟩) (fun H2 s => ⟨vs, sq H2 s, by rw [enumL_len]; omega⟩)
    (fun i H2 u H' y s hy ⟨T, w, eu, nT, eH, hw⟩ => by
      subst eH
      refine ⟨same_new nT, fun hid hn sm2 => ?_⟩
      rw [enumL_get] at hy
      cases hxi : xs[i]? with
      | none => rw [hxi] at hy; cases hy
      | some x =>
        rw [hxi] at hy
        have ey : ((i : Int), x) = y := Option.some.inj hy
        subst ey
        have nh : ¬ hid T := fun z => hn T z nT
        obtain ⟨w2, h1, h2⟩ := e3.get (i := i) (d := dv x) (by rw [dvs_get, hxi]; rfl)
        have ew : w = w2 := by
          have z := hw vs (sq H2 s)
          rw [h1] at z
          exact (Option.some.inj z).symm
        subst ew
        refine ⟨T, [V.int (i : Nat), w], eu, by rw [hid_at nh, upd_same], ?_⟩
        show (dv (i : Int)).rep F.G _ (V.int (i : Nat)) ∧ (dv x).rep F.G _ w ∧ True
        refine ⟨rfl, ?_, trivial⟩
        refine DV.mono (d := dv x) (sm2.trans fun a o e => ?_) h2
        have h0 := hid_of e
        have nh2 : ¬ hid a := fun z => by unfold Hid at e; rw [if_pos z] at e; cases e
        rw [hid_at nh2, upd_ne (ne_of_none h0 nT)]
        exact h0) hlen htg his onone (k.mono sm) sm (by rw [enumL_len]; exact hx) ht hv hQ hq D hD
end
end Rk

set_option maxHeartbeats 4000000
/-! # A comprehension with two fors: a written tuple, a range -/
namespace Rk
open PySem L2 PyProof.Rows
section
variable {F : Fx} {env : List Ent} {ex : XP} {a b c e it elt tg tg1 lo hi : Expr} {es ifs : List Expr} {pos p0 p1 p2 p3 : Pos} {n x : Str} {P : Po} {st : Stmt} {sts ss body : List Stmt}
/-- what is hidden in hs may change -/
theorem Kn.but {G : Gm} {hs : Addr → Prop} {B : Hp} {own : Nat → Option Addr} {σ : L2.St} {H H' : Hp} {D : Addr} (k : Rk.Kn G hs B own env σ H) (hB : B D = none) (hD : hs D) (s : Same (fun a => if a = D then none else H a) H') (hn : H' D ≠ none) : Rk.Kn G hs B own env σ H' := by
  have at_ : ∀ a o, a ≠ D → H a = some o → H' a = some o := fun a o ne e => s a o (by show (if a = D then none else H a) = some o; rw [if_neg ne]; exact e)
  have sm : Same (Hid (hd hs own) H) (Hid (hd hs own) H') := fun a o e => by
    have h1 := hid_of e
    have nh : ¬ hd hs own a := fun z => by unfold Hid at e; rw [if_pos z] at e; cases e
    rw [hid_at nh]
    exact at_ a o (fun z => nh (.inl (z ▸ hD))) h1
  exact {
    ex := fun a o e => at_ a o (ne_of_none e hB) (k.ex a o e)
    hsB := fun a h => by
      by_cases z : a = D
      · rw [z]; exact hn
      · cases q : H a with
        | none => exact absurd q (k.hsB a h)
        | some o => rw [at_ a o z q]; exact nofun
    dis := k.dis
    len := k.len
    inj := k.inj
    new := fun i p h => ⟨(k.new i p h).1, by
      have z : p ≠ D := fun z => k.dis i p h (z ▸ hD)
      cases q : H p with
      | none => exact absurd q (k.new i p h).2
      | some o => rw [at_ p o z q]; exact nofun⟩
    out := k.out
    ent := fun i e h => by
      have y := k.ent i e h
      cases e with
      | no => trivial
      | sh d => obtain ⟨v, h1, h2⟩ := y; exact ⟨v, h1, DV.mono sm h2⟩
      | ow o =>
        obtain ⟨p, ho, h0, h1, h2, h3⟩ := y
        exact ⟨p, ho, h0, h1, at_ p ho (fun z => k.dis i p h0 (z ▸ hD)) h2, o.mono sm h3⟩ }
def uA (F : Fx) (scope : Scope) (es : List Expr) : TA := fun σ H Q => ∀ (s : Shared) (H0 : Hp) (C : Addr) (cl : List (Str × Addr)) (fp : List Addr), tA (F.X.blk s H0 scope (compEnvC scope cl C F.X.env) fp) es σ H Q
def out2 {α β : Type} (l h : α → Int) (v : α → Int → β) (xs : List α) : List β := xs.flatMap fun x => (span (l x) (h x)).map (v x)
theorem out2_one {α β : Type} {l h : α → Int} {v : α → Int → β} {xs : List α} {y : α} : out2 l h v (xs ++ [y]) = out2 l h v xs ++ (span (l y) (h y)).map (v y) := by
  unfold out2; rw [List.flatMap_append]; simp
abbrev LcL {β : Type} [Rp β] (F : Fx) (own : Nat → Option Addr) (H1 : Hp) (D : Addr) (done : List β) (H2 : Hp) : Prop := LcAt F own H1 D (fun _ : β => true) id done H2
theorem lcl_eq {β : Type} (xs : List β) : (xs.filter fun _ => true).map id = xs := by rw [List.map_id, List.filter_eq_self.mpr fun _ _ => rfl]
/-- [elt for tg in (..) for tg1 in range(lo, hi)] -/
theorem k_lc2 {α β : Type} [Rp α] [Rp β] {scope : Scope} {Q : List β → Prop} {g g1 : TG} {is is1 : List Nat} {f : α → List Ent → List Ent} {f1 : Int → List Ent → List Ent} (own0 : List (Str × Nat)) (vs1 : List Nat) (nd : F.X.N.Nodup) (m : NoGl F.X.mg) (ok : BlkOk F.X.N F.X.env.scope scope own0) (hv1 : ∀ i ∈ vs1, i ∈ own0.map (·.2))
    (htg : ∀ F', Blk F scope F' → Tg F' tg α g is f) (htg1 : ∀ F', Blk F scope F' → Tg F' tg1 Int g1 is1 f1) (his : ∀ i ∈ is, i ∈ own0.map (·.2)) (his1 : ∀ i ∈ is1, i ∈ vs1) (hno : ∀ i ∈ own0.map (·.2), ∀ o, env[i]? ≠ some (.ow o)) (hno2 : ∀ (x : α), ∀ i ∈ vs1, ∀ o, (f x (wipeE env (own0.map (·.2))))[i]? ≠ some (.ow o))
    (h : KE F env it ex fun xs : Tl α => xs.xs.length ≤ 100 ∧ ∃ (l h : α → Int) (v : α → Int → β), (∀ F' x, Blk F scope F' → x ∈ xs.xs → (-1000 < l x ∧ l x < 1000 ∧ -1000 < h x ∧ h x < 1000) ∧ KE F' (f x (wipeE env (own0.map (·.2)))) lo noex fun i => KE F' (f x (wipeE env (own0.map (·.2)))) hi noex fun j => i = l x ∧ j = h x) ∧
      (∀ F' x z, Blk F scope F' → x ∈ xs.xs → z ∈ span (l x) (h x) → KE F' (f1 z (wipeE (f x (wipeE env (own0.map (·.2)))) vs1)) elt noex fun y => y = v x z) ∧ Q (out2 l h v xs.xs))
    (hB : ∀ s H0 C cl fp, Gl (F.X.blk s H0 scope (compEnvC scope cl C F.X.env) fp) "range" := by intro _ _ _ _ _; rfl)
    (z1 : ∀ s H0 C cl fp, starEach [lo, hi] (F.X.blk s H0 scope (compEnvC scope cl C F.X.env) fp).env = [(false, eval lo (F.X.blk s H0 scope (compEnvC scope cl C F.X.env) fp).env), (false, eval hi (F.X.blk s H0 scope (compEnvC scope cl C F.X.env) fp).env)] := by intro _ _ _ _ _; rfl)
    (z2 : ∀ s H0 C cl fp, starEach [hi] (F.X.blk s H0 scope (compEnvC scope cl C F.X.env) fp).env = [(false, eval hi (F.X.blk s H0 scope (compEnvC scope cl C F.X.env) fp).env)] := by intro _ _ _ _ _; rfl)
    (hc : F.X.calm = true := by rfl) (hs : ∀ x, foldedSetIterable it F.X.env x = pure x := by intro _; rfl) (hs1 : ∀ env x, foldedSetIterable (.Call (.Name "range" p2) [lo, hi] [] p3) env x = pure x := by intro _ _; rfl) :
    KE F env (.ListComp elt [⟨tg, it, [], 0⟩, ⟨tg1, .Call (.Name "range" p2) [lo, hi] [] p3, [], 0⟩] scope pos) ex Q := fun own σ H k p => by
  have onone : ∀ i ∈ own0.map (·.2), own i = none := fun i hi => by
    cases q : own i with
    | none => rfl
    | some p => exact absurd (k.out i p q).choose_spec (hno i hi _)
  refine tE_of (pe_lc2 (own := own0) (vs1 := vs1) (g := g) (g1 := g1) (tt := uT F scope []) (tt1 := uT F scope []) (te := uE F scope elt) (wi1 := iRng2 (uA F scope [lo, hi])) hc nd (pi_tup peE) ok hv1 (fun s H C cl fp => (htg ⟨F.X.blk s H scope (compEnvC scope cl C F.X.env) fp, F.cls, F.hs, F.B⟩ ⟨s, H, C, cl, fp, F.hs, rfl⟩).pg) (lc_tests (Nat.zero_le _))
    (fun s H C cl fp => pi_range2 (hB s H C cl fp) (m _ (by simp)) ⟨fun pos pins s' σ H' Q I h => h s H C cl fp pos pins s' I⟩ (z1 s H C cl fp) (z2 s H C cl fp)) (fun s H C cl fp => (htg1 ⟨F.X.blk s H scope (compEnvC scope cl C F.X.env) fp, F.cls, F.hs, F.B⟩ ⟨s, H, C, cl, fp, F.hs, rfl⟩).pg) (lc_tests (Nat.zero_le _))
    (fun s H C cl fp => ⟨fun pins s' σ H' Q I h => h s H C cl fp pins s' I⟩) hs hs1) ?_
  refine tE_mono (fun v0 H1 ⟨⟨xs⟩, sm, ⟨t, vs, e1, e2, e3⟩, hx, l, h, v, hb, hv, hQ⟩ => ?_) (h own σ H k p)
  have e3 : RepAll F.G (Hid (hd F.hs own) H1) vs (dvs xs) := e3
  have hx : xs.length ≤ 100 := hx
  have hlv : vs.length = xs.length := by rw [e3.len, dvs_len]
  have sq : ∀ H2, Same H1 H2 → SqT F.X.K H2 t vs := fun H2 s => SqT.of (s _ _ (hid_of e2))
  refine ⟨t, e1, ⟨vs, sq H1 (Same.refl _)⟩, fun D hD => ?_⟩
  have k1 := k.mono sm
  have hBD : F.B D = none := by
    cases q : F.B D with
    | none => rfl
    | some o => rw [k1.ex D o q] at hD; cases hD
  have small : ∀ ys : List α, (∀ y ∈ ys, y ∈ xs) → ys.length ≤ 100 → (out2 l h v ys).length ≤ ys.length * 2000 := fun ys hys _ => by
    induction ys with
    | nil => exact Nat.zero_le _
    | cons y ys ih =>
      have e : out2 l h v (y :: ys) = (span (l y) (h y)).map (v y) ++ out2 l h v ys := by unfold out2; rw [List.flatMap_cons]
      have b := (hb ⟨F.X.blk F.X.s_0 H1 scope (compEnvC scope [] 0 F.X.env) [], F.cls, F.hs, F.B⟩ y ⟨_, _, _, _, _, _, rfl⟩ (hys y List.mem_cons_self)).1
      rw [e, List.length_append, List.length_map, span_len, List.length_cons, Nat.add_mul]
      have := ih (fun z hz => hys z (List.mem_cons_of_mem _ hz)) (by simp at *; omega)
      omega
  refine ⟨fun i mm H2 => mm + i = xs.length ∧ LcL F own H1 D (out2 l h v (xs.take i)) H2, ⟨xs.length, rfl, LcAt.start hD⟩, ?_⟩
  rintro i mm H2 ⟨em, q2⟩
  have s12 := q2.same hD
  by_cases lt : i < xs.length
  · obtain ⟨y, hy⟩ : ∃ y, xs[i]? = some y := ⟨_, List.getElem?_eq_getElem lt⟩
    have hmem : y ∈ xs := List.mem_of_getElem? hy
    refine .inr ⟨⟨vs, _, sq H2 s12, List.getElem?_eq_getElem (by omega)⟩, LcL F own H1 D (out2 l h v (xs.take (i + 1))), fun H' q' => ⟨mm - 1, by omega, by omega, q'⟩, fun u H' ⟨eH, hu⟩ => ?_⟩
    replace eH := eH.symm
    subst eH
    have tk : xs.take (i + 1) = xs.take i ++ [y] := by rw [List.take_add_one, hy]; rfl
    rw [tk, out2_one]
    obtain ⟨w, hw1, hw2⟩ := e3.get (i := i) (d := dv y) (by rw [dvs_get, hy]; rfl)
    have eu : u = w := by
      have z := hu vs (sq _ s12)
      rw [hw1] at z
      exact (Option.some.inj z).symm
    subst eu
    obtain ⟨acc0, hacc0⟩ : ∃ acc, H2 D = some (.lst acc) := let ⟨_, acc, z, _⟩ := q2; ⟨acc, z⟩
    have kD : Rk.Kn F.G (fun x => F.hs x ∨ x = D) F.B own env σ H2 := k1.veil s12 hD hacc0
    obtain ⟨kw, frw⟩ := Kn.wipe (F := ⟨F.X, F.cls, fun x => F.hs x ∨ x = D, F.B⟩) (show (⟨F.X, F.cls, fun x => F.hs x ∨ x = D, F.B⟩ : Fx).Kn own env σ H2 from kD) (own0.map (·.2))
    have sD : Same (Hid (hd F.hs own) H1) (Hid (hd (fun x => F.hs x ∨ x = D) own) H2) := fun x o e => by
      have h1 := hid_of e
      have ne : x ≠ D := ne_of_none h1 hD
      have nh : ¬ hd F.hs own x := fun z => by unfold Hid at e; rw [if_pos z] at e; cases e
      rw [hid_at fun z => by
        rcases z with (z | z) | z
        · exact nh (.inl z)
        · exact ne z
        · exact nh (.inr z)]
      exact s12 x o h1
    refine (htg ⟨F.X.blk F.X.s_0 H1 scope (compEnvC scope [] 0 F.X.env) [], F.cls, fun x => F.hs x ∨ x = D, F.B⟩ ⟨F.X.s_0, H1, 0, [], [], _, rfl⟩).sem y _ _ _ _ H2 u kw (DV.mono (d := dv y) (sD.trans frw) hw2) fun own2 σ2 k2 f2 wp kp => ?_
    rw [wipeO_same onone] at kp
    refine ⟨by rw [wp _ his]; exact wipe_twice _, fun _ _ _ _ _ => ?_⟩
    -- the inner range
    intro s' H0 C cl fp
    have B' : Blk F scope ⟨F.X.blk s' H0 scope (compEnvC scope cl C F.X.env) fp, F.cls, fun x => F.hs x ∨ x = D, F.B⟩ := ⟨s', H0, C, cl, fp, _, rfl⟩
    obtain ⟨bnd, ke⟩ := hb _ y B' hmem
    have args : KA ⟨F.X.blk s' H0 scope (compEnvC scope cl C F.X.env) fp, F.cls, fun x => F.hs x ∨ x = D, F.B⟩ (f y (wipeE env (own0.map (·.2)))) [lo, hi] noex fun ds => ds = [dv (l y), dv (h y)] :=
      a_cons (ke_imp (fun i q => a_cons (ke_imp (fun j q => a_nil (by rw [q.1, q.2])) q) (by
        have z := z2 s' H0 C cl fp
        exact z)) ke) (by
        have z := z1 s' H0 C cl fp
        have z' := z2 s' H0 C cl fp
        show starEach [lo, hi] _ = (false, eval lo _) :: starEach [hi] _
        rw [z, z'])
    refine tA_mono (fun ws H4 ⟨ds, s4, r4, ed⟩ => ?_) (args own2 σ2 H2 k2 (noPort B'))
    subst ed
    match ws, r4 with
    | [w1, w2], r4 =>
      have ew1 : w1 = V.int (l y) := r4.1
      have ew2 : w2 = V.int (h y) := r4.2.1
      subst ew1 ew2
      refine ⟨l y, h y, rfl, ⟨by omega, by omega, by omega, by omega⟩, ?_⟩
      have q4 : LcL F own H1 D (out2 l h v (xs.take i)) H4 := q2.mono hD s4
      refine ⟨fun j kk H5 => kk + j = (h y - l y).toNat ∧ Same (fun a => if a = D then none else H2 a) H5 ∧ LcL F own H1 D (out2 l h v (xs.take i) ++ ((span (l y) (h y)).take j).map (v y)) H5, ⟨(h y - l y).toNat, rfl, fun a o e => ?_, by rw [List.take_zero, List.map_nil, List.append_nil]; exact q4⟩, ?_⟩
      · replace e : (if a = D then none else H2 a) = some o := e
        by_cases z : a = D
        · rw [if_pos z] at e; cases e
        · rw [if_neg z] at e; exact s4 _ _ e
      rintro j kk H5 ⟨ek, s25, q5⟩
      have s15 := q5.same hD
      obtain ⟨s5, acc, hacc, hr⟩ := q5
      by_cases lt2 : j < (h y - l y).toNat
      · refine .inr ⟨lt2, fun H6 => Same (fun a => if a = D then none else H2 a) H6 ∧ LcL F own H1 D (out2 l h v (xs.take i) ++ ((span (l y) (h y)).take (j + 1)).map (v y)) H6, fun H' q' => ⟨kk - 1, by omega, by omega, q'⟩, fun u2 H6 ⟨eH6, eu2⟩ => ?_⟩
        replace eH6 := eH6.symm
        subst eH6
        have hz := span_get lt2
        have hmz : l y + (j : Int) ∈ span (l y) (h y) := List.mem_of_getElem? hz
        have tk2 : (span (l y) (h y)).take (j + 1) = (span (l y) (h y)).take j ++ [l y + (j : Int)] := by rw [List.take_add_one, hz]; rfl
        rw [tk2, List.map_append, ← List.append_assoc]
        have k5 : Rk.Kn F.G (fun x => F.hs x ∨ x = D) F.B own2 (f y (wipeE env (own0.map (·.2)))) σ2 H5 := Kn.but k2 hBD (.inr rfl) s25 (by rw [hacc]; exact nofun)
        obtain ⟨kw5, frw5⟩ := Kn.wipe (F := ⟨F.X, F.cls, fun x => F.hs x ∨ x = D, F.B⟩) (show (⟨F.X, F.cls, fun x => F.hs x ∨ x = D, F.B⟩ : Fx).Kn own2 _ σ2 H5 from k5) vs1
        have onone2 : ∀ i ∈ vs1, own2 i = none := fun i hi => by
          cases q : own2 i with
          | none => rfl
          | some p => exact absurd (k5.out i p q).choose_spec (hno2 y i hi _)
        refine (htg1 ⟨F.X.blk F.X.s_0 H1 scope (compEnvC scope [] 0 F.X.env) [], F.cls, fun x => F.hs x ∨ x = D, F.B⟩ ⟨F.X.s_0, H1, 0, [], [], _, rfl⟩).sem (l y + (j : Int)) _ _ _ _ H5 u2 kw5 eu2 fun own3 σ3 k6 f6 wp6 kp6 => ?_
        rw [wipeO_same onone2] at kp6
        refine ⟨by rw [wp6 _ his1]; exact wipe_twice _, fun _ _ _ _ _ => ?_⟩
        intro s7 H7 C7 cl7 fp7
        have B7 : Blk F scope ⟨F.X.blk s7 H7 scope (compEnvC scope cl7 C7 F.X.env) fp7, F.cls, fun x => F.hs x ∨ x = D, F.B⟩ := ⟨s7, H7, C7, cl7, fp7, _, rfl⟩
        refine tE_mono (fun z H8 ⟨w8, s8, r8, e8⟩ => ?_) (hv _ y (l y + (j : Int)) B7 hmem hmz own3 σ3 H5 k6 (noPort B7))
        subst e8
        have la : acc.length = (out2 l h v (xs.take i) ++ ((span (l y) (h y)).take j).map (v y)).length := by rw [hr.len, dvs_len, lcl_eq]
        have lb := small (xs.take i) (fun z hz => List.mem_of_mem_take hz) (by rw [List.length_take]; omega)
        have big : (300000 : Nat) < sizeLine := by decide
        refine ⟨acc, s8 _ _ hacc, ?_, fun a o e => ?_, fun a o e => ?_, acc ++ [z], upd_same, ?_⟩
        · rw [la, List.length_append, List.length_map, List.length_take, span_len]
          rw [List.length_take] at lb
          have : min i xs.length * 2000 ≤ 100 * 2000 := Nat.mul_le_mul_right _ (by omega)
          omega
        · by_cases zz : a = D
          · replace e : (if a = D then none else H2 a) = some o := e
            rw [if_pos zz] at e; cases e
          · rw [upd_ne zz]
            exact s8 _ _ (s25 a o e)
        · have ne : a ≠ D := ne_of_none e hD
          show (if a = D then none else upd H8 D (.lst (acc ++ [z])) a) = some o
          rw [if_neg ne, upd_ne ne]; exact s8 _ _ (s15 _ _ e)
        · rw [List.filter_append, List.map_append]
          have hidD : hd (fun x => F.hs x ∨ x = D) own D := .inl (.inr rfl)
          rw [hid_upd hidD]
          unfold dvs
          rw [List.map_append]
          refine RepAll.app (hr.mono (hid_same s8)) ⟨?_, trivial⟩
          refine DV.mono (d := dv (v y (l y + (j : Int)))) (hid_more fun x q => ?_) r8
          rcases q with q | ⟨i3, q⟩
          · exact .inl q
          · have o2 : own2 i3 = some x → ∃ i4, own3 i4 = some x := fun q2 => by
              rcases kp6 i3 x q2 with z | z
              · rw [onone2 i3 (his1 i3 z)] at q2; cases q2
              · exact ⟨i3, z⟩
            rcases kp i3 x q with z | z
            · rw [onone i3 (his i3 z)] at q; cases q
            · exact .inr (o2 z)
      · have e : j = (h y - l y).toNat := by omega
        subst e
        refine .inl ⟨Nat.le_refl _, ?_⟩
        rw [show (span (l y) (h y)).take (h y - l y).toNat = span (l y) (h y) from List.take_of_length_le (by rw [span_len]; exact Nat.le_refl _)] at hr
        exact ⟨s5, acc, hacc, hr⟩
  · have e : i = xs.length := by omega
    subst e
    rw [List.take_length] at q2
    obtain ⟨y, s, r, q⟩ := lc_end (Q := Q) k1 sm hD q2 (by rw [lcl_eq]; exact hQ)
    exact .inl ⟨⟨vs, sq H2 s12, by omega⟩, y, s, r, q⟩
end
end Rk

set_option maxHeartbeats 4000000
/-! # zip(*rows) walked by one name -/
namespace Rk
open PySem L2 PyProof.Rows
/-- an iterator, its list, the list's items -/
abbrev Zt := Addr × Addr × List Value
def ZObj (h : Heap) (z TI TO : Addr) (f0 f1 : Value) : Prop := h.get? z = some ⟨.type "zip", none, .fields #[f0, f1, .bool false, .ref TI, .ref TO], #[]⟩
def ZTup (h : Heap) (T : Addr) (xs : List Value) : Prop := h.get? T = some { cls := .type "tuple", data := .seq xs.toArray }
def ZOut (f0 : Value) : Prop := f0 = .none ∨ ∃ T : Addr, f0 = rawInt T
/-- the i-th iterators stand at place k -/
def ZAt (h : Heap) (k : Nat) (t : Zt) : Prop := h.IsListIter t.1 t.2.1 k ∧ h.IsList t.2.1 t.2.2.toArray
theorem ZAt.but {h h' : Heap} {k : Nat} {t : Zt} {a : Addr} (st : ZAt h k t) (e : Heap.SameBut a h h') (n1 : t.1 ≠ a) (n2 : t.2.1 ≠ a) : ZAt h' k t :=
  ⟨st.1.at fun o q => e.extBut _ _ n1 q, st.2.at fun o q => e.extBut _ _ n2 q⟩
/-- but for the addresses told, the heap stays -/
def Keeps (xs : List Addr) (h h' : Heap) : Prop := h'.objs.size = h.objs.size ∧ ∀ c o, c ∉ xs → h.get? c = some o → h'.get? c = some o
theorem Keeps.refl {xs : List Addr} {h : Heap} : Keeps xs h h := ⟨rfl, fun _ _ _ e => e⟩
theorem Keeps.of {a : Addr} {xs : List Addr} {h h' : Heap} (m : a ∈ xs) (e : Heap.SameBut a h h') : Keeps xs h h' := ⟨e.1, fun c o n q => e.extBut _ _ (fun z => n (z ▸ m)) q⟩
theorem Keeps.trans {xs : List Addr} {h h' h'' : Heap} (a : Keeps xs h h') (b : Keeps xs h' h'') : Keeps xs h h'' := ⟨b.1.trans a.1, fun c o n q => b.2 c o n (a.2 c o n q)⟩
theorem Keeps.sub {xs ys : List Addr} {h h' : Heap} (a : Keeps xs h h') (m : ∀ x ∈ xs, x ∈ ys) : Keeps ys h h' := ⟨a.1, fun c o n q => a.2 c o (fun z => n (m c z)) q⟩
theorem ZAt.kept {h h' : Heap} {k : Nat} {t : Zt} {xs : List Addr} (st : ZAt h k t) (e : Keeps xs h h') (n1 : t.1 ∉ xs) (n2 : t.2.1 ∉ xs) : ZAt h' k t :=
  ⟨st.1.at fun o q => e.2 _ _ n1 q, st.2.at fun o q => e.2 _ _ n2 q⟩
section
variable {prog : Program} {w : World} {A : Around} {E : Value → Shared → Prop} {s : Shared} {z TI TO : Addr} {f0 f1 : Value}
theorem z_alive {a : Addr} {Q : Option Obj → Shared → Prop} (hQ : Q (s.heap.get? a) s) : wpAny (model prog w) A (loadIfAlive a) Q E s := fun _ _ _ => hQ
/-- may the tuple that was handed out be taken again -/
theorem z_free {Q : Bool → Shared → Prop} (hz : ZObj s.heap z TI TO f0 f1) (o0 : ZOut f0) (o1 : ∃ b, f1 = .bool b) (hf : Q true s)
    (hh : ∀ h', ZObj h' z TI TO f0 (.bool true) → Heap.SameBut z s.heap h' → Q false { s with heap := h' }) : wpAny (model prog w) A (Builtin.SmallTypes.ownedTupleIsFree (.ref z)) Q E s := by
  obtain ⟨b, rfl⟩ := o1
  rcases o0 with rfl | ⟨T, rfl⟩
  · unfold Builtin.SmallTypes.ownedTupleIsFree; refine wpAny_bind (wpAny_field hz rfl (x := .none) rfl ?_); exact wpAny_pure hf
  · cases hT : s.heap.get? T with
    | some oT => exact wpAny_tupleHeld_zip hz hT hh
    | none =>
      unfold Builtin.SmallTypes.ownedTupleIsFree; refine wpAny_bind (wpAny_field hz rfl (x := rawInt T) rfl ?_)
      show wpAny _ _ (loadIfAlive ((T : Int).toNat) >>= fun o => _) _ _ _
      rw [Int.toNat_natCast]; refine wpAny_bind (z_alive ?_); rw [hT]; simp only [Option.isNone_none, if_true]; exact wpAny_pure hf
/-- a loop's turns, one by one -/
theorem z_loop {σ β : Type} {body : β → σ → Sem (ForInStep σ)} (St : Nat → σ → Shared → Prop) {Q : σ → Shared → Prop} (ts : List β)
    (hb : ∀ (j : Nat) (t : β) (st : σ) (s' : Shared), ts[j]? = some t → St j st s' → wpAny (model prog w) A (body t st) (fun r s2 => ∃ st2, r = .yield st2 ∧ St (j + 1) st2 s2) E s')
    (hQ : ∀ st s', St ts.length st s' → Q st s') {st : σ} (h0 : St 0 st s) : wpAny (model prog w) A (forIn ts st body) Q E s := by
  suffices key : ∀ (us : List β) (j : Nat) (st : σ) (s' : Shared), (∀ i t, us[i]? = some t → ts[j + i]? = some t) → j + us.length = ts.length → St j st s' → wpAny (model prog w) A (forIn us st body) Q E s' from
    key ts 0 st s (fun i t e => by rw [Nat.zero_add]; exact e) (Nat.zero_add _) h0
  intro us
  induction us with
  | nil => intro j st s' _ hl h; rw [List.forIn_nil]; exact wpAny_pure (hQ _ _ (by rw [← hl]; exact h))
  | cons u us ih =>
    intro j st s' hi hl h
    rw [List.forIn_cons]
    refine wpAny_bind (wpAny_mono (hb j u st s' (hi 0 u rfl) h) (fun r s2 ⟨st2, er, h2⟩ => ?_) fun _ _ x => x)
    subst er
    exact ih (j + 1) st2 s2 (fun i t e => by have := hi (i + 1) t (by rw [List.getElem?_cons_succ]; exact e); rw [Nat.add_assoc, Nat.add_comm 1 i]; exact this) (by rw [List.length_cons] at hl; omega) h2
/-- what holds of the iterators between two draws: the first j are one on -/
structure ZMid (h0 : Heap) (z TI TO : Addr) (ts : List Zt) (k j : Nat) (f0 f1 : Value) (h : Heap) : Prop where
  obj : ZObj h z TI TO f0 f1
  out : ∃ xs, ZTup h TO xs ∧ xs.length = ts.length
  at_ : ∀ i t, ts[i]? = some t → ZAt h (if i < j then k + 1 else k) t
  kp : Keeps (z :: TO :: ts.map (·.1)) h0 h
/-- all addresses are apart -/
structure ZSep (z TI TO : Addr) (ts : List Zt) : Prop where
  zTI : TI ≠ z
  zTO : TO ≠ z
  TIO : TI ≠ TO
  its : ∀ t ∈ ts, t.1 ≠ z ∧ t.1 ≠ TI ∧ t.1 ≠ TO
  nd : (ts.map (·.1)).Nodup
  ls : ∀ t ∈ ts, t.2.1 ≠ z ∧ t.2.1 ≠ TO ∧ ∀ u ∈ ts, t.2.1 ≠ u.1
theorem ZSep.fp {ts : List Zt} (D : ZSep z TI TO ts) {t : Zt} (m : t ∈ ts) : t.2.1 ∉ z :: TO :: ts.map (·.1) := by
  obtain ⟨a, b, c⟩ := D.ls t m
  intro q; simp only [List.mem_cons, List.mem_map] at q
  rcases q with q | q | ⟨u, hu, q⟩
  · exact a q
  · exact b q
  · exact c u hu q.symm
theorem ZSep.TIfp {ts : List Zt} (D : ZSep z TI TO ts) : TI ∉ z :: TO :: ts.map (·.1) := by
  intro q; simp only [List.mem_cons, List.mem_map] at q
  rcases q with q | q | ⟨u, hu, q⟩
  · exact D.zTI q
  · exact D.TIO q
  · exact (D.its u hu).2.1 q
/-- one draw -/
theorem ZMid.draw {h0 : Heap} {ts : List Zt} {k j : Nat} {t : Zt} {x : Value} {Q : Value → Shared → Prop} (D : ZSep z TI TO ts) (M : ZMid h0 z TI TO ts k j f0 f1 s.heap) (ht : ts[j]? = some t) (hx : t.2.2[k]? = some x)
    (hQ : ∀ h', ZMid h0 z TI TO ts k (j + 1) f0 f1 h' → Heap.SameBut t.1 s.heap h' → Q x { s with heap := h' }) : wpAny (model prog w) A (Builtin.SmallTypes.nextOf (.ref t.1)) Q E s := by
  have m := List.mem_of_getElem? ht
  have a := M.at_ j t ht
  rw [if_neg (Nat.lt_irrefl j)] at a
  refine wpAny_nextOf_list_item a.1 a.2 (x := x) (by simpa using hx) fun h' n e => hQ h' ?_ e
  obtain ⟨xs, hxs, lx⟩ := M.out
  refine ⟨e.extBut _ _ (Ne.symm (D.its t m).1) M.obj, ⟨xs, e.extBut _ _ (Ne.symm (D.its t m).2.2) hxs, lx⟩, fun i u hu => ?_, M.kp.trans (Keeps.of (List.mem_cons_of_mem _ (List.mem_cons_of_mem _ (List.mem_map.mpr ⟨t, m, rfl⟩))) e)⟩
  have mu := List.mem_of_getElem? hu
  have z2 := M.at_ i u hu
  by_cases q : i = j
  · subst q; rw [ht] at hu; cases hu
    rw [if_pos (Nat.lt_succ_self i)]
    exact ⟨n, a.2.at fun o q => e.extBut _ _ ((D.ls t m).2.2 t m) q⟩
  · have ne : u.1 ≠ t.1 := fun q2 => by
      have h1 : (ts.map (·.1))[i]? = some u.1 := by rw [List.getElem?_map, hu]; rfl
      have h2 : (ts.map (·.1))[j]? = some t.1 := by rw [List.getElem?_map, ht]; rfl
      exact q ((List.getElem?_inj (by have := (List.getElem?_eq_some_iff.mp h1).1; exact this) D.nd).mp (by rw [h1, h2, q2]))
    rw [show (if i < j + 1 then k + 1 else k) = if i < j then k + 1 else k from by split <;> split <;> omega]
    exact z2.but e ne ((D.ls u mu).2.2 t m)
theorem ZMid.chg {h0 h h' : Heap} {ts : List Zt} {k j : Nat} {xs : List Value} (M : ZMid h0 z TI TO ts k j f0 f1 h) (D : ZSep z TI TO ts) (e : Heap.SameBut TO h h') (q : ZTup h' TO xs) (l : xs.length = ts.length) : ZMid h0 z TI TO ts k j f0 f1 h' :=
  ⟨e.extBut _ _ (Ne.symm D.zTO) M.obj, ⟨xs, q, l⟩, fun i t ht => (M.at_ i t ht).but e (D.its t (List.mem_of_getElem? ht)).2.2 (D.ls t (List.mem_of_getElem? ht)).2.1, M.kp.trans (Keeps.of (List.mem_cons_of_mem _ List.mem_cons_self) e)⟩
def zItem (k : Nat) (ts : List Zt) : List Value := ts.map fun t => (t.2.2[k]?).getD .none
theorem zItem_take {k j : Nat} {ts : List Zt} {t : Zt} {x : Value} (ht : ts[j]? = some t) (hx : t.2.2[k]? = some x) : (zItem k ts).take (j + 1) = (zItem k ts).take j ++ [x] := by
  rw [List.take_add_one]; unfold zItem; rw [List.getElem?_map, ht]; simp [hx]
theorem zItem_set {k j : Nat} {ts : List Zt} {t : Zt} {x : Value} {xs : List Value} (ht : ts[j]? = some t) (hx : t.2.2[k]? = some x) (hl : xs.length = ts.length) (ha : xs.take j = (zItem k ts).take j) : (xs.set j x).take (j + 1) = (zItem k ts).take (j + 1) := by
  have lj := (List.getElem?_eq_some_iff.mp ht).1
  rw [zItem_take ht hx, ← ha, List.take_add_one, List.take_set_of_le (Nat.le_refl j), List.getElem?_set_self (by omega)]; rfl
theorem z_item {k : Nat} {ts : List Zt} {Q : Value → Shared → Prop} (D : ZSep z TI TO ts) (hne : ts ≠ []) (hs : ts.length ≤ 100) (o0 : ZOut f0) (o1 : ∃ b, f1 = .bool b) (hz : ZObj s.heap z TI TO f0 f1) (hTI : ZTup s.heap TI (ts.map fun t => Value.ref t.1))
    (hTO : ∃ xs, ZTup s.heap TO xs ∧ xs.length = ts.length) (hat : ∀ t ∈ ts, ZAt s.heap k t) (hx : ∀ t ∈ ts, ∃ x, t.2.2[k]? = some x)
    (hQ : ∀ h' g0 g1, ZOut g0 → (∃ b, g1 = .bool b) → ZObj h' z TI TO g0 g1 → ZTup h' TI (ts.map fun t => Value.ref t.1) → (∃ xs, ZTup h' TO xs ∧ xs.length = ts.length) → (∀ t ∈ ts, ZAt h' (k + 1) t) → ZTup h' s.heap.objs.size (zItem k ts) → h'.objs.size = s.heap.objs.size + 1 →
      (∀ c o, c ∉ z :: TO :: ts.map (·.1) → s.heap.get? c = some o → h'.get? c = some o) → Q (.ref s.heap.objs.size) { s with heap := h' }) :
    wpAny (model prog w) A (Builtin.«zip.__next__» ⟨[.ref z], []⟩) (fun fin s' => ∃ v, fin = .done (.ret v) ∧ Q v s') E s := by
  have start : ∀ {h : Heap} {g0 g1 : Value}, ZObj h z TI TO g0 g1 → Heap.SameBut z s.heap h → ZMid s.heap z TI TO ts k 0 g0 g1 h := fun {h g0 g1} a e => by
    obtain ⟨xs, q1, q2⟩ := hTO
    refine ⟨a, ⟨xs, e.extBut _ _ D.zTO q1, q2⟩, fun i t ht => ?_, Keeps.of List.mem_cons_self e⟩
    rw [if_neg (Nat.not_lt_zero i)]
    have m := List.mem_of_getElem? ht
    exact (hat t m).but e (D.its t m).1 (D.ls t m).1
  have fin : ∀ {h : Heap} {g0 g1 : Value}, ZMid s.heap z TI TO ts k ts.length g0 g1 h → ∀ t ∈ ts, ZAt h (k + 1) t := fun {h g0 g1} M t m => by
    obtain ⟨i, hi⟩ := List.mem_iff_getElem?.mp m
    have q := M.at_ i t hi
    rw [if_pos (List.getElem?_eq_some_iff.mp hi).1] at q
    exact q
  show wpAny _ _ (field (.ref z) 2 >>= fun a => _) _ _ _
  refine wpAny_bind (wpAny_field hz rfl (x := .bool false) rfl ?_); show wpAny _ _ (field (.ref z) 3 >>= fun a => _) _ _ _
  refine wpAny_bind (wpAny_field hz rfl (x := .ref TI) rfl ?_); refine wpAny_bind (wpAny_seqItems (show s.heap.get? TI = _ from hTI) rfl ?_)
  show wpAny _ _ (if (ts.map fun t => Value.ref t.1).toArray.isEmpty = true then _ else _) _ _ _
  rw [if_neg (by cases ts with | nil => exact absurd rfl hne | cons => simp)]
  refine wpAny_bind (z_free hz o0 o1 ?_ fun h₁ hz₁ e₁ => ?_)
  · simp only [if_true]; refine wpAny_bind (wpAny_rule ?_)
    refine wpAny_bind (wpAny_field hz rfl (x := .ref TO) rfl ?_); refine wpAny_bind (wpAny_setField_rec hz (by simp) fun h₁ hz₁ e₁ => ?_)
    replace hz₁ : ZObj h₁ z TI TO .ellipsis f1 := hz₁
    have M0 := start hz₁ e₁
    refine wpAny_bind ?_
    refine z_loop (fun j st s' => st = (none, ()) ∧ ∃ h xs, s' = { s with heap := h } ∧ ZMid s.heap z TI TO ts k j .ellipsis f1 h ∧ ZTup h TO xs ∧ xs.length = ts.length ∧ xs.take j = (zItem k ts).take j) _ ?_ ?_ ?_
    · rintro j ⟨v, jj⟩ st s' hj ⟨rfl, h, xs, rfl, M, hxs, hl, ha⟩
      rw [List.getElem?_zipIdx, List.getElem?_map] at hj
      cases ht : ts[j]? with
      | none => rw [ht] at hj; cases hj
      | some t =>
      rw [ht] at hj
      have ev : Value.ref t.1 = v ∧ j = jj := by simpa using hj
      obtain ⟨rfl, rfl⟩ := ev
      obtain ⟨x, ex⟩ := hx t (List.mem_of_getElem? ht)
      refine wpAny_bind (wpAny_onRaise ?_)
      show wpAny _ _ (Builtin.SmallTypes.nextOf (.ref t.1) >>= fun y => _) _ _ _
      refine wpAny_bind (ZMid.draw (s := { s with heap := h }) D M ht ex fun h2 M2 e2 => wpAny_pure ?_)
      have tm := List.mem_of_getElem? ht
      have y1 : ZTup h2 TO xs := e2.extBut _ _ (Ne.symm (D.its t tm).2.2) hxs
      refine wpAny_bind (wpAny_seqItems y1 rfl ?_)
      refine wpAny_bind (wpAny_updateSeq (f := fun a => a.setIfInBounds j x) y1 rfl ?_ ?_ ?_)
      · have y4 : ZTup (h2.update TO (Obj.mapSeq fun a => a.setIfInBounds j x)) TO (xs.set j x) := by
          unfold ZTup; rw [Heap.get?_update_self _ y1 rfl]; simp [Obj.mapSeq]
        refine wpAny_bind (wpAny_letGo (wpAny_pure ⟨_, rfl, rfl, _, xs.set j x, rfl, M2.chg D (Heap.SameBut.update ..) y4 (by rw [List.length_set]; exact hl), y4, by rw [List.length_set]; exact hl, zItem_set ht ex hl ha⟩))
      · simp; exact Nat.le_trans (by omega : xs.length ≤ 100) (by decide)
      · simp; exact Nat.le_trans (by omega : xs.length ≤ 100) (by decide)
    · rintro st s' ⟨rfl, h, xs, rfl, M, hxs, hl, ha⟩
      rw [List.length_zipIdx, List.length_map] at M ha
      have exs : xs = zItem k ts := by
        rw [List.take_of_length_le (by omega), List.take_of_length_le (by unfold zItem; rw [List.length_map]; exact Nat.le_refl _)] at ha
        exact ha
      subst exs
      refine wpAny_bind (wpAny_seqItems hxs rfl ?_)
      refine wpAny_bind (wpAny_newTuple (hsz := by simp; unfold zItem; rw [List.length_map]; exact Nat.le_trans hs (by decide)) ?_)
      refine wpAny_bind ?_
      unfold Builtin.SmallTypes.ownedTupleHandOut
      have hsz : h.objs.size = s.heap.objs.size := M.kp.1
      have hz6 : ZObj (h.push { cls := .type "tuple", data := .seq (zItem k ts).toArray }) z TI TO .ellipsis f1 := Heap.get?_push_of_some _ M.obj
      refine wpAny_bind (wpAny_setField_rec hz6 (by simp) fun h7 hz7 e7 => ?_); refine wpAny_setField_rec hz7 (by simp) fun h8 hz8 e8 => ?_
      have zlt : z < h.objs.size := Heap.lt_size M.obj
      have up : ∀ c o, c ≠ z → h.get? c = some o → h8.get? c = some o := fun c o n q => e8.extBut _ _ n (e7.extBut _ _ n (Heap.get?_push_of_some _ q))
      have TIh : h.get? TI = _ := M.kp.2 _ _ D.TIfp hTI
      refine wpAny_pure ⟨_, rfl, ?_⟩
      rw [hsz]
      refine hQ h8 (rawInt s.heap.objs.size) (.bool false) (.inr ⟨_, rfl⟩) ⟨_, rfl⟩ (by have := hz8; rw [hsz] at this; exact this) (up _ _ D.zTI TIh) ⟨_, up _ _ D.zTO hxs, hl⟩ (fun t m => ?_) ?_ ?_ fun c o n q => up c o (fun z => n (z ▸ List.mem_cons_self)) (M.kp.2 c o n q)
      · have q := fin M t m
        exact ⟨q.1.at fun o y => up _ _ (D.its t m).1 y, q.2.at fun o y => up _ _ (D.ls t m).1 y⟩
      · have q : h8.get? h.objs.size = _ := e8.extBut _ _ (Nat.ne_of_gt zlt) (e7.extBut _ _ (Nat.ne_of_gt zlt) (Heap.get?_push_size _ rfl))
        rw [hsz] at q; exact q
      · rw [e8.1, e7.1, Heap.size_push, hsz]
    · obtain ⟨xs, q1, q2⟩ := hTO
      exact ⟨rfl, h₁, xs, rfl, M0, e₁.extBut _ _ D.zTO q1, q2, rfl⟩
  · simp only [Bool.false_eq_true, if_false]
    have M0 := start hz₁ e₁
    refine wpAny_bind ?_
    rw [← Array.forIn_toList]
    refine z_loop (fun j st s' => st = (none, ((zItem k ts).take j).toArray) ∧ ∃ h, s' = { s with heap := h } ∧ ZMid s.heap z TI TO ts k j f0 (.bool true) h) _ ?_ ?_ ⟨rfl, h₁, rfl, M0⟩
    · rintro j v st s' hj ⟨rfl, h, rfl, M⟩
      rw [List.getElem?_map] at hj
      cases ht : ts[j]? with
      | none => rw [ht] at hj; cases hj
      | some t =>
      rw [ht] at hj
      have ev : Value.ref t.1 = v := by simpa using hj
      subst ev
      obtain ⟨x, ex⟩ := hx t (List.mem_of_getElem? ht)
      refine wpAny_bind (wpAny_holding ?_)
      show wpAny _ _ (Builtin.SmallTypes.nextOf (.ref t.1) >>= fun y => _) _ _ _
      refine wpAny_bind (ZMid.draw (s := { s with heap := h }) D M ht ex fun h2 M2 e2 => wpAny_pure (wpAny_pure ⟨_, rfl, ?_, h2, rfl, M2⟩))
      rw [zItem_take ht ex]; simp
    · rintro st s' ⟨rfl, h, rfl, M⟩
      rw [List.length_map] at M
      have exs : (zItem k ts).take (ts.map fun t => Value.ref t.1).length = zItem k ts := List.take_of_length_le (by unfold zItem; rw [List.length_map, List.length_map]; exact Nat.le_refl _)
      show wpAny _ _ (newTuple ((zItem k ts).take (ts.map fun t => Value.ref t.1).length).toArray.toList >>= fun v => _) _ _ _
      rw [exs]
      refine wpAny_bind (wpAny_newTuple (hsz := by unfold zItem; rw [List.length_map]; exact Nat.le_trans hs (by decide)) ?_)
      have hsz : h.objs.size = s.heap.objs.size := M.kp.1
      have up : ∀ c o, h.get? c = some o → (h.push { cls := .type "tuple", data := .seq (zItem k ts).toArray }).get? c = some o := fun c o q => Heap.get?_push_of_some _ q
      obtain ⟨xs, q1, q2⟩ := M.out
      refine wpAny_pure ⟨_, rfl, ?_⟩
      show Q (.ref h.objs.size) _
      rw [hsz]
      refine hQ _ f0 (.bool true) o0 ⟨_, rfl⟩ (up _ _ M.obj) (up _ _ (M.kp.2 _ _ D.TIfp hTI)) ⟨xs, up _ _ q1, q2⟩ (fun t m => ?_) ?_ ?_ fun c o n q => up c o (M.kp.2 c o n q)
      · have q := fin M t m
        exact ⟨q.1.at fun o y => up _ _ y, q.2.at fun o y => up _ _ y⟩
      · have q : (h.push { cls := .type "tuple", data := .seq (zItem k ts).toArray }).get? h.objs.size = _ := Heap.get?_push_size _ rfl
        rw [hsz] at q; exact q
      · rw [Heap.size_push, hsz]
theorem z_end {k : Nat} {t : Zt} {ts : List Zt} {Q : PySem.Fin → Shared → Prop} (hh : A.handled = none) (D : ZSep z TI TO (t :: ts)) (o0 : ZOut f0) (o1 : ∃ b, f1 = .bool b) (hz : ZObj s.heap z TI TO f0 f1) (hTI : ZTup s.heap TI ((t :: ts).map fun t => Value.ref t.1))
    (hat : ZAt s.heap k t) (hx : t.2.2[k]? = none)
    (hE : ∀ h' e, (∀ c o, c ∉ z :: TO :: (t :: ts).map (·.1) → s.heap.get? c = some o → h'.get? c = some o) → (∃ o, h'.get? e = some o ∧ o.cls = .type "StopIteration") → E (.ref e) { s with heap := h' }) :
    wpAny (model prog w) A (Builtin.«zip.__next__» ⟨[.ref z], []⟩) Q E s := by
  have m : t.1 ∈ z :: TO :: (t :: ts).map (·.1) := List.mem_cons_of_mem _ (List.mem_cons_of_mem _ List.mem_cons_self)
  have D1 := D.its t List.mem_cons_self
  have D2 := D.ls t List.mem_cons_self
  show wpAny _ _ (field (.ref z) 2 >>= fun a => _) _ _ _
  refine wpAny_bind (wpAny_field hz rfl (x := .bool false) rfl ?_); show wpAny _ _ (field (.ref z) 3 >>= fun a => _) _ _ _
  refine wpAny_bind (wpAny_field hz rfl (x := .ref TI) rfl ?_); refine wpAny_bind (wpAny_seqItems (show s.heap.get? TI = _ from hTI) rfl ?_)
  show wpAny _ _ (if ((t :: ts).map fun t => Value.ref t.1).toArray.isEmpty = true then _ else _) _ _ _
  rw [if_neg (by simp)]
  refine wpAny_bind (z_free hz o0 o1 ?_ fun h₁ hz₁ e₁ => ?_)
  · simp only [if_true]; refine wpAny_bind (wpAny_rule ?_)
    refine wpAny_bind (wpAny_field hz rfl (x := .ref TO) rfl ?_); refine wpAny_bind (wpAny_setField_rec hz (by simp) fun h₁ hz₁ e₁ => ?_)
    replace hz₁ : ZObj h₁ z TI TO .ellipsis f1 := hz₁
    refine wpAny_bind ?_
    rw [List.map_cons, List.zipIdx_cons, List.forIn_cons]
    refine wpAny_bind (wpAny_bind (wpAny_onRaise ?_))
    show wpAny _ _ (Builtin.SmallTypes.nextOf (.ref t.1) >>= fun y => _) _ _ _
    have a1 := hat.but e₁ D1.1 D2.1
    refine wpAny_bind (wpAny_nextOf_list_end (s := { s with heap := h₁ }) hh a1.1 a1.2 (by simpa using hx) fun h₂ e e2 he => ?_)
    obtain ⟨oe, ho, hc⟩ := he
    have z2 : ZObj h₂ z TI TO .ellipsis f1 := e2 _ _ (Ne.symm D1.1) hz₁
    have ne : e ≠ z := fun q => by rw [q, show h₂.get? z = _ from z2] at ho; cases ho; simp at hc
    exact wpAny_setField_rec z2 (by simp) fun h₃ _ e3 => hE h₃ e (fun c o n q => e3.extBut _ _ (fun y => n (y ▸ List.mem_cons_self)) (e2 _ _ (fun y => n (y ▸ m)) (e₁.extBut _ _ (fun y => n (y ▸ List.mem_cons_self)) q))) ⟨oe, e3.extBut _ _ ne ho, hc⟩
  · simp only [Bool.false_eq_true, if_false]
    refine wpAny_bind ?_
    rw [← Array.forIn_toList, List.map_cons, List.forIn_cons]
    refine wpAny_bind (wpAny_bind (wpAny_holding ?_))
    show wpAny _ _ (Builtin.SmallTypes.nextOf (.ref t.1) >>= fun y => _) _ _ _
    have a1 := hat.but e₁ D1.1 D2.1
    refine wpAny_bind (wpAny_nextOf_list_end (s := { s with heap := h₁ }) hh a1.1 a1.2 (by simpa using hx) fun h₂ e e2 he => ?_)
    exact hE h₂ e (fun c o n q => e2 _ _ (fun z => n (z ▸ m)) (e₁.extBut _ _ (fun z => n (z ▸ List.mem_cons_self)) q)) he
theorem z_pyNext {k : Nat} {ts : List Zt} {Q : Option Value → Shared → Prop} (D : ZSep z TI TO ts) (hne : ts ≠ []) (hs : ts.length ≤ 100) (o0 : ZOut f0) (o1 : ∃ b, f1 = .bool b) (hz : ZObj s.heap z TI TO f0 f1) (hTI : ZTup s.heap TI (ts.map fun t => Value.ref t.1))
    (hTO : ∃ xs, ZTup s.heap TO xs ∧ xs.length = ts.length) (hat : ∀ t ∈ ts, ZAt s.heap k t) (hx : ∀ t ∈ ts, ∃ x, t.2.2[k]? = some x)
    (hQ : ∀ h' g0 g1, ZOut g0 → (∃ b, g1 = .bool b) → ZObj h' z TI TO g0 g1 → ZTup h' TI (ts.map fun t => Value.ref t.1) → (∃ xs, ZTup h' TO xs ∧ xs.length = ts.length) → (∀ t ∈ ts, ZAt h' (k + 1) t) → ZTup h' s.heap.objs.size (zItem k ts) → h'.objs.size = s.heap.objs.size + 1 →
      (∀ c o, c ∉ z :: TO :: ts.map (·.1) → s.heap.get? c = some o → h'.get? c = some o) → Q (some (.ref s.heap.objs.size)) { s with heap := h' }) : wpAny (model prog w) A (pyNext (.ref z)) Q E s := by
  have ty : s.TypeIs (.ref z) "zip" := ⟨_, show s.heap.get? z = _ from hz, rfl⟩
  unfold pyNext
  refine wpAny_bind (wpAny_attempt (wpAny_callSpecial?_slot (name := Str.ofString "__next__") ty F.slot_zip_next (wpAny_call_entry F.slot_zip_next ty F.entry_zip_next ?_ (F.args_zip_next_1 _))))
  exact z_item D hne hs o0 o1 hz hTI hTO hat hx fun h' g0 g1 a1 a2 a3 a4 a5 a6 a7 a8 a9 => wpAny_pure (hQ h' g0 g1 a1 a2 a3 a4 a5 a6 a7 a8 a9)
theorem z_pyEnd {k : Nat} {t : Zt} {ts : List Zt} {Q : Option Value → Shared → Prop} (hh : A.handled = none) (D : ZSep z TI TO (t :: ts)) (o0 : ZOut f0) (o1 : ∃ b, f1 = .bool b) (hz : ZObj s.heap z TI TO f0 f1) (hTI : ZTup s.heap TI ((t :: ts).map fun t => Value.ref t.1))
    (hat : ZAt s.heap k t) (hx : t.2.2[k]? = none) (hQ : ∀ h', (∀ c o, c ∉ z :: TO :: (t :: ts).map (·.1) → s.heap.get? c = some o → h'.get? c = some o) → Q none { s with heap := h' }) : wpAny (model prog w) A (pyNext (.ref z)) Q E s := by
  have ty : s.TypeIs (.ref z) "zip" := ⟨_, show s.heap.get? z = _ from hz, rfl⟩
  unfold pyNext
  refine wpAny_bind (wpAny_attempt (wpAny_callSpecial?_slot (name := Str.ofString "__next__") ty F.slot_zip_next (wpAny_call_entry F.slot_zip_next ty F.entry_zip_next ?_ (F.args_zip_next_1 _))))
  refine z_end hh D o0 o1 hz hTI hat hx fun h' e hk he => ?_
  obtain ⟨o, ho, hc⟩ := he
  exact wpAny_bind (wpAny_isInstance (T := "StopIteration") (b := true) ⟨o, ho, hc⟩ isSubtype_stop (wpAny_pure (hQ _ hk)))
end
/-! ### zip of one list -/
theorem zipnew1 (a : Value) : checkBuiltinCall "zip.__new__" ⟨[.type "zip", a], []⟩ = pure () := by kernel_rfl
theorem zipcall1 (a : Value) : checkTypeCall "zip" ⟨[a], []⟩ = pure () := by kernel_rfl
theorem zipobj2 (a b : Value) : argsOk "object.__init__" ⟨[a, b], []⟩ := by
  unfold argsOk
  rw [signature?_of (id := "object.__init__") (n := ['_', '_', 't', 'i', 'n', 'i', '_', '_']) (o := ['t', 'c', 'e', 'j', 'b', 'o']) (by kernel_rfl) F.owner_object]; kernel_rfl
def zip1H (h : Heap) (l : Addr) : Heap := (((h.push { cls := .type "list_iterator", data := .fields #[.ref l, .int 0 0] }).push { cls := .type "tuple", data := .seq #[.ref h.objs.size] }).push { cls := .type "tuple", data := .seq #[.none] }).push ⟨.type "zip", none, .fields #[.none, .bool false, .bool false, .ref (h.objs.size + 1), .ref (h.objs.size + 2)], #[]⟩
theorem meets_zip1 (l : Addr) (xs : Array Value) : Meets (Builtin.«zip.__new__» ⟨[.type "zip", .ref l], []⟩) (fun _ R s => s.heap.IsList l xs ∧ R (.ok (.ret (.ref (s.heap.objs.size + 3)))) { s with heap := zip1H s.heap l }) :=
  .of_wp fun prog w A R s h => by
    obtain ⟨hp, g, d, tk, os⟩ := s
    obtain ⟨hl, h⟩ := h
    have hsub := sub_zip
    have hL : Heap.IsList (Shared.heap ⟨hp, g, d, tk, os⟩) l xs := hl
    wp_walk using wpAny_pyIter_list hL
    refine ⟨_, rfl, ?_⟩
    simp [Heap.size_push]
    exact h
section
variable {prog : Program} {w : World} {A : Around} {E : Value → Shared → Prop} {s : Shared}
theorem call_zip1 {l : Addr} {xs : Array Value} {Q : Value → Shared → Prop} (hl : s.heap.IsList l xs)
    (h : ∀ h', ZObj h' (s.heap.objs.size + 3) (s.heap.objs.size + 1) (s.heap.objs.size + 2) .none (.bool false) → ZTup h' (s.heap.objs.size + 1) [.ref s.heap.objs.size] → ZTup h' (s.heap.objs.size + 2) [.none] → h'.IsListIter s.heap.objs.size l 0 →
      (∀ c o, s.heap.get? c = some o → h'.get? c = some o) → Q (.ref (s.heap.objs.size + 3)) { s with heap := h' }) : wpAny (model prog w) A (call (.type "zip") [.ref l]) Q E s := by
  refine callType_new F.called_zip (by decide) (zipcall1 _) (zipnew1 _) (fun obj => zipobj2 obj _) F.entry_zip_new (meets_zip1 l xs) ⟨hl, ?_⟩
  have e1 : (s.heap.push { cls := .type "list_iterator", data := .fields #[.ref l, .int 0 0] }).objs.size = s.heap.objs.size + 1 := Heap.size_push ..
  have e2 : ((s.heap.push { cls := .type "list_iterator", data := .fields #[.ref l, .int 0 0] }).push { cls := .type "tuple", data := .seq #[.ref s.heap.objs.size] }).objs.size = s.heap.objs.size + 2 := by rw [Heap.size_push, e1]
  have e3 : (((s.heap.push { cls := .type "list_iterator", data := .fields #[.ref l, .int 0 0] }).push { cls := .type "tuple", data := .seq #[.ref s.heap.objs.size] }).push { cls := .type "tuple", data := .seq #[.none] }).objs.size = s.heap.objs.size + 3 := by rw [Heap.size_push, e2]
  have g3 : ZObj (zip1H s.heap l) (s.heap.objs.size + 3) (s.heap.objs.size + 1) (s.heap.objs.size + 2) .none (.bool false) := by unfold ZObj zip1H; rw [← e3]; exact Heap.get?_push_size _ rfl
  have g2 : ZTup (zip1H s.heap l) (s.heap.objs.size + 2) [.none] := by unfold ZTup zip1H; rw [← e2]; exact Heap.get?_push_of_some _ (Heap.get?_push_size _ rfl)
  have g1 : ZTup (zip1H s.heap l) (s.heap.objs.size + 1) [.ref s.heap.objs.size] := by unfold ZTup zip1H; rw [← e1]; exact Heap.get?_push_of_some _ (Heap.get?_push_of_some _ (Heap.get?_push_size _ rfl))
  have g0 : (zip1H s.heap l).get? s.heap.objs.size = some _ := Heap.get?_push_of_some _ (Heap.get?_push_of_some _ (Heap.get?_push_of_some _ (Heap.get?_push_size _ rfl)))
  exact ⟨⟨_, g3, rfl⟩, h _ g3 g1 g2 ⟨_, g0, rfl, rfl⟩ fun c o q => Heap.get?_push_of_some _ (Heap.get?_push_of_some _ (Heap.get?_push_of_some _ (Heap.get?_push_of_some _ q)))⟩
end
/-! ### the walk -/
/-- the lists at as, as they stand at each turn; the items in a new tuple -/
def Itzn (K : PySem.W.Frag) (as : List Addr) : It :=
  ⟨fun i H => ∀ a ∈ as, ∃ xs, SqL K H a xs ∧ i < xs.length,
    fun i H v H' => ∃ T ys, v = .ref T ∧ H T = none ∧ H' = upd H T (.tup ys) ∧ ys.length = as.length ∧ ∀ (j : Nat) a xs, as[j]? = some a → SqL K H a xs → ∃ y, ys[j]? = some y ∧ xs[i]? = some y,
    fun i H => ∃ a xs, as[0]? = some a ∧ SqL K H a xs ∧ xs.length ≤ i⟩
/-- what a list at a place holds, as the machine has it -/
theorem zl_vals {X : Cx} {pins : List (Addr × Obj)} {σ : L2.St} {H : Hp} {s : Shared} (I : Inv X pins σ H s) {as : List Addr} (h : ∀ a ∈ as, ∃ xs, SqL X.K H a xs) : ∃ f : Addr → List Value, ∀ a ∈ as, ∀ xs, SqL X.K H a xs → s.heap.IsList a (f a).toArray ∧ Vals xs (f a) := by
  classical
  have key : ∀ a, ∃ vs : List Value, a ∈ as → ∀ xs, SqL X.K H a xs → s.heap.IsList a vs.toArray ∧ Vals xs vs := fun a => by
    by_cases m : a ∈ as
    · obtain ⟨xs, q⟩ := h a m
      obtain ⟨us, rv, p, _⟩ := I.list q
      exact ⟨us, fun _ ys q2 => ⟨p.isList, by rw [I.list_inj q2 q]; exact rv⟩⟩
    · exact ⟨[], fun z => absurd z m⟩
  exact ⟨fun a => (key a).choose, fun a m => (key a).choose_spec m⟩
def zts (its as : List Addr) (f : Addr → List Value) : List Zt := (its.zip as).map fun p => (p.1, p.2, f p.2)
theorem zts_get {its as : List Addr} {f : Addr → List Value} {j : Nat} {t : Zt} : (zts its as f)[j]? = some t ↔ ∃ it a, its[j]? = some it ∧ as[j]? = some a ∧ t = (it, a, f a) := by
  unfold zts
  rw [List.getElem?_map, Option.map_eq_some_iff]
  constructor
  · rintro ⟨⟨it, a⟩, h, e⟩
    obtain ⟨h1, h2⟩ := List.getElem?_zip_eq_some.mp h
    exact ⟨it, a, h1, h2, e.symm⟩
  · rintro ⟨it, a, h1, h2, e⟩
    exact ⟨(it, a), List.getElem?_zip_eq_some.mpr ⟨h1, h2⟩, e.symm⟩
theorem zts_its {its as : List Addr} {f : Addr → List Value} (hl : its.length = as.length) : (zts its as f).map (·.1) = its := by
  unfold zts
  rw [List.map_map]
  exact List.map_fst_zip (Nat.le_of_eq hl)
theorem zts_len {its as : List Addr} {f : Addr → List Value} (hl : its.length = as.length) : (zts its as f).length = its.length := by
  have e := congrArg List.length (zts_its (f := f) hl)
  rw [List.length_map] at e
  exact e
theorem zts_mem {its as : List Addr} {f : Addr → List Value} {t : Zt} (h : t ∈ zts its as f) : t.1 ∈ its ∧ t.2.1 ∈ as ∧ t.2.2 = f t.2.1 := by
  obtain ⟨j, hj⟩ := List.mem_iff_getElem?.mp h
  obtain ⟨it, a, h1, h2, e⟩ := zts_get.mp hj
  subst e
  exact ⟨List.mem_of_getElem? h1, List.mem_of_getElem? h2, rfl⟩
theorem zts_vals {f : Addr → List Value} {g : Addr → V} {i : Nat} : ∀ {its as : List Addr}, its.length = as.length → (∀ a ∈ as, RelV (g a) (((f a)[i]?).getD .none)) → Vals (as.map g) (zItem i (zts its as f))
  | [], [], _, _ => .nil
  | it :: its, a :: as, h, r => .cons (r a List.mem_cons_self) (zts_vals (its := its) (as := as) (by simpa using h) fun b m => r b (List.mem_cons_of_mem _ m))
theorem turn_zipn {P : Program} {w : World} {K : PySem.W.Frag} {x : Str} {tpos : Pos} {as its : List Addr} {z TI TO : Addr} (hl : its.length = as.length) (hne : as ≠ []) (hs : as.length ≤ 100) (zTI : TI ≠ z) (zTO : TO ≠ z) (TIO : TI ≠ TO) (hi : ∀ i ∈ its, i ≠ z ∧ i ≠ TI ∧ i ≠ TO) (nd : its.Nodup)
    (ha : ∀ a ∈ as, a ≠ z ∧ a ≠ TI ∧ a ≠ TO ∧ ∀ i ∈ its, a ≠ i) :
    Turn P w K (.Name x tpos) (Itzn K as) (z :: TI :: TO :: its) z (fun i h => ∃ f0 f1, ZOut f0 ∧ (∃ b, f1 = .bool b) ∧ ZObj h z TI TO f0 f1 ∧ ZTup h TI (its.map Value.ref) ∧ (∃ xs, ZTup h TO xs ∧ xs.length = its.length) ∧ ∀ (j : Nat) it a, its[j]? = some it → as[j]? = some a → h.IsListIter it a i) where
  mem := List.mem_cons_self
  obj := fun i h ⟨f0, f1, _, _, hz, hTI, ⟨xs, hTO, _⟩, hit⟩ b hb => by
    simp only [List.mem_cons] at hb
    rcases hb with q | q | q | q
    · rw [q]; exact ⟨_, hz, fun v q => nomatch q⟩
    · rw [q]; exact ⟨_, hTI, fun v q => nomatch q⟩
    · rw [q]; exact ⟨_, hTO, fun v q => nomatch q⟩
    · obtain ⟨j, hj⟩ := List.mem_iff_getElem?.mp q
      obtain ⟨a, haj⟩ : ∃ a, as[j]? = some a := ⟨_, List.getElem?_eq_getElem (by have := (List.getElem?_eq_some_iff.mp hj).1; omega)⟩
      obtain ⟨o, e1, _, d⟩ := hit j b a hj haj
      exact ⟨o, e1, fun v q => by rw [d] at q; cases q⟩
  keep := fun i h h' ⟨f0, f1, o0, o1, hz, hTI, ⟨xs, hTO, lx⟩, hit⟩ k => by
    refine ⟨f0, f1, o0, o1, k z (by simp) _ hz, k TI (by simp) _ hTI, ⟨xs, k TO (by simp) _ hTO, lx⟩, fun j it a hj haj => (hit j it a hj haj).at fun o q => k it (by simp [List.mem_of_getElem? hj]) o q⟩
  item := by
    intro X hP hw hK hc i pins s σ H E I hf ⟨f0, f1, o0, o1, hz, hTI, hTO, hit⟩ hg
    subst hP hw hK
    obtain ⟨f, hf2⟩ := zl_vals I (as := as) fun a m => (hg a m).elim fun xs q => ⟨xs, q.1⟩
    have ei : (zts its as f).map (·.1) = its := zts_its hl
    have er : (zts its as f).map (fun t => Value.ref t.1) = its.map Value.ref := by rw [← ei, List.map_map, ei]; rfl
    have D : ZSep z TI TO (zts its as f) := ⟨zTI, zTO, TIO, fun t m => hi _ (zts_mem m).1, by rw [ei]; exact nd, fun t m => ⟨(ha _ (zts_mem m).2.1).1, (ha _ (zts_mem m).2.1).2.2.1, fun u mu => (ha _ (zts_mem m).2.1).2.2.2 _ (zts_mem mu).1⟩⟩
    have hx : ∀ t ∈ zts its as f, ∃ x, t.2.2[i]? = some x := fun t m => by
      obtain ⟨_, m2, e⟩ := zts_mem m
      obtain ⟨xs, q, lt⟩ := hg _ m2
      have r := (hf2 _ m2 xs q).2.length
      rw [e]; exact ⟨_, List.getElem?_eq_getElem (by omega)⟩
    have lz : (zts its as f).length = its.length := zts_len hl
    have hzl : z < s.heap.objs.size := Heap.lt_size hz
    refine z_pyNext D (by intro q; rw [q] at lz; exact hne (List.eq_nil_of_length_eq_zero (by simp at lz; omega))) (by omega) o0 o1 hz (by rw [er]; exact hTI) (by rw [lz]; exact hTO) (fun t m => ?_) hx fun h' g0 g1 q0 q1 hz' hTI' hTO' hat' hT hsz hk => ?_
    · obtain ⟨j, hj⟩ := List.mem_iff_getElem?.mp m
      obtain ⟨it, a, h1, h2, e⟩ := zts_get.mp hj
      subst e
      obtain ⟨xs, q, _⟩ := hg a (List.mem_of_getElem? h2)
      exact ⟨hit j it a h1 h2, (hf2 a (List.mem_of_getElem? h2) xs q).1⟩
    · rw [ei] at hk; rw [er] at hTI'; rw [lz] at hTO'
      have hk2 : ∀ c o, c ∉ z :: TI :: TO :: its → s.heap.get? c = some o → h'.get? c = some o := fun c o n q => hk c o (fun y => n (by
        simp only [List.mem_cons] at y ⊢
        rcases y with y | y | y
        · exact .inl y
        · exact .inr (.inr (.inl y))
        · exact .inr (.inr (.inr y)))) q
      -- the items, as the known heap has them
      obtain ⟨ys, vy, hy⟩ : ∃ ys : List V, Vals ys (zItem i (zts its as f)) ∧ ∀ (j : Nat) a xs, as[j]? = some a → SqL X.K H a xs → ∃ y, ys[j]? = some y ∧ xs[i]? = some y := by
        classical
        have g0 : ∀ a, ∃ v : V, a ∈ as → (∀ xs, SqL X.K H a xs → xs[i]? = some v) ∧ RelV v (((f a)[i]?).getD .none) := fun a => by
          by_cases m : a ∈ as
          · obtain ⟨xs, q, lt⟩ := hg a m
            obtain ⟨u, hu, ru⟩ := (hf2 a m xs q).2.get (List.getElem?_eq_getElem lt)
            refine ⟨xs[i], fun _ => ⟨fun ys q2 => ?_, ?_⟩⟩
            · rw [I.list_inj q2 q]; exact List.getElem?_eq_getElem lt
            · rw [hu]; exact ru
          · exact ⟨.non, fun z => absurd z m⟩
        refine ⟨as.map fun a => (g0 a).choose, zts_vals hl fun a m => ((g0 a).choose_spec m).2, fun j a xs hj q => ⟨(g0 a).choose, ?_, ((g0 a).choose_spec (List.mem_of_getElem? hj)).1 xs q⟩⟩
        rw [List.getElem?_map, hj]; rfl
      have ly : ys.length = as.length := by rw [vy.length]; unfold zItem; rw [List.length_map]; omega
      have new : ObjOk X.prog X.w (upd H s.heap.objs.size (.tup ys)) h' s.heap.objs.size (.tup ys) := ⟨by show ys.length ≤ sizeLine; exact Nat.le_trans (by omega : ys.length ≤ 100) (by decide), _, vy, ⟨_, hT, rfl, _, rfl⟩⟩
      have I1 : Inv X pins σ (upd H s.heap.objs.size (.tup ys)) { s with heap := h' } := I.turnedNew (t' := s.toks) (ch := z :: TI :: TO :: its) hk2 hf (Nat.le_refl _) new
      refine ⟨_, rfl, ?_⟩
      show wpAny _ _ (pure ()) _ _ _
      refine wpAny_pure ⟨.ref s.heap.objs.size, _, I1, rfl, ⟨_, ys, rfl, I.hok.fresh (Nat.le_refl _), rfl, ly, hy⟩, ⟨g0, g1, q0, q1, hz', hTI', hTO', fun j it a hj haj => ?_⟩, fun b hb => ?_⟩
      · exact (hat' _ (List.mem_of_getElem? (zts_get.mpr ⟨it, a, hj, haj, rfl⟩))).1
      · have lt : b < s.heap.objs.size := by
          obtain ⟨x0, hTO, lx⟩ := hTO
          simp only [List.mem_cons] at hb
          rcases hb with q | q | q | q
          · rw [q]; exact hzl
          · rw [q]; exact Heap.lt_size hTI
          · rw [q]; exact Heap.lt_size hTO
          · obtain ⟨j, hj⟩ := List.mem_iff_getElem?.mp q
            obtain ⟨a, haj⟩ : ∃ a, as[j]? = some a := ⟨_, List.getElem?_eq_getElem (by have := (List.getElem?_eq_some_iff.mp hj).1; omega)⟩
            obtain ⟨o, e1, _⟩ := hit j b a hj haj
            exact Heap.lt_size e1
        rw [upd_ne (Nat.ne_of_lt lt)]
        exact (hf b hb).1
  done := by
    intro X hP hw hK hc i pins s σ H E I hf ⟨f0, f1, o0, o1, hz, hTI, hTO, hit⟩ hg
    subst hP hw hK
    obtain ⟨a, xs, h0, q, lx⟩ := hg
    obtain ⟨us, rv, p, _⟩ := I.list q
    have r := rv.length
    obtain ⟨it, hi0⟩ : ∃ it, its[0]? = some it := ⟨_, List.getElem?_eq_getElem (by have := (List.getElem?_eq_some_iff.mp h0).1; omega)⟩
    let f : Addr → List Value := fun b => if b = a then us else []
    obtain ⟨t, ts, et⟩ : ∃ t ts, zts its as f = t :: ts := by
      cases e : zts its as f with
      | nil => have := (zts_get (f := f)).mpr ⟨it, a, hi0, h0, rfl⟩; rw [e] at this; cases this
      | cons t ts => exact ⟨t, ts, rfl⟩
    have e0 : t = (it, a, us) := by
      have := (zts_get (f := f)).mpr ⟨it, a, hi0, h0, rfl⟩
      rw [et] at this
      have e : t = (it, a, f a) := by simpa using this
      rw [e]; show (it, a, if a = a then us else []) = _; rw [if_pos rfl]
    have ei : (t :: ts).map (·.1) = its := by rw [← et]; exact zts_its hl
    have er : (t :: ts).map (fun t => Value.ref t.1) = its.map Value.ref := by rw [← ei, List.map_map]; rfl
    have D : ZSep z TI TO (t :: ts) := by
      rw [← et]
      exact ⟨zTI, zTO, TIO, fun t m => hi _ (zts_mem m).1, by rw [zts_its hl]; exact nd, fun t m => ⟨(ha _ (zts_mem m).2.1).1, (ha _ (zts_mem m).2.1).2.2.1, fun u mu => (ha _ (zts_mem m).2.1).2.2.2 _ (zts_mem mu).1⟩⟩
    subst e0
    refine z_pyEnd (I.ok.hd hc) D o0 o1 hz (by rw [er]; exact hTI) ⟨hit 0 it a hi0 h0, p.isList⟩ (List.getElem?_eq_none_iff.mpr (by show us.length ≤ i; omega)) fun h' hk => ⟨rfl, I.turnedL (t' := s.toks) (ch := z :: TI :: TO :: its) (fun c o n q => hk c o (fun y => n (by
      rw [ei] at y
      simp only [List.mem_cons] at y ⊢
      rcases y with y | y | y
      · exact .inl y
      · exact .inr (.inr (.inl y))
      · exact .inr (.inr (.inr y)))) q) hf⟩
  self := fun A i s Q E ⟨f0, f1, o0, o1, hz, hTI, hTO, hit⟩ h => by
    have ty : s.TypeIs (.ref z) "zip" := ⟨_, show s.heap.get? z = _ from hz, rfl⟩
    refine wpAny_pyIter_slot ty F.slot_zip_iter (wpAny_call_entry F.slot_zip_iter ty F.entry_zip_iter ?_ (F.args_zip_iter_1 _))
    show wpAny _ _ (ret (.ref z)) _ _ s
    exact wpAny_pure ⟨_, rfl, "zip", _, ty, F.slot_zip_next.lookup, h⟩
theorem pi_zipS {X : Cx} {x : Str} {tpos p sp pos : Pos} {e : Expr} {te : TE} (hg : Gl X "zip") (hm : X.mg "zip" = none) (he : PE X e te) (hst : starEach [.Starred e sp] X.env = [(true, eval e X.env)] := by rfl) :
    PI X (.Name x tpos) (.Call (.Name "zip" p) [.Starred e sp] [] pos) (fun σ H R => te σ H fun y H1 => ∃ (l : Addr) (as : List Addr), y = .ref l ∧ SqL X.K H1 l (as.map V.ref) ∧ (as.length = 1 ∨ as.length = 2) ∧ (∀ a ∈ as, ∃ xs, SqL X.K H1 a xs) ∧ R (Itzn X.K as) H1) := by
  refine ⟨fun pins s σ H R I h => ?_⟩
  refine Call_ (ld_blt I hg hm PyProof.Rows.boot_zip ?_)
  rw [hst]
  refine PySem.W.ks_call (P := fun _ => True) rfl (fun _ _ => ⟨.machine, .inr (.inl rfl), PySem.W.Looks.of_pure rfl⟩) ?_
  refine PySem.W.ks_lone (thn (he.run pins s σ H _ I h) fun v s1 ⟨y, H1, I1, ry, l, as, ey, hl, hn, ha, q⟩ => ?_)
  subst ey
  obtain rfl : v = Value.ref l := ry
  refine StX.star_any I1 (.inr hl) fun us s2 I2 rv => ⟨trivial, ?_⟩
  have eus : us = as.map Value.ref := by
    have key : ∀ {as : List Addr} {us : List Value}, Vals (as.map V.ref) us → us = as.map Value.ref := fun {as} => by
      induction as with
      | nil => intro us r; cases r; rfl
      | cons a as ih => intro us r; cases r with | cons r1 r2 => rw [List.map_cons, ih r2]; cases r1; rfl
    exact key rv
  subst eus
  have pl : ∀ a ∈ as, ∃ vs : List Value, s2.heap.IsList a vs.toArray := fun a m => by
    obtain ⟨xs, q⟩ := ha a m
    obtain ⟨us, _, p, _⟩ := I2.list q
    exact ⟨us, p.isList⟩
  have lta : ∀ a ∈ as, a < s2.heap.objs.size := fun a m => by
    obtain ⟨_, o, ho, _⟩ := pl a m
    exact Heap.lt_size ho
  match as, hn, pl, lta, q with
  | [a], _, pl, lta, q =>
    obtain ⟨vs, hv⟩ := pl a List.mem_cons_self
    have la : a < s2.heap.objs.size := lta a List.mem_cons_self
    refine call_zip1 hv fun h' z1 z2 z3 z4 hk => ?_
    have I3 : Inv X pins σ H1 { s2 with heap := h' } := I2.kept (t' := s2.toks) hk
    have ty : Shared.TypeIs { s2 with heap := h' } (.ref (s2.heap.objs.size + 3)) "zip" := ⟨_, show h'.get? _ = _ from z1, rfl⟩
    refine wpAny_pyIter_slot ty F.slot_zip_iter (wpAny_call_entry F.slot_zip_iter ty F.entry_zip_iter ?_ (F.args_zip_iter_1 _))
    show wpAny _ _ (ret (.ref _)) _ _ _
    refine wpAny_pure ⟨_, rfl, "zip", _, ty, F.slot_zip_next.lookup, ?_⟩
    have n0 : ∀ n : Nat, a ≠ s2.heap.objs.size + n := fun n e => by rw [e] at la; exact absurd la (by show ¬ (_ : Nat) < _; omega)
    refine ⟨s2.heap.objs.size + 3, (s2.heap.objs.size + 3) :: (s2.heap.objs.size + 1) :: (s2.heap.objs.size + 2) :: [s2.heap.objs.size], _, Itzn X.K [a], H1, rfl, I3, turn_zipn (its := [s2.heap.objs.size]) rfl (by simp) (Nat.le_of_ble_eq_true rfl) (by show ¬ (_ : Nat) = _; omega) (by show ¬ (_ : Nat) = _; omega) (by show ¬ (_ : Nat) = _; omega) ?_ (by simp) ?_, ⟨.none, .bool false, .inl rfl, ⟨_, rfl⟩, z1, z2, ⟨_, z3, rfl⟩, ?_⟩, ?_, q⟩
    · intro i hi; rw [List.mem_singleton] at hi; subst hi
      exact ⟨by show ¬ (_ : Nat) = _; omega, by show ¬ (_ : Nat) = _; omega, by show ¬ (_ : Nat) = _; omega⟩
    · intro b hb; rw [List.mem_singleton] at hb; subst hb
      exact ⟨n0 3, n0 1, n0 2, fun i hi => by rw [List.mem_singleton] at hi; subst hi; exact n0 0⟩
    · intro j it b hj hb
      cases j with
      | zero => cases hj; cases hb; exact z4
      | succ j => cases hj
    · intro c hc
      have hle : s2.heap.objs.size ≤ c := by
        simp only [List.mem_cons, List.not_mem_nil, or_false] at hc
        rcases hc with q | q | q | q <;> rw [q] <;> first | exact Nat.le_refl _ | exact Nat.le_add_right _ _
      exact I2.fpOk hle (I2.hok.fresh hle)
  | [a, b], _, pl, lta, q =>
    obtain ⟨vs, hv⟩ := pl a List.mem_cons_self
    obtain ⟨ws, hw⟩ := pl b (List.mem_cons_of_mem _ List.mem_cons_self)
    have la : a < s2.heap.objs.size := lta a List.mem_cons_self
    have lb : b < s2.heap.objs.size := lta b (List.mem_cons_of_mem _ List.mem_cons_self)
    refine call_zip_2 hv hw fun h' z1 z2 z3 z4 z5 _ hk => ?_
    have I3 : Inv X pins σ H1 { s2 with heap := h' } := I2.kept (t' := s2.toks) hk
    have ty : Shared.TypeIs { s2 with heap := h' } (.ref (s2.heap.objs.size + 4)) "zip" := ⟨_, z1, rfl⟩
    refine wpAny_pyIter_slot ty F.slot_zip_iter (wpAny_call_entry F.slot_zip_iter ty F.entry_zip_iter ?_ (F.args_zip_iter_1 _))
    show wpAny _ _ (ret (.ref _)) _ _ _
    refine wpAny_pure ⟨_, rfl, "zip", _, ty, F.slot_zip_next.lookup, ?_⟩
    have n0 : ∀ n : Nat, a ≠ s2.heap.objs.size + n := fun n e => by rw [e] at la; exact absurd la (by show ¬ (_ : Nat) < _; omega)
    have n1 : ∀ n : Nat, b ≠ s2.heap.objs.size + n := fun n e => by rw [e] at lb; exact absurd lb (by show ¬ (_ : Nat) < _; omega)
    refine ⟨s2.heap.objs.size + 4, (s2.heap.objs.size + 4) :: (s2.heap.objs.size + 2) :: (s2.heap.objs.size + 3) :: [s2.heap.objs.size, s2.heap.objs.size + 1], _, Itzn X.K [a, b], H1, rfl, I3, turn_zipn (its := [s2.heap.objs.size, s2.heap.objs.size + 1]) rfl (by simp) (Nat.le_of_ble_eq_true rfl) (by show ¬ (_ : Nat) = _; omega) (by show ¬ (_ : Nat) = _; omega) (by show ¬ (_ : Nat) = _; omega) ?_ (by simp) ?_, ⟨.none, .bool false, .inl rfl, ⟨_, rfl⟩, z1, z2, ⟨[.none, .none], z3, rfl⟩, ?_⟩, ?_, q⟩
    · intro i hi
      simp only [List.mem_cons, List.not_mem_nil, or_false] at hi
      rcases hi with rfl | rfl
      all_goals exact ⟨by show ¬ (_ : Nat) = _; omega, by show ¬ (_ : Nat) = _; omega, by show ¬ (_ : Nat) = _; omega⟩
    · intro c hc
      simp only [List.mem_cons, List.not_mem_nil, or_false] at hc
      rcases hc with rfl | rfl
      · exact ⟨n0 4, n0 2, n0 3, fun i hi => by
          simp only [List.mem_cons, List.not_mem_nil, or_false] at hi
          rcases hi with rfl | rfl
          · exact n0 0
          · exact n0 1⟩
      · exact ⟨n1 4, n1 2, n1 3, fun i hi => by
          simp only [List.mem_cons, List.not_mem_nil, or_false] at hi
          rcases hi with rfl | rfl
          · exact n1 0
          · exact n1 1⟩
    · intro j it c hj hc
      match j, hj, hc with
      | 0, hj, hc => cases hj; cases hc; exact z4
      | 1, hj, hc => cases hj; cases hc; exact z5
    · intro c hc
      have hle : s2.heap.objs.size ≤ c := by
        simp only [List.mem_cons, List.not_mem_nil, or_false] at hc
        rcases hc with q | q | q | q | q <;> rw [q] <;> first | exact Nat.le_refl _ | exact Nat.le_add_right _ _
      exact I2.fpOk hle (I2.hok.fresh hle)
/-! ### [elt for row in zip(*rows)] -/
/-- the columns of one or two rows -/
def cols {α : Type} : List (List α) → List (Tl α)
  | [r] => r.map fun x => ⟨[x]⟩
  | [r, t] => (r.zip t).map fun p => ⟨[p.1, p.2]⟩
  | _ => []
section
variable {F : Fx} {env : List Ent} {ex : XP} {a b c e it elt tg : Expr} {es ifs : List Expr} {pos p0 p1 p2 p3 : Pos} {n x : Str} {P : Po} {st : Stmt} {sts ss body : List Stmt}
theorem q_lcZ {α γ : Type} [Rp α] [Rp γ] {scope : Scope} {Q : List γ → Prop} {g : TG} {is : List Nat} {f : Tl α → List Ent → List Ent} {sp : Pos} (own0 : List (Str × Nat)) (nd : F.X.N.Nodup) (m : F.X.mg "zip" = none) (ok : BlkOk F.X.N F.X.env.scope scope own0)
    (hlen : ifs.length ≤ 1) (htg : ∀ F', Blk F scope F' → Tg F' (.Name x p2) (Tl α) g is f) (his : ∀ i ∈ is, i ∈ own0.map (·.2)) (hno : ∀ i ∈ own0.map (·.2), ∀ o, env[i]? ≠ some (.ow o))
    (h : KE F env it ex fun rows : List (List α) => ((∃ r, rows = [r] ∧ r.length ≤ 40000) ∨ ∃ r r2, rows = [r, r2] ∧ r.length = r2.length ∧ r.length ≤ 40000) ∧ ∃ (t : Tl α → Bool) (v : Tl α → γ), (∀ F' x, Blk F scope F' → x ∈ cols rows → KTs F' (f x (wipeE env (own0.map (·.2)))) ifs fun b => b = t x) ∧
      (∀ F' x, Blk F scope F' → x ∈ cols rows → t x = true → KE F' (f x (wipeE env (own0.map (·.2)))) elt noex fun y => y = v x) ∧ Q (((cols rows).filter t).map v))
    (hc : F.X.calm = true := by rfl) (hg : Gl F.X "zip" := by rfl) (hst : starEach [.Starred it sp] F.X.env = [(true, eval it F.X.env)] := by rfl)
    (hs : ∀ x, foldedSetIterable (.Call (.Name "zip" p0) [.Starred it sp] [] p1) F.X.env x = pure x := by intro _; rfl) : KLc F env elt (.Name x p2) (.Call (.Name "zip" p0) [.Starred it sp] [] p1) ifs scope ex Q := fun own σ H k p => by
  have onone : ∀ i ∈ own0.map (·.2), own i = none := fun i hi => by
    cases q : own i with
    | none => rfl
    | some p => exact absurd (k.out i p q).choose_spec (hno i hi _)
  refine ⟨_, g, own0, hc, nd, (pi_zipS hg m peE hst), ok, (fun s H C cl fp => (htg ⟨F.X.blk s H scope (compEnvC scope cl C F.X.env) fp, F.cls, F.hs, F.B⟩ ⟨s, H, C, cl, fp, F.hs, rfl⟩).pg), hlen, hs, fun Q' hq => ?_⟩
  refine tE_mono (fun v0 H1 ⟨rows, sm, ⟨l, vs, e1, e2, e3⟩, hrows, t, v, ht, hv, hQ⟩ => ?_) (h own σ H k p)
  -- the rows' addresses
  obtain ⟨as, eas, hal, har⟩ : ∃ as : List Addr, vs = as.map V.ref ∧ as.length = rows.length ∧ ∀ (j : Nat) a r, as[j]? = some a → rows[j]? = some r → ∃ ws, Hid (hd F.hs own) H1 a = some (.lst ws) ∧ RepAll F.G (Hid (hd F.hs own) H1) ws (dvs r) := by
    clear hrows ht hv hQ e2
    have key : ∀ {vs : List V} {rows : List (List α)}, RepAll F.G (Hid (hd F.hs own) H1) vs (dvs rows) → ∃ as : List Addr, vs = as.map V.ref ∧ as.length = rows.length ∧ ∀ (j : Nat) a r, as[j]? = some a → rows[j]? = some r → ∃ ws, Hid (hd F.hs own) H1 a = some (.lst ws) ∧ RepAll F.G (Hid (hd F.hs own) H1) ws (dvs r) := by
      intro vs
      induction vs with
      | nil => intro rows r; cases rows with
        | nil => exact ⟨[], rfl, rfl, fun j a r h => by cases h⟩
        | cons => exact r.elim
      | cons v vs ih => intro rows r; cases rows with
        | nil => exact r.elim
        | cons w rows =>
          obtain ⟨⟨p, ws, rfl, h1, h2⟩, r2⟩ := r
          obtain ⟨as, ea, la, har⟩ := ih r2
          refine ⟨p :: as, by rw [ea]; rfl, by simp [la], fun j a r hj hr => ?_⟩
          cases j with
          | zero => cases hj; cases hr; exact ⟨ws, h1, h2⟩
          | succ j => exact har j a r hj hr
    exact key e3
  subst eas
  have hsq : ∀ (j : Nat) a r, as[j]? = some a → rows[j]? = some r → ∃ ws, (∀ H2, Same H1 H2 → SqL F.X.K H2 a ws) ∧ ws.length = r.length ∧ RepAll F.G (Hid (hd F.hs own) H1) ws (dvs r) := fun j a r hj hr => by
    obtain ⟨ws, w1, w2⟩ := har j a r hj hr
    exact ⟨ws, fun H2 s => SqL.of (s _ _ (hid_of w1)), by rw [w2.len, dvs_len], w2⟩
  have hex : ∀ a ∈ as, ∃ xs, SqL F.X.K H1 a xs := fun a ma => by
    obtain ⟨j, hj⟩ := List.mem_iff_getElem?.mp ma
    obtain ⟨r, hr⟩ : ∃ r, rows[j]? = some r := ⟨_, List.getElem?_eq_getElem (by have := (List.getElem?_eq_some_iff.mp hj).1; omega)⟩
    obtain ⟨ws, w1, _⟩ := hsq j a r hj hr
    exact ⟨ws, w1 H1 (Same.refl _)⟩
  have lcol : ∀ (j : Nat) r, rows[j]? = some r → r.length = (cols rows).length := fun j r hr => by
    rcases hrows with ⟨r0, rfl, _⟩ | ⟨r0, r1, rfl, el, _⟩
    · match j, hr with
      | 0, hr => cases hr; simp [cols]
    · match j, hr with
      | 0, hr => cases hr; simp [cols, el]
      | 1, hr => cases hr; simp [cols, el]
  have hx : (cols rows).length ≤ 40000 := by
    rcases hrows with ⟨r0, rfl, _⟩ | ⟨r0, r1, rfl, el, _⟩
    · simpa [cols]
    · simp [cols]; omega
  refine ⟨l, as, e1, SqL.of (hid_of e2), by rcases hrows with ⟨r0, rfl, _⟩ | ⟨r0, r1, rfl, _⟩ <;> simp at hal <;> omega, hex, fun D hD => ?_⟩
  exact lc_any own0 (J := Itzn F.X.K as) (xs := cols rows) (fun i H2 s lt a ma => by
      obtain ⟨j, hj⟩ := List.mem_iff_getElem?.mp ma
      obtain ⟨r, hr⟩ : ∃ r, rows[j]? = some r := ⟨_, List.getElem?_eq_getElem (by have := (List.getElem?_eq_some_iff.mp hj).1; omega)⟩
      obtain ⟨ws, w1, w2, _⟩ := hsq j a r hj hr
      exact ⟨ws, w1 H2 s, by rw [w2, lcol j r hr]; exact lt⟩) (fun H2 s => by
      obtain ⟨r, hr⟩ : ∃ r, rows[0]? = some r := ⟨_, List.getElem?_eq_getElem (by rcases hrows with ⟨r0, rfl, _⟩ | ⟨r0, r1, rfl, _⟩ <;> simp)⟩
      obtain ⟨a, ha⟩ : ∃ a, as[0]? = some a := ⟨_, List.getElem?_eq_getElem (by have := (List.getElem?_eq_some_iff.mp hr).1; omega)⟩
      obtain ⟨ws, w1, w2, _⟩ := hsq 0 a r ha hr
      exact ⟨a, ws, ha, w1 H2 s, by rw [w2, lcol 0 r hr]; exact Nat.le_refl _⟩)
    (fun i H2 u H' y s hy ⟨T, ys, eu, nT, eH, ly, hys⟩ => by
      subst eH
      refine ⟨same_new nT, fun hid hn sm2 => ?_⟩
      have nh : ¬ hid T := fun z => hn T z nT
      refine ⟨T, ys, eu, by rw [hid_at nh, upd_same], ?_⟩
      have up : Same (Hid (hd F.hs own) H1) (Hid hid (upd H2 T (.tup ys))) := sm2.trans fun a o e => by
        have h0 := hid_of e
        have nh2 : ¬ hid a := fun z => by unfold Hid at e; rw [if_pos z] at e; cases e
        rw [hid_at nh2, upd_ne (ne_of_none h0 nT)]
        exact h0
      have one : ∀ (j : Nat) r a (z : α), rows[j]? = some r → as[j]? = some a → r[i]? = some z → ∃ w, ys[j]? = some w ∧ Rp.rep F.G (Hid hid (upd H2 T (.tup ys))) w z := fun j r a z hr ha hz => by
        obtain ⟨ws, w1, w2, w3⟩ := hsq j a r ha hr
        obtain ⟨w, hw1, hw2⟩ := hys j a ws ha (w1 H2 s)
        obtain ⟨w', h1, h2⟩ := w3.get (i := i) (d := dv z) (by rw [dvs_get, hz]; rfl)
        rw [hw2] at h1
        cases h1
        exact ⟨w, hw1, DV.mono (d := dv z) up h2⟩
      rcases hrows with ⟨r0, rfl, _⟩ | ⟨r0, r1, rfl, el, _⟩
      · rw [show cols [r0] = r0.map fun x => ⟨[x]⟩ from rfl, List.getElem?_map] at hy
        cases hz : r0[i]? with
        | none => rw [hz] at hy; cases hy
        | some z =>
          rw [hz] at hy
          have ey : (⟨[z]⟩ : Tl α) = y := Option.some.inj hy
          subst ey
          obtain ⟨a0, ha⟩ : ∃ a, as[0]? = some a := ⟨_, List.getElem?_eq_getElem (by simp at hal; omega)⟩
          obtain ⟨w, hw, r⟩ := one 0 r0 a0 z rfl ha hz
          have l1 : ys.length = 1 := by simp at hal; omega
          match ys, l1, hw with
          | [w'], _, hw => cases hw; exact ⟨r, trivial⟩
      · rw [show cols [r0, r1] = (r0.zip r1).map fun p => ⟨[p.1, p.2]⟩ from rfl, List.getElem?_map] at hy
        cases hz : (r0.zip r1)[i]? with
        | none => rw [hz] at hy; cases hy
        | some z =>
          rw [hz] at hy
          have ey : (⟨[z.1, z.2]⟩ : Tl α) = y := Option.some.inj hy
          subst ey
          obtain ⟨hz1, hz2⟩ := List.getElem?_zip_eq_some.mp hz
          obtain ⟨a0, ha⟩ : ∃ a, as[0]? = some a := ⟨_, List.getElem?_eq_getElem (by simp at hal; omega)⟩
          obtain ⟨a1, ha1⟩ : ∃ a, as[1]? = some a := ⟨_, List.getElem?_eq_getElem (by simp at hal; omega)⟩
          obtain ⟨w, hw, r⟩ := one 0 r0 a0 z.1 rfl ha hz1
          obtain ⟨w1, hw1, rr⟩ := one 1 r1 a1 z.2 rfl ha1 hz2
          have l1 : ys.length = 2 := by simp at hal; omega
          match ys, l1, hw, hw1 with
          | [u1, u2], _, hw, hw1 => cases hw; cases hw1; exact ⟨r, rr, trivial⟩) hlen htg his onone (k.mono sm) sm hx ht hv hQ hq D hD
end
end Rk

set_option maxHeartbeats 4000000
/-! # More small rules -/
namespace Rk
open PySem L2 PyProof.Rows
instance {α β : Type} [Rp α] [Rp β] : NN (α × β) := nn_tp
section
variable {F : Fx} {env : List Ent} {ex : XP} {a b c e it elt tg : Expr} {es ifs : List Expr} {pos p0 p1 p2 p3 : Pos} {n x : Str} {P : Po} {st : Stmt} {sts ss body : List Stmt}
/-- a if c else b, each by a name of its own -/
theorem k_ifD {α : Type} [Rp α] {Q : α → Prop} (v1 v2 : α) (h : KT F env c ex fun x => (x = true → KE F env a ex fun y : α => y = v1) ∧ (x = false → KE F env b ex fun y : α => y = v2) ∧ Q (if x = true then v1 else v2)) : KE F env (.IfExp c a b pos) ex Q :=
  k_if (kt_imp (fun x ⟨h1, h2, h3⟩ => by
    cases x with
    | true => rw [if_pos rfl] at h3 ⊢; exact ke_imp (fun y e => by rw [e]; exact h3) (h1 rfl)
    | false => rw [if_neg Bool.false_ne_true] at h3 ⊢; exact ke_imp (fun y e => by rw [e]; exact h3) (h2 rfl)) h)
/-- any(xs), xs truth values -/
theorem k_any {Q : Bool → Prop} (m : NoGl F.X.mg) (h : KE F env e ex fun bs : List Bool => Q (bs.any id)) (hc : F.X.calm = true := by rfl) (z : Ns F e [] := by rfl) (hg : Gl F.X "any" := by rfl) : KE F env (.Call (.Name "any" p0) [e] [] pos) ex Q :=
  cb (cr_any hc) (m _ (by simp)) (by decide +kernel) (a_one h z) (fun own σ H0 H vs ds s k r ⟨bs, ed, q⟩ => by
    subst ed
    obtain ⟨v, rfl, l, ws, e1, e2, e3⟩ := rep1 r
    have e4 := reps_bls e3
    exact ⟨l, bs, by rw [e1], SqL.of (by rw [← e4]; exact hid_of e2), _, s, rfl, q⟩) hg (hz := z)
end
end Rk

set_option maxHeartbeats 4000000
/-! # Answers that are new lists -/
namespace Rk
open PySem L2 PyProof.Rows
/-- at a place that B lacks -/
@[reducible] def fsh (B : Hp) {α : Type} (i : Rp α) : Rp α where
  rep := fun G H v a => i.rep G H v a ∧ ∃ p, v = .ref p ∧ B p = none
  mono := fun e h => ⟨i.mono e h.1, h.2⟩
def DV.new (B : Hp) (d : DV) : DV := ⟨d.ty, fsh B d.ins, d.val⟩
def spNew (K : PySem.W.Frag) (cls : Nat → Addr) (S : Pm) : Sp := fun vs H Q E => ∃ (hs : Addr → Prop) (ds : List DV) (r : Rz), (∀ x, hs x → H x ≠ none) ∧ RepAll ⟨K, cls⟩ (Hid hs H) vs ds ∧ S ds r ∧
  match r with
  | .ok d => ∀ v H', Same H H' → (d.new H).rep ⟨K, cls⟩ (Hid hs H') v → Q v H'
  | .err c => ∀ dd H', Same H H' → Xd c dd (Hid hs H') → E (.ref (cls c)) dd H'
theorem new_of {K : PySem.W.Frag} {cls : Nat → Addr} {S : Pm} (vs : List V) (H : Hp) (Q : VK) (E : XK) (h : spOf K cls S vs H Q E) : spNew K cls S vs H Q E := by
  obtain ⟨hs, ds, r, hh, rv, hS, q⟩ := h
  refine ⟨hs, ds, r, hh, rv, hS, ?_⟩
  cases r with
  | ok d => exact fun v H' s rd => q v H' s rd.1
  | err c => exact q
/-- a def's body that leads to a new list -/
def bodyNew (B : Hp) (r : Rz) : Po := { nx := fun _ => False, rt := fun d => ∃ d0, r = .ok d0 ∧ d = d0.new B, ex := fun _ C => r = .err C }
section
variable {PP : Program} {w : World} {K : PySem.W.Frag} {mg : Str → Option Value} {base : Heap} {cls : Nat → Addr}
theorem fn_okN {name qual : Str} {st : Stmt} {f : Addr} {fd : FuncData} {N ps : List Str} {k : Nat} {S : Pm} (Fn : Fun K name qual st f fd) (sc : FnScope N ps (defScope st)) (len : ∀ ds r, S ds r → ds.length = ps.length)
    (hb : ∀ (cd : Value) (A : Around) (outer : List Env) (s : Shared) (H : Hp) (E : XK) (hs : Addr → Prop) (ds : List DV) (r : Rz), Room k (A.deeper (envOfC qual (defScope st) s.heap.objs.size f cd)) → S ds r →
      KSs (fx PP w K mg base cls N qual (defScope st) f cd A outer s H E hs) (env0 ds N.length) (defBody st) (bodyNew H r)) : FnOk PP w K mg base (L2.CX PP w) (k + 1) f fd ps (spNew K cls S) := by
  refine Fn.okX sc (fun vs H Q E ⟨hs, ds, r, _, rv, hS, _⟩ => by rw [rv.len]; exact len ds r hS) (fun cd A outer s H vs Q E hr ⟨hs, ds, r, hh, rv, hS, q⟩ => ⟨_, peSs, ?_⟩)
  have kn := kn_start (N := N) hh rv
  have pt : Port (fx PP w K mg base cls N qual (defScope st) f cd A outer s H E hs) (fun _ => none) H (bodyNew H r).ex := by
    refine ⟨passes_of rfl, _, takes_of (E := E) rfl rfl rfl rfl, fun env own' C dd σ H' k' fr e xd => ?_⟩
    have e : r = .err C := e
    subst e
    exact q dd H' k'.ex (xd.mono (hid_more fun _ z => .inl z))
  refine tSs_mono (D := ends (fx PP w K mg base cls N qual (defScope st) f cd A outer s H E hs) (fun _ => none) H (bodyNew H r)) ?_ ?_ ?_ ?_ (hb cd A outer s H E hs ds r hr hS _ _ H kn pt)
  · rintro σ' H' ⟨env', own', k', fr, e⟩
    exact e.elim
  · rintro v H' ⟨d, sm, rd, d0, e, ed⟩
    subst e
    subst ed
    exact q v H' sm rd
  · rintro σ' H' ⟨env', own', k', fr, e⟩
    exact e.elim
  · rintro σ' H' ⟨env', own', k', fr, e⟩
    exact e.elim
end
section
variable {F : Fx} {env : List Ent} {ex : XP} {a b c e it elt tg : Expr} {es ifs : List Expr} {pos p0 p1 : Pos} {n x : Str} {P : Po} {st : Stmt} {sts ss body : List Stmt}
/-- an expression whose value is a new object -/
def KEN (F : Fx) (env : List Ent) (e : Expr) (ex : XP) {α : Type} [i : Rp α] (Q : α → Prop) : Prop :=
  ∀ own σ H, F.Kn own env σ H → Port F own H ex → tE F.X e σ H fun v H' => ∃ a : α, Same H H' ∧ (fsh H i).rep F.G (Hid (hd F.hs own) H') v a ∧ Q a
theorem ken_ke {α : Type} [i : Rp α] {Q : α → Prop} (h : KEN F env e ex Q) : KE F env e ex Q := fun own σ H k p => tE_mono (fun v H' ⟨y, s, r, q⟩ => ⟨y, s, r.1, q⟩) (h own σ H k p)
theorem s_retNew {α : Type} [i : Rp α] (h : KEN F env e P.ex fun y : α => P.rt ((dv y).new F.B)) : KS F env (.Return (some e) pos) P :=
  @s_ret F env e pos P α (fsh F.B i) fun own σ H k p => tE_mono (fun v H' ⟨y, s, ⟨r, p, e, z⟩, q⟩ => ⟨y, s, ⟨r, p, e, same_none k.ex z⟩, q⟩) (h own σ H k p)
/-- return x, x a list that the def alone holds -/
theorem s_retOwn {α : Type} [Rp α] (i : Nat) {xs : List α} (hN : F.X.N[i]? = some x) (he : env[i]? = some (.ow (olist xs))) (q : P.rt ((dv xs).new F.B))
    (hv : Vis F.X.env.scope x := by first | exact Or.inl rfl | exact Or.inr (Or.inl rfl) | exact Or.inr (Or.inr rfl)) (hdb : (x == ("__debug__" : Str)) = false := by decide) (hcd : (x == ("__classdict__" : Str)) = false := by decide) : KS F env (.Return (some (.Name x p1)) pos) P := fun own σ H k p => by
  obtain ⟨l, ho, h0, h1, h2, vs, e3, r3⟩ := (show EntOk F.G F.hs own σ H i (.ow (olist xs)) from k.ent i _ he)
  subst e3
  exact tS_of (ps_ret (pe_var hN hv hdb hcd)) ⟨.ref l, h1, (dv xs).new F.B, k.ex, ⟨⟨l, vs, rfl, by rw [hid_at (k.dis i l h0)]; exact h2, r3.mono (hid_more fun _ z => .inl z)⟩, l, rfl, (k.new i l h0).1⟩, q⟩
theorem kn_ofLc {β : Type} [Rp β] {scope : Scope} {Q : List β → Prop} {ex : XP} (h : KLc F env elt tg it ifs scope ex Q) : KEN F env (.ListComp elt [⟨tg, it, ifs, 0⟩] scope pos) ex Q := fun own σ H k p => by
  obtain ⟨wi, g, own0, hc, nd, pi, ok, pg, hlen, hs, z⟩ := h own σ H k p
  exact tE_of (pe_lc (own := own0) (g := g) (te := uE F scope elt) hc nd pi ok pg (lc_tests hlen) (fun s H C cl fp => ⟨fun pins s' σ H' Q I h => h s H C cl fp pins s' I⟩) hs) (z _ fun v H' ⟨y, s, r, q⟩ fr => ⟨y, s, ⟨r, fr⟩, q⟩)
section
variable {kk : Nat} {f : Addr} {fd : FuncData} {ps : List Str} {S : Pm}
theorem spec_runN {own : Nat → Option Addr} {σ : L2.St} {H0 H : Hp} {α : Type} [i : Rp α] {Q : α → Prop} {W : WX} {vs : List V} {ds : List DV} {r : Rz} (s : Same H0 H) (k : F.Kn own env σ H) (hw : ∀ env own' C dd σ H', F.Kn own' env σ H' → Fr F.hs own own' H0 H' → ex env C → Xd C dd (Hid (hd F.hs own') H') → W (.ref (F.cls C)) dd σ H')
    (rv : RepAll F.G (Hid (hd F.hs own) H) vs ds) (hS : S ds r) (q : Got env ex Q r) : spNew F.X.K F.cls S vs H (fun v H' => ∃ y : α, Same H0 H' ∧ (fsh H0 i).rep F.G (Hid (hd F.hs own) H') v y ∧ Q y) (WE W σ) := by
  refine ⟨hd F.hs own, ds, r, Kn.hidden k, rv, hS, ?_⟩
  cases r with
  | ok d =>
    obtain ⟨x, ed, q⟩ := q
    intro v H' s' rd
    subst ed
    obtain ⟨r1, p, e, z⟩ := rd
    exact ⟨x, s.trans s', ⟨r1, p, e, same_none s z⟩, q⟩
  | err c => exact fun dd H' s' x => hw env own c dd σ H' (k.mono s') (Fr.of (s.trans s')) q x
theorem kn_call {α : Type} [Rp α] {Q : α → Prop} (G : FnOk F.X.prog F.X.w F.X.K F.X.mg F.X.base (L2.CX F.X.prog F.X.w) kk f fd ps (spNew F.X.K F.cls S)) (hr : Room kk F.X.A) (hm : F.X.mg n = some (.ref f)) (hk : PySem.W.keepIn F.X.K (.ref f) = true) (hb : Binds F.X.K fd ps [])
    (h : KA F env (e :: es) ex fun ds => ∃ r, S ds r ∧ Got env ex Q r) (hg : Gl F.X n := by rfl) (hdb : (n == ("__debug__" : Str)) = false := by decide)
    (hz : starEach (e :: es) F.X.env = (false, eval e F.X.env) :: starEach es F.X.env := by rfl) (hpl : (backTo pos (starEach es F.X.env)).any (·.1) = false := by rfl) : KEN F env (.Call (.Name n p0) (e :: es) [] pos) ex Q := fun own σ H k p => by
  obtain ⟨pa, W, tk, hw⟩ := id p
  exact tE_of (pe_callS G hr hg hm hk hb (fun σ => passAt tk σ) peA hdb hz hpl) (tA_mono (fun vs H' ⟨ds, s, r1, r, hS, q⟩ => spec_runN s (k.mono s) hw r1 hS q) (h own σ H k p))
theorem kn_meth {α β : Type} [Rp β] {num : Nat} {fs : α → List (Str × DV)} {m : Str} {apos : Pos} {Q : β → Prop} (hf : ∀ o, (fs o).lookup m = none) (cl : Cls F.X.K (F.cls num)) (hm : Meth F.X.K (F.cls num) m f)
    (G : FnOk F.X.prog F.X.w F.X.K F.X.mg F.X.base (L2.CX F.X.prog F.X.w) kk f fd ps (spNew F.X.K F.cls S)) (hr : Room kk F.X.A) (hb : Binds F.X.K fd ps [])
    (h : @KE F env a ex α (obRp num fs) fun o => KA F env (e :: es) ex fun ds => ∃ r, S (@dv α (obRp num fs) o :: ds) r ∧ Got env ex Q r)
    (hst : starEach (e :: es) F.X.env = (false, eval e F.X.env) :: starEach es F.X.env := by rfl) (hpl : (backTo pos (starEach es F.X.env)).any (·.1) = false := by rfl) {pl : Sem Bool}
    (ht : eval (.Call (.Attribute a m apos) (e :: es) [] pos) F.X.env = (do
      let recv ← eval a F.X.env
      standAt apos.atName
      let (fn, fst) ← holding [recv] (getMethod recv m pl)
      callWith pos fn fst (backTo pos (starEach (e :: es) F.X.env)) (backToKw pos (keywordEach [] F.X.env))) := by rfl) :
    KEN F env (.Call (.Attribute a m apos) (e :: es) [] pos) ex Q := fun own σ H k p => by
  obtain ⟨pa, W, tk, hw⟩ := id p
  refine tE_of (pe_methS peE cl hm G hr hb (fun σ => passAt tk σ) peA hst hpl ht) (tE_mono (fun v H1 ⟨o, s1, r1, q1⟩ => ?_) (h own σ H k p))
  obtain ⟨x, dx, kvs, e1, e2, e3⟩ := id r1
  refine ⟨x, dx, kvs, e1, hid_of e2, e3.no (hf o), tA_mono (fun vs H2 ⟨ds, s2, r2, r, hS, q⟩ => ?_) (q1 own σ H1 (k.mono s1) (p.mono s1))⟩
  exact spec_runN (s1.trans s2) (k.mono (s1.trans s2)) hw (ds := @dv α (obRp num fs) o :: ds) ⟨(obRp num fs).mono (hid_same s2) r1, r2⟩ hS q
end
/-- f(..).append(e), f's answer a new list -/
theorem s_appNew {α : Type} [Rp α] {o : Expr} {q1 : Pos} (h : KEN F env o P.ex fun xs : List α => xs.length < 100000 ∧ KE F env e P.ex fun _ : α => P.nx env) (z : Ns F e [] := by rfl)
    (hbase : attributeBase o "append" F.X.env (eval o F.X.env) = eval o F.X.env := by rfl)
    (hfew : ((backTo p0 (starEach (e :: []) F.X.env)).all (fun x => !x.1) && (backToKw p0 (keywordEach [] F.X.env)).all (fun x => x.1.isSome)
      && decide ((e :: ([] : List Expr)).length + ([] : List Keyword).length + (if ([] : List Keyword).isEmpty then 0 else 1) < 30)) = true := by rfl)
    (hline : (q1.endLine == p0.line) = true := by rfl) (hplain : (backTo p0 (starEach ([] : List Expr) F.X.env)).any (·.1) = false := by rfl)
    (hs : swapsWith (.Call (.Attribute o "append" q1) [e] [] p0) none pos.line F.X.env = pure false := by rfl) :
    KS F env (.Expr (.Call (.Attribute o "append" q1) [e] [] p0) pos) P := fun own σ H k p => by
  refine tS_of (ps_expr (pe_bm PySem.F.plainAttrs_list PySem.F.slot_list_append PySem.F.type_list_append mt_append peE (pa_cons peE pa_nil z) hbase hfew hline z hplain) hs) (tE_mono (fun v H1 ⟨xs, s1, ⟨⟨l, vs, e1, e2, e3⟩, l', el, hl⟩, hz, hy⟩ => ?_) (h own σ H k p))
  subst e1
  cases el
  refine ⟨.inl ⟨rfl, _, SqL.of (hid_of e2)⟩, ?_⟩
  refine tE_mono (fun v H' ⟨y, s, r, q⟩ => ?_) (hy own σ H1 (k.mono s1) (p.mono s1))
  refine ⟨l, vs, v, rfl, rfl, s _ _ (hid_of e2), Nat.lt_of_lt_of_le (by rw [e3.len, dvs_len]; exact hz) (by decide : 100000 ≤ sizeLine), ?_⟩
  have s3 : Same H (upd H' l (.lst (vs ++ [v]))) := fun x u eu => by
    rw [upd_ne (ne_of_none eu hl)]; exact s _ _ (s1 _ _ eu)
  exact ⟨env, own, k.mono s3, Fr.of s3, q⟩
end
end Rk

set_option maxHeartbeats 4000000
/-! # A list as a test; a list taken apart -/
namespace Rk
open PySem L2 PyProof.Rows
section
variable {F : Fx} {env : List Ent} {ex : XP} {a e : Expr} {P : Po} {pos p1 : Pos} {es : List Expr}
theorem t_lst {α : Type} [Rp α] {Q : Bool → Prop} (h : KE F env a ex fun xs : List α => Q (!xs.isEmpty)) (he : ∀ whole, isTrue a F.X.env whole = (do let v ← whole; standAt a.pos; holding [v] (truthy v)) := by intro _; rfl) : KT F env a ex Q := fun own σ H k p =>
  tT_of (pt_truth peE he) (tE_mono (fun v H' ⟨xs, s, ⟨l, vs, e1, e2, e3⟩, q⟩ => ⟨!xs.isEmpty, by
    subst e1
    refine .inl ⟨vs, SqL.of (hid_of e2), ?_⟩
    have hl := e3.len
    rw [dvs_len] at hl
    cases vs <;> cases xs <;> first | rfl | (simp at hl), s, q⟩) (h own σ H k p))
theorem s_unpackL {α : Type} [Rp α] (is : List Nat) {kx : Nat} (hg : PGs F.X es (gNs is)) (h : KE F env e P.ex fun y : List α => is.length = y.length ∧ ∀ z : List α, z = y → P.nx (setAll env is (dvs z))) (hc : F.X.calm = true := by rfl)
    (hn : (assignEach es F.X.env).length = is.length := by rfl) (hst : (assignEach es F.X.env).findIdx? (·.1) = none := by rfl) (hs : swapsWithSole [.Tuple es kx p1] e pos.line F.X.env = pure false := by rfl) (hw : swappedStores [.Tuple es kx p1] e F.X.env = pure none := by rfl)
    (h1 : (assignEach [.Tuple es kx p1] F.X.env).map (·.2) = [assign (.Tuple es kx p1) F.X.env] := by rfl) : KS F env (.Assign [.Tuple es kx p1] e pos) P := fun own σ H k p =>
  tS_of (ps_asg peE (pg_lst hc hg hn hst) hs hw h1) (tE_mono (fun v H' ⟨y, s, ⟨l, vs, e1, e2, e3⟩, hl, q⟩ => ⟨l, vs, e1, SqL.of (hid_of e2), by rw [e3.len, dvs_len, ← hl], unpack is _ vs env own σ H' (by rw [dvs_len, ← hl]) (k.mono s) e3 fun own' σ' k' f _ _ => ⟨_, own', k', (Fr.of s).trans f, q y rfl⟩⟩) (h own σ H k p))
/-- behind a statement only so much is known -/
theorem s_cut {st : Stmt} (I : List Ent → Prop) (h : KS F env st { P with nx := fun e => ∃ ns, I (fgt e ns) }) (h2 : ∀ e, I e → P.nx e) : KS F env st P := fun own σ H k p =>
  tS_mono (D := ends F own H { P with nx := fun e => ∃ ns, I (fgt e ns) }) (D' := ends F own H P) (fun _ _ z => At.imp h2 (At.fgt z)) (fun _ _ z => z) (fun _ _ z => z) (fun _ _ z => z) (h own σ H k p)
/-- two names for one value -/
theorem s_let2 {α : Type} [Rp α] {x y : Str} {p2 : Pos} (i j : Nat) (nd : F.X.N.Nodup) (hi : F.X.N[i]? = some x) (hj : F.X.N[j]? = some y) (ij : i ≠ j) (h : KE F env e P.ex fun u : α => ∀ z : α, z = u → P.nx ((env.set i (.sh (dv z))).set j (.sh (dv z))))
    (hx : Loc F.X.env.scope x := by first | exact Or.inl rfl | exact Or.inr rfl) (hy : Loc F.X.env.scope y := by first | exact Or.inl rfl | exact Or.inr rfl) (fx : F.X.fn x = true ∨ F.X.env.scope.names.lookup x = some .local := by exact Or.inl rfl) (fy : F.X.fn y = true ∨ F.X.env.scope.names.lookup y = some .local := by exact Or.inl rfl)
    (h1 : (assignEach [.Name x p1, .Name y p2] F.X.env).map (·.2) = [assign (.Name x p1) F.X.env, assign (.Name y p2) F.X.env] := by rfl) (hw : swappedStores [.Name x p1, .Name y p2] e F.X.env = pure none := by rfl) : KS F env (.Assign [.Name x p1, .Name y p2] e pos) P := fun own σ H k p =>
  tS_of (ps_asg2 peE (pg_name nd hi hx fx) (pg_name nd hj hy fy) h1 hw) (tE_mono (fun v H' ⟨u, s, r, q⟩ => by
    have k1 := (k.mono s).set (i := i) (v := v) (d := dv u) r
    have r2 : (dv u).rep F.G (Hid (hd F.hs (drop own i)) H') v := DV.mono (Fr.drop (own := own) (H := H') i) r
    have k2 := k1.set (i := j) (v := v) (d := dv u) r2
    exact ⟨_, _, k2, ((Fr.of s).trans (Fr.drop i)).trans (Fr.drop j), q u rfl⟩) (h own σ H k p))
end
end Rk

set_option maxHeartbeats 4000000
/-! # isinstance of a caught error; lists of mixed items -/
namespace Rk
open PySem L2 PyProof.Rows
section
variable {F : Fx} {env : List Ent} {ex : XP} {a e : Expr} {pos p0 p1 : Pos}
theorem kit_of_exm {K : PySem.W.Frag} {D C : Addr} {b : Bool} (h : PySem.W.exmOne K (.ref D) (.ref C) = some b) (h2 : PySem.W.exmOne K (.ref D) (.ref D) = some true) : PySem.W.kitOne K (.ref D) (.ref C) = some b := by
  by_cases q : (Value.ref D == Value.ref C) = true
  · have e : D = C := by simpa using q
    subst e
    rw [h2] at h
    unfold PySem.W.kitOne
    rw [if_pos q]; exact h
  · unfold PySem.W.kitOne
    rw [if_neg q]
    unfold PySem.W.exmOne at h
    split at h
    · exact h
    · cases h
theorem k_isE {q : Addr} {oe : Obj} {pn : List (Addr × Obj)} {cn ch : Nat} {b : Bool} {t : Str} {Q : Bool → Prop} (C : ExcC F.X.K (F.cls cn)) (hk : PySem.W.kitOne F.X.K (.ref (F.cls cn)) (.ref (F.cls ch)) = some b) (hz : Zc (.ref (F.cls cn)) none oe) (hf : ∃ vs, oe.data = .fields vs) (m : NoGl F.X.mg) (ht : F.X.mg t = some (.ref (F.cls ch)))
    (h : KE (F.su q ((q, oe) :: pn)) env a ex fun e : Exo => e.at_ = q ∧ Q b) (hg : Gl (F.su q ((q, oe) :: pn)).X "isinstance" := by rfl) (hgt : Gl (F.su q ((q, oe) :: pn)).X t := by rfl)
    (z : Ns (F.su q ((q, oe) :: pn)) a [.Name t p1] := by rfl) (z2 : Ns (F.su q ((q, oe) :: pn)) (.Name t p1) [] := by rfl) (hpl : (backTo pos (starEach [.Name t p1] (F.su q ((q, oe) :: pn)).X.env)).any (·.1) = false := by rfl) (htd : (t == ("__debug__" : Str)) = false := by decide) :
    KE (F.su q ((q, oe) :: pn)) env (.Call (.Name "isinstance" p0) [a, .Name t p1] [] pos) ex Q := fun own σ H k p =>
  tE_of (pe_callB (call_isE (X := F.X) C hz hf) hg (m _ (by simp)) (by decide +kernel) (pa_cons peE (pa_cons (pe_glob (v := .ref (F.cls ch)) hgt ht rfl htd) pa_nil z2) z) (he := z) (hpl := hpl)) (tE_mono (fun v H' ⟨y, s, r, e1, q1⟩ => by
    have r : v = .ref y.at_ := r
    subst r
    rw [e1]
    exact ⟨.ref (F.cls ch), .ref (F.cls ch), b, rfl, fun u hu => hu, hk, b, s, rfl, q1⟩) (h own σ H k p))
/-- an item of a list of mixed items -/
theorem k_ixH {α β : Type} [Rp β] {ds : α → List DV} {i j} {Q : β → Prop} (n : Nat) (g : α → β) (hg : ∀ o, (ds o)[n]? = some (dv (g o))) (hi : i = (n : Int)) (h : @KE F env a ex α (lsRp ds) fun o => Q (g o)) :
    KE F env (.Subscript a (.Constant (.int i) j p1) pos) ex Q := fun own σ H k p =>
  tE_of (pe_ix ix_list peE pe_int (fun _ _ => rfl)) (tE_mono (fun v H' ⟨o, s, ⟨q, vs, e1, e2, e3⟩, z⟩ => by
    obtain ⟨w, h1, h2⟩ := e3.get (hg o)
    refine ⟨q, vs, _, w, e1, rfl, SqL.of (hid_of e2), ?_, g o, s, h2, z⟩
    subst hi
    have hl : n < vs.length := (List.getElem?_eq_some_iff.mp h1).1
    unfold atI ixN
    rw [if_pos (by omega), if_pos (by omega)]
    simpa using h1) (h own σ H k p))
/-- x, y = a, b: ints -/
theorem s_par2 {P : Po} {b : Expr} {x y : Str} {i j : Nat} {kt k2 : Nat} {q1 q2 pt pt2 : Pos} (nd : F.X.N.Nodup) (hi : F.X.N[i]? = some x) (hj : F.X.N[j]? = some y) (hij : i ≠ j)
    (h : KE F env a P.ex fun u : Int => KE F env b P.ex fun v : Int => P.nx ((env.set i (.sh (dv u))).set j (.sh (dv v))))
    (hw : swappedStores [.Tuple [.Name x q1, .Name y q2] kt pt] (.Tuple [a, b] k2 pt2) F.X.env = pure (some [x, y]) := by rfl)
    (hc : F.X.calm = true := by rfl) (hx : F.X.env.scope.names.lookup x = some .local := by rfl) (hy : F.X.env.scope.names.lookup y = some .local := by rfl)
    (n1 : Ns F a [b] := by rfl) (n2 : Ns F b [] := by rfl)
    (hs : swapsWithSole [.Tuple [.Name x q1, .Name y q2] kt pt] (.Tuple [a, b] k2 pt2) pos.line F.X.env = pure false := by rfl) :
    KS F env (.Assign [.Tuple [.Name x q1, .Name y q2] kt pt] (.Tuple [a, b] k2 pt2) pos) P := fun own σ H k p => by
  have args : KA F env [a, b] P.ex fun ds => ∃ u v : Int, ds = [dv u, dv v] ∧ P.nx ((env.set i (.sh (dv u))).set j (.sh (dv v))) :=
    a_cons (ke_imp (fun u q => a_cons (ke_imp (fun v q => a_nil ⟨u, v, rfl, q⟩) q) n2) h) n1
  refine tS_of (ps_par hc nd hi hj hij hx hy peA hw hs) (tA_mono (fun vs H' ⟨ds, s, r, u, v, ed, q⟩ => ?_) (args own σ H k p))
  subst ed
  match vs, r with
  | [v1, v2], r =>
    have k1 := (k.mono s).set (i := i) (v := v1) (d := dv u) r.1
    have k2 := k1.set (i := j) (v := v2) (d := dv v) (DV.mono (d := dv v) (hid_more fun _ z => drop_hd z) r.2.1)
    exact ⟨v1, v2, rfl, _, _, k2, (Fr.of s).trans ((Fr.drop i).trans (Fr.drop j)), q⟩
theorem nuMax2_int (x y : Int) : nuMax2 (.int x) (.int y) = some (.int (max x y)) := by
  have e : nuMax2 (.int x) (.int y) = some (if decide (x < y) = true then V.int y else V.int x) := rfl
  rw [e]
  by_cases h : x < y
  · rw [decide_eq_true h, if_pos rfl, Int.max_eq_right (Int.le_of_lt h)]
  · rw [decide_eq_false h, if_neg Bool.false_ne_true, Int.max_eq_left (by omega)]
theorem k_max3 {b c : Expr} {Q : Int → Prop} (m : NoGl F.X.mg) (h : KA F env [a, b, c] ex fun ds => ∃ x y z : Int, ds = [dv x, dv y, dv z] ∧ Q (max (max x y) z)) (hc : F.X.calm = true := by rfl) (hg : Gl F.X "max" := by rfl)
    (hz : starEach [a, b, c] F.X.env = (false, eval a F.X.env) :: starEach [b, c] F.X.env := by rfl) (hpl : (backTo pos (starEach [b, c] F.X.env)).any (·.1) = false := by rfl) : KE F env (.Call (.Name "max" p0) [a, b, c] [] pos) ex Q :=
  cb (call_max3Nu hc) (m _ (by simp)) (by decide +kernel) h (fun own σ H0 H vs ds s k r ⟨x, y, z, ed, q⟩ => by
    subst ed
    match vs, r with
    | [u, v, w], r =>
      have e1 : u = V.int x := r.1
      have e2 : v = V.int y := r.2.1
      have e3 : w = V.int z := r.2.2.1
      subst e1 e2 e3
      refine ⟨_, _, _, .int (max (max x y) z), rfl, ?_, _, s, rfl, q⟩
      show (nuMax2 (.int x) (.int y)).bind (fun m => nuMax2 m (.int z)) = _
      rw [nuMax2_int]
      exact nuMax2_int _ _) hg (hz := hz) (hpl := hpl)
theorem nn_ls {α : Type} {ds : α → List DV} : @NN α (lsRp ds) := @NN.mk α (lsRp ds) fun {G H v x} ⟨p, _, e, _⟩ z => by rw [e] at z; cases z
end
end Rk

set_option maxHeartbeats 4000000
/-! # tuple(list), isinstance of a caught error and a built-in class, an int against any number -/
namespace Rk
open PySem L2 PyProof.Rows
section
variable {F : Fx} {env : List Ent} {ex : XP} {a b e : Expr} {pos p0 p1 : Pos}
theorem kit_ty_sub {K : PySem.W.Frag} {D : Addr} {T : String} {v : Bool} (h : PySem.W.subIn K (.ref D) (.type T) = some v) (m : PySem.W.kitMeta T = true) : PySem.W.kitOne K (.ref D) (.type T) = some v := by
  unfold PySem.W.kitOne
  rw [if_neg (by intro z; cases z)]
  unfold PySem.W.kitCls
  simp only
  rw [if_pos m]; exact h
theorem k_isET {q : Addr} {oe : Obj} {pn : List (Addr × Obj)} {cn : Nat} {v : Bool} {t : Str} {T : String} {Q : Bool → Prop} (C : ExcC F.X.K (F.cls cn)) (hk : PySem.W.kitOne F.X.K (.ref (F.cls cn)) (.type T) = some v) (hz : Zc (.ref (F.cls cn)) none oe) (hf : ∃ vs, oe.data = .fields vs) (m : NoGl F.X.mg) (ht : F.X.mg t = none) (hv : bootBuiltins t = some (.type T))
    (h : KE (F.su q ((q, oe) :: pn)) env a ex fun e : Exo => e.at_ = q ∧ Q v) (hg : Gl (F.su q ((q, oe) :: pn)).X "isinstance" := by rfl) (hgt : Gl (F.su q ((q, oe) :: pn)).X t := by rfl)
    (z : Ns (F.su q ((q, oe) :: pn)) a [.Name t p1] := by rfl) (z2 : Ns (F.su q ((q, oe) :: pn)) (.Name t p1) [] := by rfl) (hpl : (backTo pos (starEach [.Name t p1] (F.su q ((q, oe) :: pn)).X.env)).any (·.1) = false := by rfl) (htn : t ≠ "__name__" := by decide) (htd : (t == ("__debug__" : Str)) = false := by decide) :
    KE (F.su q ((q, oe) :: pn)) env (.Call (.Name "isinstance" p0) [a, .Name t p1] [] pos) ex Q := fun own σ H k p =>
  tE_of (pe_callB (call_isE (X := F.X) C hz hf) hg (m _ (by simp)) (by decide +kernel) (pa_cons peE (pa_cons (pe_bltn (v := .ty T) hgt ht hv rfl htn htd) pa_nil z2) z) (he := z) (hpl := hpl)) (tE_mono (fun w H' ⟨y, s, r, e1, q1⟩ => by
    have r : w = .ref y.at_ := r
    subst r
    rw [e1]
    exact ⟨.ty T, .type T, v, rfl, fun u hu => hu, hk, v, s, rfl, q1⟩) (h own σ H k p))
/-- a tuple of a list's scalars -/
theorem k_tupOf {Q : Tv → Prop} (m : NoGl F.X.mg) (h : KE F env e ex fun xs : List V => Q ⟨xs⟩) (z : Ns F e [] := by rfl) (hg : Gl F.X "tuple" := by rfl) : KE F env (.Call (.Name "tuple" p0) [e] [] pos) ex Q :=
  ct call_tuple_of (m _ (by simp)) (by decide +kernel) (a_one h z) (fun own σ H0 H vs ds s k r ⟨xs, ed, q⟩ => by
    subst ed
    obtain ⟨v, rfl, l, vs, e1, e2, e3⟩ := rep1 r
    subst e1
    refine ⟨l, vs, rfl, .inl ⟨SqL.of (hid_of e2), fun t ht => ⟨⟨xs⟩, s.trans (same_new ht), ⟨t, vs, rfl, hid_new k (Same.refl H) ht, e3.mono (hid_same (same_new ht))⟩, q⟩⟩⟩) hg (hz := z)
def isNumV : V → Bool
  | .int _ => true
  | .bl _ => true
  | _ => false
def eqVI : V → Int → Bool
  | .int i, j => decide (i = j)
  | .bl c, j => decide (b2 c = j)
  | _, _ => false
theorem t_eqVI {Q : Bool → Prop} (hu : F.X.A.units + 64 < cLine) (h : KE F env a ex fun x : V => KE F env b ex fun y : Int => isNumV x = true ∧ Q (eqVI x y)) : KT F env (.Compare a [.Eq] [b] pos) ex Q :=
  t_cmp (op_eqD hu) h (fun _ _ _ _ v u x y s _ r1 r2 ⟨n, q⟩ => by
    have r1 : v = x := r1
    have r2 : u = V.int y := r2
    subst r1 r2
    cases v with
    | int i => exact ⟨.int i, .int y, .int i, .int y, rfl, rfl, _, congrArg V.bl (by show (i == y) = decide (i = y); by_cases h : i = y <;> simp [h]), s, q⟩
    | bl c => exact ⟨.bool c, .int y, .bl c, .int y, rfl, rfl, _, congrArg V.bl (by
        show PyData.eqv (.bool c) (.int y) = decide (b2 c = y)
        cases c
        · by_cases h : b2 false = y
          · rw [decide_eq_true h, ← h]; decide +kernel
          · rw [decide_eq_false h]
            cases e : PyData.eqv (.bool false) (.int y) with
            | false => rfl
            | true => exact absurd (by simpa [PyData.eqv, b2] using e) h
        · by_cases h : b2 true = y
          · rw [decide_eq_true h, ← h]; decide +kernel
          · rw [decide_eq_false h]
            cases e : PyData.eqv (.bool true) (.int y) with
            | false => rfl
            | true => exact absurd (by simpa [PyData.eqv, b2] using e) h), s, q⟩
    | _ => cases n) (nomark _)
/-- an int in a tuple of ints -/
theorem k_inTl {Q : Bool → Prop} (h : KE F env a ex fun y : Int => KE F env b ex fun t : Tl Int => Q (decide (y ∈ t.xs))) (hm : behindInMarks .In b = false := by with_unfolding_all rfl) : KE F env (.Compare a [.In] [b] pos) ex Q :=
  k_cmp op_in_seq h (fun _ _ _ _ v u x y s _ r1 r2 q => by
    have r1 : v = V.int x := r1
    obtain ⟨l, vs, e1, e2, e3⟩ := r2
    subst r1 e1
    have e4 := reps_ints (ns := y.xs) e3
    subst e4
    exact ⟨l, _, rfl, .inr (SqT.of (hid_of e2)), rfl, flat_ints y.xs, _, s, by show V.bl (inV (V.int x) (y.xs.map V.int)) = _; rw [in_ints]; rfl, q⟩) hm
end
end Rk

set_option maxHeartbeats 4000000
/-! # A list that the def alone holds: as a test, its last item read and written -/
namespace Rk
open PySem L2 PyProof.Rows
section
variable {F : Fx} {env : List Ent} {ex : XP} {a b e : Expr} {pos p0 p1 : Pos} {x : Str} {P : Po}
theorem t_ownL {α : Type} [Rp α] {Q : Bool → Prop} (i : Nat) {xs : List α} (hN : F.X.N[i]? = some x) (he : env[i]? = some (.ow (olist xs))) (q : Q (!xs.isEmpty))
    (hv : Vis F.X.env.scope x := by first | exact Or.inl rfl | exact Or.inr (Or.inl rfl) | exact Or.inr (Or.inr rfl)) (hdb : (x == ("__debug__" : Str)) = false := by decide) (hcd : (x == ("__classdict__" : Str)) = false := by decide)
    (ht : ∀ whole, isTrue (.Name x pos) F.X.env whole = (do let v ← whole; standAt pos; holding [v] (truthy v)) := by intro _; rfl) : KT F env (.Name x pos) ex Q := fun own σ H k p => by
  obtain ⟨l, ho, h0, g1, h2, vs, e3, r3⟩ := (show EntOk F.G F.hs own σ H i (.ow (olist xs)) from k.ent i _ he)
  subst e3
  refine tT_of (pt_truth (pe_var hN hv hdb hcd) ht) ⟨_, g1, !xs.isEmpty, .inl ⟨vs, SqL.of h2, ?_⟩, Same.refl H, q⟩
  have hl := r3.len
  rw [dvs_len] at hl
  cases vs <;> cases xs <;> first | rfl | (simp at hl)
/-- the last item, read -/
theorem k_ownLast {α : Type} [Rp α] {Q : α → Prop} {j : Nat} {p2 p3 : Pos} (i : Nat) {xs : List α} (hN : F.X.N[i]? = some x) (he : env[i]? = some (.ow (olist xs))) (h : ∃ y, xs.getLast? = some y ∧ Q y)
    (hv : Vis F.X.env.scope x := by first | exact Or.inl rfl | exact Or.inr (Or.inl rfl) | exact Or.inr (Or.inr rfl)) (hdb : (x == ("__debug__" : Str)) = false := by decide) (hcd : (x == ("__classdict__" : Str)) = false := by decide) :
    KE F env (.Subscript (.Name x p0) (.UnaryOp .USub (.Constant (.int 1) j p1) p2) p3) ex Q := fun own σ H k p => by
  obtain ⟨l, ho, h0, g1, h2, vs, e3, r3⟩ := (show EntOk F.G F.hs own σ H i (.ow (olist xs)) from k.ent i _ he)
  subst e3
  obtain ⟨y, hy, q⟩ := h
  rw [List.getLast?_eq_getElem?] at hy
  obtain ⟨w, w1, w2⟩ := r3.get (i := xs.length - 1) (d := dv y) (by rw [dvs_get, hy]; rfl)
  have hl : vs.length = xs.length := by rw [r3.len, dvs_len]
  refine tE_of (pe_ix ix_list (pe_var hN hv hdb hcd) (pe_un un_neg pe_int) (fun _ _ => rfl)) ⟨_, g1, 1, rfl, l, vs, -1, w, rfl, rfl, SqL.of h2, at_last ?_, y, Same.refl H, w2, q⟩
  rw [List.getLast?_eq_getElem?, hl]
  exact w1
/-- xs[-1] = e -/
theorem s_setLast {α : Type} [Rp α] {jz : Nat} {p2 p3 p4 p5 : Pos} (i : Nat) {xs : List α} (hN : F.X.N[i]? = some x) (he : env[i]? = some (.ow (olist xs))) (h : KE F env e P.ex fun y : α => xs ≠ [] ∧ ∀ zs, zs = xs.dropLast ++ [y] → P.nx (env.set i (.ow (olist zs))))
    (hv : Vis F.X.env.scope x := by first | exact Or.inl rfl | exact Or.inr (Or.inl rfl) | exact Or.inr (Or.inr rfl)) (hdb : (x == ("__debug__" : Str)) = false := by decide) (hcd : (x == ("__classdict__" : Str)) = false := by decide)
    (ha : ∀ v, assign (.Subscript (.Name x p2) (.UnaryOp .USub (.Constant (.int 1) jz p4) p5) p3) F.X.env v = (do
      let recv ← holding [v] (eval (.Name x p2) F.X.env)
      let ix ← holding [v, recv] (eval (.UnaryOp .USub (.Constant (.int 1) jz p4) p5) F.X.env)
      standAt p3
      holding [v, recv, ix] (setItem recv ix v)
      release [v, recv, ix] []) := by intro _; rfl)
    (hs : swapsWithSole [.Subscript (.Name x p2) (.UnaryOp .USub (.Constant (.int 1) jz p4) p5) p3] e pos.line F.X.env = pure false := by rfl) (hw : swappedStores [.Subscript (.Name x p2) (.UnaryOp .USub (.Constant (.int 1) jz p4) p5) p3] e F.X.env = pure none := by rfl)
    (h1 : (assignEach [.Subscript (.Name x p2) (.UnaryOp .USub (.Constant (.int 1) jz p4) p5) p3] F.X.env).map (·.2) = [assign (.Subscript (.Name x p2) (.UnaryOp .USub (.Constant (.int 1) jz p4) p5) p3) F.X.env] := by rfl) : KS F env (.Assign [.Subscript (.Name x p2) (.UnaryOp .USub (.Constant (.int 1) jz p4) p5) p3] e pos) P := fun own σ H k p => by
  have hi : i < env.length := (List.getElem?_eq_some_iff.mp he).1
  obtain ⟨l, ho, h0, g1, h2, vs, e3, r3⟩ := (show EntOk F.G F.hs own σ H i (.ow (olist xs)) from k.ent i _ he)
  subst e3
  refine tS_of (ps_asg peE (pg_sub (pe_var hN hv hdb hcd) (pe_un un_neg pe_int) set_list ha) hs hw h1) (tE_mono (fun v H' ⟨y, s, r, hj, z⟩ => ?_) (h own σ H k p))
  have hlen : vs.length = xs.length := by rw [r3.len, dvs_len]
  have hpos : 0 < xs.length := List.length_pos_iff.mpr hj
  refine ⟨.ref l, g1, 1, rfl, l, vs, -1, xs.length - 1, rfl, rfl, s _ _ h2, ?_, ?_⟩
  · unfold ixN
    rw [if_neg (by decide), if_pos (by omega)]
    congr 1; omega
  · refine ⟨_, _, (k.mono s).chg (i := i) (o := olist (xs.dropLast ++ [y])) hi h0 ⟨_, rfl, ?_⟩, (Fr.of s).trans (Fr.chg h0), z _ rfl⟩
    have e : xs.dropLast ++ [y] = xs.set (xs.length - 1) y := by
      apply List.ext_getElem?
      intro n
      by_cases q : n < xs.length - 1
      · rw [List.getElem?_append_left (by rw [List.length_dropLast]; exact q), List.getElem?_dropLast, if_pos q, List.getElem?_set_ne (by omega)]
      · by_cases q2 : n = xs.length - 1
        · subst q2
          rw [List.getElem?_append_right (by rw [List.length_dropLast]; exact Nat.le_refl _), List.length_dropLast, Nat.sub_self, List.getElem?_set_self (by omega)]; rfl
        · rw [List.getElem?_eq_none_iff.mpr (by rw [List.length_append, List.length_dropLast]; simp only [List.length_cons, List.length_nil]; omega), List.getElem?_eq_none_iff.mpr (by rw [List.length_set]; omega)]
    rw [e]
    unfold dvs
    rw [List.map_set]
    exact RepAll.set (d := dv y) r _ (r3.mono (hid_same s))
end
end Rk

set_option maxHeartbeats 4000000
/-! # A range kept in a name, walked later -/
namespace Rk
open PySem L2 PyProof.Rows
theorem cr_range1 {X : Cx} : CallR X (.type "range") fun vs H Q => ∃ j, vs = [V.int j] ∧ ∀ p, H p = none → Q (.ref p) (upd H p (.rng 0 j)) := fun pins s σ H xs us Q I va ⟨j, e, q⟩ => by
  subst e
  match us, va with
  | [u], .cons r .nil =>
    obtain ⟨t, rfl⟩ : ∃ t, u = Value.int j t := r
    refine call_range_1 ?_
    refine ⟨.ref s.heap.objs.size, upd H s.heap.objs.size (.rng 0 j), ?_, rfl, q _ I.fresh⟩
    exact I.laid (o := .rng 0 j) (fun b u h => Heap.get?_push_of_some _ h) (Nat.le_refl _) ⟨_, _, _, Heap.get?_push_size _ rfl⟩
theorem pi_rngO {X : Cx} {tg e : Expr} {td : TE} (he : PE X e td) : PI X tg e (fun σ H R => td σ H fun x H1 => ∃ (p : Addr) (lo hi : Int), x = .ref p ∧ H1 p = some (.rng lo hi) ∧ (-2 ^ 62 ≤ lo ∧ lo < 2 ^ 62 ∧ -2 ^ 62 ≤ hi ∧ hi < 2 ^ 62) ∧ R (Itr lo (hi - lo).toNat) H1) := by
  refine ⟨fun pins s σ H R I h => ?_⟩
  refine thn (he.run pins s σ H _ I h) fun u s1 ⟨x, H1, J, rx, p, lo, hi, ex, hp, b, q⟩ => ?_
  subst ex
  have eu : u = Value.ref p := rx
  subst eu
  obtain ⟨t, u, v, hr⟩ := J.hok p _ hp
  refine wpAny_pyIter_range hr (small_one b.1 b.2.1 b.2.2.1 b.2.2.2) (pi_one (tk := s1.toks) J _ (turn_range _ lo (hi - lo).toNat) ?_ q)
  rw [rangeSize_nat]
  show Heap.get? _ _ = some _
  rw [Heap.get?_push_size _ rfl]
  simp
/-- a range that is a value -/
structure Rng where
  lo : Int
  hi : Int
instance : Rp Rng where
  rep := fun G H v a => ∃ p, v = .ref p ∧ H p = some (.rng a.lo a.hi)
  mono := fun e ⟨p, h1, h2⟩ => ⟨p, h1, e _ _ h2⟩
section
variable {F : Fx} {env : List Ent} {ex : XP} {a b c e it elt tg : Expr} {es ifs : List Expr} {pos p0 p1 : Pos}
theorem k_rng1 {Q : Rng → Prop} (m : NoGl F.X.mg) (h : KE F env e ex fun n : Int => Q ⟨0, n⟩) (z : Ns F e [] := by rfl) (hg : Gl F.X "range" := by rfl) : KE F env (.Call (.Name "range" p0) [e] [] pos) ex Q :=
  ct cr_range1 (m _ (by simp)) (by decide +kernel) (a_one h z) (fun own σ H0 H vs ds s k r ⟨n, ed, q⟩ => by
    subst ed
    obtain ⟨v, rfl, e1⟩ := rep1 r
    have e1 : v = V.int n := e1
    subst e1
    exact ⟨n, rfl, fun p hp => ⟨⟨0, n⟩, s.trans (same_new hp), ⟨p, rfl, hid_new k (Same.refl H) hp⟩, q⟩⟩) hg (hz := z)
/-- [elt for tg in r if ..], r a range kept in a name -/
theorem q_lcRng {γ : Type} [Rp γ] {scope : Scope} {Q : List γ → Prop} {g : TG} {is : List Nat} {f : Int → List Ent → List Ent} (own0 : List (Str × Nat)) (nd : F.X.N.Nodup) (ok : BlkOk F.X.N F.X.env.scope scope own0)
    (hlen : ifs.length ≤ 1) (htg : ∀ F', Blk F scope F' → Tg F' tg Int g is f) (his : ∀ i ∈ is, i ∈ own0.map (·.2)) (hno : ∀ i ∈ own0.map (·.2), ∀ o, env[i]? ≠ some (.ow o))
    (h : KE F env it ex fun d : Rng => ((-1000000 ≤ d.lo ∧ d.lo ≤ 1000000) ∧ -1000000 ≤ d.hi ∧ d.hi ≤ d.lo + 40000) ∧ ∃ (t : Int → Bool) (v : Int → γ), (∀ F' x, Blk F scope F' → x ∈ span d.lo d.hi → KTs F' (f x (wipeE env (own0.map (·.2)))) ifs fun b => b = t x) ∧
      (∀ F' x, Blk F scope F' → x ∈ span d.lo d.hi → t x = true → KE F' (f x (wipeE env (own0.map (·.2)))) elt noex fun y => y = v x) ∧ Q (((span d.lo d.hi).filter t).map v))
    (hc : F.X.calm = true := by rfl) (hs : ∀ x, foldedSetIterable it F.X.env x = pure x := by intro _; rfl) : KLc F env elt tg it ifs scope ex Q := fun own σ H k p => by
  have onone : ∀ i ∈ own0.map (·.2), own i = none := fun i hi => by
    cases q : own i with
    | none => rfl
    | some p => exact absurd (k.out i p q).choose_spec (hno i hi _)
  refine ⟨_, g, own0, hc, nd, (pi_rngO peE), ok, (fun s H C cl fp => (htg ⟨F.X.blk s H scope (compEnvC scope cl C F.X.env) fp, F.cls, F.hs, F.B⟩ ⟨s, H, C, cl, fp, F.hs, rfl⟩).pg), hlen, hs, fun Q' hq => ?_⟩
  refine tE_mono (fun v0 H1 ⟨d, sm, ⟨l, e1, e2⟩, hb, t, v, ht, hv, hQ⟩ => ⟨l, d.lo, d.hi, e1, hid_of e2, by omega, fun D hD => ?_⟩) (h own σ H k p)
  have len : (span d.lo d.hi).length = (d.hi - d.lo).toNat := span_len _ _
  exact lc_any own0 (J := Itr d.lo (d.hi - d.lo).toNat) (xs := span d.lo d.hi) (fun i H2 s lt => by rw [len] at lt; exact lt) (fun H2 s => by rw [len]; exact Nat.le_refl _)
    (fun i H2 u H' y s hy ⟨eH, ex⟩ => by
      subst eH
      refine ⟨Same.refl _, fun hid _ sm2 => ?_⟩
      have lt : i < (d.hi - d.lo).toNat := by rw [← len]; exact (List.getElem?_eq_some_iff.mp hy).1
      rw [span_get lt] at hy
      have ey : d.lo + (i : Int) = y := Option.some.inj hy
      rw [ex, ← ey]; exact rfl) hlen htg his onone (k.mono sm) sm (by rw [len]; omega) ht hv hQ hq D hD
end
end Rk

set_option maxHeartbeats 4000000
/-! # InvalidLine: an own error with an __init__ of its own, its line -/
namespace Rk
open PySem L2 PyProof.Rows
section
variable {X : Cx} {x : Str} {CK : Addr} {e : Expr} {es : List Expr} {ta : TA} {p1 p2 pos : Pos}
/-- KeepError.__init__(self, ..), found in ValueError -/
theorem pe_keinit {pl : Sem Bool} (hg : Gl X x) (hm : X.mg x = some (.ref CK)) (hga : PySem.W.specialIn X.K (.ref CK) "__getattribute__" = some (some (.builtin "type.__getattribute__"))) (ht : PySem.W.typeIn X.K (.ref CK) = some (.type "type")) (hr : PySem.W.readsIn X.K CK (.type "type") = true)
    (vV : PySem.W.findCls X.K (.ref CK) (.type "type") "__init__" = some (.val (.builtin "ValueError.__init__"))) (ha : PA X (e :: es) ta)
    (hc : eval (.Call (.Attribute (.Name x p1) "__init__" p2) (e :: es) [] pos) X.env = (do
      let o ← eval (.Name x p1) X.env
      standAt p2.atName
      let (g, own) ← holding [o] (getMethod o "__init__" pl)
      callWith pos g own (backTo pos (starEach (e :: es) X.env)) (backToKw pos (keywordEach [] X.env))))
    (he : starEach (e :: es) X.env = (false, eval e X.env) :: starEach es X.env) (hpl : (backTo pos (starEach es X.env)).any (·.1) = false) (hdb : (x == ("__debug__" : Str)) = false) :
    PE X (.Call (.Attribute (.Name x p1) "__init__" p2) (e :: es) [] pos) (tVeI X.K ta) := by
  constructor
  intro pins s σ H Q I h
  refine PySem.W.methodCall_KW (ld_glob I hg hm ?_ hdb) hc
  obtain ⟨m, fr⟩ := I.fr
  refine PySem.W.method_of_cls fr I.ok.mod.kin hga (PySem.W.cls_val fr I.ok.mod.kin ht hr vV (by decide +kernel) (callWith_method1 (thn (ha.run pos pins _ σ H _ (I.tok _) h) ?_) he hpl))
  rintro us s1 ⟨vs, H1, I1, r1, a, C, ws, rfl, hl, T, ea, q⟩
  match us, r1 with
  | _ :: ur, .cons (ra : _ = Value.ref a) rw' =>
    subst ra
    exact oinit_ok T I1 ea (by rw [← Paired.length rw', sizeLine_eq]; omega) fun s' J => ⟨.non, H1, J, rfl, q⟩
end
/-- what the class InvalidLine promises of its __init__ -/
def spIL (K : PySem.W.Frag) : Sp := fun vs H Q _ => ∃ (p C : Addr) (n : Int), vs = [.ref p, .int n] ∧ OexC K C ∧ PySem.W.findIn K (.ref C) "line" = some none ∧ (-1000000 < n ∧ n < 1000000) ∧ H p = some (exo p C none) ∧
  ∀ H2 d, Same (fun a => if a = p then none else H a) H2 → H2 p = some (exo p C (some d)) → H2 d = some (exd d [("line", .int n)]) → H d = none → d ≠ p → Q .non H2
theorem kn_raw {G : Gm} {hs : Addr → Prop} {H : Hp} {ds : List DV} {vs : List V} {N : List Str} (r : RepAll G (Hid hs H) vs ds) (hh : ∀ x, hs x → H x ≠ none) : Rk.Kn G hs H (fun _ => none) (env0 ds N.length) (L2.start N vs) H := kn_start (N := N) hh r
section
variable {F : Fx} {env : List Ent} {ex : XP} {e : Expr} {p0 p1 pos : Pos} {x : Str} {P : Po}
/-- raise InvalidLine(e) -/
theorem s_raiseL {fI : Addr} {fd : FuncData} {k : Nat} {ps : List Str} (T : OexC F.X.K (F.cls 15)) (hl : ∀ n : Nat, F.cls (100 + n) = F.cls 15) (fl : PySem.W.findIn F.X.K (.ref (F.cls 15)) "line" = some none) (iC : PySem.W.findIn F.X.K (.ref (F.cls 15)) "__init__" = some (some (.ref fI))) (tI : PySem.W.typeIn F.X.K (.ref fI) = some (.type "function"))
    (G : FnOk F.X.prog F.X.w F.X.K F.X.mg F.X.base (L2.CX F.X.prog F.X.w) k fI fd ps (spIL F.X.K)) (hr : Room (k + 1) F.X.A) (hb : Binds F.X.K fd ps []) (hm : F.X.mg x = some (.ref (F.cls 15)))
    (h : KE F env e P.ex fun n : Int => (0 ≤ n ∧ n < 1000000) ∧ P.ex env (100 + n.toNat)) (hc : F.X.calm = true := by rfl) (hg : Gl F.X x := by rfl) (z : Ns F e [] := by rfl) (hdb : (x == ("__debug__" : Str)) = false := by decide) :
    KS F env (.Raise (some (.Call (.Name x p0) [e] [] p1)) none pos) P := fun own σ H kn p => by
  obtain ⟨_, W, tk, hw⟩ := id p
  refine tS_of (ps_raise hc tk (pmk_oex (CX := L2.CX F.X.prog F.X.w) T iC tI G hr hb .nil (fun pins σ H s e s' I c => ?_) hg hm (pa_cons peE pa_nil z) hdb z rfl)) ?_
  · obtain ⟨_, _, _, _, _, _, _, _, _, _, _, _, q⟩ := c
    exact q.elim
  refine tE_mono (fun v H1 ⟨n, s, r, ⟨hn, q⟩⟩ => ?_) (h own σ H kn p)
  have r : v = V.int n := r
  subst r
  refine ⟨Nat.le_of_ble_eq_true rfl, fun a ha => ?_⟩
  have ne : ∀ {b o}, H1 b = some o → b ≠ a := fun e => ne_of_none e ha
  refine ⟨a, F.cls 15, n, rfl, T, fl, ⟨by omega, hn.2⟩, upd_same, fun H2 d s2 h1 h2 hd hda => ⟨rfl, d, _, h1, h2, ?_, ?_⟩⟩
  · rw [upd_ne hda] at hd; exact hd
  · rw [upd_ne hda] at hd
    have s3 : Same H1 (upd (del H2 a) d (.xd [("line", V.int n)])) := fun b o e => by
      have nb := ne e
      rw [upd_ne (ne_of_none e hd), del_ne nb]
      refine s2 b o ?_
      show (if b = a then none else upd H1 a _ b) = some o
      rw [if_neg nb, upd_ne nb]; exact e
    have k1 := kn.mono s
    have y := hw env own (100 + n.toNat) (some d) σ _ (k1.mono s3) (Fr.of (s.trans s3)) q (by
      unfold Xd
      rw [if_neg (by omega)]
      refine ⟨d, rfl, ?_⟩
      rw [hid_at (k1.fresh (Same.refl _) hd), upd_same, show (((100 + n.toNat : Nat) : Int) - 100) = n from by omega])
    rw [hl] at y
    exact y
end
end Rk
namespace Rk
open PySem L2 PyProof.Rows
section
variable {F : Fx} {env : List Ent} {e o : Expr} {p0 p1 p2 p3 p4 pos : Pos} {x f : Str}
theorem reps_two {G : Gm} {H : Hp} {vs : List V} {a : V} {t : Str} (r : RepAll G H vs [dv a, dv t]) : vs = [a, .str t] := by
  match vs, r with
  | [u, v], r =>
    have e1 : u = a := r.1
    have e2 : v = V.str t := r.2.1
    rw [e1, e2]
/-- KeepError.__init__(self, text), told raw -/
theorem t_keinit {D : Ends} {σ : L2.St} {H : Hp} {p CK C : Addr} {pl : Sem Bool} (k : F.Kn no_ env σ H) (pt : Port F no_ H noex) (hm : F.X.mg x = some (.ref CK)) (hga : PySem.W.specialIn F.X.K (.ref CK) "__getattribute__" = some (some (.builtin "type.__getattribute__"))) (ht : PySem.W.typeIn F.X.K (.ref CK) = some (.type "type"))
    (hrd : PySem.W.readsIn F.X.K CK (.type "type") = true) (vV : PySem.W.findCls F.X.K (.ref CK) (.type "type") "__init__" = some (.val (.builtin "ValueError.__init__"))) (T : OexC F.X.K C) (hp : H p = some (exo p C none))
    (h : KA F env [o, e] noex fun ds => ∃ t : Str, ds = [dv (V.ref p), dv t]) (q : ∀ H', Same H H' → F.Kn no_ env σ H' → D.nx σ H')
    (hc : eval (.Call (.Attribute (.Name x p1) "__init__" p2) [o, e] [] pos) F.X.env = (do
      let o' ← eval (.Name x p1) F.X.env
      standAt p2.atName
      let (g, own) ← holding [o'] (getMethod o' "__init__" pl)
      callWith pos g own (backTo pos (starEach [o, e] F.X.env)) (backToKw pos (keywordEach [] F.X.env))) := by rfl)
    (hg : Gl F.X x := by rfl) (he : starEach [o, e] F.X.env = (false, eval o F.X.env) :: starEach [e] F.X.env := by rfl) (hpl : (backTo pos (starEach [e] F.X.env)).any (·.1) = false := by rfl) (hdb : (x == ("__debug__" : Str)) = false := by decide) :
    tS F.X (.Expr (.Call (.Attribute (.Name x p1) "__init__" p2) [o, e] [] pos) p4) D σ H := by
  refine tS_of (ps_expr (pe_keinit hg hm hga ht hrd vV peA hc he hpl hdb)) (tA_mono (fun vs H1 ⟨ds, s, r, t, ed⟩ => ?_) (h no_ σ H k pt))
  subst ed
  exact ⟨p, C, [.str t], reps_two r, Nat.le_of_ble_eq_true rfl, T, s _ _ hp, q H1 s (k.mono s)⟩
end
end Rk

set_option maxHeartbeats 4000000
/-! # Texts -/
namespace Rk
open PySem L2 PyProof.Rows
section
variable {F : Fx} {env : List Ent} {ex : XP} {a b c e o : Expr} {es : List Expr} {pos p0 p1 ap : Pos} {n x : Str} {P : Po}
/-- a method of a text without an argument, its answer a scalar -/
theorem k_txt0 {γ : Type} [i : Sc γ] {id : String} {m : Str} {C : Str → Prop} {g : Str → γ} {Q : γ → Prop} (slot : Slot "str" m id) (ty : typeOf (.builtin id) = pure (.type "method_descriptor")) (rule : MtR F.X id (fun x xs H Q => ∃ a, x = .str a ∧ xs = [] ∧ C a ∧ Q (i.v (g a)) H))
    (h : KE F env o ex fun s : Str => C s ∧ @Q (g s)) (hb : attributeBase o m F.X.env (eval o F.X.env) = eval o F.X.env := by rfl) (hl : (ap.endLine == pos.line) = true := by rfl) : @KE F env (.Call (.Attribute o m ap) [] [] pos) ex γ (scRp γ) Q := fun own σ H k p =>
  tE_of (pe_m0 slot ty rule peE hb hl) (tE_mono (fun v H' ⟨s, sm, r, hC, q⟩ => by
    have r : v = V.str s := r
    subst r
    exact ⟨⟨s, rfl⟩, s, rfl, rfl, hC, g s, sm, rfl, q⟩) (h own σ H k p))
/-- with one text as an argument -/
theorem k_txt1 {γ : Type} [i : Sc γ] {id : String} {m : Str} {C : Str → Str → Prop} {g : Str → Str → γ} {Q : γ → Prop} (slot : Slot "str" m id) (ty : typeOf (.builtin id) = pure (.type "method_descriptor")) (rule : MtR F.X id (fun x xs H Q => ∃ a b, x = .str a ∧ xs = [.str b] ∧ C a b ∧ Q (i.v (g a b)) H))
    (h : KE F env o ex fun s : Str => KE F env e ex fun t : Str => C s t ∧ @Q (g s t)) (hs : starEach [e] F.X.env = [(false, eval e F.X.env)] := by rfl) (hb : attributeBase o m F.X.env (eval o F.X.env) = eval o F.X.env := by rfl) (hl : (ap.endLine == pos.line) = true := by rfl) :
    @KE F env (.Call (.Attribute o m ap) [e] [] pos) ex γ (scRp γ) Q := fun own σ H k p =>
  tE_of (pe_m1 slot ty rule peE peE hs hb hl) (tE_mono (fun v H' ⟨s, sm, r, hq⟩ => by
    have r : v = V.str s := r
    subst r
    refine ⟨⟨s, rfl⟩, tE_mono (fun u H2 ⟨t, s2, r2, hC, q⟩ => ?_) (hq own σ H' (k.mono sm) (p.mono sm))⟩
    have r2 : u = V.str t := r2
    subst r2
    exact ⟨s, t, rfl, rfl, hC, g s t, sm.trans s2, rfl, q⟩) (h own σ H k p))
theorem k_isascii {Q : Bool → Prop} (h : KE F env o ex fun s : Str => Q (Txt.isascii s)) (hb : attributeBase o "isascii" F.X.env (eval o F.X.env) = eval o F.X.env := by rfl) (hl : (ap.endLine == pos.line) = true := by rfl) : KE F env (.Call (.Attribute o "isascii" ap) [] [] pos) ex Q :=
  k_txt0 (C := fun _ => True) (g := Txt.isascii) PySem.F.slot_str_isascii PySem.F.type_str_isascii mt_isascii (ke_imp (fun s q => ⟨trivial, q⟩) h) hb hl
theorem k_isdigit {Q : Bool → Prop} (h : KE F env o ex fun s : Str => Q (Txt.isdigit s)) (hb : attributeBase o "isdigit" F.X.env (eval o F.X.env) = eval o F.X.env := by rfl) (hl : (ap.endLine == pos.line) = true := by rfl) : KE F env (.Call (.Attribute o "isdigit" ap) [] [] pos) ex Q :=
  k_txt0 (C := fun _ => True) (g := Txt.isdigit) PySem.F.slot_str_isdigit PySem.F.type_str_isdigit mt_isdigit (ke_imp (fun s q => ⟨trivial, q⟩) h) hb hl
theorem mtr_imp {X : Cx} {id : String} {r r' : V → List V → Hp → VK → Prop} (f : ∀ x xs H Q, r' x xs H Q → r x xs H Q) (h : MtR X id r) : MtR X id r' := fun pins s σ H x xs v us Q I rx rs q => h pins s σ H x xs v us Q I rx rs (f _ _ _ _ q)
theorem k_startswith {Q : Bool → Prop} (h : KE F env o ex fun s : Str => KE F env e ex fun t : Str => Q (Txt.startswith s t)) (hs : starEach [e] F.X.env = [(false, eval e F.X.env)] := by rfl) (hb : attributeBase o "startswith" F.X.env (eval o F.X.env) = eval o F.X.env := by rfl) (hl : (ap.endLine == pos.line) = true := by rfl) :
    KE F env (.Call (.Attribute o "startswith" ap) [e] [] pos) ex Q :=
  k_txt1 (C := fun _ _ => True) (g := Txt.startswith) PySem.F.slot_str_startswith PySem.F.type_str_startswith (mtr_imp (fun x xs H Q ⟨a, b, h1, h2, _, q⟩ => ⟨a, b, h1, h2, q⟩) mt_startswith) (ke_imp (fun s h => ke_imp (fun t q => ⟨trivial, q⟩) h) h) hs hb hl
theorem k_endswith {Q : Bool → Prop} (h : KE F env o ex fun s : Str => KE F env e ex fun t : Str => Q (Txt.endswith s t)) (hs : starEach [e] F.X.env = [(false, eval e F.X.env)] := by rfl) (hb : attributeBase o "endswith" F.X.env (eval o F.X.env) = eval o F.X.env := by rfl) (hl : (ap.endLine == pos.line) = true := by rfl) :
    KE F env (.Call (.Attribute o "endswith" ap) [e] [] pos) ex Q :=
  k_txt1 (C := fun _ _ => True) (g := Txt.endswith) PySem.F.slot_str_endswith PySem.F.type_str_endswith (mtr_imp (fun x xs H Q ⟨a, b, h1, h2, _, q⟩ => ⟨a, b, h1, h2, q⟩) mt_endswith) (ke_imp (fun s h => ke_imp (fun t q => ⟨trivial, q⟩) h) h) hs hb hl
theorem k_removeprefix {Q : Str → Prop} (h : KE F env o ex fun s : Str => KE F env e ex fun t : Str => s.length ≤ sizeLine ∧ Q (Txt.removeprefix s t)) (hs : starEach [e] F.X.env = [(false, eval e F.X.env)] := by rfl) (hb : attributeBase o "removeprefix" F.X.env (eval o F.X.env) = eval o F.X.env := by rfl) (hl : (ap.endLine == pos.line) = true := by rfl) :
    KE F env (.Call (.Attribute o "removeprefix" ap) [e] [] pos) ex Q :=
  k_txt1 (C := fun s _ => s.length ≤ sizeLine) (g := Txt.removeprefix) PySem.F.slot_str_removeprefix PySem.F.type_str_removeprefix mt_removeprefix h hs hb hl
theorem reps_strs {G : Gm} {H : Hp} : ∀ {ys : List Str}, RepAll G H (ys.map V.str) (dvs ys)
  | [] => trivial
  | _ :: _ => ⟨rfl, reps_strs⟩
theorem reps_strs' {G : Gm} {H : Hp} : ∀ {ys : List Str} {vs : List V}, RepAll G H vs (dvs ys) → vs = ys.map V.str
  | [], [], _ => rfl
  | y :: ys, v :: vs, h => by
    have h1 : v = V.str y := h.1
    rw [h1, reps_strs' (ys := ys) h.2]; rfl
/-- text.split(sep): a new list -/
theorem k_split {Q : List Str → Prop} (h : KE F env o ex fun s : Str => KE F env e ex fun t : Str => ((t.length == 0) = false ∧ s.length + 2 ≤ sizeLine) ∧ Q (Txt.split s t)) (hs : starEach [e] F.X.env = [(false, eval e F.X.env)] := by rfl) (hb : attributeBase o "split" F.X.env (eval o F.X.env) = eval o F.X.env := by rfl) (hl : (ap.endLine == pos.line) = true := by rfl) :
    KE F env (.Call (.Attribute o "split" ap) [e] [] pos) ex Q := fun own σ H k p =>
  tE_of (pe_split peE peE hs hb hl) (tE_mono (fun v H' ⟨s, sm, r, hq⟩ => by
    have r : v = V.str s := r
    subst r
    refine ⟨⟨s, rfl⟩, tE_mono (fun u H2 ⟨t, s2, r2, hC, q⟩ => ?_) (hq own σ H' (k.mono sm) (p.mono sm))⟩
    have r2 : u = V.str t := r2
    subst r2
    have st := sm.trans s2
    exact ⟨s, t, rfl, rfl, hC.1, hC.2, fun a ha => ⟨Txt.split s t, st.trans (same_new ha), ⟨a, _, rfl, hid_new k st ha, reps_strs⟩, q⟩⟩) (h own σ H k p))
theorem k_lenT1 {Q : Int → Prop} (m : NoGl F.X.mg) (h : KE F env e ex fun s : Str => s.length ≤ sizeLine ∧ Q (s.length : Int)) (z : Ns F e [] := by rfl) (hg : Gl F.X "len" := by rfl) : KE F env (.Call (.Name "len" p0) [e] [] pos) ex Q :=
  cb call_len_str (m _ (by simp)) PySem.boot_len (a_one h z) (fun own σ H0 H vs ds s k r ⟨x, ed, hl, q⟩ => by
    subst ed
    obtain ⟨v, rfl, e1⟩ := rep1 r
    cases e1
    exact ⟨x, rfl, hl, _, s, rfl, q⟩) hg (hz := z)
theorem k_intS {Q : Int → Prop} (m : NoGl F.X.mg) (h : KE F env e ex fun s : Str => ∃ n, (intText? s = some n ∧ s.length ≤ 640) ∧ Q n) (z : Ns F e [] := by rfl) (hg : Gl F.X "int" := by rfl) : KE F env (.Call (.Name "int" p0) [e] [] pos) ex Q :=
  ct call_int_str (m _ (by simp)) (by decide +kernel) (a_one h z) (fun own σ H0 H vs ds s k r ⟨x, ed, n, hl, q⟩ => by
    subst ed
    obtain ⟨v, rfl, e1⟩ := rep1 r
    cases e1
    exact ⟨x, n, rfl, hl.1, hl.2, _, s, rfl, q⟩) hg (hz := z)
def strI (i : Int) : Str := Str.ofString (toString i)
theorem log_small {i : Int} (h : i.natAbs < 2 ^ 64) : i.natAbs.log2 < 1920 := by
  by_cases z : i.natAbs = 0
  · rw [z]; decide
  · exact (Nat.log2_lt z).mpr (Nat.lt_of_lt_of_le h (Nat.pow_le_pow_right (by decide) (by decide)))
theorem k_strI {Q : Str → Prop} (m : NoGl F.X.mg) (h : KE F env e ex fun i : Int => i.natAbs < 2 ^ 64 ∧ Q (strI i)) (z : Ns F e [] := by rfl) (hg : Gl F.X "str" := by rfl) : KE F env (.Call (.Name "str" p0) [e] [] pos) ex Q :=
  ct call_str_int (m _ (by simp)) (by decide +kernel) (a_one h z) (fun own σ H0 H vs ds s k r ⟨x, ed, hl, q⟩ => by
    subst ed
    obtain ⟨v, rfl, e1⟩ := rep1 r
    cases e1
    exact ⟨x, rfl, log_small hl, _, s, rfl, q⟩) hg (hz := z)
theorem k_addS {Q : Str → Prop} (h : KE F env a ex fun x : Str => KE F env b ex fun y : Str => x.length + y.length ≤ sizeLine ∧ Q (x ++ y)) : KE F env (.BinOp a .Add b pos) ex Q :=
  k_op op_add_str h fun _ _ _ _ _ _ x y s _ r1 r2 q => by cases r1; cases r2; exact ⟨x, y, rfl, rfl, q.1, _, s, rfl, q.2⟩
theorem op_mul_str {X : Cx} : OpR X (binaryOp .Mult) (fun x y H Q => ∃ i j, x = .str i ∧ y = .int j ∧ MulOk i j ∧ Q (.str (Txt.mul i j)) H) := by
  intro pins s σ H x y v u Q I rx ry h
  obtain ⟨i, j, rfl, rfl, hz, q⟩ := h
  obtain ⟨t, rfl⟩ := rx
  obtain ⟨t', rfl⟩ := ry
  exact SB.mul hz fun t' k => ⟨.str (Txt.mul i j), H, I.tok _, ⟨_, rfl⟩, q⟩
theorem k_mulS {Q : Str → Prop} (h : KE F env a ex fun x : Str => KE F env b ex fun y : Int => (x.length ≤ 16 ∧ 0 ≤ y ∧ y ≤ 1000) ∧ Q (Txt.mul x y)) : KE F env (.BinOp a .Mult b pos) ex Q :=
  k_op op_mul_str h fun _ _ _ _ _ _ x y s _ r1 r2 q => by cases r1; cases r2; exact ⟨x, y, rfl, rfl, mulOk_of 16 1000 q.1.1 q.1.2.2 (by omega) (by decide) (by decide), _, s, rfl, q.2⟩
/-- a module's constant, a text -/
theorem k_gstr {i : Str} {Q : Str → Prop} (hm : ∃ t, F.X.mg n = some (.str i t)) (q : Q i) (hg : Gl F.X n := by rfl) (hd : (n == ("__debug__" : Str)) = false := by decide) : KE F env (.Name n pos) ex Q := fun own σ H k p => by
  obtain ⟨t, hm⟩ := hm
  exact tE_of (pe_glob hg hm (v := .str i) ⟨t, rfl⟩ hd) ⟨i, Same.refl H, rfl, q⟩
end
/-! ### what a text tells: two numbers that may be none, a flag that may be none -/
structure Tld where
  a : Option Int
  b : Option Bool
  c : Option Int
def Tld.ds (t : Tld) : List DV := [dv t.a, dv t.b, dv t.c]
instance : Rp Tld := tpRp Tld.ds
def Tld.miss (t : Tld) : Bool := t.a.isNone || t.b.isNone || t.c.isNone
section
variable {F : Fx} {env : List Ent} {ex : XP} {a b c e o : Expr} {es : List Expr} {pos p0 p1 ap : Pos} {n x : Str} {P : Po}
theorem t_noneIn3 {Q : Bool → Prop} {j} (h : KE F env b ex fun t : Tld => Q t.miss) (hm : behindInMarks .In b = false := by with_unfolding_all rfl) : KT F env (.Compare (.Constant .none j p0) [.In] [b] pos) ex Q :=
  t_cmp op_in_seq (k_non (Q := fun _ => KE F env b ex fun t : Tld => Q t.miss) h) (fun _ _ _ _ v u x y s _ r1 r2 q => by
    have r1 : v = V.non := r1
    obtain ⟨l, vs, e1, e2, e3⟩ := r2
    subst r1 e1
    obtain ⟨y1, y2, y3⟩ := y
    match vs, e3 with
    | [u1, u2, u3], e3 =>
      have f1 : u1 = oiV y1 := e3.1
      have f2 : u2 = obV y2 := e3.2.1
      have f3 : u3 = oiV y3 := e3.2.2.1
      subst f1 f2 f3
      refine ⟨l, _, rfl, .inr (SqT.of (hid_of e2)), rfl, ?_, _, ?_, s, q⟩
      · cases y1 <;> cases y2 <;> cases y3 <;> rfl
      · cases y1 <;> cases y2 <;> cases y3 <;> rfl) hm
end
end Rk

set_option maxHeartbeats 4000000
/-! # The written dict of the gates' words; texts with their parts told -/
namespace Rk
open PySem L2 PyProof.Rows
def gateOf (x : Str) : Option Bool := if x = "open" then some false else if x = "shut" then some true else none
def gEnt (h1 h2 : Int) (t1 t2 : Tok) : List DictEntry := [⟨h1, .str "open" t1, .bool false⟩, ⟨h2, .str "shut" t2, .bool true⟩]
structure Gates (w : World) (K : PySem.W.Frag) (D : Addr) : Prop where
  is : ∃ n h1 h2 t1 t2, K.lookup D = some ⟨.type "dict", none, .dict (gEnt h1 h2 t1 t2).toArray n, #[]⟩ ∧ PySem.W.KeysLit w.params (gEnt h1 h2 t1 t2)
  low : (D == sysModules) = false
theorem gates_find {h1 h2 : Int} {t1 t2 : Tok} (x : Str) : (PySem.findBy Value.isStrOf (gEnt h1 h2 t1 t2).toArray x).getD .none = match gateOf x with | none => Value.none | some b => .bool b := by
  unfold PySem.findBy gEnt gateOf
  rw [List.find?_toArray]
  simp only [List.find?, Value.isStrOf]
  by_cases e1 : x = "open"
  · subst e1
    rfl
  · have n1 : (("open" : Str) == x) = false := beq_eq_false_iff_ne.mpr fun z => e1 z.symm
    by_cases e2 : x = "shut"
    · subst e2
      rfl
    · have n2 : (("shut" : Str) == x) = false := beq_eq_false_iff_ne.mpr fun z => e2 z.symm
      simp only [n1, n2, if_neg e1, if_neg e2, Option.map_none, Option.getD_none]
section
variable {X : Cx} {o e : Expr} {apos cpos : Pos} {td ty : TE} {D : Addr}
theorem pe_kget (W : Gates X.w X.K D) (ho : PE X o td) (he : PE X e ty) (m : M1 X o "get" apos e cpos) :
    PE X (.Call (.Attribute o "get" apos) [e] [] cpos) (fun σ H Q => td σ H fun x H1 => x = .ref D ∧ ty σ H1 fun y H2 => ∃ z, y = .str z ∧ Q (obV (gateOf z)) H2) := by
  refine ⟨fun pins s σ H Q I h => ?_⟩
  obtain ⟨⟨n, h1, h2, t1, t2, hl, hk⟩, low⟩ := W
  refine wpAny_Call_method m.base m.few m.line PySem.F.plainAttrs_dict PySem.F.slot_dict_get PySem.F.type_dict_get (thn (ho.run pins s σ H _ I h) fun u s1 ⟨x, H1, I1, rx, ex, q1⟩ => ?_)
  subst ex
  obtain rfl : u = Value.ref D := rx
  have hm := PySem.W.mapOf_K (prog := X.prog) (w := X.w) I1.kIn hl hk
  refine ⟨hm.typeIs, hm.noDict, ?_⟩
  rw [m.trees]
  refine Calls.callWith_builtin rfl (Calls.evalArgs_plain (Calls.spliced_cons (thn (he.run pins s1 σ H1 _ I1 q1) fun iv s2 ⟨y, H2, I2, ry, z, ey, q2⟩ => Calls.spliced_nil ?_)))
  subst ey
  obtain ⟨t, rfl⟩ := (show ∃ t, iv = Value.str z t from ry)
  have hm2 := PySem.W.mapOf_K (prog := X.prog) (w := X.w) I2.kIn hl hk
  refine call_meetsIn PySem.F.slot_dict_get hm2.typeIs PySem.F.entry_dict_get (PySem.F.args_dict_get_2 _ _) (meets_dict_get (strKind X.prog X.w) D (strKind_is X.prog X.w z t) low) ⟨_, hm2, ?_⟩
  refine ⟨obV (gateOf z), H2, I2.tok _, ?_, q2⟩
  rw [gates_find]
  unfold gateOf
  split
  · exact rfl
  · split <;> exact rfl
end
section
variable {F : Fx} {env : List Ent} {ex : XP} {e : Expr} {pos p0 ap : Pos} {n : Str}
theorem k_gates {D : Addr} {Q : Option Bool → Prop} (W : Gates F.X.w F.X.K D) (hm : F.X.mg n = some (.ref D)) (h : KE F env e ex fun s : Str => Q (gateOf s)) (m : M1 F.X (.Name n p0) "get" ap e pos := by exact ⟨rfl, rfl, rfl, rfl⟩) (hg : Gl F.X n := by rfl) (hd : (n == ("__debug__" : Str)) = false := by decide) :
    KE F env (.Call (.Attribute (.Name n p0) "get" ap) [e] [] pos) ex Q := fun own σ H k p =>
  tE_of (pe_kget W (pe_glob hg hm (v := .ref D) rfl hd) peE m) ⟨rfl, tE_mono (fun v H' ⟨s, sm, r, q⟩ => by
    have r : v = V.str s := r
    subst r
    exact ⟨s, rfl, gateOf s, sm, rfl, q⟩) (h own σ H k p)⟩
end
end Rk

set_option maxHeartbeats 4000000
/-! # A caught error that is handed to a def, with or without a dict of its own -/
namespace Rk
open PySem L2 PyProof.Rows
/-- a caught error: its place, its dict -/
structure Exv where
  at_ : Addr
  d : Option Addr
instance : Rp Exv where
  rep := fun G H v x => v = .ref x.at_ ∧ ∀ d, x.d = some d → ∃ l, H d = some (.xd l)
  mono := fun e ⟨h1, h2⟩ => ⟨h1, fun d z => (h2 d z).elim fun l y => ⟨l, e _ _ y⟩⟩
/-- the promise of a def where the object of p stands by -/
def RunP (PP : Program) (w : World) (K : PySem.W.Frag) (mg : Str → Option Value) (base : Heap) (p : Addr × Obj) (k : Nat) (f : Addr) (fd : FuncData) (ps : List Str) (sp : Sp) : Prop :=
  ∀ (A : Around) (outer : List Env) (s : Shared) (H : Hp) (args : Args) (us : List Value) (vs : List V) (Q : VK) (E : XK), L2H.RoomH k A → L2H.PinOk outer H s p → Env0 PP w K mg base A outer s H → us.length = ps.length → BindsTo s fd args (ps.zip us) → Vals vs us → sp vs H Q E →
    codeAny (model PP w) A (.call (.ref f) args) (CR (L2.CX PP w) outer PP w H s Q E) s
section
variable {PP : Program} {w : World} {K : PySem.W.Frag} {mg : Str → Option Value} {base : Heap} {cls : Nat → Addr}
def fxP (P : Program) (w : World) (K : PySem.W.Frag) (mg : Str → Option Value) (base : Heap) (cls : Nat → Addr) (N : List Str) (qual : Str) (sc : Scope) (f : Addr) (cd : Value) (A : Around) (outer : List Env) (s : Shared) (H : Hp) (E : XK) (p : Addr × Obj) (hs : Addr → Prop) : Fx :=
  ⟨L2H.cxH (L2.CX P w) P w K mg base N qual sc f cd A outer s H E p, cls, hs, H⟩
theorem run_p {name qual : Str} {st : Stmt} {f : Addr} {fd : FuncData} {N ps : List Str} {k : Nat} {S : Pm} {p : Addr × Obj} (Fn : Fun K name qual st f fd) (sc : FnScope N ps (defScope st)) (len : ∀ ds r, S ds r → ds.length = ps.length) (good : ∀ ds c, ¬ S ds (.err c))
    (hb : ∀ (cd : Value) (A : Around) (outer : List Env) (s : Shared) (H : Hp) (E : XK) (hs : Addr → Prop) (ds : List DV) (r : Rz), L2H.RoomH k (A.deeper (envOfC qual (defScope st) s.heap.objs.size f cd)) → S ds r →
      KSs (fxP PP w K mg base cls N qual (defScope st) f cd A outer s H E p hs) (env0 ds N.length) (defBody st) { bodyPo r with ex := noex }) : RunP PP w K mg base p (k + 1) f fd ps (spOf K cls S) := by
  obtain ⟨oc, od, kV, doc, pm, an, cd, ct, osl, rfl, lk, hcd⟩ := Fn.ex
  intro A outer s H args us vs Q E hr hpin e0 hlu hbd rv hsp
  obtain ⟨hs, ds, r, hh, rd, hS, q⟩ := hsp
  have z1 : vs.length = ps.length := rv.length.trans hlu
  have old : ∀ b o, base.get? b = some o → s.heap.get? b = some o := fun b o e => (e0.bs b o e).1
  have z2 := e0.mod.kin.keeps old
  have z3 := e0.mod.nolimit.keeps old
  have kinds : ∀ y ∈ ps.zip us, (defScope st).names.lookup y.1 = some .local ∨ ((defScope st).names.lookup y.1 = some .cell ∧ ((cellsFrom (s.heap.objs.size + 1) (defScope st).names []).lookup y.1).isSome = true) := by
    rintro ⟨n, v⟩ m
    rcases sc.par n (List.of_mem_zip m).1 with e | e
    · exact Or.inl e
    · exact Or.inr ⟨e, PySem.W.cellsFrom_some _ _ _ (Or.inl e)⟩
  refine codeAny_call_function hr.depth (z2 _ _ lk) rfl sc.co sc.gen rfl (PySem.W.codeRec_of z2 hcd) (hbd _ _ _ _ (wpAny_newFunctionEnv_cells sc.kind kinds ?_))
  rintro env rfl s1 x
  refine ⟨z3.keeps x.toInCall.keep, codeAny_func ?_⟩
  have J0 : Inv (L2H.cxH (L2.CX PP w) PP w K mg base N qual (defScope st) f cd A outer s H E p) [] (L2.start N vs) H s1 := L2H.inv_startH sc hpin e0 z1 rv x
  have kn := kn_start (N := N) hh rd
  let F0 := fxP PP w K mg base cls N qual (defScope st) f cd A outer s H E p hs
  have pt : Port F0 (fun _ => none) H noex := ⟨passes_of rfl, _, takes_of (E := E) rfl rfl rfl rfl, fun env own' C dd σ H' k' fr e xd => e.elim⟩
  have body := tSs_mono (D := ends F0 (fun _ => none) H { bodyPo r with ex := noex }) (D' := { nx := fun _ H' => Q .non H', rt := Q }) (by
    rintro σ' H' ⟨env', own', k', fr, (e : r = .ok (dv ()))⟩
    subst e; exact q .non H' k'.ex rfl) (by
    rintro v H' ⟨d, sm, rd, (e : r = .ok d)⟩
    subst e; exact q v H' sm rd) (fun _ _ ⟨_, _, _, _, e⟩ => e.elim) (fun _ _ ⟨_, _, _, _, e⟩ => e.elim) (hb cd A outer s H E hs ds r (hr.deeper _) hS _ _ H kn pt)
  refine wpAny_mono ((peSs (X := F0.X)).run [] s1 _ H _ J0 body) ?_ (fun _ _ z => z)
  intro fl s' z
  have give : ∀ {σ' : L2.St} {H' : Hp} {v : V} {u : Value}, Inv (L2H.cxH (L2.CX PP w) PP w K mg base N qual (defScope st) f cd A outer s H E p) [] σ' H' s' → RelV v u → Q v H' → CE outer PP w H s Q u s' := fun J r q => ⟨_, _, J.os, J.bare, J.base, J.hok, r, q⟩
  match fl, z with
  | .ret u, ⟨v, σ', H', J, r, q⟩ => exact give J r q
  | .next, ⟨σ', H', J, q⟩ => exact give (v := .non) (u := .none) J rfl q
  | .brk, ⟨_, _, _, q⟩ => exact q.elim
  | .cont, ⟨_, _, _, q⟩ => exact q.elim
end
/-- .. called -/
theorem pe_callP {X : Cx} {p : Addr × Obj} {k : Nat} {f : Addr} {fd : FuncData} {ps : List Str} {sp : Sp} {x : Str} {q pos : Pos} {e : Expr} {es : List Expr} {t : TA} (hp : p ∈ X.pn) (G : RunP X.prog X.w X.K X.mg X.base p k f fd ps sp) (hl : ∀ vs H Q E, sp vs H Q E → vs.length = ps.length) (hr : L2H.RoomH k X.A) (hg : Gl X x) (hm : X.mg x = some (.ref f)) (hk : PySem.W.keepIn X.K (.ref f) = true) (hb : Binds X.K fd ps [])
    (ha : PA X (e :: es) t) (hdb : (x == ("__debug__" : Str)) = false := by decide) (he : starEach (e :: es) X.env = (false, eval e X.env) :: starEach es X.env := by rfl) (hpl : (backTo pos (starEach es X.env)).any (·.1) = false := by rfl) :
    PE X (.Call (.Name x q) (e :: es) [] pos) (fun σ H Q => t σ H fun vs H1 => sp vs H1 Q (fun _ _ _ => False)) := by
  refine ⟨fun pins s σ H Q I h => ?_⟩
  refine wpAny_Call_Name_kw (ld_glob I hg hm ?_ hdb)
  refine PySem.W.callWith_K (h₀ := X.base) I.ok.mod.kin hk (thn (ha.run pos pins s σ H _ I h) fun us s1 ⟨vs, H1, I1, r, q1⟩ => ⟨I1.kIn, ?_⟩) he hpl
  have hlu : us.length = ps.length := by rw [← r.length]; exact hl _ _ _ _ q1
  have b := hb s1 us I1.kIn (by rw [List.append_nil]; exact hlu)
  rw [List.append_nil] at b
  have P1 := I1.pin p (List.mem_append_left _ hp)
  have hpin : L2H.PinOk X.stack H1 s1 p := ⟨P1.1, P1.2.1, fun hm => (List.mem_cons.mp (I1.stkSub p.1 hm)).elim P1.2.2.1 P1.2.2.2.1, P1.2.2.2.2⟩
  refine wpAny_call (codeAny_mono (G X.A X.stack s1 H1 ⟨us, []⟩ us vs Q (fun _ _ _ => False) hr hpin I1.env0 hlu b r q1) fun r s' hq => ?_)
  match r, hq with
  | .error e, z =>
    obtain ⟨_, _, _, _, _, _, _, _, _, _, _, _, y⟩ := z
    exact y.elim
  | .ok (.ret u), z => exact I1.after z
  | .ok .next, z => exact z.elim
  | .ok .brk, z => exact z.elim
  | .ok .cont, z => exact z.elim
section
variable {K : PySem.W.Frag} {D x : Addr}
theorem kitx_any {ox : Obj} (C : ExcC K D) : PySem.W.KitX K (.ref x) (.ref D) (fun h => ∃ od, PySem.W.InstAt h x ox D od) where
  ty := fun _ _ _ ⟨_, I⟩ => I.type
  it := fun M h X _ => (PySem.W.handS_kitx_exc (x := x) (ox := { cls := .ref D, data := .fields #[] }) C.hg C.hk C.hs C.hd C.ha C.hn C.ht C.hm).it M (h) X |> fun f => by
    obtain ⟨cd, hcd, _⟩ := PySem.W.any_some C.hd
    unfold PySem.W.clsIn at hcd
    split at hcd
    · rename_i ho
      intro A' Q' E' s' k q
      simp only [isType, loadHead]
      exact wpAny_bind (wpAny_loadPart (k _ _ (X _ _ ho)) (wpAny_pure q))
    · cases hcd
  ne := fun h tp dd its n sl X e => (PySem.W.handS_kitx_exc (x := x) (ox := ox) C.hg C.hk C.hs C.hd C.ha C.hn C.ht C.hm).ne h tp dd its n sl X e
  ca := fun {_ _ _ _ _ s} X ⟨od, I⟩ k => PySem.W.kx_classE X I C.hg C.hk C.hs (PySem.W.findObj_dataE (by obtain ⟨cd, hc, _⟩ := PySem.W.any_some C.hd; rw [hc]; rfl) C.ha C.hn C.ht) C.hm k
end
/-- isinstance of it -/
theorem call_isV {X : Cx} {a D : Addr} {oe : Obj} {dd : Option Addr} (hp : (a, oe) ∈ X.pn) (C : ExcC X.K D) (hz : Zc (.ref D) dd oe) (hf : ∃ vs, oe.data = .fields vs) :
    CallR X (.builtin "isinstance") (fun xs H Q => ∃ (c : V) (cv : Value) (b : Bool), xs = [.ref a, c] ∧ (∀ d, dd = some d → ∃ l, H d = some (.xd l)) ∧ (∀ u, RelV c u → u = cv) ∧ PySem.W.kitOne X.K (.ref D) cv = some b ∧ Q (.bl b) H) := by
  rintro pins s σ H xs us Q I r ⟨c, cv, b, rfl, hd, hcv, e, q⟩
  match us, r with
  | [u1, u2], .cons (r1 : u1 = Value.ref a) (.cons r2 .nil) =>
    subst r1
    have e2 := hcv _ r2
    subst e2
    obtain ⟨hget, _⟩ := I.pin (a, oe) (List.mem_append.mpr (.inl hp))
    obtain ⟨vs, hv⟩ := hf
    have J : ∃ od, PySem.W.InstAt s.heap a oe D od := by
      obtain ⟨h1, h2⟩ := hz
      have nc : PySem.W.notCls oe = true := by unfold PySem.W.notCls; rw [hv]
      cases dd with
      | none => exact ⟨none, hget, h1, nc, by rw [h2]; trivial⟩
      | some d =>
        obtain ⟨l, hl⟩ := hd d rfl
        obtain ⟨_, ⟨o, _, _, ho, _⟩, _⟩ := I.hok _ _ hl
        exact ⟨some o, hget, h1, nc, by rw [h2]; exact ho⟩
    exact PySem.W.kia_one (kitx_any C) I.kIn J e (fun z => nomatch z) fun tk => ⟨.bl b, H, I.kept (t' := tk) fun _ _ z => z, rfl, q⟩
section
variable {F : Fx} {env : List Ent} {ex : XP} {a e : Expr} {es : List Expr} {n : Str} {pos p0 p1 : Pos} {q : Addr} {oe : Obj} {dd : Option Addr} {pn : List (Addr × Obj)}
/-- as another datum -/
theorem k_exo {Q : Exv → Prop} (h : KE F env e ex fun x : Exo => Q ⟨x.at_, none⟩) : KE F env e ex Q := fun own σ H k p => tE_mono (fun v H' ⟨x, s, r, z⟩ => ⟨⟨x.at_, none⟩, s, ⟨r, fun d y => nomatch y⟩, z⟩) (h own σ H k p)
theorem k_exl {Q : Exv → Prop} (h : KE F env e ex fun x : Exl => Q ⟨x.at_, some x.d⟩) : KE F env e ex Q := fun own σ H k p => tE_mono (fun v H' ⟨x, s, r, z⟩ => ⟨⟨x.at_, some x.d⟩, s, ⟨r.1, fun d y => by cases y; exact ⟨_, r.2⟩⟩, z⟩) (h own σ H k p)
theorem k_isX {cn ch : Nat} {b : Bool} {t : Str} {Q : Bool → Prop} (hp : (q, oe) ∈ F.X.pn) (C : ExcC F.X.K (F.cls cn)) (hk : PySem.W.kitOne F.X.K (.ref (F.cls cn)) (.ref (F.cls ch)) = some b) (hz : Zc (.ref (F.cls cn)) dd oe) (hf : ∃ vs, oe.data = .fields vs) (m : NoGl F.X.mg) (ht : F.X.mg t = some (.ref (F.cls ch)))
    (h : KE F env a ex fun e : Exv => (e.at_ = q ∧ e.d = dd) ∧ Q b) (hg : Gl F.X "isinstance" := by rfl) (hgt : Gl F.X t := by rfl) (z : Ns F a [.Name t p1] := by rfl) (z2 : Ns F (.Name t p1) [] := by rfl) (hpl : (backTo pos (starEach [.Name t p1] F.X.env)).any (·.1) = false := by rfl) (htd : (t == ("__debug__" : Str)) = false := by decide) :
    KE F env (.Call (.Name "isinstance" p0) [a, .Name t p1] [] pos) ex Q := fun own σ H k p =>
  tE_of (pe_callB (call_isV hp C hz hf) hg (m _ (by simp)) (by decide +kernel) (pa_cons peE (pa_cons (pe_glob (v := .ref (F.cls ch)) hgt ht rfl htd) pa_nil z2) z) (he := z) (hpl := hpl)) (tE_mono (fun v H' ⟨⟨y, yd⟩, s, r, ⟨e1, e2⟩, q1⟩ => by
    have e1 : y = q := e1
    have e2 : yd = dd := e2
    subst e1 e2
    have r1 : v = .ref y := r.1
    subst r1
    exact ⟨.ref (F.cls ch), .ref (F.cls ch), b, rfl, fun d hd => (r.2 d hd).elim fun l z => ⟨l, hid_of z⟩, fun u hu => hu, hk, b, s, rfl, q1⟩) (h own σ H k p))
theorem k_isXT {cn : Nat} {v : Bool} {t : Str} {T : String} {Q : Bool → Prop} (hp : (q, oe) ∈ F.X.pn) (C : ExcC F.X.K (F.cls cn)) (hk : PySem.W.kitOne F.X.K (.ref (F.cls cn)) (.type T) = some v) (hz : Zc (.ref (F.cls cn)) dd oe) (hf : ∃ vs, oe.data = .fields vs) (m : NoGl F.X.mg) (ht : F.X.mg t = none) (hv : bootBuiltins t = some (.type T))
    (h : KE F env a ex fun e : Exv => (e.at_ = q ∧ e.d = dd) ∧ Q v) (hg : Gl F.X "isinstance" := by rfl) (hgt : Gl F.X t := by rfl) (z : Ns F a [.Name t p1] := by rfl) (z2 : Ns F (.Name t p1) [] := by rfl) (hpl : (backTo pos (starEach [.Name t p1] F.X.env)).any (·.1) = false := by rfl) (htn : t ≠ "__name__" := by decide) (htd : (t == ("__debug__" : Str)) = false := by decide) :
    KE F env (.Call (.Name "isinstance" p0) [a, .Name t p1] [] pos) ex Q := fun own σ H k p =>
  tE_of (pe_callB (call_isV hp C hz hf) hg (m _ (by simp)) (by decide +kernel) (pa_cons peE (pa_cons (pe_bltn (v := .ty T) hgt ht hv rfl htn htd) pa_nil z2) z) (he := z) (hpl := hpl)) (tE_mono (fun w H' ⟨⟨y, yd⟩, s, r, ⟨e1, e2⟩, q1⟩ => by
    have e1 : y = q := e1
    have e2 : yd = dd := e2
    subst e1 e2
    have r1 : w = .ref y := r.1
    subst r1
    exact ⟨.ty T, .type T, v, rfl, fun d hd => (r.2 d hd).elim fun l z => ⟨l, hid_of z⟩, fun u hu => hu, hk, v, s, rfl, q1⟩) (h own σ H k p))
theorem roomH_su {k : Nat} (hr : Room k F.X.A) : L2H.RoomH k (F.su q pn).X.A := ⟨hr.dp, hr.un⟩
/-- a def called, the caught error standing by -/
theorem k_callP {α : Type} [Rp α] {Q : α → Prop} {kk : Nat} {f : Addr} {fd : FuncData} {ps : List Str} {S : Pm} (hp : (q, oe) ∈ F.X.pn) (G : RunP F.X.prog F.X.w F.X.K F.X.mg F.X.base (q, oe) kk f fd ps (spOf F.X.K F.cls S)) (len : ∀ ds r, S ds r → ds.length = ps.length) (hr : L2H.RoomH kk F.X.A) (hm : F.X.mg n = some (.ref f)) (hk : PySem.W.keepIn F.X.K (.ref f) = true) (hb : Binds F.X.K fd ps [])
    (h : KA F env (e :: es) ex fun ds => ∃ x : α, S ds (.ok (dv x)) ∧ Q x) (hg : Gl F.X n := by rfl) (hdb : (n == ("__debug__" : Str)) = false := by decide)
    (hz : starEach (e :: es) F.X.env = (false, eval e F.X.env) :: starEach es F.X.env := by rfl) (hpl : (backTo pos (starEach es F.X.env)).any (·.1) = false := by rfl) : KE F env (.Call (.Name n p0) (e :: es) [] pos) ex Q := fun own σ H k p => by
  refine tE_of (pe_callP hp G (fun vs H Q E ⟨hs, ds, r, _, rv, hS, _⟩ => rv.len.trans (len ds r hS)) hr hg hm hk hb peA hdb hz hpl) (tA_mono (fun vs H' ⟨ds, s, r1, x, hS, q⟩ => ?_) (h own σ H k p))
  exact ⟨hd F.hs own, ds, _, Kn.hidden (k.mono s), r1, hS, fun v H2 s2 rd => ⟨x, s.trans s2, rd, q⟩⟩
theorem t_scr {Q : Bool → Prop} (h : KE F env a ex fun xs : Scr => Q (!xs.ns.isEmpty)) (he : ∀ whole, isTrue a F.X.env whole = (do let v ← whole; standAt a.pos; holding [v] (truthy v)) := by intro _; rfl) : KT F env a ex Q := fun own σ H k p =>
  tT_of (pt_truth peE he) (tE_mono (fun v H' ⟨xs, s, ⟨l, e1, e2⟩, q⟩ => ⟨!xs.ns.isEmpty, by
    subst e1
    refine .inl ⟨_, hid_le.seq e2, ?_⟩
    obtain ⟨ns⟩ := xs
    cases ns <;> rfl, s, q⟩) (h own σ H k p))
end
end Rk

set_option maxHeartbeats 4000000
/-! # Objects whose content nobody tells: they may change, and the heap that is told stays -/
namespace Rk
open PySem L2 PyProof.Rows
/-- what may be told otherwise -/
def soft : HO → Prop
  | .lst _ => True
  | .ext _ => True
  | _ => False
section
variable {X : Cx} {pins : List (Addr × Obj)} {σ : L2.St} {H H2 : Hp} {s : Shared}
theorem inv_swap (I : Inv X pins σ H s) (h : ∀ a, H2 a = H a ∨ ((∃ u, H a = some u ∧ soft u) ∧ ∃ u, H2 a = some u ∧ soft u ∧ ObjOk X.prog X.w H2 s.heap a u)) : Inv X pins σ H2 s := by
  have no : ∀ a, H a = none → H2 a = none := fun a e => by
    rcases h a with q | ⟨⟨u, q, _⟩, _⟩
    · rw [q]; exact e
    · rw [e] at q; cases q
  have st : ∀ a u, H a = some u → ¬ soft u → H2 a = some u := fun a u e n => by
    rcases h a with q | ⟨⟨v, q, z⟩, _⟩
    · rw [q]; exact e
    · rw [e] at q; cases q; exact absurd z n
  exact {
    ok := I.ok, os := I.os, bare := I.bare, loc := I.loc, cell := I.cell, len := I.len
    free := no _ I.free
    freeC := fun x c e => no _ (I.freeC x c e)
    pin := fun p hp => by
      obtain ⟨h1, h2, h3⟩ := I.pin p hp
      exact ⟨h1, no _ h2, h3⟩
    base := { I.base with
      free := fun b o e n x => no _ (I.base.free b o e n x)
      tups := fun b xs e => st _ _ (I.base.tups b xs e) (fun z => z)
      frzs := fun b o u e => st _ _ (I.base.frzs b o u e) (fun z => z)
      tbls := fun b ps e => (I.base.tbls b ps e).elim fun m q => ⟨m, st _ _ q (fun z => z)⟩ }
    hok := fun a o e => by
      rcases h a with q | ⟨_, u, q, _, z⟩
      · rw [q] at e
        exact (I.hok a o e).stay (fun b u _ r => r) (fun b r => st _ _ r (fun z => z)) fun b xs r => st _ _ r (fun z => z)
      · rw [q] at e; cases e; exact z }
end
/-- a list of ints, no more than 100 -/
def rndO (l : Addr) : HO := .ext fun h => ∃ (ns : List Int) (its : List Value) (n : Nat), ns.length ≤ 100 ∧ Vals (ns.map V.int) its ∧ h.get? l = some { cls := .type "list", data := .seq its.toArray n }
/-- a list of that one and an int -/
def stO (p l : Addr) : HO := .ext fun h => ∃ (c : Int) (its : List Value) (n : Nat), Vals [V.ref l, V.int c] its ∧ h.get? p = some { cls := .type "list", data := .seq its.toArray n }
def opn (H : Hp) (p l : Addr) (c : Int) (ns : List Int) : Hp := upd (upd H p (.lst [.ref l, .int c])) l (.lst (ns.map V.int))
theorem opn_p {H : Hp} {p l : Addr} {c : Int} {ns : List Int} (h : p ≠ l) : opn H p l c ns p = some (.lst [.ref l, .int c]) := by unfold opn; rw [upd_ne h, upd_same]
theorem opn_l {H : Hp} {p l : Addr} {c : Int} {ns : List Int} : opn H p l c ns l = some (.lst (ns.map V.int)) := upd_same
theorem opn_o {H : Hp} {p l a : Addr} {c : Int} {ns : List Int} (h1 : a ≠ p) (h2 : a ≠ l) : opn H p l c ns a = H a := by unfold opn; rw [upd_ne h2, upd_ne h1]
/-- both stand there -/
structure Rn (H : Hp) (p l : Addr) : Prop where
  ne : p ≠ l
  hp : H p = some (stO p l)
  hl : H l = some (rndO l)
theorem Rn.mono {H H' : Hp} {p l : Addr} (s : Same H H') (r : Rn H p l) : Rn H' p l := ⟨r.ne, s _ _ r.hp, s _ _ r.hl⟩
section
variable {X : Cx} {pins : List (Addr × Obj)} {σ : L2.St} {H H' : Hp} {s : Shared} {p l : Addr}
theorem Rn.open (r : Rn H p l) (I : Inv X pins σ H s) : ∃ c ns, ns.length ≤ 100 ∧ Inv X pins σ (opn H p l c ns) s := by
  obtain ⟨⟨c, its, n, r1, e1⟩, _⟩ := I.hok _ _ r.hp
  obtain ⟨⟨ns, its2, n2, hn, r2, e2⟩, _⟩ := I.hok _ _ r.hl
  refine ⟨c, ns, hn, inv_swap I fun a => ?_⟩
  by_cases ap : a = p
  · subst ap
    exact .inr ⟨⟨_, r.hp, trivial⟩, _, opn_p r.ne, trivial, Nat.le_of_ble_eq_true rfl, its, n, r1, e1⟩
  · by_cases al : a = l
    · subst al
      exact .inr ⟨⟨_, r.hl, trivial⟩, _, opn_l, trivial, by rw [List.length_map]; exact Nat.le_trans hn (by decide), its2, n2, r2, e2⟩
    · exact .inl (opn_o ap al)
/-- the same, told less -/
def shut (H : Hp) (p l : Addr) : Hp := upd (upd H p (stO p l)) l (rndO l)
theorem shut_rn (h : p ≠ l) : Rn (shut H p l) p l := ⟨h, by unfold shut; rw [upd_ne h, upd_same], upd_same⟩
theorem shut_inv {c : Int} {ns : List Int} (h : p ≠ l) (hp : H p = some (.lst [.ref l, .int c])) (hl : H l = some (.lst (ns.map V.int))) (hn : ns.length ≤ 100) (I : Inv X pins σ H s) : Inv X pins σ (shut H p l) s := by
  obtain ⟨_, its, n, r1, e1⟩ := I.hok _ _ hp
  obtain ⟨_, its2, n2, r2, e2⟩ := I.hok _ _ hl
  refine inv_swap I fun a => ?_
  by_cases al : a = l
  · subst al
    refine .inr ⟨⟨_, hl, trivial⟩, _, upd_same, trivial, ⟨ns, its2, n2, hn, r2, e2⟩, ⟨_, e2⟩, ?_⟩
    rintro h1 h2 ⟨ns', its', n', q1, q2, q3⟩ k
    exact ⟨ns', its', n', q1, q2, k _ q3⟩
  · by_cases ap : a = p
    · subst ap
      refine .inr ⟨⟨_, hp, trivial⟩, _, (shut_rn h).hp, trivial, ⟨c, its, n, r1, e1⟩, ⟨_, e1⟩, ?_⟩
      rintro h1 h2 ⟨c', its', n', q2, q3⟩ k
      exact ⟨c', its', n', q2, k _ q3⟩
    · refine .inl ?_
      unfold shut; rw [upd_ne al, upd_ne ap]
/-- opened, changed, shut: all else as it stood -/
theorem shut_same (r : Rn H p l) (h : ∀ a o, a ≠ p → a ≠ l → H a = some o → H' a = some o) : Same H (shut H' p l) := fun a o e => by
  unfold shut
  by_cases al : a = l
  · subst al; rw [upd_same]; rw [r.hl] at e; exact e
  · rw [upd_ne al]
    by_cases ap : a = p
    · subst ap; rw [upd_same]; rw [r.hp] at e; exact e
    · rw [upd_ne ap]; exact h a o ap al e
end
/-- statements over opened things -/
theorem tSs_open {X : Cx} {sts : List Stmt} {D : Ends} {σ : L2.St} {H : Hp} {p l : Addr} (r : Rn H p l)
    (h : ∀ c ns, ns.length ≤ 100 → tSs X sts { nx := fun σ' H' => ∃ (c' : Int) (ns' : List Int), H' p = some (.lst [.ref l, .int c']) ∧ H' l = some (.lst (ns'.map V.int)) ∧ ns'.length ≤ 100 ∧ D.nx σ' (shut H' p l), rt := fun v H' => ∃ (c' : Int) (ns' : List Int), H' p = some (.lst [.ref l, .int c']) ∧ H' l = some (.lst (ns'.map V.int)) ∧ ns'.length ≤ 100 ∧ D.rt v (shut H' p l), bk := fun _ _ => False, ct := fun _ _ => False } σ (opn H p l c ns)) :
    tSs X sts D σ H := fun pins s I => by
  obtain ⟨c, ns, hn, I2⟩ := r.open I
  refine thn (h c ns hn pins s I2) fun f s' z => ?_
  cases f with
  | next => obtain ⟨σ', H', J, c', ns', h1, h2, h3, q⟩ := z; exact ⟨σ', _, shut_inv r.ne h1 h2 h3 J, q⟩
  | ret u => obtain ⟨v, σ', H', J, rv, c', ns', h1, h2, h3, q⟩ := z; exact ⟨v, σ', _, shut_inv r.ne h1 h2 h3 J, rv, q⟩
  | brk => obtain ⟨σ', H', J, q⟩ := z; exact q.elim
  | cont => obtain ⟨σ', H', J, q⟩ := z; exact q.elim
/-- such a thing, as a datum -/
structure Rnd where
  u : Unit := ()
instance : Rp Rnd where
  rep := fun G H v _ => ∃ p l, v = .ref p ∧ Rn H p l
  mono := fun e ⟨p, l, h1, h2⟩ => ⟨p, l, h1, h2.mono e⟩
/-! ### defs with any result of a sort -/
def spAny {α : Type} [Rp α] (K : PySem.W.Frag) (cls : Nat → Addr) (S : List DV → (α → Prop) → Prop) : Sp := fun vs H Q _ => ∃ (hs : Addr → Prop) (ds : List DV) (R : α → Prop), (∀ x, hs x → H x ≠ none) ∧ RepAll ⟨K, cls⟩ (Hid hs H) vs ds ∧ S ds R ∧
  ∀ (x : α) (v : V) (H' : Hp), R x → Same H H' → Rp.rep ⟨K, cls⟩ (Hid hs H') v x → Q v H'
def anyPo {α : Type} [Rp α] (R : α → Prop) : Po := { nx := fun _ => False, rt := fun d => ∃ x : α, d = dv x ∧ R x, bk := fun _ => False, ct := fun _ => False, ex := fun _ _ => False }
section
variable {PP : Program} {w : World} {K : PySem.W.Frag} {mg : Str → Option Value} {base : Heap} {cls : Nat → Addr}
theorem fn_any {α : Type} [Rp α] {name qual : Str} {st : Stmt} {f : Addr} {fd : FuncData} {N ps : List Str} {k : Nat} {S : List DV → (α → Prop) → Prop} (Fn : Fun K name qual st f fd) (sc : FnScope N ps (defScope st)) (len : ∀ ds R, S ds R → ds.length = ps.length)
    (hb : ∀ (cd : Value) (A : Around) (outer : List Env) (s : Shared) (H : Hp) (E : XK) (hs : Addr → Prop) (ds : List DV) (R : α → Prop), Room k (A.deeper (envOfC qual (defScope st) s.heap.objs.size f cd)) → S ds R →
      KSs (fx PP w K mg base cls N qual (defScope st) f cd A outer s H E hs) (env0 ds N.length) (defBody st) (anyPo R)) : FnOk PP w K mg base (L2.CX PP w) (k + 1) f fd ps (spAny K cls S) := by
  refine Fn.okX sc (fun vs H Q E ⟨hs, ds, R, _, rv, hS, _⟩ => by rw [rv.len]; exact len ds R hS) (fun cd A outer s H vs Q E hr ⟨hs, ds, R, hh, rv, hS, q⟩ => ⟨_, peSs, ?_⟩)
  have kn := kn_start (N := N) hh rv
  have pt : Port (fx PP w K mg base cls N qual (defScope st) f cd A outer s H E hs) (fun _ => none) H (anyPo R).ex :=
    ⟨passes_of rfl, _, takes_of (E := E) rfl rfl rfl rfl, fun env own' C dd σ H' k' fr e xd => e.elim⟩
  refine tSs_mono (D := ends (fx PP w K mg base cls N qual (defScope st) f cd A outer s H E hs) (fun _ => none) H (anyPo R)) (fun _ _ ⟨_, _, _, _, e⟩ => e.elim) ?_ (fun _ _ ⟨_, _, _, _, e⟩ => e.elim) (fun _ _ ⟨_, _, _, _, e⟩ => e.elim) (hb cd A outer s H E hs ds R hr hS _ _ H kn pt)
  rintro v H' ⟨d, sm, rd, x, ed, hR⟩
  subst ed
  exact q x v H' hR sm rd
end
section
variable {F : Fx} {env : List Ent} {ex : XP} {e : Expr} {es : List Expr} {p0 p1 pos : Pos} {n : Str} {f : Addr} {fd : FuncData} {ps : List Str} {kk : Nat}
theorem k_callA {α : Type} [Rp α] {Q : α → Prop} {S : List DV → (α → Prop) → Prop} (G : FnOk F.X.prog F.X.w F.X.K F.X.mg F.X.base (L2.CX F.X.prog F.X.w) kk f fd ps (spAny F.X.K F.cls S)) (hr : Room kk F.X.A) (hm : F.X.mg n = some (.ref f)) (hk : PySem.W.keepIn F.X.K (.ref f) = true) (hb : Binds F.X.K fd ps [])
    (h : KA F env (e :: es) ex fun ds => ∃ R, S ds R ∧ ∀ x : α, R x → Q x) (hg : Gl F.X n := by rfl) (hdb : (n == ("__debug__" : Str)) = false := by decide)
    (hz : starEach (e :: es) F.X.env = (false, eval e F.X.env) :: starEach es F.X.env := by rfl) (hpl : (backTo pos (starEach es F.X.env)).any (·.1) = false := by rfl) : KE F env (.Call (.Name n p0) (e :: es) [] pos) ex Q := fun own σ H k p => by
  obtain ⟨pa, W, tk, hw⟩ := id p
  refine tE_of (pe_callS G hr hg hm hk hb (fun σ => passAt tk σ) peA hdb hz hpl) (tA_mono (fun vs H' ⟨ds, s, r1, R, hS, q⟩ => ?_) (h own σ H k p))
  exact ⟨hd F.hs own, ds, R, Kn.hidden (k.mono s), r1, hS, fun x v H2 hx s2 rd => ⟨x, s.trans s2, rd, q x hx⟩⟩
end
end Rk

set_option maxHeartbeats 4000000
namespace Rk
open PySem L2 PyProof.Rows
/-- in the midst of a draw -/
structure TkSt (p l : Addr) (m : Int) (H1 : Hp) (σ : L2.St) (H : Hp) : Prop where
  s0 : σ[0]? = some (some (.ref p))
  s1 : σ[1]? = some (some (.int m))
  len : σ.length = 4
  hp : ∃ c : Int, H p = some (.lst [.ref l, .int c])
  hl : ∃ ns : List Int, H l = some (.lst (ns.map V.int)) ∧ ns.length ≤ 100
  ot : ∀ a o, a ≠ p → a ≠ l → H1 a = some o → H a = some o
end Rk

set_option maxHeartbeats 4000000
/-! # Comprehensions whose tests and items are known but for their sort -/
namespace Rk
open PySem L2 PyProof.Rows
/-- what may come out of a list's items -/
inductive Cmp {α β : Type} (T : α → Bool → Prop) (E : α → β → Prop) : List α → List β → Prop
  | nil : Cmp T E [] []
  | skip {xs ys x} : Cmp T E xs ys → T x false → Cmp T E (xs ++ [x]) ys
  | take {xs ys x y} : Cmp T E xs ys → T x true → E x y → Cmp T E (xs ++ [x]) (ys ++ [y])
theorem Cmp.len {α β : Type} {T : α → Bool → Prop} {E : α → β → Prop} {xs : List α} {ys : List β} (h : Cmp T E xs ys) : ys.length ≤ xs.length := by
  induction h with
  | nil => exact Nat.le_refl _
  | skip _ _ ih => rw [List.length_append]; omega
  | take _ _ _ ih => rw [List.length_append, List.length_append]; simp only [List.length_cons, List.length_nil]; omega
def LcAny {α β : Type} [Rp α] [Rp β] (F : Fx) (own : Nat → Option Addr) (H1 : Hp) (D : Addr) (T : α → Bool → Prop) (E : α → β → Prop) (done : List α) (H2 : Hp) : Prop :=
  Same H1 (fun x => if x = D then none else H2 x) ∧ ∃ acc ys, H2 D = some (.lst acc) ∧ Cmp T E done ys ∧ RepAll F.G (Hid (hd (fun x => F.hs x ∨ x = D) own) H2) acc (dvs ys)
section
variable {F : Fx} {env : List Ent} {ex : XP} {elt it e : Expr} {tg : Expr} {ifs : List Expr} {pos p0 p1 : Pos}
theorem LcAny.same {α β : Type} [Rp α] [Rp β] {own : Nat → Option Addr} {H1 H2 : Hp} {D : Addr} {T : α → Bool → Prop} {E : α → β → Prop} {done : List α} (h : LcAny F own H1 D T E done H2) (hD : H1 D = none) : Same H1 H2 := fun x o e => by
  have ne : x ≠ D := ne_of_none e hD
  have z : (if x = D then none else H2 x) = some o := h.1 x o e
  rw [if_neg ne] at z; exact z
theorem LcAny.start {α β : Type} [Rp α] [Rp β] {own : Nat → Option Addr} {H1 : Hp} {D : Addr} {T : α → Bool → Prop} {E : α → β → Prop} (hD : H1 D = none) : LcAny F own H1 D T E [] (upd H1 D (.lst [])) := by
  refine ⟨fun x o e => ?_, [], [], upd_same, .nil, trivial⟩
  have ne : x ≠ D := ne_of_none e hD
  show (if x = D then none else upd H1 D (.lst []) x) = some o
  rw [if_neg ne, upd_ne ne]; exact e
/-- one turn of a comprehension -/
theorem lca_stepG {α β : Type} [Rp α] [Rp β] {scope : Scope} (own0 : List (Str × Nat)) {g : TG} {is : List Nat} {f : α → List Ent → List Ent} {own : Nat → Option Addr} {σ : L2.St} {H1 H2 : Hp} {D : Addr} {T : α → Bool → Prop} {E : α → β → Prop} {done : List α} {y : α} {u : V}
    (hlen : ifs.length ≤ 1) (htg : ∀ F', Blk F scope F' → Tg F' tg α g is f) (his : ∀ i ∈ is, i ∈ own0.map (·.2)) (onone : ∀ i ∈ own0.map (·.2), own i = none) (k1 : F.Kn own env σ H1) (hD : H1 D = none) (hx : done.length ≤ 40000)
    (ht : ∀ F', Blk F scope F' → KTs F' (f y (wipeE env (own0.map (·.2)))) ifs fun b => T y b) (hv : ∀ F', Blk F scope F' → T y true → KE F' (f y (wipeE env (own0.map (·.2)))) elt noex fun z => E y z)
    (hd2 : Rp.rep F.G (Hid (hd (fun x => F.hs x ∨ x = D) own) H2) u y) (p : LcAny F own H1 D T E done H2) :
    g u (L2.wipe σ (own0.map (·.2))) H2 fun σ2 H2' => L2.wipe σ2 (own0.map (·.2)) = L2.wipe σ (own0.map (·.2)) ∧ uT F scope ifs σ2 H2' fun b H3 =>
      if b = true then uE F scope elt σ2 H3 fun z H4 => ∃ acc, H4 D = some (.lst acc) ∧ acc.length < sizeLine ∧ LcAny F own H1 D T E (done ++ [y]) (upd H4 D (.lst (acc ++ [z]))) else LcAny F own H1 D T E (done ++ [y]) H3 := by
  have s12 := p.same hD
  obtain ⟨s2, acc, ys, hacc, hcm, hr⟩ := p
  have kD : Rk.Kn F.G (fun x => F.hs x ∨ x = D) F.B own env σ H2 := k1.veil s12 hD hacc
  obtain ⟨kw, frw⟩ := Kn.wipe (F := ⟨F.X, F.cls, fun x => F.hs x ∨ x = D, F.B⟩) (show (⟨F.X, F.cls, fun x => F.hs x ∨ x = D, F.B⟩ : Fx).Kn own env σ H2 from kD) (own0.map (·.2))
  refine (htg ⟨F.X.blk F.X.s_0 H1 scope (compEnvC scope [] 0 F.X.env) [], F.cls, fun x => F.hs x ∨ x = D, F.B⟩ ⟨F.X.s_0, H1, 0, [], [], _, rfl⟩).sem y _ _ _ _ H2 u kw (DV.mono (d := dv y) frw hd2) fun own2 σ2 k2 f2 wp kp => ?_
  rw [wipeO_same onone] at kp
  refine ⟨by rw [wp _ his]; exact wipe_twice _, ?_⟩
  have keep : ∀ (s' : Shared) (H0 : Hp) (C : Addr) (cl : List (Str × Addr)) (fp : List Addr) (H3 : Hp), Same H2 H3 → T y true → tE (F.X.blk s' H0 scope (compEnvC scope cl C F.X.env) fp) elt σ2 H3 fun z H4 => ∃ acc, H4 D = some (.lst acc) ∧ acc.length < sizeLine ∧ LcAny F own H1 D T E (done ++ [y]) (upd H4 D (.lst (acc ++ [z]))) := fun s' H0 C cl fp H3 s3 hty => by
    have B' : Blk F scope ⟨F.X.blk s' H0 scope (compEnvC scope cl C F.X.env) fp, F.cls, fun x => F.hs x ∨ x = D, F.B⟩ := ⟨s', H0, C, cl, fp, _, rfl⟩
    refine tE_mono (fun z H4 ⟨w, s4, rw', ew⟩ => ?_) (hv _ B' hty own2 σ2 H3 (k2.mono s3) (noPort B'))
    have s24 : Same H2 H4 := s3.trans s4
    have hD4 : H4 D = some (.lst acc) := s24 _ _ hacc
    have la : acc.length = ys.length := by rw [hr.len, dvs_len]
    have lb : ys.length ≤ 40000 := Nat.le_trans hcm.len hx
    refine ⟨acc, hD4, Nat.lt_of_le_of_lt (by rw [la]; exact lb) (by decide : 40000 < sizeLine), fun x o e => ?_, acc ++ [z], ys ++ [w], upd_same, .take hcm hty ew, ?_⟩
    · have ne : x ≠ D := ne_of_none e hD
      show (if x = D then none else upd H4 D (.lst (acc ++ [z])) x) = some o
      rw [if_neg ne, upd_ne ne]; exact s24 _ _ (s12 _ _ e)
    · have hidD : hd (fun x => F.hs x ∨ x = D) own D := .inl (.inr rfl)
      rw [hid_upd hidD]
      unfold dvs
      rw [List.map_append]
      refine RepAll.app (hr.mono (hid_same s24)) ⟨?_, trivial⟩
      refine DV.mono (d := dv w) (hid_more fun x q => ?_) rw'
      rcases q with q | ⟨i, q⟩
      · exact .inl q
      · rcases kp i x q with z | z
        · rw [onone i (his i z)] at q; cases q
        · exact .inr ⟨i, z⟩
  have skip : ∀ H3 : Hp, Same H2 H3 → T y false → LcAny F own H1 D T E (done ++ [y]) H3 := fun H3 s3 hty => by
    refine ⟨fun x o e => ?_, acc, ys, s3 _ _ hacc, .skip hcm hty, ?_⟩
    · have ne : x ≠ D := ne_of_none e hD
      show (if x = D then none else H3 x) = some o
      rw [if_neg ne]; exact s3 _ _ (s12 _ _ e)
    · exact hr.mono (hid_same s3)
  intro s' H0 C cl fp
  match ifs, hlen, ht with
  | [], _, ht =>
    have B' : Blk F scope ⟨F.X.blk s' H0 scope (compEnvC scope cl C F.X.env) fp, F.cls, fun x => F.hs x ∨ x = D, F.B⟩ := ⟨s', H0, C, cl, fp, _, rfl⟩
    have hty : T y true := ht _ B'
    exact fun s2' H02 C2 cl2 fp2 => keep s2' H02 C2 cl2 fp2 H2 (Same.refl _) hty
  | [c], _, ht =>
    have B' : Blk F scope ⟨F.X.blk s' H0 scope (compEnvC scope cl C F.X.env) fp, F.cls, fun x => F.hs x ∨ x = D, F.B⟩ := ⟨s', H0, C, cl, fp, _, rfl⟩
    refine tT_mono (fun b H3 ⟨s3, eb⟩ => ?_) (ht _ B' own2 σ2 H2 k2 (noPort B'))
    cases b with
    | true => exact fun s2' H02 C2 cl2 fp2 => keep s2' H02 C2 cl2 fp2 H3 s3 eb
    | false => exact skip H3 s3 eb
/-- one turn of a comprehension -/
theorem lca_step {α β : Type} [Rp α] [Rp β] {scope : Scope} (own0 : List (Str × Nat)) {g : TG} {is : List Nat} {f : α → List Ent → List Ent} {own : Nat → Option Addr} {σ : L2.St} {H1 H2 : Hp} {D : Addr} {T : α → Bool → Prop} {E : α → β → Prop} {done : List α} {y : α} {u : V}
    (hlen : ifs.length ≤ 1) (htg : ∀ F', Blk F scope F' → Tg F' tg α g is f) (his : ∀ i ∈ is, i ∈ own0.map (·.2)) (onone : ∀ i ∈ own0.map (·.2), own i = none) (k1 : F.Kn own env σ H1) (hD : H1 D = none) (hx : done.length ≤ 40000)
    (ht : ∀ F', Blk F scope F' → KTs F' (f y (wipeE env (own0.map (·.2)))) ifs fun b => T y b) (hv : ∀ F', Blk F scope F' → T y true → KE F' (f y (wipeE env (own0.map (·.2)))) elt noex fun z => E y z)
    (hd2 : Rp.rep F.G (Hid (hd F.hs own) H1) u y) (p : LcAny F own H1 D T E done H2) :
    g u (L2.wipe σ (own0.map (·.2))) H2 fun σ2 H2' => L2.wipe σ2 (own0.map (·.2)) = L2.wipe σ (own0.map (·.2)) ∧ uT F scope ifs σ2 H2' fun b H3 =>
      if b = true then uE F scope elt σ2 H3 fun z H4 => ∃ acc, H4 D = some (.lst acc) ∧ acc.length < sizeLine ∧ LcAny F own H1 D T E (done ++ [y]) (upd H4 D (.lst (acc ++ [z]))) else LcAny F own H1 D T E (done ++ [y]) H3 := by
  have s12 := p.same hD
  have sD : Same (Hid (hd F.hs own) H1) (Hid (hd (fun x => F.hs x ∨ x = D) own) H2) := fun x o e => by
    have h1 := hid_of e
    have ne : x ≠ D := ne_of_none h1 hD
    have nh : ¬ hd F.hs own x := fun z => by unfold Hid at e; rw [if_pos z] at e; cases e
    rw [hid_at fun z => by
      rcases z with (z | z) | z
      · exact nh (.inl z)
      · exact ne z
      · exact nh (.inr z)]
    exact s12 x o h1
  exact lca_stepG own0 hlen htg his onone k1 hD hx ht hv (DV.mono (d := dv y) sD hd2) p
theorem lca_end {α β : Type} [Rp α] [Rp β] {own : Nat → Option Addr} {σ : L2.St} {H H1 H2 : Hp} {D : Addr} {T : α → Bool → Prop} {E : α → β → Prop} {xs : List α} {Q : List β → Prop} (k1 : F.Kn own env σ H1) (sm : Same H H1) (hD : H1 D = none) (p : LcAny F own H1 D T E xs H2) (hQ : ∀ ys, Cmp T E xs ys → Q ys) :
    ∃ y : List β, Same H H2 ∧ Rp.rep F.G (Hid (hd F.hs own) H2) (V.ref D) y ∧ Q y := by
  have s12 := p.same hD
  have nD : ¬ hd F.hs own D := k1.fresh (Same.refl _) hD
  obtain ⟨s2, acc, ys, hacc, hcm, hr⟩ := p
  refine ⟨_, sm.trans s12, ⟨D, acc, rfl, by rw [hid_at nD]; exact hacc, hr.mono (hid_more fun x z => ?_)⟩, hQ _ hcm⟩
  rcases z with z | z
  · exact .inl (.inl z)
  · exact .inr z
section
variable {α β : Type} [Rp α] [Rp β] {scope : Scope} {Q : List β → Prop} {g : TG} {is : List Nat} {f : α → List Ent → List Ent}
/-- over a list -/
theorem q_lcA (own0 : List (Str × Nat)) (nd : F.X.N.Nodup) (ok : BlkOk F.X.N F.X.env.scope scope own0)
    (hlen : ifs.length ≤ 1) (htg : ∀ F', Blk F scope F' → Tg F' tg α g is f) (his : ∀ i ∈ is, i ∈ own0.map (·.2)) (hno : ∀ i ∈ own0.map (·.2), ∀ o, env[i]? ≠ some (.ow o))
    (h : KE F env it ex fun xs : List α => xs.length ≤ 40000 ∧ ∃ (T : α → Bool → Prop) (E : α → β → Prop), (∀ F' x, Blk F scope F' → x ∈ xs → KTs F' (f x (wipeE env (own0.map (·.2)))) ifs fun b => T x b) ∧
      (∀ F' x, Blk F scope F' → x ∈ xs → T x true → KE F' (f x (wipeE env (own0.map (·.2)))) elt noex fun y => E x y) ∧ ∀ ys, Cmp T E xs ys → Q ys)
    (hc : F.X.calm = true := by rfl) (hs : ∀ x, foldedSetIterable it F.X.env x = pure x := by intro _; rfl) : KLc F env elt tg it ifs scope ex Q := fun own σ H k p => by
  have onone : ∀ i ∈ own0.map (·.2), own i = none := fun i hi => by
    cases q : own i with
    | none => rfl
    | some p => exact absurd (k.out i p q).choose_spec (hno i hi _)
  refine ⟨_, g, own0, hc, nd, (pi_list peE), ok, (fun s H C cl fp => (htg ⟨F.X.blk s H scope (compEnvC scope cl C F.X.env) fp, F.cls, F.hs, F.B⟩ ⟨s, H, C, cl, fp, F.hs, rfl⟩).pg), hlen, hs, fun Q' hq => ?_⟩
  refine tE_mono (fun v0 H1 ⟨xs, sm, ⟨l, vs, e1, e2, e3⟩, hx, T, E, ht, hv, hQ⟩ => ?_) (h own σ H k p)
  have hlv : vs.length = xs.length := by rw [e3.len, dvs_len]
  refine ⟨l, e1, ⟨vs, SqL.of (hid_of e2)⟩, fun D hD => ?_⟩
  have k1 := k.mono sm
  refine lc_list (K := F.X.K) (a := l) (xs := vs) (g := g) (tt := uT F scope ifs) (te := uE F scope elt) (vs := own0.map (·.2)) (σ := σ) (H1 := H1) (D := D) (Qd := fun H' => Q' (.ref D) H')
    (fun i H2 => LcAny F own H1 D T E (xs.take i) H2) (LcAny.start hD) (fun i H2 _ p => SqL.of (p.same hD _ _ (hid_of e2))) ?_ (fun H2 p => hq _ _ (lca_end k1 sm hD (by rw [hlv, List.take_length] at p; exact p) hQ) ⟨D, rfl, same_none sm hD⟩)
  intro i u H2 hu p2
  obtain ⟨d, hd1, hd2⟩ := e3.get' hu
  rw [dvs_get] at hd1
  cases hxi : xs[i]? with
  | none => rw [hxi] at hd1; cases hd1
  | some y =>
    rw [hxi] at hd1
    have ed : dv y = d := Option.some.inj hd1
    subst ed
    have hmem : y ∈ xs := List.mem_of_getElem? hxi
    have tk : xs.take (i + 1) = xs.take i ++ [y] := by rw [List.take_add_one, hxi]; rfl
    rw [tk]
    exact lca_step own0 hlen htg his onone k1 hD (by rw [List.length_take]; omega) (fun F' b => ht F' y b hmem) (fun F' b z => hv F' y b hmem z) hd2 p2
end
section
variable {β : Type} [Rp β] {scope : Scope} {Q : List β → Prop} {g : TG} {is : List Nat} {f : Int → List Ent → List Ent}
theorem lcar_core (own0 : List (Str × Nat)) {own : Nat → Option Addr} {σ : L2.St} {H H1 : Hp} {lo hi : Int} (hlen : ifs.length ≤ 1) (htg : ∀ F', Blk F scope F' → Tg F' tg Int g is f) (his : ∀ i ∈ is, i ∈ own0.map (·.2)) (onone : ∀ i ∈ own0.map (·.2), own i = none)
    (k1 : F.Kn own env σ H1) (sm : Same H H1) (hx : hi - lo ≤ 40000) {T : Int → Bool → Prop} {E : Int → β → Prop} (ht : ∀ F' x, Blk F scope F' → x ∈ span lo hi → KTs F' (f x (wipeE env (own0.map (·.2)))) ifs fun b => T x b)
    (hv : ∀ F' x, Blk F scope F' → x ∈ span lo hi → T x true → KE F' (f x (wipeE env (own0.map (·.2)))) elt noex fun y => E x y) (hQ : ∀ ys, Cmp T E (span lo hi) ys → Q ys) {Q' : VK} (hq : ∀ v H', Rs F own H Q v H' → (∃ p, v = .ref p ∧ H p = none) → Q' v H') (D : Addr) (hD : H1 D = none) :
    ∃ W : Nat → Nat → Hp → Prop, (∃ m, W 0 m (upd H1 D (.lst []))) ∧ ∀ i m H', W i m H' →
      ((Itr lo (hi - lo).toNat).stop i H' ∧ Q' (.ref D) H') ∨ ((Itr lo (hi - lo).toNat).go i H' ∧ ∃ Nx : Hp → Prop, (∀ H'', Nx H'' → ∃ m', m' < m ∧ W (i + 1) m' H'') ∧ ∀ x H'', (Itr lo (hi - lo).toNat).yld i H' x H'' → g x (L2.wipe σ (own0.map (·.2))) H'' fun σ2 H2 => L2.wipe σ2 (own0.map (·.2)) = L2.wipe σ (own0.map (·.2)) ∧ uT F scope ifs σ2 H2 fun b H3 =>
        if b = true then uE F scope elt σ2 H3 fun y H4 => ∃ acc, H4 D = some (.lst acc) ∧ acc.length < sizeLine ∧ Nx (upd H4 D (.lst (acc ++ [y]))) else Nx H3) := by
  refine lc_range (lo := lo) (n := (hi - lo).toNat) (g := g) (tt := uT F scope ifs) (te := uE F scope elt) (vs := own0.map (·.2)) (σ := σ) (H1 := H1) (D := D) (Qd := fun H' => Q' (.ref D) H')
    (fun i H2 => LcAny F own H1 D T E ((span lo hi).take i) H2) (LcAny.start hD) ?_ (fun H2 p => hq _ _ (lca_end k1 sm hD (by rw [List.take_of_length_le (by rw [span_len]; exact Nat.le_refl _)] at p; exact p) hQ) ⟨D, rfl, same_none sm hD⟩)
  intro i H2 hi' p2
  have tk : (span lo hi).take (i + 1) = (span lo hi).take i ++ [lo + (i : Int)] := by rw [List.take_add_one, span_get hi']; rfl
  rw [tk]
  have hmem : lo + (i : Int) ∈ span lo hi := List.mem_of_getElem? (span_get hi')
  exact lca_step own0 hlen htg his onone k1 hD (by rw [List.length_take]; omega) (fun F' b => ht F' _ b hmem) (fun F' b z => hv F' _ b hmem z) rfl p2
/-- over range(hi) -/
theorem q_lcRA1 {p2 p3 : Pos} (own0 : List (Str × Nat)) (nd : F.X.N.Nodup) (m : NoGl F.X.mg) (ok : BlkOk F.X.N F.X.env.scope scope own0)
    (hlen : ifs.length ≤ 1) (htg : ∀ F', Blk F scope F' → Tg F' tg Int g is f) (his : ∀ i ∈ is, i ∈ own0.map (·.2)) (hno : ∀ i ∈ own0.map (·.2), ∀ o, env[i]? ≠ some (.ow o))
    (h : KE F env e ex fun hi : Int => (hi ≤ 40000 ∧ -1000000 < hi) ∧ ∃ (T : Int → Bool → Prop) (E : Int → β → Prop), (∀ F' x, Blk F scope F' → x ∈ span 0 hi → KTs F' (f x (wipeE env (own0.map (·.2)))) ifs fun b => T x b) ∧
      (∀ F' x, Blk F scope F' → x ∈ span 0 hi → T x true → KE F' (f x (wipeE env (own0.map (·.2)))) elt noex fun y => E x y) ∧ ∀ ys, Cmp T E (span 0 hi) ys → Q ys)
    (hc : F.X.calm = true := by rfl) (hg : Gl F.X "range" := by rfl) (z : Ns F e [] := by rfl) (z1 : starEach [e] F.X.env = [(false, eval e F.X.env)] := by rfl)
    (hs : ∀ x, foldedSetIterable (.Call (.Name "range" p2) [e] [] p3) F.X.env x = pure x := by intro _; rfl) : KLc F env elt tg (.Call (.Name "range" p2) [e] [] p3) ifs scope ex Q := fun own σ H k p => by
  have onone : ∀ i ∈ own0.map (·.2), own i = none := fun i hi => by
    cases q : own i with
    | none => rfl
    | some p => exact absurd (k.out i p q).choose_spec (hno i hi _)
  refine ⟨_, g, own0, hc, nd, (pi_range1 hg (m _ (by simp)) (pa_cons peE pa_nil z) z1), ok, (fun s H C cl fp => (htg ⟨F.X.blk s H scope (compEnvC scope cl C F.X.env) fp, F.cls, F.hs, F.B⟩ ⟨s, H, C, cl, fp, F.hs, rfl⟩).pg), hlen, hs, fun Q' hq => ?_⟩
  refine tE_mono (fun u1 H1 ⟨hi, sm, r1, ⟨b0, b1⟩, T, E, ht, hv, hQ⟩ => ?_) (h own σ H k p)
  cases r1
  have z0 : (hi - 0).toNat = hi.toNat := by rw [Int.sub_zero]
  refine ⟨hi, rfl, by omega, by omega, ?_⟩
  have y := lcar_core (lo := 0) (hi := hi) own0 hlen htg his onone (k.mono sm) sm (by omega) ht hv hQ hq
  rw [z0] at y
  exact y
end
end
end Rk

set_option maxHeartbeats 4000000
/-! # The state made; texts cut, walked, sought -/
namespace Rk
open PySem L2 PyProof.Rows
theorem tS_shut {X : Cx} {st : Stmt} {D : Ends} {σ : L2.St} {H : Hp}
    (h : tS X st { nx := fun _ _ => False, rt := fun v H' => ∃ (p l : Addr) (c : Int) (ns : List Int), p ≠ l ∧ H' p = some (.lst [.ref l, .int c]) ∧ H' l = some (.lst (ns.map V.int)) ∧ ns.length ≤ 100 ∧ D.rt v (shut H' p l), bk := fun _ _ => False, ct := fun _ _ => False } σ H) : tS X st D σ H := fun pins s I => by
  refine thn (h pins s I) fun f s' z => ?_
  cases f with
  | next => obtain ⟨σ', H', J, q⟩ := z; exact q.elim
  | ret u => obtain ⟨v, σ', H', J, rv, p, l, c, ns, hn, h1, h2, h3, q⟩ := z; exact ⟨v, σ', _, shut_inv hn h1 h2 h3 J, rv, q⟩
  | brk => obtain ⟨σ', H', J, q⟩ := z; exact q.elim
  | cont => obtain ⟨σ', H', J, q⟩ := z; exact q.elim
theorem reps_ints2 {G : Gm} {H : Hp} : ∀ {ys : List Int}, RepAll G H (ys.map V.int) (dvs ys)
  | [] => trivial
  | _ :: _ => ⟨rfl, reps_ints2⟩
theorem reps_ints' {G : Gm} {H : Hp} : ∀ {ys : List Int} {vs : List V}, RepAll G H vs (dvs ys) → vs = ys.map V.int
  | [], [], _ => rfl
  | y :: ys, v :: vs, h => by
    have h1 : v = V.int y := h.1
    rw [h1, reps_ints' (ys := ys) h.2]; rfl
section
variable {F : Fx} {env : List Ent} {ex : XP} {a b c e o : Expr} {es : List Expr} {pos p0 p1 p2 ap : Pos} {n x : Str} {P : Po}
/-- return [[ints], 0], as a state -/
theorem s_retRnd {j} (h : KEN F env e P.ex fun xs : List Int => xs.length ≤ 100 ∧ P.rt (dv (Rnd.mk ()))) (z : Ns F e [.Constant (.int 0) j p1] := by rfl) (z2 : Ns F (.Constant (.int 0) j p1) [] := by rfl) : KS F env (.Return (some (.List [e, .Constant (.int 0) j p1] p2)) pos) P := fun own σ H k p => by
  refine tS_shut (tS_of (ps_ret (pe_lst (pa_cons peE (pa_cons pe_int pa_nil z2) z))) (tE_mono (fun v H1 ⟨xs, s, ⟨⟨l, vs, e1, e2, e3⟩, l', el, hl⟩, hn, q⟩ => ?_) (h own σ H k p)))
  rw [e1] at el
  cases el
  subst e1
  have e4 := hid_of e2
  have e5 := reps_ints' e3
  subst e5
  refine ⟨Nat.le_of_ble_eq_true rfl, fun a ha => ?_⟩
  have ne : a ≠ l := fun z => by subst z; rw [ha] at e4; cases e4
  have sm : Same H (shut (upd H1 a (.lst [V.ref l, V.int 0])) a l) := fun b u eb => by
    have n1 : b ≠ l := ne_of_none eb hl
    have n2 : b ≠ a := ne_of_none (s _ _ eb) ha
    unfold shut
    rw [upd_ne n1, upd_ne n2, upd_ne n2]
    exact s _ _ eb
  have hl2 : ¬ hd F.hs own l := k.fresh (Same.refl _) hl
  have ha2 : ¬ hd F.hs own a := k.fresh s ha
  have R := shut_rn (H := upd H1 a (.lst [V.ref l, V.int 0])) ne
  refine ⟨a, l, 0, xs, ne, upd_same, by rw [upd_ne (Ne.symm ne)]; exact e4, hn, dv (Rnd.mk ()), k.ex.trans sm, ⟨a, l, rfl, ne, ?_, ?_⟩, q⟩
  · rw [hid_at fun z => ha2 (.inl z)]; exact R.hp
  · rw [hid_at fun z => hl2 (.inl z)]; exact R.hl
/-- script[:n] -/
theorem k_slToScr {Q : List Int → Prop} (h : KE F env a ex fun xs : Scr => KE F env c ex fun j : Int => 0 ≤ j ∧ Q (xs.ns.take j.toNat)) : KE F env (.Subscript a (.Slice none (some c) none p2) pos) ex Q := fun own σ H k p =>
  tE_of (pe_slice sl_list peE po_none (po_some peE)) (two k p h fun v u xs j H' s r1 r2 q => by
    cases r2
    obtain ⟨l, e1, e2⟩ := r1
    have hl : (xs.ns.map V.int).length = xs.ns.length := List.length_map _
    refine ⟨j, rfl, l, _, e1, hid_le.seq e2, fun t ht => ⟨_, s.trans (same_new ht), ?_, q.2⟩⟩
    refine ⟨t, _, rfl, hid_new k s ht, ?_⟩
    have ec : cutV (xs.ns.map V.int) none (some j) = (xs.ns.take j.toNat).map V.int := by
      have ej : (j : Int) = (j.toNat : Int) := by have := q.1; omega
      unfold cutV
      rw [ej, HT.sIx_nat, HT.sIx_none]
      simp only [Int.toNat_natCast, List.drop_zero, Nat.sub_zero]
      rw [List.map_take]
      by_cases g2 : j.toNat ≤ (xs.ns.map V.int).length
      · rw [Nat.min_eq_left g2]
      · rw [Nat.min_eq_right (by omega), List.take_of_length_le (Nat.le_refl _), List.take_of_length_le (by omega)]
    rw [ec]
    exact reps_ints2)
end
end Rk

set_option maxHeartbeats 4000000
/-! # Texts: with their parts told, cut, joined, sought -/
namespace Rk
open PySem L2 PyProof.Rows
section
variable {F : Fx} {env : List Ent} {ex : XP} {a b c e o : Expr} {es : List Expr} {pos p0 p1 p2 ap : Pos} {n x : Str} {P : Po}
/-! ### f-strings -/
def PartsT (F : Fx) (env : List Ent) (ex : XP) (q : Str → Prop) : Str → List Expr → Prop
  | acc, [] => q acc
  | acc, e :: es => KE F env e ex fun z : Str => (acc ++ z).length ≤ sizeLine ∧ PartsT F env ex q (acc ++ z) es
theorem partsT_run {q : Str → Prop} {own : Nat → Option Addr} {σ : L2.St} {H0 : Hp} : ∀ (es : List Expr) (acc : Str) (H : Hp), Same H0 H → F.Kn own env σ H → Port F own H ex → PartsT F env ex q acc es →
    tJs (pjs F.X es) acc σ H fun out H1 => Rs F own H0 q (.str out) H1
  | [], acc, H, s, _, _, h => ⟨acc, s, rfl, h⟩
  | e :: es, acc, H, s, kn, p, h => tE_mono (fun v H' ⟨z, s', r, hz, h'⟩ => by
      cases r
      exact ⟨z, rfl, hz, partsT_run es (acc ++ z) H' (s.trans s') (kn.mono s') (p.mono s') h'⟩) (h own σ H kn p)
theorem k_joinT {q : Str → Prop} {v1 v2 : Expr} {rest : List Expr} (h : PartsT F env ex q Str.empty (v1 :: v2 :: rest)) : KE F env (.JoinedStr (v1 :: v2 :: rest) pos) ex q := fun own σ H k p =>
  tE_of (pe_joined (pj_all _)) (partsT_run _ _ H (Same.refl H) k p h)
theorem k_joinT1 {q : Str → Prop} (h : KE F env e ex q) : KE F env (.JoinedStr [e] pos) ex q := fun own σ H k p =>
  tE_of (pe_joined1 peE) (h own σ H k p)
theorem k_fmtIT {q : Str → Prop} (h : KE F env e ex fun i : Int => i.natAbs < 2 ^ 64 ∧ q (strI i)) : KE F env (.FormattedValue e (-1) none pos) ex q := fun own σ H k p =>
  tE_of (pe_fmt peE) (tE_mono (fun v H' ⟨i, s, r, h1, h2⟩ => by
    cases r
    exact .inr ⟨i, rfl, log_small h1, strI i, s, rfl, h2⟩) (h own σ H k p))
theorem k_fmtST {q : Str → Prop} (h : KE F env e ex fun z : Str => z.length ≤ sizeLine ∧ q z) : KE F env (.FormattedValue e (-1) none pos) ex q := fun own σ H k p =>
  tE_of (pe_fmt peE) (tE_mono (fun v H' ⟨z, s, r, h1, h2⟩ => by
    cases r
    exact .inl ⟨z, rfl, h1, z, s, rfl, h2⟩) (h own σ H k p))
theorem k_litT {s : Str} {j} {q : Str → Prop} (h : q s) : KE F env (.Constant (.str s) j pos) ex q := k_str h
/-! ### ints -/
theorem k_pow {Q : Int → Prop} (h : KE F env a ex fun x : Int => KE F env b ex fun y : Int => (0 ≤ y ∧ y ≤ 1000000 ∧ x.natAbs < 2 ^ 64) ∧ Q (x ^ y.toNat)) : KE F env (.BinOp a .Pow b pos) ex Q :=
  k_op op_pow h fun _ _ _ _ _ _ x y s _ r1 r2 q => by cases r1; cases r2; exact ⟨x, y, rfl, rfl, q.1, _, s, rfl, q.2⟩
/-! ### sep.join(texts) -/
theorem k_joinS {Q : Str → Prop} (h : KE F env o ex fun s : Str => KE F env e ex fun ys : List Str => (ys.map (·.length)).sum + ys.length * s.length ≤ 16777216 ∧ Q (Txt.join s ys)) (hs : starEach [e] F.X.env = [(false, eval e F.X.env)] := by rfl) (hb : attributeBase o "join" F.X.env (eval o F.X.env) = eval o F.X.env := by rfl) (hl : (ap.endLine == pos.line) = true := by rfl) :
    KE F env (.Call (.Attribute o "join" ap) [e] [] pos) ex Q := fun own σ H k p =>
  tE_of (pe_join peE peE hs hb hl) (tE_mono (fun v H' ⟨s, sm, r, hq⟩ => by
    have r : v = V.str s := r
    subst r
    refine ⟨⟨s, rfl⟩, tE_mono (fun u H2 ⟨ys, s2, ⟨l, vs, e1, e2, e3⟩, hC, q⟩ => ?_) (hq own σ H' (k.mono sm) (p.mono sm))⟩
    subst e1
    have e4 := reps_strs' e3
    subst e4
    exact ⟨s, l, ys, rfl, rfl, .inl (SqL.of (hid_of e2)), hC, Txt.join s ys, sm.trans s2, rfl, q⟩) (h own σ H k p))
/-! ### texts cut -/
theorem k_cutTo {Q : Str → Prop} (h : KE F env a ex fun z : Str => KE F env c ex fun j : Int => z.length ≤ sizeLine ∧ Q (cutS z none (some j))) : KE F env (.Subscript a (.Slice none (some c) none p2) pos) ex Q := fun own σ H k p =>
  tE_of (pe_slice sl_str peE po_none (po_some peE)) (two k p h fun v u z j H' s r1 r2 q => by
    cases r1; cases r2
    exact ⟨j, rfl, z, rfl, q.1, _, s, rfl, q.2⟩)
theorem k_cutFrom {Q : Str → Prop} (h : KE F env a ex fun z : Str => KE F env b ex fun i : Int => z.length ≤ sizeLine ∧ Q (cutS z (some i) none)) : KE F env (.Subscript a (.Slice (some b) none none p2) pos) ex Q := fun own σ H k p =>
  tE_of (pe_slice sl_str peE (po_some peE) po_none) (two k p h fun v u z j H' s r1 r2 q => by
    cases r1; cases r2
    exact ⟨j, rfl, z, rfl, q.1, _, s, rfl, q.2⟩)
/-! ### one sign -/
theorem k_ixS {Q : Str → Prop} (h : KE F env a ex fun z : Str => KE F env b ex fun i : Int => ∃ k, (z.length ≤ sizeLine ∧ atI z.cps.toList i = some k) ∧ Q ⟨#[k]⟩) (hs : PlainIx b := by exact fun _ _ => rfl) : KE F env (.Subscript a b pos) ex Q := fun own σ H k p =>
  tE_of (pe_ix ix_str peE peE hs) (two (R := fun v u H' => rIxS v u H' (Rs F own H Q)) k p h fun v u z i H' s r1 r2 q => by
    cases r1; cases r2
    obtain ⟨kk, ⟨h1, h2⟩, q⟩ := q
    exact ⟨z, i, kk, rfl, rfl, h1, h2, _, s, rfl, q⟩)
/-! ### sought -/
def inT (x y : Str) : Bool := !(Builtin.Str.occurrences y x 0 y.length 1).isEmpty
theorem t_inT {Q : Bool → Prop} (h : KE F env a ex fun x : Str => KE F env b ex fun y : Str => Q (inT x y)) (hm : behindInMarks .In b = false := by with_unfolding_all rfl) : KT F env (.Compare a [.In] [b] pos) ex Q :=
  t_cmp op_in_str h (fun _ _ _ _ v u x y s _ r1 r2 q => by cases r1; cases r2; exact ⟨x, y, rfl, rfl, _, rfl, s, q⟩) hm
theorem t_notInT {Q : Bool → Prop} (h : KE F env a ex fun x : Str => KE F env b ex fun y : Str => Q (!inT x y)) (hm : behindInMarks .NotIn b = false := by with_unfolding_all rfl) : KT F env (.Compare a [.NotIn] [b] pos) ex Q :=
  t_cmp op_notin_str h (fun _ _ _ _ v u x y s _ r1 r2 q => by cases r1; cases r2; exact ⟨x, y, rfl, rfl, _, rfl, s, q⟩) hm
theorem in_strs (x : Str) : ∀ ys : List Str, inV (V.str x) (ys.map V.str) = decide (x ∈ ys)
  | [] => rfl
  | y :: ys => by
    have ih := in_strs x ys
    have e : eqV (V.str y) (V.str x) = (y == x) := rfl
    show (eqV (V.str y) (V.str x) || inV (V.str x) (ys.map V.str)) = _
    rw [e, ih]
    by_cases h : x = y
    · subst h; simp
    · rw [beq_eq_false_iff_ne.mpr (Ne.symm h)]; simp [h]
theorem flat_strs2 : ∀ ys : List Str, (ys.map V.str).all flatV = true
  | [] => rfl
  | _ :: ys => by rw [List.map_cons, List.all_cons, flat_strs2 ys]; rfl
theorem t_inSs {Q : Bool → Prop} (h : KE F env a ex fun x : Str => KE F env b ex fun ys : List Str => Q (decide (x ∈ ys))) (hm : behindInMarks .In b = false := by with_unfolding_all rfl) : KT F env (.Compare a [.In] [b] pos) ex Q :=
  t_cmp op_in_seq h (fun _ _ _ _ v u x y s _ r1 r2 q => by
    have r1 : v = V.str x := r1
    obtain ⟨l, vs, e1, e2, e3⟩ := r2
    subst r1 e1
    have e4 := reps_strs' e3
    subst e4
    exact ⟨l, _, rfl, .inl (SqL.of (hid_of e2)), rfl, flat_strs2 y, _, by show V.bl (inV (V.str x) (y.map V.str)) = _; rw [in_strs], s, q⟩) hm
theorem t_notInSs {Q : Bool → Prop} (h : KE F env a ex fun x : Str => KE F env b ex fun ys : List Str => Q (!decide (x ∈ ys))) (hm : behindInMarks .NotIn b = false := by with_unfolding_all rfl) : KT F env (.Compare a [.NotIn] [b] pos) ex Q :=
  t_cmp op_notIn_seq h (fun _ _ _ _ v u x y s _ r1 r2 q => by
    have r1 : v = V.str x := r1
    obtain ⟨l, vs, e1, e2, e3⟩ := r2
    subst r1 e1
    have e4 := reps_strs' e3
    subst e4
    exact ⟨l, _, rfl, .inl (SqL.of (hid_of e2)), rfl, flat_strs2 y, _, by show V.bl (!inV (V.str x) (y.map V.str)) = _; rw [in_strs], s, q⟩) hm
/-! ### the line of a caught error -/
theorem k_line {Q : Int → Prop} {q : Addr} {oe : Obj} {pn : List (Addr × Obj)} {C : Addr} {d : Addr} {m : Int} (T : XfC F.X.K C) (hno : PySem.W.findIn F.X.K (.ref C) "line" = some none) (hz : Zc (.ref C) (some d) oe) (hf : ∃ vs, oe.data = .fields vs)
    (h : KE (F.su q ((q, oe) :: pn)) env e ex fun x : Exl => x = ⟨q, d, m⟩ ∧ Q m) (hb : attributeBase e "line" F.X.env (eval e F.X.env) = eval e F.X.env := by rfl) : KE (F.su q ((q, oe) :: pn)) env (.Attribute e "line" pos) ex Q := fun own σ H k p =>
  tE_of (pe_xf (X := F.X) T hno hz hf peE hb) (tE_mono (fun v H' ⟨x, s, r, ex1, q1⟩ => by
    subst ex1
    exact ⟨r.1, rfl, d, _, .int m, rfl, hid_of r.2, rfl, m, s, rfl, q1⟩) (h own σ H k p))
end
end Rk

set_option maxHeartbeats 4000000
/-! # A comprehension over the signs of a text -/
namespace Rk
open PySem L2 PyProof.Rows
def signs (z : Str) : List Str := z.cps.toList.map fun c => ⟨#[c]⟩
theorem signs_len (z : Str) : (signs z).length = z.length := by
  unfold signs
  rw [List.length_map, Array.length_toList]; rfl
theorem signs_get {z : Str} {i c : Nat} (h : z.cps[i]? = some c) : (signs z)[i]? = some ⟨#[c]⟩ := by
  unfold signs
  rw [List.getElem?_map, Array.getElem?_toList, h]; rfl
theorem lc_strs {z : Str} {g : TG} {tt : TT} {te : TE} {vs : List Nat} {σ : L2.St} {H1 : Hp} {D : Addr} {Qd : Hp → Prop} (Pv : Nat → Hp → Prop) (h0 : Pv 0 (upd H1 D (.lst [])))
    (hs : ∀ i (y : Str) H, (signs z)[i]? = some y → Pv i H → g (.str y) (L2.wipe σ vs) H fun σ2 H2 => L2.wipe σ2 vs = L2.wipe σ vs ∧ tt σ2 H2 fun b H3 =>
      if b = true then te σ2 H3 fun y H4 => ∃ acc, H4 D = some (.lst acc) ∧ acc.length < sizeLine ∧ Pv (i + 1) (upd H4 D (.lst (acc ++ [y]))) else Pv (i + 1) H3) (hd : ∀ H, Pv (signs z).length H → Qd H) :
    ∃ W : Nat → Nat → Hp → Prop, (∃ m, W 0 m (upd H1 D (.lst []))) ∧ ∀ i m H, W i m H →
      ((Its z).stop i H ∧ Qd H) ∨ ((Its z).go i H ∧ ∃ Nx : Hp → Prop, (∀ H', Nx H' → ∃ m', m' < m ∧ W (i + 1) m' H') ∧ ∀ x H', (Its z).yld i H x H' → g x (L2.wipe σ vs) H' fun σ2 H2 => L2.wipe σ2 vs = L2.wipe σ vs ∧ tt σ2 H2 fun b H3 =>
        if b = true then te σ2 H3 fun y H4 => ∃ acc, H4 D = some (.lst acc) ∧ acc.length < sizeLine ∧ Nx (upd H4 D (.lst (acc ++ [y]))) else Nx H3) := by
  have en : (signs z).length = z.cps.size := signs_len z
  refine ⟨fun i m H => m = z.cps.size - i ∧ i ≤ z.cps.size ∧ Pv i H, ⟨z.cps.size, rfl, Nat.zero_le _, h0⟩, ?_⟩
  rintro i m H ⟨rfl, hi, p⟩
  by_cases hlt : i < z.cps.size
  · refine .inr ⟨hlt, Pv (i + 1), fun H' p' => ⟨z.cps.size - (i + 1), by omega, rfl, hlt, p'⟩, fun x H' y => ?_⟩
    obtain ⟨e, c, hc, ex⟩ := y
    subst e ex
    exact hs i _ _ (signs_get hc) p
  · have e : i = z.cps.size := by omega
    subst e
    exact .inl ⟨Nat.le_refl _, hd H (by rw [en]; exact p)⟩
section
variable {F : Fx} {env : List Ent} {ex : XP} {elt it e : Expr} {tg : Expr} {ifs : List Expr} {pos p0 p1 : Pos}
variable {β : Type} [Rp β] {scope : Scope} {Q : List β → Prop} {g : TG} {is : List Nat} {f : Str → List Ent → List Ent}
theorem q_lcTx (own0 : List (Str × Nat)) (nd : F.X.N.Nodup) (ok : BlkOk F.X.N F.X.env.scope scope own0)
    (hlen : ifs.length ≤ 1) (htg : ∀ F', Blk F scope F' → Tg F' tg Str g is f) (his : ∀ i ∈ is, i ∈ own0.map (·.2)) (hno : ∀ i ∈ own0.map (·.2), ∀ o, env[i]? ≠ some (.ow o))
    (h : KE F env it ex fun z : Str => z.length ≤ 40000 ∧ ∃ (t : Str → Bool) (v : Str → β), (∀ F' x, Blk F scope F' → x ∈ signs z → KTs F' (f x (wipeE env (own0.map (·.2)))) ifs fun b => b = t x) ∧
      (∀ F' x, Blk F scope F' → x ∈ signs z → t x = true → KE F' (f x (wipeE env (own0.map (·.2)))) elt noex fun y => y = v x) ∧ Q (((signs z).filter t).map v))
    (hc : F.X.calm = true := by rfl) (hs : ∀ x, foldedSetIterable it F.X.env x = pure x := by intro _; rfl) : KLc F env elt tg it ifs scope ex Q := fun own σ H k p => by
  have onone : ∀ i ∈ own0.map (·.2), own i = none := fun i hi => by
    cases q : own i with
    | none => rfl
    | some p => exact absurd (k.out i p q).choose_spec (hno i hi _)
  refine ⟨_, g, own0, hc, nd, (pi_str peE), ok, (fun s H C cl fp => (htg ⟨F.X.blk s H scope (compEnvC scope cl C F.X.env) fp, F.cls, F.hs, F.B⟩ ⟨s, H, C, cl, fp, F.hs, rfl⟩).pg), hlen, hs, fun Q' hq => ?_⟩
  refine tE_mono (fun v0 H1 ⟨z, sm, r1, hx, t, v, ht, hv, hQ⟩ => ?_) (h own σ H k p)
  have r1 : v0 = V.str z := r1
  subst r1
  refine ⟨z, rfl, fun D hD => ?_⟩
  have k1 := k.mono sm
  refine lc_strs (z := z) (g := g) (tt := uT F scope ifs) (te := uE F scope elt) (vs := own0.map (·.2)) (σ := σ) (H1 := H1) (D := D) (Qd := fun H' => Q' (.ref D) H')
    (fun i H2 => LcAt F own H1 D t v ((signs z).take i) H2) (LcAt.start hD) ?_ (fun H2 p => hq _ _ (lc_end k1 sm hD (by rw [List.take_length] at p; exact p) hQ) ⟨D, rfl, same_none sm hD⟩)
  intro i y H2 hyi p2
  have hmem : y ∈ signs z := List.mem_of_getElem? hyi
  have tk : (signs z).take (i + 1) = (signs z).take i ++ [y] := by rw [List.take_add_one, hyi]; rfl
  rw [tk]
  exact lc_step own0 hlen htg his onone k1 hD (by rw [List.length_take, signs_len]; omega) (fun F' b => ht F' y b hmem) (fun F' b z => hv F' y b hmem z) rfl p2
end
theorem dp_strs {G : Gm} {H : Hp} : ∀ {xs : List Str} {vs : List V}, RepAll G H vs (dvs xs) → DpAll G.K H vs (xs.map PyData.str)
  | [], [], _ => .nil
  | x :: xs, v :: vs, h => by
    have e : v = V.str x := h.1
    subst e
    exact .cons (.str x) (dp_strs h.2)
theorem lay_strs {xs : List Str} (h : xs.all PyData.strOk = true) : SeqAt.shaped (.list (xs.map PyData.str)) = true := by
  unfold SeqAt.shaped
  rw [Bool.and_eq_true]
  refine ⟨?_, ?_⟩
  · show PyData.canLayAll0 (xs.map PyData.str) = true
    rw [canLayAll_strs']; exact h
  · refine decide_eq_true ?_
    have e : ∀ ys : List Str, PyData.depthAll (ys.map PyData.str) = 0 := fun ys => by
      induction ys with
      | nil => rfl
      | cons y ys ih => show max 0 (PyData.depthAll (ys.map PyData.str)) = 0; rw [ih]; rfl
    show PyData.depthAll (xs.map PyData.str) + 1 ≤ 64
    rw [e]; decide
theorem eqv_strs : ∀ xs ys : List Str, PyData.eqv (.list (xs.map PyData.str)) (.list (ys.map PyData.str)) = decide (xs = ys)
  | [], [] => rfl
  | [], _ :: _ => rfl
  | _ :: _, [] => rfl
  | x :: xs, y :: ys => by
    have ih := eqv_strs xs ys
    show ((x == y) && PyData.eqv (.list (xs.map PyData.str)) (.list (ys.map PyData.str))) = _
    rw [ih]
    by_cases e : x = y
    · subst e; simp
    · rw [beq_eq_false_iff_ne.mpr e, decide_eq_false fun z => e (List.cons.inj z).1]; rfl
/-- lists of texts compared -/
theorem t_eqSs {F : Fx} {env : List Ent} {ex : XP} {a b : Expr} {pos : Pos} {Q : Bool → Prop} (hu : F.X.A.units + 64 < cLine) (h : KE F env a ex fun xs : List Str => KE F env b ex fun ys : List Str => (xs.all PyData.strOk = true ∧ ys.all PyData.strOk = true) ∧ Q (decide (xs = ys))) : KT F env (.Compare a [.Eq] [b] pos) ex Q :=
  t_cmp (op_eqD hu) h (fun _ _ _ _ v u x y s _ r1 r2 q => by
    obtain ⟨l1, v1, e1, g1, h1⟩ := r1
    obtain ⟨l2, v2, e2, g2, h2⟩ := r2
    subst e1 e2
    exact ⟨.list (x.map PyData.str), .list (y.map PyData.str), .lst (SqL.of (hid_of g1)) (dp_strs (h1.mono hid_le)), .lst (SqL.of (hid_of g2)) (dp_strs (h2.mono hid_le)), lay_strs q.1.1, lay_strs q.1.2, _, by rw [eqv_strs], s, q.2⟩) (nomark _)
end Rk

set_option maxHeartbeats 4000000
/-! # Lists spread, cut behind, None in them -/
namespace Rk
open PySem L2 PyProof.Rows
section
variable {F : Fx} {env : List Ent} {ex : XP} {a b c e o : Expr} {es : List Expr} {pos p0 p1 p2 ap : Pos} {n x : Str} {P : Po}
/-- *xs among the items -/
theorem a_star {α : Type} [Rp α] {Q : List DV → Prop} (h : KE F env e ex fun xs : List α => KA F env es ex fun ds => Q (dvs xs ++ ds)) (hs : starEach (.Starred e p0 :: es) F.X.env = (true, eval e F.X.env) :: starEach es F.X.env := by rfl) : KA F env (.Starred e p0 :: es) ex Q := fun own σ H k p =>
  tA_of (StX.pa_star peE peA hs) (tE_mono (fun v H1 ⟨xs, s, ⟨l, vs, e1, e2, e3⟩, q⟩ => ⟨l, vs, e1, .inr (SqL.of (hid_of e2)), tA_mono (fun ys H2 ⟨ds, s2, r2, q2⟩ => ⟨_, s.trans s2, (e3.mono (hid_same s2)).app r2, q2⟩) (q own σ H1 (k.mono s) (p.mono s))⟩) (h own σ H k p))
/-- xs[:-1] -/
theorem k_slButLast {α : Type} [Rp α] {Q : List α → Prop} {p3 p4 : Pos} {j} (h : KE F env a ex fun xs : List α => Q xs.dropLast) : KE F env (.Subscript a (.Slice none (some (.UnaryOp .USub (.Constant (.int 1) j p3) p4)) none p2) pos) ex Q := fun own σ H k p =>
  tE_of (pe_slice sl_list peE po_none (po_some (pe_un un_neg pe_int))) (tE_mono (fun v H1 ⟨xs, s, ⟨l, vs, e1, e2, e3⟩, q⟩ => by
    refine ⟨(1 : Int), rfl, (-1 : Int), rfl, l, vs, e1, SqL.of (hid_of e2), ?_⟩
    intro t ht
    refine ⟨xs.dropLast, s.trans (same_new ht), ?_, q⟩
    have hl : vs.length = xs.length := by rw [e3.len, dvs_len]
    have ec : cutV vs none (some (-1)) = vs.take (vs.length - 1) := by
      have e1 : HT.sIx vs.length vs.length (some (-1)) = vs.length - 1 := by
        show (if (-1 : Int) < 0 then ((-1 : Int) + (vs.length : Int)).toNat else min (-1 : Int).toNat vs.length) = _
        rw [if_pos (by decide)]
        omega
      unfold cutV
      rw [HT.sIx_none, e1]
      simp only [List.drop_zero, Nat.sub_zero]
    rw [ec, hl]
    refine ⟨t, _, rfl, hid_new k s ht, ?_⟩
    have z := (e3.take (xs.length - 1)).mono (hid_same (same_new (o := HO.lst (vs.take (xs.length - 1))) ht))
    unfold dvs at z
    rw [← List.map_take, ← List.dropLast_eq_take] at z
    exact z) (h own σ H k p))
/-! ### None in a list of numbers that may be none -/
theorem in_none : ∀ ys : List (Option Int), inV V.non (ys.map oiV) = ys.any (·.isNone)
  | [] => rfl
  | y :: ys => by
    have ih := in_none ys
    show (eqV (oiV y) V.non || inV V.non (ys.map oiV)) = _
    rw [ih]
    cases y <;> rfl
theorem flat_ois : ∀ ys : List (Option Int), (ys.map oiV).all flatV = true
  | [] => rfl
  | y :: ys => by
    rw [List.map_cons, List.all_cons, flat_ois ys]
    cases y <;> rfl
theorem reps_ois' {G : Gm} {H : Hp} : ∀ {ys : List (Option Int)} {vs : List V}, RepAll G H vs (dvs ys) → vs = ys.map oiV
  | [], [], _ => rfl
  | y :: ys, v :: vs, h => by
    have h1 : v = oiV y := h.1
    rw [h1, reps_ois' (ys := ys) h.2]; rfl
theorem t_noneInL {Q : Bool → Prop} {j} (h : KE F env b ex fun ys : List (Option Int) => Q (ys.any (·.isNone))) (hm : behindInMarks .In b = false := by with_unfolding_all rfl) : KT F env (.Compare (.Constant .none j p0) [.In] [b] pos) ex Q :=
  t_cmp op_in_seq (k_non (Q := fun _ => KE F env b ex fun ys : List (Option Int) => Q (ys.any (·.isNone))) h) (fun _ _ _ _ v u x y s _ r1 r2 q => by
    have r1 : v = V.non := r1
    obtain ⟨l, vs, e1, e2, e3⟩ := r2
    subst r1 e1
    have e4 := reps_ois' e3
    subst e4
    exact ⟨l, _, rfl, .inl (SqL.of (hid_of e2)), rfl, flat_ois y, _, by show V.bl (inV V.non (y.map oiV)) = _; rw [in_none], s, q⟩) hm
theorem k_count {Q : Int → Prop} (h : KE F env o ex fun s : Str => KE F env e ex fun t : Str => Q (Txt.count s t)) (hs : starEach [e] F.X.env = [(false, eval e F.X.env)] := by rfl) (hb : attributeBase o "count" F.X.env (eval o F.X.env) = eval o F.X.env := by rfl) (hl : (ap.endLine == pos.line) = true := by rfl) :
    KE F env (.Call (.Attribute o "count" ap) [e] [] pos) ex Q :=
  k_txt1 (C := fun _ _ => True) (g := fun s t => (Txt.count s t : Int)) PySem.F.slot_str_count PySem.F.type_str_count (mtr_imp (fun x xs H Q ⟨a, b, h1, h2, _, q⟩ => ⟨a, b, h1, h2, q⟩) mt_count) (ke_imp (fun s h => ke_imp (fun t q => ⟨trivial, q⟩) h) h) hs hb hl
end
section
variable {F : Fx} {env : List Ent} {e : Expr} {pos p0 p1 : Pos} {n : Str} {f : Addr} {fd : FuncData} {ps : List Str} {kk : Nat} {S : List DV → Ri → Prop}
/-- C(*xs) -/
theorem k_makeStar {α β : Type} [Rp β] {num : Nat} {fs : α → List (Str × DV)} {ex : XP} {Q : α → Prop} (M : Mk F.X.K (F.cls num) f) (G : FnOk F.X.prog F.X.w F.X.K F.X.mg F.X.base (L2.CX F.X.prog F.X.w) kk f fd ps (spInit F.X.K F.cls num S)) (hr : Room (kk + 1) F.X.A) (hm : F.X.mg n = some (.ref (F.cls num))) (hb : Binds F.X.K fd ps [])
    (h : KE F env e ex fun xs : List β => ∃ r, S (dvs xs) r ∧ GotI fs env ex Q r) (hg : Gl F.X n := by rfl) (hdb : (n == ("__debug__" : Str)) = false := by decide)
    (hst : starEach [.Starred e p1] F.X.env = [(true, eval e F.X.env)] := by rfl) : @KE F env (.Call (.Name n p0) [.Starred e p1] [] pos) ex α (obRp num fs) Q := fun own σ H k p pins s I => by
  obtain ⟨pa, W, tk, hw⟩ := id p
  refine wpAny_Call_Name_kw (ld_glob I hg hm ?_ hdb)
  refine PySem.W.callWith_S (h₀ := F.X.base) I.ok.mod.kin M.kp (thn (h own σ H k p pins s I) fun v s0 ⟨y0, H1, J0, ry, xs, sm, ⟨l, vs, e1, e2, rr⟩, r, hS, q⟩ => ?_) hst
  subst e1
  obtain rfl : v = Value.ref l := ry
  refine StX.star_any J0 (.inr (SqL.of (hid_of e2))) fun us s1 J rv => ⟨J.kIn, ?_⟩
  refine run_makeS (E := WE W) M G hr hb (passAt tk σ) J rv fun y dy ny ndy ne => ?_
  have kn := k.mono sm
  have fy : ¬ hd F.hs own y := kn.fresh (Same.refl _) ny
  have s1' : Same H1 (upd (upd H1 dy (.own y)) y (.ins (F.cls num) dy [])) := fun b o eb => by
    rw [upd_ne (ne_of_none eb ny), upd_ne (ne_of_none eb ndy)]; exact eb
  have hidy : Same H1 (Hid (fun x => x = y) (upd (upd H1 dy (.own y)) y (.ins (F.cls num) dy []))) := fun b o eb => by
    have hb' : b ≠ y := ne_of_none eb ny
    rw [hid_at (hs := fun x => x = y) hb']; exact s1' b o eb
  refine ⟨hd F.hs own, y, dy, vs, dvs xs, r, rfl, upd_same, fun x hx => stays s1' (Kn.hidden kn x hx), fy, rr.mono fun b o eb => ?_, hS, ?_⟩
  · have h1 := hid_of eb
    have hb' : b ≠ y := ne_of_none h1 ny
    have nh : ¬ hd F.hs own b := fun z => by unfold Hid at eb; rw [if_pos z] at eb; cases eb
    rw [hid_at fun z => z.elim nh hb']
    exact s1' b o h1
  · cases r with
    | ok g =>
      obtain ⟨o, eo, q⟩ := q
      subst eo
      intro kvs dx' H' s' hy rf
      refine ⟨rfl, o, sm.trans (hidy.trans s'), ⟨y, dx', kvs, rfl, ?_, rf.mono (hid_more fun x z => .inl z)⟩, q⟩
      rw [hid_at fy]; exact hy
    | err cc => exact fun dd H' s' x => hw env own cc dd σ H' (kn.mono (hidy.trans s')) (Fr.of (sm.trans (hidy.trans s'))) q x
end
section
variable {F : Fx} {env : List Ent} {ex : XP} {a c : Expr} {pos p2 : Pos}
/-- t[:j] of a tuple, not the whole -/
theorem k_slTup {α β : Type} [Rp β] {ds : α → List DV} {Q : Tl β → Prop} (h : @KE F env a ex α (tpRp ds) fun x : α => KE F env c ex fun j : Int => (0 ≤ j ∧ j < ((ds x).length : Int)) ∧ ∃ y : Tl β, dvs y.xs = (ds x).take j.toNat ∧ Q y) :
    KE F env (.Subscript a (.Slice none (some c) none p2) pos) ex Q := fun own σ H k p =>
  tE_of (pe_slice sl_tup peE po_none (po_some peE)) (tE_mono (fun v H1 ⟨x, s, ⟨l, vs, e1, e2, e3⟩, q0⟩ => by
    refine tE_mono (fun u H2 ⟨j, s2, r2, hj, y, ey, q⟩ => ?_) (q0 own σ H1 (k.mono s) (p.mono s))
    have r2 : u = V.int j := r2
    subst r2
    have st : Same H H2 := s.trans s2
    have hl : vs.length = (ds x).length := e3.len
    have ej : (j : Int) = (j.toNat : Int) := by omega
    have x1 : HT.sIx vs.length vs.length (some j) = j.toNat := by rw [ej, HT.sIx_nat, Int.toNat_natCast, Nat.min_eq_left (by omega)]
    refine ⟨j, rfl, l, vs, e1, SqT.of (s2 _ _ (hid_of e2)), fun z => ?_, fun t ht => ⟨y, st.trans (same_new ht), ?_, q⟩⟩
    · rw [x1] at z; omega
    · have ec : cutV vs none (some j) = vs.take j.toNat := by
        unfold cutV
        rw [HT.sIx_none, x1]
        simp only [List.drop_zero, Nat.sub_zero]
      rw [ec]
      refine ⟨t, _, rfl, hid_new k st ht, ?_⟩
      show RepAll _ _ _ (dvs y.xs)
      rw [ey]
      exact (e3.take _).mono (hid_same (s2.trans (same_new ht)))) (h own σ H k p))
end
theorem k_eqSs {F : Fx} {env : List Ent} {ex : XP} {a b : Expr} {pos : Pos} {Q : Bool → Prop} (hu : F.X.A.units + 64 < cLine) (h : KE F env a ex fun xs : List Str => KE F env b ex fun ys : List Str => (xs.all PyData.strOk = true ∧ ys.all PyData.strOk = true) ∧ Q (decide (xs = ys))) : KE F env (.Compare a [.Eq] [b] pos) ex Q :=
  k_cmp (op_eqD hu) h (fun _ _ _ _ v u x y s _ r1 r2 q => by
    obtain ⟨l1, v1, e1, g1, h1⟩ := r1
    obtain ⟨l2, v2, e2, g2, h2⟩ := r2
    subst e1 e2
    exact ⟨.list (x.map PyData.str), .list (y.map PyData.str), .lst (SqL.of (hid_of g1)) (dp_strs (h1.mono hid_le)), .lst (SqL.of (hid_of g2)) (dp_strs (h2.mono hid_le)), lay_strs q.1.1, lay_strs q.1.2, _, s, by rw [eqv_strs]; rfl, q.2⟩) (nomark _)
/-- numbers that may be none and a flag, spread into a tuple -/
structure Nb where
  ns : List (Option Int)
  b : Bool
def Nb.ds (x : Nb) : List DV := dvs x.ns ++ [dv x.b]
instance : Rp Nb := tpRp Nb.ds
end Rk

set_option maxHeartbeats 4000000
/-! # The data of the program, and what its defs come to -/
namespace Sk
open PySem L2 PyProof.Rows Rk
/-- the five numbers of works -/
structure Wk where
  wall : Int
  flow : Int
  pump : Int
  rest : Int
  deep : Int
  deriving DecidableEq
/-- an hour -/
structure Hr where
  sl : Int
  sh : Int
  rl : Int
  rh : Int
  ship : Bool
  deriving DecidableEq
/-- a state -/
structure Stt where
  level : Int
  shut : Bool
  since : Int
  deriving DecidableEq
structure Crs where
  hours : List Hr
  deriving DecidableEq
def Wk.l (w : Wk) : List Int := [w.wall, w.flow, w.pump, w.rest, w.deep]
abbrev Hr.ds (h : Hr) : List DV := [dv h.sl, dv h.sh, dv h.rl, dv h.rh, dv h.ship]
abbrev Stt.ds (s : Stt) : List DV := [dv s.level, dv s.shut, dv s.since]
abbrev Tv.ds (t : Tv) : List DV := dvs t.vs
abbrev ds2 {α β : Type} [Rp α] [Rp β] (p : α × β) : List DV := [dv p.1, dv p.2]
instance : Rp Hr := tpRp Hr.ds
instance : Rp Stt := tpRp Stt.ds
def Wk.fs (w : Wk) : List (Str × DV) := [("wall", dv w.wall), ("flow", dv w.flow), ("pump", dv w.pump), ("rest", dv w.rest), ("deep", dv w.deep)]
def Crs.fs (c : Crs) : List (Str × DV) := [("hours", dv c.hours)]
instance : Rp Wk := obRp 0 Wk.fs
instance : Rp Crs := obRp 1 Crs.fs
theorem Wk.lk_wall (w : Wk) : w.fs.lookup ("wall" : Str) = some (dv w.wall) := by rfl
theorem Wk.lk_flow (w : Wk) : w.fs.lookup ("flow" : Str) = some (dv w.flow) := by rfl
theorem Wk.lk_pump (w : Wk) : w.fs.lookup ("pump" : Str) = some (dv w.pump) := by rfl
theorem Wk.lk_rest (w : Wk) : w.fs.lookup ("rest" : Str) = some (dv w.rest) := by rfl
theorem Wk.lk_deep (w : Wk) : w.fs.lookup ("deep" : Str) = some (dv w.deep) := by rfl
theorem Crs.lk_hours (c : Crs) : c.fs.lookup ("hours" : Str) = some (dv c.hours) := by rfl
theorem Wk.no_check_state (w : Wk) : w.fs.lookup ("check_state" : Str) = none := by rfl
theorem Wk.no_may_move (w : Wk) : w.fs.lookup ("may_move" : Str) = none := by rfl
theorem Wk.no_moved (w : Wk) : w.fs.lookup ("moved" : Str) = none := by rfl
theorem Wk.no_next_level (w : Wk) : w.fs.lookup ("next_level" : Str) = none := by rfl
theorem Crs.no_count (c : Crs) : c.fs.lookup ("count" : Str) = none := by rfl
theorem Crs.no_hour (c : Crs) : c.fs.lookup ("hour" : Str) = none := by rfl
theorem Crs.no_has (c : Crs) : c.fs.lookup ("has" : Str) = none := by rfl
theorem Crs.no_narrowed (c : Crs) : c.fs.lookup ("narrowed" : Str) = none := by rfl
theorem Crs.no_raised (c : Crs) : c.fs.lookup ("raised" : Str) = none := by rfl
/-- tuples by their scalars -/
def Hr.tv (h : Hr) : Tv := ⟨[.int h.sl, .int h.sh, .int h.rl, .int h.rh, .bl h.ship]⟩
def Stt.tv (s : Stt) : Tv := ⟨[.int s.level, .bl s.shut, .int s.since]⟩
theorem cv_of {α β : Type} {d1 : α → List DV} {d2 : β → List DV} {x : α} {y : β} (h : ∀ G H vs, RepAll G H vs (d1 x) → RepAll G H vs (d2 y)) : @Cv α β (tpRp d1) (tpRp d2) x y := fun G H v ⟨p, vs, e1, e2, e3⟩ => ⟨p, vs, e1, e2, h _ _ _ e3⟩
theorem cv_hr (h : Hr) : Cv h h.tv := cv_of fun G H vs r => match vs, r with | [_, _, _, _, _], r => r
theorem cv_hr' (h : Hr) : Cv h.tv h := cv_of fun G H vs r => match vs, r with | [_, _, _, _, _], r => r
theorem cv_st (h : Stt) : Cv h h.tv := cv_of fun G H vs r => match vs, r with | [_, _, _], r => r
theorem cv_st' (h : Stt) : Cv h.tv h := cv_of fun G H vs r => match vs, r with | [_, _, _], r => r
instance : Dt Hr := ⟨fun h => .tuple [.int h.sl, .int h.sh, .int h.rl, .int h.rh, .bool h.ship], 1, fun {G H v x} ⟨p, vs, e1, e2, e3⟩ => by
    subst e1
    match vs, e3 with
    | [_, _, _, _, _], e3 => exact .tup (SqT.of e2) (.cons (Dt.rp (x := x.sl) e3.1) (.cons (Dt.rp (x := x.sh) e3.2.1) (.cons (Dt.rp (x := x.rl) e3.2.2.1) (.cons (Dt.rp (x := x.rh) e3.2.2.2.1) (.cons (Dt.rp (x := x.ship) e3.2.2.2.2.1) .nil))))),
  fun _ => rfl, fun _ => Nat.le_refl _, fun x y => by
    show (x.sl == y.sl && (x.sh == y.sh && (x.rl == y.rl && (x.rh == y.rh && (x.ship == y.ship && true))))) = true ↔ _
    cases x; cases y; simp⟩
instance : Dt Stt := ⟨fun h => .tuple [.int h.level, .bool h.shut, .int h.since], 1, fun {G H v x} ⟨p, vs, e1, e2, e3⟩ => by
    subst e1
    match vs, e3 with
    | [_, _, _], e3 => exact .tup (SqT.of e2) (.cons (Dt.rp (x := x.level) e3.1) (.cons (Dt.rp (x := x.shut) e3.2.1) (.cons (Dt.rp (x := x.since) e3.2.2.1) .nil))),
  fun _ => rfl, fun _ => Nat.le_refl _, fun x y => by
    show (x.level == y.level && (x.shut == y.shut && (x.since == y.since && true))) = true ↔ _
    cases x; cases y; simp⟩
/-! ### what the defs come to -/
/-- a whole number from lo to hi -/
def isWh (v : V) (lo hi : Int) : Bool := match v with
  | .int i => decide (lo ≤ i ∧ i ≤ hi)
  | _ => false
/-- a scalar that may be asked -/
def scl (v : V) : Prop := ∃ t, tyS v = some t
def nextL (w : Wk) (level : Int) (shut : Bool) (sea river : Int) : Int := if shut = true then max 0 (level + river - w.pump) else level + river + max (-w.flow) (min w.flow (sea - level))
/-- works of good numbers -/
def Wk.Ok (w : Wk) : Prop := (1 ≤ w.wall ∧ w.wall ≤ 200) ∧ (1 ≤ w.flow ∧ w.flow ≤ 400) ∧ (0 ≤ w.pump ∧ w.pump ≤ 400) ∧ (1 ≤ w.rest ∧ w.rest ≤ 6) ∧ 0 ≤ w.deep ∧ w.deep ≤ w.wall
instance (w : Wk) : Decidable w.Ok := by unfold Wk.Ok; infer_instance
def Hr.Ok (h : Hr) : Prop := (0 ≤ h.sl ∧ h.sl ≤ h.sh ∧ h.sh ≤ 400) ∧ 0 ≤ h.rl ∧ h.rl ≤ h.rh ∧ h.rh ≤ 400
instance (h : Hr) : Decidable h.Ok := by unfold Hr.Ok; infer_instance
def Stt.Ok (w : Wk) (s : Stt) : Prop := (0 ≤ s.level ∧ s.level ≤ w.wall) ∧ 1 ≤ s.since ∧ s.since ≤ w.rest
instance (w : Wk) (s : Stt) : Decidable (s.Ok w) := by unfold Stt.Ok; infer_instance
def Crs.Ok (c : Crs) : Prop := 1 ≤ c.hours.length ∧ c.hours.length ≤ 72 ∧ ∀ h ∈ c.hours, h.Ok
/-- which state a tuple is of the works -/
def mkSt (w : Wk) (t : Tv) : Option Stt := match t.vs with
  | [.int l, .bl s, .int n] => if (Stt.mk l s n).Ok w then some ⟨l, s, n⟩ else none
  | _ => none
theorem mkSt_ok {w : Wk} {s : Stt} (h : s.Ok w) : mkSt w s.tv = some s := by
  unfold mkSt Stt.tv
  simp only
  rw [if_pos h]
theorem mkSt_some {w : Wk} {t : Tv} {s : Stt} (h : mkSt w t = some s) : t = s.tv ∧ s.Ok w := by
  unfold mkSt at h
  split at h
  · split at h
    · cases h
      refine ⟨?_, by assumption⟩
      cases t; simp_all [Stt.tv]
    · cases h
  · cases h
def mkHr (t : Tv) : Option Hr := match t.vs with
  | [.int a, .int b, .int c, .int d, .bl s] => if (Hr.mk a b c d s).Ok then some ⟨a, b, c, d, s⟩ else none
  | _ => none
theorem mkHr_ok {h : Hr} (k : h.Ok) : mkHr h.tv = some h := by
  unfold mkHr Hr.tv
  simp only
  rw [if_pos k]
theorem mkHr_not {h : Hr} (k : ¬ h.Ok) : mkHr h.tv = none := by
  unfold mkHr Hr.tv
  simp only
  rw [if_neg k]
theorem mkHr_some {t : Tv} {h : Hr} (k : mkHr t = some h) : t = h.tv ∧ h.Ok := by
  unfold mkHr at k
  split at k
  · split at k
    · cases k
      refine ⟨?_, by assumption⟩
      cases t; simp_all [Hr.tv]
    · cases k
  · cases k
def movedR (w : Wk) (s : Stt) (shut : Bool) : Rz := if shut = s.shut then .ok (dv (min (s.since + 1) w.rest)) else if s.since = w.rest then .ok (dv (1 : Int)) else .err 13
def goodL (w : Wk) (h : Hr) (shut : Bool) (level : Int) : Bool := decide (level ≤ w.wall) && (!h.ship || (!shut && decide (w.deep ≤ level)))

/-! ### tuples of three and five scalars -/
structure T3v where
  a : V
  b : V
  c : V
structure T5v where
  a : V
  b : V
  c : V
  d : V
  e : V
abbrev T3v.ds (t : T3v) : List DV := [dv t.a, dv t.b, dv t.c]
abbrev T5v.ds (t : T5v) : List DV := [dv t.a, dv t.b, dv t.c, dv t.d, dv t.e]
instance : Rp T3v := tpRp T3v.ds
instance : Rp T5v := tpRp T5v.ds
theorem cv_t3 (a b c : V) : Cv (Tv.mk [a, b, c]) (T3v.mk a b c) := cv_of fun G H vs r => match vs, r with | [_, _, _], r => r
theorem cv_t5 (a b c d e : V) : Cv (Tv.mk [a, b, c, d, e]) (T5v.mk a b c d e) := cv_of fun G H vs r => match vs, r with | [_, _, _, _, _], r => r
theorem tv3 {t : Tv} (h : (!true || !decide (((dvs t.vs).length : Int) = 3)) = false) : ∃ a b c, t = ⟨[a, b, c]⟩ := by
  obtain ⟨vs⟩ := t
  simp [dvs_len] at h
  match vs, h with
  | [a, b, c], _ => exact ⟨a, b, c, rfl⟩
  | [], h => simp at h
  | [_], h => simp at h
  | [_, _], h => simp at h
  | _ :: _ :: _ :: _ :: _, h => simp at h; omega
theorem tv5 {t : Tv} (h : (!true || !decide (((dvs t.vs).length : Int) = 5)) = false) : ∃ a b c d e, t = ⟨[a, b, c, d, e]⟩ := by
  obtain ⟨vs⟩ := t
  simp [dvs_len] at h
  match vs, h with
  | [a, b, c, d, e], _ => exact ⟨a, b, c, d, e, rfl⟩
  | [], h => simp at h
  | [_], h => simp at h
  | [_, _], h => simp at h
  | [_, _, _], h => simp at h
  | [_, _, _, _], h => simp at h
  | _ :: _ :: _ :: _ :: _ :: _ :: _, h => simp at h; omega
theorem no3 {w : Wk} {t : Tv} (h : (!true || !decide (((dvs t.vs).length : Int) = 3)) = true) : mkSt w t = none := by
  obtain ⟨vs⟩ := t
  unfold mkSt
  simp [dvs_len] at h
  split
  · rename_i e; simp only at e; subst e; simp at h
  · rfl
theorem no5 {t : Tv} (h : (!true || !decide (((dvs t.vs).length : Int) = 5)) = true) : mkHr t = none := by
  obtain ⟨vs⟩ := t
  unfold mkHr
  simp [dvs_len] at h
  split
  · rename_i e; simp only at e; subst e; simp at h
  · rfl
def isBl (v : V) : Bool := match v with
  | .bl _ => true
  | _ => false
theorem kb {v : V} (h : scl v) : ∃ k, tyS v = some k ∧ kitB k "bool" = some (isBl v) := by
  obtain ⟨t, ht⟩ := h
  cases v with
  | non => exact ⟨_, rfl, by decide +kernel⟩
  | bl b => exact ⟨_, rfl, by show kitB "bool" "bool" = some true; decide +kernel⟩
  | int i => exact ⟨_, rfl, by show kitB "int" "bool" = some false; decide +kernel⟩
  | str x => exact ⟨_, rfl, by show kitB "str" "bool" = some false; decide +kernel⟩
  | byt x => cases ht
  | flt x => cases ht
  | ref x => cases ht
  | ty x => cases ht
theorem isWh_int {v : V} {lo hi : Int} (h : isWh v lo hi = true) : ∃ i, v = .int i ∧ lo ≤ i ∧ i ≤ hi := by
  cases v with
  | int i => exact ⟨i, rfl, by simpa [isWh] using h⟩
  | _ => cases h
theorem isBl_bl {v : V} (h : isBl v = true) : ∃ b, v = .bl b := by
  cases v with
  | bl b => exact ⟨b, rfl⟩
  | _ => cases h
theorem cv_vi {v : V} {i : Int} (h : v = .int i) : Cv v i := fun G H u r => by
  have r : u = v := r
  rw [r, h]; exact rfl
theorem cv_vb {v : V} {i : Bool} (h : v = .bl i) : Cv v i := fun G H u r => by
  have r : u = v := r
  rw [r, h]; exact rfl
def bndOk (lo hi : V) : Bool := match hi with
  | .int h => decide (0 ≤ h ∧ h ≤ 400) && isWh lo 0 h
  | _ => false
theorem mkSt_isSome (w : Wk) (a b c : V) : (mkSt w ⟨[a, b, c]⟩).isSome = (isWh a 0 w.wall && isBl b && isWh c 1 w.rest) := by
  unfold mkSt
  split
  · rename_i l s n e
    simp only [List.cons.injEq, and_true] at e
    obtain ⟨rfl, rfl, rfl⟩ := e
    by_cases h : (Stt.mk l s n).Ok w
    · rw [if_pos h]
      unfold Stt.Ok at h
      simp only [isWh, isBl, Option.isSome]
      simp only [Bool.true_eq, Bool.and_eq_true, decide_eq_true_eq]
      exact ⟨⟨⟨h.1.1, h.1.2⟩, trivial⟩, h.2.1, h.2.2⟩
    · rw [if_neg h]
      unfold Stt.Ok at h
      simp only [isWh, isBl, Option.isSome]
      symm
      simp only [Bool.and_true, Bool.and_eq_false_iff, decide_eq_false_iff_not]
      simp only at h
      by_cases h1 : 0 ≤ l ∧ l ≤ w.wall
      · exact .inr fun h2 => h ⟨h1, h2⟩
      · exact .inl h1
  · rename_i ne
    simp only [Option.isSome]
    symm
    cases a with
    | int l =>
      cases b with
      | bl s =>
        cases c with
        | int n => exact absurd rfl (ne l s n)
        | _ => simp [isWh, isBl]
      | _ => simp [isBl]
    | _ => simp [isWh]
theorem mkHr_isSome (a b c d e : V) : (mkHr ⟨[a, b, c, d, e]⟩).isSome = (bndOk a b && bndOk c d && isBl e) := by
  unfold mkHr
  split
  · rename_i a b c d s e
    simp only [List.cons.injEq, and_true] at e
    obtain ⟨rfl, rfl, rfl, rfl, rfl⟩ := e
    by_cases h : (Hr.mk a b c d s).Ok
    · rw [if_pos h]
      unfold Hr.Ok at h
      simp only at h
      simp only [bndOk, isWh, isBl, Option.isSome]
      simp only [Bool.true_eq, Bool.and_eq_true, decide_eq_true_eq, and_true]
      omega
    · rw [if_neg h]
      unfold Hr.Ok at h
      simp only at h
      simp only [bndOk, isWh, isBl, Option.isSome]
      symm
      simp only [Bool.and_true, Bool.and_eq_false_iff, decide_eq_false_iff_not]
      omega
  · rename_i ne
    simp only [Option.isSome]
    symm
    cases b with
    | int b =>
      cases a with
      | int a =>
        cases d with
        | int d =>
          cases c with
          | int c =>
            cases e with
            | bl s => exact absurd rfl (ne a b c d s)
            | _ => simp [isBl]
          | _ => simp [bndOk, isWh]
        | _ => simp [bndOk]
      | _ => simp [bndOk, isWh]
    | _ => simp [bndOk]
theorem scl_i (i : Int) : scl (.int i) := ⟨_, rfl⟩
theorem scl_b (b : Bool) : scl (.bl b) := ⟨_, rfl⟩
theorem scl_st (s : Stt) : ∀ v ∈ s.tv.vs, scl v := by
  intro v hv
  simp only [Stt.tv, List.mem_cons, List.not_mem_nil, or_false] at hv
  rcases hv with rfl | rfl | rfl
  · exact scl_i _
  · exact scl_b _
  · exact scl_i _
theorem scl_hr (s : Hr) : ∀ v ∈ s.tv.vs, scl v := by
  intro v hv
  simp only [Hr.tv, List.mem_cons, List.not_mem_nil, or_false] at hv
  rcases hv with rfl | rfl | rfl | rfl | rfl
  · exact scl_i _
  · exact scl_i _
  · exact scl_i _
  · exact scl_i _
  · exact scl_b _
/-! ### works, courses made; what the methods answer -/
def initWk (a b c d e : V) : Ri :=
  if isWh a 1 200 = true then (if isWh b 1 400 = true then (if isWh c 0 400 = true then (if isWh d 1 6 = true then
    (match a, b, c, d, e with
    | .int a, .int b, .int c, .int d, .int e => if 0 ≤ e ∧ e ≤ a then .ok (Wk.fs ⟨a, b, c, d, e⟩) else .err 10
    | _, _, _, _, _ => .err 10) else .err 10) else .err 10) else .err 10) else .err 10
theorem initWk_ok {w : Wk} (h : w.Ok) : initWk (.int w.wall) (.int w.flow) (.int w.pump) (.int w.rest) (.int w.deep) = .ok w.fs := by
  unfold Wk.Ok at h
  unfold initWk
  rw [if_pos (by simp [isWh, h]), if_pos (by simp [isWh, h]), if_pos (by simp [isWh, h]), if_pos (by simp [isWh, h])]
  simp only
  rw [if_pos ⟨h.2.2.2.2.1, h.2.2.2.2.2⟩]
def mayR (w : Wk) (t : Tv) : Rz := match mkSt w t with
  | some s => .ok (dv (decide (s.since = w.rest)))
  | none => .err 12
theorem mayR_ok {w : Wk} {s : Stt} (h : s.Ok w) : mayR w s.tv = .ok (dv (decide (s.since = w.rest))) := by
  unfold mayR; rw [mkSt_ok h]
def movR (w : Wk) (t : Tv) (shut : Bool) : Rz := match mkSt w t with
  | some s => movedR w s shut
  | none => .err 12
theorem movR_ok {w : Wk} {s : Stt} {b : Bool} (h : s.Ok w) : movR w s.tv b = movedR w s b := by
  unfold movR; rw [mkSt_ok h]
def Crs.at_ (c : Crs) (n : V) : Option Hr := match n with
  | .int i => if 0 ≤ i then c.hours[i.toNat]? else none
  | _ => none
def hourR (c : Crs) (n : V) : Rz := match c.at_ n with
  | some h => .ok (dv h)
  | none => .err 12
theorem at_some {c : Crs} {i : Int} {h : Hr} (h0 : 0 ≤ i) (hi : c.hours[i.toNat]? = some h) : c.at_ (.int i) = some h := by
  unfold Crs.at_; simp only; rw [if_pos h0]; exact hi
theorem hourR_ok {c : Crs} {i : Int} {h : Hr} (h0 : 0 ≤ i) (hi : c.hours[i.toNat]? = some h) : hourR c (.int i) = .ok (dv h) := by
  unfold hourR; rw [at_some h0 hi]
def Hr.has (h : Hr) (sea river : Int) : Bool := decide (h.sl ≤ sea ∧ sea ≤ h.sh) && decide (h.rl ≤ river ∧ river ≤ h.rh)
def hasR (c : Crs) (n : V) (sea river : Int) : Rz := match c.at_ n with
  | some h => .ok (dv (h.has sea river))
  | none => .err 12
def spanL (w : Wk) (h : Hr) (level : Int) (shut : Bool) : Int × Int := (nextL w level shut h.sl h.rl, nextL w level shut h.sh h.rh)
def spanR (w : Wk) (c : Crs) (n : V) (level : Int) (shut : Bool) : Rz := match c.at_ n with
  | some h => .ok (dv (spanL w h level shut))
  | none => .err 12
def goodR (w : Wk) (c : Crs) (n : V) (shut : Bool) (level : Int) : Rz := match c.at_ n with
  | some h => .ok (dv (goodL w h shut level))
  | none => .err 12
def initCrs (hs : List Tv) : Ri := if 1 ≤ hs.length ∧ hs.length ≤ 72 ∧ hs.all (fun t => (mkHr t).isSome) = true then .ok (Crs.fs ⟨hs.filterMap mkHr⟩) else .err 11
theorem tvs_hr {hs : List Tv} (h : ∀ t ∈ hs, (mkHr t).isSome = true) : hs = (hs.filterMap mkHr).map Hr.tv := by
  induction hs with
  | nil => rfl
  | cons t ts ih =>
    have h1 := h t List.mem_cons_self
    cases e : mkHr t with
    | none => rw [e] at h1; cases h1
    | some x =>
      rw [List.filterMap_cons_some e, List.map_cons, ← ih fun u hu => h u (List.mem_cons_of_mem _ hu), ← (mkHr_some e).1]
theorem cv_hrs {hs : List Tv} (h : ∀ t ∈ hs, (mkHr t).isSome = true) : Cv hs (hs.filterMap mkHr) := by
  have e := tvs_hr h
  have c : Cv ((hs.filterMap mkHr).map Hr.tv) (hs.filterMap mkHr) := cv_list' cv_hr' _
  rw [← e] at c
  exact c
theorem hrs_back {hs : List Hr} (h : ∀ x ∈ hs, x.Ok) : (hs.map Hr.tv).filterMap mkHr = hs := by
  induction hs with
  | nil => rfl
  | cons x xs ih =>
    rw [List.map_cons, List.filterMap_cons_some (mkHr_ok (h x List.mem_cons_self)), ih fun y hy => h y (List.mem_cons_of_mem _ hy)]
theorem initCrs_ok {c : Crs} (h : c.Ok) : initCrs (c.hours.map Hr.tv) = .ok c.fs := by
  have hall : (c.hours.map Hr.tv).all (fun t => (mkHr t).isSome) = true := by
    rw [List.all_eq_true]
    intro t ht
    obtain ⟨x, hx, rfl⟩ := List.mem_map.mp ht
    rw [mkHr_ok (h.2.2 x hx)]; rfl
  unfold initCrs
  rw [List.length_map, if_pos ⟨h.1, h.2.1, hall⟩, hrs_back h.2.2]
/-- the n-th turn's function, from the first on -/
def runI {α : Type} (f : Nat → α → α) : Nat → α → α
  | 0, a => a
  | n + 1, a => f n (runI f n a)
theorem foldl_step {α β : Type} {f : β → α → β} {b : β} {xs : List α} {i : Nat} {y : α} (h : xs[i]? = some y) : (xs.take (i + 1)).foldl f b = f ((xs.take i).foldl f b) y := by
  rw [List.take_add_one, h, List.foldl_append]; rfl
theorem initWk_e {b c d e : V} {w : Int} (h1 : isWh (.int w) 1 200 = true) (h2 : isWh b 1 400 = true) (h3 : isWh c 0 400 = true) (h4 : isWh d 1 6 = true) (h5 : ¬ isWh e 0 w = true) : initWk (.int w) b c d e = .err 10 := by
  obtain ⟨b, rfl, _⟩ := isWh_int h2
  obtain ⟨c, rfl, _⟩ := isWh_int h3
  obtain ⟨d, rfl, _⟩ := isWh_int h4
  unfold initWk
  rw [if_pos h1, if_pos h2, if_pos h3, if_pos h4]
  cases e with
  | int e =>
    simp only
    rw [if_neg]
    intro z
    exact h5 (by simp [isWh, z])
  | _ => rfl
theorem initWk_ok' {a b c d e : Int} (h1 : isWh (.int a) 1 200 = true) (h2 : isWh (.int b) 1 400 = true) (h3 : isWh (.int c) 0 400 = true) (h4 : isWh (.int d) 1 6 = true) (h5 : 0 ≤ e ∧ e ≤ a) : initWk (.int a) (.int b) (.int c) (.int d) (.int e) = .ok (Wk.fs ⟨a, b, c, d, e⟩) := by
  unfold initWk
  rw [if_pos h1, if_pos h2, if_pos h3, if_pos h4]
  simp only
  rw [if_pos h5]
theorem bnd_wh {lo hi : V} (h : bndOk lo hi = true) : isWh hi 0 400 = true := by
  cases hi with
  | int i => simp [bndOk] at h; simp [isWh, h.1]
  | _ => cases h
end Sk
namespace Sk
open PySem L2 PyProof.Rows Rk
theorem hour_no {c : Crs} {n : V} (h : isWh n 0 ((c.hours.length : Int) - 1) = false) : hourR c n = .err 12 := by
  unfold hourR Crs.at_
  cases n with
  | int i =>
    simp only [isWh, decide_eq_false_iff_not] at h
    simp only
    by_cases h0 : 0 ≤ i
    · rw [if_pos h0, List.getElem?_eq_none_iff.mpr (by omega)]
    · rw [if_neg h0]
  | _ => rfl
end Sk

set_option maxHeartbeats 4000000
/-! # What the laws' own helpers come to -/
namespace Sk
open PySem L2 PyProof.Rows Rk
def cellOf (ns : List Int) (k : Int) : Int := if k < (ns.length : Int) then (ns[k.toNat]?).getD 0 else 7 * k + 3
theorem cell_in {ns : List Int} {k x : Int} (h : k < (ns.length : Int)) (e : ns[k.toNat]? = some x) : cellOf ns k = x := by
  unfold cellOf; rw [if_pos h, e]; rfl
theorem cell_out {ns : List Int} {k : Int} (h : ¬ k < (ns.length : Int)) : cellOf ns k = 7 * k + 3 := by
  unfold cellOf; rw [if_neg h]
def worksOf (c : Int) : Wk := ⟨2 + c % 7, 1 + c / 7 % 4, c / 28 % 4, 1 + c / 112 % 3, c / 336 % (2 + c % 7 + 1) * b2 (decide (c / 5 % 3 = 0))⟩
theorem b2_01 (b : Bool) : b2 b = 0 ∨ b2 b = 1 := by cases b <;> simp [b2]
theorem worksOf_ok (c : Int) : (worksOf c).Ok := by
  unfold Wk.Ok worksOf
  simp only
  refine ⟨⟨by omega, by omega⟩, ⟨by omega, by omega⟩, ⟨by omega, by omega⟩, ⟨by omega, by omega⟩, ?_⟩
  have h1 : 0 ≤ c / 336 % (2 + c % 7 + 1) := Int.emod_nonneg _ (by omega)
  have h2 : c / 336 % (2 + c % 7 + 1) < 2 + c % 7 + 1 := Int.emod_lt_of_pos _ (by omega)
  rcases b2_01 (decide (c / 5 % 3 = 0)) with e | e <;> rw [e] <;> omega
theorem worksOf_small (c : Int) : (worksOf c).wall ≤ 8 ∧ (worksOf c).rest ≤ 3 ∧ 2 ≤ (worksOf c).wall := by
  unfold worksOf; simp only; omega
def hourOf (c : Int) : Hr := ⟨c % 6, c % 6 + c / 18 % 5, c / 6 % 3, c / 6 % 3 + c / 90 % 3, decide (c / 270 % 5 = 0)⟩
theorem hourOf_ok (c : Int) : (hourOf c).Ok := by
  unfold Hr.Ok hourOf; simp only; omega
theorem hourOf_small (c : Int) : (hourOf c).sh ≤ 9 ∧ (hourOf c).rh ≤ 4 := by
  unfold hourOf; simp only; omega
def hrsTo (ns : List Int) (m : Int) : List Hr := (span 0 m).map fun k => hourOf (cellOf ns (2 + k))
def hoursOf (ns : List Int) (most : Int) : List Hr := hrsTo ns (1 + cellOf ns 1 % most)
theorem hoursOf_ok (ns : List Int) (most : Int) : ∀ h ∈ hoursOf ns most, h.Ok := by
  intro h hh
  obtain ⟨k, _, rfl⟩ := List.mem_map.mp hh
  exact hourOf_ok _
theorem hoursOf_len (ns : List Int) (most : Int) : (hoursOf ns most).length = (1 + cellOf ns 1 % most).toNat := by
  unfold hoursOf hrsTo; rw [List.length_map, span_len]; congr 1; omega
theorem hoursOf_bnd (ns : List Int) {most : Int} (h : 0 < most) : 1 ≤ (hoursOf ns most).length ∧ (hoursOf ns most).length ≤ most.toNat := by
  rw [hoursOf_len]
  have h1 : 0 ≤ cellOf ns 1 % most := Int.emod_nonneg _ (by omega)
  have h2 : cellOf ns 1 % most < most := Int.emod_lt_of_pos _ h
  omega
theorem next_le {w : Wk} (h : 0 ≤ w.flow) {l : Int} {s : Bool} {a b : Int} (hs : s = false) (hl : l < a) : nextL w l s a b = l + b + min (a - l) w.flow := by
  subst hs; unfold nextL; rw [if_neg (by decide)]; omega
theorem next_ge {w : Wk} (h : 0 ≤ w.flow) {l : Int} {s : Bool} {a b : Int} (hs : s = false) (hl : ¬ l < a) : nextL w l s a b = l + b - min (l - a) w.flow := by
  subst hs; unfold nextL; rw [if_neg (by decide)]; omega
def lSince (w : Wk) (s : Stt) (shut : Bool) : Int := if shut = s.shut then min w.rest (s.since + 1) else 1
def lMay (w : Wk) (s : Stt) (shut : Bool) : Bool := decide (shut = s.shut) || decide (w.rest ≤ s.since)
theorem movedR_may {w : Wk} {s : Stt} (h : s.Ok w) (shut : Bool) : movedR w s shut = if lMay w s shut = true then .ok (dv (lSince w s shut)) else .err 13 := by
  unfold movedR lMay lSince
  by_cases e : shut = s.shut
  · rw [if_pos e, if_pos e, if_pos (by simp [e]), Int.min_comm]
  · rw [if_neg e, if_neg e]
    by_cases g : s.since = w.rest
    · rw [if_pos g, if_pos (by simp [g])]
    · rw [if_neg g, if_neg]
      have := h.2.2
      simp [e]; omega
def stGo (l : Int) (b : Bool) (n : Int) : List Stt := (span 1 n).map fun k => ⟨l, b, k⟩
def stBl (w : Wk) (l : Int) (bs : List Bool) : List Stt := bs.flatMap fun b => stGo l b (w.rest + 1)
def stLv (w : Wk) (m : Int) : List Stt := (span 0 m).flatMap fun l => stBl w l [false, true]
def statesOf (w : Wk) : List Stt := stLv w (w.wall + 1)
theorem mem_span {lo hi y : Int} : y ∈ span lo hi ↔ lo ≤ y ∧ y < hi := by
  unfold span
  rw [List.mem_map]
  constructor
  · rintro ⟨k, hk, rfl⟩
    rw [List.mem_range] at hk
    omega
  · rintro ⟨h1, h2⟩
    exact ⟨(y - lo).toNat, by rw [List.mem_range]; omega, by omega⟩
theorem mem_states {w : Wk} (hw : w.Ok) {s : Stt} : s ∈ statesOf w ↔ s.Ok w := by
  unfold statesOf stLv stBl stGo
  simp only [List.mem_flatMap, List.mem_map, mem_span]
  unfold Stt.Ok
  constructor
  · rintro ⟨l, hl, b, _, k, hk, rfl⟩
    simp only
    omega
  · obtain ⟨l, b, n⟩ := s
    intro h
    simp only at h
    exact ⟨l, by omega, b, by cases b <;> simp, n, by omega, rfl⟩
theorem span_succ {lo : Int} {n : Nat} : span lo (lo + ((n + 1 : Nat) : Int)) = span lo (lo + (n : Int)) ++ [lo + (n : Int)] := by
  unfold span
  have e1 : (lo + ((n + 1 : Nat) : Int) - lo).toNat = n + 1 := by omega
  have e2 : (lo + (n : Int) - lo).toNat = n := by omega
  rw [e1, e2, List.range_succ, List.map_append]; rfl
theorem span_self (lo : Int) : span lo lo = [] := by unfold span; rw [Int.sub_self]; rfl
theorem span_s {lo k : Int} (h : lo ≤ k) : span lo (k + 1) = span lo k ++ [k] := by
  obtain ⟨n, rfl⟩ : ∃ n : Nat, k = lo + n := ⟨(k - lo).toNat, by omega⟩
  have := span_succ (lo := lo) (n := n)
  rw [← this]; congr 1; omega
theorem hrsTo_s {ns : List Int} {k : Int} (h : 0 ≤ k) : hrsTo ns (k + 1) = hrsTo ns k ++ [hourOf (cellOf ns (2 + k))] := by
  unfold hrsTo; rw [span_s h, List.map_append]; rfl
theorem hrsTo_len (ns : List Int) (k : Int) : (hrsTo ns k).length = k.toNat := by
  unfold hrsTo; rw [List.length_map, span_len]; congr 1; omega
theorem b2_ok (b : Bool) : -(2 ^ 64) < b2 b ∧ b2 b < 2 ^ 64 := by cases b <;> decide
theorem stGo_s {l : Int} {b : Bool} {k : Int} (h : 1 ≤ k) : stGo l b (k + 1) = stGo l b k ++ [⟨l, b, k⟩] := by
  unfold stGo; rw [span_s h, List.map_append]; rfl
theorem stGo_0 (l : Int) (b : Bool) : stGo l b 1 = [] := rfl
theorem stBl_s {w : Wk} {l : Int} {bs : List Bool} {b : Bool} : stBl w l (bs ++ [b]) = stBl w l bs ++ stGo l b (w.rest + 1) := by
  unfold stBl; rw [List.flatMap_append]; simp
theorem stLv_s {w : Wk} {m : Int} (h : 0 ≤ m) : stLv w (m + 1) = stLv w m ++ stBl w m [false, true] := by
  unfold stLv; rw [span_s h, List.flatMap_append]; simp
theorem stGo_len (l : Int) (b : Bool) (n : Int) : (stGo l b n).length = (n - 1).toNat := by unfold stGo; rw [List.length_map, span_len]
theorem stBl_len {w : Wk} {l : Int} : ∀ bs : List Bool, (stBl w l bs).length = bs.length * w.rest.toNat
  | [] => by simp [stBl]
  | b :: bs => by
    have e : stBl w l (b :: bs) = stGo l b (w.rest + 1) ++ stBl w l bs := by unfold stBl; rw [List.flatMap_cons]
    rw [e, List.length_append, stBl_len bs, stGo_len, List.length_cons, Nat.add_mul]; omega
theorem stLv_len {w : Wk} : ∀ n : Nat, (stLv w (n : Int)).length = n * (2 * w.rest.toNat)
  | 0 => by unfold stLv; rw [show ((0 : Nat) : Int) = 0 from rfl, span_self]; simp
  | n + 1 => by
    have e : (((n + 1 : Nat) : Int)) = (n : Int) + 1 := by omega
    rw [e, stLv_s (by omega), List.length_append, stLv_len n, stBl_len, Nat.add_mul]; simp
theorem stLv_le {w : Wk} (hw : w.Ok) {m : Int} (h0 : 0 ≤ m) (h1 : m ≤ 201) : (stLv w m).length ≤ 2412 := by
  obtain ⟨n, rfl⟩ : ∃ n : Nat, m = n := ⟨m.toNat, by omega⟩
  rw [stLv_len]
  unfold Wk.Ok at hw
  have h2 : w.rest.toNat ≤ 6 := by omega
  have h3 : n ≤ 201 := by omega
  calc n * (2 * w.rest.toNat) ≤ 201 * 12 := Nat.mul_le_mul h3 (by omega)
    _ = 2412 := rfl
/-! ### the levels that an hour lets come -/
def addL (f : List Int) (y : Int) : List Int := if y ∈ f then f else f ++ [y]
def lvR (w : Wk) (h : Hr) (l : Int) (s : Bool) (sea : Int) (f : List Int) (m : Int) : List Int := (span h.rl m).foldl (fun f river => addL f (nextL w l s sea river)) f
def lvS (w : Wk) (h : Hr) (l : Int) (s : Bool) (m : Int) : List Int := (span h.sl m).foldl (fun f sea => lvR w h l s sea f (h.rh + 1)) []
def levelsOf (w : Wk) (h : Hr) (l : Int) (s : Bool) : List Int := lvS w h l s (h.sh + 1)
theorem lvR_0 {w : Wk} {h : Hr} {l : Int} {s : Bool} {sea : Int} {f : List Int} : lvR w h l s sea f h.rl = f := by unfold lvR; rw [span_self]; rfl
theorem lvS_0 {w : Wk} {h : Hr} {l : Int} {s : Bool} : lvS w h l s h.sl = [] := by unfold lvS; rw [span_self]; rfl
theorem lvR_s {w : Wk} {h : Hr} {l : Int} {s : Bool} {sea : Int} {f : List Int} {m : Int} (g : h.rl ≤ m) : lvR w h l s sea f (m + 1) = addL (lvR w h l s sea f m) (nextL w l s sea m) := by
  unfold lvR; rw [span_s g, List.foldl_append]; rfl
theorem lvS_s {w : Wk} {h : Hr} {l : Int} {s : Bool} {m : Int} (g : h.sl ≤ m) : lvS w h l s (m + 1) = lvR w h l s m (lvS w h l s m) (h.rh + 1) := by
  unfold lvS; rw [span_s g, List.foldl_append]; rfl
theorem addL_mem {f : List Int} {y z : Int} : z ∈ addL f y ↔ z ∈ f ∨ z = y := by
  unfold addL
  by_cases h : y ∈ f
  · rw [if_pos h]
    exact ⟨.inl, fun g => g.elim id fun e => e ▸ h⟩
  · rw [if_neg h, List.mem_append, List.mem_singleton]
theorem addL_nd {f : List Int} {y : Int} (h : f.Nodup) : (addL f y).Nodup := by
  unfold addL
  by_cases g : y ∈ f
  · rw [if_pos g]; exact h
  · rw [if_neg g]
    refine List.nodup_append.mpr ⟨h, by simp, fun a ha b hb e => ?_⟩
    rw [List.mem_singleton] at hb
    exact g (by rw [← hb, ← e]; exact ha)
theorem foldl_mem {α : Type} {g : List Int → α → List Int} {P : α → Int → Prop} (hg : ∀ f x z, z ∈ g f x ↔ z ∈ f ∨ P x z) : ∀ (xs : List α) (f : List Int) (z : Int), z ∈ xs.foldl g f ↔ z ∈ f ∨ ∃ x ∈ xs, P x z
  | [], f, z => by simp
  | x :: xs, f, z => by
    rw [List.foldl_cons, foldl_mem hg xs, hg]
    constructor
    · rintro ((h | h) | ⟨y, hy, h⟩)
      · exact .inl h
      · exact .inr ⟨x, List.mem_cons_self, h⟩
      · exact .inr ⟨y, List.mem_cons_of_mem _ hy, h⟩
    · rintro (h | ⟨y, hy, h⟩)
      · exact .inl (.inl h)
      · rcases List.mem_cons.mp hy with rfl | hy
        · exact .inl (.inr h)
        · exact .inr ⟨y, hy, h⟩
theorem foldl_nd {α : Type} {g : List Int → α → List Int} (hg : ∀ f x, f.Nodup → (g f x).Nodup) : ∀ (xs : List α) (f : List Int), f.Nodup → (xs.foldl g f).Nodup
  | [], f, h => h
  | x :: xs, f, h => foldl_nd hg xs _ (hg f x h)
theorem lvR_mem {w : Wk} {h : Hr} {l : Int} {s : Bool} {sea : Int} {f : List Int} {m z : Int} : z ∈ lvR w h l s sea f m ↔ z ∈ f ∨ ∃ river, (h.rl ≤ river ∧ river < m) ∧ z = nextL w l s sea river := by
  unfold lvR
  rw [foldl_mem (P := fun river z => z = nextL w l s sea river) (fun f x z => addL_mem)]
  simp only [mem_span]
theorem lvS_mem {w : Wk} {h : Hr} {l : Int} {s : Bool} {m z : Int} : z ∈ lvS w h l s m ↔ ∃ sea, (h.sl ≤ sea ∧ sea < m) ∧ ∃ river, (h.rl ≤ river ∧ river < h.rh + 1) ∧ z = nextL w l s sea river := by
  unfold lvS
  rw [foldl_mem (P := fun sea z => ∃ river, (h.rl ≤ river ∧ river < h.rh + 1) ∧ z = nextL w l s sea river) (fun f x z => lvR_mem)]
  simp only [mem_span, List.not_mem_nil, false_or]
theorem lvR_nd {w : Wk} {h : Hr} {l : Int} {s : Bool} {sea : Int} {f : List Int} {m : Int} (n : f.Nodup) : (lvR w h l s sea f m).Nodup := foldl_nd (fun _ _ => addL_nd) _ _ n
theorem lvS_nd {w : Wk} {h : Hr} {l : Int} {s : Bool} {m : Int} : (lvS w h l s m).Nodup := foldl_nd (fun _ _ n => lvR_nd n) _ _ (by simp)
theorem mem_levels {w : Wk} {h : Hr} {l : Int} {s : Bool} {z : Int} : z ∈ levelsOf w h l s ↔ ∃ sea, (h.sl ≤ sea ∧ sea ≤ h.sh) ∧ ∃ river, (h.rl ≤ river ∧ river ≤ h.rh) ∧ z = nextL w l s sea river := by
  unfold levelsOf
  rw [lvS_mem]
  simp only [Int.lt_add_one_iff]
theorem levels_nd {w : Wk} {h : Hr} {l : Int} {s : Bool} : (levelsOf w h l s).Nodup := lvS_nd
theorem addL_len (f : List Int) (y : Int) : (addL f y).length ≤ f.length + 1 := by
  unfold addL
  by_cases h : y ∈ f
  · rw [if_pos h]; omega
  · rw [if_neg h, List.length_append]; exact Nat.le_refl _
theorem foldl_len {α : Type} {g : List Int → α → List Int} {c : Nat} (hg : ∀ f x, (g f x).length ≤ f.length + c) : ∀ (xs : List α) (f : List Int), (xs.foldl g f).length ≤ f.length + xs.length * c
  | [], f => by simp
  | x :: xs, f => by
    rw [List.foldl_cons, List.length_cons, Nat.add_mul]
    have h1 := foldl_len hg xs (g f x)
    have h2 := hg f x
    omega
theorem lv_small {w : Wk} {h : Hr} {l : Int} {s : Bool} {sea a b : Int} (hh : h.Ok) (h1 : h.sh ≤ 100) (h2 : h.rh ≤ 100) (ha : a ≤ h.sh) (hb : b ≤ h.rh + 1) : (lvR w h l s sea (lvS w h l s a) b).length < 100000 := by
  unfold Hr.Ok at hh
  have e1 : (lvR w h l s sea (lvS w h l s a) b).length ≤ (lvS w h l s a).length + (span h.rl b).length * 1 := foldl_len (fun f x => addL_len f _) _ _
  have e2 : (lvS w h l s a).length ≤ ([] : List Int).length + (span h.sl a).length * 101 := foldl_len (fun f x => by
    have e3 : (lvR w h l s x f (h.rh + 1)).length ≤ f.length + (span h.rl (h.rh + 1)).length * 1 := foldl_len (fun f x => addL_len f _) _ _
    rw [span_len] at e3
    omega) _ _
  rw [span_len] at e1 e2
  simp only [List.length_nil] at e2
  omega
/-- a walk by steps of at most one meets all between its ends -/
theorem walk_meets {g : Nat → Int} (hg : ∀ n, g (n + 1) ≤ g n + 1) : ∀ (n : Nat) (y : Int), g 0 ≤ y → y ≤ g n → ∃ k ≤ n, g k = y
  | 0, y, h0, h1 => ⟨0, Nat.le_refl _, Int.le_antisymm h0 h1⟩
  | n + 1, y, h0, h1 => by
    by_cases h : y ≤ g n
    · obtain ⟨k, hk, e⟩ := walk_meets hg n y h0 h
      exact ⟨k, Nat.le_succ_of_le hk, e⟩
    · have := hg n
      exact ⟨n + 1, Nat.le_refl _, by omega⟩
theorem next_up {w : Wk} (hf : 0 ≤ w.flow) {l : Int} {s : Bool} {a b a' b' : Int} (ha : a ≤ a') (hb : b ≤ b') : nextL w l s a b ≤ nextL w l s a' b' := by
  unfold nextL
  cases s <;> simp only [if_pos, if_neg, Bool.false_eq_true, if_false, if_true] <;> omega
theorem next_step1 {w : Wk} {l : Int} {s : Bool} {a b : Int} : nextL w l s (a + 1) b ≤ nextL w l s a b + 1 := by
  unfold nextL
  cases s <;> simp only [Bool.false_eq_true, if_false, if_true] <;> omega
theorem next_step2 {w : Wk} {l : Int} {s : Bool} {a b : Int} : nextL w l s a (b + 1) ≤ nextL w l s a b + 1 := by
  unfold nextL
  cases s <;> simp only [Bool.false_eq_true, if_false, if_true] <;> omega
/-- the levels are all from one end of the span to the other -/
theorem levels_span {w : Wk} {h : Hr} (hf : 0 ≤ w.flow) (hh : h.Ok) {l : Int} {s : Bool} {z : Int} : z ∈ levelsOf w h l s ↔ (spanL w h l s).1 ≤ z ∧ z ≤ (spanL w h l s).2 := by
  rw [mem_levels]
  unfold spanL Hr.Ok at *
  simp only
  constructor
  · rintro ⟨a, ha, b, hb, rfl⟩
    exact ⟨next_up hf ha.1 hb.1, next_up hf ha.2 hb.2⟩
  · rintro ⟨h1, h2⟩
    by_cases q : z ≤ nextL w l s h.sh h.rl
    · obtain ⟨k, hk, e⟩ := walk_meets (g := fun n => nextL w l s (h.sl + (n : Int)) h.rl) (fun n => by
        have := next_step1 (w := w) (l := l) (s := s) (a := h.sl + (n : Int)) (b := h.rl)
        have e : h.sl + ((n + 1 : Nat) : Int) = h.sl + (n : Int) + 1 := by omega
        simp only [e]; exact this) (h.sh - h.sl).toNat z (by simpa using h1) (by
          have e : h.sl + ((h.sh - h.sl).toNat : Int) = h.sh := by omega
          simp only [e]; exact q)
      exact ⟨h.sl + (k : Int), by omega, h.rl, by omega, e.symm⟩
    · obtain ⟨k, hk, e⟩ := walk_meets (g := fun n => nextL w l s h.sh (h.rl + (n : Int))) (fun n => by
        have := next_step2 (w := w) (l := l) (s := s) (a := h.sh) (b := h.rl + (n : Int))
        have e : h.rl + ((n + 1 : Nat) : Int) = h.rl + (n : Int) + 1 := by omega
        simp only [e]; exact this) (h.rh - h.rl).toNat z (by simp; omega) (by
          have e : h.rl + ((h.rh - h.rl).toNat : Int) = h.rh := by omega
          simp only [e]; exact h2)
      exact ⟨h.sh, by omega, h.rl + (k : Int), by omega, e.symm⟩
theorem span_nd (lo hi : Int) : (span lo hi).Nodup := by
  unfold span
  refine List.Pairwise.map _ (R := (· ≠ ·)) (fun a b h e => h (by omega)) (List.nodup_range)
theorem span_sorted (lo hi : Int) : (span lo hi).Pairwise (· ≤ ·) := by
  unfold span
  refine List.Pairwise.map _ (R := (· < ·)) (fun a b h => by omega) (List.pairwise_lt_range)
theorem levels_perm {w : Wk} {h : Hr} (hf : 0 ≤ w.flow) (hh : h.Ok) {l : Int} {s : Bool} : (levelsOf w h l s).Perm (span (spanL w h l s).1 ((spanL w h l s).2 + 1)) := by
  rw [List.perm_ext_iff_of_nodup levels_nd (span_nd _ _)]
  intro z
  rw [levels_span hf hh, mem_span, Int.lt_add_one_iff]
theorem sorted_eq {xs ys zs : List Int} (h1 : ys.Perm xs) (h2 : ys.Pairwise (· ≤ ·)) (h3 : xs.Perm zs) (h4 : zs.Pairwise (· ≤ ·)) : ys = zs :=
  List.Perm.eq_of_pairwise (fun _ _ _ _ => Int.le_antisymm) h2 h4 (h1.trans h3)
theorem levels_ne {w : Wk} {h : Hr} (hf : 0 ≤ w.flow) (hh : h.Ok) {l : Int} {s : Bool} : (spanL w h l s).1 ∈ levelsOf w h l s ∧ (spanL w h l s).2 ∈ levelsOf w h l s := by
  have e : (spanL w h l s).1 ≤ (spanL w h l s).2 := by
    unfold spanL; simp only
    unfold Hr.Ok at hh
    exact next_up hf hh.1.2.1 hh.2.2.1
  rw [levels_span hf hh, levels_span hf hh]
  omega
/-! ### works and hours of the whole range -/
def gW (c : Int) : Wk := ⟨1 + c % 200, 1 + c / 200 % 400, c / 80000 % 401, 1 + c / 7 % 6, c / 11 % (1 + c % 200 + 1)⟩
def gH (m : Int) : Hr := ⟨m % 401, m % 401 + m / 160801 % (401 - m % 401), m / 401 % 401, m / 401 % 401 + m / 7 % (401 - m / 401 % 401), decide (m % 3 = 0)⟩
theorem gW_ok (c : Int) : (gW c).Ok := by
  unfold Wk.Ok gW
  simp only
  have h1 : 0 ≤ c / 11 % (1 + c % 200 + 1) := Int.emod_nonneg _ (by omega)
  have h2 : c / 11 % (1 + c % 200 + 1) < 1 + c % 200 + 1 := Int.emod_lt_of_pos _ (by omega)
  omega
theorem gH_ok (m : Int) : (gH m).Ok := by
  unfold Hr.Ok gH
  simp only
  have h1 : 0 ≤ m / 160801 % (401 - m % 401) := Int.emod_nonneg _ (by omega)
  have h2 : m / 160801 % (401 - m % 401) < 401 - m % 401 := Int.emod_lt_of_pos _ (by omega)
  have h3 : 0 ≤ m / 7 % (401 - m / 401 % 401) := Int.emod_nonneg _ (by omega)
  have h4 : m / 7 % (401 - m / 401 % 401) < 401 - m / 401 % 401 := Int.emod_lt_of_pos _ (by omega)
  omega
theorem hoursOf_small (ns : List Int) (most : Int) : ∀ h ∈ hoursOf ns most, h.sh ≤ 9 ∧ h.rh ≤ 4 := by
  intro h hh
  obtain ⟨k, _, rfl⟩ := List.mem_map.mp hh
  exact hourOf_small _
theorem scl_hrs (hs : List Hr) : ∀ t ∈ hs.map Hr.tv, ∀ v ∈ t.vs, scl v := by
  intro t ht
  obtain ⟨h, _, rfl⟩ := List.mem_map.mp ht
  exact scl_hr h
theorem spanR_ok {w : Wk} {c : Crs} {i : Int} {h : Hr} {l : Int} {s : Bool} (h0 : 0 ≤ i) (hi : c.hours[i.toNat]? = some h) : spanR w c (.int i) l s = .ok (dv (spanL w h l s)) := by
  unfold spanR; rw [at_some h0 hi]
theorem goodR_ok {w : Wk} {c : Crs} {i : Int} {h : Hr} {l : Int} {s : Bool} (h0 : 0 ≤ i) (hi : c.hours[i.toNat]? = some h) : goodR w c (.int i) s l = .ok (dv (goodL w h s l)) := by
  unfold goodR; rw [at_some h0 hi]
theorem hasR_ok {c : Crs} {i : Int} {h : Hr} {a b : Int} (h0 : 0 ≤ i) (hi : c.hours[i.toNat]? = some h) : hasR c (.int i) a b = .ok (dv (h.has a b)) := by
  unfold hasR; rw [at_some h0 hi]
theorem crs1 {h : Hr} (k : h.Ok) : Crs.Ok ⟨[h]⟩ := ⟨Nat.le_refl _, Nat.le_of_ble_eq_true rfl, fun x hx => by rw [List.mem_singleton] at hx; exact hx ▸ k⟩
theorem stc_ok {w : Wk} (hw : w.Ok) (b : Bool) : ∀ s ∈ ((span 1 (w.rest + 1)).filter (fun _ => true)).map (fun x => Stt.mk (w.wall / 2) b x), s.Ok w := by
  intro s hs
  obtain ⟨x, hx, rfl⟩ := List.mem_map.mp hs
  have hx := mem_span.mp (List.mem_filter.mp hx).1
  unfold Wk.Ok at hw
  unfold Stt.Ok
  simp only
  omega
theorem stc_len {w : Wk} (hw : w.Ok) (l : Int) (b : Bool) : (((span 1 (w.rest + 1)).filter (fun _ => true)).map (fun x => Stt.mk l b x)).length ≤ 6 := by
  rw [List.length_map]
  have h1 := List.length_filter_le (fun _ : Int => true) (span 1 (w.rest + 1))
  rw [span_len] at h1
  unfold Wk.Ok at hw
  omega
theorem spanL_bnd {w : Wk} {h : Hr} (hw : w.Ok) (hh : h.Ok) {l : Int} {s : Bool} (h0 : 0 ≤ l) (h1 : l ≤ 201) : (-1000 < (spanL w h l s).1 ∧ (spanL w h l s).1 < 2000) ∧ -1000 < (spanL w h l s).2 ∧ (spanL w h l s).2 < 2000 := by
  unfold Wk.Ok at hw
  unfold Hr.Ok at hh
  unfold spanL nextL
  cases s <;> simp only [Bool.false_eq_true, if_false, if_true] <;> omega
theorem ends_eq {w : Wk} {h : Hr} {l : Int} {s : Bool} {levels : List Int} (hs : ∀ z, z ∈ levels ↔ (spanL w h l s).1 ≤ z ∧ z ≤ (spanL w h l s).2) {a b : Int} (ha : a ∈ levels) (la : ∀ z ∈ levels, a ≤ z) (hb : b ∈ levels) (lb : ∀ z ∈ levels, z ≤ b) : spanL w h l s = (a, b) := by
  have h1 := (hs a).mp ha
  have h2 := (hs b).mp hb
  have h3 := la (spanL w h l s).1 ((hs _).mpr (by omega))
  have h4 := lb (spanL w h l s).2 ((hs _).mpr (by omega))
  exact Prod.ext (by show (spanL w h l s).1 = a; omega) (by show (spanL w h l s).2 = b; omega)
end Sk

set_option maxHeartbeats 4000000
/-! # Courses narrowed and raised -/
namespace Sk
open PySem L2 PyProof.Rows Rk
instance : NN Crs := nn_ob
instance : NN Hr := nn_tp
instance : NN Stt := nn_tp
def withinH (h o : Hr) : Bool := decide (o.sl ≤ h.sl) && (decide (h.sh ≤ o.sh) && (decide (o.rl ≤ h.rl) && (decide (h.rh ≤ o.rh) && decide (h.ship = o.ship))))
def fitH (h o : Hr) : Bool := decide h.Ok && withinH h o
def ixV (n : V) : Nat := match n with
  | .int i => i.toNat
  | _ => 0
def narrowR (c : Crs) (n : V) (t : Tv) : Rz := match mkHr t with
  | none => .err 11
  | some h => match c.at_ n with
    | none => .err 12
    | some o => if withinH h o = true then .ok (dv (Crs.mk (c.hours.set (ixV n) h))) else .err 11
theorem at_inv {c : Crs} {n : V} {o : Hr} (h : c.at_ n = some o) : ∃ i : Int, n = .int i ∧ 0 ≤ i ∧ c.hours[i.toNat]? = some o := by
  unfold Crs.at_ at h
  cases n with
  | int i =>
    simp only at h
    by_cases h0 : 0 ≤ i
    · rw [if_pos h0] at h; exact ⟨i, rfl, h0, h⟩
    · rw [if_neg h0] at h; cases h
  | _ => cases h
theorem narrowR_ok {c : Crs} {i : Int} {h o : Hr} (h0 : 0 ≤ i) (hi : c.hours[i.toNat]? = some o) : narrowR c (.int i) h.tv = if fitH h o = true then .ok (dv (Crs.mk (c.hours.set i.toNat h))) else .err 11 := by
  unfold narrowR fitH
  by_cases k : h.Ok
  · rw [mkHr_ok k]
    simp only
    rw [at_some h0 hi]
    simp only [k, decide_true, Bool.true_and]
    rfl
  · rw [mkHr_not k]
    simp only
    rw [if_neg (by simp [k])]
theorem crs_set {c : Crs} (hc : c.Ok) {h : Hr} (k : h.Ok) (i : Nat) : Crs.Ok ⟨c.hours.set i h⟩ := by
  refine ⟨?_, ?_, fun x hx => ?_⟩
  · show 1 ≤ (c.hours.set i h).length; rw [List.length_set]; exact hc.1
  · show (c.hours.set i h).length ≤ 72; rw [List.length_set]; exact hc.2.1
  · rcases List.mem_or_eq_of_mem_set hx with z | z
    · exact hc.2.2 x z
    · rw [z]; exact k
def Hr.up (h : Hr) (s : Int) : Hr := ⟨h.sl, h.sh + s, h.rl, h.rh, h.ship⟩
def raisedOk (c : Crs) (s : Int) : Bool := c.hours.all fun h => decide (h.up s).Ok
def raisedR (c : Crs) (s : Int) : Rz := if raisedOk c s = true then .ok (dv (Crs.mk (c.hours.map fun h => h.up s))) else .err 11
theorem filter_mk {hs : List Hr} (h : ∀ x ∈ hs, x.Ok) : (hs.map Hr.tv).filterMap mkHr = hs := hrs_back h
theorem mkHr_ok? (h : Hr) : (mkHr h.tv).isSome = decide h.Ok := by
  by_cases k : h.Ok
  · rw [mkHr_ok k, decide_eq_true k]; rfl
  · rw [mkHr_not k, decide_eq_false k]; rfl
theorem initCrs_up {c : Crs} (hc : c.Ok) (s : Int) : initCrs ((c.hours.map fun h => h.up s).map Hr.tv) = if raisedOk c s = true then .ok (Crs.fs ⟨c.hours.map fun h => h.up s⟩) else .err 11 := by
  have e : ((c.hours.map fun h => h.up s).map Hr.tv).all (fun t => (mkHr t).isSome) = raisedOk c s := by
    unfold raisedOk
    rw [List.all_map, List.all_map]
    congr 1
    funext h
    exact mkHr_ok? _
  unfold initCrs
  rw [e, List.length_map, List.length_map]
  by_cases q : raisedOk c s = true
  · rw [if_pos ⟨hc.1, hc.2.1, q⟩, if_pos q, filter_mk]
    intro x hx
    obtain ⟨h, hh, rfl⟩ := List.mem_map.mp hx
    unfold raisedOk at q
    rw [List.all_eq_true] at q
    simpa using q h hh
  · rw [if_neg fun z => q z.2.2, if_neg q]
theorem fit_eq {o : Hr} (ho : o.Ok) (a b c d : Int) (s : Bool) :
    ((decide (o.sl ≤ a) && (decide (b ≤ o.sh) && (decide (o.rl ≤ c) && (decide (d ≤ o.rh) && decide (s = o.ship))))) && (decide (a ≤ b) && decide (c ≤ d))) = fitH ⟨a, b, c, d, s⟩ o := by
  unfold fitH withinH
  unfold Hr.Ok at ho
  rw [Bool.eq_iff_iff]
  simp only [Bool.and_eq_true, decide_eq_true_eq]
  unfold Hr.Ok
  simp only
  constructor
  · rintro ⟨⟨h1, h2, h3, h4, h5⟩, h6, h7⟩
    exact ⟨⟨by omega, by omega⟩, h1, h2, h3, h4, h5⟩
  · rintro ⟨⟨h1, h2⟩, h3, h4, h5, h6, h7⟩
    exact ⟨⟨h3, h4, h5, h6, h7⟩, by omega, by omega⟩
def hAt (hs : List Hr) (k : Int) : Hr := (hs[k.toNat]?).getD ⟨0, 0, 0, 0, false⟩
theorem hAt_some {hs : List Hr} {k : Int} (h0 : 0 ≤ k) (h1 : k < (hs.length : Int)) : hs[k.toNat]? = some (hAt hs k) := by
  unfold hAt
  rw [List.getElem?_eq_getElem (by omega)]; rfl
theorem filter_yes {α : Type} (xs : List α) : xs.filter (fun _ => true) = xs := List.filter_eq_self.mpr fun _ _ => rfl
theorem hAt_all (hs : List Hr) : ((span 0 (hs.length : Int)).filter (fun _ => true)).map (hAt hs) = hs := by
  rw [filter_yes]
  apply List.ext_getElem?
  intro i
  rw [List.getElem?_map]
  by_cases h : i < hs.length
  · rw [span_get (by omega), Option.map_some, List.getElem?_eq_getElem h]
    unfold hAt
    rw [show ((0 : Int) + (i : Int)).toNat = i from by omega, List.getElem?_eq_getElem h]; rfl
  · rw [List.getElem?_eq_none_iff.mpr (by rw [span_len]; omega), List.getElem?_eq_none_iff.mpr (by omega)]; rfl
def o4 (h : Hr) (k : Int) : Int := if k = 0 then h.sl else if k = 1 then h.sh else if k = 2 then h.rl else h.rh
def c4 (a b c d : Int) (k : Int) : Int := if k = 0 then a else if k = 1 then b else if k = 2 then c else d
theorem in4 {k : Int} (h : k ∈ span 0 4) : k = 0 ∨ k = 1 ∨ k = 2 ∨ k = 3 := by
  rw [mem_span] at h; omega
theorem o4_at {h : Hr} {k : Int} (m : k ∈ span 0 4) : 0 ≤ k ∧ h.ds[k.toNat]? = some (dv (o4 h k)) := by
  rcases in4 m with rfl | rfl | rfl | rfl <;> exact ⟨by decide, rfl⟩
theorem c4_at {a b c d k : Int} (m : k ∈ span 0 4) : 0 ≤ k ∧ [a, b, c, d][k.toNat]? = some (c4 a b c d k) := by
  rcases in4 m with rfl | rfl | rfl | rfl <;> exact ⟨by decide, rfl⟩
theorem set_cut {hs : List Hr} {i : Int} {h : Hr} (h0 : 0 ≤ i) (h1 : i < (hs.length : Int)) : hs.set i.toNat h = hs.take i.toNat ++ [h] ++ hs.drop (i + 1).toNat := by
  rw [List.set_eq_take_append_cons_drop, if_pos (by omega), show (i + 1).toNat = i.toNat + 1 from by omega, List.append_assoc]; rfl
theorem up_ok {hs : List Hr} (ho : ∀ h ∈ hs, h.Ok) {s : Int} (h0 : 0 ≤ s) (h1 : ∀ h ∈ hs, h.sh + s ≤ 400) : raisedOk ⟨hs⟩ s = true := by
  unfold raisedOk
  rw [List.all_eq_true]
  intro h hh
  have a := ho h hh
  have b := h1 h hh
  unfold Hr.Ok at a
  refine decide_eq_true ?_
  unfold Hr.Ok Hr.up
  simp only
  omega
theorem up_no {hs : List Hr} {h : Hr} (hh : h ∈ hs) {s : Int} (h1 : 400 < h.sh + s) : raisedOk ⟨hs⟩ s = false := by
  cases q : raisedOk ⟨hs⟩ s with
  | false => rfl
  | true =>
    unfold raisedOk at q
    rw [List.all_eq_true] at q
    have z := of_decide_eq_true (q h hh)
    unfold Hr.Ok Hr.up at z
    simp only at z
    omega
theorem raisedR_ok {c : Crs} {s : Int} (h : raisedOk c s = true) : raisedR c s = .ok (dv (Crs.mk (c.hours.map fun h => h.up s))) := if_pos h
end Sk

set_option maxHeartbeats 4000000
/-! # The plan: its tables, what its methods come to -/
namespace Sk
open PySem L2 PyProof.Rows Rk
/-! ### the greatest, the least of a list -/
def lmax : List Int → Int
  | [] => 0
  | x :: xs => xs.foldl max x
def lmin : List Int → Int
  | [] => 0
  | x :: xs => xs.foldl min x
theorem foldl_max_le : ∀ (xs : List Int) (a : Int), a ≤ xs.foldl max a ∧ ∀ x ∈ xs, x ≤ xs.foldl max a
  | [], a => ⟨Int.le_refl a, fun x h => by cases h⟩
  | y :: ys, a => by
    obtain ⟨h1, h2⟩ := foldl_max_le ys (max a y)
    refine ⟨Int.le_trans (Int.le_max_left a y) h1, fun x hx => ?_⟩
    rcases List.mem_cons.mp hx with rfl | hx
    · exact Int.le_trans (Int.le_max_right a x) h1
    · exact h2 x hx
theorem foldl_max_mem : ∀ (xs : List Int) (a : Int), xs.foldl max a = a ∨ xs.foldl max a ∈ xs
  | [], a => .inl rfl
  | y :: ys, a => by
    show ys.foldl max (max a y) = a ∨ _
    rcases foldl_max_mem ys (max a y) with h | h
    · by_cases q : a ≤ y
      · right; show ys.foldl max (max a y) ∈ _; rw [h, Int.max_eq_right q]; exact List.mem_cons_self
      · rw [h, Int.max_eq_left (by omega)]; exact .inl rfl
    · exact .inr (List.mem_cons_of_mem _ h)
theorem foldl_min_le : ∀ (xs : List Int) (a : Int), xs.foldl min a ≤ a ∧ ∀ x ∈ xs, xs.foldl min a ≤ x
  | [], a => ⟨Int.le_refl a, fun x h => by cases h⟩
  | y :: ys, a => by
    obtain ⟨h1, h2⟩ := foldl_min_le ys (min a y)
    refine ⟨Int.le_trans h1 (Int.min_le_left a y), fun x hx => ?_⟩
    rcases List.mem_cons.mp hx with rfl | hx
    · exact Int.le_trans h1 (Int.min_le_right a x)
    · exact h2 x hx
theorem foldl_min_mem : ∀ (xs : List Int) (a : Int), xs.foldl min a = a ∨ xs.foldl min a ∈ xs
  | [], a => .inl rfl
  | y :: ys, a => by
    show ys.foldl min (min a y) = a ∨ _
    rcases foldl_min_mem ys (min a y) with h | h
    · by_cases q : a ≤ y
      · rw [h, Int.min_eq_left q]; exact .inl rfl
      · right; show ys.foldl min (min a y) ∈ _; rw [h, Int.min_eq_right (by omega)]; exact List.mem_cons_self
    · exact .inr (List.mem_cons_of_mem _ h)
theorem le_lmax {xs : List Int} {x : Int} (h : x ∈ xs) : x ≤ lmax xs := by
  cases xs with
  | nil => cases h
  | cons y ys =>
    obtain ⟨h1, h2⟩ := foldl_max_le ys y
    rcases List.mem_cons.mp h with rfl | h
    · exact h1
    · exact h2 x h
theorem lmax_mem {xs : List Int} (h : xs ≠ []) : lmax xs ∈ xs := by
  cases xs with
  | nil => exact absurd rfl h
  | cons y ys =>
    show ys.foldl max y ∈ y :: ys
    rcases foldl_max_mem ys y with q | q
    · rw [q]; exact List.mem_cons_self
    · exact List.mem_cons_of_mem _ q
theorem lmin_le {xs : List Int} {x : Int} (h : x ∈ xs) : lmin xs ≤ x := by
  cases xs with
  | nil => cases h
  | cons y ys =>
    obtain ⟨h1, h2⟩ := foldl_min_le ys y
    rcases List.mem_cons.mp h with rfl | h
    · exact h1
    · exact h2 x h
theorem lmin_mem {xs : List Int} (h : xs ≠ []) : lmin xs ∈ xs := by
  cases xs with
  | nil => exact absurd rfl h
  | cons y ys =>
    show ys.foldl min y ∈ y :: ys
    rcases foldl_min_mem ys y with q | q
    · rw [q]; exact List.mem_cons_self
    · exact List.mem_cons_of_mem _ q
theorem lmax_of {xs : List Int} {y : Int} (h : y ∈ xs) (hl : ∀ z ∈ xs, z ≤ y) : y = lmax xs :=
  Int.le_antisymm (le_lmax h) (hl _ (lmax_mem (List.ne_nil_of_mem h)))
theorem lmin_of {xs : List Int} {y : Int} (h : y ∈ xs) (hl : ∀ z ∈ xs, y ≤ z) : y = lmin xs :=
  Int.le_antisymm (hl _ (lmin_mem (List.ne_nil_of_mem h))) (lmin_le h)
/-! ### gates, actions, spans -/
def gatesL (w : Wk) : List (Bool × Int) := out2 (fun _ => 1) (fun _ => w.rest + 1) (fun b k => (b, k)) [false, true]
theorem gatesL_eq (w : Wk) : gatesL w = ((span 1 (w.rest + 1)).map fun k => (false, k)) ++ ((span 1 (w.rest + 1)).map fun k => (true, k)) := by
  unfold gatesL out2; rw [List.flatMap_cons, List.flatMap_cons, List.flatMap_nil, List.append_nil]
theorem mem_gates {w : Wk} {g : Bool × Int} : g ∈ gatesL w ↔ 1 ≤ g.2 ∧ g.2 ≤ w.rest := by
  rw [gatesL_eq, List.mem_append, List.mem_map, List.mem_map]
  obtain ⟨b, k⟩ := g
  constructor
  · rintro (⟨x, hx, e⟩ | ⟨x, hx, e⟩)
    all_goals
      injection e with _ e
      subst e
      have := mem_span.mp hx
      exact ⟨this.1, by show x ≤ w.rest; omega⟩
  · rintro ⟨h1, h2⟩
    have m : k ∈ span 1 (w.rest + 1) := mem_span.mpr ⟨h1, by have : k ≤ w.rest := h2; omega⟩
    cases b
    · exact .inl ⟨k, m, rfl⟩
    · exact .inr ⟨k, m, rfl⟩
theorem gates_nd (w : Wk) : (gatesL w).Nodup := by
  have inj : ∀ b : Bool, ((span 1 (w.rest + 1)).map fun k : Int => (b, k)).Nodup := fun b =>
    List.Pairwise.map _ (fun _ _ n e => n (by injection e)) (span_nd 1 (w.rest + 1))
  rw [gatesL_eq]
  refine List.nodup_append.mpr ⟨inj false, inj true, fun a ha b hb e => ?_⟩
  obtain ⟨x, _, rfl⟩ := List.mem_map.mp ha
  obtain ⟨y, _, rfl⟩ := List.mem_map.mp hb
  injection e with e1 _
  cases e1
theorem gates_len {w : Wk} (hw : w.Ok) : (gatesL w).length ≤ 12 := by
  unfold Wk.Ok at hw
  rw [gatesL_eq, List.length_append, List.length_map, List.length_map, span_len]
  omega
def Tab (w : Wk) (f : Bool → Int → Int → Int) : Dic (Bool × Int) (List Int) := ⟨(gatesL w).map fun g => (g, (span 0 (w.wall + 1)).map (f g.1 g.2))⟩
theorem tab_at {w : Wk} {f : Bool → Int → Int → Int} {b : Bool} {k : Int} (h : 1 ≤ k ∧ k ≤ w.rest) : ((b, k), (span 0 (w.wall + 1)).map (f b k)) ∈ (Tab w f).kvs := List.mem_map.mpr ⟨(b, k), mem_gates.mpr h, rfl⟩
theorem row_at {w : Wk} {f : Int → Int} {l : Int} (h0 : 0 ≤ l) (h1 : l ≤ w.wall) : ((span 0 (w.wall + 1)).map f)[l.toNat]? = some (f l) := by
  rw [List.getElem?_map, span_get (by omega), Option.map_some]
  congr 2; omega
theorem row_len {w : Wk} {f : Int → Int} : ((span 0 (w.wall + 1)).map f).length = (w.wall + 1).toNat := by rw [List.length_map, span_len, Int.sub_zero]
def actsL (w : Wk) (s : Stt) : List (Bool × Int) := dcF (fun b => decide (s.since = w.rest) || decide (b = s.shut)) id (fun b => lSince w s b) [false, true]
def actsR (w : Wk) (t : Tv) : Rz := match mkSt w t with
  | some s => .ok (dv (Dic.mk (actsL w s)))
  | none => .err 12
theorem actsR_ok {w : Wk} {s : Stt} (h : s.Ok w) : actsR w s.tv = .ok (dv (Dic.mk (actsL w s))) := by unfold actsR; rw [mkSt_ok h]
theorem mem_acts {w : Wk} {s : Stt} (h : s.Ok w) {b : Bool} {k : Int} : (b, k) ∈ actsL w s ↔ lMay w s b = true ∧ k = lSince w s b := by
  unfold actsL dcF lMay
  unfold Stt.Ok at h
  rw [List.mem_map]
  constructor
  · rintro ⟨x, hx, e⟩
    injection e with e1 e2
    subst e1
    have hx := (List.mem_filter.mp hx).2
    refine ⟨?_, e2.symm⟩
    simp only [Bool.or_eq_true, decide_eq_true_eq] at hx ⊢
    rcases hx with hx | hx
    · right; omega
    · left; exact hx
  · rintro ⟨h1, rfl⟩
    refine ⟨b, List.mem_filter.mpr ⟨by cases b <;> simp, ?_⟩, rfl⟩
    simp only [Bool.or_eq_true, decide_eq_true_eq] at h1 ⊢
    rcases h1 with h1 | h1
    · right; exact h1
    · left; omega
theorem acts_keys {w : Wk} {s : Stt} (h : s.Ok w) {b : Bool} : b ∈ (actsL w s).map Prod.fst ↔ lMay w s b = true := by
  rw [List.mem_map]
  constructor
  · rintro ⟨⟨x, k⟩, hx, rfl⟩; exact ((mem_acts h).mp hx).1
  · exact fun q => ⟨(b, lSince w s b), (mem_acts h).mpr ⟨q, rfl⟩, rfl⟩
theorem lSince_ok {w : Wk} {s : Stt} (hw : w.Ok) (h : s.Ok w) (b : Bool) : 1 ≤ lSince w s b ∧ lSince w s b ≤ w.rest := by
  unfold Wk.Ok at hw; unfold Stt.Ok at h; unfold lSince
  split <;> omega
theorem acts_two {w : Wk} {s : Stt} : (∃ p, actsL w s = [p]) ∨ ∃ p q, actsL w s = [p, q] := by
  unfold actsL dcF
  by_cases h : s.since = w.rest
  · rw [decide_eq_true h]; exact .inr ⟨_, _, rfl⟩
  · rw [decide_eq_false h]
    cases hs : s.shut
    · exact .inl ⟨_, rfl⟩
    · exact .inl ⟨_, rfl⟩
def gsp (w : Wk) (h : Hr) (s : Bool) (l : Int) : Op (Int × Int) := if (goodL w h s (spanL w h l s).1 && goodL w h s (spanL w h l s).2) = true then ⟨some (spanL w h l s)⟩ else ⟨none⟩
def spansL (w : Wk) (h : Hr) (s : Bool) (m : Int) : List (Op (Int × Int)) := (span 0 m).map (gsp w h s)
theorem spansL_s {w : Wk} {h : Hr} {s : Bool} {m : Int} (g : 0 ≤ m) : spansL w h s (m + 1) = spansL w h s m ++ [gsp w h s m] := by
  unfold spansL; rw [span_s g, List.map_append]; rfl
theorem spanL_le {w : Wk} {h : Hr} (hf : 0 ≤ w.flow) (hh : h.Ok) (l : Int) (s : Bool) : (spanL w h l s).1 ≤ (spanL w h l s).2 := by
  unfold Hr.Ok at hh
  exact next_up hf (by omega) (by omega)
theorem next_pos {w : Wk} {l a b : Int} {s : Bool} (hf : 0 ≤ w.flow) (hl : 0 ≤ l) (ha : 0 ≤ a) (hb : 0 ≤ b) : 0 ≤ nextL w l s a b := by
  unfold nextL
  split
  · omega
  · omega
theorem gsp_some {w : Wk} {h : Hr} {s : Bool} {l : Int} {p : Int × Int} (hw : w.Ok) (hh : h.Ok) (h0 : 0 ≤ l) (e : (gsp w h s l).o = some p) : p = spanL w h l s ∧ 0 ≤ p.1 ∧ p.1 ≤ p.2 ∧ p.2 ≤ w.wall := by
  unfold gsp at e
  split at e
  · rename_i g
    have ep : spanL w h l s = p := Option.some.inj e
    subst ep
    unfold Wk.Ok at hw
    refine ⟨rfl, ?_, spanL_le (by omega) hh l s, ?_⟩
    · unfold Hr.Ok at hh; exact next_pos (by omega) h0 (by omega) (by omega)
    · unfold goodL at g; simp at g; exact g.2.1
  · cases e
/-! ### costs, worst numbers; 1000 stands for none -/
def bump (s : Bool) (m : Int) : Int := if m = 1000 then 1000 else if s = true then m + 1 else m
def wcase (g : Op (Int × Int)) (s : Bool) (row : List Int) : Int := match g.o with
  | none => 1000
  | some p => bump s (lmax ((row.drop p.1.toNat).take ((p.2 + 1).toNat - p.1.toNat)))
def costF (w : Wk) (h : Hr) (f : Bool → Int → Int → Int) (s : Bool) (k l : Int) : Int := wcase (gsp w h s l) s ((span 0 (w.wall + 1)).map (f s k))
def worstF (w : Wk) (g : Bool → Int → Int → Int) (s : Bool) (k l : Int) : Int := lmin ((actsL w ⟨0, s, k⟩).map fun p => g p.1 p.2 l)
def planW (w : Wk) : List Hr → Bool → Int → Int → Int
  | [] => fun _ _ _ => 0
  | h :: hs => worstF w (costF w h (planW w hs))
def told (i : Int) : Option Int := if i = 1000 then none else some i
def hAt0 (c : Crs) (k : Nat) : Hr := (c.hours[k]?).getD ⟨0, 0, 0, 0, false⟩
def costAt (w : Wk) (c : Crs) (k : Nat) : Bool → Int → Int → Int := costF w (hAt0 c k) (planW w (c.hours.drop (k + 1)))
def worstAt (w : Wk) (c : Crs) (k : Nat) : Bool → Int → Int → Int := planW w (c.hours.drop k)
structure Pl where
  works : Wk
  course : Crs
  costs : List (Dic (Bool × Int) (List Int))
  worst : List (Dic (Bool × Int) (List Int))
def Pl.fs (p : Pl) : List (Str × DV) := [("works", dv p.works), ("course", dv p.course), ("_costs", dv p.costs), ("_worst", dv p.worst)]
instance : Rp Pl := obRp 2 Pl.fs
theorem Pl.lk_works (p : Pl) : p.fs.lookup ("works" : Str) = some (dv p.works) := by rfl
theorem Pl.lk_course (p : Pl) : p.fs.lookup ("course" : Str) = some (dv p.course) := by rfl
theorem Pl.lk__costs (p : Pl) : p.fs.lookup ("_costs" : Str) = some (dv p.costs) := by rfl
theorem Pl.lk__worst (p : Pl) : p.fs.lookup ("_worst" : Str) = some (dv p.worst) := by rfl
theorem Pl.no_worst (p : Pl) : p.fs.lookup ("worst" : Str) = none := by rfl
theorem Pl.no_is_kept (p : Pl) : p.fs.lookup ("is_kept" : Str) = none := by rfl
theorem Pl.no_levels (p : Pl) : p.fs.lookup ("levels" : Str) = none := by rfl
theorem Pl.no_cost (p : Pl) : p.fs.lookup ("cost" : Str) = none := by rfl
theorem Pl.no_action (p : Pl) : p.fs.lookup ("action" : Str) = none := by rfl
theorem Pl.no_beaten_by (p : Pl) : p.fs.lookup ("beaten_by" : Str) = none := by rfl
theorem Pl.no__check (p : Pl) : p.fs.lookup ("_check" : Str) = none := by rfl
theorem Pl.no__cost (p : Pl) : p.fs.lookup ("_cost" : Str) = none := by rfl
theorem Pl.no__holds (p : Pl) : p.fs.lookup ("_holds" : Str) = none := by rfl
def costsFrom (w : Wk) (c : Crs) (n j : Nat) : List (Dic (Bool × Int) (List Int)) := (List.range j).map fun i => Tab w (costAt w c (n - 1 - i))
def worstFrom (w : Wk) (c : Crs) (n j : Nat) : List (Dic (Bool × Int) (List Int)) := (List.range (j + 1)).map fun i => Tab w (worstAt w c (n - i))
def planOf (w : Wk) (c : Crs) : Pl := ⟨w, c, (costsFrom w c c.hours.length c.hours.length).reverse, (worstFrom w c c.hours.length c.hours.length).reverse⟩
theorem costs_at {w : Wk} {c : Crs} {k : Nat} (h : k < c.hours.length) : (planOf w c).costs[k]? = some (Tab w (costAt w c k)) := by
  show ((costsFrom w c _ _).reverse)[k]? = _
  unfold costsFrom
  rw [List.getElem?_reverse (by rw [List.length_map, List.length_range]; exact h), List.length_map, List.length_range, List.getElem?_map, List.getElem?_range (by omega), Option.map_some]
  congr 3; omega
theorem worst_at {w : Wk} {c : Crs} {k : Nat} (h : k ≤ c.hours.length) : (planOf w c).worst[k]? = some (Tab w (worstAt w c k)) := by
  show ((worstFrom w c _ _).reverse)[k]? = _
  unfold worstFrom
  rw [List.getElem?_reverse (by rw [List.length_map, List.length_range]; omega), List.length_map, List.length_range, List.getElem?_map, List.getElem?_range (by omega), Option.map_some]
  congr 3; omega
theorem worst_step {w : Wk} {c : Crs} {k : Nat} (h : k < c.hours.length) : worstAt w c k = worstF w (costAt w c k) := by
  unfold worstAt costAt hAt0
  rw [List.drop_eq_getElem_cons h, List.getElem?_eq_getElem h]; rfl
/-- a number of the hours, or of the one behind the last -/
def numC (c : Crs) (n : V) : Option Nat := match n with
  | .int i => if 0 ≤ i ∧ i ≤ (c.hours.length : Int) then some i.toNat else none
  | _ => none
theorem numC_some {c : Crs} {n : V} {k : Nat} (h : numC c n = some k) : n = .int k ∧ k ≤ c.hours.length := by
  unfold numC at h
  split at h
  · split at h
    · cases h; rename_i q; exact ⟨by rw [Int.toNat_of_nonneg q.1], by omega⟩
    · cases h
  · cases h
theorem numC_is {c : Crs} {n : V} : (numC c n).isSome = isWh n 0 (c.hours.length : Int) := by
  cases n with
  | int i =>
    show (if 0 ≤ i ∧ i ≤ (c.hours.length : Int) then some i.toNat else none).isSome = decide (0 ≤ i ∧ i ≤ (c.hours.length : Int))
    by_cases q : 0 ≤ i ∧ i ≤ (c.hours.length : Int)
    · rw [if_pos q, decide_eq_true q]; rfl
    · rw [if_neg q, decide_eq_false q]; rfl
  | _ => rfl
theorem numC_ok {c : Crs} {k : Nat} (h : k ≤ c.hours.length) : numC c (.int k) = some k := by
  unfold numC; simp only; rw [if_pos ⟨by omega, by omega⟩]; simp
end Sk
namespace Sk
open PySem L2 PyProof.Rows Rk
theorem zeros (n : Nat) : (List.replicate n [(0 : Int)]).flatten = List.replicate n 0 := by
  induction n with
  | zero => rfl
  | succ n ih => rw [List.replicate_succ, List.replicate_succ, List.flatten_cons, ih]; rfl
theorem end_tab {w : Wk} (hw : w.Ok) : Rz.ok (dv (Tab w fun _ _ _ => 0)) = Rz.ok (dv (Dic.mk (dcF (fun _ => true) id (fun _ : Bool × Int => (List.replicate (w.wall + 1).toNat [(0 : Int)]).flatten) (gatesL w)))) := by
  unfold Tab dcF
  rw [filter_yes, zeros]
  have e : (span 0 (w.wall + 1)).map (fun _ => (0 : Int)) = List.replicate (w.wall + 1).toNat 0 := by rw [List.map_const', span_len, Int.sub_zero]
  congr 4
  funext g
  show (g, _) = (id g, _)
  rw [e]; rfl
theorem spansL_len {w : Wk} {h : Hr} {s : Bool} {m : Int} : (spansL w h s m).length = m.toNat := by unfold spansL; rw [List.length_map, span_len, Int.sub_zero]
theorem gsp_eq {w : Wk} {h : Hr} {s : Bool} {l : Int} {p : Int × Int} {ends : List Bool} (hp : p = spanL w h l s) (he : ends = List.map (fun x => goodL w h s x) (List.filter (fun _ => true) [p.1, p.2])) : (if ends.all id = true then (⟨some (p.1, p.2)⟩ : Op (Int × Int)) else ⟨none⟩) = gsp w h s l := by
  subst he; subst hp
  unfold gsp
  simp
theorem op_some {g : Op (Int × Int)} (h : Nn.isN g = false) : ∃ p, g.o = some p := by
  obtain ⟨o⟩ := g
  cases o with
  | none => cases h
  | some p => exact ⟨p, rfl⟩
theorem wcase_none {g : Op (Int × Int)} {s : Bool} {r : List Int} (h : Nn.isN g = true) : wcase g s r = 1000 := by
  obtain ⟨o⟩ := g
  cases o with
  | none => rfl
  | some p => cases h
theorem wcase_some {g : Op (Int × Int)} {s : Bool} {r : List Int} {p : Int × Int} (h : g.o = some p) : wcase g s r = bump s (lmax ((r.drop p.1.toNat).take ((p.2 + 1).toNat - p.1.toNat))) := by
  obtain ⟨o⟩ := g
  cases h; rfl
theorem spans_len {w : Wk} {h : Hr} {s : Bool} (hw : w.Ok) : (spansL w h s (w.wall + 1)).length ≤ 40000 := by
  unfold Wk.Ok at hw; rw [spansL_len]; omega
theorem spans_in {w : Wk} {c : Crs} {i : Int} {h : Hr} {s : Bool} {g : Op (Int × Int)} {f : Int → Int} (hw : w.Ok) (hc : c.Ok) (hi : c.hours[i.toNat]? = some h) (m : g ∈ spansL w h s (w.wall + 1)) : ∀ p, g.o = some p → 0 ≤ p.1 ∧ p.1 ≤ p.2 ∧ p.2 < (((span 0 (w.wall + 1)).map f).length : Int) := fun p e => by
  obtain ⟨l, hl, rfl⟩ := List.mem_map.mp m
  have l0 := mem_span.mp hl
  obtain ⟨_, a, b, c⟩ := gsp_some hw (hc.2.2 h (List.mem_of_getElem? hi)) l0.1 e
  unfold Wk.Ok at hw
  rw [row_len]
  exact ⟨a, b, by omega⟩
theorem costs_tab {w : Wk} {h : Hr} {f : Bool → Int → Int → Int} : Dic.mk (dcF (fun _ => true) id (fun g : Bool × Int => (spansL w h g.1 (w.wall + 1)).map fun o => wcase o g.1 ((span 0 (w.wall + 1)).map (f g.1 g.2))) (gatesL w)) = Tab w (costF w h f) := by
  unfold Tab dcF
  rw [filter_yes]
  congr 2
  funext g
  show (g, _) = (g, _)
  congr 1
  show List.map _ (List.map _ _) = _
  rw [List.map_map]; rfl
theorem tv_scl (a c : Int) (b : Bool) : ∀ v ∈ (Tv.mk [.int a, .bl b, .int c]).vs, scl v := scl_st ⟨a, b, c⟩
theorem acts_rows {w : Wk} {s : Stt} {g : Bool → Int → Int → Int} : (((actsL w s).map Prod.fst).map fun a => (span 0 (w.wall + 1)).map (g a (lSince w s a))) = (actsL w s).map fun p => (span 0 (w.wall + 1)).map (g p.1 p.2) := by
  rw [List.map_map]
  refine List.map_congr_left fun p hp => ?_
  unfold actsL dcF at hp
  obtain ⟨x, _, rfl⟩ := List.mem_map.mp hp
  rfl
theorem rows_two {w : Wk} {s : Stt} {g : Bool × Int → Int → Int} (hw : w.Ok) : (∃ r, ((actsL w s).map fun p => (span 0 (w.wall + 1)).map (g p)) = [r] ∧ r.length ≤ 40000) ∨ ∃ r r2, ((actsL w s).map fun p => (span 0 (w.wall + 1)).map (g p)) = [r, r2] ∧ r.length = r2.length ∧ r.length ≤ 40000 := by
  unfold Wk.Ok at hw
  rcases acts_two (w := w) (s := s) with ⟨p, e⟩ | ⟨p, q, e⟩
  · rw [e]; exact .inl ⟨_, rfl, by rw [row_len]; omega⟩
  · rw [e]; exact .inr ⟨_, _, rfl, by rw [row_len, row_len], by rw [row_len]; omega⟩
theorem cols_ne {rows : List (List Int)} {t : Tl Int} (h : t ∈ cols rows) : t.xs ≠ [] := by
  unfold cols at h
  split at h
  · obtain ⟨x, _, rfl⟩ := List.mem_map.mp h; exact nofun
  · obtain ⟨x, _, rfl⟩ := List.mem_map.mp h; exact nofun
  · cases h
theorem worst_row {w : Wk} {b : Bool} {k : Int} {g : Bool → Int → Int → Int} {rows : List (List Int)} (e : rows = (actsL w ⟨0, b, k⟩).map fun p => (span 0 (w.wall + 1)).map (g p.1 p.2)) : ((cols rows).filter fun _ => true).map (fun t => lmin t.xs) = (span 0 (w.wall + 1)).map (worstF w g b k) := by
  rw [filter_yes, e]
  unfold worstF
  rcases acts_two (w := w) (s := ⟨0, b, k⟩) with ⟨p, e⟩ | ⟨p, q, e⟩
  · rw [e]; simp only [List.map_cons, List.map_nil, cols, List.map_map]; rfl
  · rw [e]; simp only [List.map_cons, List.map_nil, cols, List.map_map, List.zip_map', List.map_map]; rfl
theorem worst_new {w : Wk} {m : Nat} {g : Bool × Int} {β : Type} {f : Bool × Int → β} (h : (gatesL w)[m]? = some g) : g ∉ (((gatesL w).take m).map fun x => (x, f x)).map Prod.fst := by
  rw [List.map_map, show (Prod.fst ∘ fun x => (x, f x)) = id from rfl, List.map_id]
  intro hm
  have nd := gates_nd w
  obtain ⟨hl, hg⟩ := List.getElem?_eq_some_iff.mp h
  have e : gatesL w = (gatesL w).take m ++ (gatesL w).drop m := (List.take_append_drop m _).symm
  rw [e] at nd
  exact (List.nodup_append.mp nd).2.2 g hm g (by rw [List.drop_eq_getElem_cons hl, hg]; exact List.mem_cons_self) rfl
end Sk

set_option maxHeartbeats 4000000
/-! # Plan.__init__: the plan and its two lists while they grow -/
namespace Sk
open PySem L2 PyProof.Rows Rk
/-- what is hidden while the plan is made -/
def hz (hs : Addr → Prop) (p q1 q2 : Addr) : Addr → Prop := fun x => hs x ∨ x = p ∨ x = q1 ∨ x = q2
/-- the plan at p, its lists at q1 and q2 -/
structure PSt (G : Gm) (hs : Addr → Prop) (H0 : Hp) (p q1 q2 : Addr) (w : Wk) (c : Crs) (xs ys : List (Dic (Bool × Int) (List Int))) (σ : L2.St) (H : Hp) : Prop where
  s0 : σ[0]? = some (some (.ref p))
  s1 : ∃ v, σ[1]? = some (some v) ∧ (dv w).rep G (Hid (hz hs p q1 q2) H) v
  s2 : ∃ v, σ[2]? = some (some v) ∧ (dv c).rep G (Hid (hz hs p q1 q2) H) v
  len : σ.length = 5
  obj : ∃ dx kvs, H p = some (.ins (G.cls 2) dx kvs) ∧ RepF G (Hid (hz hs p q1 q2) H) kvs [("works", dv w), ("course", dv c), ("_costs", dv (V.ref q1)), ("_worst", dv (V.ref q2))]
  l1 : ∃ vs, H q1 = some (.lst vs) ∧ RepAll G (Hid (hz hs p q1 q2) H) vs (dvs xs)
  l2 : ∃ vs, H q2 = some (.lst vs) ∧ RepAll G (Hid (hz hs p q1 q2) H) vs (dvs ys)
  fr : ∀ x o, x ≠ p → H0 x = some o → H x = some o
  n1 : H0 q1 = none
  n2 : H0 q2 = none
  ne1 : p ≠ q1
  ne2 : p ≠ q2
  ne3 : q1 ≠ q2
  hp : ¬ hs p
  hh : ∀ x, hs x → H0 x ≠ none
section
variable {G : Gm} {hs : Addr → Prop} {H0 H H' : Hp} {p q1 q2 : Addr} {w : Wk} {c : Crs} {xs ys : List (Dic (Bool × Int) (List Int))} {σ : L2.St}
theorem PSt.mono (P : PSt G hs H0 p q1 q2 w c xs ys σ H) (s : Same H H') : PSt G hs H0 p q1 q2 w c xs ys σ H' :=
  { P with
    s1 := P.s1.elim fun v ⟨a, b⟩ => ⟨v, a, DV.mono (hid_same s) b⟩
    s2 := P.s2.elim fun v ⟨a, b⟩ => ⟨v, a, DV.mono (hid_same s) b⟩
    obj := by obtain ⟨dx, kvs, a, b⟩ := P.obj; exact ⟨dx, kvs, s _ _ a, b.mono (hid_same s)⟩
    l1 := P.l1.elim fun v ⟨a, b⟩ => ⟨v, s _ _ a, b.mono (hid_same s)⟩
    l2 := P.l2.elim fun v ⟨a, b⟩ => ⟨v, s _ _ a, b.mono (hid_same s)⟩
    fr := fun x o n e => s _ _ (P.fr x o n e) }
theorem PSt.set (P : PSt G hs H0 p q1 q2 w c xs ys σ H) {i : Nat} (hi : 3 ≤ i) (o : Option V) : PSt G hs H0 p q1 q2 w c xs ys (σ.set i o) H :=
  { P with
    s0 := by rw [List.getElem?_set_ne (by omega)]; exact P.s0
    s1 := by rw [List.getElem?_set_ne (by omega)]; exact P.s1
    s2 := by rw [List.getElem?_set_ne (by omega)]; exact P.s2
    len := by rw [List.length_set]; exact P.len }
theorem PSt.hidden (P : PSt G hs H0 p q1 q2 w c xs ys σ H) : ∀ x, hz hs p q1 q2 x → H x ≠ none := fun x z => by
  rcases z with z | rfl | rfl | rfl
  · intro e
    by_cases q : x = p
    · subst q; exact P.hp z
    · cases h : H0 x with
      | none => exact P.hh x z h
      | some o => rw [P.fr x o q h] at e; cases e
  · obtain ⟨_, _, a, _⟩ := P.obj; rw [a]; exact nofun
  · obtain ⟨_, a, _⟩ := P.l1; rw [a]; exact nofun
  · obtain ⟨_, a, _⟩ := P.l2; rw [a]; exact nofun
theorem PSt.put1 (P : PSt G hs H0 p q1 q2 w c xs ys σ H) {vs : List V} {zs : List (Dic (Bool × Int) (List Int))} (r : RepAll G (Hid (hz hs p q1 q2) H) vs (dvs zs)) : PSt G hs H0 p q1 q2 w c zs ys σ (upd H q1 (.lst vs)) := by
  have e : Hid (hz hs p q1 q2) (upd H q1 (.lst vs)) = Hid (hz hs p q1 q2) H := hid_upd (.inr (.inr (.inl rfl)))
  exact { P with
    s1 := by rw [e]; exact P.s1
    s2 := by rw [e]; exact P.s2
    obj := by rw [e, upd_ne P.ne1]; exact P.obj
    l1 := ⟨vs, upd_same, by rw [e]; exact r⟩
    l2 := by rw [e, upd_ne (Ne.symm P.ne3)]; exact P.l2
    fr := fun x o n h => by rw [upd_ne (ne_of_none h P.n1)]; exact P.fr x o n h }
theorem PSt.put2 (P : PSt G hs H0 p q1 q2 w c xs ys σ H) {vs : List V} {zs : List (Dic (Bool × Int) (List Int))} (r : RepAll G (Hid (hz hs p q1 q2) H) vs (dvs zs)) : PSt G hs H0 p q1 q2 w c xs zs σ (upd H q2 (.lst vs)) := by
  have e : Hid (hz hs p q1 q2) (upd H q2 (.lst vs)) = Hid (hz hs p q1 q2) H := hid_upd (.inr (.inr (.inr rfl)))
  exact { P with
    s1 := by rw [e]; exact P.s1
    s2 := by rw [e]; exact P.s2
    obj := by rw [e, upd_ne P.ne2]; exact P.obj
    l1 := by rw [e, upd_ne P.ne3]; exact P.l1
    l2 := ⟨vs, upd_same, by rw [e]; exact r⟩
    fr := fun x o n h => by rw [upd_ne (ne_of_none h P.n2)]; exact P.fr x o n h }
theorem _root_.Rk.RepAll.rev {G : Gm} {H : Hp} : ∀ {vs : List V} {ds : List DV}, RepAll G H vs ds → RepAll G H vs.reverse ds.reverse
  | [], [], _ => trivial
  | _ :: _, _ :: _, h => by
    rw [List.reverse_cons, List.reverse_cons]
    exact (Rk.RepAll.rev h.2).app ⟨h.1, trivial⟩
/-- the plan is whole -/
theorem PSt.whole (P : PSt G hs H0 p q1 q2 w c xs ys σ H) {own : Nat → Option Addr} {B : Hp} {env0 : List Ent} {σ0 : L2.St} (K : Rk.Kn G hs B own env0 σ0 H0) (h0 : own 0 = some p) (ho : ∀ i a, own i = some a → i = 0 ∧ a = p) :
    Rk.Kn G hs B own [.ow (oobj p 2 (Pl.fs ⟨w, c, xs, ys⟩)), .no, .no, .no, .no] σ H ∧ Fr hs own own H0 H := by
  have hdE : Rk.hd hs own = fun x => hs x ∨ x = p := by
    funext x; apply propext; constructor
    · rintro (z | ⟨i, z⟩)
      · exact .inl z
      · exact .inr (ho i x z).2
    · rintro (z | z)
      · exact .inl z
      · exact .inr ⟨0, by rw [z]; exact h0⟩
  have sub : Same (Hid (hz hs p q1 q2) H) (Hid (hd hs own) H) := by
    rw [hdE]
    exact hid_more fun a z => z.elim .inl fun z => .inr (.inl z)
  have nh1 : ¬ hd hs own q1 := by
    rw [hdE]; rintro (z | z)
    · exact P.hh q1 z P.n1
    · exact P.ne1 z.symm
  have nh2 : ¬ hd hs own q2 := by
    rw [hdE]; rintro (z | z)
    · exact P.hh q2 z P.n2
    · exact P.ne2 z.symm
  have Bp : B p = none := (K.new 0 p h0).1
  have fr : Fr hs own own H0 H := fun x o e => by
    have h1 := hid_of e
    have nh : ¬ hd hs own x := fun z => by unfold Hid at e; rw [if_pos z] at e; cases e
    rw [hid_at nh]
    refine P.fr x o (fun z => nh ?_) h1
    rw [hdE]; exact .inr z
  refine ⟨{
    ex := fun x o e => P.fr x o (fun z => by rw [z, Bp] at e; cases e) (K.ex x o e)
    hsB := fun x h => P.hidden x (.inl h)
    dis := K.dis
    len := P.len
    inj := K.inj
    new := fun i a h => by obtain ⟨rfl, rfl⟩ := ho i a h; exact ⟨Bp, P.hidden a (.inr (.inl rfl))⟩
    out := fun i a h => by obtain ⟨rfl, rfl⟩ := ho i a h; exact ⟨_, rfl⟩
    ent := fun i e h => ?_ }, fr⟩
  match i, h with
  | 0, h =>
    cases h
    obtain ⟨dx, kvs, a, b⟩ := P.obj
    refine ⟨p, _, h0, P.s0, a, rfl, dx, kvs, rfl, ?_⟩
    have b2 := b.mono sub
    match kvs, b2 with
    | [(a1, v1), (a2, v2), (a3, v3), (a4, v4)], ⟨e1, r1, e2, r2, e3, r3, e4, r4, _⟩ =>
      have r3 : v3 = V.ref q1 := r3
      have r4 : v4 = V.ref q2 := r4
      obtain ⟨vs, l1, m1⟩ := P.l1
      obtain ⟨us, l2, m2⟩ := P.l2
      exact ⟨e1, r1, e2, r2, e3, ⟨q1, vs, r3, by rw [hid_at nh1]; exact l1, m1.mono sub⟩, e4, ⟨q2, us, r4, by rw [hid_at nh2]; exact l2, m2.mono sub⟩, trivial⟩
  | 1, h => cases h; trivial
  | 2, h => cases h; trivial
  | 3, h => cases h; trivial
  | 4, h => cases h; trivial
theorem hd_none {hs : Addr → Prop} : Rk.hd hs (fun _ => (none : Option Addr)) = hs := by
  funext a; apply propext; constructor
  · rintro (z | ⟨_, z⟩)
    · exact z
    · cases z
  · exact .inl
theorem PSt.kn (P : PSt G hs H0 p q1 q2 w c xs ys σ H) {B : Hp} (sB : Same B H) : Rk.Kn G (hz hs p q1 q2) B (fun _ => none) [.no, .sh (dv w), .sh (dv c), .no, .no] σ H where
  ex := sB
  hsB := P.hidden
  dis := fun _ _ h => nomatch h
  len := P.len
  inj := fun _ _ _ h => nomatch h
  new := fun _ _ h => nomatch h
  out := fun _ _ h => nomatch h
  ent := fun i e h => by
    match i, h with
    | 0, h => cases h; trivial
    | 1, h => cases h; obtain ⟨v, a, b⟩ := P.s1; exact ⟨v, a, by rw [hd_none]; exact b⟩
    | 2, h => cases h; obtain ⟨v, a, b⟩ := P.s2; exact ⟨v, a, by rw [hd_none]; exact b⟩
    | 3, h => cases h; trivial
    | 4, h => cases h; trivial
theorem PSt.same (P : PSt G hs H0 p q1 q2 w c xs ys σ H) {B : Hp} (sB : Same B H0) (hB : B p = none) : Same B H := fun x o e => P.fr x o (fun z => by rw [z, hB] at e; cases e) (sB x o e)
/-- the plan's attributes, found -/
theorem PSt.attr1 (P : PSt G hs H0 p q1 q2 w c xs ys σ H) : ∃ dx kvs, H p = some (.ins (G.cls 2) dx kvs) ∧ kvs.lookup ("_costs" : Str) = some (V.ref q1) ∧ kvs.lookup ("_worst" : Str) = some (V.ref q2) := by
  obtain ⟨dx, kvs, a, b⟩ := P.obj
  obtain ⟨u1, e1, r1⟩ := b.get (f := "_costs") (d := dv (V.ref q1)) rfl
  obtain ⟨u2, e2, r2⟩ := b.get (f := "_worst") (d := dv (V.ref q2)) rfl
  have r1 : u1 = V.ref q1 := r1
  have r2 : u2 = V.ref q2 := r2
  subst r1; subst r2
  exact ⟨dx, kvs, a, e1, e2⟩
theorem costs_more {w : Wk} {c : Crs} {n j : Nat} : costsFrom w c n (j + 1) = costsFrom w c n j ++ [Tab w (costAt w c (n - 1 - j))] := by
  unfold costsFrom; rw [List.range_succ, List.map_append]; rfl
theorem worst_more {w : Wk} {c : Crs} {n j : Nat} : worstFrom w c n (j + 1) = worstFrom w c n j ++ [Tab w (worstAt w c (n - (j + 1)))] := by
  unfold worstFrom; rw [List.range_succ, List.map_append]; rfl
theorem worst_last {w : Wk} {c : Crs} {n j : Nat} : (worstFrom w c n j).getLast? = some (Tab w (worstAt w c (n - j))) := by
  unfold worstFrom; rw [List.range_succ, List.map_append, List.map_cons, List.map_nil, List.getLast?_append]; rfl
theorem worst_zero {w : Wk} {c : Crs} : worstFrom w c c.hours.length 0 = [Tab w fun _ _ _ => 0] := by
  unfold worstFrom worstAt
  show [Tab w (planW w (c.hours.drop (c.hours.length - 0)))] = _
  rw [Nat.sub_zero, List.drop_length]; rfl
theorem hdE {own : Nat → Option Addr} {hs : Addr → Prop} {p : Addr} (h0 : own 0 = some p) (ho : ∀ i a, own i = some a → i = 0 ∧ a = p) : Rk.hd hs own = fun x => hs x ∨ x = p := by
  funext x; apply propext; constructor
  · rintro (z | ⟨i, z⟩)
    · exact .inl z
    · exact .inr (ho i x z).2
  · rintro (z | z)
    · exact .inl z
    · exact .inr ⟨0, by rw [z]; exact h0⟩
/-- the plan has its first list -/
theorem first_same {own : Nat → Option Addr} {hs : Addr → Prop} {p q1 : Addr} {H2 : Hp} {o : HO} (h0 : own 0 = some p) (ho : ∀ i a, own i = some a → i = 0 ∧ a = p) (nq1 : H2 q1 = none) :
    Same (Hid (Rk.hd hs own) H2) (Hid (fun x => hs x ∨ x = p ∨ x = q1) (upd (upd H2 q1 (.lst [])) p o)) := fun x u e => by
  have h1 := hid_of e
  have nh : ¬ Rk.hd hs own x := fun z => by unfold Hid at e; rw [if_pos z] at e; cases e
  rw [hdE h0 ho] at nh
  have n1 : x ≠ p := fun z => nh (.inr z)
  have n2 : x ≠ q1 := ne_of_none h1 nq1
  have nz : ¬ (hs x ∨ x = p ∨ x = q1) := fun z => by
    rcases z with z | z | z
    · exact nh (.inl z)
    · exact n1 z
    · exact n2 z
  rw [hid_at (hs := fun x => hs x ∨ x = p ∨ x = q1) nz, upd_ne n1, upd_ne n2]
  exact h1
theorem PSt.start {own : Nat → Option Addr} {B H2 H3 : Hp} {env : List Ent} {v1 v2 v3 : V} {dx : Addr} {kvs : List (Str × V)} {d : Dic (Bool × Int) (List Int)} (K : Rk.Kn G hs B own env σ H2) (h0 : own 0 = some p) (ho : ∀ i a, own i = some a → i = 0 ∧ a = p)
    (s0 : σ[0]? = some (some (.ref p))) (s1 : σ[1]? = some (some v1)) (r1 : (dv w).rep G (Hid (Rk.hd hs own) H2) v1) (s2 : σ[2]? = some (some v2)) (r2 : (dv c).rep G (Hid (Rk.hd hs own) H2) v2) (hl : σ.length = 5)
    (rf : RepF G (Hid (Rk.hd hs own) H2) kvs [("works", dv w), ("course", dv c)]) (g1 : H2 p = some (.ins (G.cls 2) dx kvs)) (nq1 : H2 q1 = none)
    (sm : Same (upd (upd H2 q1 (.lst [])) p (.ins (G.cls 2) dx (putF "_costs" (V.ref q1) kvs))) H3) (nq2 : H3 q2 = none) (r3 : (dv d).rep G (Hid (fun x => hs x ∨ x = p ∨ x = q1) H3) v3) :
    PSt G hs H2 p q1 q2 w c [] [d] σ (upd (upd H3 q2 (.lst [v3])) p (.ins (G.cls 2) dx (putF "_worst" (V.ref q2) (putF "_costs" (V.ref q1) kvs)))) := by
  have ne1 : p ≠ q1 := ne_of_none g1 nq1
  have e1 : H3 p = some (.ins (G.cls 2) dx (putF "_costs" (V.ref q1) kvs)) := sm _ _ upd_same
  have e2 : H3 q1 = some (.lst []) := sm _ _ (by rw [upd_ne (Ne.symm ne1), upd_same])
  have ne2 : p ≠ q2 := ne_of_none e1 nq2
  have ne3 : q1 ≠ q2 := ne_of_none e2 nq2
  have fr : ∀ x o, x ≠ p → H2 x = some o → H3 x = some o := fun x o n e => sm _ _ (by rw [upd_ne n, upd_ne (ne_of_none e nq1)]; exact e)
  have n2 : H2 q2 = none := by
    cases h : H2 q2 with
    | none => rfl
    | some o => rw [fr q2 o (Ne.symm ne2) h] at nq2; cases nq2
  have up : Same (Hid (Rk.hd hs own) H2) (Hid (hz hs p q1 q2) (upd (upd H3 q2 (.lst [v3])) p (.ins (G.cls 2) dx (putF "_worst" (V.ref q2) (putF "_costs" (V.ref q1) kvs))))) := fun x u e => by
    have h1 := hid_of e
    have nh : ¬ Rk.hd hs own x := fun z => by unfold Hid at e; rw [if_pos z] at e; cases e
    rw [hdE h0 ho] at nh
    have m1 : x ≠ p := fun z => nh (.inr z)
    have m2 : x ≠ q1 := ne_of_none h1 nq1
    have m3 : x ≠ q2 := ne_of_none h1 n2
    rw [hid_at (by
      rintro (z | z | z | z)
      · exact nh (.inl z)
      · exact m1 z
      · exact m2 z
      · exact m3 z), upd_ne m1, upd_ne m3]
    exact fr x u m1 h1
  have up3 : Same (Hid (fun x => hs x ∨ x = p ∨ x = q1) H3) (Hid (hz hs p q1 q2) (upd (upd H3 q2 (.lst [v3])) p (.ins (G.cls 2) dx (putF "_worst" (V.ref q2) (putF "_costs" (V.ref q1) kvs))))) := fun x u e => by
    have h1 := hid_of e
    have nh : ¬ (hs x ∨ x = p ∨ x = q1) := fun z => by
      rw [show Hid (fun x => hs x ∨ x = p ∨ x = q1) H3 x = none from by unfold Hid; rw [if_pos z]] at e; cases e
    have m1 : x ≠ p := fun z => nh (.inr (.inl z))
    have m2 : x ≠ q1 := fun z => nh (.inr (.inr z))
    have m3 : x ≠ q2 := ne_of_none h1 nq2
    rw [hid_at (by
      rintro (z | z | z | z)
      · exact nh (.inl z)
      · exact m1 z
      · exact m2 z
      · exact m3 z), upd_ne m1, upd_ne m3]
    exact h1
  exact {
    s0 := s0
    s1 := ⟨v1, s1, DV.mono up r1⟩
    s2 := ⟨v2, s2, DV.mono up r2⟩
    len := hl
    obj := by
      refine ⟨dx, _, upd_same, ?_⟩
      have rf2 := rf.mono up
      match kvs, rf2 with
      | [(a1, u1), (a2, u2)], ⟨e1, q1', e2, q2', _⟩ =>
        subst e1; subst e2
        exact ⟨rfl, q1', rfl, q2', rfl, rfl, rfl, rfl, trivial⟩
    l1 := ⟨[], by rw [upd_ne (Ne.symm ne1), upd_ne ne3]; exact e2, trivial⟩
    l2 := ⟨[v3], by rw [upd_ne (Ne.symm ne2), upd_same], DV.mono up3 r3, trivial⟩
    fr := fun x o n e => by rw [upd_ne n, upd_ne (ne_of_none e n2)]; exact fr x o n e
    n1 := nq1
    n2 := n2
    ne1 := ne1
    ne2 := ne2
    ne3 := ne3
    hp := K.dis 0 p h0
    hh := K.hsB }
end
end Sk
namespace Sk
open PySem L2 PyProof.Rows Rk
theorem putF_le (f : Str) (d : V) : ∀ fs : List (Str × V), (putF f d fs).length ≤ fs.length + 1
  | [] => Nat.le_refl _
  | (n, x) :: r => by
    show (if n = f then (n, d) :: r else (n, x) :: putF f d r).length ≤ _
    split
    · exact Nat.le_succ _
    · exact Nat.succ_le_succ (putF_le f d r)
/-- the expression that a range begins with, of the k-th statement of a def -/
def rgArg (st : Stmt) (k : Nat) : Expr := match (defBody st)[k]? with
  | some (.For _ (.Call _ (e :: _) _ _) _ _ _) => e
  | _ => .Constant .none 0 ⟨0, 0, 0, 0⟩
end Sk

set_option maxHeartbeats 4000000
/-! # What the plan's methods answer -/
namespace Sk
open PySem L2 PyProof.Rows Rk
theorem told_is {i : Int} : (told i).isSome = !decide (i = 1000) := by
  unfold told; by_cases h : i = 1000
  · rw [if_pos h, decide_eq_true h]; rfl
  · rw [if_neg h, decide_eq_false h]; rfl
def numH (c : Crs) (n : V) : Option Nat := match n with
  | .int i => if 0 ≤ i ∧ i < (c.hours.length : Int) then some i.toNat else none
  | _ => none
theorem numH_some {c : Crs} {n : V} {k : Nat} (h : numH c n = some k) : n = .int k ∧ k < c.hours.length := by
  unfold numH at h
  split at h
  · split at h
    · cases h; rename_i q; exact ⟨by rw [Int.toNat_of_nonneg q.1], by omega⟩
    · cases h
  · cases h
theorem numH_ok {c : Crs} {k : Nat} (h : k < c.hours.length) : numH c (.int k) = some k := by
  unfold numH; simp only; rw [if_pos ⟨by omega, by omega⟩]; simp
theorem at_none {c : Crs} {n : V} (h : c.at_ n = none) : numH c n = none := by
  unfold Crs.at_ at h
  unfold numH
  cases n with
  | int i =>
    simp only at h ⊢
    rw [if_neg]
    rintro ⟨h0, h1⟩
    rw [if_pos h0, List.getElem?_eq_none_iff] at h
    omega
  | _ => rfl
theorem at_num {c : Crs} {n : V} {h : Hr} (e : c.at_ n = some h) : ∃ k : Nat, numH c n = some k ∧ n = .int k ∧ c.hours[k]? = some h ∧ k < c.hours.length := by
  obtain ⟨i, rfl, h0, hi⟩ := at_inv e
  have hl := (List.getElem?_eq_some_iff.mp hi).1
  refine ⟨i.toNat, ?_, by rw [Int.toNat_of_nonneg h0], hi, hl⟩
  unfold numH; simp only; rw [if_pos ⟨h0, by omega⟩]
def worstR (w : Wk) (c : Crs) (n : V) (t : Tv) : Rz := match numC c n, mkSt w t with
  | some k, some s => .ok (dv (told (worstAt w c k s.shut s.since s.level)))
  | _, _ => .err 12
def keptR (w : Wk) (c : Crs) (n : V) (t : Tv) : Rz := match numC c n, mkSt w t with
  | some k, some s => .ok (dv (!(told (worstAt w c k s.shut s.since s.level)).isNone))
  | _, _ => .err 12
def keptL (w : Wk) (c : Crs) (k : Nat) (b : Bool) (s : Int) : List Int := (span 0 (w.wall + 1)).filter fun l => !decide (worstAt w c k b s l = 1000)
def levelsR (w : Wk) (c : Crs) (n b s : V) : Rz := match numC c n, mkSt w ⟨[.int 0, b, s]⟩ with
  | some k, some s => .ok (dv (keptL w c k s.shut s.since))
  | _, _ => .err 12
def blOf (v : V) : Bool := match v with
  | .bl b => b
  | _ => false
def costI (w : Wk) (c : Crs) (k : Nat) (s : Stt) (b : Bool) : Int := if lMay w s b = true then costAt w c k b (lSince w s b) s.level else 1000
def costIR (w : Wk) (c : Crs) (n : V) (t : Tv) (b : V) : Rz := match numH c n, mkSt w t with
  | some k, some s => .ok (dv (costI w c k s (blOf b)))
  | _, _ => .err 12
def costR (w : Wk) (c : Crs) (n : V) (t : Tv) (b : V) : Rz := match numH c n, mkSt w t with
  | some k, some s => .ok (dv (told (costI w c k s (blOf b))))
  | _, _ => .err 12
def actO (w : Wk) (c : Crs) (k : Nat) (s : Stt) : Option Bool := if min (costI w c k s false) (costI w c k s true) = 1000 then none else some (decide (costI w c k s true < costI w c k s false))
def actionR (w : Wk) (c : Crs) (n : V) (t : Tv) : Rz := match numH c n, mkSt w t with
  | some k, some s => .ok (dv (actO w c k s))
  | _, _ => .err 12
/-! ### what beats an action -/
def downL (H : Int → Bool) : Nat → Int → Int
  | 0, x => x
  | n + 1, x => if H x = true then downL H n (x - 1) else x
def upL (H : Int → Bool) : Nat → Int → Int
  | 0, x => x
  | n + 1, x => if H x = true then upL H n (x + 1) else x
def holdsB (w : Wk) (c : Crs) (k : Nat) (b : Bool) (si x : Int) : Bool := goodL w (hAt0 c k) b x && !decide (worstAt w c (k + 1) b si x = 1000)
def beatL (w : Wk) (c : Crs) (k : Nat) (s : Stt) (b : Bool) : Int := downL (holdsB w c k b (lSince w s b)) ((spanL w (hAt0 c k) s.level b).2 - (spanL w (hAt0 c k) s.level b).1).toNat (spanL w (hAt0 c k) s.level b).2
def seaL (w : Wk) (h : Hr) (l : Int) (s : Bool) (x : Int) : Int := upL (fun a => decide (nextL w l s a h.rh < x)) (h.sh - h.sl).toNat h.sl
def leastP (w : Wk) (h : Hr) (l : Int) (s : Bool) (x : Int) : Int × Int := (seaL w h l s x, upL (fun a => decide (nextL w l s (seaL w h l s x) a < x)) (h.rh - h.rl).toNat h.rl)
def beatP (w : Wk) (c : Crs) (k : Nat) (s : Stt) (b : Bool) : Int × Int := leastP w (hAt0 c k) s.level b (beatL w c k s b)
def beatR (w : Wk) (c : Crs) (n : V) (t : Tv) (b : V) : Rz := match numH c n, mkSt w t with
  | some k, some s => if costI w c k s (blOf b) = 1000 then (if lMay w s (blOf b) = true then .ok (dv (Op.mk (some (beatP w c k s (blOf b))))) else .err 13) else .ok (dv (Op.mk (none : Option (Int × Int))))
  | _, _ => .err 12
theorem downL_stop {H : Int → Bool} {n : Nat} {x : Int} (h : H x = false) : downL H n x = x := by
  cases n with
  | zero => rfl
  | succ n => show (if H x = true then _ else x) = x; rw [h, if_neg Bool.false_ne_true]
theorem downL_go {H : Int → Bool} {n : Nat} {x : Int} (h : H x = true) : downL H (n + 1) x = downL H n (x - 1) := by
  show (if H x = true then _ else x) = _; rw [if_pos h]
theorem upL_stop {H : Int → Bool} {n : Nat} {x : Int} (h : H x = false) : upL H n x = x := by
  cases n with
  | zero => rfl
  | succ n => show (if H x = true then _ else x) = x; rw [h, if_neg Bool.false_ne_true]
theorem upL_go {H : Int → Bool} {n : Nat} {x : Int} (h : H x = true) : upL H (n + 1) x = upL H n (x + 1) := by
  show (if H x = true then _ else x) = _; rw [if_pos h]
/-- what upL comes to -/
theorem upL_is {H : Int → Bool} : ∀ (n : Nat) (x : Int), (∃ y, x ≤ y ∧ y ≤ x + n ∧ H y = false) → H (upL H n x) = false ∧ x ≤ upL H n x ∧ upL H n x ≤ x + n ∧ ∀ y, x ≤ y → y < upL H n x → H y = true
  | 0, x, ⟨y, h1, h2, h3⟩ => by
    have e : y = x := by omega
    subst e
    exact ⟨h3, Int.le_refl _, by simp [upL], fun z a b => absurd b (by show ¬ z < y; omega)⟩
  | n + 1, x, ⟨y, h1, h2, h3⟩ => by
    cases hx : H x with
    | false => rw [upL_stop hx]; exact ⟨hx, Int.le_refl _, by omega, fun z a b => by omega⟩
    | true =>
      rw [upL_go hx]
      have ne : y ≠ x := fun e => by rw [e, hx] at h3; cases h3
      obtain ⟨a, b, c, d⟩ := upL_is n (x + 1) ⟨y, by omega, by omega, h3⟩
      refine ⟨a, by omega, by omega, fun z z1 z2 => ?_⟩
      by_cases q : z = x
      · rw [q]; exact hx
      · exact d z (by omega) z2
theorem downL_is {H : Int → Bool} : ∀ (n : Nat) (x : Int), (∃ y, x - n ≤ y ∧ y ≤ x ∧ H y = false) → H (downL H n x) = false ∧ x - n ≤ downL H n x ∧ downL H n x ≤ x ∧ ∀ y, downL H n x < y → y ≤ x → H y = true
  | 0, x, ⟨y, h1, h2, h3⟩ => by
    have e : y = x := by omega
    subst e
    exact ⟨h3, by simp [downL], Int.le_refl _, fun z a b => absurd a (by show ¬ y < z; omega)⟩
  | n + 1, x, ⟨y, h1, h2, h3⟩ => by
    cases hx : H x with
    | false => rw [downL_stop hx]; exact ⟨hx, by omega, Int.le_refl _, fun z a b => by omega⟩
    | true =>
      rw [downL_go hx]
      have ne : y ≠ x := fun e => by rw [e, hx] at h3; cases h3
      obtain ⟨a, b, c, d⟩ := downL_is n (x - 1) ⟨y, by omega, by omega, h3⟩
      refine ⟨a, by omega, by omega, fun z z1 z2 => ?_⟩
      by_cases q : z = x
      · rw [q]; exact hx
      · exact d z z1 (by omega)
/-! ### bounds of the numbers -/
theorem wcase_bnd {g : Op (Int × Int)} {s : Bool} {row : List Int} {m : Int} (hm : 0 ≤ m) (hm2 : m < 999) (h : ∀ x ∈ row, x = 1000 ∨ 0 ≤ x ∧ x ≤ m) : wcase g s row = 1000 ∨ 0 ≤ wcase g s row ∧ wcase g s row ≤ m + 1 := by
  obtain ⟨o⟩ := g
  cases o with
  | none => exact .inl rfl
  | some p =>
    show bump s (lmax _) = 1000 ∨ 0 ≤ bump s (lmax _) ∧ bump s (lmax _) ≤ m + 1
    have key : ∀ xs : List Int, (∀ x ∈ xs, x ∈ row) → lmax xs = 1000 ∨ 0 ≤ lmax xs ∧ lmax xs ≤ m := fun xs hx => by
      cases xs with
      | nil => exact .inr ⟨Int.le_refl 0, hm⟩
      | cons y ys => exact h _ (hx _ (lmax_mem (by simp)))
    unfold bump
    rcases key ((row.drop p.1.toNat).take ((p.2 + 1).toNat - p.1.toNat)) (fun x q => List.mem_of_mem_drop (List.mem_of_mem_take q)) with e | e
    · rw [e]; exact .inl rfl
    · by_cases q : lmax ((row.drop p.1.toNat).take ((p.2 + 1).toNat - p.1.toNat)) = 1000
      · rw [if_pos q]; exact .inl rfl
      · rw [if_neg q]; split <;> omega
theorem plan_bnd (w : Wk) : ∀ hs : List Hr, hs.length ≤ 72 → ∀ b k l, planW w hs b k l = 1000 ∨ 0 ≤ planW w hs b k l ∧ planW w hs b k l ≤ (hs.length : Int)
  | [], _, _, _, _ => .inr ⟨Int.le_refl 0, Int.le_refl 0⟩
  | h :: hs, hl, b, k, l => by
    rw [List.length_cons] at hl
    have ih := plan_bnd w hs (by omega)
    show lmin ((actsL w ⟨0, b, k⟩).map fun p => costF w h (planW w hs) p.1 p.2 l) = 1000 ∨ _
    have hne : ((actsL w ⟨0, b, k⟩).map fun p => costF w h (planW w hs) p.1 p.2 l) ≠ [] := by
      rcases acts_two (w := w) (s := ⟨0, b, k⟩) with ⟨p, e⟩ | ⟨p, q, e⟩ <;> rw [e] <;> exact nofun
    obtain ⟨p, _, e⟩ := List.mem_map.mp (lmin_mem hne)
    show lmin ((actsL w ⟨0, b, k⟩).map fun p => costF w h (planW w hs) p.1 p.2 l) = 1000 ∨ 0 ≤ lmin ((actsL w ⟨0, b, k⟩).map fun p => costF w h (planW w hs) p.1 p.2 l) ∧ lmin ((actsL w ⟨0, b, k⟩).map fun p => costF w h (planW w hs) p.1 p.2 l) ≤ ((hs.length + 1 : Nat) : Int)
    rw [← e]
    have z := wcase_bnd (g := gsp w h p.1 l) (s := p.1) (row := (span 0 (w.wall + 1)).map (planW w hs p.1 p.2)) (m := (hs.length : Int)) (by omega) (by omega) (fun x hx => by
      obtain ⟨y, _, rfl⟩ := List.mem_map.mp hx
      exact ih p.1 p.2 y)
    unfold costF
    rcases z with z | z
    · exact .inl z
    · exact .inr ⟨z.1, by rw [Int.natCast_add]; exact z.2⟩
theorem worst_bnd {w : Wk} {c : Crs} (hc : c.Ok) (k : Nat) (b : Bool) (s l : Int) : worstAt w c k b s l = 1000 ∨ 0 ≤ worstAt w c k b s l ∧ worstAt w c k b s l ≤ 72 := by
  have h1 := hc.2.1
  have hl : (c.hours.drop k).length ≤ 72 := by rw [List.length_drop]; omega
  unfold worstAt
  rcases plan_bnd w (c.hours.drop k) hl b s l with z | z
  · exact .inl z
  · exact .inr ⟨z.1, by omega⟩
/-- a slice of a row -/
theorem row_cut {w : Wk} {f : Int → Int} {a b : Int} (h0 : 0 ≤ a) (h1 : a ≤ b) (h2 : b ≤ w.wall) : (((span 0 (w.wall + 1)).map f).drop a.toNat).take ((b + 1).toNat - a.toNat) = (span a (b + 1)).map f := by
  rw [← List.map_drop, ← List.map_take]
  congr 1
  apply List.ext_getElem?
  intro i
  rw [List.getElem?_take]
  by_cases hi : i < (b + 1).toNat - a.toNat
  · rw [if_pos hi, List.getElem?_drop, span_get (by omega), span_get (by omega)]
    congr 1; omega
  · rw [if_neg hi, List.getElem?_eq_none_iff.mpr (by rw [span_len]; omega)]
theorem costF_eq {w : Wk} {h : Hr} {f : Bool → Int → Int → Int} {s : Bool} {k l : Int} (hw : w.Ok) (hh : h.Ok) (h0 : 0 ≤ l) : costF w h f s k l = if (goodL w h s (spanL w h l s).1 && goodL w h s (spanL w h l s).2) = true then bump s (lmax ((span (spanL w h l s).1 ((spanL w h l s).2 + 1)).map (f s k))) else 1000 := by
  unfold costF
  by_cases g : (goodL w h s (spanL w h l s).1 && goodL w h s (spanL w h l s).2) = true
  · rw [if_pos g]
    have e : gsp w h s l = ⟨some (spanL w h l s)⟩ := by unfold gsp; rw [if_pos g]
    obtain ⟨_, a, b, c⟩ := gsp_some (p := spanL w h l s) hw hh h0 (by rw [e])
    rw [e, wcase_some (p := spanL w h l s) rfl, row_cut a b c]
  · rw [if_neg g]
    have e : gsp w h s l = ⟨none⟩ := by unfold gsp; rw [if_neg g]
    rw [e]; rfl
theorem hAt0_ok {c : Crs} (hc : c.Ok) {k : Nat} (h : k < c.hours.length) : (hAt0 c k).Ok ∧ c.hours[k]? = some (hAt0 c k) := by
  unfold hAt0
  rw [List.getElem?_eq_getElem h]
  exact ⟨hc.2.2 _ (List.getElem_mem h), rfl⟩
/-- an action without a cost has a level that does not hold -/
theorem not_all {w : Wk} {c : Crs} {k : Nat} {s : Stt} {b : Bool} (hw : w.Ok) (hc : c.Ok) (hk : k < c.hours.length) (ok : s.Ok w) (hm : lMay w s b = true) (h : costI w c k s b = 1000) :
    ∃ y, (spanL w (hAt0 c k) s.level b).1 ≤ y ∧ y ≤ (spanL w (hAt0 c k) s.level b).2 ∧ holdsB w c k b (lSince w s b) y = false := by
  unfold costI at h
  rw [if_pos hm] at h
  obtain ⟨hh, _⟩ := hAt0_ok hc hk
  have le := spanL_le (w := w) (h := hAt0 c k) (by unfold Wk.Ok at hw; omega) hh s.level b
  unfold costAt at h
  rw [costF_eq hw hh ok.1.1] at h
  split at h
  · rename_i g
    have hne : ((span (spanL w (hAt0 c k) s.level b).1 ((spanL w (hAt0 c k) s.level b).2 + 1)).map (planW w (c.hours.drop (k + 1)) b (lSince w s b))) ≠ [] := by
      intro z; have := congrArg List.length z; rw [List.length_map, span_len] at this; simp only [List.length_nil] at this; omega
    obtain ⟨y, hy, ey⟩ := List.mem_map.mp (lmax_mem hne)
    have hb := worst_bnd (w := w) hc (k + 1) b (lSince w s b) y
    unfold worstAt at hb
    rw [ey] at hb
    have e1000 : lmax ((span (spanL w (hAt0 c k) s.level b).1 ((spanL w (hAt0 c k) s.level b).2 + 1)).map (planW w (c.hours.drop (k + 1)) b (lSince w s b))) = 1000 := by
      unfold bump at h
      split at h
      · assumption
      · split at h <;> omega
    have my := mem_span.mp hy
    refine ⟨y, my.1, by omega, ?_⟩
    unfold holdsB worstAt
    rw [ey, e1000]; simp
  · rename_i g
    have g := Bool.eq_false_iff.mpr g
    rw [Bool.and_eq_false_iff] at g
    rcases g with g | g
    · exact ⟨_, Int.le_refl _, le, by unfold holdsB; rw [g]; rfl⟩
    · exact ⟨_, le, Int.le_refl _, by unfold holdsB; rw [g]; rfl⟩
end Sk
namespace Sk
open PySem L2 PyProof.Rows Rk
theorem told_non {i : Int} (h : (!Nn.isN (told i)) = false) : i = 1000 := by
  unfold told at h
  split at h
  · assumption
  · cases h
theorem kept_enum {f : Int → Int} {n : Int} (hn : 0 ≤ n) : ((enumL ((span 0 n).map f)).filter fun x => !decide (x.2 = 1000)).map (fun x => x.1) = (span 0 n).filter fun l => !decide (f l = 1000) := by
  have e : enumL ((span 0 n).map f) = (span 0 n).map fun l => (l, f l) := by
    apply List.ext_getElem?
    intro i
    rw [enumL_get, List.getElem?_map, List.getElem?_map]
    by_cases hi : i < n.toNat
    · rw [span_get (by omega)]; simp
    · rw [List.getElem?_eq_none_iff.mpr (by rw [span_len]; omega)]; rfl
  rw [e, List.filter_map, List.map_map]
  exact List.map_id _
end Sk
namespace Sk
open PySem L2 PyProof.Rows Rk
section
variable {w : Wk} {c : Crs} {n : V} {t : Tv} {k : Nat} {s : Stt} {a b : Bool}
theorem costIR_ok (hk : numH c n = some k) (hs : mkSt w t = some s) : costIR w c n t (.bl a) = .ok (dv (costI w c k s a)) := by unfold costIR; rw [hk, hs]; rfl
theorem costI_yes (h : lMay w s b = true) : costI w c k s b = costAt w c k b (lSince w s b) s.level := if_pos h
theorem costI_no (h : ¬ lMay w s b = true) : costI w c k s b = 1000 := if_neg h
theorem actionR_ok (hk : numH c n = some k) (hs : mkSt w t = some s) : actionR w c n t = .ok (dv (actO w c k s)) := by unfold actionR; rw [hk, hs]
theorem actO_non {o h : Int} (eo : o = costI w c k s false) (eh : h = costI w c k s true) (q : min o h = 1000) : actO w c k s = none := by
  unfold actO; rw [← eo, ← eh, if_pos q]
theorem actO_some {o h : Int} (eo : o = costI w c k s false) (eh : h = costI w c k s true) (q : ¬ min o h = 1000) : actO w c k s = some (decide (h < o)) := by
  unfold actO; rw [← eo, ← eh, if_neg q]
theorem costR_ok (hk : numH c n = some k) (hs : mkSt w t = some s) : costR w c n t (.bl a) = .ok (dv (told (costI w c k s a))) := by unfold costR; rw [hk, hs]; rfl
theorem worstR_ok (hk : numC c n = some k) (hs : mkSt w t = some s) : worstR w c n t = .ok (dv (told (worstAt w c k s.shut s.since s.level))) := by unfold worstR; rw [hk, hs]
theorem keptR_ok (hk : numC c n = some k) (hs : mkSt w t = some s) : keptR w c n t = .ok (dv (!(told (worstAt w c k s.shut s.since s.level)).isNone)) := by unfold keptR; rw [hk, hs]
theorem beatR_ok (hk : numH c n = some k) (hs : mkSt w t = some s) : beatR w c n t (.bl a) = if costI w c k s a = 1000 then (if lMay w s a = true then .ok (dv (Op.mk (some (beatP w c k s a)))) else .err 13) else .ok (dv (Op.mk (none : Option (Int × Int)))) := by unfold beatR; rw [hk, hs]; rfl
end
end Sk

set_option maxHeartbeats 4000000
/-! # The laws' own tables, and that they are the plan's -/
namespace Sk
open PySem L2 PyProof.Rows Rk
instance : Ky Stt := ⟨fun s => .t [s.level, b2 s.shut, s.since], .inr ⟨_, fun _ => rfl⟩, fun {a b} h => by
    injection h with h
    injection h with h1 h2
    injection h2 with h2 h3
    injection h3 with h3 _
    cases a; cases b
    simp only at h1 h2 h3
    rw [h1, b2_inj h2, h3], fun {G H v k} ⟨p, vs, e1, e2, e3⟩ => by
    match vs, e3 with
    | [x, y, z], e3 =>
      have h1 : x = V.int k.level := e3.1
      have h2 : y = V.bl k.shut := e3.2.1
      have h3 : z = V.int k.since := e3.2.2.1
      exact ⟨p, _, e1, e2, by rw [h1, h2, h3]; rfl⟩⟩
def LTab (w : Wk) (f : Stt → Option Int) : Dic Stt (Option Int) := ⟨(statesOf w).map fun s => (s, f s)⟩
theorem ltab_at {w : Wk} (hw : w.Ok) {f : Stt → Option Int} {s : Stt} (h : s.Ok w) : (s, f s) ∈ (LTab w f).kvs := List.mem_map.mpr ⟨s, (mem_states hw).mpr h, rfl⟩
/-! ### one action -/
def actF (g : Int → Bool) (f : Int → Option Int) : List Int → Int → Option Int
  | [], m => some m
  | x :: xs, m => if g x = true then (match f x with
    | none => none
    | some c => actF g f xs (max m c)) else none
def lawA (w : Wk) (h : Hr) (f : Stt → Option Int) (s : Stt) (b : Bool) : Option Int :=
  if lMay w s b = true then (actF (goodL w h b) (fun l => f ⟨l, b, lSince w s b⟩) (levelsOf w h s.level b) 0).map (· + b2 b) else none
theorem actF_bad {g : Int → Bool} {f : Int → Option Int} {x : Int} {xs : List Int} {m : Int} (h : g x = false) : actF g f (x :: xs) m = none := by
  show (if g x = true then _ else none) = none; rw [h, if_neg Bool.false_ne_true]
theorem actF_non {g : Int → Bool} {f : Int → Option Int} {x : Int} {xs : List Int} {m : Int} (h : f x = none) : actF g f (x :: xs) m = none := by
  show (if g x = true then (match f x with | none => none | some c => actF g f xs (max m c)) else none) = none
  rw [h]; split <;> rfl
theorem actF_go {g : Int → Bool} {f : Int → Option Int} {x c : Int} {xs : List Int} {m : Int} (h : g x = true) (e : f x = some c) : actF g f (x :: xs) m = actF g f xs (max m c) := by
  show (if g x = true then (match f x with | none => none | some c => actF g f xs (max m c)) else none) = _
  rw [if_pos h, e]
theorem actF_none {g : Int → Bool} {f : Int → Option Int} : ∀ {xs : List Int} {m : Int}, actF g f xs m = none → ∃ x ∈ xs, g x = false ∨ f x = none
  | [], m, h => by cases h
  | x :: xs, m, h => by
    cases hg : g x with
    | false => exact ⟨x, List.mem_cons_self, .inl hg⟩
    | true =>
      cases hf : f x with
      | none => exact ⟨x, List.mem_cons_self, .inr hf⟩
      | some c =>
        rw [actF_go hg hf] at h
        obtain ⟨y, hy, q⟩ := actF_none h
        exact ⟨y, List.mem_cons_of_mem _ hy, q⟩
theorem actF_some {g : Int → Bool} {f : Int → Option Int} : ∀ {xs : List Int} {m r : Int}, actF g f xs m = some r → (∀ x ∈ xs, g x = true ∧ ∃ c, f x = some c ∧ c ≤ r) ∧ m ≤ r ∧ (r = m ∨ ∃ x ∈ xs, f x = some r)
  | [], m, r, h => by
    have e : m = r := by simpa [actF] using h
    subst e
    exact ⟨fun x hx => (by cases hx), Int.le_refl _, .inl rfl⟩
  | x :: xs, m, r, h => by
    cases hg : g x with
    | false => rw [actF_bad hg] at h; cases h
    | true =>
      cases hf : f x with
      | none => rw [actF_non hf] at h; cases h
      | some c =>
        rw [actF_go hg hf] at h
        obtain ⟨a, b, d⟩ := actF_some h
        refine ⟨fun y hy => ?_, by omega, ?_⟩
        · rcases List.mem_cons.mp hy with rfl | hy
          · exact ⟨hg, c, hf, by omega⟩
          · exact a y hy
        · rcases d with d | ⟨y, hy, e⟩
          · by_cases q : m ≤ c
            · right; exact ⟨x, List.mem_cons_self, by rw [hf]; congr 1; omega⟩
            · left; omega
          · right; exact ⟨y, List.mem_cons_of_mem _ hy, e⟩
/-- good levels have no gap -/
theorem good_mid {w : Wk} {h : Hr} {b : Bool} {lo hi x : Int} (g1 : goodL w h b lo = true) (g2 : goodL w h b hi = true) (h1 : lo ≤ x) (h2 : x ≤ hi) : goodL w h b x = true := by
  unfold goodL at g1 g2 ⊢
  simp only [Bool.and_eq_true, Bool.or_eq_true, decide_eq_true_eq, Bool.not_eq_true'] at g1 g2 ⊢
  refine ⟨by omega, ?_⟩
  rcases g1.2 with z | z
  · exact .inl z
  · exact .inr ⟨z.1, by omega⟩
/-- the cost of an action, by the laws and by the plan -/
theorem act_cost {w : Wk} {h : Hr} {F : Bool → Int → Int → Int} {f : Stt → Option Int} {b : Bool} {k l : Int} (hw : w.Ok) (hh : h.Ok) (h0 : 0 ≤ l) (hb : ∀ x, F b k x = 1000 ∨ 0 ≤ F b k x ∧ F b k x ≤ 900) (hf : ∀ x, 0 ≤ x → x ≤ w.wall → f ⟨x, b, k⟩ = told (F b k x)) :
    (actF (goodL w h b) (fun l => f ⟨l, b, k⟩) (levelsOf w h l b) 0).map (· + b2 b) = told (costF w h F b k l) := by
  have hw' := hw
  unfold Wk.Ok at hw'
  have hfl : 0 ≤ w.flow := by omega
  have mem := fun z => levels_span (w := w) (h := h) hfl hh (l := l) (s := b) (z := z)
  have le := spanL_le hfl hh l b
  rw [costF_eq hw hh h0]
  have pos : ∀ z, z ∈ levelsOf w h l b → 0 ≤ z := fun z hz => by
    have := (mem z).mp hz
    have p : 0 ≤ (spanL w h l b).1 := by unfold Hr.Ok at hh; exact next_pos hfl h0 (by omega) (by omega)
    omega
  have wall : ∀ z, goodL w h b z = true → z ≤ w.wall := fun z g => by unfold goodL at g; simp at g; exact g.1
  have tn : ∀ z, 0 ≤ z → z ≤ w.wall → (f ⟨z, b, k⟩ = none ↔ F b k z = 1000) := fun z z0 z1 => by
    rw [hf z z0 z1]; unfold told; split <;> simp_all
  cases ha : actF (goodL w h b) (fun l => f ⟨l, b, k⟩) (levelsOf w h l b) 0 with
  | none =>
    obtain ⟨x, hx, q⟩ := actF_none ha
    have mx := (mem x).mp hx
    show none = told _
    split
    · rename_i g
      rw [Bool.and_eq_true] at g
      have gx := good_mid g.1 g.2 mx.1 mx.2
      have fx : F b k x = 1000 := by
        rcases q with q | q
        · rw [gx] at q; cases q
        · exact (tn x (pos x hx) (wall x gx)).mp q
      have m2 : F b k x ∈ (span (spanL w h l b).1 ((spanL w h l b).2 + 1)).map (F b k) := List.mem_map.mpr ⟨x, mem_span.mpr ⟨mx.1, by omega⟩, rfl⟩
      have up := le_lmax m2
      obtain ⟨y, _, ey⟩ := List.mem_map.mp (lmax_mem (List.ne_nil_of_mem m2))
      have by_ := hb y
      rw [ey] at by_
      have e : lmax ((span (spanL w h l b).1 ((spanL w h l b).2 + 1)).map (F b k)) = 1000 := by omega
      rw [e]; rfl
    · rfl
  | some r =>
    obtain ⟨a1, a2, a3⟩ := actF_some ha
    have g1 := (a1 _ ((mem _).mpr ⟨Int.le_refl _, le⟩)).1
    have g2 := (a1 _ ((mem _).mpr ⟨le, Int.le_refl _⟩)).1
    rw [if_pos (by rw [g1, g2]; rfl)]
    have val : ∀ z, z ∈ levelsOf w h l b → F b k z ≠ 1000 ∧ F b k z ≤ r := fun z hz => by
      obtain ⟨gz, c, e, lc⟩ := a1 z hz
      have e2 := hf z (pos z hz) (wall z gz)
      rw [show f ⟨z, b, k⟩ = some c from e] at e2
      unfold told at e2
      split at e2
      · cases e2
      · injection e2 with e2; exact ⟨by assumption, by omega⟩
    have hne : (span (spanL w h l b).1 ((spanL w h l b).2 + 1)).map (F b k) ≠ [] := by
      intro z; have := congrArg List.length z; rw [List.length_map, span_len] at this; simp only [List.length_nil] at this; omega
    obtain ⟨y, hy, ey⟩ := List.mem_map.mp (lmax_mem hne)
    have my := mem_span.mp hy
    have vy := val y ((mem y).mpr ⟨my.1, by omega⟩)
    have by_ := hb y
    have e : lmax ((span (spanL w h l b).1 ((spanL w h l b).2 + 1)).map (F b k)) = r := by
      rw [← ey]
      refine Int.le_antisymm vy.2 ?_
      rcases a3 with a3 | ⟨x, hx, e⟩
      · rw [a3]; omega
      · have vx := val x hx
        obtain ⟨gx, _, _, _⟩ := a1 x hx
        have e2 := hf x (pos x hx) (wall x gx)
        rw [show f ⟨x, b, k⟩ = some r from e] at e2
        unfold told at e2
        rw [if_neg vx.1] at e2
        injection e2 with e2
        rw [e2, ey]
        have mx := (mem x).mp hx
        exact le_lmax (List.mem_map.mpr ⟨x, mem_span.mpr ⟨mx.1, by omega⟩, rfl⟩)
    rw [e]
    have r9 : r ≤ 900 := by rw [← e, ← ey]; omega
    show some (r + b2 b) = told (bump b r)
    unfold bump told
    rw [if_neg (by omega)]
    cases b
    · rw [if_neg Bool.false_ne_true, if_neg (by omega)]; show some (r + 0) = _; rw [Int.add_zero]
    · rw [if_pos rfl, if_neg (by omega)]; rfl
/-! ### the best of two -/
def optLt (c b : Option Int) : Bool := match c, b with
  | some x, some y => decide (x < y)
  | _, _ => false
def bestS (b c : Option Int) : Option Int := if (c.isSome && (b.isNone || optLt c b)) = true then c else b
def bestF (cs : List (Option Int)) : Option Int := cs.foldl bestS none
theorem best_two {x y : Int} (hx : x ≤ 1000) (hy : y ≤ 1000) : bestF [told x, told y] = told (min x y) := by
  show bestS (bestS none (told x)) (told y) = told (min x y)
  have e1 : bestS none (told x) = told x := by unfold bestS told; by_cases h : x = 1000 <;> simp [h]
  rw [e1]
  unfold bestS told optLt
  by_cases h1 : x = 1000
  · rw [if_pos h1, h1, Int.min_eq_right hy]
    by_cases h2 : y = 1000
    · rw [if_pos h2]; rfl
    · rw [if_neg h2]; rfl
  · rw [if_neg h1]
    by_cases h2 : y = 1000
    · rw [if_pos h2, h2, Int.min_eq_left hx, if_neg h1]; rfl
    · rw [if_neg h2]
      by_cases q : y < x
      · rw [Int.min_eq_right (by omega), if_neg h2]; simp [q]
      · rw [Int.min_eq_left (by omega), if_neg h1]; simp [q]
def lawT (w : Wk) : List Hr → Stt → Option Int
  | [] => fun _ => some 0
  | h :: hs => fun s => bestF [lawA w h (lawT w hs) s false, lawA w h (lawT w hs) s true]
theorem acts_min {w : Wk} {s : Stt} {g : Bool → Int} (h : s.Ok w) (hg : ∀ b, g b ≤ 1000) : lmin ((actsL w s).map fun p => g p.1) = min (if lMay w s false = true then g false else 1000) (if lMay w s true = true then g true else 1000) := by
  have key : ∀ b, b ∈ (actsL w s).map Prod.fst ↔ lMay w s b = true := fun b => acts_keys h
  have e : ((actsL w s).map fun p => g p.1) = ((actsL w s).map Prod.fst).map g := by rw [List.map_map]; rfl
  rw [e]
  have hne : ((actsL w s).map Prod.fst).map g ≠ [] := by
    rcases acts_two (w := w) (s := s) with ⟨p, q⟩ | ⟨p, q, r⟩
    · rw [q]; exact nofun
    · rw [r]; exact nofun
  refine (lmin_of (xs := ((actsL w s).map Prod.fst).map g) ?_ ?_).symm
  · have one : ∀ b, lMay w s b = true → g b ∈ ((actsL w s).map Prod.fst).map g := fun b hb => List.mem_map.mpr ⟨b, (key b).mpr hb, rfl⟩
    obtain ⟨b0, hb0⟩ : ∃ b, lMay w s b = true := by
      obtain ⟨z, hz⟩ := List.exists_mem_of_ne_nil _ hne
      obtain ⟨b, hb, _⟩ := List.mem_map.mp hz
      exact ⟨b, (key b).mp hb⟩
    have gf := hg false
    have gt := hg true
    by_cases h1 : lMay w s false = true
    · by_cases h2 : lMay w s true = true
      · rw [if_pos h1, if_pos h2]
        by_cases q : g false ≤ g true
        · rw [Int.min_eq_left q]; exact one _ h1
        · rw [Int.min_eq_right (by omega)]; exact one _ h2
      · rw [if_pos h1, if_neg h2, Int.min_eq_left gf]; exact one _ h1
    · rw [if_neg h1]
      have h2 : lMay w s true = true := by cases b0 with
        | false => exact absurd hb0 h1
        | true => exact hb0
      rw [if_pos h2, Int.min_eq_right gt]; exact one _ h2
  · intro z hz
    obtain ⟨b, hb, rfl⟩ := List.mem_map.mp hz
    have hb := (key b).mp hb
    cases b
    · rw [if_pos hb]; exact Int.min_le_left _ _
    · rw [if_pos hb]; exact Int.min_le_right _ _
theorem costF_bnd {w : Wk} {h : Hr} {hs : List Hr} (hl : hs.length ≤ 72) (b : Bool) (k l : Int) : costF w h (planW w hs) b k l = 1000 ∨ 0 ≤ costF w h (planW w hs) b k l ∧ costF w h (planW w hs) b k l ≤ 73 := by
  have z := wcase_bnd (g := gsp w h b l) (s := b) (row := (span 0 (w.wall + 1)).map (planW w hs b k)) (m := 72) (by decide) (by decide) (fun x hx => by
    obtain ⟨y, _, rfl⟩ := List.mem_map.mp hx
    rcases plan_bnd w hs hl b k y with q | q
    · exact .inl q
    · exact .inr ⟨q.1, by omega⟩)
  exact z
/-- the laws' tables are the plan's -/
theorem lawT_plan {w : Wk} (hw : w.Ok) : ∀ {hs : List Hr}, hs.length ≤ 72 → (∀ h ∈ hs, h.Ok) → ∀ {s : Stt}, s.Ok w → lawT w hs s = told (planW w hs s.shut s.since s.level)
  | [], _, _, _, _ => rfl
  | h :: hs, hl, hh, s, ok => by
    rw [List.length_cons] at hl
    have ih := fun {s : Stt} (q : s.Ok w) => lawT_plan hw (hs := hs) (by omega) (fun x hx => hh x (List.mem_cons_of_mem _ hx)) q
    have cost : ∀ b, lawA w h (lawT w hs) s b = told (if lMay w s b = true then costF w h (planW w hs) b (lSince w s b) s.level else 1000) := fun b => by
      unfold lawA
      by_cases m : lMay w s b = true
      · rw [if_pos m, if_pos m]
        refine act_cost hw (hh h List.mem_cons_self) ok.1.1 (fun x => ?_) fun x x0 x1 => ?_
        · rcases plan_bnd w hs (by omega) b (lSince w s b) x with q | q
          · exact .inl q
          · exact .inr ⟨q.1, by omega⟩
        · exact ih (s := ⟨x, b, lSince w s b⟩) ⟨⟨x0, x1⟩, lSince_ok hw ok b⟩
      · rw [if_neg m, if_neg m]; rfl
    have cb : ∀ b, (if lMay w s b = true then costF w h (planW w hs) b (lSince w s b) s.level else 1000) ≤ 1000 := fun b => by
      split
      · rcases costF_bnd (w := w) (h := h) (hs := hs) (by omega) b (lSince w s b) s.level with q | q <;> omega
      · exact Int.le_refl _
    show bestF [lawA w h (lawT w hs) s false, lawA w h (lawT w hs) s true] = told (worstF w (costF w h (planW w hs)) s.shut s.since s.level)
    rw [cost, cost, best_two (cb false) (cb true)]
    congr 1
    unfold worstF
    have ok0 : (Stt.mk 0 s.shut s.since).Ok w := ⟨⟨Int.le_refl 0, by unfold Wk.Ok at hw; show (0 : Int) ≤ w.wall; omega⟩, ok.2⟩
    have lm : ∀ b, lMay w ⟨0, s.shut, s.since⟩ b = lMay w s b := fun _ => rfl
    have ls : ∀ b, lSince w ⟨0, s.shut, s.since⟩ b = lSince w s b := fun _ => rfl
    have e : ((actsL w ⟨0, s.shut, s.since⟩).map fun p => costF w h (planW w hs) p.1 p.2 s.level) = ((actsL w ⟨0, s.shut, s.since⟩).map fun p => costF w h (planW w hs) p.1 (lSince w s p.1) s.level) := by
      refine List.map_congr_left fun p hp => ?_
      obtain ⟨b, k⟩ := p
      have := ((mem_acts ok0).mp hp).2
      rw [this]; rfl
    rw [e, acts_min (g := fun b => costF w h (planW w hs) b (lSince w s b) s.level) ok0 (fun b => by
      rcases costF_bnd (w := w) (h := h) (hs := hs) (by omega) b (lSince w s b) s.level with q | q <;> omega)]
    rw [lm, lm]
theorem lawA_cost {w : Wk} {c : Crs} {k : Nat} (hw : w.Ok) (hc : c.Ok) (hk : k < c.hours.length) {s : Stt} (ok : s.Ok w) (b : Bool) : lawA w (hAt0 c k) (lawT w (c.hours.drop (k + 1))) s b = told (costI w c k s b) := by
  have hl := hc.2.1
  have hd : (c.hours.drop (k + 1)).length ≤ 72 := by rw [List.length_drop]; omega
  unfold lawA costI
  by_cases m : lMay w s b = true
  · rw [if_pos m, if_pos m]
    refine act_cost hw (hAt0_ok hc hk).1 ok.1.1 (fun x => ?_) fun x x0 x1 => ?_
    · rcases plan_bnd w (c.hours.drop (k + 1)) hd b (lSince w s b) x with q | q
      · exact .inl q
      · exact .inr ⟨q.1, by omega⟩
    · exact lawT_plan hw (s := ⟨x, b, lSince w s b⟩) hd (fun h hh => hc.2.2 h (List.mem_of_mem_drop hh)) ⟨⟨x0, x1⟩, lSince_ok hw ok b⟩
  · rw [if_neg m, if_neg m]; rfl
theorem lawT_worst {w : Wk} {c : Crs} {k : Nat} (hw : w.Ok) (hc : c.Ok) {s : Stt} (ok : s.Ok w) : lawT w (c.hours.drop k) s = told (worstAt w c k s.shut s.since s.level) :=
  lawT_plan hw (by rw [List.length_drop]; have := hc.2.1; omega) (fun h hh => hc.2.2 h (List.mem_of_mem_drop hh)) ok
end Sk

set_option maxHeartbeats 4000000
/-! # The laws' own tables, walked -/
namespace Sk
open PySem L2 PyProof.Rows Rk
theorem cv_oi {o : Option Int} {c : Int} (h : o = some c) : Cv o c := fun G H v r => by
  subst h
  exact r
theorem oi_non {o : Option Int} (h : Nn.isN o = true) : o = none := by
  cases o with
  | none => rfl
  | some c => cases h
theorem oi_some {o : Option Int} (h : Nn.isN o = false) : ∃ c, o = some c := by
  cases o with
  | none => cases h
  | some c => exact ⟨c, rfl⟩
theorem oi_some2 {o : Option Int} (h : (!Nn.isN o) = true) : ∃ c, o = some c := oi_some (by simpa using h)
theorem oi_non2 {o : Option Int} (h : (!Nn.isN o) = false) : o = none := oi_non (by simpa using h)
theorem drop_at {α : Type} {xs : List α} {i : Nat} {x : α} (h : xs[i]? = some x) : xs.drop i = x :: xs.drop (i + 1) := by
  obtain ⟨hl, e⟩ := List.getElem?_eq_some_iff.mp h
  rw [← e]; exact List.drop_eq_getElem_cons hl
theorem take_at {α : Type} {xs : List α} {i : Nat} {x : α} (h : xs[i]? = some x) : xs.take (i + 1) = xs.take i ++ [x] := by
  rw [List.take_add_one, h]; rfl
theorem states_nd (w : Wk) : (statesOf w).Nodup := by
  unfold statesOf stLv
  refine List.pairwise_flatMap.mpr ⟨fun l _ => ?_, ?_⟩
  · unfold stBl
    refine List.pairwise_flatMap.mpr ⟨fun b _ => ?_, ?_⟩
    · unfold stGo
      refine List.pairwise_map.mpr ((span_nd _ _).imp fun {a b} ne h => ne ?_)
      injection h
    · rw [List.pairwise_cons]
      refine ⟨fun b hb => ?_, by simp⟩
      have hb : b = true := by simpa using hb
      subst hb
      intro x hx y hy e
      obtain ⟨_, _, rfl⟩ := List.mem_map.mp hx
      obtain ⟨_, _, rfl⟩ := List.mem_map.mp hy
      injection e with _ e
      cases e
  · refine (span_nd 0 (w.wall + 1)).imp fun {a b} ne x hx y hy e => ?_
    have lev : ∀ {l : Int} {x : Stt}, x ∈ stBl w l [false, true] → x.level = l := fun {l x} h => by
      unfold stBl at h
      obtain ⟨_, _, h⟩ := List.mem_flatMap.mp h
      obtain ⟨_, _, rfl⟩ := List.mem_map.mp h
      rfl
    exact ne ((lev hx).symm.trans (by rw [e]; exact lev hy))
/-- a state's row is new in the table of the states before -/
theorem st_new {w : Wk} {f : Stt → Option Int} {i : Nat} {s : Stt} (h : (statesOf w)[i]? = some s) : s ∉ (((statesOf w).take i).map fun s => (s, f s)).map Prod.fst := by
  rw [List.map_map]
  have e : (Prod.fst ∘ fun s : Stt => (s, f s)) = id := rfl
  rw [e, List.map_id]
  intro m
  obtain ⟨j, hj⟩ := List.mem_iff_getElem?.mp m
  rw [List.getElem?_take] at hj
  split at hj
  · rename_i lt
    have nd := states_nd w
    obtain ⟨l1, e1⟩ := List.getElem?_eq_some_iff.mp h
    obtain ⟨l2, e2⟩ := List.getElem?_eq_some_iff.mp hj
    have := (List.getElem_inj nd).mp (e1.trans e2.symm)
    omega
  · cases hj
theorem st_len {w : Wk} (hw : w.Ok) : (statesOf w).length ≤ 2412 := stLv_le hw (by unfold Wk.Ok at hw; omega) (by unfold Wk.Ok at hw; omega)
theorem st_lt {w : Wk} (hw : w.Ok) {i : Nat} {f : Stt → Option Int} : (((statesOf w).take i).map fun s => (s, f s)).length < 100000 := by
  have := st_len hw
  rw [List.length_map, List.length_take]
  omega
theorem st_snoc {w : Wk} {i : Nat} {s : Stt} {f : Stt → Option Int} (h : (statesOf w)[i]? = some s) : ((statesOf w).take i).map (fun s => (s, f s)) ++ [(s, f s)] = ((statesOf w).take (i + 1)).map fun s => (s, f s) := by
  rw [take_at h, List.map_append]; rfl
/-- the tables of all hours -/
def lawTabs (w : Wk) : List Hr → List (Dic Stt (Option Int))
  | [] => [LTab w (lawT w [])]
  | h :: hs => LTab w (lawT w (h :: hs)) :: lawTabs w hs
def tabsM (w : Wk) (hs : List Hr) (i : Nat) : List (Dic Stt (Option Int)) := lawTabs w (hs.drop (hs.length - i))
theorem tabsM_0 {w : Wk} {hs : List Hr} : tabsM w hs 0 = [LTab w (lawT w [])] := by
  unfold tabsM; rw [Nat.sub_zero, List.drop_length]; rfl
theorem tabsM_s {w : Wk} {hs : List Hr} {i : Nat} {h : Hr} (e : hs[hs.length - 1 - i]? = some h) (hi : i < hs.length) : tabsM w hs (i + 1) = LTab w (lawT w (h :: hs.drop (hs.length - i))) :: tabsM w hs i := by
  unfold tabsM
  rw [show hs.length - (i + 1) = hs.length - 1 - i from by omega, drop_at e, show hs.length - 1 - i + 1 = hs.length - i from by omega]
  rfl
theorem lawTabs_first {w : Wk} : ∀ {hs : List Hr}, (lawTabs w hs)[0]? = some (LTab w (lawT w hs))
  | [] => rfl
  | _ :: _ => rfl
theorem tabsM_first {w : Wk} {hs : List Hr} {i : Nat} : (tabsM w hs i)[0]? = some (LTab w (lawT w (hs.drop (hs.length - i)))) := lawTabs_first
theorem lawTabs_len {w : Wk} : ∀ {hs : List Hr}, (lawTabs w hs).length = hs.length + 1
  | [] => rfl
  | _ :: hs => congrArg (· + 1) (lawTabs_len (hs := hs))
theorem tabsM_len {w : Wk} {hs : List Hr} {i : Nat} : (tabsM w hs i).length ≤ hs.length + 1 := by
  unfold tabsM; rw [lawTabs_len, List.length_drop]; omega
theorem tabsM_all {w : Wk} {hs : List Hr} : tabsM w hs hs.length = lawTabs w hs := by
  unfold tabsM; rw [Nat.sub_self]; rfl
theorem tabs_at {w : Wk} : ∀ {hs : List Hr} {k : Nat}, k ≤ hs.length → (lawTabs w hs)[k]? = some (LTab w (lawT w (hs.drop k)))
  | hs, 0, _ => lawTabs_first
  | h :: hs, k + 1, e => by
    have e : k ≤ hs.length := by simpa using e
    exact tabs_at (hs := hs) e
  | [], _ + 1, e => by simp at e
theorem bestF_s {xs : List (Option Int)} {x : Option Int} : bestF (xs ++ [x]) = bestS (bestF xs) x := by
  unfold bestF; rw [List.foldl_append]; rfl
theorem bestS_no {b : Option Int} : bestS b none = b := rfl
theorem bestS_first {c : Int} : bestS none (some c) = some c := rfl
theorem bestS_lt {b c : Int} (h : c < b) : bestS (some b) (some c) = some c := by unfold bestS optLt; simp [h]
theorem bestS_ge {b c : Int} (h : ¬ c < b) : bestS (some b) (some c) = some b := by unfold bestS optLt; simp [h]
theorem bestS_yes {b c : Option Int} (h : (!Nn.isN c && (Nn.isN b || optLt c b)) = true) : bestS b c = c := by
  cases c with
  | none => cases h
  | some x => unfold bestS; exact if_pos h
theorem bestS_no2 {b c : Option Int} (h : (!Nn.isN c && (Nn.isN b || optLt c b)) = false) : bestS b c = b := by
  cases c with
  | none => rfl
  | some x => unfold bestS; exact if_neg (by intro z; rw [show (some x).isSome = !Nn.isN (some x) from rfl] at z; rw [show (!Nn.isN (some x) && (b.isNone || optLt (some x) b)) = (!Nn.isN (some x) && (Nn.isN b || optLt (some x) b)) from rfl, h] at z; cases z)
/-! ### what action is due -/
def optLe (x y : Option Int) : Bool := match x, y with
  | some a, some b => decide (a ≤ b)
  | _, _ => false
def dueO (x y : Option Int) : Option Bool := if (!Nn.isN x && (Nn.isN y || optLe x y)) = true then some false else if (!Nn.isN y) = true then some true else none
theorem due1 {x y : Option Int} (h : (!Nn.isN x && (Nn.isN y || optLe x y)) = true) : dueO x y = some false := if_pos h
theorem due2 {x y : Option Int} (h : (!Nn.isN x && (Nn.isN y || optLe x y)) = false) (h2 : (!Nn.isN y) = true) : dueO x y = some true := by
  unfold dueO; rw [if_neg (by rw [h]; decide), if_pos h2]
theorem due3 {x y : Option Int} (h : (!Nn.isN x && (Nn.isN y || optLe x y)) = false) (h2 : (!Nn.isN y) = false) : dueO x y = none := by
  unfold dueO; rw [if_neg (by rw [h]; decide), if_neg (by rw [h2]; decide)]
theorem due_is {a b : Int} (ha : a ≤ 1000) (hb : b ≤ 1000) : dueO (told a) (told b) = if min a b = 1000 then none else some (decide (b < a)) := by
  have ta : ∀ i : Int, told i = if i = 1000 then none else some i := fun _ => rfl
  by_cases h1 : a = 1000
  · by_cases h2 : b = 1000
    · rw [h1, h2]; rfl
    · rw [h1, if_neg (by omega), ta b, if_neg h2, decide_eq_true (by omega : b < 1000)]; rfl
  · by_cases h2 : b = 1000
    · rw [h2, if_neg (by omega), ta a, if_neg h1, decide_eq_false (by omega : ¬ 1000 < a)]; rfl
    · rw [if_neg (by omega), ta a, ta b, if_neg h1, if_neg h2]
      by_cases q : a ≤ b
      · rw [due1 (by show (true && (false || decide (a ≤ b))) = true; rw [decide_eq_true q]; rfl), decide_eq_false (by omega)]
      · rw [due2 (by show (true && (false || decide (a ≤ b))) = false; rw [decide_eq_false q]; rfl) rfl, decide_eq_true (by omega)]
theorem costI_le {w : Wk} {c : Crs} {k : Nat} {s : Stt} {b : Bool} (hc : c.Ok) : costI w c k s b ≤ 1000 := by
  unfold costI
  split
  · unfold costAt
    have hl : (c.hours.drop (k + 1)).length ≤ 72 := by rw [List.length_drop]; have := hc.2.1; omega
    rcases costF_bnd (w := w) (h := hAt0 c k) hl b (lSince w s b) s.level with z | z <;> omega
  · exact Int.le_refl _
theorem act_due {w : Wk} {c : Crs} {k : Nat} {s : Stt} (hc : c.Ok) : dueO (told (costI w c k s false)) (told (costI w c k s true)) = actO w c k s := due_is (costI_le hc) (costI_le hc)
theorem isN_told {i : Int} : Nn.isN (told i) = decide (i = 1000) := by
  unfold told
  by_cases h : i = 1000
  · rw [if_pos h, decide_eq_true h]; rfl
  · rw [if_neg h, decide_eq_false h]; rfl
theorem levels_law {w : Wk} {c : Crs} {k : Nat} {b : Bool} {s : Int} (hw : w.Ok) (hc : c.Ok) (h1 : 1 ≤ s) (h2 : s ≤ w.rest) : ((span 0 (w.wall + 1)).filter fun l => !Nn.isN (lawT w (c.hours.drop k) ⟨l, b, s⟩)).map (fun l => l) = keptL w c k b s := by
  rw [List.map_id'']
  · unfold keptL
    refine List.filter_congr fun l hl => ?_
    have m := mem_span.mp hl
    rw [lawT_worst (s := ⟨l, b, s⟩) hw hc ⟨⟨m.1, by show l ≤ w.wall; omega⟩, h1, h2⟩, isN_told]
  · intro x; rfl
theorem levelsR_ok {w : Wk} {c : Crs} {k : Nat} {b : Bool} {s : Int} (hw : w.Ok) (hk : k ≤ c.hours.length) (h1 : 1 ≤ s) (h2 : s ≤ w.rest) : levelsR w c (.int k) (.bl b) (.int s) = .ok (dv (keptL w c k b s)) := by
  have e : mkSt w ⟨[.int 0, .bl b, .int s]⟩ = some ⟨0, b, s⟩ := mkSt_ok (s := ⟨0, b, s⟩) ⟨⟨Int.le_refl 0, by unfold Wk.Ok at hw; show (0 : Int) ≤ w.wall; omega⟩, h1, h2⟩
  unfold levelsR; rw [numC_ok hk, e]
theorem keptL_len {w : Wk} {c : Crs} {k : Nat} {b : Bool} {s : Int} (hw : w.Ok) : (keptL w c k b s).length < 100000 := by
  unfold keptL
  refine Nat.lt_of_le_of_lt (List.length_filter_le _ _) ?_
  rw [span_len]; unfold Wk.Ok at hw; omega
end Sk

set_option maxHeartbeats 4000000
/-! # What the plan's numbers mean from hour to hour -/
namespace Sk
open PySem L2 PyProof.Rows Rk
section
variable {w : Wk} {c : Crs} {k : Nat} {s : Stt} {b : Bool}
theorem worst_min (hw : w.Ok) (hc : c.Ok) (hk : k < c.hours.length) (ok : s.Ok w) : worstAt w c k s.shut s.since s.level = min (costI w c k s false) (costI w c k s true) := by
  rw [worst_step hk]
  unfold worstF
  have ok0 : (Stt.mk 0 s.shut s.since).Ok w := ⟨⟨Int.le_refl 0, by unfold Wk.Ok at hw; show (0 : Int) ≤ w.wall; omega⟩, ok.2⟩
  have lm : ∀ b, lMay w ⟨0, s.shut, s.since⟩ b = lMay w s b := fun _ => rfl
  have hl : (c.hours.drop (k + 1)).length ≤ 72 := by rw [List.length_drop]; have := hc.2.1; omega
  have e : ((actsL w ⟨0, s.shut, s.since⟩).map fun p => costAt w c k p.1 p.2 s.level) = ((actsL w ⟨0, s.shut, s.since⟩).map fun p => costAt w c k p.1 (lSince w s p.1) s.level) := by
    refine List.map_congr_left fun p hp => ?_
    obtain ⟨b, j⟩ := p
    have := ((mem_acts ok0).mp hp).2
    rw [this]; rfl
  rw [e, acts_min (g := fun b => costAt w c k b (lSince w s b) s.level) ok0 (fun b => by
    show costF w (hAt0 c k) (planW w (c.hours.drop (k + 1))) b (lSince w s b) s.level ≤ 1000
    rcases costF_bnd (w := w) (h := hAt0 c k) hl b (lSince w s b) s.level with q | q <;> omega)]
  rw [lm, lm]; rfl
theorem costI_may (h : costI w c k s b ≠ 1000) : lMay w s b = true := by
  unfold costI at h
  by_cases m : lMay w s b = true
  · exact m
  · rw [if_neg m] at h; exact absurd rfl h
/-- a state that is kept has an action, and its cost is the worst number -/
theorem act_kept (hw : w.Ok) (hc : c.Ok) (hk : k < c.hours.length) (ok : s.Ok w) (h : worstAt w c k s.shut s.since s.level ≠ 1000) :
    ∃ b, actO w c k s = some b ∧ lMay w s b = true ∧ costI w c k s b = worstAt w c k s.shut s.since s.level ∧ costI w c k s b ≠ 1000 := by
  have e := worst_min hw hc hk ok
  have h2 := h
  rw [e] at h2
  unfold actO
  rw [if_neg h2]
  refine ⟨_, rfl, ?_⟩
  by_cases q : costI w c k s true < costI w c k s false
  · rw [decide_eq_true q]
    have e2 : costI w c k s true = worstAt w c k s.shut s.since s.level := by rw [e]; omega
    exact ⟨costI_may (by rw [e2]; exact h), e2, by rw [e2]; exact h⟩
  · rw [decide_eq_false q]
    have e2 : costI w c k s false = worstAt w c k s.shut s.since s.level := by rw [e]; omega
    exact ⟨costI_may (by rw [e2]; exact h), e2, by rw [e2]; exact h⟩
/-- a state that is not kept has no action with a cost -/
theorem act_lost (hw : w.Ok) (hc : c.Ok) (hk : k < c.hours.length) (ok : s.Ok w) (h : worstAt w c k s.shut s.since s.level = 1000) (b : Bool) : costI w c k s b = 1000 := by
  rw [worst_min hw hc hk ok] at h
  have l1 := costI_le (w := w) (k := k) (s := s) (b := false) hc
  have l2 := costI_le (w := w) (k := k) (s := s) (b := true) hc
  cases b <;> omega
/-- behind an action with a cost every level is good and kept, with no more -/
theorem cost_step (hw : w.Ok) (hc : c.Ok) (hk : k < c.hours.length) (ok : s.Ok w) (h : costI w c k s b ≠ 1000) {y : Int} (h1 : (spanL w (hAt0 c k) s.level b).1 ≤ y) (h2 : y ≤ (spanL w (hAt0 c k) s.level b).2) :
    goodL w (hAt0 c k) b y = true ∧ worstAt w c (k + 1) b (lSince w s b) y ≠ 1000 ∧ worstAt w c (k + 1) b (lSince w s b) y + b2 b ≤ costI w c k s b := by
  have m := costI_may h
  obtain ⟨hh, _⟩ := hAt0_ok hc hk
  rw [costI_yes m] at h ⊢
  unfold costAt at h ⊢
  rw [costF_eq hw hh ok.1.1] at h ⊢
  split at h
  · rename_i g
    rw [if_pos g]
    rw [Bool.and_eq_true] at g
    have mem : planW w (c.hours.drop (k + 1)) b (lSince w s b) y ∈ (span (spanL w (hAt0 c k) s.level b).1 ((spanL w (hAt0 c k) s.level b).2 + 1)).map (planW w (c.hours.drop (k + 1)) b (lSince w s b)) := List.mem_map.mpr ⟨y, mem_span.mpr ⟨h1, by omega⟩, rfl⟩
    have le := le_lmax mem
    obtain ⟨z, _, ez⟩ := List.mem_map.mp (lmax_mem (List.ne_nil_of_mem mem))
    have bz := worst_bnd (w := w) hc (k + 1) b (lSince w s b) z
    have by_ := worst_bnd (w := w) hc (k + 1) b (lSince w s b) y
    unfold worstAt at bz by_ ⊢
    rw [ez] at bz
    unfold bump at h ⊢
    split at h
    · exact absurd rfl h
    · rename_i ne
      rw [if_neg ne]
      refine ⟨good_mid g.1 g.2 h1 h2, by omega, ?_⟩
      cases b
      · rw [if_neg Bool.false_ne_true]; show _ + 0 ≤ _; omega
      · rw [if_pos rfl]; show _ + 1 ≤ _; omega
  · exact absurd rfl h
theorem worst_end (b : Bool) (i l : Int) : worstAt w c c.hours.length b i l = 0 := by unfold worstAt; rw [List.drop_length]; rfl
theorem next_in {h : Hr} {l sea river : Int} (hf : 0 ≤ w.flow) (h1 : h.sl ≤ sea ∧ sea ≤ h.sh) (h2 : h.rl ≤ river ∧ river ≤ h.rh) : (spanL w h l b).1 ≤ nextL w l b sea river ∧ nextL w l b sea river ≤ (spanL w h l b).2 := by
  unfold spanL
  exact ⟨next_up hf h1.1 h2.1, next_up hf h1.2 h2.2⟩
theorem good_ok {h : Hr} {y : Int} (hy : 0 ≤ y) (g : goodL w h b y = true) (hw : w.Ok) (ok : s.Ok w) : (Stt.mk y b (lSince w s b)).Ok w := by
  unfold goodL at g
  simp only [Bool.and_eq_true, decide_eq_true_eq] at g
  exact ⟨⟨hy, g.1⟩, lSince_ok hw ok b⟩
theorem next_pos' {h : Hr} {l sea river : Int} (hw : w.Ok) (hh : h.Ok) (hl : 0 ≤ l) (h1 : h.sl ≤ sea) (h2 : h.rl ≤ river) : 0 ≤ nextL w l b sea river := by
  unfold Hr.Ok at hh
  unfold Wk.Ok at hw
  exact next_pos (by omega) hl (by omega) (by omega)
theorem cv_told {i : Int} (h : i ≠ 1000) : Cv (told i) i := cv_oi (by unfold told; rw [if_neg h])
theorem told_ok {i : Int} (h : i ≠ 1000) : told i = some i := by unfold told; rw [if_neg h]
theorem beatR_none {n : V} {t : Tv} (hk : numH c n = some k) (hs : mkSt w t = some s) (h : costI w c k s b ≠ 1000) : beatR w c n t (.bl b) = .ok (dv (Op.mk (none : Option (Int × Int)))) := by rw [beatR_ok hk hs, if_neg h]
theorem beatR_some {n : V} {t : Tv} (hk : numH c n = some k) (hs : mkSt w t = some s) (h : costI w c k s b = 1000) (m : lMay w s b = true) : beatR w c n t (.bl b) = .ok (dv (Op.mk (some (beatP w c k s b)))) := by rw [beatR_ok hk hs, if_pos h, if_pos m]
theorem may_of (hw : s.Ok w) (m : lMay w s b = true) : s.since = w.rest ∨ b = s.shut := by
  unfold lMay at m
  simp only [Bool.or_eq_true, decide_eq_true_eq] at m
  rcases m with m | m
  · exact .inr m
  · left; have := hw.2.2; omega
/-! ### what beats an action: the sea and the river that bring a level -/
theorem leastP_is {h : Hr} {l x : Int} (hf : 0 ≤ w.flow) (hh : h.Ok) (h1 : (spanL w h l b).1 ≤ x) (h2 : x ≤ (spanL w h l b).2) :
    (h.sl ≤ (leastP w h l b x).1 ∧ (leastP w h l b x).1 ≤ h.sh) ∧ (h.rl ≤ (leastP w h l b x).2 ∧ (leastP w h l b x).2 ≤ h.rh) ∧ nextL w l b (leastP w h l b x).1 (leastP w h l b x).2 = x
    ∧ (∀ a r, h.sl ≤ a → a < (leastP w h l b x).1 → r ≤ h.rh → nextL w l b a r < x) ∧ ∀ r, h.rl ≤ r → r < (leastP w h l b x).2 → nextL w l b (leastP w h l b x).1 r < x := by
  unfold Hr.Ok at hh
  unfold spanL at h1 h2
  simp only at h1 h2
  obtain ⟨a1, a2, a3, a4⟩ := upL_is (H := fun a => decide (nextL w l b a h.rh < x)) (h.sh - h.sl).toNat h.sl ⟨h.sh, by omega, by omega, by simp; omega⟩
  have eS : (leastP w h l b x).1 = upL (fun a => decide (nextL w l b a h.rh < x)) (h.sh - h.sl).toNat h.sl := rfl
  rw [← eS] at a1 a2 a3 a4
  obtain ⟨r1, r2, r3, r4⟩ := upL_is (H := fun a => decide (nextL w l b (leastP w h l b x).1 a < x)) (h.rh - h.rl).toNat h.rl ⟨h.rh, by omega, by omega, a1⟩
  have eR : (leastP w h l b x).2 = upL (fun a => decide (nextL w l b (leastP w h l b x).1 a < x)) (h.rh - h.rl).toNat h.rl := rfl
  rw [← eR] at r1 r2 r3 r4
  have r1 := of_decide_eq_false r1
  have low : nextL w l b (leastP w h l b x).1 h.rl ≤ x := by
    by_cases q : (leastP w h l b x).1 = h.sl
    · rw [q]; exact h1
    · have z := of_decide_eq_true (a4 ((leastP w h l b x).1 - 1) (by omega) (by omega))
      have st := next_step1 (w := w) (l := l) (s := b) (a := (leastP w h l b x).1 - 1) (b := h.rh)
      have up := next_up (w := w) hf (l := l) (s := b) (a := (leastP w h l b x).1) (a' := (leastP w h l b x).1) (b := h.rl) (b' := h.rh) (Int.le_refl _) (by omega)
      rw [Int.sub_add_cancel] at st
      omega
  refine ⟨⟨a2, by omega⟩, ⟨r2, by omega⟩, ?_, fun a r h3 h4 h5 => ?_, fun r h3 h4 => of_decide_eq_true (r4 r h3 h4)⟩
  · by_cases q : (leastP w h l b x).2 = h.rl
    · rw [q] at r1 ⊢; omega
    · have z := of_decide_eq_true (r4 ((leastP w h l b x).2 - 1) (by omega) (by omega))
      have st := next_step2 (w := w) (l := l) (s := b) (a := (leastP w h l b x).1) (b := (leastP w h l b x).2 - 1)
      rw [Int.sub_add_cancel] at st
      omega
  · have z := of_decide_eq_true (a4 a h3 h4)
    have up := next_up (w := w) hf (l := l) (s := b) (a := a) (a' := a) (b := r) (b' := h.rh) (Int.le_refl _) h5
    omega
/-- the level that beats: not good, or not kept, and above it in the span all hold -/
theorem beatL_is (hw : w.Ok) (hc : c.Ok) (hk : k < c.hours.length) (ok : s.Ok w) (hm : lMay w s b = true) (h : costI w c k s b = 1000) :
    (spanL w (hAt0 c k) s.level b).1 ≤ beatL w c k s b ∧ beatL w c k s b ≤ (spanL w (hAt0 c k) s.level b).2 ∧ holdsB w c k b (lSince w s b) (beatL w c k s b) = false ∧ ∀ y, beatL w c k s b < y → y ≤ (spanL w (hAt0 c k) s.level b).2 → holdsB w c k b (lSince w s b) y = true := by
  obtain ⟨y, y1, y2, y3⟩ := not_all hw hc hk ok hm h
  obtain ⟨a, b1, c1, d⟩ := downL_is (H := holdsB w c k b (lSince w s b)) ((spanL w (hAt0 c k) s.level b).2 - (spanL w (hAt0 c k) s.level b).1).toNat (spanL w (hAt0 c k) s.level b).2 ⟨y, by omega, y2, y3⟩
  exact ⟨by unfold beatL; omega, c1, a, d⟩
end
end Sk

set_option maxHeartbeats 4000000
/-! # Law k32: what is lost is beaten -/
namespace Sk
open PySem L2 PyProof.Rows Rk
instance {α β : Type} [Rp α] [Rp β] : Nn (α × β) := ⟨fun _ => false, fun {G H v a} h => decide_eq_false fun z => by
  obtain ⟨p, vs, e1, _⟩ := h
  rw [e1] at z; cases z⟩
def halfN : Nat → Int → Int
  | 0, c => c
  | n + 1, c => halfN n c / 2
theorem states_pos {w : Wk} (hw : w.Ok) : 0 < (statesOf w).length := by
  have m : (Stt.mk 0 false 1) ∈ statesOf w := (mem_states hw).mpr ⟨⟨Int.le_refl _, by unfold Wk.Ok at hw; show (0 : Int) ≤ w.wall; omega⟩, Int.le_refl _, by unfold Wk.Ok at hw; show (1 : Int) ≤ w.rest; omega⟩
  exact List.length_pos_of_mem m
theorem told_none {i : Int} (h : (!(told i).isNone) = false) : i = 1000 := by
  unfold told at h
  split at h
  · assumption
  · cases h
theorem told_some {i : Int} (h : (!(told i).isNone) = true) : i ≠ 1000 := by
  intro z; rw [z] at h; cases h
/-- what is told beats -/
theorem beat_is {w : Wk} {c : Crs} {k : Nat} {s : Stt} {b : Bool} (hw : w.Ok) (hc : c.Ok) (hk : k < c.hours.length) (ok : s.Ok w) (hm : lMay w s b = true) (h : costI w c k s b = 1000) :
    ((hAt0 c k).has (beatP w c k s b).1 (beatP w c k s b).2) = true ∧ nextL w s.level b (beatP w c k s b).1 (beatP w c k s b).2 = beatL w c k s b ∧ 0 ≤ beatL w c k s b ∧ (goodL w (hAt0 c k) b (beatL w c k s b) = true → worstAt w c (k + 1) b (lSince w s b) (beatL w c k s b) = 1000) := by
  obtain ⟨b1, b2, b3, _⟩ := beatL_is hw hc hk ok hm h
  obtain ⟨hh, _⟩ := hAt0_ok hc hk
  have hf : 0 ≤ w.flow := by unfold Wk.Ok at hw; omega
  obtain ⟨s1, s2, s3, _, _⟩ := leastP_is (l := s.level) hf hh b1 b2
  refine ⟨?_, s3, ?_, fun g => ?_⟩
  · unfold Hr.has
    rw [Bool.and_eq_true]
    exact ⟨decide_eq_true s1, decide_eq_true s2⟩
  · have := next_pos' (b := b) hw hh ok.1.1 s1.1 s2.1
    rw [s3] at this; exact this
  · unfold holdsB at b3
    rw [g] at b3
    simpa using b3
end Sk

set_option maxHeartbeats 4000000
/-! # Law k34: what beats an action, searched by the law -/
namespace Sk
open PySem L2 PyProof.Rows Rk
structure Bst where
  lv : Int
  p : Int × Int
abbrev Bst.ds (b : Bst) : List DV := [dv b.lv, dv b.p]
instance : Rp Bst := lsRp Bst.ds
instance : NN Bst := nn_ls
structure Mv where
  b : Bool
  deriving DecidableEq
abbrev Mv.ds (b : Mv) : List DV := [dv ("move" : Str), dv b.b]
instance : Rp Mv := lsRp Mv.ds
def opD : Option (Int × Int) → PyData
  | none => .none
  | some p => .tuple [.int p.1, .int p.2]
instance : DecidableEq (Op (Int × Int)) := fun a b => if h : a.o = b.o then isTrue (by cases a; cases b; exact congrArg Op.mk h) else isFalse fun e => h (e ▸ rfl)
instance : Dt (Op (Int × Int)) := ⟨fun x => opD x.o, 1, fun {G H v x} r => by
    obtain ⟨o⟩ := x
    cases o with
    | none =>
      have e : v = .non := r
      subst e; exact .non
    | some p =>
      obtain ⟨q, vs, e1, e2, e3⟩ := (show Rp.rep G H v p from r)
      subst e1
      match vs, e3 with
      | [_, _], e3 => exact .tup (SqT.of e2) (.cons (Dt.rp (x := p.1) e3.1) (.cons (Dt.rp (x := p.2) e3.2.1) .nil)), fun x => by obtain ⟨o⟩ := x; cases o <;> rfl, fun x => by
    obtain ⟨o⟩ := x
    cases o with
    | none => exact Nat.zero_le _
    | some p => exact Nat.le_refl _, fun x y => by
    obtain ⟨o⟩ := x
    obtain ⟨u⟩ := y
    cases o with
    | none => cases u with
      | none => exact ⟨fun _ => rfl, fun _ => rfl⟩
      | some j => exact ⟨fun h => (by cases h), fun h => (by cases h)⟩
    | some i => cases u with
      | none => exact ⟨fun h => (by cases h), fun h => (by cases h)⟩
      | some j => show (i.1 == j.1 && (i.2 == j.2 && true)) = true ↔ _; obtain ⟨i1, i2⟩ := i; obtain ⟨j1, j2⟩ := j; simp⟩
instance : Dt Mv := ⟨fun x => .list [.str "move", .bool x.b], 1, fun {G H v x} ⟨p, vs, e1, e2, e3⟩ => by
    subst e1
    match vs, e3 with
    | [a, _], e3 =>
      have h1 : a = V.str "move" := e3.1
      subst h1
      exact .lst (SqL.of e2) (.cons (.str "move") (.cons (Dt.rp (x := x.b) e3.2.1) .nil)), fun x => by
      obtain ⟨b⟩ := x
      cases b <;> decide +kernel, fun x => Nat.le_refl _, fun x y => by
    show ((("move" : Str) == "move") && (x.b == y.b && true)) = true ↔ _
    cases x; cases y; simp⟩
/-! ### the law's search -/
def ltO (x : Option Bst) (v : Int) : Bool := match x with
  | some b => decide (b.lv < v)
  | none => false
def dueStep (L : Int → Bool) (N : Int → Int → Int) (x : Option Bst) (q : Int × Int) : Option Bst := if (L (N q.1 q.2) && (x.isNone || ltO x (N q.1 q.2))) = true then some ⟨N q.1 q.2, q⟩ else x
def rowB (L : Int → Bool) (N : Int → Int → Int) (lo m a : Int) (x : Option Bst) : Option Bst := (span lo m).foldl (fun x r => dueStep L N x (a, r)) x
def colB (L : Int → Bool) (N : Int → Int → Int) (h : Hr) (m : Int) : Option Bst := (span h.sl m).foldl (fun x a => rowB L N h.rl (h.rh + 1) a x) none
def lostF (w : Wk) (h : Hr) (f : Stt → Option Int) (s : Stt) (b : Bool) (y : Int) : Bool := !goodL w h b y || Nn.isN (f ⟨y, b, lSince w s b⟩)
section
variable {L : Int → Bool} {N : Int → Int → Int} {h : Hr}
theorem rowB_0 {lo a : Int} {x : Option Bst} : rowB L N lo lo a x = x := by unfold rowB; rw [span_self]; rfl
theorem rowB_s {lo m a : Int} {x : Option Bst} (g : lo ≤ m) : rowB L N lo (m + 1) a x = dueStep L N (rowB L N lo m a x) (a, m) := by unfold rowB; rw [span_s g, List.foldl_append]; rfl
theorem colB_0 : colB L N h h.sl = none := by unfold colB; rw [span_self]; rfl
theorem colB_s {m : Int} (g : h.sl ≤ m) : colB L N h (m + 1) = rowB L N h.rl (h.rh + 1) m (colB L N h m) := by unfold colB; rw [span_s g, List.foldl_append]; rfl
theorem due_yes {x : Option Bst} {q : Int × Int} (e : (L (N q.1 q.2) && (x.isNone || ltO x (N q.1 q.2))) = true) : dueStep L N x q = some ⟨N q.1 q.2, q⟩ := if_pos e
theorem due_no {x : Option Bst} {q : Int × Int} (e : (L (N q.1 q.2) && (x.isNone || ltO x (N q.1 q.2))) = false) : dueStep L N x q = x := if_neg (by rw [e]; decide)
/-- all that was found is less -/
def Less (x : Option Bst) (v : Int) : Prop := ∀ b, x = some b → b.lv < v
theorem due_less {x : Option Bst} {q : Int × Int} {v : Int} (hx : Less x v) (hq : L (N q.1 q.2) = true → N q.1 q.2 < v) : Less (dueStep L N x q) v := by
  unfold dueStep
  split
  · rename_i c
    rw [Bool.and_eq_true] at c
    intro b e; injection e with e; subst e; exact hq c.1
  · exact hx
theorem fold_less {v : Int} : ∀ {qs : List (Int × Int)} {x : Option Bst}, Less x v → (∀ q ∈ qs, L (N q.1 q.2) = true → N q.1 q.2 < v) → Less (qs.foldl (dueStep L N) x) v
  | [], _, hx, _ => hx
  | q :: qs, x, hx, hq => fold_less (qs := qs) (due_less hx (hq q List.mem_cons_self)) fun z hz => hq z (List.mem_cons_of_mem _ hz)
theorem fold_stay {b : Bst} : ∀ {qs : List (Int × Int)}, (∀ q ∈ qs, L (N q.1 q.2) = true → N q.1 q.2 ≤ b.lv) → qs.foldl (dueStep L N) (some b) = some b
  | [], _ => rfl
  | q :: qs, hq => by
    have e : dueStep L N (some b) q = some b := by
      refine due_no ?_
      cases hL : L (N q.1 q.2) with
      | false => rfl
      | true =>
        have := hq q List.mem_cons_self hL
        show (true && (false || decide (b.lv < N q.1 q.2))) = false
        rw [decide_eq_false (by omega)]; rfl
    rw [List.foldl_cons, e]
    exact fold_stay fun z hz => hq z (List.mem_cons_of_mem _ hz)
theorem fold_non : ∀ {qs : List (Int × Int)}, (∀ q ∈ qs, L (N q.1 q.2) = false) → qs.foldl (dueStep L N) none = none
  | [], _ => rfl
  | q :: qs, hq => by
    have e : dueStep L N none q = none := due_no (by rw [hq q List.mem_cons_self]; rfl)
    rw [List.foldl_cons, e]
    exact fold_non fun z hz => hq z (List.mem_cons_of_mem _ hz)
def cand (h : Hr) (m : Int) : List (Int × Int) := (span h.sl m).flatMap fun a => (span h.rl (h.rh + 1)).map fun r => (a, r)
theorem foldl_fm {α β γ : Type} {f : β → List α} {g : γ → α → γ} : ∀ {xs : List β} {x : γ}, (xs.flatMap f).foldl g x = xs.foldl (fun x a => (f a).foldl g x) x
  | [], _ => rfl
  | y :: ys, x => by rw [List.flatMap_cons, List.foldl_append, List.foldl_cons, foldl_fm]
theorem colB_cand (m : Int) : colB L N h m = (cand h m).foldl (dueStep L N) none := by
  unfold colB cand rowB
  rw [foldl_fm]
  congr 1
  funext x a
  rw [List.foldl_map]
theorem span_cut {lo a hi : Int} (h1 : lo ≤ a) (h2 : a < hi) : span lo hi = span lo a ++ a :: span (a + 1) hi := by
  apply List.ext_getElem?
  intro i
  rw [List.getElem?_append]
  split
  · rename_i q
    rw [span_len] at q
    rw [span_get (by omega), span_get (by omega)]
  · rename_i q
    rw [span_len] at q ⊢
    by_cases e : i = (a - lo).toNat
    · rw [e, span_get (by omega), Nat.sub_self]
      show some _ = some a
      congr 1; omega
    · obtain ⟨j, hj⟩ : ∃ j, i - (a - lo).toNat = j + 1 := ⟨i - (a - lo).toNat - 1, by omega⟩
      rw [hj, List.getElem?_cons_succ]
      by_cases l : i < (hi - lo).toNat
      · rw [span_get (by omega), span_get (by omega)]; congr 1; omega
      · rw [List.getElem?_eq_none_iff.mpr (by rw [span_len]; omega), List.getElem?_eq_none_iff.mpr (by rw [span_len]; omega)]
theorem mem_cand {m : Int} {q : Int × Int} : q ∈ cand h m ↔ (h.sl ≤ q.1 ∧ q.1 < m) ∧ h.rl ≤ q.2 ∧ q.2 ≤ h.rh := by
  unfold cand
  rw [List.mem_flatMap]
  constructor
  · rintro ⟨a, ha, hq⟩
    obtain ⟨r, hr, rfl⟩ := List.mem_map.mp hq
    exact ⟨mem_span.mp ha, by have := mem_span.mp hr; show h.rl ≤ r ∧ r ≤ h.rh; omega⟩
  · rintro ⟨h1, h2, h3⟩
    exact ⟨q.1, mem_span.mpr h1, List.mem_map.mpr ⟨q.2, mem_span.mpr ⟨h2, by omega⟩, rfl⟩⟩
/-- the first of the greatest -/
theorem colB_is {a0 r0 : Int} (ha : h.sl ≤ a0 ∧ a0 ≤ h.sh) (hr : h.rl ≤ r0 ∧ r0 ≤ h.rh) (hL : L (N a0 r0) = true) (up : ∀ a r, (h.sl ≤ a ∧ a ≤ h.sh) → (h.rl ≤ r ∧ r ≤ h.rh) → L (N a r) = true → N a r ≤ N a0 r0)
    (lt1 : ∀ a r, h.sl ≤ a → a < a0 → r ≤ h.rh → N a r < N a0 r0) (lt2 : ∀ r, h.rl ≤ r → r < r0 → N a0 r < N a0 r0) : colB L N h (h.sh + 1) = some ⟨N a0 r0, (a0, r0)⟩ := by
  rw [colB_cand]
  have sp : cand h (h.sh + 1) = (cand h a0 ++ (span h.rl r0).map (fun r => (a0, r))) ++ (a0, r0) :: ((span (r0 + 1) (h.rh + 1)).map (fun r => (a0, r)) ++ (span (a0 + 1) (h.sh + 1)).flatMap fun a => (span h.rl (h.rh + 1)).map fun r => (a, r)) := by
    show (span h.sl (h.sh + 1)).flatMap _ = _
    rw [span_cut ha.1 (show a0 < h.sh + 1 by omega), List.flatMap_append, List.flatMap_cons]
    show cand h a0 ++ _ = _
    rw [span_cut hr.1 (show r0 < h.rh + 1 by omega), List.map_append, List.map_cons]
    simp only [List.append_assoc, List.cons_append]
  rw [sp, List.foldl_append, List.foldl_cons]
  have le : Less ((cand h a0 ++ (span h.rl r0).map (fun r => (a0, r))).foldl (dueStep L N) none) (N a0 r0) := fold_less (fun b e => (by cases e)) fun q hq _ => by
    rcases List.mem_append.mp hq with hq | hq
    · obtain ⟨⟨c1, c2⟩, c3, c4⟩ := mem_cand.mp hq
      exact lt1 _ _ c1 c2 c4
    · obtain ⟨r, hr2, rfl⟩ := List.mem_map.mp hq
      have := mem_span.mp hr2
      exact lt2 r this.1 this.2
  have e : dueStep L N ((cand h a0 ++ (span h.rl r0).map (fun r => (a0, r))).foldl (dueStep L N) none) (a0, r0) = some ⟨N a0 r0, (a0, r0)⟩ := by
    refine due_yes ?_
    rw [hL]
    cases ex : (cand h a0 ++ (span h.rl r0).map (fun r => (a0, r))).foldl (dueStep L N) none with
    | none => rfl
    | some b =>
      have := le b ex
      show (true && (false || decide (b.lv < N a0 r0))) = true
      rw [decide_eq_true this]; rfl
  rw [e]
  refine fold_stay fun q hq l => ?_
  have : q ∈ cand h (h.sh + 1) := by rw [sp]; exact List.mem_append_right _ (List.mem_cons_of_mem _ hq)
  obtain ⟨⟨c1, c2⟩, c3, c4⟩ := mem_cand.mp this
  exact up _ _ ⟨c1, by omega⟩ ⟨c3, c4⟩ l
end
def told34 (w : Wk) (c : Crs) (k : Nat) (s : Stt) (b : Bool) : Option (Int × Int) := if costI w c k s b = 1000 then some (beatP w c k s b) else none
theorem op_someG {α : Type} [Rp α] [NN α] {g : Op α} (h : Nn.isN g = false) : ∃ p, g.o = some p := by
  obtain ⟨o⟩ := g
  cases o with
  | none => cases h
  | some p => exact ⟨p, rfl⟩
theorem beat34 {w : Wk} {c : Crs} {k : Nat} {s : Stt} {b : Bool} {n : V} {t : Tv} (hk : numH c n = some k) (hs : mkSt w t = some s) : beatR w c n t (.bl b) = if lMay w s b = true then .ok (dv (Op.mk (told34 w c k s b))) else .err 13 := by
  rw [beatR_ok hk hs]
  by_cases m : lMay w s b = true
  · rw [if_pos m, if_pos m]
    unfold told34
    split <;> rfl
  · rw [if_neg m, if_neg m, if_pos (costI_no m)]
/-- the law's search finds what the plan tells -/
theorem due_beat {w : Wk} {c : Crs} {k : Nat} {s : Stt} {b : Bool} (hw : w.Ok) (hc : c.Ok) (hk : k < c.hours.length) (ok : s.Ok w) (hm : lMay w s b = true) :
    (colB (lostF w (hAt0 c k) (lawT w (c.hours.drop (k + 1))) s b) (nextL w s.level b) (hAt0 c k) ((hAt0 c k).sh + 1)).map Bst.p = told34 w c k s b := by
  obtain ⟨hh, _⟩ := hAt0_ok hc hk
  have hf : 0 ≤ w.flow := by unfold Wk.Ok at hw; omega
  have lost : ∀ {y : Int}, 0 ≤ y → lostF w (hAt0 c k) (lawT w (c.hours.drop (k + 1))) s b y = !holdsB w c k b (lSince w s b) y := fun {y} y0 => by
    unfold lostF holdsB
    cases g : goodL w (hAt0 c k) b y with
    | false => rfl
    | true =>
      have so := good_ok (s := s) y0 g hw ok
      rw [lawT_worst (k := k + 1) hw hc so, isN_told]
      simp
  have inn : ∀ {a r : Int}, ((hAt0 c k).sl ≤ a ∧ a ≤ (hAt0 c k).sh) → ((hAt0 c k).rl ≤ r ∧ r ≤ (hAt0 c k).rh) → (spanL w (hAt0 c k) s.level b).1 ≤ nextL w s.level b a r ∧ nextL w s.level b a r ≤ (spanL w (hAt0 c k) s.level b).2 ∧ 0 ≤ nextL w s.level b a r := fun h1 h2 => by
    have z := next_in (b := b) (l := s.level) hf h1 h2
    exact ⟨z.1, z.2, next_pos' hw hh ok.1.1 h1.1 h2.1⟩
  unfold told34
  by_cases q : costI w c k s b = 1000
  · rw [if_pos q]
    obtain ⟨b1, b2, b3, b4⟩ := beatL_is hw hc hk ok hm q
    obtain ⟨s1, s2, s3, s4, s5⟩ := leastP_is (l := s.level) hf hh b1 b2
    have e : nextL w s.level b (beatP w c k s b).1 (beatP w c k s b).2 = beatL w c k s b := s3
    have p0 := (inn s1 s2).2.2
    have z := colB_is (L := lostF w (hAt0 c k) (lawT w (c.hours.drop (k + 1))) s b) (N := nextL w s.level b) (h := hAt0 c k) s1 s2 (by rw [lost p0, s3, b3]; rfl) (fun a r h1 h2 l => by
      obtain ⟨i1, i2, i3⟩ := inn h1 h2
      rw [lost i3] at l
      rw [s3]
      refine Int.not_lt.mp fun gt => ?_
      rw [b4 _ gt i2] at l; cases l) (fun a r h1 h2 h3 => by rw [s3]; exact s4 a r h1 h2 h3) (fun r h1 h2 => by rw [s3]; exact s5 r h1 h2)
    rw [z]; rfl
  · rw [if_neg q]
    rw [colB_cand, fold_non]
    · rfl
    · intro p hp
      obtain ⟨⟨c1, c2⟩, c3⟩ := mem_cand.mp hp
      obtain ⟨i1, i2, i3⟩ := inn ⟨c1, by omega⟩ c3
      rw [lost i3]
      obtain ⟨g, n, _⟩ := cost_step hw hc hk ok q i1 i2
      unfold holdsB
      rw [g, decide_eq_false n]; rfl
end Sk

set_option maxHeartbeats 4000000
/-! # Law k21: what is refused -/
namespace Sk
open PySem L2 PyProof.Rows Rk
def errI : Ri → Bool
  | .ok _ => false
  | .err _ => true
theorem initWk_two (a b c d e : V) : (∃ w : Wk, initWk a b c d e = .ok w.fs) ∨ initWk a b c d e = .err 10 := by
  unfold initWk
  split
  · split
    · split
      · split
        · split
          · split
            · exact .inl ⟨_, rfl⟩
            · exact .inr rfl
          · exact .inr rfl
        · exact .inr rfl
      · exact .inr rfl
    · exact .inr rfl
  · exact .inr rfl
theorem initCrs_two (hs : List Tv) : (∃ c : Crs, initCrs hs = .ok c.fs) ∨ initCrs hs = .err 11 := by
  unfold initCrs
  split
  · exact .inl ⟨_, rfl⟩
  · exact .inr rfl
def errW (a b c d e : V) : Bool := errI (initWk a b c d e)
def errC (hs : List Tv) : Bool := errI (initCrs hs)
def putL (r : List V) (k : Int) (v : V) : List V := r.take k.toNat ++ [v] ++ r.drop (k + 1).toNat
def goodV : List V := [.int 10, .int 3, .int 2, .int 2, .int 4]
def hourV : List V := [.int 2, .int 5, .int 1, .int 3, .bl false]
def badW (f : Int) : List (Int × V) := [(0, .int 0), (0, .int (200 + f)), (0, .bl true), (1, .int 0), (1, .int (400 + f)), (2, .int (0 - f)), (2, .int (400 + f)), (3, .int 0), (3, .int (6 + f))] ++ [(4, .int (0 - f)), (4, .int (10 + f)), (1, .bl true), (4, .bl false), (2, .bl false), (3, .bl true), (0, .int (10 * f + 200)), (2, .bl true)]
def badH (f : Int) : List (Int × V) := [(0, .int 6), (0, .int (0 - f)), (1, .int (400 + f)), (1, .int 1), (2, .int 4), (2, .int (0 - f)), (3, .int (400 + f)), (3, .int 0), (4, .int 0), (4, .int 1), (0, .bl true)] ++ [(1, .bl true), (2, .bl true), (3, .bl true), (2, .bl false), (4, .non)]
theorem errW_a {a b c d e : V} (h : isWh a 1 200 = false) : errW a b c d e = true := by
  unfold errW initWk; rw [if_neg (by rw [h]; decide)]; rfl
theorem errW_b {a b c d e : V} (h : isWh b 1 400 = false) : errW a b c d e = true := by
  unfold errW initWk
  split
  · rw [if_neg (by rw [h]; decide)]; rfl
  · rfl
theorem errW_c {a b c d e : V} (h : isWh c 0 400 = false) : errW a b c d e = true := by
  unfold errW initWk
  split
  · split
    · rw [if_neg (by rw [h]; decide)]; rfl
    · rfl
  · rfl
theorem errW_d {a b c d e : V} (h : isWh d 1 6 = false) : errW a b c d e = true := by
  unfold errW initWk
  split
  · split
    · split
      · rw [if_neg (by rw [h]; decide)]; rfl
      · rfl
    · rfl
  · rfl
theorem errW_e {b c d e : V} (h : isWh e 0 10 = false) : errW (.int 10) b c d e = true := by
  unfold errW
  rcases initWk_two (.int 10) b c d e with ⟨w, z⟩ | z
  · exfalso
    unfold initWk at z
    split at z
    · split at z
      · split at z
        · split at z
          · split at z
            · split at z
              · rename_i e1 _ _ _ _ _ _ _ _ _ q
                simp_all [isWh]
              · cases z
            · cases z
          · cases z
        · cases z
      · cases z
    · cases z
  · rw [z]; rfl
theorem badW_is {f : Int} (hf : 1 ≤ f) : ∀ p ∈ badW f, (0 ≤ p.1 ∧ p.1 ≤ 4) ∧ ∃ a b c d e, putL goodV p.1 p.2 = [a, b, c, d, e] ∧ (scl a ∧ scl b ∧ scl c ∧ scl d ∧ scl e) ∧ errW a b c d e = true := by
  intro p hp
  have key : ∀ (a b c d e : V), (scl a ∧ scl b ∧ scl c ∧ scl d ∧ scl e) → errW a b c d e = true → ∃ a' b' c' d' e', [a, b, c, d, e] = [a', b', c', d', e'] ∧ (scl a' ∧ scl b' ∧ scl c' ∧ scl d' ∧ scl e') ∧ errW a' b' c' d' e' = true := fun a b c d e h1 h2 => ⟨a, b, c, d, e, rfl, h1, h2⟩
  unfold badW at hp
  simp only [List.cons_append, List.nil_append, List.mem_cons, List.not_mem_nil, or_false] at hp
  rcases hp with rfl | rfl | rfl | rfl | rfl | rfl | rfl | rfl | rfl | rfl | rfl | rfl | rfl | rfl | rfl | rfl | rfl
  all_goals
    refine ⟨⟨by dsimp only; omega, by dsimp only; omega⟩, key _ _ _ _ _ ⟨⟨_, rfl⟩, ⟨_, rfl⟩, ⟨_, rfl⟩, ⟨_, rfl⟩, ⟨_, rfl⟩⟩ ?_⟩
    first
      | exact errW_a (by first | rfl | exact decide_eq_false (by omega))
      | exact errW_b (by first | rfl | exact decide_eq_false (by omega))
      | exact errW_c (by first | rfl | exact decide_eq_false (by omega))
      | exact errW_d (by first | rfl | exact decide_eq_false (by omega))
      | exact errW_e (by first | rfl | exact decide_eq_false (by omega))
theorem putL_len (r : List V) (k : Int) (v : V) : (putL r k v).length ≤ r.length + 1 := by
  unfold putL
  rw [List.length_append, List.length_append, List.length_take, List.length_drop]
  simp only [List.length_cons, List.length_nil]
  omega
theorem andF1 {a b : Bool} (h : a = false) : (a && b) = false := by rw [h]; rfl
theorem andF2 {a b : Bool} (h : b = false) : (a && b) = false := by rw [h, Bool.and_false]
theorem bndF {lo hi : V} (h : isWh hi 0 400 = false) : bndOk lo hi = false := by
  cases hi with
  | int i => unfold bndOk; simp only; rw [show decide (0 ≤ i ∧ i ≤ 400) = false from h]; rfl
  | _ => rfl
theorem bndF2 {lo : V} {i : Int} (h : isWh lo 0 i = false) : bndOk lo (.int i) = false := by
  unfold bndOk; simp only; rw [h, Bool.and_false]
theorem badH_is {f : Int} (hf : 1 ≤ f) : ∀ p ∈ badH f, (0 ≤ p.1 ∧ p.1 ≤ 4) ∧ (∀ v ∈ putL hourV p.1 p.2, scl v) ∧ mkHr ⟨putL hourV p.1 p.2⟩ = none := by
  intro p hp
  have key : ∀ (a b c d e : V), (scl a ∧ scl b ∧ scl c ∧ scl d ∧ scl e) → (mkHr ⟨[a, b, c, d, e]⟩).isSome = false → (∀ v ∈ [a, b, c, d, e], scl v) ∧ mkHr ⟨[a, b, c, d, e]⟩ = none := fun a b c d e h1 h2 => by
    refine ⟨fun v hv => ?_, by simpa using h2⟩
    simp only [List.mem_cons, List.not_mem_nil, or_false] at hv
    rcases hv with rfl | rfl | rfl | rfl | rfl
    · exact h1.1
    · exact h1.2.1
    · exact h1.2.2.1
    · exact h1.2.2.2.1
    · exact h1.2.2.2.2
  unfold badH at hp
  simp only [List.cons_append, List.nil_append, List.mem_cons, List.not_mem_nil, or_false] at hp
  rcases hp with rfl | rfl | rfl | rfl | rfl | rfl | rfl | rfl | rfl | rfl | rfl | rfl | rfl | rfl | rfl | rfl
  all_goals
    refine ⟨⟨by dsimp only; omega, by dsimp only; omega⟩, key _ _ _ _ _ ⟨⟨_, rfl⟩, ⟨_, rfl⟩, ⟨_, rfl⟩, ⟨_, rfl⟩, ⟨_, rfl⟩⟩ ?_⟩
    rw [mkHr_isSome]
    first
      | exact andF1 (andF1 (bndF (by first | rfl | exact decide_eq_false (by omega))))
      | exact andF1 (andF1 (bndF2 (by first | rfl | exact decide_eq_false (by omega))))
      | exact andF1 (andF2 (bndF (by first | rfl | exact decide_eq_false (by omega))))
      | exact andF1 (andF2 (bndF2 (by first | rfl | exact decide_eq_false (by omega))))
      | exact andF2 rfl
theorem errC_of {hs : List Tv} {t : Tv} (h : t ∈ hs) (e : mkHr t = none) : errC hs = true := by
  unfold errC initCrs
  rw [if_neg]
  · rfl
  · rintro ⟨_, _, h3⟩
    have := List.all_eq_true.mp h3 t h
    rw [e] at this; cases this
theorem errC_len {hs : List Tv} (h : hs.length = 0 ∨ 72 < hs.length) : errC hs = true := by
  unfold errC initCrs
  rw [if_neg]
  · rfl
  · rintro ⟨h1, h2, _⟩; omega
theorem errC_ok {c : Crs} (h : c.Ok) : errC (c.hours.map Hr.tv) = false := by unfold errC; rw [initCrs_ok h]; rfl
theorem flat_rep {α : Type} (n : Nat) (x : α) : (List.replicate n [x]).flatten = List.replicate n x := by
  induction n with
  | zero => rfl
  | succ n ih => rw [List.replicate_succ, List.replicate_succ, List.flatten_cons, ih]; rfl
def hour0 : Hr := ⟨2, 5, 1, 3, false⟩
def crs0 (n : Nat) : Crs := ⟨List.replicate n hour0⟩
theorem crs0_ok {n : Nat} (h : 1 ≤ n) (h2 : n ≤ 72) : (crs0 n).Ok := by
  refine ⟨by show 1 ≤ (List.replicate n hour0).length; rw [List.length_replicate]; exact h, by show (List.replicate n hour0).length ≤ 72; rw [List.length_replicate]; exact h2, fun x hx => ?_⟩
  rw [List.eq_of_mem_replicate hx]; decide
theorem crs0_tv (n : Nat) : (List.replicate n [Tv.mk hourV]).flatten = (crs0 n).hours.map Hr.tv := by
  rw [flat_rep]
  show _ = (List.replicate n hour0).map Hr.tv
  rw [List.map_replicate]; rfl
def wk0 : Wk := ⟨10, 3, 2, 2, 4⟩
theorem wk0_ok : wk0.Ok := by decide
/-! ### the plan's questions: answered, or InvalidState -/
section
variable {w : Wk} {c : Crs} {n : V} {t : Tv} {b : V}
def asked (w : Wk) (c : Crs) (n : V) (t : Tv) : Bool := (numC c n).isSome && (mkSt w t).isSome
def asks (w : Wk) (c : Crs) (n : V) (t : Tv) : Bool := (numH c n).isSome && (mkSt w t).isSome
theorem worstR_two : (asked w c n t = true ∧ ∃ x : Option Int, worstR w c n t = .ok (dv x)) ∨ (asked w c n t = false ∧ worstR w c n t = .err 12) := by
  unfold worstR asked
  cases numC c n <;> cases mkSt w t <;> first | exact .inr ⟨rfl, rfl⟩ | exact .inl ⟨rfl, _, rfl⟩
theorem keptR_two : (asked w c n t = true ∧ ∃ x : Bool, keptR w c n t = .ok (dv x)) ∨ (asked w c n t = false ∧ keptR w c n t = .err 12) := by
  unfold keptR asked
  cases numC c n <;> cases mkSt w t <;> first | exact .inr ⟨rfl, rfl⟩ | exact .inl ⟨rfl, _, rfl⟩
theorem actionR_two : (asks w c n t = true ∧ ∃ x : Option Bool, actionR w c n t = .ok (dv x)) ∨ (asks w c n t = false ∧ actionR w c n t = .err 12) := by
  unfold actionR asks
  cases numH c n <;> cases mkSt w t <;> first | exact .inr ⟨rfl, rfl⟩ | exact .inl ⟨rfl, _, rfl⟩
theorem costR_two : (asks w c n t = true ∧ ∃ x : Option Int, costR w c n t b = .ok (dv x)) ∨ (asks w c n t = false ∧ costR w c n t b = .err 12) := by
  unfold costR asks
  cases numH c n <;> cases mkSt w t <;> first | exact .inr ⟨rfl, rfl⟩ | exact .inl ⟨rfl, _, rfl⟩
theorem beatR_two (hb : ∀ s, mkSt w t = some s → b = .bl s.shut) : (asks w c n t = true ∧ ∃ x : Op (Int × Int), beatR w c n t b = .ok (dv x)) ∨ (asks w c n t = false ∧ beatR w c n t b = .err 12) := by
  cases e1 : numH c n with
  | none => right; unfold beatR asks; rw [e1]; exact ⟨rfl, rfl⟩
  | some k =>
    cases e2 : mkSt w t with
    | none => right; unfold beatR asks; rw [e1, e2]; exact ⟨rfl, rfl⟩
    | some s =>
      left
      rw [hb s e2, beat34 e1 e2, if_pos (by unfold lMay; simp)]
      exact ⟨by unfold asks; rw [e1, e2]; rfl, _, rfl⟩
theorem levelsR_two {x y : V} : (asked w c n ⟨[.int 0, x, y]⟩ = true ∧ ∃ z : List Int, levelsR w c n x y = .ok (dv z)) ∨ (asked w c n ⟨[.int 0, x, y]⟩ = false ∧ levelsR w c n x y = .err 12) := by
  unfold levelsR asked
  cases numC c n <;> cases mkSt w ⟨[.int 0, x, y]⟩ <;> first | exact .inr ⟨rfl, rfl⟩ | exact .inl ⟨rfl, _, rfl⟩
theorem hourR_two : ((c.at_ n).isSome = true ∧ ∃ x : Hr, hourR c n = .ok (dv x)) ∨ ((c.at_ n).isSome = false ∧ hourR c n = .err 12) := by
  unfold hourR
  cases c.at_ n <;> first | exact .inr ⟨rfl, rfl⟩ | exact .inl ⟨rfl, _, rfl⟩
theorem hasR_two {x y : Int} : ((c.at_ n).isSome = true ∧ ∃ z : Bool, hasR c n x y = .ok (dv z)) ∨ ((c.at_ n).isSome = false ∧ hasR c n x y = .err 12) := by
  unfold hasR
  cases c.at_ n <;> first | exact .inr ⟨rfl, rfl⟩ | exact .inl ⟨rfl, _, rfl⟩
theorem spanR_two {x : Int} {y : Bool} : ((c.at_ n).isSome = true ∧ ∃ z : Int × Int, spanR w c n x y = .ok (dv z)) ∨ ((c.at_ n).isSome = false ∧ spanR w c n x y = .err 12) := by
  unfold spanR
  cases c.at_ n <;> first | exact .inr ⟨rfl, rfl⟩ | exact .inl ⟨rfl, _, rfl⟩
theorem at_mem {o : Hr} (h : c.at_ n = some o) : o ∈ c.hours := by
  obtain ⟨i, _, _, hi⟩ := at_inv h
  exact List.mem_of_getElem? hi
theorem narrowR_two {h : Hr} (hh : h.Ok) (hf : ∀ o ∈ c.hours, withinH h o = true) : ((c.at_ n).isSome = true ∧ ∃ z : Crs, narrowR c n h.tv = .ok (dv z)) ∨ ((c.at_ n).isSome = false ∧ narrowR c n h.tv = .err 12) := by
  unfold narrowR
  rw [mkHr_ok hh]
  simp only
  cases e : c.at_ n with
  | none => exact .inr ⟨rfl, rfl⟩
  | some o =>
    left
    simp only
    rw [if_pos (hf o (at_mem e))]
    exact ⟨rfl, _, rfl⟩
theorem stR_two : ((mkSt w t).isSome = true ∧ (if (mkSt w t).isSome = true then Rz.ok (dv ()) else .err 12) = Rz.ok (dv ())) ∨ ((mkSt w t).isSome = false ∧ (if (mkSt w t).isSome = true then Rz.ok (dv ()) else .err 12) = Rz.err 12) := by
  cases e : (mkSt w t).isSome
  · right; exact ⟨rfl, rfl⟩
  · left; exact ⟨rfl, rfl⟩
def errS (w : Wk) (c : Crs) (k : Int) (n : V) (a b d : V) : Bool :=
  if k = 0 ∨ k = 1 then !asked w c n ⟨[a, b, d]⟩ else if k = 2 ∨ k = 3 ∨ k = 4 then !asks w c n ⟨[a, b, d]⟩ else if k = 5 then !asked w c n ⟨[.int 0, b, d]⟩ else if k = 6 ∨ k = 7 ∨ k = 8 ∨ k = 9 then !(c.at_ n).isSome else !(mkSt w ⟨[a, b, d]⟩).isSome
end
end Sk
namespace Sk
open PySem L2 PyProof.Rows Rk
theorem scl3 {a b d : V} (h1 : scl a) (h2 : scl b) (h3 : scl d) : ∀ v ∈ [a, b, d], scl v := by
  intro v hv
  simp only [List.mem_cons, List.not_mem_nil, or_false] at hv
  rcases hv with rfl | rfl | rfl
  · exact h1
  · exact h2
  · exact h3
theorem shut_of {w : Wk} {a b d : V} : ∀ s, mkSt w ⟨[a, b, d]⟩ = some s → b = .bl s.shut := fun s hs => by
  obtain ⟨e, _⟩ := mkSt_some hs
  unfold Stt.tv at e
  injection e with e
  injection e with _ e
  injection e with e _
theorem within0 (n : Nat) : ∀ o ∈ (crs0 n).hours, withinH hour0 o = true := fun o ho => by
  rw [List.eq_of_mem_replicate (show o ∈ List.replicate n hour0 from ho)]; decide
/-- the states that are none -/
def bad3 (f : Int) : List Tv := [(Stt.mk (0 - f) false 1).tv, (Stt.mk (10 + f) false 1).tv, (Stt.mk 5 false 0).tv, (Stt.mk 5 true (2 + f)).tv, ⟨[.int 5, .bl false, .bl true]⟩, ⟨[.int 5, .non, .int 1]⟩, ⟨[.bl true, .bl false, .int 1]⟩]
theorem mk_no {w : Wk} {a b c : V} (h : (isWh a 0 w.wall && isBl b && isWh c 1 w.rest) = false) : mkSt w ⟨[a, b, c]⟩ = none := by
  have e := mkSt_isSome w a b c
  rw [h] at e
  simpa using e
theorem bad3_is {f : Int} (hf : 1 ≤ f) : ∀ t ∈ bad3 f, ∃ a b d, t = ⟨[a, b, d]⟩ ∧ (∀ v ∈ [a, b, d], scl v) ∧ isNumV a = true ∧ mkSt wk0 ⟨[a, b, d]⟩ = none ∧ (eqVI a 5 = true → mkSt wk0 ⟨[.int 0, b, d]⟩ = none) := by
  intro t ht
  unfold bad3 at ht
  simp only [List.mem_cons, List.not_mem_nil, or_false] at ht
  have hw : wk0.wall = 10 := rfl
  have hr : wk0.rest = 2 := rfl
  have e1 : ∀ {x y : Int}, ¬ (0 ≤ x ∧ x ≤ 10) → isWh (.int x) 0 wk0.wall = false := fun {x y} h => by rw [hw]; exact decide_eq_false h
  have e2 : ∀ {x : Int}, ¬ (1 ≤ x ∧ x ≤ 2) → isWh (.int x) 1 wk0.rest = false := fun {x} h => by rw [hr]; exact decide_eq_false h
  rcases ht with rfl | rfl | rfl | rfl | rfl | rfl | rfl
  · exact ⟨_, _, _, rfl, scl3 (scl_i _) (scl_b _) (scl_i _), rfl, mk_no (andF1 (andF1 (e1 (y := 0) (by dsimp only; omega)))), fun h => absurd (show (0 - f : Int) = 5 from of_decide_eq_true h) (by omega)⟩
  · exact ⟨_, _, _, rfl, scl3 (scl_i _) (scl_b _) (scl_i _), rfl, mk_no (andF1 (andF1 (e1 (y := 0) (by dsimp only; omega)))), fun h => absurd (show (10 + f : Int) = 5 from of_decide_eq_true h) (by omega)⟩
  · exact ⟨_, _, _, rfl, scl3 (scl_i _) (scl_b _) (scl_i _), rfl, mk_no (andF2 (e2 (by dsimp only; omega))), fun _ => mk_no (andF2 (e2 (by dsimp only; omega)))⟩
  · exact ⟨_, _, _, rfl, scl3 (scl_i _) (scl_b _) (scl_i _), rfl, mk_no (andF2 (e2 (by dsimp only; omega))), fun _ => mk_no (andF2 (e2 (by dsimp only; omega)))⟩
  · exact ⟨_, _, _, rfl, scl3 (scl_i _) (scl_b _) (scl_b _), rfl, mk_no (andF2 rfl), fun _ => mk_no (andF2 rfl)⟩
  · exact ⟨_, _, _, rfl, scl3 (scl_i _) ⟨_, rfl⟩ (scl_i _), rfl, mk_no (andF1 (andF2 rfl)), fun _ => mk_no (andF1 (andF2 rfl))⟩
  · exact ⟨_, _, _, rfl, scl3 (scl_b _) (scl_b _) (scl_i _), rfl, mk_no (andF1 (andF1 rfl)), fun h => absurd (show b2 true = 5 from of_decide_eq_true h) (by decide)⟩
theorem errS_st {c : Crs} {k : Int} {n a b d : V} (h : mkSt wk0 ⟨[a, b, d]⟩ = none) (hk : k = 0 ∨ k = 1 ∨ k = 2 ∨ k = 3 ∨ k = 4 ∨ k = 5 ∨ k = 10) (h5 : k = 5 → mkSt wk0 ⟨[.int 0, b, d]⟩ = none) : errS wk0 c k n a b d = true := by
  unfold errS asked asks
  rw [h]
  rcases hk with rfl | rfl | rfl | rfl | rfl | rfl | rfl
  all_goals simp
  · rw [h5 rfl]; simp
/-- numbers of hours that there are not -/
theorem errS_num {c : Crs} {k : Int} {n a b d : V} (h0 : k = 0 ∨ k = 1 ∨ k = 5 → numC c n = none) (h2 : k = 2 ∨ k = 3 ∨ k = 4 → numH c n = none) (h6 : k = 6 ∨ k = 7 ∨ k = 8 ∨ k = 9 → c.at_ n = none) (hk : k = 0 ∨ k = 1 ∨ k = 2 ∨ k = 3 ∨ k = 4 ∨ k = 5 ∨ k = 6 ∨ k = 7 ∨ k = 8 ∨ k = 9) : errS wk0 c k n a b d = true := by
  unfold errS asked asks
  rcases hk with rfl | rfl | rfl | rfl | rfl | rfl | rfl | rfl | rfl | rfl
  · rw [h0 (by simp)]; simp
  · rw [h0 (by simp)]; simp
  · rw [h2 (by simp)]; simp
  · rw [h2 (by simp)]; simp
  · rw [h2 (by simp)]; simp
  · rw [h0 (by simp)]; simp
  · rw [h6 (by simp)]; simp
  · rw [h6 (by simp)]; simp
  · rw [h6 (by simp)]; simp
  · rw [h6 (by simp)]; simp
theorem errS_good {k : Int} (hk : k = 0 ∨ k = 1 ∨ k = 2 ∨ k = 3 ∨ k = 4 ∨ k = 5 ∨ k = 6 ∨ k = 7 ∨ k = 8 ∨ k = 9 ∨ k = 10) : errS wk0 (crs0 3) k (.int 2) (.int 5) (.bl true) (.int 2) = false := by
  rcases hk with rfl | rfl | rfl | rfl | rfl | rfl | rfl | rfl | rfl | rfl | rfl <;> decide
theorem num_no {i : Int} (h : i < 0 ∨ 3 < i) : numC (crs0 3) (.int i) = none := by
  unfold numC; simp only; rw [if_neg]; show ¬ (0 ≤ i ∧ i ≤ 3); omega
theorem numH_no {i : Int} (h : i < 0 ∨ 3 ≤ i) : numH (crs0 3) (.int i) = none := by
  unfold numH; simp only; rw [if_neg]; show ¬ (0 ≤ i ∧ i < 3); omega
theorem at_no {i : Int} (h : i < 0 ∨ 3 ≤ i) : (crs0 3).at_ (.int i) = none := by
  unfold Crs.at_
  simp only
  split
  · rw [List.getElem?_eq_none_iff]; show 3 ≤ i.toNat; omega
  · rfl
end Sk
namespace Sk
open PySem L2 PyProof.Rows Rk
theorem rows_ok : ∀ r ∈ [[V.int 200, .int 400, .int 400, .int 6, .int 200], [.int 1, .int 1, .int 0, .int 1, .int 0], [.int 1, .int 1, .int 0, .int 1, .int 1], goodV], ∃ a b c d e, r = [a, b, c, d, e] ∧ (scl a ∧ scl b ∧ scl c ∧ scl d ∧ scl e) ∧ errW a b c d e = false := by
  intro r hr
  simp only [List.mem_cons, List.not_mem_nil, or_false] at hr
  have key : ∀ w : Wk, w.Ok → r = [.int w.wall, .int w.flow, .int w.pump, .int w.rest, .int w.deep] → ∃ a b c d e, r = [a, b, c, d, e] ∧ (scl a ∧ scl b ∧ scl c ∧ scl d ∧ scl e) ∧ errW a b c d e = false := fun w hw e =>
    ⟨_, _, _, _, _, e, ⟨scl_i _, scl_i _, scl_i _, scl_i _, scl_i _⟩, by unfold errW; rw [initWk_ok hw]; rfl⟩
  rcases hr with rfl | rfl | rfl | rfl
  · exact key ⟨200, 400, 400, 6, 200⟩ (by decide) rfl
  · exact key ⟨1, 1, 0, 1, 0⟩ (by decide) rfl
  · exact key ⟨1, 1, 0, 1, 1⟩ (by decide) rfl
  · exact key ⟨10, 3, 2, 2, 4⟩ (by decide) rfl
theorem hourV_scl : ∀ v ∈ hourV, scl v := scl_hr hour0
theorem rep_scl {n : Nat} : ∀ t ∈ (List.replicate n [Tv.mk hourV]).flatten, ∀ v ∈ t.vs, scl v := by
  rw [flat_rep]
  intro t ht
  rw [List.eq_of_mem_replicate ht]
  exact hourV_scl
theorem rows_scl {n m : Nat} {p : List V} (h : ∀ v ∈ p, scl v) : ∀ t ∈ (List.replicate n [Tv.mk hourV]).flatten ++ [Tv.mk p] ++ (List.replicate m [Tv.mk hourV]).flatten, ∀ v ∈ t.vs, scl v := by
  intro t ht
  rcases List.mem_append.mp ht with ht | ht
  · rcases List.mem_append.mp ht with ht | ht
    · exact rep_scl t ht
    · rw [List.mem_singleton.mp ht]; exact h
  · exact rep_scl t ht
theorem nums_no {f k : Int} (hf : 1 ≤ f) : ∀ n ∈ [V.int (0 - f), .int (3 + f), .int (3 + b2 (decide (k ∈ [0, 1, 5]))), .bl true], scl n ∧ (k = 0 ∨ k = 1 ∨ k = 5 → numC (crs0 3) n = none) ∧ (k = 2 ∨ k = 3 ∨ k = 4 → numH (crs0 3) n = none) := by
  intro n hn
  simp only [List.mem_cons, List.not_mem_nil, or_false] at hn
  rcases hn with rfl | rfl | rfl | rfl
  · exact ⟨scl_i _, fun _ => num_no (by omega), fun _ => numH_no (by omega)⟩
  · exact ⟨scl_i _, fun _ => num_no (by omega), fun _ => numH_no (by omega)⟩
  · refine ⟨scl_i _, fun h => num_no ?_, fun h => numH_no ?_⟩
    · right
      rw [decide_eq_true (by omega)]; show (3 : Int) < 3 + 1; omega
    · right
      rcases b2_01 (decide (k = 0 ∨ k = 1 ∨ k = 5)) with e | e <;> rw [e] <;> omega
  · exact ⟨scl_b _, fun _ => rfl, fun _ => rfl⟩
theorem nums2_no {f : Int} (hf : 1 ≤ f) : ∀ n ∈ [V.int (0 - 1), .int (0 - f), .int 3, .int (3 + f), .bl false], scl n ∧ (crs0 3).at_ n = none := by
  intro n hn
  simp only [List.mem_cons, List.not_mem_nil, or_false] at hn
  rcases hn with rfl | rfl | rfl | rfl | rfl
  · exact ⟨scl_i _, at_no (by omega)⟩
  · exact ⟨scl_i _, at_no (by omega)⟩
  · exact ⟨scl_i _, at_no (by omega)⟩
  · exact ⟨scl_i _, at_no (by omega)⟩
  · exact ⟨scl_b _, rfl⟩
theorem tv_one {t : Tv} (h : ∀ v ∈ t.vs, scl v) : ∀ u ∈ [t], ∀ v ∈ u.vs, scl v := fun u hu => by rw [List.mem_singleton.mp hu]; exact h
end Sk
namespace Sk
open PySem L2 PyProof.Rows Rk
theorem errS_st' {c : Crs} {k : Int} {n a b d : V} (h : mkSt wk0 ⟨[a, b, d]⟩ = none) (hk : k ∈ [(0 : Int), 1, 2, 3, 4, 5, 10]) (h5 : k = 5 → mkSt wk0 ⟨[.int 0, b, d]⟩ = none) : errS wk0 c k n a b d = true := errS_st h (by simpa using hk) h5
theorem errS_num' {c : Crs} {k : Int} {n a b d : V} (h0 : k = 0 ∨ k = 1 ∨ k = 5 → numC c n = none) (h2 : k = 2 ∨ k = 3 ∨ k = 4 → numH c n = none) (hk : k ∈ [(0 : Int), 1, 2, 3, 4, 5, 10]) (ne : k ≠ 10) : errS wk0 c k n a b d = true := by
  simp only [List.mem_cons, List.not_mem_nil, or_false] at hk
  exact errS_num h0 h2 (fun z => absurd z (by omega)) (by omega)
theorem errS_num4 {c : Crs} {k : Int} {n a b d : V} (h : c.at_ n = none) (hk : k ∈ [(6 : Int), 7, 8, 9]) : errS wk0 c k n a b d = true := by
  simp only [List.mem_cons, List.not_mem_nil, or_false] at hk
  exact errS_num (fun z => absurd z (by omega)) (fun z => absurd z (by omega)) (fun _ => h) (by omega)
theorem errS_good7 {k : Int} (hk : k ∈ [(0 : Int), 1, 2, 3, 4, 5, 10]) : errS wk0 (crs0 3) k (.int 2) (.int 5) (.bl true) (.int 2) = false := by
  simp only [List.mem_cons, List.not_mem_nil, or_false] at hk
  exact errS_good (by omega)
theorem errS_good4 {k : Int} (hk : k ∈ [(6 : Int), 7, 8, 9]) : errS wk0 (crs0 3) k (.int 2) (.int 5) (.bl true) (.int 2) = false := by
  simp only [List.mem_cons, List.not_mem_nil, or_false] at hk
  exact errS_good (by omega)
theorem ret7 {k : Int} {x : Bool} (h : (!decide (k = 10) && !x) = true) : k ≠ 10 ∧ x = false := by
  simpa using h
end Sk

set_option maxHeartbeats 4000000
/-! # Texts of states; law k90 -/
namespace Rk
open PySem L2
theorem zc_line {a b : Addr} {d : Option Addr} {o : Obj} (e : a = b) (h : Zc (.ref a) d o) : Zc (.ref b) d o := e ▸ h
end Rk
namespace Sk
open PySem L2 PyProof.Rows Rk
def readN (s : Str) : Option Int := if (!Txt.isascii s || !Txt.isdigit s || decide (9 < s.length)) = true then none else if (Txt.startswith s "0" && decide (s ≠ "0")) = true then none else intText? s
theorem digit_ascii : ∀ c : Nat, c < 128 → Unicode.isDigit c = true → 48 ≤ c ∧ c ≤ 57 := by decide +kernel
theorem digits_of {s : Str} (h1 : Txt.isascii s = true) (h2 : Txt.isdigit s = true) : NumText.AllDigits s.cps.toList ∧ s.cps.toList ≠ [] := by
  unfold Txt.isascii at h1
  unfold Txt.isdigit at h2
  rw [Bool.and_eq_true] at h2
  obtain ⟨h3, h2⟩ := h2
  rw [Array.all_eq_true_iff_forall_mem] at h1 h2
  refine ⟨fun c hc => digit_ascii c ?_ (h2 c (by simpa using hc)), fun e => ?_⟩
  · simpa using h1 c (by simpa using hc)
  · have : s.length = 0 := by
      have := congrArg List.length e
      simpa [Str.length] using this
    rw [this] at h3
    cases h3
theorem readN_int {s : Str} (h1 : Txt.isascii s = true) (h2 : Txt.isdigit s = true) (h3 : ¬ (9 : Int) < (s.length : Int)) : ∃ n, intText? s = some n ∧ s.length ≤ 640 := by
  obtain ⟨d1, d2⟩ := digits_of h1 h2
  exact ⟨_, intText_digits d1 d2 (by omega), by omega⟩
theorem readN_a {s : Str} (h0 : (!Txt.isascii s || (!Txt.isdigit s || decide ((9 : Int) < (s.length : Int)))) = true) : readN s = none := by
  have h : Txt.isascii s = false ∨ Txt.isdigit s = false ∨ (9 : Int) < (s.length : Int) := by simpa using h0
  unfold readN
  rw [if_pos]
  rcases h with h | h | h
  · rw [h]; rfl
  · rw [h]; cases Txt.isascii s <;> rfl
  · rw [show decide (9 < s.length) = true from decide_eq_true (by omega)]; cases Txt.isascii s <;> cases Txt.isdigit s <;> rfl
theorem readN_h {s : Str} (h : (!Txt.isascii s || (!Txt.isdigit s || decide ((9 : Int) < (s.length : Int)))) = false) : Txt.isascii s = true ∧ Txt.isdigit s = true ∧ ¬ (9 : Int) < (s.length : Int) := by
  simp only [Bool.or_eq_false_iff, Bool.not_eq_false', decide_eq_false_iff_not] at h
  exact h
theorem readN_b {s : Str} (h1 : (!Txt.isascii s || (!Txt.isdigit s || decide ((9 : Int) < (s.length : Int)))) = false) (h2 : (Txt.startswith s "0" && !decide (s = "0")) = true) : readN s = none := by
  obtain ⟨a, b, c⟩ := readN_h h1
  unfold readN
  rw [if_neg (by rw [a, b, show decide (9 < s.length) = false from decide_eq_false (by omega)]; decide), if_pos]
  simpa using h2
theorem readN_c {s : Str} (h1 : (!Txt.isascii s || (!Txt.isdigit s || decide ((9 : Int) < (s.length : Int)))) = false) (h2 : (Txt.startswith s "0" && !decide (s = "0")) = false) : readN s = intText? s := by
  obtain ⟨a, b, c⟩ := readN_h h1
  unfold readN
  rw [if_neg (by rw [a, b, show decide (9 < s.length) = false from decide_eq_false (by omega)]; decide), if_neg]
  simpa using h2
/-- the words of a state -/
def parseT (t : Str) : Option Tld := match Txt.split t " " with
  | [a, b, c] => if (Tld.mk (readN a) (gateOf b) (readN c)).miss = true then none else some ⟨readN a, gateOf b, readN c⟩
  | _ => none
def parseR (t : Str) : Rz := match parseT t with
  | some r => .ok (dv r)
  | none => .err 101
theorem parseR_len {t : Str} (h : ((Txt.split t " ").length : Int) ≠ 3) : parseR t = .err 101 := by
  unfold parseR parseT
  split
  · rename_i r e
    split at e
    · rename_i a b c q
      rw [q] at h; exact absurd rfl h
    · cases e
  · rfl
theorem split3 {t : Str} (h : ((Txt.split t " ").length : Int) = 3) : ∃ a b c, Txt.split t " " = [a, b, c] := by
  match e : Txt.split t " " with
  | [a, b, c] => exact ⟨a, b, c, rfl⟩
  | [] => rw [e] at h; exact absurd h (by decide)
  | [_] => rw [e] at h; exact absurd h (by simp)
  | [_, _] => rw [e] at h; exact absurd h (by simp)
  | _ :: _ :: _ :: _ :: r => rw [e] at h; exact absurd h (by simp only [List.length_cons]; omega)
theorem parseR_miss {t a b c : Str} (h : Txt.split t " " = [a, b, c]) (m : (Tld.mk (readN a) (gateOf b) (readN c)).miss = true) : parseR t = .err 101 := by
  unfold parseR parseT
  rw [h]
  simp only
  rw [if_pos m]
theorem parseR_ok {t a b c : Str} (h : Txt.split t " " = [a, b, c]) (m : ¬ (Tld.mk (readN a) (gateOf b) (readN c)).miss = true) : parseR t = .ok (dv (Tld.mk (readN a) (gateOf b) (readN c))) := by
  unfold parseR parseT
  rw [h]
  simp only
  rw [if_neg m]
/-! ### k90 -/
structure Ans where
  fl : List Bool
  v : Bool
deriving DecidableEq
def Ans.ds (a : Ans) : List DV := [dv a.fl, dv a.v]
instance : Rp Ans := lsRp Ans.ds
instance : Dt Ans := ⟨fun x => .list [Dt.d x.fl, .bool x.v], 2, fun {G H v x} ⟨p, vs, e1, e2, e3⟩ => by
    subst e1
    match vs, e3 with
    | [a, b], e3 => exact .lst (SqL.of e2) (.cons (Dt.rp (x := x.fl) e3.1) (.cons (Dt.rp (x := x.v) e3.2.1) .nil)), fun x => by
      show ((Dt.d x.fl).canLay0 && true) = true
      rw [Dt.lay x.fl]; rfl, fun x => by
      show max (Dt.d x.fl).depth (max 0 0) + 1 ≤ 2
      have := Dt.deep x.fl
      have e : Dt.dp (List Bool) = 1 := rfl
      omega, fun x y => by
    show ((PyData.eqv (Dt.d x.fl) (Dt.d y.fl)) && (x.v == y.v && true)) = true ↔ _
    rw [Bool.and_eq_true, Dt.inj]
    cases x; cases y
    simp⟩
def codeOf (k : Int) : Nat := if k = 0 then 10 else if k = 1 then 11 else if k = 2 then 12 else if k = 3 then 13 else if k = 4 then 14 else 101
def flagsOf (k : Int) : List Bool := [decide (k = 0), decide (k = 1), decide (k = 2), decide (k = 3), decide (k = 4), decide (k = 5)]
def cry (n : Int) : Str := "sessions" ++ Txt.mul "!" n
theorem mod5 (c : Int) : c % 5 = 0 ∨ c % 5 = 1 ∨ c % 5 = 2 ∨ c % 5 = 3 ∨ c % 5 = 4 := by omega
theorem mod10 (c : Int) : c % 10 = 0 ∨ c % 10 = 1 ∨ c % 10 = 2 ∨ c % 10 = 3 ∨ c % 10 = 4 ∨ c % 10 = 5 ∨ c % 10 = 6 ∨ c % 10 = 7 ∨ c % 10 = 8 ∨ c % 10 = 9 := by omega
theorem cry_no (c : Int) : Txt.split (cry (c % 5)) "\n" = [cry (c % 5)] ∧ Txt.startswith (cry (c % 5)) "session " = false ∧ (cry (c % 5)).length + 2 ≤ sizeLine := by
  rcases mod5 c with e | e | e | e | e <;> rw [e] <;> exact ⟨by decide +kernel, by decide +kernel, by decide +kernel⟩
theorem line_no (c : Int) : parseR (("0" ++ strI (c % 10)) ++ " open 1") = .err 101 ∧ (("0" ++ strI (c % 10)) ++ " open 1").length ≤ 1000000 ∧ (strI (c % 10)).length ≤ 100 := by
  have key : ∀ t : Str, parseT t = none → parseR t = .err 101 := fun t h => by unfold parseR; rw [h]
  rcases mod10 c with e | e | e | e | e | e | e | e | e | e <;> rw [e] <;> exact ⟨key _ (by decide +kernel), by decide +kernel, by decide +kernel⟩
theorem k6 {k : Int} (h : 0 ≤ k ∧ k ≤ 5) : k = 0 ∨ k = 1 ∨ k = 2 ∨ k = 3 ∨ k = 4 ∨ k = 5 := by omega
def wkC (c : Int) : Wk := ⟨5 + c % 90, 1 + c % 7, c % 5, 2 + c % 5, c % 3⟩
theorem wkC_ok (c : Int) : (wkC c).Ok := by unfold wkC Wk.Ok; dsimp only; omega
theorem wk_bad (c : Int) : initWk (.int (0 - c % 9)) (.int 2) (.int 1) (.int 1) (.int 0) = .err 10 := by
  unfold initWk
  rw [if_neg (by simp only [isWh]; intro z; have := of_decide_eq_true z; omega)]
theorem crs_bad (c : Int) : initCrs [(Hr.mk (3 + c % 9) 2 0 1 false).tv] = .err 11 := by
  unfold initCrs
  rw [if_neg]
  rintro ⟨_, _, h3⟩
  have h4 := List.all_eq_true.mp h3 _ List.mem_cons_self
  rw [mkHr_not (by unfold Hr.Ok; dsimp only; omega)] at h4
  cases h4
theorem st_bad (c : Int) : (mkSt (wkC c) (Stt.mk ((wkC c).wall + 1 + c % 9) false 1).tv).isSome = false := by
  unfold mkSt Stt.tv
  simp only
  rw [if_neg]
  · rfl
  · unfold Stt.Ok; dsimp only; omega
theorem mv_bad (c : Int) : movR (wkC c) (Stt.mk (c % 5) (decide (c % 2 = 1)) 1).tv (decide (c % 2 = 0)) = .err 13 := by
  rw [movR_ok (by unfold Stt.Ok wkC; dsimp only; omega)]
  unfold movedR
  rw [if_neg, if_neg]
  · unfold wkC; dsimp only; omega
  · dsimp only
    rcases (show c % 2 = 0 ∨ c % 2 = 1 by omega) with e | e <;> rw [e] <;> decide
end Sk

set_option maxHeartbeats 4000000
/-! # The papers: stretches, rows -/
namespace Sk
open PySem L2 PyProof.Rows Rk
theorem lost_t {i : Int} : (!(!(told i).isNone)) = decide (i = 1000) := by
  rw [show (told i).isNone = Nn.isN (told i) from rfl, isN_told, Bool.not_not]
def lastIs (f : List (Int × Int)) (l : Int) : Bool := match f.getLast? with
  | some p => decide (p.2 = l)
  | none => false
def strS (f : List (Int × Int)) (l : Int) : List (Int × Int) := match f.getLast? with
  | some p => if p.2 = l then f.dropLast ++ [(p.1, l + 1)] else f ++ [(l, l + 1)]
  | none => f ++ [(l, l + 1)]
def stretch (ls : List Int) : List (Int × Int) := ls.foldl strS []
theorem strS_t {f : List (Int × Int)} {l : Int} {p : Int × Int} (h : f.getLast? = some p) (e : p.2 = l) : strS f l = f.dropLast ++ [(p.1, l + 1)] := by
  unfold strS; rw [h]; exact if_pos e
theorem strS_f {f : List (Int × Int)} {l : Int} (h : (!f.isEmpty && lastIs f l) = false) : strS f l = f ++ [(l, l + 1)] := by
  unfold strS
  cases e : f.getLast? with
  | none => rfl
  | some p =>
    simp only
    refine if_neg fun q => ?_
    unfold lastIs at h
    rw [e] at h
    have ne : f.isEmpty = false := by cases f with
      | nil => cases e
      | cons _ _ => rfl
    rw [ne] at h
    have h : (!false && decide (p.2 = l)) = false := h
    rw [decide_eq_true q] at h
    cases h
theorem strS_len (f : List (Int × Int)) (l : Int) : (strS f l).length ≤ f.length + 1 := by
  unfold strS
  split
  · split
    · rw [List.length_append, List.length_dropLast]; simp only [List.length_cons, List.length_nil]; omega
    · rw [List.length_append]; exact Nat.le_refl _
  · rw [List.length_append]; exact Nat.le_refl _
theorem foldl_grow {α β : Type} {g : List β → α → List β} (hg : ∀ f x, (g f x).length ≤ f.length + 1) : ∀ (xs : List α) (f : List β), (xs.foldl g f).length ≤ f.length + xs.length
  | [], f => Nat.le_refl _
  | x :: xs, f => by
    rw [List.foldl_cons, List.length_cons]
    have h1 := foldl_grow hg xs (g f x)
    have h2 := hg f x
    omega
theorem stretch_len (ls : List Int) : (stretch ls).length ≤ ls.length := by
  have := foldl_grow strS_len ls []
  unfold stretch
  simp only [List.length_nil] at this
  omega
theorem stretch_s {ls : List Int} {i : Nat} {l : Int} (h : ls[i]? = some l) : stretch (ls.take (i + 1)) = strS (stretch (ls.take i)) l := by
  unfold stretch; exact foldl_step h
/-- a row of a paper -/
structure Row where
  hour : Int
  shut : Bool
  since : Int
  sp : List (Int × Int)
  deriving DecidableEq
abbrev Row.ds (r : Row) : List DV := [dv r.hour, dv r.shut, dv r.since, dv r.sp]
instance : Rp Row := tpRp Row.ds
def hasSp (r : Row) : Bool := !r.sp.isEmpty
def keptRow (w : Wk) (c : Crs) (k : Nat) (g : Bool × Int) : Row := ⟨k, g.1, g.2, stretch (keptL w c k g.1 g.2)⟩
def lostL (w : Wk) (c : Crs) (k : Nat) (b : Bool) (s : Int) : List Int := (span 0 (w.wall + 1)).filter fun l => decide (worstAt w c k b s l = 1000)
def lostRow (w : Wk) (c : Crs) (k : Nat) (g : Bool × Int) : Row := ⟨k, g.1, g.2, stretch (lostL w c k g.1 g.2)⟩
def rowsTo (f : Nat → Bool × Int → Row) (w : Wk) (m : Nat) : List Row := (List.range m).flatMap fun k => (gatesL w).map (f k)
theorem rowsTo_s {f : Nat → Bool × Int → Row} {w : Wk} {m : Nat} : rowsTo f w (m + 1) = rowsTo f w m ++ (gatesL w).map (f m) := by
  unfold rowsTo; rw [List.range_succ, List.flatMap_append]; simp
theorem rowsTo_len {f : Nat → Bool × Int → Row} {w : Wk} (hw : w.Ok) : ∀ {m : Nat}, (rowsTo f w m).length ≤ m * 12
  | 0 => Nat.zero_le _
  | m + 1 => by
    have := rowsTo_len (f := f) hw (m := m)
    have := gates_len hw
    rw [rowsTo_s, List.length_append, List.length_map]
    omega
def keptP (w : Wk) (c : Crs) : List Row := (rowsTo (keptRow w c) w (c.hours.length + 1)).filter hasSp
def lostP (w : Wk) (c : Crs) : List Row := (rowsTo (lostRow w c) w c.hours.length).filter hasSp
theorem lostL_len {w : Wk} {c : Crs} {k : Nat} {b : Bool} {s : Int} (hw : w.Ok) : (lostL w c k b s).length ≤ 90000 := by
  unfold lostL
  refine Nat.le_trans (List.length_filter_le _ _) ?_
  rw [span_len]; unfold Wk.Ok at hw; omega
theorem keptL_len' {w : Wk} {c : Crs} {k : Nat} {b : Bool} {s : Int} (hw : w.Ok) : (keptL w c k b s).length ≤ 90000 := by
  unfold keptL
  refine Nat.le_trans (List.length_filter_le _ _) ?_
  rw [span_len]; unfold Wk.Ok at hw; omega
end Sk

set_option maxHeartbeats 4000000
/-! # Law k60: states and levels as texts -/
namespace Sk
open PySem L2 PyProof.Rows Rk TL
/-! ### texts -/
theorem str_ext {x y : Str} (h : tl x = tl y) : x = y := ext_tl h
theorem emp_app (x : Str) : Str.empty ++ x = x := str_ext (by rw [tl_append]; rfl)
theorem strI_len {i : Int} (k : Nat) (hk : 0 < k) (h : i.natAbs < 10 ^ k) : (strI i).length ≤ k + 1 := by
  unfold strI
  rw [PySem.ofString_length]
  exact int_text_length_le10 hk h
def gateT (b : Bool) : Str := if b then "shut" else "open"
def stT (a : Int) (b : Bool) (c : Int) : Str := strI a ++ " " ++ gateT b ++ " " ++ strI c
theorem stT_join (a : Int) (b : Bool) (c : Int) : stT a b c = Txt.join " " [strI a, gateT b, strI c] := by
  refine str_ext ?_
  rw [join_eq, tl_join]
  unfold stT
  rw [tl_append, tl_append, tl_append, tl_append]
  show _ = joinL (tl " ") [tl (strI a), tl (gateT b), tl (strI c)]
  simp [joinL, List.append_assoc]
theorem tl_strI {a : Int} (h : 0 ≤ a) : tl (strI a) = numL a.toNat := by
  obtain ⟨n, rfl⟩ := Int.eq_ofNat_of_zero_le h
  exact tl_num n
theorem num_sign {n s : Nat} (hs : s < 48) : s ∉ numL n := fun h => by
  have := (numL_digits n s h).1
  omega
theorem split_st {a c : Int} (b : Bool) (ha : 0 ≤ a) (hc : 0 ≤ c) : Txt.split (stT a b c) " " = [strI a, gateT b, strI c] := by
  rw [stT_join]
  refine split_join (s := 32) (S := []) (by decide +kernel) (by decide +kernel) (by simp) fun p hp => ?_
  simp only [List.mem_cons, List.not_mem_nil, or_false] at hp
  rcases hp with rfl | rfl | rfl
  · rw [tl_strI ha]; exact num_sign (by decide)
  · cases b <;> decide +kernel
  · rw [tl_strI hc]; exact num_sign (by decide)
theorem gate_gate (b : Bool) : gateOf (gateT b) = some b := by cases b <;> decide +kernel
theorem readN_digits {s : Str} (h1 : NumText.AllDigits (tl s)) (h2 : tl s ≠ []) (h3 : s.length ≤ 9) (h4 : ¬ (Txt.startswith s "0" = true ∧ s ≠ "0")) : readN s = intText? s := by
  have a1 : Txt.isascii s = true := by
    unfold Txt.isascii
    rw [Array.all_eq_true_iff_forall_mem]
    intro c hc
    have := h1 c (by simpa [tl] using hc)
    simp; omega
  have dg : ∀ c : Nat, c < 58 → 48 ≤ c → Unicode.isDigit c = true := by decide +kernel
  have a2 : Txt.isdigit s = true := by
    unfold Txt.isdigit
    rw [Bool.and_eq_true]
    refine ⟨?_, ?_⟩
    · rw [len_tl]
      cases e : tl s with
      | nil => exact absurd e h2
      | cons x r => simp
    · rw [Array.all_eq_true_iff_forall_mem]
      intro c hc
      have := h1 c (by simpa [tl] using hc)
      exact dg c (by omega) this.1
  unfold readN
  rw [if_neg (by rw [a1, a2, show decide (9 < s.length) = false from decide_eq_false (by omega)]; decide), if_neg]
  intro z
  rw [Bool.and_eq_true] at z
  exact h4 ⟨z.1, of_decide_eq_true z.2⟩
theorem fold_lt : ∀ (l : List Nat) (a : Nat), NumText.AllDigits l → l.foldl (fun acc c => acc * 10 + (c - 48)) a < (a + 1) * 10 ^ l.length
  | [], a, _ => by simp
  | c :: r, a, h => by
    have hc := h c List.mem_cons_self
    have ih := fold_lt r (a * 10 + (c - 48)) fun x hx => h x (List.mem_cons_of_mem _ hx)
    refine Nat.lt_of_lt_of_le ih ?_
    rw [List.length_cons, Nat.pow_succ]
    have : a * 10 + (c - 48) + 1 ≤ (a + 1) * 10 := by omega
    calc (a * 10 + (c - 48) + 1) * 10 ^ r.length ≤ ((a + 1) * 10) * 10 ^ r.length := Nat.mul_le_mul_right _ this
      _ = (a + 1) * (10 ^ r.length * 10) := by rw [Nat.mul_assoc, Nat.mul_comm 10]
theorem digitsVal_fold (l : List Nat) : NumText.digitsVal l = l.foldl (fun acc c => acc * 10 + (c - 48)) 0 := rfl
/-- no number but 0 begins with 0 -/
theorem num_lead {n : Nat} {r : List Nat} (h : numL n = 48 :: r) : r = [] := by
  have hd := numL_digits n
  rw [h] at hd
  have hr : NumText.AllDigits r := fun x hx => hd x (List.mem_cons_of_mem _ hx)
  have hv := numL_val n
  rw [h, digitsVal_fold] at hv
  have hv2 : r.foldl (fun acc c => acc * 10 + (c - 48)) 0 = n := hv
  have hlt := fold_lt r 0 hr
  rw [hv2] at hlt
  by_cases e : r.length = 0
  · exact List.eq_nil_of_length_eq_zero e
  · have z := numL_len (n := n) (k := r.length) (by omega) (by simpa using hlt)
    rw [h, List.length_cons] at z
    omega
theorem starts0 {s : Str} (h : Txt.startswith s "0" = true) : ∃ r, tl s = 48 :: r := by
  unfold Txt.startswith at h
  rw [Bool.and_eq_true] at h
  obtain ⟨h1, h2⟩ := h
  have h1 : 1 ≤ s.length := by
    have := of_decide_eq_true h1
    have e : ("0" : Str).length = 1 := by decide +kernel
    omega
  cases e : tl s with
  | nil => rw [len_tl, e] at h1; cases h1
  | cons c r =>
    have h3 : (tl s)[0]? = some 48 := (PySem.StrLaws.subAt_one s 48 0).mp ⟨by show 0 + 1 ≤ s.length; omega, h2⟩
    rw [e] at h3
    cases h3
    exact ⟨r, rfl⟩
theorem readN_strI {a : Int} (h : 0 ≤ a) (h9 : a < 1000000000) : readN (strI a) = some a := by
  have et := tl_strI h
  have hl : (numL a.toNat).length ≤ 9 := numL_len (by decide) (by omega)
  rw [readN_digits (by rw [et]; exact numL_digits _) (by rw [et]; exact numL_ne _) (by rw [len_tl, et]; exact hl)]
  · have z := int_num (n := a.toNat) (by omega)
    have e : ((a.toNat : Nat) : Int) = a := by omega
    rw [e] at z
    exact z
  · rintro ⟨h1, h2⟩
    obtain ⟨r, hr⟩ := starts0 h1
    rw [et] at hr
    have := num_lead hr
    subst this
    exact h2 (str_ext (by rw [et, hr]; decide +kernel))
theorem parse_stT {a c : Int} (b : Bool) (ha : 0 ≤ a ∧ a < 1000000000) (hc : 0 ≤ c ∧ c < 1000000000) : parseT (stT a b c) = some ⟨some a, some b, some c⟩ := by
  unfold parseT
  rw [split_st b ha.1 hc.1]
  simp only
  rw [readN_strI ha.1 ha.2, readN_strI hc.1 hc.2, gate_gate]
  rfl
/-! ### the law's own reading of a number -/
def badSign (x : Str) : Bool := !inT x "0123456789"
theorem badSign_at (c : Nat) : badSign ⟨#[c]⟩ = !decide (48 ≤ c ∧ c ≤ 57) := by
  unfold badSign inT
  rw [PySem.StrLaws.found_one]
  congr 1
  have e : ("0123456789" : Str).cps.toList = [48, 49, 50, 51, 52, 53, 54, 55, 56, 57] := by decide +kernel
  rw [e]
  by_cases h : 48 ≤ c ∧ c ≤ 57
  · rw [decide_eq_true h]
    refine decide_eq_true ?_
    simp only [List.mem_cons, List.not_mem_nil, or_false]
    omega
  · rw [decide_eq_false h]
    refine decide_eq_false fun z => h ?_
    simp only [List.mem_cons, List.not_mem_nil, or_false] at z
    omega
theorem bads_nil {s : Str} : ((Rk.signs s).filter badSign).length = 0 ↔ NumText.AllDigits (tl s) := by
  rw [List.length_eq_zero_iff, List.filter_eq_nil_iff]
  unfold Rk.signs
  constructor
  · intro h c hc
    have z := h ⟨#[c]⟩ (List.mem_map.mpr ⟨c, hc, rfl⟩)
    rw [badSign_at] at z
    simpa using z
  · intro h x hx
    obtain ⟨c, hc, rfl⟩ := List.mem_map.mp hx
    rw [badSign_at]
    have := h c hc
    simpa using this
theorem readN_len {s : Str} (h : ¬ (1 ≤ s.length ∧ s.length ≤ 9)) : readN s = none := by
  unfold readN
  rw [if_pos]
  by_cases h0 : s.length = 0
  · have : Txt.isdigit s = false := by unfold Txt.isdigit; rw [h0]; rfl
    rw [this]; cases Txt.isascii s <;> rfl
  · rw [show decide (9 < s.length) = true from decide_eq_true (by omega)]; cases Txt.isascii s <;> cases Txt.isdigit s <;> rfl
theorem readN_sign {s : Str} (h : ¬ NumText.AllDigits (tl s)) : readN s = none := by
  unfold readN
  rw [if_pos]
  cases h1 : Txt.isascii s with
  | false => rfl
  | true =>
    cases h2 : Txt.isdigit s with
    | false => rfl
    | true => exact absurd (digits_of h1 h2).1 h
theorem readN_zero {s : Str} (h1 : s ≠ "0") (h2 : (tl s)[0]? = some 48) : readN s = none := by
  unfold readN
  split
  · rfl
  · rw [if_pos]
    have e : Txt.startswith s "0" = true := by
      have z := (PySem.StrLaws.subAt_one s 48 0).mpr h2
      unfold Txt.startswith
      rw [Bool.and_eq_true]
      exact ⟨decide_eq_true z.1, z.2⟩
    rw [e, decide_eq_true h1]; rfl
theorem readN_num {s : Str} (h1 : NumText.AllDigits (tl s)) (h2 : 1 ≤ s.length ∧ s.length ≤ 9) (h3 : ¬ (s ≠ "0" ∧ (tl s)[0]? = some 48)) : readN s = intText? s ∧ ∃ n, intText? s = some n ∧ s.length ≤ 640 := by
  have ne : tl s ≠ [] := fun e => by rw [len_tl, e] at h2; exact absurd h2.1 (by decide)
  refine ⟨readN_digits h1 ne h2.2 ?_, _, intText_digits h1 ne (by omega), by omega⟩
  rintro ⟨z1, z2⟩
  obtain ⟨r, hr⟩ := starts0 z1
  exact h3 ⟨z2, by rw [hr]; rfl⟩
/-! ### what a reading tells -/
instance : DecidableEq Tld := fun x y => if h : x.a = y.a ∧ x.b = y.b ∧ x.c = y.c then isTrue (by cases x; cases y; obtain ⟨h1, h2, h3⟩ := h; cases h1; cases h2; cases h3; rfl) else isFalse fun e => h (e ▸ ⟨rfl, rfl, rfl⟩)
instance : Dt Tld := ⟨fun t => .tuple [Dt.d t.a, Dt.d t.b, Dt.d t.c], 1, fun {G H v x} ⟨p, vs, e1, e2, e3⟩ => by
    subst e1
    match vs, e3 with
    | [_, _, _], e3 => exact .tup (SqT.of e2) (.cons (Dt.rp (x := x.a) e3.1) (.cons (Dt.rp (x := x.b) e3.2.1) (.cons (Dt.rp (x := x.c) e3.2.2.1) .nil))), fun x => by
    show ((Dt.d x.a).canLay0 && ((Dt.d x.b).canLay0 && ((Dt.d x.c).canLay0 && true))) = true
    rw [Dt.lay x.a, Dt.lay x.b, Dt.lay x.c]; rfl, fun x => by
    have h1 := Dt.deep x.a
    have h2 := Dt.deep x.b
    have h3 := Dt.deep x.c
    have d1 : Dt.dp (Option Int) = 0 := rfl
    have d2 : Dt.dp (Option Bool) = 0 := rfl
    show max (Dt.d x.a).depth (max (Dt.d x.b).depth (max (Dt.d x.c).depth 0)) + 1 ≤ 1
    omega, fun x y => by
    show (PyData.eqv (Dt.d x.a) (Dt.d y.a) && (PyData.eqv (Dt.d x.b) (Dt.d y.b) && (PyData.eqv (Dt.d x.c) (Dt.d y.c) && true))) = true ↔ _
    rw [Bool.and_eq_true, Bool.and_eq_true, Bool.and_eq_true, Dt.inj, Dt.inj, Dt.inj]
    cases x; cases y
    simp⟩
instance : DecidableEq (Op Tld) := fun a b => if h : a.o = b.o then isTrue (by cases a; cases b; exact congrArg Op.mk h) else isFalse fun e => h (e ▸ rfl)
def otD : Option Tld → PyData
  | none => .none
  | some p => Dt.d p
instance : Dt (Op Tld) := ⟨fun x => otD x.o, 1, fun {G H v x} r => by
    obtain ⟨o⟩ := x
    cases o with
    | none =>
      have e : v = .non := r
      subst e; exact .non
    | some p => exact Dt.rp (x := p) (show Rp.rep G H v p from r), fun x => by
    obtain ⟨o⟩ := x
    cases o with
    | none => rfl
    | some p => exact Dt.lay p, fun x => by
    obtain ⟨o⟩ := x
    cases o with
    | none => exact Nat.zero_le _
    | some p => exact Dt.deep p, fun x y => by
    obtain ⟨o⟩ := x
    obtain ⟨u⟩ := y
    cases o with
    | none => cases u with
      | none => exact ⟨fun _ => rfl, fun _ => rfl⟩
      | some j => exact ⟨fun h => (by cases h), fun h => (by cases h)⟩
    | some i => cases u with
      | none => exact ⟨fun h => (by cases h), fun h => (by cases h)⟩
      | some j =>
        show PyData.eqv (Dt.d i) (Dt.d j) = true ↔ _
        rw [Dt.inj]
        exact ⟨fun h => (by rw [h]), fun h => (by cases h; rfl)⟩⟩
inductive Told where
  | read (o : Op Tld)
  | line (n : Int)
  | other
deriving DecidableEq
def Told.ds : Told → List DV
  | .read o => [dv ("read" : Str), dv o]
  | .line n => [dv ("line" : Str), dv n]
  | .other => [dv ("other" : Str), dv ()]
instance : Rp Told := tpRp Told.ds
def Told.d : Told → PyData
  | .read o => .tuple [.str "read", Dt.d o]
  | .line n => .tuple [.str "line", .int n]
  | .other => .tuple [.str "other", .none]
instance : Dt Told := ⟨Told.d, 2, fun {G H v x} ⟨p, vs, e1, e2, e3⟩ => by
    subst e1
    cases x with
    | read o => match vs, e3 with
      | [a, _], e3 =>
        have h1 : a = V.str "read" := e3.1
        subst h1
        exact .tup (SqT.of e2) (.cons (.str "read") (.cons (Dt.rp (x := o) e3.2.1) .nil))
    | line n => match vs, e3 with
      | [a, _], e3 =>
        have h1 : a = V.str "line" := e3.1
        subst h1
        exact .tup (SqT.of e2) (.cons (.str "line") (.cons (Dt.rp (x := n) e3.2.1) .nil))
    | other => match vs, e3 with
      | [a, b], e3 =>
        have h1 : a = V.str "other" := e3.1
        have h2 : b = V.non := e3.2.1
        subst h1 h2
        exact .tup (SqT.of e2) (.cons (.str "other") (.cons .non .nil)), fun x => by
    cases x with
    | read o =>
      show (PyData.canLay0 (.str "read") && ((Dt.d o).canLay0 && true)) = true
      rw [Dt.lay o]; decide +kernel
    | line n => show (PyData.canLay0 (.str "line") && (PyData.canLay0 (.int n) && true)) = true; rw [show PyData.canLay0 (.int n) = true from rfl]; decide +kernel
    | other => decide +kernel, fun x => by
    cases x with
    | read o =>
      have h := Dt.deep o
      have d1 : Dt.dp (Op Tld) = 1 := rfl
      show max 0 (max (Dt.d o).depth 0) + 1 ≤ 2
      omega
    | line n => exact Nat.le_of_ble_eq_true rfl
    | other => exact Nat.le_of_ble_eq_true rfl, fun x y => by
    have n1 : (("read" : Str) == "line") = false := by decide +kernel
    have n2 : (("read" : Str) == "other") = false := by decide +kernel
    have n3 : (("line" : Str) == "read") = false := by decide +kernel
    have n4 : (("line" : Str) == "other") = false := by decide +kernel
    have n5 : (("other" : Str) == "read") = false := by decide +kernel
    have n6 : (("other" : Str) == "line") = false := by decide +kernel
    cases x with
    | read o => cases y with
      | read u =>
        show ((("read" : Str) == "read") && (PyData.eqv (Dt.d o) (Dt.d u) && true)) = true ↔ _
        rw [show (("read" : Str) == "read") = true from by decide +kernel, Bool.true_and, Bool.and_true, Dt.inj]
        exact ⟨fun h => (by rw [h]), fun h => (by cases h; rfl)⟩
      | line m => exact ⟨fun h => (by have h : ((("read" : Str) == "line") && (PyData.eqv (Dt.d o) (PyData.int m) && true)) = true := h; rw [n1] at h; cases h), fun h => (by cases h)⟩
      | other => exact ⟨fun h => (by have h : ((("read" : Str) == "other") && (PyData.eqv (Dt.d o) PyData.none && true)) = true := h; rw [n2] at h; cases h), fun h => (by cases h)⟩
    | line n => cases y with
      | read u => exact ⟨fun h => (by have h : ((("line" : Str) == "read") && (PyData.eqv (PyData.int n) (Dt.d u) && true)) = true := h; rw [n3] at h; cases h), fun h => (by cases h)⟩
      | line m =>
        show ((("line" : Str) == "line") && ((n == m) && true)) = true ↔ _
        rw [show (("line" : Str) == "line") = true from by decide +kernel]
        simp
      | other => exact ⟨fun h => (by have h : ((("line" : Str) == "other") && (PyData.eqv (PyData.int n) PyData.none && true)) = true := h; rw [n4] at h; cases h), fun h => (by cases h)⟩
    | other => cases y with
      | read u => exact ⟨fun h => (by have h : ((("other" : Str) == "read") && (PyData.eqv PyData.none (Dt.d u) && true)) = true := h; rw [n5] at h; cases h), fun h => (by cases h)⟩
      | line m => exact ⟨fun h => (by have h : ((("other" : Str) == "line") && (PyData.eqv PyData.none (PyData.int m) && true)) = true := h; rw [n6] at h; cases h), fun h => (by cases h)⟩
      | other => exact ⟨fun _ => rfl, fun _ => (by decide +kernel)⟩⟩
def toldR (t : Str) : Told := match parseT t with
  | some r => .read ⟨some r⟩
  | none => .line 1
theorem cv_stO (s : Stt) : Cv s (Op.mk (some (Tld.mk (some s.level) (some s.shut) (some s.since)))) := fun G H v ⟨p, vs, e1, e2, e3⟩ => ⟨p, vs, e1, e2, match vs, e3 with | [_, _, _], r => r⟩
/-! ### levels as texts -/
def fmtS (p : Int × Int) : Str := if p.2 = p.1 + 1 then strI p.1 else strI p.1 ++ "-" ++ strI (p.2 - 1)
def fmtL (ls : List Int) : Str := if ls = [] then "none" else Txt.join " " ((stretch ls).map fmtS)
def inLv (p : Int × Int) : Prop := (0 ≤ p.1 ∧ p.1 ≤ 1000) ∧ (0 ≤ p.2 ∧ p.2 ≤ 1001)
theorem strS_in {f : List (Int × Int)} {l : Int} (hl : 0 ≤ l ∧ l ≤ 1000) (h : ∀ p ∈ f, inLv p) : ∀ p ∈ strS f l, inLv p := by
  have hn : inLv (l, l + 1) := ⟨hl, by dsimp only; omega⟩
  unfold strS
  split
  · rename_i q e
    have hq := h q (List.mem_of_getLast? e)
    split
    · intro p hp
      rcases List.mem_append.mp hp with z | z
      · exact h p (List.dropLast_subset _ z)
      · rw [List.mem_singleton.mp z]
        exact ⟨hq.1, by dsimp only; omega⟩
    · intro p hp
      rcases List.mem_append.mp hp with z | z
      · exact h p z
      · rw [List.mem_singleton.mp z]; exact hn
  · intro p hp
    rcases List.mem_append.mp hp with z | z
    · exact h p z
    · rw [List.mem_singleton.mp z]; exact hn
theorem stretch_in : ∀ (ls : List Int) (f : List (Int × Int)), (∀ l ∈ ls, 0 ≤ l ∧ l ≤ 1000) → (∀ p ∈ f, inLv p) → ∀ p ∈ ls.foldl strS f, inLv p
  | [], f, _, h => h
  | l :: ls, f, hl, h => stretch_in ls (strS f l) (fun x hx => hl x (List.mem_cons_of_mem _ hx)) (strS_in (hl l List.mem_cons_self) h)
theorem fmtS_len {p : Int × Int} (h : inLv p) : (fmtS p).length ≤ 20 := by
  obtain ⟨h1, h2⟩ := h
  have a := strI_len (i := p.1) 4 (by decide) (by omega)
  have b := strI_len (i := p.2 - 1) 4 (by decide) (by omega)
  unfold fmtS
  split
  · omega
  · rw [Str.length_append, Str.length_append]
    have : ("-" : Str).length = 1 := by decide +kernel
    omega
theorem sum_le {ys : List Str} {n : Nat} (h : ∀ y ∈ ys, y.length ≤ n) : (ys.map (·.length)).sum ≤ ys.length * n := by
  induction ys with
  | nil => simp
  | cons y ys ih =>
    have h1 := h y List.mem_cons_self
    have h2 := ih fun z hz => h z (List.mem_cons_of_mem _ hz)
    rw [List.map_cons, List.sum_cons, List.length_cons, Nat.succ_mul]
    omega
theorem fmt_join {ls : List Int} (hn : ls.length ≤ 1000) (hl : ∀ l ∈ ls, 0 ≤ l ∧ l ≤ 1000) : ((((stretch ls).map fmtS).map (·.length)).sum + ((stretch ls).map fmtS).length * (" " : Str).length) ≤ 16777216 := by
  have h1 : ∀ y ∈ (stretch ls).map fmtS, y.length ≤ 20 := fun y hy => by
    obtain ⟨p, hp, rfl⟩ := List.mem_map.mp hy
    exact fmtS_len (stretch_in ls [] hl (fun _ z => nomatch z) p hp)
  have h2 := sum_le h1
  have h3 : ((stretch ls).map fmtS).length ≤ 1000 := by rw [List.length_map]; exact Nat.le_trans (stretch_len ls) hn
  have h4 : (" " : Str).length = 1 := by decide +kernel
  rw [h4]
  have := Nat.mul_le_mul_right 20 h3
  omega
theorem at0 {s : Str} {c : Nat} (h : (tl s)[0]? = some c) : atI s.cps.toList 0 = some c := by
  have hl : 0 < (tl s).length := (List.getElem?_eq_some_iff.mp h).1
  unfold atI ixN
  rw [if_pos (by decide), if_pos (by show (0 : Int) < ((tl s).length : Int); omega)]
  exact h
theorem gateT_len (b : Bool) : (gateT b).length ≤ 4 := by cases b <;> decide +kernel
theorem short {n : Nat} (h : n ≤ 10000) : n ≤ sizeLine := Nat.le_trans h (by decide)
theorem l_emp : Str.empty.length = 0 := rfl
theorem l_sp : (" " : Str).length = 1 := by decide +kernel
theorem l_dash : ("-" : Str).length = 1 := by decide +kernel
theorem lnum_h {s : Str} {n : Nat} (h : (!decide ((1 : Int) ≤ (s.length : Int) ∧ (s.length : Int) ≤ 9) || decide ((0 : Int) < (n : Int))) = false) : (1 ≤ s.length ∧ s.length ≤ 9) ∧ n = 0 := by
  rw [Bool.or_eq_false_iff, Bool.not_eq_false', decide_eq_true_iff, decide_eq_false_iff_not] at h
  omega
theorem lnum_no {s : Str} {n : Nat} (hn : n = 0 ↔ NumText.AllDigits (tl s)) (h : (!decide ((1 : Int) ≤ (s.length : Int) ∧ (s.length : Int) ≤ 9) || decide ((0 : Int) < (n : Int))) = true) : readN s = none := by
  by_cases c : 1 ≤ s.length ∧ s.length ≤ 9
  · refine readN_sign fun z => ?_
    have e := hn.mpr z
    rw [e, show decide ((1 : Int) ≤ (s.length : Int) ∧ (s.length : Int) ≤ 9) = true from decide_eq_true (by omega)] at h
    cases h
  · exact readN_len c
theorem one_zero {c : Nat} : (⟨#[c]⟩ : Str) = "0" ↔ c = 48 := by
  constructor
  · intro h
    have e : (⟨#[c]⟩ : Str) = ⟨#[48]⟩ := h
    injection e with e
    simpa using e
  · rintro rfl; rfl
theorem map_same {α : Type} {l : List α} : (l.map fun x => x) = l := by simp
theorem pick_in {α : Type} {xs : List α} {i : Int} (h : 0 ≤ i ∧ i < (xs.length : Int)) : ∃ y, y ∈ xs ∧ (0 ≤ i ∧ xs[i.toNat]? = some y) := by
  have hl : i.toNat < xs.length := by omega
  exact ⟨xs[i.toNat], List.getElem_mem hl, h.1, List.getElem?_eq_getElem hl⟩
theorem getD_at {α : Type} {xs : List α} {n : Nat} {d : α} (h : n < xs.length) : xs[n]? = some (xs.getD n d) := by
  rw [List.getD_eq_getElem?_getD, List.getElem?_eq_getElem h]; rfl
theorem gate_in {b : Str} : b ∈ (["open", "shut"] : List Str) ↔ gateOf b = some (decide (b = "shut")) := by
  unfold gateOf
  by_cases h1 : b = "open"
  · subst h1
    exact ⟨fun _ => (by decide +kernel), fun _ => List.mem_cons_self⟩
  · by_cases h2 : b = "shut"
    · subst h2
      exact ⟨fun _ => (by decide +kernel), fun _ => List.mem_cons_of_mem _ List.mem_cons_self⟩
    · rw [if_neg h1, if_neg h2]
      refine ⟨fun h => ?_, fun h => (by cases h)⟩
      simp only [List.mem_cons, List.not_mem_nil, or_false] at h
      exact absurd h (by simp [h1, h2])
theorem gate_out {b : Str} (h : ¬ b ∈ (["open", "shut"] : List Str)) : gateOf b = none := by
  unfold gateOf
  rw [if_neg fun z => h (by rw [z]; exact List.mem_cons_self), if_neg fun z => h (by rw [z]; exact List.mem_cons_of_mem _ List.mem_cons_self)]
theorem parseT_len {t : Str} (h : (Txt.split t " ").length ≠ 3) : parseT t = none := by
  unfold parseT
  split
  · rename_i a b c q
    rw [q] at h; exact absurd rfl h
  · rfl
theorem parseT_3 {t a b c : Str} (h : Txt.split t " " = [a, b, c]) : parseT t = if (Tld.mk (readN a) (gateOf b) (readN c)).miss = true then none else some ⟨readN a, gateOf b, readN c⟩ := by
  unfold parseT; rw [h]
theorem lread_no {t : Str} (h : (!decide (((Txt.split t " ").length : Int) = 3) || !decide ((Txt.split t " ").getD 1 Str.empty ∈ (["open", "shut"] : List Str))) = true) : parseT t = none := by
  by_cases c : ((Txt.split t " ").length : Int) = 3
  · obtain ⟨a, b, d, e⟩ := split3 c
    rw [e] at h
    have h2 : ¬ b ∈ (["open", "shut"] : List Str) := by
      intro z
      have : (!decide ((([a, b, d] : List Str).length : Int) = 3) || !decide (b ∈ (["open", "shut"] : List Str))) = true := h
      rw [decide_eq_true z] at this
      exact absurd this (by simp)
    rw [parseT_3 e, gate_out h2, if_pos]
    unfold Tld.miss
    cases (readN a).isNone <;> rfl
  · exact parseT_len (by omega)
theorem lread_ok {t : Str} (h : (!decide (((Txt.split t " ").length : Int) = 3) || !decide ((Txt.split t " ").getD 1 Str.empty ∈ (["open", "shut"] : List Str))) = false) : ∃ a b c, Txt.split t " " = [a, b, c] ∧ gateOf b = some (decide (b = "shut")) := by
  rw [Bool.or_eq_false_iff, Bool.not_eq_false', Bool.not_eq_false', decide_eq_true_iff, decide_eq_true_iff] at h
  obtain ⟨a, b, d, e⟩ := split3 h.1
  refine ⟨a, b, d, e, gate_in.mp ?_⟩
  have z := h.2
  rw [e] at z
  exact z
theorem lread_miss {t a b c : Str} (h : Txt.split t " " = [a, b, c]) (m : (Nn.isN (readN a) || Nn.isN (readN c)) = true) : parseT t = none := by
  rw [parseT_3 h, if_pos]
  have m : ((readN a).isNone || (readN c).isNone) = true := m
  unfold Tld.miss
  rw [Bool.or_eq_true] at m
  rcases m with m | m <;> simp [m]
theorem lread_all {t a b c : Str} (h : Txt.split t " " = [a, b, c]) (g : gateOf b = some (decide (b = "shut"))) (m : (Nn.isN (readN a) || Nn.isN (readN c)) = false) : parseT t = some ⟨readN a, some (decide (b = "shut")), readN c⟩ := by
  have m : ((readN a).isNone || (readN c).isNone) = false := m
  rw [parseT_3 h, if_neg, g]
  unfold Tld.miss
  rw [Bool.or_eq_false_iff] at m
  rw [m.1, m.2, g]
  simp
/-! ### texts changed -/
def szL (ys : List Str) : Nat := (ys.map (·.length)).sum + ys.length
theorem szL_app (xs ys : List Str) : szL (xs ++ ys) = szL xs + szL ys := by
  unfold szL
  rw [List.map_append, List.sum_append, List.length_append]
  omega
theorem szL_one (x : Str) : szL [x] = x.length + 1 := by simp [szL]
theorem szL_td (xs : List Str) (n : Nat) : szL (xs.take n) + szL (xs.drop n) = szL xs := by rw [← szL_app, List.take_append_drop]
theorem szL_take (xs : List Str) (n : Nat) : szL (xs.take n) ≤ szL xs := by have := szL_td xs n; omega
theorem szL_drop (xs : List Str) (n : Nat) : szL (xs.drop n) ≤ szL xs := by have := szL_td xs n; omega
theorem szL_len (xs : List Str) : xs.length ≤ szL xs := Nat.le_add_left _ _
theorem szL_split {t : Str} : szL (Txt.split t " ") ≤ t.length + 1 := split_weight t " " (by decide +kernel)
theorem join_sz {ys : List Str} {n : Nat} (h : szL ys ≤ n) (hn : n ≤ 100000) : (ys.map (·.length)).sum + ys.length * (" " : Str).length ≤ 16777216 ∧ (Txt.join " " ys).length ≤ n := by
  have e : (" " : Str).length = 1 := by decide +kernel
  unfold szL at h
  have h1 := PySem.StrLaws.join_length_le " " ys
  rw [join_eq]
  rw [e] at h1 ⊢
  omega
theorem cut_len (z : Str) (lo hi : Option Int) : (cutS z lo hi).length ≤ z.length := by
  rw [len_tl, len_tl]
  unfold cutS
  show ((z.cps.toList.drop _).take _).toArray.toList.length ≤ _
  rw [List.length_take, List.length_drop]
  show _ ≤ z.cps.toList.length
  omega
theorem word_len {y : Str} {ys : List Str} (h : y ∈ ys) (hb : ys.all (fun y => decide (y.length ≤ 10)) = true) : y.length ≤ 10 := of_decide_eq_true (List.all_eq_true.mp hb y h)
theorem strS_in2 {f : List (Int × Int)} {l : Int} (hl : 0 ≤ l) (h : ∀ p ∈ f, 0 ≤ p.1 ∧ 1 ≤ p.2) : ∀ p ∈ strS f l, 0 ≤ p.1 ∧ 1 ≤ p.2 := by
  unfold strS
  split
  · rename_i q e
    have hq := h q (List.mem_of_getLast? e)
    split
    · intro p hp
      rcases List.mem_append.mp hp with z | z
      · exact h p (List.dropLast_subset _ z)
      · rw [List.mem_singleton.mp z]; dsimp only; omega
    · intro p hp
      rcases List.mem_append.mp hp with z | z
      · exact h p z
      · rw [List.mem_singleton.mp z]; dsimp only; omega
  · intro p hp
    rcases List.mem_append.mp hp with z | z
    · exact h p z
    · rw [List.mem_singleton.mp z]; dsimp only; omega
theorem stretch_in2 : ∀ (ls : List Int) (f : List (Int × Int)), (∀ l ∈ ls, 0 ≤ l ∧ l ≤ 1000) → (∀ p ∈ f, 0 ≤ p.1 ∧ 1 ≤ p.2) → ∀ p ∈ ls.foldl strS f, 0 ≤ p.1 ∧ 1 ≤ p.2
  | [], f, _, h => h
  | l :: ls, f, hl, h => stretch_in2 ls (strS f l) (fun x hx => hl x (List.mem_cons_of_mem _ hx)) (strS_in2 (hl l List.mem_cons_self).1 h)
/-! ### the law's own telling of levels -/
theorem strS_last {S : List (Int × Int)} {a b : Int} : strS (S ++ [(a, b + 1)]) (b + 1) = S ++ [(a, b + 1 + 1)] := by
  rw [strS_t (p := (a, b + 1)) (by simp) rfl]
  simp
theorem strS_new {S : List (Int × Int)} {x : Int} (h : ∀ p, S.getLast? = some p → p.2 ≠ x) : strS S x = S ++ [(x, x + 1)] := by
  unfold strS
  split
  · rename_i p e
    rw [if_neg (h p e)]
  · rfl
structure LvI (ls : List Int) (i : Nat) (k : Int) (ws : List Str) : Prop where
  k0 : 0 ≤ k ∧ k ≤ (i : Int)
  ws : ws = (stretch (ls.take k.toNat)).map fmtS
  run : k.toNat < i → ∃ a b, ls[k.toNat]? = some a ∧ b = a + ((i : Int) - 1 - k) ∧ stretch (ls.take i) = stretch (ls.take k.toNat) ++ [(a, b + 1)] ∧ (i < ls.length → ls[i]? = some (b + 1))
  new : k.toNat = i → ∀ p, (stretch (ls.take k.toNat)).getLast? = some p → ∀ x, ls[i]? = some x → p.2 ≠ x
theorem LvI.start (ls : List Int) : LvI ls 0 0 [] := ⟨⟨Int.le_refl _, Int.le_refl _⟩, rfl, fun h => (nomatch (show (0 : Nat) < 0 from h)), fun _ p e => (nomatch (show ([] : List (Int × Int)).getLast? = some p from e))⟩
/-- behind one level more -/
theorem LvI.more {ls : List Int} {i : Nat} {k : Int} {ws : List Str} (h : LvI ls i k ws) {x : Int} (hx : ls[i]? = some x) : ∃ a, ls[k.toNat]? = some a ∧ x = a + ((i : Int) - k) ∧ stretch (ls.take (i + 1)) = stretch (ls.take k.toNat) ++ [(a, x + 1)] := by
  have hk := h.k0
  rw [stretch_s hx]
  by_cases c : k.toNat < i
  · obtain ⟨a, b, h1, h2, h3, h4⟩ := h.run c
    have hi : i < ls.length := (List.getElem?_eq_some_iff.mp hx).1
    have e := h4 hi
    rw [hx] at e
    have e : x = b + 1 := Option.some.inj e
    subst e
    exact ⟨a, h1, by omega, by rw [h3, strS_last]⟩
  · have e : k.toNat = i := by omega
    refine ⟨x, by rw [e]; exact hx, by omega, ?_⟩
    have n := h.new e
    rw [e] at n ⊢
    exact strS_new fun p hp => n p hp x hx
theorem LvI.go {ls : List Int} {i : Nat} {k : Int} {ws : List Str} (h : LvI ls i k ws) {x : Int} (hx : ls[i]? = some x) (hn : ls[i + 1]? = some (x + 1)) : LvI ls (i + 1) k ws := by
  obtain ⟨a, h1, h2, h3⟩ := h.more hx
  have hk := h.k0
  exact ⟨⟨hk.1, by omega⟩, h.ws, fun _ => ⟨a, x, h1, by omega, h3, fun _ => hn⟩, fun z => by omega⟩
theorem fmt_run {a x : Int} {d : Int} (h : x = a + d) (h0 : 0 ≤ d) : fmtS (a, x + 1) = if 0 < d then strI a ++ "-" ++ strI x else strI a := by
  unfold fmtS
  by_cases c : 0 < d
  · rw [if_pos c, if_neg (by dsimp only; omega)]
    show strI a ++ "-" ++ strI (x + 1 - 1) = _
    rw [show x + 1 - 1 = x from by omega]
  · rw [if_neg c, if_pos (by dsimp only; omega)]
theorem LvI.brk {ls : List Int} {i : Nat} {k : Int} {ws : List Str} (h : LvI ls i k ws) {x : Int} (hx : ls[i]? = some x) (hn : ∀ y, ls[i + 1]? = some y → y ≠ x + 1) : LvI ls (i + 1) ((i : Int) + 1) (ws ++ [if k < (i : Int) then strI (ls.getD k.toNat 0) ++ "-" ++ strI x else strI (ls.getD k.toNat 0)]) := by
  obtain ⟨a, h1, h2, h3⟩ := h.more hx
  have hk := h.k0
  have ea : ls.getD k.toNat 0 = a := by rw [List.getD_eq_getElem?_getD, h1]; rfl
  have en : ((i : Int) + 1).toNat = i + 1 := by omega
  refine ⟨⟨by omega, by omega⟩, ?_, fun z => by omega, fun _ p hp y hy => ?_⟩
  · rw [en, h3, List.map_append, ← h.ws, ea]
    congr 1
    show _ = [fmtS (a, x + 1)]
    rw [fmt_run h2 (by omega)]
    by_cases c : k < (i : Int)
    · rw [if_pos c, if_pos (by omega)]
    · rw [if_neg c, if_neg (by omega)]
  · rw [en, h3, List.getLast?_append] at hp
    have hp : some (a, x + 1) = some p := hp
    cases hp
    exact fun z => hn y hy z.symm
theorem LvI.last {ls : List Int} {k : Int} {ws : List Str} (h : LvI ls ls.length k ws) (hk : k = (ls.length : Int)) : ws = (stretch ls).map fmtS := by
  have z := h.ws
  rw [hk, Int.toNat_natCast, List.take_length] at z
  exact z
theorem getD_lv {ls : List Int} {n : Nat} (hl : ∀ l ∈ ls, 0 ≤ l ∧ l ≤ 1000) (h : n < ls.length) : 0 ≤ ls.getD n 0 ∧ ls.getD n 0 ≤ 1000 := by
  rw [List.getD_eq_getElem?_getD, List.getElem?_eq_getElem h]
  exact hl _ (List.getElem_mem h)
theorem brk_of {ls : List Int} {i : Nat} {at_ : Int} (e : at_ = (i : Int)) (h : (decide (at_ + 1 = (ls.length : Int)) || !decide (ls.getD (at_ + 1).toNat 0 = ls.getD at_.toNat 0 + 1)) = true) : ∀ y, ls[i + 1]? = some y → y ≠ ls.getD at_.toNat 0 + 1 := fun y hy z => by
  have hl := (List.getElem?_eq_some_iff.mp hy).1
  have e2 : (at_ + 1).toNat = i + 1 := by omega
  rw [decide_eq_false (by omega), e2, List.getD_eq_getElem?_getD, hy] at h
  have h : (false || !decide (y = ls.getD at_.toNat 0 + 1)) = true := h
  rw [decide_eq_true z] at h
  cases h
theorem go_of {ls : List Int} {i : Nat} {at_ : Int} (e : at_ = (i : Int)) (hi : i < ls.length) (h : (decide (at_ + 1 = (ls.length : Int)) || !decide (ls.getD (at_ + 1).toNat 0 = ls.getD at_.toNat 0 + 1)) = false) : ls[i + 1]? = some (ls.getD at_.toNat 0 + 1) ∧ i + 1 ≠ ls.length := by
  rw [Bool.or_eq_false_iff, decide_eq_false_iff_not, Bool.not_eq_false', decide_eq_true_iff] at h
  have e2 : (at_ + 1).toNat = i + 1 := by omega
  have n : i + 1 ≠ ls.length := fun z => h.1 (by omega)
  refine ⟨?_, n⟩
  rw [← h.2, e2]
  exact getD_at (by omega)
theorem str_okA (x y : Str) : PyData.strOk (x ++ y) = (PyData.strOk x && PyData.strOk y) := by
  unfold PyData.strOk
  rw [Str.cps_append, Array.all_append]
theorem str_okI {a : Int} (h : 0 ≤ a) : PyData.strOk (strI a) = true := by
  unfold PyData.strOk
  rw [Array.all_eq_true_iff_forall_mem]
  intro c hc
  have z : c ∈ tl (strI a) := by simpa [tl] using hc
  rw [tl_strI h] at z
  have := (numL_digits _ c z).2
  simp; omega
theorem fmt_ok {ls : List Int} {ws : List Str} (hl : ∀ l ∈ ls, 0 ≤ l ∧ l ≤ 1000) (h : ws = (stretch ls).map fmtS) : ws.all PyData.strOk = true := by
  rw [h, List.all_eq_true]
  intro y hy
  obtain ⟨p, hp, rfl⟩ := List.mem_map.mp hy
  have hi := stretch_in2 ls [] hl (fun _ z => nomatch z) p hp
  unfold fmtS
  split
  · exact str_okI (by omega)
  · rw [str_okA, str_okA, str_okI (by omega), str_okI (by omega)]
    decide +kernel
theorem fmtL_none {ls : List Int} {ws : List Str} (h : ws = (stretch ls).map fmtS) (e : ws = []) : fmtL ls = "none" := by
  unfold fmtL
  split
  · rfl
  · rename_i n
    rw [h, List.map_eq_nil_iff] at e
    cases ls with
    | nil => exact absurd rfl n
    | cons x r =>
      exfalso
      have : ∀ (l : List Int) (f : List (Int × Int)), f ≠ [] → l.foldl strS f ≠ [] := fun l => by
        induction l with
        | nil => exact fun f hf => hf
        | cons y l ih =>
          refine fun f hf => ih _ ?_
          unfold strS
          split
          · split <;> simp
          · simp
      exact this r (strS [] x) (by unfold strS; simp) e
theorem fmtL_some {ls : List Int} {ws : List Str} (h : ws = (stretch ls).map fmtS) (e : ws ≠ []) : fmtL ls = Txt.join " " ws := by
  unfold fmtL
  rw [if_neg fun z => e (by rw [h, z]; rfl), h]
/-! ### the law -/
theorem gate_at (b : Bool) : 0 ≤ b2 b ∧ (["open", "shut"] : List Str)[(b2 b).toNat]? = some (gateT b) := by cases b <;> exact ⟨by decide, rfl⟩
theorem stT_len {a c : Int} (b : Bool) (ha : 0 ≤ a ∧ a < 1000000000) (hc : 0 ≤ c ∧ c < 1000000000) : (stT a b c).length ≤ 26 := by
  have h1 := strI_len (i := a) 9 (by decide) (by omega)
  have h2 := gateT_len b
  have h3 := strI_len (i := c) 9 (by decide) (by omega)
  unfold stT
  simp only [Str.length_append, l_sp]
  omega
theorem told_stT {a c : Int} (b : Bool) (ha : 0 ≤ a ∧ a < 1000000000) (hc : 0 ≤ c ∧ c < 1000000000) : toldR (stT a b c) = .read ⟨some ⟨some a, some b, some c⟩⟩ := by
  unfold toldR; rw [parse_stT b ha hc]
theorem parseR_stT {a c : Int} (b : Bool) (ha : 0 ≤ a ∧ a < 1000000000) (hc : 0 ≤ c ∧ c < 1000000000) : parseR (stT a b c) = .ok (dv (Tld.mk (some a) (some b) (some c))) := by
  unfold parseR; rw [parse_stT b ha hc]
instance : NN Tld := nn_tp
theorem told_at (t : Str) : 0 ≤ b2 (Nn.isN (Op.mk (parseT t))) ∧ ([.read (Op.mk (parseT t)), .line 1] : List Told)[(b2 (Nn.isN (Op.mk (parseT t)))).toNat]? = some (toldR t) := by
  unfold toldR
  cases parseT t with
  | none => exact ⟨by decide, rfl⟩
  | some r => exact ⟨Int.le_refl 0, rfl⟩
theorem cmp_in {T : Int → Bool → Prop} {xs ys : List Int} (h : Cmp T (fun x y => y = x) xs ys) : ∀ y ∈ ys, y ∈ xs := by
  induction h with
  | nil => exact fun _ z => nomatch z
  | skip _ _ ih => exact fun y hy => List.mem_append_left _ (ih y hy)
  | take _ _ e ih =>
    intro y hy
    rcases List.mem_append.mp hy with z | z
    · exact List.mem_append_left _ (ih y z)
    · rw [List.mem_singleton.mp z, e]; exact List.mem_append_right _ List.mem_cons_self
theorem cmp_span {T : Int → Bool → Prop} {ys : List Int} (h : Cmp T (fun x y => y = x) (span 0 30) ys) : ys.length ≤ 1000 ∧ ∀ l ∈ ys, 0 ≤ l ∧ l ≤ 1000 := by
  refine ⟨Nat.le_trans h.len (by rw [span_len]; decide), fun l hl => ?_⟩
  have z := cmp_in h l hl
  unfold span at z
  obtain ⟨n, hn, rfl⟩ := List.mem_map.mp z
  have := List.mem_range.mp hn
  omega
end Sk

set_option maxHeartbeats 4000000
/-! # Law k61: books as texts -/
namespace Sk
open PySem L2 PyProof.Rows Rk TL
structure W5 where
  a : Int
  b : Int
  c : Int
  d : Int
  e : Int
deriving DecidableEq
def W5.ds (w : W5) : List DV := [dv w.a, dv w.b, dv w.c, dv w.d, dv w.e]
instance : Rp W5 := tpRp W5.ds
instance : NN W5 := nn_tp
/-- the words of an hour's line -/
def hrW (h : Hr) : List Str := [("hour" : Str), strI h.sl, strI h.sh, strI h.rl, strI h.rh] ++ (if h.ship then [("ship" : Str)] else [])
def hrT (h : Hr) : Str := Txt.join " " (hrW h)
def wkW (w : W5) : List Str := ["works", strI w.a, strI w.b, strI w.c, strI w.d, strI w.e]
def wkT (w : W5) : Str := Txt.join " " (wkW w)
theorem t_hour : tl "hour " = tl "hour" ++ tl " " := by decide +kernel
theorem t_works : tl "works " = tl "works" ++ tl " " := by decide +kernel
theorem t_ship : tl " ship" = tl " " ++ tl "ship" := by decide +kernel
theorem hr_fmt (h : Hr) (s : Bool) (e : h.ship = s) : (if s then "hour " ++ strI h.sl ++ " " ++ strI h.sh ++ " " ++ strI h.rl ++ " " ++ strI h.rh ++ " ship" else "hour " ++ strI h.sl ++ " " ++ strI h.sh ++ " " ++ strI h.rl ++ " " ++ strI h.rh) = hrT h := by
  refine str_ext ?_
  unfold hrT hrW
  rw [join_eq, tl_join, e]
  cases s
  · simp only [Bool.false_eq_true, if_false, tl_append, t_hour, List.append_nil, List.map_cons, List.map_nil, joinL, List.append_assoc]
  · simp only [if_true, tl_append, t_hour, t_ship, List.cons_append, List.nil_append, List.map_cons, List.map_nil, joinL, List.append_assoc]
theorem wk_fmt (w : W5) : "works " ++ strI w.a ++ " " ++ strI w.b ++ " " ++ strI w.c ++ " " ++ strI w.d ++ " " ++ strI w.e = wkT w := by
  refine str_ext ?_
  unfold wkT wkW
  rw [join_eq, tl_join]
  simp only [tl_append, t_works, List.map_cons, List.map_nil, joinL, List.append_assoc]
theorem l_hour : ("hour " : Str).length = 5 := by decide +kernel
theorem l_ship : (" ship" : Str).length = 5 := by decide +kernel
def W5.Ok (w : W5) : Prop := (1 ≤ w.a ∧ w.a ≤ 200) ∧ (1 ≤ w.b ∧ w.b ≤ 400) ∧ (0 ≤ w.c ∧ w.c ≤ 400) ∧ (1 ≤ w.d ∧ w.d ≤ 6) ∧ (0 ≤ w.e ∧ w.e ≤ w.a)
theorem cv_w5 (w : W5) : Cv w (Tl.mk [w.a, w.b, w.c, w.d, w.e]) := fun G H v ⟨p, vs, e1, e2, e3⟩ => ⟨p, vs, e1, e2, e3⟩
theorem wk_line (w : W5) : "works " ++ Txt.join " " [strI w.a, strI w.b, strI w.c, strI w.d, strI w.e] = wkT w := by
  refine str_ext ?_
  unfold wkT wkW
  rw [tl_append, join_eq, join_eq, tl_join, tl_join, t_works]
  simp only [List.map_cons, List.map_nil, joinL, List.append_assoc]
theorem hr_line (h : Hr) (s : Bool) (e : h.ship = s) : (if s then "hour " ++ Txt.join " " [strI h.sl, strI h.sh, strI h.rl, strI h.rh] ++ " ship" else "hour " ++ Txt.join " " [strI h.sl, strI h.sh, strI h.rl, strI h.rh]) = hrT h := by
  refine str_ext ?_
  unfold hrT hrW
  rw [join_eq, join_eq, tl_join, e]
  cases s
  · simp only [Bool.false_eq_true, if_false, tl_append, tl_join, t_hour, List.append_nil, List.map_cons, List.map_nil, joinL, List.append_assoc]
  · simp only [if_true, tl_append, tl_join, t_hour, t_ship, List.cons_append, List.nil_append, List.map_cons, List.map_nil, joinL, List.append_assoc]
theorem join5 {ys : List Str} (hn : ys.length ≤ 10) (h : ∀ y ∈ ys, y.length ≤ 10) : (ys.map (·.length)).sum + ys.length * (" " : Str).length ≤ 16777216 ∧ (Txt.join " " ys).length ≤ 110 := by
  have h1 := sum_le h
  have h2 := Nat.mul_le_mul_right 10 hn
  have h3 := PySem.StrLaws.join_length_le " " ys
  rw [join_eq]
  rw [l_sp] at h3 ⊢
  omega
theorem w5_mem {w : W5} (h : w.Ok) {x : Int} (m : x ∈ [w.a, w.b, w.c, w.d, w.e]) : 0 ≤ x ∧ x ≤ 400 := by
  unfold W5.Ok at h
  simp only [List.mem_cons, List.not_mem_nil, or_false] at m
  rcases m with rfl | rfl | rfl | rfl | rfl <;> omega
theorem h4_mem {h : Hr} (k : h.Ok) {x : Int} (m : x ∈ [h.sl, h.sh, h.rl, h.rh]) : 0 ≤ x ∧ x ≤ 400 := by
  unfold Hr.Ok at k
  simp only [List.mem_cons, List.not_mem_nil, or_false] at m
  rcases m with rfl | rfl | rfl | rfl <;> omega
theorem join_n {xs : List Int} (hn : xs.length ≤ 10) (h : ∀ x ∈ xs, 0 ≤ x ∧ x ≤ 400) : ((xs.map strI).map (·.length)).sum + (xs.map strI).length * (" " : Str).length ≤ 16777216 ∧ (Txt.join " " (xs.map strI)).length ≤ 110 :=
  join5 (by rw [List.length_map]; exact hn) fun y hy => by
    obtain ⟨x, hx, rfl⟩ := List.mem_map.mp hy
    have := h x hx
    exact Nat.le_trans (strI_len (i := x) 4 (by decide) (by omega)) (by decide)
theorem l_works : ("works " : Str).length = 6 := by decide +kernel
/-- lines, each with its end -/
def bookT (ls : List Str) : Str := Txt.join "" (ls.map fun l : Str => l ++ ("\n" : Str))
theorem l_nl : ("\n" : Str).length = 1 := by decide +kernel
theorem book_join {ls : List Str} (hn : ls.length ≤ 1000) (h : ∀ l ∈ ls, l.length ≤ 200) : ((ls.map fun l : Str => l ++ ("\n" : Str)).map (·.length)).sum + (ls.map fun l : Str => l ++ ("\n" : Str)).length * ("" : Str).length ≤ 16777216 := by
  have h1 := sum_le (ys := ls.map fun l : Str => l ++ ("\n" : Str)) (n := 201) fun y hy => by
    obtain ⟨l, hl, rfl⟩ := List.mem_map.mp hy
    have := h l hl
    rw [Str.length_append, l_nl]; omega
  rw [List.length_map] at h1 ⊢
  have e : ("" : Str).length = 0 := by decide +kernel
  rw [e]
  have := Nat.mul_le_mul_right 201 hn
  omega
theorem hrT_len {h : Hr} (k : h.Ok) : (hrT h).length ≤ 120 := by
  rw [← hr_line h h.ship rfl]
  have j := join_n (xs := [h.sl, h.sh, h.rl, h.rh]) (Nat.le_of_ble_eq_true rfl) (fun x m => h4_mem k m)
  have j2 : (Txt.join " " [strI h.sl, strI h.sh, strI h.rl, strI h.rh]).length ≤ 110 := j.2
  split
  · rw [Str.length_append, Str.length_append, l_hour, l_ship]; omega
  · rw [Str.length_append, l_hour]; omega
theorem wkT_len {w : W5} (k : w.Ok) : (wkT w).length ≤ 120 := by
  rw [← wk_line]
  have j := join_n (xs := [w.a, w.b, w.c, w.d, w.e]) (Nat.le_of_ble_eq_true rfl) (fun x m => w5_mem k m)
  have j2 : (Txt.join " " [strI w.a, strI w.b, strI w.c, strI w.d, strI w.e]).length ≤ 110 := j.2
  rw [Str.length_append, l_works]; omega
def W5.of (w : Wk) : W5 := ⟨w.wall, w.flow, w.pump, w.rest, w.deep⟩
theorem w5_of {w : Wk} (h : w.Ok) : (W5.of w).Ok := by
  unfold Wk.Ok at h
  unfold W5.of W5.Ok
  dsimp only
  omega
theorem lines_len {w : W5} {hs : List Hr} (hw : w.Ok) (hh : ∀ h ∈ hs, h.Ok) : ∀ l ∈ wkT w :: hs.map hrT, l.length ≤ 120 := fun l hl => by
  rcases List.mem_cons.mp hl with rfl | hl
  · exact wkT_len hw
  · obtain ⟨h, m, rfl⟩ := List.mem_map.mp hl
    exact hrT_len (hh h m)
/-! ### lines read -/
def readNs (n : Str) (ws : List Str) (m : Int) : Option (List (Option Int)) := if (!decide (ws.getD 0 Str.empty = n) || (!decide ((((ws.drop 1).map readN).length : Int) = m) || ((ws.drop 1).map readN).any (·.isNone))) = true then none else some ((ws.drop 1).map readN)
theorem cv_opS {α : Type} [Rp α] (x : α) : Cv (Op.mk (some x)) x := fun G H v r => r
end Sk

set_option maxHeartbeats 4000000
/-! # for i, x in enumerate(xs); a truth value in a list of such -/
namespace Rk
open PySem L2 PyProof.Rows
section
variable {F : Fx} {env : List Ent} {ex : XP} {a b c e it : Expr} {es elts : List Expr} {kk : Nat} {pos p0 p1 tpos : Pos} {n x : Str} {P : Po} {body : List Stmt}
theorem flat_bls : ∀ bs : List Bool, (bs.map V.bl).all flatV = true
  | [] => rfl
  | _ :: bs => by rw [List.map_cons, List.all_cons, flat_bls bs]; rfl
theorem in_bls (y : Bool) : ∀ bs : List Bool, inV (V.bl y) (bs.map V.bl) = bs.contains y
  | [] => rfl
  | b :: bs => by
    have z := in_bls y bs
    unfold inV at z ⊢
    rw [List.map_cons, List.any_cons, z, List.contains_cons]
    congr 1
    cases y <;> cases b <;> decide +kernel
theorem k_inB {Q : Bool → Prop} (h : KE F env a ex fun y : Bool => KE F env b ex fun t : List Bool => Q (t.contains y)) (hm : behindInMarks .In b = false := by with_unfolding_all rfl) : KE F env (.Compare a [.In] [b] pos) ex Q :=
  k_cmp op_in_seq h (fun _ _ _ _ v u x y s _ r1 r2 q => by
    have r1 : v = V.bl x := r1
    obtain ⟨l, vs, e1, e2, e3⟩ := r2
    subst r1 e1
    have e4 := reps_bls (bs := y) e3
    subst e4
    exact ⟨l, _, rfl, .inl (SqL.of (hid_of e2)), rfl, flat_bls y, _, s, by show V.bl (inV (V.bl x) (y.map V.bl)) = _; rw [in_bls]; rfl, q⟩) hm
theorem k_notInB {Q : Bool → Prop} (h : KE F env a ex fun y : Bool => KE F env b ex fun t : List Bool => Q (!t.contains y)) (hm : behindInMarks .NotIn b = false := by with_unfolding_all rfl) : KE F env (.Compare a [.NotIn] [b] pos) ex Q :=
  k_cmp op_notIn_seq h (fun _ _ _ _ v u x y s _ r1 r2 q => by
    have r1 : v = V.bl x := r1
    obtain ⟨l, vs, e1, e2, e3⟩ := r2
    subst r1 e1
    have e4 := reps_bls (bs := y) e3
    subst e4
    exact ⟨l, _, rfl, .inl (SqL.of (hid_of e2)), rfl, flat_bls y, _, s, by show V.bl (!inV (V.bl x) (y.map V.bl)) = _; rw [in_bls]; rfl, q⟩) hm
theorem s_forE {α : Type} [Rp α] {f : Int × α → List Ent → List Ent} {g : TG} {is : List Nat} (tg : Tg F (.Tuple elts kk tpos) (Int × α) g is f) (m : NoGl F.X.mg) (h : KE F env e P.ex fun xs : List α => ∃ I : Nat → List Ent → Prop, I 0 env ∧ (∀ i y env', (enumL xs)[i]? = some y → I i env' → KSs F (f y env') body (turn P (I (i + 1)))) ∧ ∀ env', I (enumL xs).length env' → P.nx env')
    (hc : F.X.calm = true := by rfl) (hg : Gl F.X "enumerate" := by rfl) (z : Ns F e [] := by rfl) (z1 : starEach [e] F.X.env = [(false, eval e F.X.env)] := by rfl)
    (hs : ∀ x, foldedSetIterable (.Call (.Name "enumerate" p0) [e] [] p1) F.X.env x = pure x := by intro _; rfl) : KS F env (.For (.Tuple elts kk tpos) (.Call (.Name "enumerate" p0) [e] [] p1) body [] pos) P := fun own σ H k p => by
  refine tS_of (ps_for p.1 hc (pi_enum hg (m _ (by simp)) (pa_cons peE pa_nil z) z1) tg.pg peSs hs) ?_
  refine tE_mono (fun v H1 ⟨xs, s, ⟨l, vs, e1, e2, e3⟩, I, h0, h1, h2⟩ => ?_) (h own σ H k p)
  have hlen : vs.length = xs.length := by rw [e3.len, dvs_len]
  have sq : ∀ own' H', Fr F.hs own own' H1 H' → SqL F.X.K H' l vs := fun own' H' fr => SqL.of (hid_of (fr _ _ e2))
  refine ⟨l, vs, by rw [e1], sq own H1 Fr.refl, ?_⟩
  refine ⟨fun i m σ' H' => m + i = xs.length ∧ ∃ own', Fr F.hs own own' H1 H' ∧ ∃ env', F.Kn own' env' σ' H' ∧ I i env', ⟨xs.length, rfl, own, Fr.refl, env, k.mono s, h0⟩, ?_⟩
  rintro i m σ' H' ⟨em, own', fr, env', k', hI⟩
  by_cases lt : i < xs.length
  · obtain ⟨y, hy⟩ : ∃ y, xs[i]? = some y := ⟨_, List.getElem?_eq_getElem lt⟩
    refine .inr ⟨⟨vs, _, sq own' H' fr, List.getElem?_eq_getElem (by omega)⟩, fun σ3 H3 => ∃ own3, Fr F.hs own own3 H1 H3 ∧ ∃ env3, F.Kn own3 env3 σ3 H3 ∧ I (i + 1) env3, fun σ3 H3 q => ⟨m - 1, by omega, by omega, q⟩, fun u H2 ⟨T, w, eu, nT, eH, hw⟩ => ?_⟩
    subst eH
    have sT : Same H' (upd H' T (.tup [.int (i : Nat), w])) := same_new nT
    obtain ⟨w2, g1, g2⟩ := e3.get (i := i) (d := dv y) (by rw [dvs_get, hy]; rfl)
    have ew : w = w2 := by
      have z := hw vs (sq own' H' fr)
      rw [g1] at z
      exact (Option.some.inj z).symm
    subst ew
    have nh : ¬ hd F.hs own' T := k'.fresh (Same.refl _) nT
    have rT : Rp.rep F.G (Hid (hd F.hs own') (upd H' T (.tup [.int (i : Nat), w]))) u ((i : Int), y) := by
      refine ⟨T, [V.int (i : Nat), w], eu, by rw [hid_at nh, upd_same], ?_⟩
      show (dv (i : Int)).rep F.G _ (V.int (i : Nat)) ∧ (dv y).rep F.G _ w ∧ True
      exact ⟨rfl, DV.mono (d := dv y) (fr.trans (hid_same sT)) g2, trivial⟩
    have base : Fr F.hs own own H H1 := Fr.of s
    refine tg.sem ((i : Int), y) _ env' own' σ' _ u (k'.mono sT) rT fun own2 σ2 k2 f2 _ _ => ?_
    have f1 : Fr F.hs own own2 H1 (upd H' T (.tup [.int (i : Nat), w])) := (fr.trans (Fr.of sT)).trans f2
    have tot : Fr F.hs own own2 H (upd H' T (.tup [.int (i : Nat), w])) := base.trans f1
    refine tSs_mono (D := ends F own2 (upd H' T (.tup [.int (i : Nat), w])) (turn P (I (i + 1)))) ?n (fun _ _ z => z) (fun _ _ z => At.more tot z) ?c (h1 i _ env' (by rw [enumL_get, hy]; rfl) hI own2 σ2 _ k2 (p.step tot))
    all_goals
      rintro σ3 H3 ⟨env3, own3, k3, f3, q3⟩
      exact ⟨own3, f1.trans f3, env3, k3, q3⟩
  · have e : i = (enumL xs).length := by rw [enumL_len]; omega
    subst e
    exact .inl ⟨⟨vs, sq own' H' fr, by rw [enumL_len]; omega⟩, env', own', k', (Fr.of s).trans fr, h2 env' hI⟩
end
end Rk

set_option maxHeartbeats 4000000
/-! # for i, x in enumerate(xs, start=c) -/
namespace Rk
open PySem L2 PyProof.Rows
section
variable {M : Model} {A : Around} {E : Value → Shared → Prop} {s : Shared} {env : Env}
theorem callWith_type_kw {pos : Pos} {T : String} {e : Expr} {rest : List Expr} {kws : List Keyword} {Q : Value → Shared → Prop}
    (h : wpAny M A (spliced (backTo pos (starEach (e :: rest) env))) (fun vs s₁ => wpAny M A (evalAll ((backToKw pos (keywordEach kws env)).map (·.2)))
      (fun kvs s₂ => wpAny M A (call (.type T) vs (((backToKw pos (keywordEach kws env)).filterMap (·.1)).zip kvs)) Q E s₂) E s₁) E s)
    (he : starEach (e :: rest) env = (false, eval e env) :: starEach rest env)
    (hplain : (backTo pos (starEach (e :: rest) env)).any (·.1) = false)
    (hall : (backToKw pos (keywordEach kws env)).all (·.1.isSome) = true)
    (hkw : (backToKw pos (keywordEach kws env)).any (·.1.isNone) = false) :
    wpAny M A (callWith pos (.type T) [] (backTo pos (starEach (e :: rest) env)) (backToKw pos (keywordEach kws env))) Q E s := by
  have g : wpAny M A (evalArgs (.type T) true (backTo pos (starEach (e :: rest) env)) (backToKw pos (keywordEach kws env))) (fun a s₁ => wpAny M A (call (.type T) ([] ++ a.pos) a.kw) Q E s₁) E s := by
    rw [he] at h ⊢
    exact evalArgs_kwB hall h
  unfold callWith
  refine wpAny_bind (wpAny_holding (wpAny_mono g (fun a s₁ h₁ => wpAny_bind (wpAny_standAt ?_)) fun _ _ x => x))
  simp only [hplain, hkw, Bool.or_false]
  refine wpAny_bind (wpAny_pure ?_)
  exact wpAny_bind (wpAny_mono h₁ (fun r s₂ hr => wpAny_bind (wpAny_holding (wpAny_point (wpAny_pure hr)))) fun _ _ x => x)
end
/-- the list at a, counted from c on -/
def IteK (K : PySem.W.Frag) (a : Addr) (c : Int) : It :=
  ⟨fun i H => ∃ (xs : List V) (x : V), SqL K H a xs ∧ xs[i]? = some x, fun i H v H' => ∃ T x, v = .ref T ∧ H T = none ∧ H' = upd H T (.tup [.int (c + (i : Nat)), x]) ∧ ∀ xs, SqL K H a xs → xs[i]? = some x, fun i H => ∃ xs : List V, SqL K H a xs ∧ xs.length = i⟩
theorem turn_enumK {P : Program} {w : World} {K : PySem.W.Frag} {elts : List Expr} {kk : Nat} {tpos : Pos} (a e it : Addr) (c : Int) :
    Turn P w K (.Tuple elts kk tpos) (IteK K a c) [e, it] e (fun i h => (∃ old, IsEnum h e it (c + ((i : Nat) : Int)) old) ∧ h.IsListIter it a i ∧ e ≠ it ∧ a ≠ it ∧ e ≠ a) where
  mem := by simp
  obj := fun i h st b hb => by
    obtain ⟨⟨old, he⟩, ⟨o, ho, hc, hd⟩, _⟩ := st
    have e' : b = e ∨ b = it := by simpa using hb
    rcases e' with z | z
    · rw [z]; exact ⟨_, he, fun v q => nomatch q⟩
    · rw [z]; exact ⟨o, ho, fun v q => by rw [hd] at q; cases q⟩
  keep := fun i h h' st k => let ⟨⟨old, he⟩, hi, hne⟩ := st; ⟨⟨old, k e (by simp) _ he⟩, hi.at fun o q => k it (by simp) o q, hne⟩
  item := by
    intro X hP hw hK hc i pins s σ H E I hf st hg
    subst hP hw hK
    obtain ⟨⟨old, he⟩, hit, hne, hai, hea⟩ := st
    obtain ⟨xs, x, hq, hx⟩ := hg
    obtain ⟨its, rv, p, hz⟩ := I.list hq
    obtain ⟨u, hu, ru⟩ := rv.get hx
    have hel : e < s.heap.objs.size := Heap.lt_size he
    have hil : it < s.heap.objs.size := by obtain ⟨_, q, _⟩ := hit; exact Heap.lt_size q
    have hlt : i < its.toArray.size := by
      have := (List.getElem?_eq_some_iff.mp hu).1
      simpa using this
    refine wpAny_pyNext_enum_itemC (i := i) (Draws.list (A := X.A.in1) (I.ok.hd hc) it a hai its.toArray) he ⟨hit, p.isList⟩ hlt hne (by simp [hne, hea]) fun x' h' tk hx' ho hit' hT hsz hk => ?_
    have ex : x' = u := by
      have h1 : its[i]? = some x' := by simpa using hx'
      rw [hu] at h1
      exact (Option.some.inj h1).symm
    subst ex
    refine ⟨_, rfl, wpAny_letOwnedTupleGo_enum (s := { s with heap := h', toks := tk + 1 }) ho fun h'' he' sb => ?_⟩
    have hT2 : h''.get? s.heap.objs.size = some { cls := .type "tuple", data := .seq #[.int (c + ((i : Nat) : Int)) tk, x'] } := (sb.2 _ (Nat.ne_of_gt hel)).trans hT
    have new : ObjOk X.prog X.w (upd H s.heap.objs.size (.tup [.int (c + (i : Nat)), x])) h'' s.heap.objs.size (.tup [.int (c + (i : Nat)), x]) :=
      ⟨by show 2 ≤ sizeLine; decide, [.int (c + ((i : Nat) : Int)) tk, x'], .cons ⟨_, rfl⟩ (.cons ru .nil), ⟨_, hT2, rfl, _, rfl⟩⟩
    have I1 : Inv X pins σ (upd H s.heap.objs.size (.tup [.int (c + (i : Nat)), x])) { s with heap := h'', toks := tk + 1 } :=
      I.turnedNew (ch := [e, it]) (fun b ob hb q => (sb.2 b (fun z => hb (by simp [z]))).trans (hk b ob (fun z => hb (by simp [z])) (fun z => hb (by simp [z])) q)) hf (Nat.le_refl _) new
    refine ⟨.ref s.heap.objs.size, _, I1, rfl, ⟨_, x, rfl, I.hok.fresh (Nat.le_refl _), rfl, fun ys hy => by rw [I.list_inj hy hq]; exact hx⟩, ⟨⟨x', ?_⟩, hit'.1.at fun o q => (sb.2 it (Ne.symm hne)).trans q, hne, hai, hea⟩, fun b hb => ?_⟩
    · have e1 : c + ((i + 1 : Nat) : Int) = c + (i : Int) + 1 := by omega
      rw [e1]; exact he'
    · have hb' : b < s.heap.objs.size := by
        have e' : b = e ∨ b = it := by simpa using hb
        rcases e' with z | z
        · rw [z]; exact hel
        · rw [z]; exact hil
      rw [upd_ne (Nat.ne_of_lt hb')]
      exact (hf b hb).1
  done := by
    intro X hP hw hK hc i pins s σ H E I hf st hg
    subst hP hw hK
    obtain ⟨⟨old, he⟩, hit, hne, hai, hea⟩ := st
    obtain ⟨xs, hq, hx⟩ := hg
    obtain ⟨its, rv, p, hz⟩ := I.list hq
    obtain ⟨f0, f1, f2, f3, f4, f5⟩ := hf it (by simp)
    have hl := rv.length
    have ei : i = its.toArray.size := by
      have : its.toArray.size = its.length := by simp
      omega
    exact wpAny_pyNext_enum_endD (Draws.list (A := X.A.in1) (I.ok.hd hc) it a hai its.toArray) he ⟨by rw [← ei]; exact hit, p.isList⟩ fun h' eb => ⟨rfl, I.turned (t' := s.toks) (fun b o hb q => eb b o hb q) f0 f1 f3 f4 f5⟩
  self := fun A i s Q E st h => let ⟨⟨_, he⟩, _⟩ := st; wpAny_pyIter_enum he h
def iEnumK (K : PySem.W.Frag) (ta : TA) (c : Int) : TI := fun σ H R => ta σ H fun vs H1 => ∃ a xs, vs = [.ref a] ∧ SqL K H1 a xs ∧ R (IteK K a c) H1
theorem pi_enumK {X : Cx} {e : Expr} {ta : TA} {p pos tpos p2 kp : Pos} {j} {c : Int} {elts : List Expr} {kk : Nat} (hg : Gl X "enumerate") (hm : X.mg "enumerate" = none) (ha : PA X [e] ta) (hc0 : -(2 ^ 63) ≤ c) (hc1 : c < 2 ^ 63) (hs : starEach [e] X.env = [(false, eval e X.env)] := by rfl)
    (hpl : (backTo pos (starEach [e] X.env)).any (·.1) = false := by rfl) :
    PI X (.Tuple elts kk tpos) (.Call (.Name "enumerate" p) [e] [⟨some "start", .Constant (.int c) j p2, kp⟩] pos) (iEnumK X.K ta c) := by
  refine ⟨fun pins s σ H R I h => ?_⟩
  refine wpAny_Call_Name_kw (ld_blt I hg hm boot_enumerate (callWith_type_kw (thn (ha.run pos pins s σ H _ I h) fun us s1 ⟨vs, H1, I1, r1, q1⟩ => ?_) hs hpl rfl rfl))
  obtain ⟨a, xs, ex, hq, q⟩ := q1
  subst ex
  refine kws_cons (thn ((pe_int (X := X)).run pins s1 σ H1 (fun v H2 => v = .int c ∧ H2 = H1) I1 ⟨rfl, rfl⟩) fun u s2 ⟨v, H2, I2, rv2, ev, eH⟩ => kws_nil ?_)
  subst ev eH
  obtain ⟨tk, rfl⟩ : ∃ tk, u = Value.int c tk := rv2
  cases r1 with
  | cons r rr =>
    cases rr
    cases r
    obtain ⟨its, rv, p', hz⟩ := I2.list hq
    refine enum_begins_start (begins_list a its.toArray) p'.isList hc0 hc1 fun h' he hit hsz hk => wpAny_pyIter_enum he ?_
    have I3 : Inv X pins σ _ { s2 with heap := h' } := I2.kept (t' := s2.toks) hk
    have la : a < s2.heap.objs.size := by
      obtain ⟨_, q', _⟩ := p'.isList
      exact Heap.lt_size q'
    refine ⟨s2.heap.objs.size + 1, [s2.heap.objs.size + 1, s2.heap.objs.size], _, _, _, rfl, I3, turn_enumK a (s2.heap.objs.size + 1) s2.heap.objs.size c, ⟨⟨.none, by simpa using he⟩, ⟨_, hit, rfl, rfl⟩, Nat.succ_ne_self _, Nat.ne_of_lt la, Ne.symm (Nat.ne_of_lt (Nat.lt_succ_of_lt la))⟩, fun b hb => ?_, q⟩
    have e' : b = s2.heap.objs.size + 1 ∨ b = s2.heap.objs.size := by simpa using hb
    have hle : s2.heap.objs.size ≤ b := by
      rcases e' with z | z
      · rw [z]; exact Nat.le_add_right _ _
      · rw [z]; exact Nat.le_refl _
    exact I2.fpOk hle (I2.hok.fresh hle)
section
variable {F : Fx} {env : List Ent} {ex : XP} {a b c e it : Expr} {es elts : List Expr} {kk : Nat} {pos p0 p1 p2 kp tpos : Pos} {n x : Str} {P : Po} {body : List Stmt}
def enumK {α : Type} (c : Int) (xs : List α) : List (Int × α) := (enumL xs).map fun p => (c + p.1, p.2)
theorem enumK_get {α : Type} {c : Int} {xs : List α} {i : Nat} : (enumK c xs)[i]? = (xs[i]?).map fun y => (c + (i : Int), y) := by
  unfold enumK
  rw [List.getElem?_map, enumL_get]
  cases xs[i]? <;> rfl
theorem enumK_len {α : Type} {c : Int} {xs : List α} : (enumK c xs).length = xs.length := by unfold enumK; rw [List.length_map, enumL_len]
theorem s_forEK {α : Type} [Rp α] {f : Int × α → List Ent → List Ent} {g : TG} {is : List Nat} {j} {c : Int} (tg : Tg F (.Tuple elts kk tpos) (Int × α) g is f) (m : NoGl F.X.mg) (hc0 : -(2 ^ 63) ≤ c) (hc1 : c < 2 ^ 63) (h : KE F env e P.ex fun xs : List α => ∃ I : Nat → List Ent → Prop, I 0 env ∧ (∀ i y env', (enumK c xs)[i]? = some y → I i env' → KSs F (f y env') body (turn P (I (i + 1)))) ∧ ∀ env', I (enumK c xs).length env' → P.nx env')
    (hc : F.X.calm = true := by rfl) (hg : Gl F.X "enumerate" := by rfl) (z : Ns F e [] := by rfl) (z1 : starEach [e] F.X.env = [(false, eval e F.X.env)] := by rfl) (z2 : (backTo p1 (starEach [e] F.X.env)).any (·.1) = false := by rfl)
    (hs : ∀ x, foldedSetIterable (.Call (.Name "enumerate" p0) [e] [⟨some "start", .Constant (.int c) j p2, kp⟩] p1) F.X.env x = pure x := by intro _; rfl) : KS F env (.For (.Tuple elts kk tpos) (.Call (.Name "enumerate" p0) [e] [⟨some "start", .Constant (.int c) j p2, kp⟩] p1) body [] pos) P := fun own σ H k p => by
  refine tS_of (ps_for p.1 hc (pi_enumK hg (m _ (by simp)) (pa_cons peE pa_nil z) hc0 hc1 z1 z2) tg.pg peSs hs) ?_
  refine tE_mono (fun v H1 ⟨xs, s, ⟨l, vs, e1, e2, e3⟩, I, h0, h1, h2⟩ => ?_) (h own σ H k p)
  have hlen : vs.length = xs.length := by rw [e3.len, dvs_len]
  have sq : ∀ own' H', Fr F.hs own own' H1 H' → SqL F.X.K H' l vs := fun own' H' fr => SqL.of (hid_of (fr _ _ e2))
  refine ⟨l, vs, by rw [e1], sq own H1 Fr.refl, ?_⟩
  refine ⟨fun i m σ' H' => m + i = xs.length ∧ ∃ own', Fr F.hs own own' H1 H' ∧ ∃ env', F.Kn own' env' σ' H' ∧ I i env', ⟨xs.length, rfl, own, Fr.refl, env, k.mono s, h0⟩, ?_⟩
  rintro i m σ' H' ⟨em, own', fr, env', k', hI⟩
  by_cases lt : i < xs.length
  · obtain ⟨y, hy⟩ : ∃ y, xs[i]? = some y := ⟨_, List.getElem?_eq_getElem lt⟩
    refine .inr ⟨⟨vs, _, sq own' H' fr, List.getElem?_eq_getElem (by omega)⟩, fun σ3 H3 => ∃ own3, Fr F.hs own own3 H1 H3 ∧ ∃ env3, F.Kn own3 env3 σ3 H3 ∧ I (i + 1) env3, fun σ3 H3 q => ⟨m - 1, by omega, by omega, q⟩, fun u H2 ⟨T, w, eu, nT, eH, hw⟩ => ?_⟩
    subst eH
    have sT : Same H' (upd H' T (.tup [.int (c + (i : Nat)), w])) := same_new nT
    obtain ⟨w2, g1, g2⟩ := e3.get (i := i) (d := dv y) (by rw [dvs_get, hy]; rfl)
    have ew : w = w2 := by
      have z := hw vs (sq own' H' fr)
      rw [g1] at z
      exact (Option.some.inj z).symm
    subst ew
    have nh : ¬ hd F.hs own' T := k'.fresh (Same.refl _) nT
    have rT : Rp.rep F.G (Hid (hd F.hs own') (upd H' T (.tup [.int (c + (i : Nat)), w]))) u (c + (i : Int), y) := by
      refine ⟨T, [V.int (c + (i : Nat)), w], eu, by rw [hid_at nh, upd_same], ?_⟩
      show (dv (c + (i : Int))).rep F.G _ (V.int (c + (i : Nat))) ∧ (dv y).rep F.G _ w ∧ True
      exact ⟨rfl, DV.mono (d := dv y) (fr.trans (hid_same sT)) g2, trivial⟩
    have base : Fr F.hs own own H H1 := Fr.of s
    refine tg.sem (c + (i : Int), y) _ env' own' σ' _ u (k'.mono sT) rT fun own2 σ2 k2 f2 _ _ => ?_
    have f1 : Fr F.hs own own2 H1 (upd H' T (.tup [.int (c + (i : Nat)), w])) := (fr.trans (Fr.of sT)).trans f2
    have tot : Fr F.hs own own2 H (upd H' T (.tup [.int (c + (i : Nat)), w])) := base.trans f1
    refine tSs_mono (D := ends F own2 (upd H' T (.tup [.int (c + (i : Nat)), w])) (turn P (I (i + 1)))) ?n (fun _ _ z => z) (fun _ _ z => At.more tot z) ?c (h1 i _ env' (by rw [enumK_get, hy]; rfl) hI own2 σ2 _ k2 (p.step tot))
    all_goals
      rintro σ3 H3 ⟨env3, own3, k3, f3, q3⟩
      exact ⟨own3, f1.trans f3, env3, k3, q3⟩
  · have e : i = (enumK c xs).length := by rw [enumK_len]; omega
    subst e
    exact .inl ⟨⟨vs, sq own' H' fr, by rw [enumK_len]; omega⟩, env', own', k', (Fr.of s).trans fr, h2 env' hI⟩
end
end Rk

set_option maxHeartbeats 4000000
/-! # Books read -/
namespace Sk
open PySem L2 PyProof.Rows Rk TL
/-! ### parts of texts -/
theorem join_has {S : List Nat} {c : Nat} : ∀ {ps : List (List Nat)} {p : List Nat}, p ∈ ps → c ∈ p → c ∈ joinL S ps
  | [], _, h, _ => nomatch h
  | [q], p, h, hc => by
    rw [List.mem_singleton] at h; subst h; exact hc
  | q :: r :: rs, p, h, hc => by
    show c ∈ q ++ (S ++ joinL S (r :: rs))
    rcases List.mem_cons.mp h with h | h
    · subst h; exact List.mem_append_left _ hc
    · exact List.mem_append_right _ (List.mem_append_right _ (join_has h hc))
theorem split_sub {x y p : Str} (h : p ∈ Txt.split x y) {c : Nat} (hc : c ∈ tl p) : c ∈ tl x := by
  have e : tl x = joinL (tl y) ((Txt.split x y).map tl) := by rw [← tl_join, PySem.StrLaws.join_split]
  rw [e]
  exact join_has (List.mem_map_of_mem h) hc
theorem strOk_tl {x : Str} : PyData.strOk x = true ↔ ∀ c ∈ tl x, c < 0x110000 := by
  unfold PyData.strOk
  rw [Array.all_eq_true_iff_forall_mem]
  simp [tl]
theorem split_strOk {x y p : Str} (hx : PyData.strOk x = true) (h : p ∈ Txt.split x y) : PyData.strOk p = true :=
  strOk_tl.mpr fun c hc => strOk_tl.mp hx c (split_sub h hc)
theorem split_ne (x y : Str) : Txt.split x y ≠ [] := fun e => by
  have := split_pos x y
  rw [e] at this
  exact absurd this (by decide)
theorem split_count {x y : Str} (hy : 1 ≤ y.length) : (Txt.split x y).length ≤ x.length + 1 := by
  have := split_weight x y hy
  omega
theorem l_sp1 : 1 ≤ (" " : Str).length := by decide +kernel
theorem l_nl1 : 1 ≤ ("\n" : Str).length := by decide +kernel
theorem nl_eq : ("\n" : Str) = ⟨#[10]⟩ := by decide +kernel
theorem sp_eq : (" " : Str) = ⟨#[32]⟩ := by decide +kernel
theorem ends_at {t : Str} (h : Txt.endswith t "\n" = true) : 1 ≤ t.length ∧ (tl t)[t.length - 1]? = some 10 := by
  unfold Txt.endswith at h
  rw [Bool.and_eq_true, nl_eq] at h
  obtain ⟨h1, h2⟩ := h
  have h1 : 0 + 1 ≤ t.length := of_decide_eq_true h1
  exact ⟨by omega, (PySem.StrLaws.subAt_one t 10 (t.length - 1)).mp ⟨by show t.length - 1 + 1 ≤ t.length; omega, h2⟩⟩
theorem ends_iff {t : Str} : Txt.endswith t "\n" = true ↔ (tl t)[t.length - 1]? = some 10 := by
  refine ⟨fun h => (ends_at h).2, fun h => ?_⟩
  have hl : t.length - 1 < (tl t).length := (List.getElem?_eq_some_iff.mp h).1
  have hl : 1 ≤ t.length := by rw [← len_tl] at hl; omega
  have z := (PySem.StrLaws.subAt_one t 10 (t.length - 1)).mpr h
  unfold Txt.endswith
  rw [Bool.and_eq_true, nl_eq]
  exact ⟨decide_eq_true (by show 0 + 1 ≤ t.length; omega), z.2⟩
theorem split_two {t : Str} (h : Txt.endswith t "\n" = true) : 2 ≤ (Txt.split t "\n").length := by
  have hp := split_pos t "\n"
  by_cases c : 2 ≤ (Txt.split t "\n").length
  · exact c
  · exfalso
    have e : (Txt.split t "\n").length = 1 := by omega
    obtain ⟨p, hp⟩ := List.length_eq_one_iff.mp e
    have j := PySem.StrLaws.join_split t "\n"
    rw [hp] at j
    have j : p = t := j
    have f := PySem.StrLaws.split_free t 10 p (by rw [← nl_eq, hp]; exact List.mem_cons_self)
    exact f (by rw [j]; exact List.mem_of_getElem? (ends_at h).2)
/-! ### lines read -/
theorem all_some : ∀ {ns : List (Option Int)}, ns.any (·.isNone) = false → ∃ is : List Int, ns = is.map some
  | [], _ => ⟨[], rfl⟩
  | some i :: ns, h => by
    rw [List.any_cons] at h
    obtain ⟨is, e⟩ := all_some (ns := ns) (by simpa using h)
    exact ⟨i :: is, by rw [e]; rfl⟩
  | none :: ns, h => by simp at h
theorem readNs_some {n : Str} {ws : List Str} {m : Int} {ns : List (Option Int)} (h : readNs n ws m = some ns) : ∃ is : List Int, ns = is.map some ∧ (is.length : Int) = m := by
  unfold readNs at h
  split at h
  · cases h
  · rename_i c
    cases h
    simp only [Bool.not_eq_true, Bool.or_eq_false_iff, Bool.not_eq_false', decide_eq_true_iff] at c
    obtain ⟨c1, c2, c3⟩ := c
    obtain ⟨is, e⟩ := all_some c3
    exact ⟨is, e, by rw [← c2, e, List.length_map]⟩
def hrShip (ws : List Str) : Bool := decide (ws.drop 5 = [("ship" : Str)])
def hrWords (ws : List Str) : List Str := if hrShip ws = true then ws.take 5 else ws
def hrOf (s : Bool) : Option (List (Option Int)) → Option Hr
  | some [some a, some b, some c, some d] => some ⟨a, b, c, d, s⟩
  | _ => none
def readHr (t : Str) : Option Hr := hrOf (hrShip (Txt.split t " ")) (readNs "hour" (hrWords (Txt.split t " ")) 4)
theorem four {is : List Int} (h : (is.length : Int) = 4) : ∃ a b c d, is = [a, b, c, d] := by
  match is, h with
  | [a, b, c, d], _ => exact ⟨a, b, c, d, rfl⟩
  | [], h => exact absurd h (by decide)
  | [_], h => exact absurd h (by simp)
  | [_, _], h => exact absurd h (by simp)
  | [_, _, _], h => exact absurd h (by simp)
  | _ :: _ :: _ :: _ :: _ :: r, h => exact absurd h (by simp only [List.length_cons]; omega)
theorem five {is : List Int} (h : (is.length : Int) = 5) : ∃ a b c d e, is = [a, b, c, d, e] := by
  match is, h with
  | [a, b, c, d, e], _ => exact ⟨a, b, c, d, e, rfl⟩
  | [], h => exact absurd h (by decide)
  | [_], h => exact absurd h (by simp)
  | [_, _], h => exact absurd h (by simp)
  | [_, _, _], h => exact absurd h (by simp)
  | [_, _, _, _], h => exact absurd h (by simp)
  | _ :: _ :: _ :: _ :: _ :: _ :: r, h => exact absurd h (by simp only [List.length_cons]; omega)
theorem cut5 (b : Bool) (t : Str) : (if b = true then (Txt.split t " ").take (5 : Int).toNat else Txt.split t " ") ≠ [] ∧ (if b = true then (Txt.split t " ").take (5 : Int).toNat else Txt.split t " ").length ≤ t.length + 1 ∧ ∀ w ∈ (if b = true then (Txt.split t " ").take (5 : Int).toNat else Txt.split t " "), w.length ≤ t.length := by
  have h1 := split_ne t " "
  have h2 := split_count (x := t) (y := " ") l_sp1
  have e : (5 : Int).toNat = 5 := rfl
  cases b with
  | false => exact ⟨h1, h2, fun w m => part_short m⟩
  | true =>
    rw [if_pos rfl, e]
    refine ⟨fun z => h1 ?_, Nat.le_trans (List.length_take_le' _ _) h2, fun w m => part_short (List.mem_of_mem_take m)⟩
    rcases List.take_eq_nil_iff.mp z with z | z
    · cases z
    · exact z
theorem readHr_no {t : Str} (h : readNs "hour" (hrWords (Txt.split t " ")) 4 = none) : readHr t = none := by unfold readHr; rw [h]; rfl
theorem readHr_ok {t : Str} {ns : List (Option Int)} (h : readNs "hour" (hrWords (Txt.split t " ")) 4 = some ns) : ∃ a b c d, ns = [a, b, c, d].map some ∧ readHr t = some ⟨a, b, c, d, hrShip (Txt.split t " ")⟩ := by
  obtain ⟨is, e, l⟩ := readNs_some h
  obtain ⟨a, b, c, d, rfl⟩ := four l
  refine ⟨a, b, c, d, e, ?_⟩
  unfold readHr
  rw [h, e]
  rfl
theorem cv_ints (is : List Int) : Cv (Op.mk (some (is.map some))) is := fun G H v r => cv_list' (f := some) (fun _ _ _ _ q => q) is G H v r
theorem cv_intsO {o : Op (List (Option Int))} {is : List Int} (h : o.o = some (is.map some)) : Cv o is := fun G H v r => cv_ints is G H v (cv_op h G H v r)
theorem cv_valsO {o : Op (List (Option Int))} {is : List Int} (h : o.o = some (is.map some)) : Cv o (is.map V.int) := fun G H v r => cv_list (f := V.int) (fun _ _ _ _ q => q) is G H v (cv_intsO h G H v r)
theorem isN_none {α : Type} [Rp α] [NN α] {o : Op α} (h : Nn.isN o = true) : o.o = none := Option.isNone_iff_eq_none.mp h
theorem isN_some {α : Type} [Rp α] [NN α] {o : Op α} (h : Nn.isN o = false) : ∃ x, o.o = some x := by
  have h : o.o.isNone = false := h
  cases e : o.o with
  | none => rw [e] at h; cases h
  | some x => exact ⟨x, rfl⟩
theorem cv_vals (is : List Int) : Cv (Op.mk (some (is.map some))) (is.map V.int) := fun G H v r => cv_list (f := V.int) (fun _ _ _ _ q => q) is G H v (cv_ints is G H v r)
/-! ### books read -/
def linesOf (t : Str) : List Str := (Txt.split t "\n").dropLast
theorem lines_pos {t : Str} (h : Txt.endswith t "\n" = true) : 0 < (linesOf t).length := by
  have := split_two h
  unfold linesOf
  rw [List.length_dropLast]
  omega
theorem lines_mem {t l : Str} (h : l ∈ linesOf t) : l ∈ Txt.split t "\n" := List.dropLast_subset _ h
theorem lines_short {t l : Str} (h : l ∈ linesOf t) : l.length ≤ t.length := part_short (lines_mem h)
theorem lines_ok {t l : Str} (o : PyData.strOk t = true) (h : l ∈ linesOf t) : PyData.strOk l = true := split_strOk o (lines_mem h)
theorem lines_count (t : Str) : (linesOf t).length ≤ t.length := by
  have := split_count (x := t) (y := "\n") l_nl1
  unfold linesOf
  rw [List.length_dropLast]
  omega
theorem line0_mem {t : Str} (h : Txt.endswith t "\n" = true) : (linesOf t).getD 0 Str.empty ∈ linesOf t := by
  have z := lines_pos h
  exact List.mem_of_getElem? (getD_at z)
def badLn : Int → List Str → Option Int
  | _, [] => none
  | k, l :: ls => if (readHr l).isNone = true then some k else badLn (k + 1) ls
theorem badLn_at : ∀ {ls : List Str} {k : Int} {i : Nat} {l : Str}, (∀ x ∈ ls.take i, (readHr x).isSome = true) → ls[i]? = some l → readHr l = none → badLn k ls = some (k + i)
  | l :: ls, k, 0, x, _, e, h => by
    have e : l = x := by simpa using e
    subst e
    unfold badLn
    rw [if_pos (by rw [h]; rfl)]
    congr 1
    omega
  | l :: ls, k, i + 1, x, g, e, h => by
    have h1 := g l (by rw [List.take_succ_cons]; exact List.mem_cons_self)
    unfold badLn
    rw [if_neg (by rw [Option.isSome_iff_exists] at h1; obtain ⟨y, hy⟩ := h1; rw [hy]; simp), badLn_at (fun y hy => g y (by rw [List.take_succ_cons]; exact List.mem_cons_of_mem _ hy)) (by simpa using e) h]
    congr 1
    omega
  | [], k, i, x, _, e, _ => by simp at e
theorem badLn_no : ∀ {ls : List Str} {k : Int}, (∀ x ∈ ls, (readHr x).isSome = true) → badLn k ls = none
  | [], _, _ => rfl
  | l :: ls, k, g => by
    have h1 := g l List.mem_cons_self
    unfold badLn
    rw [if_neg (by rw [Option.isSome_iff_exists] at h1; obtain ⟨y, hy⟩ := h1; rw [hy]; simp)]
    exact badLn_no fun y hy => g y (List.mem_cons_of_mem _ hy)
def wkOf : Option (List (Option Int)) → Option Wk
  | some [some a, some b, some c, some d, some e] => some ⟨a, b, c, d, e⟩
  | _ => none
def readWk (l : Str) : Option Wk := wkOf (readNs "works" (Txt.split l " ") 5)
theorem readWk_no {t : Str} (h : readNs "works" (Txt.split t " ") 5 = none) : readWk t = none := by unfold readWk; rw [h]; rfl
theorem readWk_ok {t : Str} {ns : List (Option Int)} (h : readNs "works" (Txt.split t " ") 5 = some ns) : ∃ a b c d e, ns = [a, b, c, d, e].map some ∧ readWk t = some ⟨a, b, c, d, e⟩ := by
  obtain ⟨is, e, l⟩ := readNs_some h
  obtain ⟨a, b, c, d, f, rfl⟩ := five l
  refine ⟨a, b, c, d, f, e, ?_⟩
  unfold readWk
  rw [h, e]
  rfl
instance (c : Crs) : Decidable c.Ok := by unfold Crs.Ok; infer_instance
def bookR (t : Str) : Rz :=
  if Txt.endswith t "\n" = true then
    match readWk ((linesOf t).getD 0 Str.empty) with
    | none => .err 101
    | some w => match badLn 2 ((linesOf t).drop 1) with
      | some k => .err (100 + k.toNat)
      | none => if w.Ok then (if (Crs.mk (((linesOf t).drop 1).filterMap readHr)).Ok then .ok (dv (w, Crs.mk (((linesOf t).drop 1).filterMap readHr))) else .err 11) else .err 10
  else .err (100 + ((Txt.count t "\n" : Int) + 1).toNat)
theorem bookR_nl {t : Str} (h : Txt.endswith t "\n" = false) : bookR t = .err (100 + ((Txt.count t "\n" : Int) + 1).toNat) := by unfold bookR; rw [if_neg (by rw [h]; decide)]
theorem bookR_wk {t : Str} (h : Txt.endswith t "\n" = true) (w : readWk ((linesOf t).getD 0 Str.empty) = none) : bookR t = .err 101 := by unfold bookR; rw [if_pos h, w]
theorem bookR_ln {t : Str} {w : Wk} {k : Int} (h : Txt.endswith t "\n" = true) (e : readWk ((linesOf t).getD 0 Str.empty) = some w) (b : badLn 2 ((linesOf t).drop 1) = some k) : bookR t = .err (100 + k.toNat) := by
  unfold bookR; rw [if_pos h, e]; simp only; rw [b]
theorem bookR_ends {t : Str} {w : Wk} (h : Txt.endswith t "\n" = true) (e : readWk ((linesOf t).getD 0 Str.empty) = some w) (b : badLn 2 ((linesOf t).drop 1) = none) :
    bookR t = if w.Ok then (if (Crs.mk (((linesOf t).drop 1).filterMap readHr)).Ok then .ok (dv (w, Crs.mk (((linesOf t).drop 1).filterMap readHr))) else .err 11) else .err 10 := by
  unfold bookR; rw [if_pos h, e]; simp only; rw [b]
theorem initWk_if (w : Wk) : initWk (.int w.wall) (.int w.flow) (.int w.pump) (.int w.rest) (.int w.deep) = if w.Ok then .ok w.fs else .err 10 := by
  by_cases h : w.Ok
  · rw [if_pos h, initWk_ok h]
  · rw [if_neg h]
    unfold initWk
    split
    · split
      · split
        · split
          · rename_i h1 h2 h3 h4
            simp only
            rw [if_neg]
            intro z
            simp only [isWh, decide_eq_true_eq] at h1 h2 h3 h4
            exact h ⟨h1, h2, h3, h4, z.1, z.2⟩
          · rfl
        · rfl
      · rfl
    · rfl
theorem initCrs_if (hs : List Hr) : initCrs (hs.map Hr.tv) = if (Crs.mk hs).Ok then .ok (Crs.fs ⟨hs⟩) else .err 11 := by
  by_cases h : (Crs.mk hs).Ok
  · rw [if_pos h]; exact initCrs_ok h
  · rw [if_neg h]
    unfold initCrs
    rw [if_neg]
    rintro ⟨h1, h2, h3⟩
    rw [List.length_map] at h1 h2
    refine h ⟨h1, h2, fun x hx => ?_⟩
    have h4 := List.all_eq_true.mp h3 _ (List.mem_map_of_mem hx)
    by_cases c : x.Ok
    · exact c
    · rw [mkHr_not c] at h4; cases h4
theorem fm_take {ls : List Str} {i : Nat} {l : Str} {h : Hr} (e : ls[i]? = some l) (r : readHr l = some h) : (ls.take (i + 1)).filterMap readHr = (ls.take i).filterMap readHr ++ [h] := by
  rw [List.take_add_one, e, List.filterMap_append]
  show _ ++ [l].filterMap readHr = _
  rw [List.filterMap_cons_some r]
  rfl
/-! ### the book written is the book read -/
theorem join_mem {S : List Nat} {c : Nat} : ∀ {ps : List (List Nat)}, c ∈ joinL S ps → c ∈ S ∨ ∃ p ∈ ps, c ∈ p
  | [], h => nomatch h
  | [p], h => .inr ⟨p, List.mem_cons_self, h⟩
  | p :: q :: r, h => by
    have h : c ∈ p ++ (S ++ joinL S (q :: r)) := h
    rcases List.mem_append.mp h with h | h
    · exact .inr ⟨p, List.mem_cons_self, h⟩
    · rcases List.mem_append.mp h with h | h
      · exact .inl h
      · rcases join_mem h with h | ⟨x, hx, hc⟩
        · exact .inl h
        · exact .inr ⟨x, List.mem_cons_of_mem _ hx, hc⟩
theorem joinL_nil : ∀ ps : List (List Nat), joinL [] ps = ps.flatten
  | [] => rfl
  | [p] => by simp [joinL]
  | p :: q :: r => by
    show p ++ ([] ++ joinL [] (q :: r)) = _
    rw [joinL_nil (q :: r)]
    simp
theorem flat_join : ∀ ps : List (List Nat), (ps.map (· ++ [10])).flatten = joinL [10] (ps ++ [[]])
  | [] => rfl
  | [p] => by simp [joinL]
  | p :: q :: r => by
    have ih := flat_join (q :: r)
    show (p ++ [10]) ++ ((q :: r).map (· ++ [10])).flatten = p ++ ([10] ++ joinL [10] ((q :: r) ++ [[]]))
    rw [ih, List.append_assoc]
theorem tl_nl : tl ("\n" : Str) = [10] := by decide +kernel
theorem tl_sp : tl (" " : Str) = [32] := by decide +kernel
theorem tl_em : tl ("" : Str) = [] := by decide +kernel
theorem tl_book (ls : List Str) : tl (bookT ls) = joinL [10] (ls.map tl ++ [[]]) := by
  unfold bookT
  rw [join_eq, tl_join, tl_em, joinL_nil, ← flat_join, List.map_map, List.map_map]
  congr 1
  refine List.map_congr_left fun l _ => ?_
  show tl (l ++ ("\n" : Str)) = tl l ++ [10]
  rw [tl_append, tl_nl]
theorem book_eq (ls : List Str) : bookT ls = Txt.join "\n" (ls ++ [("" : Str)]) := by
  refine str_ext ?_
  rw [tl_book, join_eq, tl_join, tl_nl, List.map_append]
  show _ = joinL [10] (ls.map tl ++ [tl ("" : Str)])
  rw [tl_em]
theorem book_split {ls : List Str} (h : ∀ l ∈ ls, 10 ∉ tl l) : Txt.split (bookT ls) "\n" = ls ++ [("" : Str)] := by
  rw [book_eq]
  refine split_join (s := 10) (S := []) tl_nl (by decide +kernel) (by simp) fun p hp => ?_
  rcases List.mem_append.mp hp with hp | hp
  · exact h p hp
  · rw [List.mem_singleton.mp hp, tl_em]; exact List.not_mem_nil
theorem book_lines {ls : List Str} (h : ∀ l ∈ ls, 10 ∉ tl l) : linesOf (bookT ls) = ls := by
  unfold linesOf
  rw [book_split h, List.dropLast_concat]
theorem book_ends {ls : List Str} (h : ls ≠ []) : Txt.endswith (bookT ls) "\n" = true := by
  rw [ends_iff, len_tl, tl_book, ← flat_join]
  obtain ⟨m, l, rfl⟩ : ∃ m l, ls = m ++ [l] := ⟨_, _, (List.dropLast_concat_getLast h).symm⟩
  rw [List.map_append, List.map_append, List.flatten_append]
  simp only [List.map_cons, List.map_nil, List.flatten_cons, List.flatten_nil, List.append_nil, List.length_append, List.length_cons, List.length_nil]
  rw [← List.append_assoc, List.getElem?_append_right (by simp)]
  simp
theorem numS_free {a : Int} (h : 0 ≤ a) {s : Nat} (hs : s < 48) : s ∉ tl (strI a) := by rw [tl_strI h]; exact num_sign hs
theorem wkW_free {w : W5} (h : w.Ok) {s : Nat} (hs : s < 48) : ∀ p ∈ wkW w, s ∉ tl p := fun p hp => by
  unfold W5.Ok at h
  have e : tl ("works" : Str) = [119, 111, 114, 107, 115] := by decide +kernel
  simp only [wkW, List.mem_cons, List.not_mem_nil, or_false] at hp
  rcases hp with rfl | rfl | rfl | rfl | rfl | rfl
  · rw [e]; simp only [List.mem_cons, List.not_mem_nil, or_false]; omega
  all_goals exact numS_free (by omega) hs
theorem hrW_free {k : Hr} (h : k.Ok) {s : Nat} (hs : s < 48) : ∀ p ∈ hrW k, s ∉ tl p := fun p hp => by
  unfold Hr.Ok at h
  have e : tl ("hour" : Str) = [104, 111, 117, 114] := by decide +kernel
  have e2 : tl ("ship" : Str) = [115, 104, 105, 112] := by decide +kernel
  unfold hrW at hp
  rcases List.mem_append.mp hp with hp | hp
  · simp only [List.mem_cons, List.not_mem_nil, or_false] at hp
    rcases hp with rfl | rfl | rfl | rfl | rfl
    · rw [e]; simp only [List.mem_cons, List.not_mem_nil, or_false]; omega
    all_goals exact numS_free (by omega) hs
  · split at hp
    · rw [List.mem_singleton.mp hp, e2]; simp only [List.mem_cons, List.not_mem_nil, or_false]; omega
    · exact nomatch hp
theorem line_free {ws : List Str} (h : ∀ p ∈ ws, 10 ∉ tl p) : 10 ∉ tl (Txt.join " " ws) := fun hc => by
  rw [join_eq, tl_join, tl_sp] at hc
  rcases join_mem hc with hc | ⟨p, hp, hc⟩
  · simp at hc
  · obtain ⟨q, hq, rfl⟩ := List.mem_map.mp hp
    exact h q hq hc
theorem wkT_free {w : W5} (h : w.Ok) : 10 ∉ tl (wkT w) := line_free (wkW_free h (by decide))
theorem hrT_free {k : Hr} (h : k.Ok) : 10 ∉ tl (hrT k) := line_free (hrW_free h (by decide))
theorem wkT_split {w : W5} (h : w.Ok) : Txt.split (wkT w) " " = wkW w := split_join (s := 32) (S := []) tl_sp (by decide +kernel) (by simp [wkW]) (wkW_free h (by decide))
theorem hrT_split {k : Hr} (h : k.Ok) : Txt.split (hrT k) " " = hrW k := split_join (s := 32) (S := []) tl_sp (by decide +kernel) (by simp [hrW]) (hrW_free h (by decide))
theorem readNs_back {n : Str} {is : List Int} (h : ∀ i ∈ is, 0 ≤ i ∧ i < 1000000000) : readNs n (n :: is.map strI) (is.length : Int) = some (is.map some) := by
  have e : (is.map strI).map readN = is.map some := by
    rw [List.map_map]
    refine List.map_congr_left fun i hi => ?_
    exact readN_strI (h i hi).1 (h i hi).2
  have e2 : ∀ xs : List Int, (xs.map some).any (·.isNone) = false := fun xs => by induction xs with
    | nil => rfl
    | cons x r ih => rw [List.map_cons, List.any_cons, ih]; rfl
  unfold readNs
  rw [if_neg]
  · show some ((is.map strI).map readN) = _
    rw [e]
  · show ¬ (!decide (n = n) || (!decide ((((is.map strI).map readN).length : Int) = _) || ((is.map strI).map readN).any (·.isNone))) = true
    rw [e, List.length_map, e2]
    simp
theorem readWk_back {w : W5} (h : w.Ok) : readWk (wkT w) = some ⟨w.a, w.b, w.c, w.d, w.e⟩ := by
  have e : readNs "works" (wkW w) 5 = some ([w.a, w.b, w.c, w.d, w.e].map some) := readNs_back (n := "works") (is := [w.a, w.b, w.c, w.d, w.e]) fun i m => by
    have := w5_mem h m
    omega
  unfold readWk
  rw [wkT_split h, e]
  rfl
theorem hrShip_back (k : Hr) : hrShip (hrW k) = k.ship := by
  unfold hrShip hrW
  cases k.ship <;> simp
theorem hrWords_back (k : Hr) : hrWords (hrW k) = [("hour" : Str), strI k.sl, strI k.sh, strI k.rl, strI k.rh] := by
  unfold hrWords
  rw [hrShip_back]
  unfold hrW
  cases k.ship <;> simp
theorem readHr_back {k : Hr} (h : k.Ok) : readHr (hrT k) = some k := by
  have e : readNs "hour" ["hour", strI k.sl, strI k.sh, strI k.rl, strI k.rh] 4 = some ([k.sl, k.sh, k.rl, k.rh].map some) := readNs_back (n := "hour") (is := [k.sl, k.sh, k.rl, k.rh]) fun i m => by
    have := h4_mem h m
    omega
  unfold readHr
  rw [hrT_split h, hrWords_back, hrShip_back, e]
  rfl
theorem fm_back {hs : List Hr} (h : ∀ k ∈ hs, k.Ok) : (hs.map hrT).filterMap readHr = hs := by
  induction hs with
  | nil => rfl
  | cons x r ih => rw [List.map_cons, List.filterMap_cons_some (readHr_back (h x List.mem_cons_self)), ih fun k hk => h k (List.mem_cons_of_mem _ hk)]
theorem bookR_back {w : W5} {hs : List Hr} (hw : w.Ok) (hc : (Crs.mk hs).Ok) : bookR (bookT (wkT w :: hs.map hrT)) = .ok (dv (Wk.mk w.a w.b w.c w.d w.e, Crs.mk hs)) := by
  have hf : ∀ l ∈ wkT w :: hs.map hrT, 10 ∉ tl l := fun l hl => by
    rcases List.mem_cons.mp hl with rfl | hl
    · exact wkT_free hw
    · obtain ⟨k, hk, rfl⟩ := List.mem_map.mp hl
      exact hrT_free (hc.2.2 k hk)
  have el := book_lines hf
  have e1 : readWk ((linesOf (bookT (wkT w :: hs.map hrT))).getD 0 Str.empty) = some ⟨w.a, w.b, w.c, w.d, w.e⟩ := by rw [el]; exact readWk_back hw
  have e2 : (linesOf (bookT (wkT w :: hs.map hrT))).drop 1 = hs.map hrT := by rw [el]; rfl
  rw [bookR_ends (book_ends (by simp)) e1 (badLn_no fun x hx => ?_), e2, fm_back hc.2.2, if_pos, if_pos hc]
  · unfold W5.Ok at hw
    unfold Wk.Ok
    dsimp only
    omega
  · rw [e2] at hx
    obtain ⟨k, hk, rfl⟩ := List.mem_map.mp hx
    rw [readHr_back (hc.2.2 k hk)]; rfl
/-- signs of a book are signs -/
theorem ok_app {x y : Str} (hx : PyData.strOk x = true) (hy : PyData.strOk y = true) : PyData.strOk (x ++ y) = true := by rw [str_okA, hx, hy]; rfl
theorem ok_join {s : Str} {ps : List Str} (hs : PyData.strOk s = true) (h : ∀ p ∈ ps, PyData.strOk p = true) : PyData.strOk (Txt.join s ps) = true := strOk_tl.mpr fun c hc => by
  rw [join_eq, tl_join] at hc
  rcases join_mem hc with hc | ⟨p, hp, hc⟩
  · exact strOk_tl.mp hs c hc
  · obtain ⟨q, hq, rfl⟩ := List.mem_map.mp hp
    exact strOk_tl.mp (h q hq) c hc
theorem wkT_ok {w : W5} (h : w.Ok) : PyData.strOk (wkT w) = true := ok_join (by decide +kernel) fun p hp => by
  unfold W5.Ok at h
  simp only [wkW, List.mem_cons, List.not_mem_nil, or_false] at hp
  rcases hp with rfl | rfl | rfl | rfl | rfl | rfl
  · decide +kernel
  all_goals exact str_okI (by omega)
theorem hrT_ok {k : Hr} (h : k.Ok) : PyData.strOk (hrT k) = true := ok_join (by decide +kernel) fun p hp => by
  unfold Hr.Ok at h
  unfold hrW at hp
  rcases List.mem_append.mp hp with hp | hp
  · simp only [List.mem_cons, List.not_mem_nil, or_false] at hp
    rcases hp with rfl | rfl | rfl | rfl | rfl
    · decide +kernel
    all_goals exact str_okI (by omega)
  · split at hp
    · rw [List.mem_singleton.mp hp]; decide +kernel
    · exact nomatch hp
theorem bookT_ok {ls : List Str} (h : ∀ l ∈ ls, PyData.strOk l = true) : PyData.strOk (bookT ls) = true := ok_join (by decide +kernel) fun p hp => by
  obtain ⟨l, hl, rfl⟩ := List.mem_map.mp hp
  exact ok_app (h l hl) (by decide +kernel)
theorem book_ok {w : W5} {hs : List Hr} (hw : w.Ok) (h : ∀ k ∈ hs, k.Ok) : PyData.strOk (bookT (wkT w :: hs.map hrT)) = true := bookT_ok fun l hl => by
  rcases List.mem_cons.mp hl with rfl | hl
  · exact wkT_ok hw
  · obtain ⟨k, hk, rfl⟩ := List.mem_map.mp hl
    exact hrT_ok (h k hk)
theorem bookT_len {ls : List Str} {n : Nat} (h : ∀ l ∈ ls, l.length ≤ n) : (bookT ls).length ≤ ls.length * (n + 1) := by
  have e : (bookT ls).length = ((ls.map fun l : Str => l ++ ("\n" : Str)).map (·.length)).sum := by
    unfold bookT
    rw [join_eq, len_tl, tl_join, tl_em, joinL_nil, List.length_flatten, List.map_map, List.map_map, List.map_map]
    congr 1
  rw [e]
  have h1 := sum_le (ys := ls.map fun l : Str => l ++ ("\n" : Str)) (n := n + 1) fun y hy => by
    obtain ⟨l, hl, rfl⟩ := List.mem_map.mp hy
    have := h l hl
    rw [Str.length_append, l_nl]; omega
  rwa [List.length_map] at h1
theorem book_len {w : W5} {hs : List Hr} (hw : w.Ok) (hh : ∀ k ∈ hs, k.Ok) (hl : hs.length ≤ 72) : (bookT (wkT w :: hs.map hrT)).length ≤ 9000 := by
  have h1 := bookT_len (lines_len hw hh)
  rw [List.length_cons, List.length_map] at h1
  omega
instance : Dt W5 := ⟨fun h => .tuple [.int h.a, .int h.b, .int h.c, .int h.d, .int h.e], 1, fun {G H v x} ⟨p, vs, e1, e2, e3⟩ => by
    subst e1
    match vs, e3 with
    | [_, _, _, _, _], e3 => exact .tup (SqT.of e2) (.cons (Dt.rp (x := x.a) e3.1) (.cons (Dt.rp (x := x.b) e3.2.1) (.cons (Dt.rp (x := x.c) e3.2.2.1) (.cons (Dt.rp (x := x.d) e3.2.2.2.1) (.cons (Dt.rp (x := x.e) e3.2.2.2.2.1) .nil))))),
  fun _ => rfl, fun _ => Nat.le_refl _, fun x y => by
    show (x.a == y.a && (x.b == y.b && (x.c == y.c && (x.d == y.d && (x.e == y.e && true))))) = true ↔ _
    cases x; cases y; simp⟩
theorem wk_of5 {w : W5} (h : w.Ok) : (Wk.mk w.a w.b w.c w.d w.e).Ok := by
  unfold W5.Ok at h
  unfold Wk.Ok
  dsimp only
  omega
theorem rep_ok {hs : List Hr} {n : Int} (hl : 1 ≤ hs.length ∧ hs.length ≤ 12) (ho : ∀ h ∈ hs, h.Ok) (hn : 1 ≤ n ∧ n ≤ 6) : 1 ≤ (List.replicate n.toNat hs).flatten.length ∧ (List.replicate n.toNat hs).flatten.length ≤ 72 ∧ ∀ h ∈ (List.replicate n.toNat hs).flatten, h.Ok := by
  have e : (List.replicate n.toNat hs).flatten.length = n.toNat * hs.length := by simp
  have h1 : 1 ≤ n.toNat ∧ n.toNat ≤ 6 := by omega
  refine ⟨?_, ?_, fun h m => ?_⟩
  · rw [e]; exact Nat.mul_pos h1.1 hl.1
  · rw [e]; exact Nat.mul_le_mul h1.2 hl.2
  · obtain ⟨l, hm, hh⟩ := List.mem_flatten.mp m
    rw [(List.mem_replicate.mp hm).2] at hh
    exact ho h hh
end Sk

set_option maxHeartbeats 4000000
namespace Sk
open PySem L2 PyProof.Rows Rk
def top (i : Nat) : Stmt := PySem.Challenge.pw_surgekept_k61_whole_books_come_back.main.body.getD i (.Pass ⟨0, 0, 0, 0⟩)
abbrev s_is_whole : Stmt := top 14
theorem sc_is_whole : FnScope ["value", "least", "most"] ["value", "least", "most"] (defScope s_is_whole) := ⟨rfl, rfl, rfl, by decide +kernel, rfl, by decide +kernel, by decide +kernel⟩
abbrev s_check_works_number : Stmt := top 17
theorem sc_check_works_number : FnScope ["name", "value", "least", "most"] ["name", "value", "least", "most"] (defScope s_check_works_number) := ⟨rfl, rfl, rfl, by decide +kernel, rfl, by decide +kernel, by decide +kernel⟩
abbrev s_check_bounds : Stmt := top 19
theorem sc_check_bounds : FnScope ["low", "high"] ["low", "high"] (defScope s_check_bounds) := ⟨rfl, rfl, rfl, by decide +kernel, rfl, by decide +kernel, by decide +kernel⟩
abbrev s_check_hour : Stmt := top 18
theorem sc_check_hour : FnScope ["hour", "sea_low", "sea_high", "river_low", "river_high", "ship"] ["hour"] (defScope s_check_hour) := ⟨rfl, rfl, rfl, by decide +kernel, rfl, by decide +kernel, by decide +kernel⟩
abbrev s_Works__init : Stmt := inClass (top 15) 0
theorem sc_Works__init : FnScope ["self", "wall", "flow", "pump", "rest", "deep"] ["self", "wall", "flow", "pump", "rest", "deep"] (defScope s_Works__init) := ⟨rfl, rfl, rfl, by decide +kernel, rfl, by decide +kernel, by decide +kernel⟩
abbrev s_Course__init : Stmt := inClass (top 16) 0
theorem sc_Course__init : FnScope ["self", "hours", "hour"] ["self", "hours"] (defScope s_Course__init) := ⟨rfl, rfl, rfl, by decide +kernel, rfl, by decide +kernel, by decide +kernel⟩
abbrev s_Course_count : Stmt := inClass (top 16) 1
theorem sc_Course_count : FnScope ["self"] ["self"] (defScope s_Course_count) := ⟨rfl, rfl, rfl, by decide +kernel, rfl, by decide +kernel, by decide +kernel⟩
abbrev s_law_state : Stmt := top 32
theorem sc_law_state : FnScope ["script", "cell"] ["script"] (defScope s_law_state) := ⟨rfl, rfl, rfl, by decide +kernel, rfl, by decide +kernel, by decide +kernel⟩
abbrev s_law_mixed : Stmt := top 30
theorem sc_law_mixed : FnScope ["cell", "seed", "number", "k"] ["cell"] (defScope s_law_mixed) := ⟨rfl, rfl, rfl, by decide +kernel, rfl, by decide +kernel, by decide +kernel⟩
abbrev s_law_take : Stmt := top 31
theorem sc_law_take : FnScope ["state", "limit", "cell", "digit"] ["state", "limit"] (defScope s_law_take) := ⟨rfl, rfl, rfl, by decide +kernel, rfl, by decide +kernel, by decide +kernel⟩
abbrev s_InvalidLine__init : Stmt := inClass (top 6) 0
theorem sc_InvalidLine__init : FnScope ["self", "line"] ["self", "line"] (defScope s_InvalidLine__init) := ⟨rfl, rfl, rfl, by decide +kernel, rfl, by decide +kernel, by decide +kernel⟩
abbrev s_read_number : Stmt := top 25
theorem sc_read_number : FnScope ["word"] ["word"] (defScope s_read_number) := ⟨rfl, rfl, rfl, by decide +kernel, rfl, by decide +kernel, by decide +kernel⟩
abbrev s_format_hour : Stmt := top 28
theorem sc_format_hour : FnScope ["hour", "sea_low", "sea_high", "river_low", "river_high", "ship", "bounds"] ["hour"] (defScope s_format_hour) := ⟨rfl, rfl, rfl, by decide +kernel, rfl, by decide +kernel, by decide +kernel⟩
abbrev s_hour_lines : Stmt := top 24
theorem sc_hour_lines : FnScope ["course", "hour"] ["course"] (defScope s_hour_lines) := ⟨rfl, rfl, rfl, by decide +kernel, rfl, by decide +kernel, by decide +kernel⟩
abbrev s_law_works : Stmt := top 33
theorem sc_law_works : FnScope ["state", "wall", "deep"] ["state"] (defScope s_law_works) := ⟨rfl, rfl, rfl, by decide +kernel, rfl, by decide +kernel, by decide +kernel⟩
abbrev s_law_hours : Stmt := top 34
theorem sc_law_hours : FnScope ["state", "most", "hours", "k", "low", "least", "ship"] ["state", "most"] (defScope s_law_hours) := ⟨rfl, rfl, rfl, by decide +kernel, rfl, by decide +kernel, by decide +kernel⟩
abbrev s_law_lines : Stmt := top 35
theorem sc_law_lines : FnScope ["works", "hours", "lines", "part", "hour", "line"] ["works", "hours"] (defScope s_law_lines) := ⟨rfl, rfl, rfl, by decide +kernel, rfl, by decide +kernel, by decide +kernel⟩
abbrev s_law_text : Stmt := top 36
theorem sc_law_text : FnScope ["lines", "line"] ["lines"] (defScope s_law_text) := ⟨rfl, rfl, rfl, by decide +kernel, rfl, by decide +kernel, by decide +kernel⟩
abbrev s_format_book : Stmt := top 22
theorem sc_format_book : FnScope ["works", "course", "head", "lines", "line"] ["works", "course"] (defScope s_format_book) := ⟨rfl, rfl, rfl, by decide +kernel, rfl, by decide +kernel, by decide +kernel⟩
abbrev s_law_wide : Stmt := top 39
theorem sc_law_wide : FnScope ["state", "hours", "wide", "low", "high", "least", "most", "ship", "rise"] ["state", "hours"] (defScope s_law_wide) := ⟨rfl, rfl, rfl, by decide +kernel, rfl, by decide +kernel, by decide +kernel⟩
abbrev s_read_numbers : Stmt := top 26
theorem sc_read_numbers : FnScope ["name", "words", "many", "numbers", "word"] ["name", "words", "many"] (defScope s_read_numbers) := ⟨rfl, rfl, rfl, by decide +kernel, rfl, by decide +kernel, by decide +kernel⟩
abbrev s_read_hour : Stmt := top 27
theorem sc_read_hour : FnScope ["line", "words", "ship", "numbers"] ["line"] (defScope s_read_hour) := ⟨rfl, rfl, rfl, by decide +kernel, rfl, by decide +kernel, by decide +kernel⟩
abbrev s_parse_book : Stmt := top 23
theorem sc_parse_book : FnScope ["text", "lines", "numbers", "hours", "line_number", "line", "hour", "works"] ["text"] (defScope s_parse_book) := ⟨rfl, rfl, rfl, by decide +kernel, rfl, by decide +kernel, by decide +kernel⟩
abbrev s_law : Stmt := top 40
theorem sc_law : FnScope ["script", "state", "works", "hours", "text", "told", "own", "course"] ["script"] (defScope s_law) := ⟨rfl, rfl, rfl, by decide +kernel, rfl, by decide +kernel, by decide +kernel⟩
structure Tx (w : World) (K : PySem.W.Frag) (mg : Str → Option Value) where
  nogl : NoGl mg
  cls : Nat → Addr
  gx_15 : mg "InvalidLine" = some (.ref (cls 15))
  gx_16 : mg "KeepError" = some (.ref (cls 16))
  e_InvalidWorks : ExcT K mg "InvalidWorks" (cls 10)
  e_InvalidCourse : ExcT K mg "InvalidCourse" (cls 11)
  o_line : OexC K (cls 15)
  cl_line : ∀ n : Nat, cls (100 + n) = cls 15
  f_line : PySem.W.findIn K (.ref (cls 15)) "line" = some none
  ke_ga : PySem.W.specialIn K (.ref (cls 16)) "__getattribute__" = some (some (.builtin "type.__getattribute__"))
  ke_ty : PySem.W.typeIn K (.ref (cls 16)) = some (.type "type")
  ke_rd : PySem.W.readsIn K (cls 16) (.type "type") = true
  ke_in : PySem.W.findCls K (.ref (cls 16)) (.type "type") "__init__" = some (.val (.builtin "ValueError.__init__"))
  n_abs : mg "abs" = none
  c_MOST_LEVEL : ∃ t, mg "MOST_LEVEL" = some (.int 200 t)
  c_MOST_FLOW : ∃ t, mg "MOST_FLOW" = some (.int 400 t)
  c_MOST_PUMP : ∃ t, mg "MOST_PUMP" = some (.int 400 t)
  c_MOST_REST : ∃ t, mg "MOST_REST" = some (.int 6 t)
  c_MOST_HOURS : ∃ t, mg "MOST_HOURS" = some (.int 72 t)
  c_MOST_BOUND : ∃ t, mg "MOST_BOUND" = some (.int 400 t)
  c_MOST_DIGITS : ∃ t, mg "MOST_DIGITS" = some (.int 9 t)
  cl_0 : Cls K (cls 0)
  g_Works : mg "Works" = some (.ref (cls 0))
  na_wall : NoAttr K (cls 0) "wall"
  na_flow : NoAttr K (cls 0) "flow"
  na_pump : NoAttr K (cls 0) "pump"
  na_rest : NoAttr K (cls 0) "rest"
  na_deep : NoAttr K (cls 0) "deep"
  cl_1 : Cls K (cls 1)
  g_Course : mg "Course" = some (.ref (cls 1))
  na_hours : NoAttr K (cls 1) "hours"
  a_is_whole : Addr
  fd_is_whole : FuncData
  F_is_whole : Fun K "is_whole" "is_whole" s_is_whole a_is_whole fd_is_whole
  k_is_whole : PySem.W.keepIn K (.ref a_is_whole) = true
  b_is_whole : Binds K fd_is_whole ["value", "least", "most"] []
  g_is_whole : mg "is_whole" = some (.ref a_is_whole)
  a_check_works_number : Addr
  fd_check_works_number : FuncData
  F_check_works_number : Fun K "_check_works_number" "_check_works_number" s_check_works_number a_check_works_number fd_check_works_number
  k_check_works_number : PySem.W.keepIn K (.ref a_check_works_number) = true
  b_check_works_number : Binds K fd_check_works_number ["name", "value", "least", "most"] []
  g_check_works_number : mg "_check_works_number" = some (.ref a_check_works_number)
  a_check_bounds : Addr
  fd_check_bounds : FuncData
  F_check_bounds : Fun K "_check_bounds" "_check_bounds" s_check_bounds a_check_bounds fd_check_bounds
  k_check_bounds : PySem.W.keepIn K (.ref a_check_bounds) = true
  b_check_bounds : Binds K fd_check_bounds ["low", "high"] []
  g_check_bounds : mg "_check_bounds" = some (.ref a_check_bounds)
  a_check_hour : Addr
  fd_check_hour : FuncData
  F_check_hour : Fun K "_check_hour" "_check_hour" s_check_hour a_check_hour fd_check_hour
  k_check_hour : PySem.W.keepIn K (.ref a_check_hour) = true
  b_check_hour : Binds K fd_check_hour ["hour"] []
  g_check_hour : mg "_check_hour" = some (.ref a_check_hour)
  a_Works__init : Addr
  fd_Works__init : FuncData
  F_Works__init : Fun K "__init__" "Works.__init__" s_Works__init a_Works__init fd_Works__init
  b_Works__init : Binds K fd_Works__init ["self", "wall", "flow", "pump", "rest", "deep"] []
  mk_0 : Mk K (cls 0) a_Works__init
  a_Course__init : Addr
  fd_Course__init : FuncData
  F_Course__init : Fun K "__init__" "Course.__init__" s_Course__init a_Course__init fd_Course__init
  b_Course__init : Binds K fd_Course__init ["self", "hours"] []
  mk_1 : Mk K (cls 1) a_Course__init
  a_Course_count : Addr
  fd_Course_count : FuncData
  F_Course_count : Fun K "count" "Course.count" s_Course_count a_Course_count fd_Course_count
  a_law_state : Addr
  fd_law_state : FuncData
  F_law_state : Fun K "_law_state" "_law_state" s_law_state a_law_state fd_law_state
  k_law_state : PySem.W.keepIn K (.ref a_law_state) = true
  b_law_state : Binds K fd_law_state ["script"] []
  g_law_state : mg "_law_state" = some (.ref a_law_state)
  a_law_mixed : Addr
  fd_law_mixed : FuncData
  F_law_mixed : Fun K "_law_mixed" "_law_mixed" s_law_mixed a_law_mixed fd_law_mixed
  k_law_mixed : PySem.W.keepIn K (.ref a_law_mixed) = true
  b_law_mixed : Binds K fd_law_mixed ["cell"] []
  g_law_mixed : mg "_law_mixed" = some (.ref a_law_mixed)
  a_law_take : Addr
  fd_law_take : FuncData
  F_law_take : Fun K "_law_take" "_law_take" s_law_take a_law_take fd_law_take
  k_law_take : PySem.W.keepIn K (.ref a_law_take) = true
  b_law_take : Binds K fd_law_take ["state", "limit"] []
  g_law_take : mg "_law_take" = some (.ref a_law_take)
  a_InvalidLine__init : Addr
  fd_InvalidLine__init : FuncData
  F_InvalidLine__init : Fun K "__init__" "InvalidLine.__init__" s_InvalidLine__init a_InvalidLine__init fd_InvalidLine__init
  b_InvalidLine__init : Binds K fd_InvalidLine__init ["self", "line"] []
  i_line : PySem.W.findIn K (.ref (cls 15)) "__init__" = some (some (.ref a_InvalidLine__init))
  t_line : PySem.W.typeIn K (.ref a_InvalidLine__init) = some (.type "function")
  a_read_number : Addr
  fd_read_number : FuncData
  F_read_number : Fun K "read_number" "read_number" s_read_number a_read_number fd_read_number
  k_read_number : PySem.W.keepIn K (.ref a_read_number) = true
  b_read_number : Binds K fd_read_number ["word"] []
  g_read_number : mg "read_number" = some (.ref a_read_number)
  a_format_hour : Addr
  fd_format_hour : FuncData
  F_format_hour : Fun K "_format_hour" "_format_hour" s_format_hour a_format_hour fd_format_hour
  k_format_hour : PySem.W.keepIn K (.ref a_format_hour) = true
  b_format_hour : Binds K fd_format_hour ["hour"] []
  g_format_hour : mg "_format_hour" = some (.ref a_format_hour)
  a_hour_lines : Addr
  fd_hour_lines : FuncData
  F_hour_lines : Fun K "hour_lines" "hour_lines" s_hour_lines a_hour_lines fd_hour_lines
  k_hour_lines : PySem.W.keepIn K (.ref a_hour_lines) = true
  b_hour_lines : Binds K fd_hour_lines ["course"] []
  g_hour_lines : mg "hour_lines" = some (.ref a_hour_lines)
  a_law_works : Addr
  fd_law_works : FuncData
  F_law_works : Fun K "_law_works" "_law_works" s_law_works a_law_works fd_law_works
  k_law_works : PySem.W.keepIn K (.ref a_law_works) = true
  b_law_works : Binds K fd_law_works ["state"] []
  g_law_works : mg "_law_works" = some (.ref a_law_works)
  a_law_hours : Addr
  fd_law_hours : FuncData
  F_law_hours : Fun K "_law_hours" "_law_hours" s_law_hours a_law_hours fd_law_hours
  k_law_hours : PySem.W.keepIn K (.ref a_law_hours) = true
  b_law_hours : Binds K fd_law_hours ["state", "most"] []
  g_law_hours : mg "_law_hours" = some (.ref a_law_hours)
  a_law_lines : Addr
  fd_law_lines : FuncData
  F_law_lines : Fun K "_law_lines" "_law_lines" s_law_lines a_law_lines fd_law_lines
  k_law_lines : PySem.W.keepIn K (.ref a_law_lines) = true
  b_law_lines : Binds K fd_law_lines ["works", "hours"] []
  g_law_lines : mg "_law_lines" = some (.ref a_law_lines)
  a_law_text : Addr
  fd_law_text : FuncData
  F_law_text : Fun K "_law_text" "_law_text" s_law_text a_law_text fd_law_text
  k_law_text : PySem.W.keepIn K (.ref a_law_text) = true
  b_law_text : Binds K fd_law_text ["lines"] []
  g_law_text : mg "_law_text" = some (.ref a_law_text)
  a_format_book : Addr
  fd_format_book : FuncData
  F_format_book : Fun K "format_book" "format_book" s_format_book a_format_book fd_format_book
  k_format_book : PySem.W.keepIn K (.ref a_format_book) = true
  b_format_book : Binds K fd_format_book ["works", "course"] []
  g_format_book : mg "format_book" = some (.ref a_format_book)
  a_law_wide : Addr
  fd_law_wide : FuncData
  F_law_wide : Fun K "_law_wide" "_law_wide" s_law_wide a_law_wide fd_law_wide
  k_law_wide : PySem.W.keepIn K (.ref a_law_wide) = true
  b_law_wide : Binds K fd_law_wide ["state", "hours"] []
  g_law_wide : mg "_law_wide" = some (.ref a_law_wide)
  a_read_numbers : Addr
  fd_read_numbers : FuncData
  F_read_numbers : Fun K "_read_numbers" "_read_numbers" s_read_numbers a_read_numbers fd_read_numbers
  k_read_numbers : PySem.W.keepIn K (.ref a_read_numbers) = true
  b_read_numbers : Binds K fd_read_numbers ["name", "words", "many"] []
  g_read_numbers : mg "_read_numbers" = some (.ref a_read_numbers)
  a_read_hour : Addr
  fd_read_hour : FuncData
  F_read_hour : Fun K "_read_hour" "_read_hour" s_read_hour a_read_hour fd_read_hour
  k_read_hour : PySem.W.keepIn K (.ref a_read_hour) = true
  b_read_hour : Binds K fd_read_hour ["line"] []
  g_read_hour : mg "_read_hour" = some (.ref a_read_hour)
  a_parse_book : Addr
  fd_parse_book : FuncData
  F_parse_book : Fun K "parse_book" "parse_book" s_parse_book a_parse_book fd_parse_book
  k_parse_book : PySem.W.keepIn K (.ref a_parse_book) = true
  b_parse_book : Binds K fd_parse_book ["text"] []
  g_parse_book : mg "parse_book" = some (.ref a_parse_book)
  a_law : Addr
  fd_law : FuncData
  F_law : Fun K "law" "law" s_law a_law fd_law
section
variable {PP : Program} {w : World} {K : PySem.W.Frag} {mg : Str → Option Value} {base : Heap}
/-! is_whole -/
def S_is_whole : Pm := fun ds r => ∃ (v_ : V) (lo_ hi_ : Int), ds = [dv v_, dv lo_, dv hi_] ∧ (scl v_) ∧ r = .ok (dv (isWh v_ lo_ hi_))
theorem ok_is_whole (T : Tx w K mg) : FnOk PP w K mg base (L2.CX PP w) 1 T.a_is_whole T.fd_is_whole ["value", "least", "most"] (spOf K T.cls S_is_whole) := by
  refine fn_ok T.F_is_whole sc_is_whole (fun ds r h => by obtain ⟨v_, lo_, hi_, rfl, _⟩ := h; rfl) fun cd A outer s H E hs ds r hr h => ?_
  obtain ⟨v_, lo_, hi_, rfl, p1, rfl⟩ := h
  obtain ⟨t_, ht_⟩ := p1
  have cases_ : (∃ i, v_ = V.int i) ∨ (∃ k r1, tyS v_ = some k ∧ kitB k "int" = some r1 ∧ isWh v_ lo_ hi_ = false ∧ (r1 = true → ∃ b, v_ = V.bl b)) := by
    cases v_ with
    | int i => exact .inl ⟨i, rfl⟩
    | bl b => exact .inr ⟨_, true, rfl, by decide +kernel, rfl, fun _ => ⟨b, rfl⟩⟩
    | non => exact .inr ⟨_, false, rfl, by decide +kernel, rfl, fun h => (by cases h)⟩
    | str x => exact .inr ⟨_, false, rfl, by decide +kernel, rfl, fun h => (by cases h)⟩
    | byt x => cases ht_
    | flt x => cases ht_
    | ref x => cases ht_
    | ty x => cases ht_
  rcases cases_ with ⟨i, rfl⟩ | ⟨k, r1, e1, e2, e3, e4⟩
  · refine ks_one (s_ret (α := Bool) ?_)
    refine' k_andD _ ?_; rotate_left
    refine k_isV (T := "int") T.nogl (T.nogl _ (by simp)) (by decide +kernel) ?_
    refine k_var 0 rfl rfl ?_
    refine ⟨_, true, rfl, by decide +kernel, ?_⟩
    refine ⟨fun _ => ?_, ?_⟩
    · refine' k_andD _ ?_; rotate_left
      refine k_not ?_
      refine k_isV (T := "bool") T.nogl (T.nogl _ (by simp)) (by decide +kernel) ?_
      refine k_var 0 rfl rfl ?_
      refine ⟨_, false, rfl, by decide +kernel, ?_⟩
      refine ⟨fun _ => ?_, ?_⟩
      · refine k_one ?_
        refine' k_leleD _ ?_; rotate_left
        refine k_var 1 rfl rfl ?_
        refine k_cv (α := V) ?_
        refine k_var 0 rfl rfl ?_
        refine ⟨i, fun _ _ _ r => r, ?_⟩
        refine ⟨?_, ?_⟩
        · refine k_var 2 rfl rfl ?_
          exact rfl
        exact rfl
      exact rfl
    exact congrArg (fun b => Rz.ok (dv b)) (by show decide _ = (true && (!false && decide _)); simp)
  · refine ks_one (s_ret (α := Bool) ?_)
    refine' k_andD false ?_
    refine k_isV (T := "int") T.nogl (T.nogl _ (by simp)) (by decide +kernel) ?_
    refine k_var 0 rfl rfl ?_
    refine ⟨_, _, e1, e2, ?_⟩
    refine ⟨fun h => ?_, ?_⟩
    · obtain ⟨b, rfl⟩ := e4 h
      refine' k_andD false ?_
      refine k_not ?_
      refine k_isV (T := "bool") T.nogl (T.nogl _ (by simp)) (by decide +kernel) ?_
      refine k_var 0 rfl rfl ?_
      refine ⟨_, true, rfl, by decide +kernel, ?_⟩
      exact ⟨fun h => (by cases h), rfl⟩
    exact congrArg (fun b => Rz.ok (dv b)) (by rw [e3]; simp)
/-! _check_works_number -/
def S_check_works_number : Pm := fun ds r => ∃ (n_ : Str) (v_ : V) (lo_ hi_ : Int), ds = [dv n_, dv v_, dv lo_, dv hi_] ∧ (n_.length ≤ 100) ∧ (scl v_) ∧ (lo_.natAbs < 1000000) ∧ (hi_.natAbs < 1000000) ∧ r = (if isWh v_ lo_ hi_ = true then .ok (dv ()) else .err 10)
theorem ok_check_works_number (T : Tx w K mg) : FnOk PP w K mg base (L2.CX PP w) 2 T.a_check_works_number T.fd_check_works_number ["name", "value", "least", "most"] (spOf K T.cls S_check_works_number) := by
  refine fn_ok T.F_check_works_number sc_check_works_number (fun ds r h => by obtain ⟨n_, v_, lo_, hi_, rfl, _⟩ := h; rfl) fun cd A outer s H E hs ds r hr h => ?_
  obtain ⟨n_, v_, lo_, hi_, rfl, p1, p2, p3, p4, rfl⟩ := h
  show KSs _ ([.sh (dv n_), .sh (dv v_), .sh (dv lo_), .sh (dv hi_)] : List Ent) _ _
  refine ks_one (s_if ?_)
  refine t_not ?_
  refine t_val ?_
  refine k_call (ok_is_whole T) (hr.mono (by decide)) T.g_is_whole T.k_is_whole T.b_is_whole ?_
  refine a_cons (α := V) ?_
  refine k_var 1 rfl rfl ?_
  refine a_cons (α := Int) ?_
  refine k_var 2 rfl rfl ?_
  refine a_cons (α := Int) ?_
  refine k_var 3 rfl rfl ?_
  refine a_nil ?_
  refine ⟨_, ⟨_, _, _, rfl, p2, rfl⟩, Got.ok ?_⟩
  refine ifNB (fun h1 => ?_) (fun h1 => ?_)
  · skip
    refine ks_one (s_raise (cn := 10) T.e_InvalidWorks ?_)
    refine k_join ?_ (by decide)
    refine k_lit (by decide) ?_
    refine k_fmtS ?_
    refine k_var 0 rfl rfl ?_
    refine ⟨by assumption, ?_⟩
    refine k_lit (by decide) ?_
    refine k_fmtI ?_
    refine k_var 2 rfl rfl ?_
    refine ⟨p3, ?_⟩
    refine k_lit (by decide) ?_
    refine k_fmtI ?_
    refine k_var 3 rfl rfl ?_
    refine ⟨p4, ?_⟩
    show (_ : Rz) = _
    exact if_neg (by rw [h1]; decide)
  · skip
    refine ks_nil ?_
    show (_ : Rz) = _
    exact if_pos h1
/-! _check_bounds -/
def S_check_bounds : Pm := fun ds r => ∃ (lo_ hi_ : V), ds = [dv lo_, dv hi_] ∧ (scl lo_) ∧ (scl hi_) ∧ r = (if bndOk lo_ hi_ = true then .ok (dv ()) else .err 11)
theorem ok_check_bounds (T : Tx w K mg) : FnOk PP w K mg base (L2.CX PP w) 2 T.a_check_bounds T.fd_check_bounds ["low", "high"] (spOf K T.cls S_check_bounds) := by
  refine fn_ok T.F_check_bounds sc_check_bounds (fun ds r h => by obtain ⟨lo_, hi_, rfl, _⟩ := h; rfl) fun cd A outer s H E hs ds r hr h => ?_
  obtain ⟨lo_, hi_, rfl, p1, p2, rfl⟩ := h
  show KSs _ ([.sh (dv lo_), .sh (dv hi_)] : List Ent) _ _
  refine ks_one (s_if ?_)
  refine t_w ?_
  refine w_orD (!bndOk lo_ hi_) ?_
  refine t_not ?_
  refine t_val ?_
  refine k_call (ok_is_whole T) (hr.mono (by decide)) T.g_is_whole T.k_is_whole T.b_is_whole ?_
  refine a_cons (α := V) ?_
  refine k_var 1 rfl rfl ?_
  refine a_cons (α := Int) ?_
  refine k_int ?_
  refine a_cons (α := Int) ?_
  refine k_gint T.c_MOST_BOUND ?_
  refine a_nil ?_
  refine ⟨_, ⟨_, _, _, rfl, p2, rfl⟩, Got.ok ?_⟩
  refine ⟨fun hb1 => ?_, ?_⟩
  · skip
    obtain ⟨h_, eh_, h0_, h4_⟩ := isWh_int (by simpa using hb1)
    refine w_or1 ?_
    refine t_not ?_
    refine t_val ?_
    refine k_call (ok_is_whole T) (hr.mono (by decide)) T.g_is_whole T.k_is_whole T.b_is_whole ?_
    refine a_cons (α := V) ?_
    refine k_var 0 rfl rfl ?_
    refine a_cons (α := Int) ?_
    refine k_int ?_
    refine a_cons (α := Int) ?_
    refine k_cv (α := V) ?_
    refine k_var 1 rfl rfl ?_
    refine ⟨_, cv_vi (by assumption), ?_⟩
    refine a_nil ?_
    refine ⟨_, ⟨_, _, _, rfl, p1, rfl⟩, Got.ok ?_⟩
    exact (by rw [eh_]; simp [bndOk, h0_, h4_])
  refine ifB (fun h1 => ?_) (fun h1 => ?_)
  · skip
    refine ks_one (s_raise (cn := 11) T.e_InvalidCourse ?_)
    refine k_join ?_ (by decide)
    refine k_lit (by decide) ?_
    refine k_fmtI ?_
    refine k_gint T.c_MOST_BOUND ?_
    refine ⟨by omega, ?_⟩
    refine k_lit (by decide) ?_
    show (_ : Rz) = _
    exact if_neg (fun z => by rw [z, bnd_wh z] at h1; cases h1)
  · skip
    refine ks_nil ?_
    show (_ : Rz) = _
    exact if_pos (by simp at h1; exact h1.2)
/-! _check_hour -/
def S_check_hour : Pm := fun ds r => ∃ (t_ : Tv), ds = [dv t_] ∧ (∀ v ∈ t_.vs, scl v) ∧ r = (if (mkHr t_).isSome = true then .ok (dv ()) else .err 11)
theorem ok_check_hour (T : Tx w K mg) : FnOk PP w K mg base (L2.CX PP w) 3 T.a_check_hour T.fd_check_hour ["hour"] (spOf K T.cls S_check_hour) := by
  refine fn_ok T.F_check_hour sc_check_hour (fun ds r h => by obtain ⟨t_, rfl, _⟩ := h; rfl) fun cd A outer s H E hs ds r hr h => ?_
  obtain ⟨t_, rfl, p1, rfl⟩ := h
  show KSs _ ([.sh (dv t_), .no, .no, .no, .no, .no] : List Ent) _ _
  refine ks_cons (s_if ?_)
  refine t_w ?_
  refine' w_orD _ ?_; rotate_left
  refine t_not ?_
  refine t_val ?_
  refine k_isTup (α := Tv) (ds := Tv.ds) T.nogl ?_
  refine k_var 0 rfl rfl ?_
  refine ⟨fun hb1 => ?_, ?_⟩
  · skip
    refine w_or1 ?_
    refine t_ne (α := Int) ?_
    refine k_lenT (α := Tv) (ds := Tv.ds) T.nogl ?_
    refine k_var 0 rfl rfl ?_
    refine k_int ?_
    exact rfl
  refine ifB (fun h1 => ?_) (fun h1 => ?_)
  · skip
    refine ks_one (s_raise (cn := 11) T.e_InvalidCourse ?_)
    refine k_str ?_
    show (_ : Rz) = _
    exact if_neg (by rw [no5 h1]; decide)
  · skip
    obtain ⟨a_, b_, c_, d_, e_, rfl⟩ := tv5 h1
    have sa_ := p1 a_ (by simp)
    have sb_ := p1 b_ (by simp)
    have sc_ := p1 c_ (by simp)
    have sd_ := p1 d_ (by simp)
    have se_ := p1 e_ (by simp)
    refine ks_conv 0 (T5v.mk a_ b_ c_ d_ e_) rfl (cv_t5 a_ b_ c_ d_ e_) ?_
    show KSs _ ([.sh (dv (T5v.mk a_ b_ c_ d_ e_)), .no, .no, .no, .no, .no] : List Ent) _ _
    refine ks_nil ?_
    show KSs _ ([.sh (dv (T5v.mk a_ b_ c_ d_ e_)), .no, .no, .no, .no, .no] : List Ent) _ _
    refine ks_cons (s_lets (α := T5v) (ds := T5v.ds) [1, 2, 3, 4, 5] (pgs_cons (pg_name (i := 1) sc_check_hour.nd rfl (by first | exact .inl rfl | exact .inr rfl)) (pgs_cons (pg_name (i := 2) sc_check_hour.nd rfl (by first | exact .inl rfl | exact .inr rfl)) (pgs_cons (pg_name (i := 3) sc_check_hour.nd rfl (by first | exact .inl rfl | exact .inr rfl)) (pgs_cons (pg_name (i := 4) sc_check_hour.nd rfl (by first | exact .inl rfl | exact .inr rfl)) (pgs_cons (pg_name (i := 5) sc_check_hour.nd rfl (by first | exact .inl rfl | exact .inr rfl)) (pgs_nil)))))) (fun _ => rfl) ?_)
    refine k_var 0 rfl rfl ?_
    intro z_ ez_; subst z_
    show KSs _ ([.sh (dv (T5v.mk a_ b_ c_ d_ e_)), .sh (dv a_), .sh (dv b_), .sh (dv c_), .sh (dv d_), .sh (dv e_)] : List Ent) _ _
    refine ks_cons (s_expr (α := Unit) ?_)
    refine k_call (ok_check_bounds T) (hr.mono (by decide)) T.g_check_bounds T.k_check_bounds T.b_check_bounds ?_
    refine a_cons (α := V) ?_
    refine k_var 1 rfl rfl ?_
    refine a_cons (α := V) ?_
    refine k_var 2 rfl rfl ?_
    refine a_nil ?_
    refine ⟨_, ⟨_, _, rfl, sa_, sb_, rfl⟩, ?_⟩
    refine Got.ite (fun c1 => ?_) (fun c1 => ?_)
    rotate_left
    · exact (show (if (mkHr ⟨[a_, b_, c_, d_, e_]⟩).isSome = true then Rz.ok (dv ()) else Rz.err 11) = Rz.err 11 from if_neg (by rw [mkHr_isSome]; simp at c1; simp [c1]))
    refine Got.ok ?_
    show KSs _ ([.sh (dv (T5v.mk a_ b_ c_ d_ e_)), .sh (dv a_), .sh (dv b_), .sh (dv c_), .sh (dv d_), .sh (dv e_)] : List Ent) _ _
    show KSs _ ([.sh (dv (T5v.mk a_ b_ c_ d_ e_)), .sh (dv a_), .sh (dv b_), .sh (dv c_), .sh (dv d_), .sh (dv e_)] : List Ent) _ _
    refine ks_cons (s_expr (α := Unit) ?_)
    refine k_call (ok_check_bounds T) (hr.mono (by decide)) T.g_check_bounds T.k_check_bounds T.b_check_bounds ?_
    refine a_cons (α := V) ?_
    refine k_var 3 rfl rfl ?_
    refine a_cons (α := V) ?_
    refine k_var 4 rfl rfl ?_
    refine a_nil ?_
    refine ⟨_, ⟨_, _, rfl, sc_, sd_, rfl⟩, ?_⟩
    refine Got.ite (fun c2 => ?_) (fun c2 => ?_)
    rotate_left
    · exact (show (if (mkHr ⟨[a_, b_, c_, d_, e_]⟩).isSome = true then Rz.ok (dv ()) else Rz.err 11) = Rz.err 11 from if_neg (by rw [mkHr_isSome]; simp at c2; simp [c2]))
    refine Got.ok ?_
    show KSs _ ([.sh (dv (T5v.mk a_ b_ c_ d_ e_)), .sh (dv a_), .sh (dv b_), .sh (dv c_), .sh (dv d_), .sh (dv e_)] : List Ent) _ _
    show KSs _ ([.sh (dv (T5v.mk a_ b_ c_ d_ e_)), .sh (dv a_), .sh (dv b_), .sh (dv c_), .sh (dv d_), .sh (dv e_)] : List Ent) _ _
    refine ks_one (s_if ?_)
    refine t_not ?_
    refine t_val ?_
    refine k_isV (T := "bool") T.nogl (T.nogl _ (by simp)) (by decide +kernel) ?_
    refine k_var 5 rfl rfl ?_
    obtain ⟨k_, k1_, k2_⟩ := kb se_
    refine ⟨_, _, k1_, k2_, ?_⟩
    refine ifNB (fun h2 => ?_) (fun h2 => ?_)
    · skip
      refine ks_one (s_raise (cn := 11) T.e_InvalidCourse ?_)
      refine k_str ?_
      show (_ : Rz) = _
      exact if_neg (by rw [mkHr_isSome, h2]; simp)
    · skip
      refine ks_nil ?_
      show (_ : Rz) = _
      exact if_pos (by rw [mkHr_isSome, c1, c2, h2]; rfl)
/-! Works.__init__ -/
def S_Works__init : List DV → Ri → Prop := fun ds r => ∃ (a_ b_ c_ d_ e_ : V), ds = [dv a_, dv b_, dv c_, dv d_, dv e_] ∧ (scl a_) ∧ (scl b_) ∧ (scl c_) ∧ (scl d_) ∧ (scl e_) ∧ r = initWk a_ b_ c_ d_ e_
theorem ok_Works__init (T : Tx w K mg) : FnOk PP w K mg base (L2.CX PP w) 3 T.a_Works__init T.fd_Works__init ["self", "wall", "flow", "pump", "rest", "deep"] (spInit K T.cls 0 S_Works__init) := by
  refine init_ok T.F_Works__init sc_Works__init (fun ds r h => by obtain ⟨a_, b_, c_, d_, e_, rfl, _⟩ := h; rfl) fun cd A outer s H B E hs p_ ds r hr h => ?_
  obtain ⟨a_, b_, c_, d_, e_, rfl, p1, p2, p3, p4, p5, rfl⟩ := h
  show KSs _ ([(.ow (oobj p_ 0 [])), .sh (dv a_), .sh (dv b_), .sh (dv c_), .sh (dv d_), .sh (dv e_)] : List Ent) _ _
  refine ks_cons (s_expr (α := Unit) ?_)
  refine k_call (ok_check_works_number T) (hr.mono (by decide)) T.g_check_works_number T.k_check_works_number T.b_check_works_number ?_
  refine a_cons (α := Str) ?_
  refine k_str ?_
  refine a_cons (α := V) ?_
  refine k_var 1 rfl rfl ?_
  refine a_cons (α := Int) ?_
  refine k_int ?_
  refine a_cons (α := Int) ?_
  refine k_gint T.c_MOST_LEVEL ?_
  refine a_nil ?_
  refine ⟨_, ⟨_, _, _, _, rfl, by decide, p1, by decide, by decide, rfl⟩, ?_⟩
  refine Got.ite (fun c1 => ?_) (fun c1 => ?_)
  rotate_left
  · exact (show initWk a_ b_ c_ d_ e_ = Ri.err 10 from by unfold initWk; simp [c1])
  refine Got.ok ?_
  show KSs _ ([(.ow (oobj p_ 0 [])), .sh (dv a_), .sh (dv b_), .sh (dv c_), .sh (dv d_), .sh (dv e_)] : List Ent) _ _
  show KSs _ ([(.ow (oobj p_ 0 [])), .sh (dv a_), .sh (dv b_), .sh (dv c_), .sh (dv d_), .sh (dv e_)] : List Ent) _ _
  refine ks_cons (s_expr (α := Unit) ?_)
  refine k_call (ok_check_works_number T) (hr.mono (by decide)) T.g_check_works_number T.k_check_works_number T.b_check_works_number ?_
  refine a_cons (α := Str) ?_
  refine k_str ?_
  refine a_cons (α := V) ?_
  refine k_var 2 rfl rfl ?_
  refine a_cons (α := Int) ?_
  refine k_int ?_
  refine a_cons (α := Int) ?_
  refine k_gint T.c_MOST_FLOW ?_
  refine a_nil ?_
  refine ⟨_, ⟨_, _, _, _, rfl, by decide, p2, by decide, by decide, rfl⟩, ?_⟩
  refine Got.ite (fun c2 => ?_) (fun c2 => ?_)
  rotate_left
  · exact (show initWk a_ b_ c_ d_ e_ = Ri.err 10 from by unfold initWk; simp [c1, c2])
  refine Got.ok ?_
  show KSs _ ([(.ow (oobj p_ 0 [])), .sh (dv a_), .sh (dv b_), .sh (dv c_), .sh (dv d_), .sh (dv e_)] : List Ent) _ _
  show KSs _ ([(.ow (oobj p_ 0 [])), .sh (dv a_), .sh (dv b_), .sh (dv c_), .sh (dv d_), .sh (dv e_)] : List Ent) _ _
  refine ks_cons (s_expr (α := Unit) ?_)
  refine k_call (ok_check_works_number T) (hr.mono (by decide)) T.g_check_works_number T.k_check_works_number T.b_check_works_number ?_
  refine a_cons (α := Str) ?_
  refine k_str ?_
  refine a_cons (α := V) ?_
  refine k_var 3 rfl rfl ?_
  refine a_cons (α := Int) ?_
  refine k_int ?_
  refine a_cons (α := Int) ?_
  refine k_gint T.c_MOST_PUMP ?_
  refine a_nil ?_
  refine ⟨_, ⟨_, _, _, _, rfl, by decide, p3, by decide, by decide, rfl⟩, ?_⟩
  refine Got.ite (fun c3 => ?_) (fun c3 => ?_)
  rotate_left
  · exact (show initWk a_ b_ c_ d_ e_ = Ri.err 10 from by unfold initWk; simp [c1, c2, c3])
  refine Got.ok ?_
  show KSs _ ([(.ow (oobj p_ 0 [])), .sh (dv a_), .sh (dv b_), .sh (dv c_), .sh (dv d_), .sh (dv e_)] : List Ent) _ _
  show KSs _ ([(.ow (oobj p_ 0 [])), .sh (dv a_), .sh (dv b_), .sh (dv c_), .sh (dv d_), .sh (dv e_)] : List Ent) _ _
  refine ks_cons (s_expr (α := Unit) ?_)
  refine k_call (ok_check_works_number T) (hr.mono (by decide)) T.g_check_works_number T.k_check_works_number T.b_check_works_number ?_
  refine a_cons (α := Str) ?_
  refine k_str ?_
  refine a_cons (α := V) ?_
  refine k_var 4 rfl rfl ?_
  refine a_cons (α := Int) ?_
  refine k_int ?_
  refine a_cons (α := Int) ?_
  refine k_gint T.c_MOST_REST ?_
  refine a_nil ?_
  refine ⟨_, ⟨_, _, _, _, rfl, by decide, p4, by decide, by decide, rfl⟩, ?_⟩
  refine Got.ite (fun c4 => ?_) (fun c4 => ?_)
  rotate_left
  · exact (show initWk a_ b_ c_ d_ e_ = Ri.err 10 from by unfold initWk; simp [c1, c2, c3, c4])
  refine Got.ok ?_
  show KSs _ ([(.ow (oobj p_ 0 [])), .sh (dv a_), .sh (dv b_), .sh (dv c_), .sh (dv d_), .sh (dv e_)] : List Ent) _ _
  obtain ⟨a, ea_, iwall⟩ := isWh_int c1
  obtain ⟨b, eb_, iflow⟩ := isWh_int c2
  obtain ⟨c, ec_, ipump⟩ := isWh_int c3
  obtain ⟨d, ed_, irest⟩ := isWh_int c4
  refine ks_conv 1 a rfl (cv_vi ea_) ?_
  show KSs _ ([(.ow (oobj p_ 0 [])), .sh (dv a), .sh (dv b_), .sh (dv c_), .sh (dv d_), .sh (dv e_)] : List Ent) _ _
  refine ks_conv 2 b rfl (cv_vi eb_) ?_
  show KSs _ ([(.ow (oobj p_ 0 [])), .sh (dv a), .sh (dv b), .sh (dv c_), .sh (dv d_), .sh (dv e_)] : List Ent) _ _
  refine ks_conv 3 c rfl (cv_vi ec_) ?_
  show KSs _ ([(.ow (oobj p_ 0 [])), .sh (dv a), .sh (dv b), .sh (dv c), .sh (dv d_), .sh (dv e_)] : List Ent) _ _
  refine ks_conv 4 d rfl (cv_vi ed_) ?_
  show KSs _ ([(.ow (oobj p_ 0 [])), .sh (dv a), .sh (dv b), .sh (dv c), .sh (dv d), .sh (dv e_)] : List Ent) _ _
  show KSs _ ([(.ow (oobj p_ 0 [])), .sh (dv a), .sh (dv b), .sh (dv c), .sh (dv d), .sh (dv e_)] : List Ent) _ _
  refine ks_cons (s_expr (α := Unit) ?_)
  refine k_call (ok_check_works_number T) (hr.mono (by decide)) T.g_check_works_number T.k_check_works_number T.b_check_works_number ?_
  refine a_cons (α := Str) ?_
  refine k_str ?_
  refine a_cons (α := V) ?_
  refine k_var 5 rfl rfl ?_
  refine a_cons (α := Int) ?_
  refine k_int ?_
  refine a_cons (α := Int) ?_
  refine k_var 1 rfl rfl ?_
  refine a_nil ?_
  refine ⟨_, ⟨_, _, _, _, rfl, by decide, p5, by decide, by have := iwall; omega, rfl⟩, ?_⟩
  refine Got.ite (fun c5 => ?_) (fun c5 => ?_)
  rotate_left
  · exact (show initWk _ _ _ _ _ = Ri.err 10 from by rw [ea_]; exact initWk_e (by rw [← ea_]; exact c1) c2 c3 c4 c5)
  refine Got.ok ?_
  obtain ⟨e, ee_, ie⟩ := isWh_int c5
  show KSs _ ([(.ow (oobj p_ 0 [])), .sh (dv a), .sh (dv b), .sh (dv c), .sh (dv d), .sh (dv e_)] : List Ent) _ _
  refine ks_conv 5 e rfl (cv_vi ee_) ?_
  show KSs _ ([(.ow (oobj p_ 0 [])), .sh (dv a), .sh (dv b), .sh (dv c), .sh (dv d), .sh (dv e)] : List Ent) _ _
  show KSs _ ([(.ow (oobj p_ 0 [])), .sh (dv a), .sh (dv b), .sh (dv c), .sh (dv d), .sh (dv e)] : List Ent) _ _
  refine ks_cons (s_setF (α := Int) (num := 0) 0 rfl rfl (by decide) T.cl_0 T.na_wall ?_)
  refine k_var 1 rfl rfl ?_
  refine fun set1 set1_e => ?_
  have set1_l : set1.length ≤ 1 := by rw [set1_e]; exact Nat.le_trans (putD_le _ _ _) (Nat.le_refl 1)
  show KSs _ ([.ow (oobj p_ 0 set1), .sh (dv a), .sh (dv b), .sh (dv c), .sh (dv d), .sh (dv e)] : List Ent) _ _
  refine ks_cons (s_setF (α := Int) (num := 0) 0 rfl rfl (by have := set1_l; omega) T.cl_0 T.na_flow ?_)
  refine k_var 2 rfl rfl ?_
  refine fun set2 set2_e => ?_
  have set2_l : set2.length ≤ 2 := by rw [set2_e]; exact Nat.le_trans (putD_le _ _ _) (Nat.succ_le_succ set1_l)
  show KSs _ ([.ow (oobj p_ 0 set2), .sh (dv a), .sh (dv b), .sh (dv c), .sh (dv d), .sh (dv e)] : List Ent) _ _
  refine ks_cons (s_setF (α := Int) (num := 0) 0 rfl rfl (by have := set2_l; omega) T.cl_0 T.na_pump ?_)
  refine k_var 3 rfl rfl ?_
  refine fun set3 set3_e => ?_
  have set3_l : set3.length ≤ 3 := by rw [set3_e]; exact Nat.le_trans (putD_le _ _ _) (Nat.succ_le_succ set2_l)
  show KSs _ ([.ow (oobj p_ 0 set3), .sh (dv a), .sh (dv b), .sh (dv c), .sh (dv d), .sh (dv e)] : List Ent) _ _
  refine ks_cons (s_setF (α := Int) (num := 0) 0 rfl rfl (by have := set3_l; omega) T.cl_0 T.na_rest ?_)
  refine k_var 4 rfl rfl ?_
  refine fun set4 set4_e => ?_
  have set4_l : set4.length ≤ 4 := by rw [set4_e]; exact Nat.le_trans (putD_le _ _ _) (Nat.succ_le_succ set3_l)
  show KSs _ ([.ow (oobj p_ 0 set4), .sh (dv a), .sh (dv b), .sh (dv c), .sh (dv d), .sh (dv e)] : List Ent) _ _
  refine ks_one (s_setF (α := Int) (num := 0) 0 rfl rfl (by have := set4_l; omega) T.cl_0 T.na_deep ?_)
  refine k_var 5 rfl rfl ?_
  refine fun set5 set5_e => ?_
  have set5_l : set5.length ≤ 5 := by rw [set5_e]; exact Nat.le_trans (putD_le _ _ _) (Nat.succ_le_succ set4_l)
  subst set1_e; subst set2_e; subst set3_e; subst set4_e; subst set5_e
  subst ea_ eb_ ec_ ed_ ee_
  exact ⟨_, rfl, initWk_ok' c1 c2 c3 c4 ie⟩
/-! Course.__init__ -/
def S_Course__init : List DV → Ri → Prop := fun ds r => ∃ (hs_ : List Tv), ds = [dv hs_] ∧ (∀ t ∈ hs_, ∀ v ∈ t.vs, scl v) ∧ r = initCrs hs_
theorem ok_Course__init (T : Tx w K mg) : FnOk PP w K mg base (L2.CX PP w) 4 T.a_Course__init T.fd_Course__init ["self", "hours"] (spInit K T.cls 1 S_Course__init) := by
  refine init_ok T.F_Course__init sc_Course__init (fun ds r h => by obtain ⟨hs_, rfl, _⟩ := h; rfl) fun cd A outer s H B E hs p_ ds r hr h => ?_
  obtain ⟨hs_, rfl, p1, rfl⟩ := h
  show KSs _ ([(.ow (oobj p_ 1 [])), .sh (dv hs_), .no] : List Ent) _ _
  refine ks_cons (s_if ?_)
  refine t_w ?_
  refine w_orD (!isWh (.int (hs_.length : Int)) 1 72) ?_
  refine t_not ?_
  refine t_val ?_
  refine k_isLst (α := Tv) T.nogl ?_
  refine k_var 1 rfl rfl ?_
  refine ⟨fun hb1 => ?_, ?_⟩
  · skip
    refine w_or1 ?_
    refine t_not ?_
    refine t_val ?_
    refine k_call (ok_is_whole T) (hr.mono (by decide)) T.g_is_whole T.k_is_whole T.b_is_whole ?_
    refine a_cons (α := V) ?_
    refine k_toV (α := Int) ?_
    refine k_lenL (α := Tv) T.nogl ?_
    refine k_var 1 rfl rfl ?_
    refine a_cons (α := Int) ?_
    refine k_int ?_
    refine a_cons (α := Int) ?_
    refine k_gint T.c_MOST_HOURS ?_
    refine a_nil ?_
    refine ⟨_, ⟨_, _, _, rfl, scl_i _, rfl⟩, Got.ok ?_⟩
    exact rfl
  refine ifB (fun h1 => ?_) (fun h1 => ?_)
  · skip
    refine ks_one (s_raise (cn := 11) T.e_InvalidCourse ?_)
    refine k_join ?_ (by decide)
    refine k_lit (by decide) ?_
    refine k_fmtI ?_
    refine k_gint T.c_MOST_HOURS ?_
    refine ⟨by omega, ?_⟩
    refine k_lit (by decide) ?_
    show (_ : Ri) = _
    exact if_neg (by simp [isWh] at h1; omega)
  · skip
    have hl_ : 1 ≤ hs_.length ∧ hs_.length ≤ 72 := by simp [isWh] at h1; omega
    refine ks_nil ?_
    show KSs _ ([(.ow (oobj p_ 1 [])), .sh (dv hs_), .no] : List Ent) _ _
    show KSs _ ([(.ow (oobj p_ 1 [])), .sh (dv hs_), .no] : List Ent) _ _
    refine ks_cons (s_for (α := Tv) (g_name (α := Tv) 2 sc_Course__init.nd rfl) ?_)
    refine k_var 1 rfl rfl ?_
    refine ⟨fun (i_for1 : Nat) e_ => e_ = ([(.ow (oobj p_ 1 [])), .sh (dv hs_), .no] : List Ent) ∧ (∀ (j_ : Nat) t_, j_ < i_for1 → hs_[j_]? = some t_ → (mkHr t_).isSome = true), ?_, ?_, ?_⟩
    · exact ⟨rfl, fun _ _ h_ => absurd h_ (Nat.not_lt_zero _)⟩
    · rintro i_for1 hour _ for1_at ⟨rfl, for1_i⟩
      refine turn_fgt ?_
      show KSs _ ([(.ow (oobj p_ 1 [])), .sh (dv hs_), .sh (dv hour)] : List Ent) _ _
      refine ks_one (s_expr (α := Unit) ?_)
      refine k_call (ok_check_hour T) (hr.mono (by decide)) T.g_check_hour T.k_check_hour T.b_check_hour ?_
      refine a_cons (α := Tv) ?_
      refine k_var 2 rfl rfl ?_
      refine a_nil ?_
      refine ⟨_, ⟨_, rfl, p1 _ (List.mem_of_getElem? for1_at), rfl⟩, ?_⟩
      refine Got.ite (fun c1 => ?_) (fun c1 => ?_)
      rotate_left
      · exact (show initCrs hs_ = Ri.err 11 from if_neg (fun z => c1 (by have z2 := z.2.2; rw [List.all_eq_true] at z2; exact z2 _ (List.mem_of_getElem? for1_at))))
      refine Got.ok ?_
      exact ⟨[2], rfl, fun j_ t_ hj_ ht_ => by
        rcases Nat.lt_succ_iff_lt_or_eq.mp hj_ with h_ | h_
        · exact for1_i j_ t_ h_ ht_
        · subst h_; rw [for1_at] at ht_; cases ht_; exact c1⟩
    · rintro _ ⟨rfl, for1_d⟩
      have hall : ∀ t_ ∈ hs_, (mkHr t_).isSome = true := fun t_ ht_ => by
        obtain ⟨j_, hj_, e_⟩ := List.mem_iff_getElem.mp ht_
        exact for1_d j_ t_ hj_ (by rw [List.getElem?_eq_getElem hj_, e_])
      show KSs _ ([(.ow (oobj p_ 1 [])), .sh (dv hs_), .no] : List Ent) _ _
      refine ks_one (s_setF (α := List Hr) (num := 1) 0 rfl rfl (by decide) T.cl_1 T.na_hours ?_)
      refine k_cv (α := List Tv) ?_
      refine k_list T.nogl ?_
      refine k_var 1 rfl rfl ?_
      refine ⟨_, cv_hrs (by assumption), ?_⟩
      refine fun set1 set1_e => ?_
      have set1_l : set1.length ≤ 1 := by rw [set1_e]; exact Nat.le_trans (putD_le _ _ _) (Nat.le_refl 1)
      subst set1_e
      exact ⟨_, rfl, if_pos ⟨hl_.1, hl_.2, List.all_eq_true.mpr hall⟩⟩
/-! Course.count -/
def S_Course_count : Pm := fun ds r => ∃ (c_ : Crs), ds = [dv c_] ∧ r = .ok (dv (c_.hours.length : Int))
theorem ok_Course_count (T : Tx w K mg) : FnOk PP w K mg base (L2.CX PP w) 1 T.a_Course_count T.fd_Course_count ["self"] (spOf K T.cls S_Course_count) := by
  refine fn_ok T.F_Course_count sc_Course_count (fun ds r h => by obtain ⟨c_, rfl, _⟩ := h; rfl) fun cd A outer s H E hs ds r hr h => ?_
  obtain ⟨c_, rfl, rfl⟩ := h
  show KSs _ ([.sh (dv c_)] : List Ent) _ _
  refine ks_one (s_ret (α := Int) ?_)
  refine k_lenL (α := Hr) T.nogl ?_
  refine k_fld (n := 1) Crs.hours Crs.lk_hours T.cl_1 T.na_hours ?_
  refine k_var 0 rfl rfl ?_
  show (_ : Rz) = _
  first | rfl | assumption | (simp_all; done)
/-! _law_state -/
def S_law_state : Pm := fun ds r => ∃ (ns_ : List Int), ds = [dv (Scr.mk ns_)] ∧ (ns_.length ≤ 63) ∧ r = .ok (dv (Rnd.mk ()))
theorem ok_law_state (T : Tx w K mg) : FnOk PP w K mg base (L2.CX PP w) 1 T.a_law_state T.fd_law_state ["script"] (spOf K T.cls S_law_state) := by
  refine fn_ok T.F_law_state sc_law_state (fun ds r h => by obtain ⟨ns_, rfl, _⟩ := h; rfl) fun cd A outer s H E hs ds r hr h => ?_
  obtain ⟨ns_, rfl, p1, rfl⟩ := h
  show KSs _ ([.sh (dv (Scr.mk ns_)), .no] : List Ent) _ _
  refine ks_one (s_retRnd ?_)
  refine kn_ofLc (q_lc (α := Int) (β := Int) [("cell", 1)] sc_law_state.nd (blkOk_by rfl) (Nat.le_of_ble_eq_true rfl) (fun F' ⟨s', H', C', cl', fp', hs', e'⟩ => by subst e'; exact g_name (α := Int) 1 sc_law_state.nd rfl) (by decide) (by intro i hi o; simp only [List.map_cons, List.map_nil, List.mem_cons, List.not_mem_nil, or_false] at hi; subst hi <;> intro z <;> cases z) ?_)
  refine k_slToScr ?_
  refine k_var 0 rfl rfl ?_
  refine k_int ?_
  refine ⟨by omega, ?_⟩
  refine ⟨by rw [List.length_take]; omega, fun _ => true, fun x => x, ?_, ?_, ?_⟩
  · rintro F' cell ⟨s', H', C', cl', fp', hs', rfl⟩ comp1_m
    exact rfl
  · rintro F' cell ⟨s', H', C', cl', fp', hs', rfl⟩ comp1_m comp1_t
    show KE _ [.sh (dv (Scr.mk ns_)), .sh (dv cell)] _ _ _
    refine k_intI T.nogl ?_
    refine k_var 1 rfl rfl ?_
    exact rfl
  refine ⟨by rw [filter_yes, List.length_map, List.length_take]; dsimp only; omega, ?_⟩
  show (_ : Rz) = _
  first | rfl | assumption | (simp_all; done)
/-! _law_mixed -/
def S_law_mixed : List DV → (Int → Prop) → Prop := fun ds r => ∃ (c_ : Int), ds = [dv c_] ∧ r = (fun _ => True)
theorem ok_law_mixed (T : Tx w K mg) : FnOk PP w K mg base (L2.CX PP w) 1 T.a_law_mixed T.fd_law_mixed ["cell"] (spAny K T.cls S_law_mixed) := by
  refine fn_any T.F_law_mixed sc_law_mixed (fun ds r h => by obtain ⟨c_, rfl, _⟩ := h; rfl) fun cd A outer s H E hs ds r hr h => ?_
  obtain ⟨c_, rfl, rfl⟩ := h
  show KSs _ ([.sh (dv c_), .no, .no, .no] : List Ent) _ _
  refine ks_cons (s_let (α := Int) 1 sc_law_mixed.nd rfl ?_)
  refine k_mod ?_
  refine k_intI T.nogl ?_
  refine k_var 0 rfl rfl ?_
  refine k_int ?_
  refine ⟨by omega, ?_⟩
  refine fun seed seed_e => ?_
  show KSs _ ([.sh (dv c_), .sh (dv seed), .no, .no] : List Ent) _ _
  refine ks_cons (s_let (α := Int) 2 sc_law_mixed.nd rfl ?_)
  refine k_int ?_
  refine fun number number_e => ?_
  show KSs _ ([.sh (dv c_), .sh (dv seed), .sh (dv number), .no] : List Ent) _ _
  show KSs _ ([.sh (dv c_), .sh (dv seed), .sh (dv number), .no] : List Ent) _ _
  refine ks_cons (s_forR1 (g_name (α := Int) 3 sc_law_mixed.nd rfl) T.nogl ?_)
  refine k_int ?_
  refine ⟨by decide, by decide, fun (i_for1 : Nat) e_ => ∃ (sd_ nb_ : Int), e_ = ([.sh (dv c_), .sh (dv sd_), .sh (dv nb_), .no] : List Ent) ∧ (True), ?_, ?_, ?_⟩
  · exact ⟨_, _, rfl, trivial⟩
  · rintro i_for1 _ for1_lt ⟨sd_, nb_, rfl, for1_i⟩
    refine turn_fgt ?_
    obtain ⟨k, k_e⟩ : ∃ v_ : Int, v_ = ((i_for1 : Nat) : Int) := ⟨_, rfl⟩
    refine at_int (i := 3) k_e ?_
    show KSs _ ([.sh (dv c_), .sh (dv sd_), .sh (dv nb_), .sh (dv k)] : List Ent) _ _
    refine ks_cons (s_let (α := Int) 1 sc_law_mixed.nd rfl ?_)
    refine k_mod ?_
    refine k_intI T.nogl ?_
    refine k_add ?_
    refine k_add ?_
    refine k_mul ?_
    refine k_var 1 rfl rfl ?_
    refine k_int ?_
    refine ⟨.inr ⟨by decide, by decide⟩, ?_⟩
    refine k_int ?_
    refine k_mul ?_
    refine k_int ?_
    refine k_var 3 rfl rfl ?_
    refine ⟨.inl ⟨by decide, by decide⟩, ?_⟩
    refine k_int ?_
    refine ⟨by omega, ?_⟩
    refine fun seed seed_e2 => ?_
    show KSs _ ([.sh (dv c_), .sh (dv seed), .sh (dv nb_), .sh (dv k)] : List Ent) _ _
    refine ks_one (s_let (α := Int) 2 sc_law_mixed.nd rfl ?_)
    refine k_add ?_
    refine k_mul ?_
    refine k_var 2 rfl rfl ?_
    refine k_int ?_
    refine ⟨.inr ⟨by decide, by decide⟩, ?_⟩
    refine k_var 1 rfl rfl ?_
    refine fun number number_e2 => ?_
    exact ⟨[3], _, _, rfl, trivial⟩
  · rintro _ ⟨sd_, nb_, rfl, for1_d⟩
    show KSs _ ([.sh (dv c_), .sh (dv sd_), .sh (dv nb_), .no] : List Ent) _ _
    refine ks_one (s_ret (α := Int) ?_)
    refine k_var 2 rfl rfl ?_
    refine ⟨_, rfl, ?_⟩
    first | trivial | assumption | omega
/-! _law_take -/
def S_law_take : List DV → (Int → Prop) → Prop := fun ds r => ∃ (r_ : Rnd) (m_ : Int), ds = [dv r_, dv m_] ∧ (0 < m_ ∧ m_ < 1073741824) ∧ r = (fun i => 0 ≤ i ∧ i < m_)
theorem ok_law_take (T : Tx w K mg) : FnOk PP w K mg base (L2.CX PP w) 2 T.a_law_take T.fd_law_take ["state", "limit"] (spAny K T.cls S_law_take) := by
  refine fn_any T.F_law_take sc_law_take (fun ds r h => by obtain ⟨r_, m_, rfl, _⟩ := h; rfl) fun cd A outer s H E hs ds r hr h => ?_
  obtain ⟨r_, m_, rfl, p1, rfl⟩ := h
  intro own σ H1 kn pt
  obtain ⟨pa, W, tk, hw⟩ := id pt
  obtain ⟨v0, sv0, p, l, rfl, rn0⟩ := kn.sh (i := 0) rfl
  obtain ⟨v1, sv1, rv1⟩ := kn.sh (i := 1) rfl
  have rv1 : v1 = V.int m_ := rv1
  subst rv1
  have rn : Rn H1 p l := rn0.mono hid_le
  refine tSs_open rn fun c ns hn => ?_
  refine tSs_of (pss_cons peS peSs) ?_
  refine tS_mono (D := { nx := TkSt p l m_ H1, rt := fun _ _ => False, bk := fun _ _ => False, ct := fun _ _ => False }) (fun σ' H' z => ?rest) (fun _ _ z => z.elim) (fun _ _ z => z.elim) (fun _ _ z => z.elim) ?ifst
  case ifst =>
    refine tS_of (ps_if (pw_and (pt_cmpR op_lt (pe_ix ix_list (pe_var (i := 0) rfl (by first | exact .inl rfl | exact .inr (.inl rfl) | exact .inr (.inr rfl))) pe_int (fun _ _ => rfl)) (pe_var (i := 1) rfl (by first | exact .inl rfl | exact .inr (.inl rfl) | exact .inr (.inr rfl))) (by with_unfolding_all rfl)) (pw_and1 (pt_cmpR op_gt (pe_callB call_len_seq (by rfl) (T.nogl _ (by simp)) PySem.boot_len (pa_cons (pe_ix ix_list (pe_var (i := 0) rfl (by first | exact .inl rfl | exact .inr (.inl rfl) | exact .inr (.inr rfl))) pe_int (fun _ _ => rfl)) pa_nil)) pe_int (by with_unfolding_all rfl)))).pt (pss_cons (ps_set (i := 2) sc_law_take.nd rfl (by first | exact .inl rfl | exact .inr rfl) (pe_callB call_abs (by rfl) T.n_abs (by decide +kernel) (pa_cons (pe_callTy call_int1 (by rfl) (T.nogl _ (by simp)) (by decide +kernel) (pa_cons (pe_bm PySem.F.plainAttrs_list PySem.F.slot_list_pop PySem.F.type_list_pop mt_popAt (pe_ix ix_list (pe_var (i := 0) rfl (by first | exact .inl rfl | exact .inr (.inl rfl) | exact .inr (.inr rfl))) pe_int (fun _ _ => rfl)) (pa_cons pe_int pa_nil)) pa_nil)) pa_nil))) (pss_cons (ps_if (pt_cmpR op_lt (pe_var (i := 2) rfl (by first | exact .inl rfl | exact .inr (.inl rfl) | exact .inr (.inr rfl))) (pe_op op_pow pe_int pe_int) (by with_unfolding_all rfl)) (pss_one (ps_set (i := 2) sc_law_take.nd rfl (by first | exact .inl rfl | exact .inr rfl) (pe_callS (ok_law_mixed T) (hr.mono (by decide)) rfl T.g_law_mixed T.k_law_mixed T.b_law_mixed (fun σ => passAt tk σ) (pa_cons (pe_var (i := 2) rfl (by first | exact .inl rfl | exact .inr (.inl rfl) | exact .inr (.inr rfl))) pa_nil)))) pss_nil) (pss_one (ps_asg (pe_var (i := 2) rfl (by first | exact .inl rfl | exact .inr (.inl rfl) | exact .inr (.inr rfl))) (pg_sub (pe_var (i := 0) rfl (by first | exact .inl rfl | exact .inr (.inl rfl) | exact .inr (.inr rfl))) pe_int set_list (by intro _; rfl)) rfl rfl rfl)))) pss_nil) ?_
    have l0 : σ.length = 4 := kn.len
    have fin : ∀ (σ2 : L2.St) (H2 : Hp) (c2 : Int), σ2[0]? = some (some (V.ref p)) → σ2[1]? = some (some (V.int m_)) → σ2[2]? = some (some (V.int c2)) → σ2.length = 4 → H2 p = some (.lst [.ref l, .int c]) → (∃ ns : List Int, H2 l = some (.lst (ns.map V.int)) ∧ ns.length ≤ 100) → (∀ a o, a ≠ p → a ≠ l → H1 a = some o → H2 a = some o) →
        (tAsg (tVar 2) (gSub (tVar 0) (tC (V.int 1)) rSetL)) { nx := TkSt p l m_ H1, rt := fun _ _ => False, bk := fun _ _ => False, ct := fun _ _ => False } σ2 H2 := fun σ2 H2 c2 g0 g1 g2 gl gp ⟨ns2, gn, gm⟩ go => by
      refine ⟨V.int c2, g2, V.ref p, g0, p, _, 1, 1, rfl, rfl, gp, rfl, ⟨g0, g1, gl, ⟨c2, upd_same⟩, ⟨ns2, ?_, gm⟩, fun a o n1 n2 e => ?_⟩⟩
      · rw [upd_ne (Ne.symm rn.ne)]; exact gn
      · rw [upd_ne n1]; exact go a o n1 n2 e
    refine ⟨V.ref p, sv0, p, _, 1, V.int c, rfl, rfl, SqL.of (opn_p rn.ne), rfl, V.int m_, sv1, c, m_, rfl, rfl, decide (c < m_), rfl, ?_⟩
    by_cases h1 : c < m_
    · rw [decide_eq_true h1]
      refine ⟨V.ref p, sv0, p, _, 0, V.ref l, rfl, rfl, SqL.of (opn_p rn.ne), rfl, l, _, rfl, .inl (SqL.of opn_l), _, 0, rfl, rfl, _, rfl, ?_⟩
      cases ns with
      | nil => exact ⟨sv0, sv1, l0, ⟨c, opn_p rn.ne⟩, ⟨[], opn_l, hn⟩, fun a o n1 n2 e => (opn_o n1 n2).trans e⟩
      | cons x xs =>
        have e1 : decide ((0 : Int) < (((x :: xs).map V.int).length : Int)) = true := decide_eq_true (by simp only [List.map_cons, List.length_cons]; omega)
        rw [e1]
        have sq0 : seqIndex? 0 ((x :: xs).map V.int).length = some 0 := (ixN_seq (n := ((x :: xs).map V.int).length) (i := 0) (j := 0) (by unfold ixN; rw [if_pos (by decide), if_pos (by simp only [List.map_cons, List.length_cons]; omega)]; rfl)).1
        refine ⟨V.ref p, sv0, p, _, 0, V.ref l, rfl, rfl, SqL.of (opn_p rn.ne), rfl, .inl ⟨rfl, _, SqL.of opn_l⟩, l, _, 0, 0, V.int x, rfl, rfl, opn_l, by decide, by decide, sq0, rfl, .inl ⟨x, rfl, x, rfl, ?_⟩⟩
        have g0 : (σ.set 2 (some (V.int (if x < 0 then -x else x))))[0]? = some (some (V.ref p)) := by rw [List.getElem?_set_ne (by decide)]; exact sv0
        have g1 : (σ.set 2 (some (V.int (if x < 0 then -x else x))))[1]? = some (some (V.int m_)) := by rw [List.getElem?_set_ne (by decide)]; exact sv1
        have g2 : (σ.set 2 (some (V.int (if x < 0 then -x else x))))[2]? = some (some (V.int (if x < 0 then -x else x))) := List.getElem?_set_self (by omega)
        generalize (if x < 0 then -x else x) = c1 at g0 g1 g2 ⊢
        have gl : (σ.set 2 (some (V.int c1))).length = 4 := by rw [List.length_set]; exact l0
        have gp : upd (opn H1 p l c (x :: xs)) l (.lst (xs.map V.int)) p = some (.lst [.ref l, .int c]) := by rw [upd_ne rn.ne]; exact opn_p rn.ne
        have go : ∀ a o, a ≠ p → a ≠ l → H1 a = some o → upd (opn H1 p l c (x :: xs)) l (.lst (xs.map V.int)) a = some o := fun a o n1 n2 e => by rw [upd_ne n2]; exact (opn_o n1 n2).trans e
        have gn : xs.length ≤ 100 := by simp only [List.length_cons] at hn; omega
        refine ⟨V.int c1, g2, 10, 18, rfl, rfl, ⟨by decide, by decide, by decide⟩, c1, _, rfl, rfl, decide (c1 < (10 : Int) ^ ((18 : Int)).toNat), rfl, ?_⟩
        by_cases h2 : c1 < (10 : Int) ^ ((18 : Int)).toNat
        · rw [decide_eq_true h2]
          refine ⟨V.int c1, g2, fun _ => False, [dv c1], fun _ => True, fun _ z => z.elim, ⟨rfl, trivial⟩, ⟨c1, rfl, rfl⟩, fun x2 v2 H3 _ s3 r3 => ?_⟩
          have r3 : v2 = V.int x2 := r3
          subst r3
          exact fin _ _ x2 (by rw [List.getElem?_set_ne (by decide)]; exact g0) (by rw [List.getElem?_set_ne (by decide)]; exact g1) (List.getElem?_set_self (by omega)) (by rw [List.length_set]; exact gl) (s3 _ _ gp) ⟨xs, s3 _ _ upd_same, gn⟩ (fun a o n1 n2 e => s3 _ _ (go a o n1 n2 e))
        · rw [decide_eq_false h2]
          exact fin _ _ c1 g0 g1 g2 gl gp ⟨xs, upd_same, gn⟩ go
    · rw [decide_eq_false h1]
      exact ⟨sv0, sv1, l0, ⟨c, opn_p rn.ne⟩, ⟨ns, opn_l, hn⟩, fun a o n1 n2 e => (opn_o n1 n2).trans e⟩
  case rest =>
    refine tSs_of (pss_cons (ps_set (i := 3) sc_law_take.nd rfl (by first | exact .inl rfl | exact .inr rfl) (pe_op op_mod (pe_callTy call_int1 (by rfl) (T.nogl _ (by simp)) (by decide +kernel) (pa_cons (pe_ix ix_list (pe_var (i := 0) rfl (by first | exact .inl rfl | exact .inr (.inl rfl) | exact .inr (.inr rfl))) pe_int (fun _ _ => rfl)) pa_nil)) (pe_var (i := 1) rfl (by first | exact .inl rfl | exact .inr (.inl rfl) | exact .inr (.inr rfl))))) (pss_cons (ps_asg (pe_op op_fdiv (pe_ix ix_list (pe_var (i := 0) rfl (by first | exact .inl rfl | exact .inr (.inl rfl) | exact .inr (.inr rfl))) pe_int (fun _ _ => rfl)) (pe_var (i := 1) rfl (by first | exact .inl rfl | exact .inr (.inl rfl) | exact .inr (.inr rfl)))) (pg_sub (pe_var (i := 0) rfl (by first | exact .inl rfl | exact .inr (.inl rfl) | exact .inr (.inr rfl))) pe_int set_list (by intro _; rfl)) rfl rfl rfl) (pss_one (ps_ret (pe_var (i := 3) rfl (by first | exact .inl rfl | exact .inr (.inl rfl) | exact .inr (.inr rfl))))))) ?_
    obtain ⟨s0, s1, sl, ⟨c1, gp⟩, ⟨ns1, gn, gm⟩, go⟩ := z
    refine ⟨V.ref p, s0, p, _, 1, V.int c1, rfl, rfl, SqL.of gp, rfl, .inl ⟨c1, rfl, V.int m_, s1, c1, m_, rfl, rfl, p1.1, ?_⟩⟩
    have g0 : (σ'.set 3 (some (V.int (c1 % m_))))[0]? = some (some (V.ref p)) := by rw [List.getElem?_set_ne (by decide)]; exact s0
    have g1 : (σ'.set 3 (some (V.int (c1 % m_))))[1]? = some (some (V.int m_)) := by rw [List.getElem?_set_ne (by decide)]; exact s1
    have g3 : (σ'.set 3 (some (V.int (c1 % m_))))[3]? = some (some (V.int (c1 % m_))) := List.getElem?_set_self (by omega)
    refine ⟨V.ref p, g0, p, _, 1, V.int c1, rfl, rfl, SqL.of gp, rfl, V.int m_, g1, c1, m_, rfl, rfl, p1, V.ref p, g0, p, _, 1, 1, rfl, rfl, gp, rfl, V.int (c1 % m_), g3, c1 / m_, ns1, upd_same, ?_, gm, ?_⟩
    · rw [upd_ne (Ne.symm rn.ne)]; exact gn
    · exact ⟨dv (c1 % m_), kn.ex.trans (shut_same rn fun a o n1 n2 e => by rw [upd_ne n1]; exact go a o n1 n2 e), rfl, _, rfl, Int.emod_nonneg _ (by omega), Int.emod_lt_of_pos _ p1.1⟩
/-! InvalidLine.__init__ -/
theorem ok_InvalidLine__init (T : Tx w K mg) : FnOk PP w K mg base (L2.CX PP w) 1 T.a_InvalidLine__init T.fd_InvalidLine__init ["self", "line"] (spIL K) := by
  refine T.F_InvalidLine__init.okX sc_InvalidLine__init (fun vs H Q E h => by obtain ⟨p, C, n, rfl, _⟩ := h; rfl) fun cd A outer s H vs Q E hr h => ⟨_, peSs, ?_⟩
  obtain ⟨p, C, n, rfl, oc, fl, hn, hp, q⟩ := h
  let F0 := fx PP w K mg base T.cls ["self", "line"] "InvalidLine.__init__" (defScope s_InvalidLine__init) T.a_InvalidLine__init cd A outer s H E (fun _ => False)
  let env1 : List Ent := [.sh (dv (V.ref p)), .sh (dv n)]
  have kn : F0.Kn (fun _ => none) env1 (L2.start ["self", "line"] [V.ref p, V.int n]) H := kn_raw (G := ⟨K, T.cls⟩) (hs := fun _ => False) (N := ["self", "line"]) (ds := [dv (V.ref p), dv n]) (vs := [V.ref p, V.int n]) (H := H) ⟨rfl, rfl, trivial⟩ (fun _ z => z.elim)
  have pt : Port F0 (fun _ => none) H noex := ⟨passes_of rfl, _, takes_of (E := E) rfl rfl rfl rfl, fun env own' C dd σ H' k' fr e xd => e.elim⟩
  refine tSs_of (pss_cons peS (pss_one (ps_ost peE peE))) ?_
  refine t_keinit (F := F0) (env := env1) kn pt T.gx_16 T.ke_ga T.ke_ty T.ke_rd T.ke_in oc hp ?_ (fun H1 s1 k1 => ?_)
  · show KA F0 ([.sh (dv (V.ref p)), .sh (dv n)] : List Ent) _ noex _
    refine a_cons (α := V) ?_
    refine k_var 0 rfl rfl ?_
    refine a_cons (α := Str) ?_
    refine ke_imp (Q := fun _ : Str => True) (fun x_ _ => a_nil ⟨x_, rfl⟩) ?_
    refine k_join (rest := []) ?_ (Nat.zero_le _)
    refine k_lit (by decide) ?_
    refine k_fmtI ?_
    refine k_var 1 rfl rfl ?_
    exact ⟨by omega, trivial⟩
  · have g1 : ∀ q_ : Pos, KE F0 env1 (.Name "line" q_) noex (fun i : Int => i = n) := fun q_ => k_var 1 rfl rfl rfl
    have g2 : ∀ q_ : Pos, KE F0 env1 (.Name "self" q_) noex (fun v : V => v = V.ref p) := fun q_ => k_var 0 rfl rfl rfl
    refine tE_mono (fun y H2 ⟨i, s2, r2, e2⟩ => ?_) (g1 _ (fun _ => none) _ H1 k1 (pt.mono s1))
    refine tE_mono (fun x H3 ⟨v, s3, r3, e3⟩ => ?_) (g2 _ (fun _ => none) _ H2 (k1.mono s2) (pt.mono (s1.trans s2)))
    have st : Same H H3 := (s1.trans s2).trans s3
    have e4 : y = V.int i := r2
    have e5 : x = v := r3
    subst e2 e3 e4 e5
    refine ⟨p, C, rfl, oc, fl, .inl ⟨st _ _ hp, fun dx hdx ndx => ?_⟩⟩
    refine q _ dx (fun a o e => ?_) upd_same ?_ ?_ ndx
    · by_cases ap : a = p
      · subst ap; exact nomatch (if_pos rfl).symm.trans e
      · have e6 : H a = some o := (if_neg ap).symm.trans e
        have e7 := st _ _ e6
        rw [upd_ne ap, upd_ne (ne_of_none e7 hdx)]; exact e7
    · rw [upd_ne ndx, upd_same]
    · cases e8 : H dx with
      | none => rfl
      | some o => exact nomatch hdx.symm.trans (st _ _ e8)
/-! read_number -/
def S_read_number : Pm := fun ds r => ∃ (s_ : Str), ds = [dv s_] ∧ (s_.length ≤ 1000000) ∧ r = .ok (dv (readN s_))
theorem ok_read_number (T : Tx w K mg) : FnOk PP w K mg base (L2.CX PP w) 1 T.a_read_number T.fd_read_number ["word"] (spOf K T.cls S_read_number) := by
  refine fn_ok T.F_read_number sc_read_number (fun ds r h => by obtain ⟨s_, rfl, _⟩ := h; rfl) fun cd A outer s H E hs ds r hr h => ?_
  obtain ⟨s_, rfl, p1, rfl⟩ := h
  show KSs _ ([.sh (dv s_)] : List Ent) _ _
  refine ks_cons (s_if ?_)
  refine t_w ?_
  refine' w_orD _ ?_; rotate_left
  refine t_not ?_
  refine t_val ?_
  refine k_isascii ?_
  refine k_var 0 rfl rfl ?_
  refine ⟨fun hb1 => ?_, ?_⟩
  · skip
    refine' w_orD _ ?_; rotate_left
    refine t_not ?_
    refine t_val ?_
    refine k_isdigit ?_
    refine k_var 0 rfl rfl ?_
    refine ⟨fun hb2 => ?_, ?_⟩
    · skip
      refine w_or1 ?_
      refine t_gt ?_
      refine k_lenT1 T.nogl ?_
      refine k_var 0 rfl rfl ?_
      refine ⟨Nat.le_trans p1 (by decide), ?_⟩
      refine k_gint T.c_MOST_DIGITS ?_
      exact rfl
    exact rfl
  refine ifB (fun h1 => ?_) (fun h1 => ?_)
  · skip
    refine ks_one (s_ret (α := Option Int) ?_)
    refine k_nonI ?_
    show (_ : Rz) = _
    exact congrArg (fun x => Rz.ok (dv x)) (readN_a h1)
  · skip
    refine ks_nil ?_
    show KSs _ ([.sh (dv s_)] : List Ent) _ _
    refine ks_cons (s_if ?_)
    refine t_w ?_
    refine' w_andD _ ?_; rotate_left
    refine t_val ?_
    refine k_startswith ?_
    refine k_var 0 rfl rfl ?_
    refine k_str ?_
    refine ⟨fun hb3 => ?_, ?_⟩
    · skip
      refine w_and1 ?_
      refine t_ne (α := Str) ?_
      refine k_var 0 rfl rfl ?_
      refine k_str ?_
      exact rfl
    refine ifB (fun h2 => ?_) (fun h2 => ?_)
    · skip
      refine ks_one (s_ret (α := Option Int) ?_)
      refine k_nonI ?_
      show (_ : Rz) = _
      exact congrArg (fun x => Rz.ok (dv x)) (readN_b h1 h2)
    · skip
      have h1_ := readN_h h1
      obtain ⟨n_, e_, l_⟩ := readN_int h1_.1 h1_.2.1 h1_.2.2
      refine ks_nil ?_
      show KSs _ ([.sh (dv s_)] : List Ent) _ _
      refine ks_one (s_ret (α := Option Int) ?_)
      refine k_some ?_
      refine k_intS T.nogl ?_
      refine k_var 0 rfl rfl ?_
      refine ⟨_, ⟨by assumption, by assumption⟩, ?_⟩
      show (_ : Rz) = _
      exact congrArg (fun x => Rz.ok (dv x)) ((readN_c h1 h2).trans e_)
/-! _format_hour -/
def S_format_hour : Pm := fun ds r => ∃ (h_ : Hr), ds = [dv h_] ∧ (h_.Ok) ∧ r = .ok (dv (hrT h_))
theorem ok_format_hour (T : Tx w K mg) : FnOk PP w K mg base (L2.CX PP w) 1 T.a_format_hour T.fd_format_hour ["hour"] (spOf K T.cls S_format_hour) := by
  refine fn_ok T.F_format_hour sc_format_hour (fun ds r h => by obtain ⟨h_, rfl, _⟩ := h; rfl) fun cd A outer s H E hs ds r hr h => ?_
  obtain ⟨h_, rfl, p1, rfl⟩ := h
  have p1' := p1
  unfold Hr.Ok at p1'
  have la_ := strI_len (i := h_.sl) 9 (by decide) (by omega)
  have lb_ := strI_len (i := h_.sh) 9 (by decide) (by omega)
  have lc_ := strI_len (i := h_.rl) 9 (by decide) (by omega)
  have ld_ := strI_len (i := h_.rh) 9 (by decide) (by omega)
  show KSs _ ([.sh (dv h_), .no, .no, .no, .no, .no, .no] : List Ent) _ _
  refine ks_cons (s_lets (α := Hr) (ds := Hr.ds) [1, 2, 3, 4, 5] (pgs_cons (pg_name (i := 1) sc_format_hour.nd rfl (by first | exact .inl rfl | exact .inr rfl)) (pgs_cons (pg_name (i := 2) sc_format_hour.nd rfl (by first | exact .inl rfl | exact .inr rfl)) (pgs_cons (pg_name (i := 3) sc_format_hour.nd rfl (by first | exact .inl rfl | exact .inr rfl)) (pgs_cons (pg_name (i := 4) sc_format_hour.nd rfl (by first | exact .inl rfl | exact .inr rfl)) (pgs_cons (pg_name (i := 5) sc_format_hour.nd rfl (by first | exact .inl rfl | exact .inr rfl)) (pgs_nil)))))) (fun _ => rfl) ?_)
  refine k_var 0 rfl rfl ?_
  intro z_ ez_; subst z_
  show KSs _ ([.sh (dv h_), .sh (dv h_.sl), .sh (dv h_.sh), .sh (dv h_.rl), .sh (dv h_.rh), .sh (dv h_.ship), .no] : List Ent) _ _
  refine ks_cons (s_let (α := Str) 6 sc_format_hour.nd rfl ?_)
  refine k_joinT ?_
  refine k_litT ?_
  refine ⟨short (by simp only [Str.length_append, l_emp, l_sp, l_hour]; omega), ?_⟩
  refine k_fmtIT ?_
  refine k_var 1 rfl rfl ?_
  refine ⟨by omega, ?_⟩
  refine ⟨short (by simp only [Str.length_append, l_emp, l_sp, l_hour]; omega), ?_⟩
  refine k_litT ?_
  refine ⟨short (by simp only [Str.length_append, l_emp, l_sp, l_hour]; omega), ?_⟩
  refine k_fmtIT ?_
  refine k_var 2 rfl rfl ?_
  refine ⟨by omega, ?_⟩
  refine ⟨short (by simp only [Str.length_append, l_emp, l_sp, l_hour]; omega), ?_⟩
  refine k_litT ?_
  refine ⟨short (by simp only [Str.length_append, l_emp, l_sp, l_hour]; omega), ?_⟩
  refine k_fmtIT ?_
  refine k_var 3 rfl rfl ?_
  refine ⟨by omega, ?_⟩
  refine ⟨short (by simp only [Str.length_append, l_emp, l_sp, l_hour]; omega), ?_⟩
  refine k_litT ?_
  refine ⟨short (by simp only [Str.length_append, l_emp, l_sp, l_hour]; omega), ?_⟩
  refine k_fmtIT ?_
  refine k_var 4 rfl rfl ?_
  refine ⟨by omega, ?_⟩
  refine ⟨short (by simp only [Str.length_append, l_emp, l_sp, l_hour]; omega), ?_⟩
  refine fun bounds bounds_e => ?_
  have bl_ : bounds.length ≤ 100 := by rw [bounds_e]; simp only [Str.length_append, l_emp, l_sp, l_hour]; omega
  show KSs _ ([.sh (dv h_), .sh (dv h_.sl), .sh (dv h_.sh), .sh (dv h_.rl), .sh (dv h_.rh), .sh (dv h_.ship), .sh (dv bounds)] : List Ent) _ _
  refine ks_one (s_ret (α := Str) ?_)
  refine k_if ?_
  refine t_val ?_
  refine k_var 5 rfl rfl ?_
  refine ifB (fun h1 => ?_) (fun h1 => ?_)
  · skip
    refine k_joinT ?_
    refine k_fmtST ?_
    refine k_var 6 rfl rfl ?_
    refine ⟨short (by omega), ?_⟩
    refine ⟨short (by rw [emp_app]; omega), ?_⟩
    refine k_litT ?_
    refine ⟨short (by rw [emp_app, Str.length_append, l_ship]; omega), ?_⟩
    show (_ : Rz) = _
    exact congrArg (fun x => Rz.ok (dv x)) (by rw [← hr_fmt h_ true h1, if_pos rfl, emp_app, bounds_e, emp_app])
  · skip
    refine k_var 6 rfl rfl ?_
    show (_ : Rz) = _
    exact congrArg (fun x => Rz.ok (dv x)) (by rw [← hr_fmt h_ false h1, if_neg (by decide), bounds_e, emp_app])
/-! hour_lines -/
def S_hour_lines : Pm := fun ds r => ∃ (c_ : Crs), ds = [dv c_] ∧ (c_.Ok) ∧ r = .ok (dv (c_.hours.map hrT))
theorem ok_hour_lines (T : Tx w K mg) : FnOk PP w K mg base (L2.CX PP w) 2 T.a_hour_lines T.fd_hour_lines ["course"] (spOf K T.cls S_hour_lines) := by
  refine fn_ok T.F_hour_lines sc_hour_lines (fun ds r h => by obtain ⟨c_, rfl, _⟩ := h; rfl) fun cd A outer s H E hs ds r hr h => ?_
  obtain ⟨c_, rfl, p1, rfl⟩ := h
  show KSs _ ([.sh (dv c_), .no] : List Ent) _ _
  refine ks_one (s_ret (α := List Str) ?_)
  refine k_ofLc (q_lc (α := Hr) (β := Str) [("hour", 1)] sc_hour_lines.nd (blkOk_by rfl) (Nat.le_of_ble_eq_true rfl) (fun F' ⟨s', H', C', cl', fp', hs', e'⟩ => by subst e'; exact g_name (α := Hr) 1 sc_hour_lines.nd rfl) (by decide) (by intro i hi o; simp only [List.map_cons, List.map_nil, List.mem_cons, List.not_mem_nil, or_false] at hi; subst hi <;> intro z <;> cases z) ?_)
  refine k_fld (n := 1) Crs.hours Crs.lk_hours T.cl_1 T.na_hours ?_
  refine k_var 0 rfl rfl ?_
  refine ⟨by have := p1.2.1; omega, fun _ => true, fun h => hrT h, ?_, ?_, ?_⟩
  · rintro F' hour ⟨s', H', C', cl', fp', hs', rfl⟩ comp1_m
    exact rfl
  · rintro F' hour ⟨s', H', C', cl', fp', hs', rfl⟩ comp1_m comp1_t
    show KE _ [.sh (dv c_), .sh (dv hour)] _ _ _
    refine k_call (ok_format_hour T) (hr.mono (by decide)) T.g_format_hour T.k_format_hour T.b_format_hour ?_
    refine a_cons (α := Hr) ?_
    refine k_var 1 rfl rfl ?_
    refine a_nil ?_
    refine ⟨_, ⟨_, rfl, p1.2.2 _ comp1_m, rfl⟩, Got.ok ?_⟩
    exact rfl
  show (_ : Rz) = _
  exact (by rw [filter_yes])
/-! _law_works -/
def S_law_works : List DV → (W5 → Prop) → Prop := fun ds r => ∃ (r_ : Rnd), ds = [dv r_] ∧ r = (fun w => w.Ok)
theorem ok_law_works (T : Tx w K mg) : FnOk PP w K mg base (L2.CX PP w) 3 T.a_law_works T.fd_law_works ["state"] (spAny K T.cls S_law_works) := by
  refine fn_any T.F_law_works sc_law_works (fun ds r h => by obtain ⟨r_, rfl, _⟩ := h; rfl) fun cd A outer s H E hs ds r hr h => ?_
  obtain ⟨r_, rfl, rfl⟩ := h
  show KSs _ ([.sh (dv r_), .no, .no] : List Ent) _ _
  refine ks_cons (s_let (α := Int) 1 sc_law_works.nd rfl ?_)
  refine k_add ?_
  refine k_int ?_
  refine k_callA (α := Int) (ok_law_take T) (hr.mono (by decide)) T.g_law_take T.k_law_take T.b_law_take ?_
  refine a_cons (α := Rnd) ?_
  refine k_var 0 rfl rfl ?_
  refine a_cons (α := Int) ?_
  refine k_int ?_
  refine a_nil ?_
  refine ⟨_, ⟨_, _, rfl, by first | assumption | omega, rfl⟩, fun law_take1_v law_take1_h => ?_⟩
  refine fun wall wall_e => ?_
  show KSs _ ([.sh (dv r_), .sh (dv wall), .no] : List Ent) _ _
  refine ks_cons (s_let (α := Int) 2 sc_law_works.nd rfl ?_)
  refine k_ixL ?_
  refine k_lst (α := List Int) (ds := dvs) ?_
  refine a_cons (α := Int) ?_
  refine k_int ?_
  refine a_cons (α := Int) ?_
  refine k_callA (α := Int) (ok_law_take T) (hr.mono (by decide)) T.g_law_take T.k_law_take T.b_law_take ?_
  refine a_cons (α := Rnd) ?_
  refine k_var 0 rfl rfl ?_
  refine a_cons (α := Int) ?_
  refine k_int ?_
  refine a_nil ?_
  refine ⟨_, ⟨_, _, rfl, by first | assumption | omega, rfl⟩, fun law_take2_v law_take2_h => ?_⟩
  refine a_nil ?_
  refine ⟨Nat.le_of_ble_eq_true rfl, [_, _], rfl, ?_⟩
  refine k_callA (α := Int) (ok_law_take T) (hr.mono (by decide)) T.g_law_take T.k_law_take T.b_law_take ?_
  refine a_cons (α := Rnd) ?_
  refine k_var 0 rfl rfl ?_
  refine a_cons (α := Int) ?_
  refine k_int ?_
  refine a_nil ?_
  refine ⟨_, ⟨_, _, rfl, by first | assumption | omega, rfl⟩, fun law_take3_v law_take3_h => ?_⟩
  obtain ⟨y_, ym_, yi_⟩ := pick_in (xs := [(0 : Int), law_take2_v]) (i := law_take3_v) (by simp only [List.length_cons, List.length_nil]; omega)
  have yb_ : 0 ≤ y_ ∧ y_ ≤ 5 := by
    simp only [List.mem_cons, List.not_mem_nil, or_false] at ym_
    rcases ym_ with rfl | rfl <;> omega
  refine ⟨y_, yi_, ?_⟩
  refine fun deep deep_e => ?_
  show KSs _ ([.sh (dv r_), .sh (dv wall), .sh (dv deep)] : List Ent) _ _
  refine ks_one (s_ret (α := W5) ?_)
  refine k_tup (α := W5) (ds := W5.ds) ?_
  refine a_cons (α := Int) ?_
  refine k_var 1 rfl rfl ?_
  refine a_cons (α := Int) ?_
  refine k_add ?_
  refine k_int ?_
  refine k_callA (α := Int) (ok_law_take T) (hr.mono (by decide)) T.g_law_take T.k_law_take T.b_law_take ?_
  refine a_cons (α := Rnd) ?_
  refine k_var 0 rfl rfl ?_
  refine a_cons (α := Int) ?_
  refine k_int ?_
  refine a_nil ?_
  refine ⟨_, ⟨_, _, rfl, by first | assumption | omega, rfl⟩, fun law_take4_v law_take4_h => ?_⟩
  refine a_cons (α := Int) ?_
  refine k_callA (α := Int) (ok_law_take T) (hr.mono (by decide)) T.g_law_take T.k_law_take T.b_law_take ?_
  refine a_cons (α := Rnd) ?_
  refine k_var 0 rfl rfl ?_
  refine a_cons (α := Int) ?_
  refine k_int ?_
  refine a_nil ?_
  refine ⟨_, ⟨_, _, rfl, by first | assumption | omega, rfl⟩, fun law_take5_v law_take5_h => ?_⟩
  refine a_cons (α := Int) ?_
  refine k_add ?_
  refine k_int ?_
  refine k_callA (α := Int) (ok_law_take T) (hr.mono (by decide)) T.g_law_take T.k_law_take T.b_law_take ?_
  refine a_cons (α := Rnd) ?_
  refine k_var 0 rfl rfl ?_
  refine a_cons (α := Int) ?_
  refine k_int ?_
  refine a_nil ?_
  refine ⟨_, ⟨_, _, rfl, by first | assumption | omega, rfl⟩, fun law_take6_v law_take6_h => ?_⟩
  refine a_cons (α := Int) ?_
  refine k_min2 T.nogl ?_
  refine k_var 2 rfl rfl ?_
  refine k_var 1 rfl rfl ?_
  refine a_nil ?_
  refine ⟨Nat.le_of_ble_eq_true rfl, ⟨_, _, _, _, _⟩, rfl, ?_⟩
  refine ⟨_, rfl, ?_⟩
  show W5.Ok _
  unfold W5.Ok
  dsimp only
  omega
/-! _law_hours -/
def S_law_hours : List DV → (List Hr → Prop) → Prop := fun ds r => ∃ (r_ : Rnd) (m_ : Int), ds = [dv r_, dv m_] ∧ (1 ≤ m_ ∧ m_ ≤ 72) ∧ r = (fun hs => (1 ≤ hs.length ∧ (hs.length : Int) ≤ m_) ∧ ∀ h ∈ hs, h.Ok ∧ h.sh ≤ 100 ∧ h.rh ≤ 100)
theorem ok_law_hours (T : Tx w K mg) : FnOk PP w K mg base (L2.CX PP w) 3 T.a_law_hours T.fd_law_hours ["state", "most"] (spAny K T.cls S_law_hours) := by
  refine fn_any T.F_law_hours sc_law_hours (fun ds r h => by obtain ⟨r_, m_, rfl, _⟩ := h; rfl) fun cd A outer s H E hs ds r hr h => ?_
  obtain ⟨r_, m_, rfl, p1, rfl⟩ := h
  show KSs _ ([.sh (dv r_), .sh (dv m_), .no, .no, .no, .no, .no] : List Ent) _ _
  refine ks_cons (s_new (α := Hr) 2 sc_law_hours.nd rfl (Nat.le_of_ble_eq_true rfl) ?_)
  refine a_nil ?_
  refine ⟨Nat.le_of_ble_eq_true rfl, ([] : List Hr), rfl, ?_⟩
  rintro _ rfl
  show KSs _ ([.sh (dv r_), .sh (dv m_), .ow (olist ([] : List Hr)), .no, .no, .no, .no] : List Ent) _ _
  show KSs _ ([.sh (dv r_), .sh (dv m_), .ow (olist ([] : List Hr)), .no, .no, .no, .no] : List Ent) _ _
  refine ks_cons (s_forR1 (g_name (α := Int) 3 sc_law_hours.nd rfl) T.nogl ?_)
  refine k_add ?_
  refine k_int ?_
  refine k_callA (α := Int) (ok_law_take T) (hr.mono (by decide)) T.g_law_take T.k_law_take T.b_law_take ?_
  refine a_cons (α := Rnd) ?_
  refine k_var 0 rfl rfl ?_
  refine a_cons (α := Int) ?_
  refine k_var 1 rfl rfl ?_
  refine a_nil ?_
  refine ⟨_, ⟨_, _, rfl, by first | assumption | omega, rfl⟩, fun law_take1_v law_take1_h => ?_⟩
  refine ⟨by omega, by omega, fun (i_for1 : Nat) e_ => ∃ (hs_ : List Hr), e_ = ([.sh (dv r_), .sh (dv m_), .ow (olist hs_), .no, .no, .no, .no] : List Ent) ∧ (hs_.length = i_for1 ∧ ∀ h ∈ hs_, h.Ok ∧ h.sh ≤ 100 ∧ h.rh ≤ 100), ?_, ?_, ?_⟩
  · exact ⟨_, rfl, rfl, fun _ z => nomatch z⟩
  · rintro i_for1 _ for1_lt ⟨hs_, rfl, for1_i⟩
    refine turn_fgt ?_
    obtain ⟨k, k_e⟩ : ∃ v_ : Int, v_ = ((i_for1 : Nat) : Int) := ⟨_, rfl⟩
    refine at_int (i := 3) k_e ?_
    show KSs _ ([.sh (dv r_), .sh (dv m_), .ow (olist hs_), .sh (dv k), .no, .no, .no] : List Ent) _ _
    refine ks_cons (s_let (α := Int) 4 sc_law_hours.nd rfl ?_)
    refine k_callA (α := Int) (ok_law_take T) (hr.mono (by decide)) T.g_law_take T.k_law_take T.b_law_take ?_
    refine a_cons (α := Rnd) ?_
    refine k_var 0 rfl rfl ?_
    refine a_cons (α := Int) ?_
    refine k_int ?_
    refine a_nil ?_
    refine ⟨_, ⟨_, _, rfl, by first | assumption | omega, rfl⟩, fun law_take2_v law_take2_h => ?_⟩
    refine fun low low_e => ?_
    show KSs _ ([.sh (dv r_), .sh (dv m_), .ow (olist hs_), .sh (dv k), .sh (dv low), .no, .no] : List Ent) _ _
    refine ks_cons (s_let (α := Int) 5 sc_law_hours.nd rfl ?_)
    refine k_callA (α := Int) (ok_law_take T) (hr.mono (by decide)) T.g_law_take T.k_law_take T.b_law_take ?_
    refine a_cons (α := Rnd) ?_
    refine k_var 0 rfl rfl ?_
    refine a_cons (α := Int) ?_
    refine k_int ?_
    refine a_nil ?_
    refine ⟨_, ⟨_, _, rfl, by first | assumption | omega, rfl⟩, fun law_take3_v law_take3_h => ?_⟩
    refine fun least least_e => ?_
    show KSs _ ([.sh (dv r_), .sh (dv m_), .ow (olist hs_), .sh (dv k), .sh (dv low), .sh (dv least), .no] : List Ent) _ _
    refine ks_cons (s_let (α := Bool) 6 sc_law_hours.nd rfl ?_)
    refine k_eq (α := Int) ?_
    refine k_callA (α := Int) (ok_law_take T) (hr.mono (by decide)) T.g_law_take T.k_law_take T.b_law_take ?_
    refine a_cons (α := Rnd) ?_
    refine k_var 0 rfl rfl ?_
    refine a_cons (α := Int) ?_
    refine k_int ?_
    refine a_nil ?_
    refine ⟨_, ⟨_, _, rfl, by first | assumption | omega, rfl⟩, fun law_take4_v law_take4_h => ?_⟩
    refine k_int ?_
    refine fun ship ship_e => ?_
    show KSs _ ([.sh (dv r_), .sh (dv m_), .ow (olist hs_), .sh (dv k), .sh (dv low), .sh (dv least), .sh (dv ship)] : List Ent) _ _
    refine ks_one (s_app 2 rfl rfl (by omega) ?_)
    refine k_tup (α := Hr) (ds := Hr.ds) ?_
    refine a_cons (α := Int) ?_
    refine k_var 4 rfl rfl ?_
    refine a_cons (α := Int) ?_
    refine k_add ?_
    refine k_var 4 rfl rfl ?_
    refine k_callA (α := Int) (ok_law_take T) (hr.mono (by decide)) T.g_law_take T.k_law_take T.b_law_take ?_
    refine a_cons (α := Rnd) ?_
    refine k_var 0 rfl rfl ?_
    refine a_cons (α := Int) ?_
    refine k_int ?_
    refine a_nil ?_
    refine ⟨_, ⟨_, _, rfl, by first | assumption | omega, rfl⟩, fun law_take5_v law_take5_h => ?_⟩
    refine a_cons (α := Int) ?_
    refine k_var 5 rfl rfl ?_
    refine a_cons (α := Int) ?_
    refine k_add ?_
    refine k_var 5 rfl rfl ?_
    refine k_callA (α := Int) (ok_law_take T) (hr.mono (by decide)) T.g_law_take T.k_law_take T.b_law_take ?_
    refine a_cons (α := Rnd) ?_
    refine k_var 0 rfl rfl ?_
    refine a_cons (α := Int) ?_
    refine k_int ?_
    refine a_nil ?_
    refine ⟨_, ⟨_, _, rfl, by first | assumption | omega, rfl⟩, fun law_take6_v law_take6_h => ?_⟩
    refine a_cons (α := Bool) ?_
    refine k_var 6 rfl rfl ?_
    refine a_nil ?_
    refine ⟨Nat.le_of_ble_eq_true rfl, ⟨_, _, _, _, _⟩, rfl, ?_⟩
    refine fun hours_app1 hours_app1_e => ?_
    exact ⟨[4, 5, 6, 3], _, rfl, by rw [hours_app1_e, List.length_append, for1_i.1]; rfl, by
      rw [hours_app1_e]
      exact fun x hx => (List.mem_append.mp hx).elim (for1_i.2 x) (fun z => by rw [List.mem_singleton.mp z]; unfold Hr.Ok; dsimp only; omega)⟩
  · rintro _ ⟨hs_, rfl, for1_d⟩
    show KSs _ ([.sh (dv r_), .sh (dv m_), .ow (olist hs_), .no, .no, .no, .no] : List Ent) _ _
    refine ks_freeze 2 rfl ?_
    show KSs _ ([.sh (dv r_), .sh (dv m_), .sh (dv hs_), .no, .no, .no, .no] : List Ent) _ _
    refine ks_one (s_ret (α := List Hr) ?_)
    refine k_var 2 rfl rfl ?_
    refine ⟨_, rfl, ?_⟩
    exact ⟨by rw [for1_d.1]; omega, for1_d.2⟩
/-! _law_lines -/
def S_law_lines : Pm := fun ds r => ∃ (w_ : W5) (hs_ : List Hr), ds = [dv w_, dv hs_] ∧ (w_.Ok) ∧ (hs_.length ≤ 500) ∧ (∀ h ∈ hs_, h.Ok) ∧ r = .ok (dv (wkT w_ :: hs_.map hrT))
theorem ok_law_lines (T : Tx w K mg) : FnOk PP w K mg base (L2.CX PP w) 1 T.a_law_lines T.fd_law_lines ["works", "hours"] (spOf K T.cls S_law_lines) := by
  refine fn_ok T.F_law_lines sc_law_lines (fun ds r h => by obtain ⟨w_, hs_, rfl, _⟩ := h; rfl) fun cd A outer s H E hs ds r hr h => ?_
  obtain ⟨w_, hs_, rfl, p1, p2, p3, rfl⟩ := h
  show KSs _ ([.sh (dv w_), .sh (dv hs_), .no, .no, .no, .no] : List Ent) _ _
  refine ks_cons (s_new (α := Str) 2 sc_law_lines.nd rfl (Nat.le_of_ble_eq_true rfl) ?_)
  refine a_cons (α := Str) ?_
  refine k_addS ?_
  refine k_str ?_
  refine k_joinS ?_
  refine k_str ?_
  refine k_ofLc (q_lcT (α := Int) (β := Str) [("part", 3)] sc_law_lines.nd (blkOk_by rfl) (Nat.le_of_ble_eq_true rfl) (fun F' ⟨s', H', C', cl', fp', hs', e'⟩ => by subst e'; exact g_name (α := Int) 3 sc_law_lines.nd rfl) (by decide) (by intro i hi o; simp only [List.map_cons, List.map_nil, List.mem_cons, List.not_mem_nil, or_false] at hi; subst hi <;> intro z <;> cases z) ?_)
  refine k_cv (α := W5) ?_
  refine k_var 0 rfl rfl ?_
  refine ⟨_, cv_w5 _, ?_⟩
  refine ⟨Nat.le_of_ble_eq_true rfl, fun _ => true, fun x => strI x, ?_, ?_, ?_⟩
  · rintro F' part ⟨s', H', C', cl', fp', hs', rfl⟩ comp1_m
    exact rfl
  · rintro F' part ⟨s', H', C', cl', fp', hs', rfl⟩ comp1_m comp1_t
    show KE _ [.sh (dv w_), .sh (dv hs_), .no, .sh (dv part), .no, .no] _ _ _
    refine k_strI T.nogl ?_
    refine k_var 3 rfl rfl ?_
    have pm_ := w5_mem p1 (x := part) comp1_m
    refine ⟨by omega, ?_⟩
    exact rfl
  have jn_ := join_n (xs := [w_.a, w_.b, w_.c, w_.d, w_.e]) (Nat.le_of_ble_eq_true rfl) (fun x m => w5_mem p1 m)
  refine ⟨by rw [filter_yes]; exact jn_.1, ?_⟩
  refine ⟨short (by rw [l_works]; have := jn_.2; rw [filter_yes]; exact Nat.le_trans (Nat.add_le_add_left this 6) (by decide)), ?_⟩
  refine a_nil ?_
  refine ⟨Nat.le_of_ble_eq_true rfl, ([_] : List Str), rfl, ?_⟩
  refine fun lines lines_e => ?_
  show KSs _ ([.sh (dv w_), .sh (dv hs_), .ow (olist lines), .no, .no, .no] : List Ent) _ _
  show KSs _ ([.sh (dv w_), .sh (dv hs_), .ow (olist lines), .no, .no, .no] : List Ent) _ _
  refine ks_cons (s_for (α := Hr) (g_name (α := Hr) 4 sc_law_lines.nd rfl) ?_)
  refine k_var 1 rfl rfl ?_
  refine ⟨fun (i_for1 : Nat) e_ => e_ = ([.sh (dv w_), .sh (dv hs_), .ow (olist (wkT w_ :: (hs_.take i_for1).map hrT)), .no, .no, .no] : List Ent) ∧ (True), ?_, ?_, ?_⟩
  · exact ⟨by rw [← wk_line, lines_e]; rfl, trivial⟩
  · rintro i_for1 hour _ for1_at ⟨rfl, for1_i⟩
    refine turn_fgt ?_
    show KSs _ ([.sh (dv w_), .sh (dv hs_), .ow (olist (wkT w_ :: (hs_.take i_for1).map hrT)), .no, .sh (dv hour), .no] : List Ent) _ _
    have hk_ : hour.Ok := p3 _ (List.mem_of_getElem? for1_at)
    have tk_ : hs_.take (i_for1 + 1) = hs_.take i_for1 ++ [hour] := by rw [List.take_add_one, for1_at]; rfl
    refine ks_cons (s_let (α := Str) 5 sc_law_lines.nd rfl ?_)
    refine k_addS ?_
    refine k_str ?_
    refine k_joinS ?_
    refine k_str ?_
    refine k_ofLc (q_lcT (α := Int) (β := Str) [("part", 3)] sc_law_lines.nd (blkOk_by rfl) (Nat.le_of_ble_eq_true rfl) (fun F' ⟨s', H', C', cl', fp', hs', e'⟩ => by subst e'; exact g_name (α := Int) 3 sc_law_lines.nd rfl) (by decide) (by intro i hi o; simp only [List.map_cons, List.map_nil, List.mem_cons, List.not_mem_nil, or_false] at hi; subst hi <;> intro z <;> cases z) ?_)
    refine k_slTup (α := Hr) (β := Int) (ds := Hr.ds) ?_
    refine k_var 4 rfl rfl ?_
    refine k_int ?_
    refine ⟨⟨by decide, by show (4 : Int) < ((5 : Nat) : Int); decide⟩, ⟨[_, _, _, _]⟩, rfl, ?_⟩
    refine ⟨Nat.le_of_ble_eq_true rfl, fun _ => true, fun x => strI x, ?_, ?_, ?_⟩
    · rintro F' part ⟨s', H', C', cl', fp', hs', rfl⟩ comp2_m
      exact rfl
    · rintro F' part ⟨s', H', C', cl', fp', hs', rfl⟩ comp2_m comp2_t
      show KE _ [.sh (dv w_), .sh (dv hs_), .ow (olist (wkT w_ :: (hs_.take i_for1).map hrT)), .sh (dv part), .sh (dv hour), .no] _ _ _
      refine k_strI T.nogl ?_
      refine k_var 3 rfl rfl ?_
      have pm_ := h4_mem hk_ (x := part) comp2_m
      refine ⟨by omega, ?_⟩
      exact rfl
    have jh_ := join_n (xs := [hour.sl, hour.sh, hour.rl, hour.rh]) (Nat.le_of_ble_eq_true rfl) (fun x m => h4_mem hk_ m)
    refine ⟨by rw [filter_yes]; exact jh_.1, ?_⟩
    refine ⟨short (by rw [l_hour]; have := jh_.2; rw [filter_yes]; exact Nat.le_trans (Nat.add_le_add_left this 5) (by decide)), ?_⟩
    refine fun line line_e => ?_
    show KSs _ ([.sh (dv w_), .sh (dv hs_), .ow (olist (wkT w_ :: (hs_.take i_for1).map hrT)), .no, .sh (dv hour), .sh (dv line)] : List Ent) _ _
    refine ks_cons (s_if ?_)
    refine t_val ?_
    refine k_ixT (α := Hr) (ds := Hr.ds) 4 Hr.ship (fun _ => rfl) rfl ?_
    refine k_var 4 rfl rfl ?_
    refine ifB (fun h1 => ?_) (fun h1 => ?_)
    · skip
      refine ks_one (s_let (α := Str) 5 sc_law_lines.nd rfl ?_)
      refine k_addS ?_
      refine k_var 5 rfl rfl ?_
      refine k_str ?_
      refine ⟨short (by rw [line_e, filter_yes, Str.length_append, l_hour, l_ship]; have := jh_.2; exact Nat.le_trans (Nat.add_le_add_right (Nat.add_le_add_left this 5) 5) (by decide)), ?_⟩
      refine fun line line_e2 => ?_
      show KSs _ ([.sh (dv w_), .sh (dv hs_), .ow (olist (wkT w_ :: (hs_.take i_for1).map hrT)), .no, .sh (dv hour), .sh (dv line)] : List Ent) _ _
      refine ks_one (s_app 2 rfl rfl (by rw [List.length_cons, List.length_map, List.length_take]; omega) ?_)
      refine k_var 5 rfl rfl ?_
      refine fun lines_app1 lines_app1_e => ?_
      have ln_ : line = hrT hour := by
        rw [line_e2, line_e, filter_yes]
        exact (if_pos rfl).symm.trans (hr_line hour true h1)
      have le_ : lines_app1 = wkT w_ :: (hs_.take (i_for1 + 1)).map hrT := by
        rw [lines_app1_e, tk_, List.map_append, ln_]; rfl
      exact ⟨[5, 4], by rw [← le_]; rfl, trivial⟩
    · skip
      refine ks_nil ?_
      show KSs _ ([.sh (dv w_), .sh (dv hs_), .ow (olist (wkT w_ :: (hs_.take i_for1).map hrT)), .no, .sh (dv hour), .sh (dv line)] : List Ent) _ _
      refine ks_one (s_app 2 rfl rfl (by rw [List.length_cons, List.length_map, List.length_take]; omega) ?_)
      refine k_var 5 rfl rfl ?_
      refine fun lines_app2 lines_app2_e => ?_
      have ln_ : line = hrT hour := by
        rw [line_e, filter_yes]
        exact (if_neg (by decide)).symm.trans (hr_line hour false h1)
      have le_ : lines_app2 = wkT w_ :: (hs_.take (i_for1 + 1)).map hrT := by
        rw [lines_app2_e, tk_, List.map_append, ln_]; rfl
      exact ⟨[5, 4], by rw [← le_]; rfl, trivial⟩
  · rintro _ ⟨rfl, for1_d⟩
    show KSs _ ([.sh (dv w_), .sh (dv hs_), .ow (olist (wkT w_ :: (hs_.take (hs_.length)).map hrT)), .no, .no, .no] : List Ent) _ _
    refine ks_freeze 2 rfl ?_
    show KSs _ ([.sh (dv w_), .sh (dv hs_), .sh (dv (wkT w_ :: (hs_.take (hs_.length)).map hrT)), .no, .no, .no] : List Ent) _ _
    refine ks_one (s_ret (α := List Str) ?_)
    refine k_var 2 rfl rfl ?_
    show (_ : Rz) = _
    exact (by rw [List.take_length])
/-! _law_text -/
def S_law_text : Pm := fun ds r => ∃ (ls_ : List Str), ds = [dv ls_] ∧ (ls_.length ≤ 1000) ∧ (∀ l ∈ ls_, l.length ≤ 200) ∧ r = .ok (dv (bookT ls_))
theorem ok_law_text (T : Tx w K mg) : FnOk PP w K mg base (L2.CX PP w) 1 T.a_law_text T.fd_law_text ["lines"] (spOf K T.cls S_law_text) := by
  refine fn_ok T.F_law_text sc_law_text (fun ds r h => by obtain ⟨ls_, rfl, _⟩ := h; rfl) fun cd A outer s H E hs ds r hr h => ?_
  obtain ⟨ls_, rfl, p1, p2, rfl⟩ := h
  show KSs _ ([.sh (dv ls_), .no] : List Ent) _ _
  refine ks_one (s_ret (α := Str) ?_)
  refine k_joinS ?_
  refine k_str ?_
  refine k_ofLc (q_lc (α := Str) (β := Str) [("line", 1)] sc_law_text.nd (blkOk_by rfl) (Nat.le_of_ble_eq_true rfl) (fun F' ⟨s', H', C', cl', fp', hs', e'⟩ => by subst e'; exact g_name (α := Str) 1 sc_law_text.nd rfl) (by decide) (by intro i hi o; simp only [List.map_cons, List.map_nil, List.mem_cons, List.not_mem_nil, or_false] at hi; subst hi <;> intro z <;> cases z) ?_)
  refine k_var 0 rfl rfl ?_
  refine ⟨by omega, fun _ => true, fun l : Str => l ++ ("\n" : Str), ?_, ?_, ?_⟩
  · rintro F' line ⟨s', H', C', cl', fp', hs', rfl⟩ comp1_m
    exact rfl
  · rintro F' line ⟨s', H', C', cl', fp', hs', rfl⟩ comp1_m comp1_t
    show KE _ [.sh (dv ls_), .sh (dv line)] _ _ _
    refine k_addS ?_
    refine k_var 1 rfl rfl ?_
    refine k_str ?_
    refine ⟨short (by rw [l_nl]; have := p2 line comp1_m; omega), ?_⟩
    exact rfl
  refine ⟨by rw [filter_yes]; exact book_join p1 p2, ?_⟩
  show (_ : Rz) = _
  exact (by rw [filter_yes]; rfl)
/-! format_book -/
def S_format_book : Pm := fun ds r => ∃ (w_ : Wk) (c_ : Crs), ds = [dv w_, dv c_] ∧ (w_.Ok) ∧ (c_.Ok) ∧ r = .ok (dv (bookT (wkT (W5.of w_) :: c_.hours.map hrT)))
theorem ok_format_book (T : Tx w K mg) : FnOk PP w K mg base (L2.CX PP w) 3 T.a_format_book T.fd_format_book ["works", "course"] (spOf K T.cls S_format_book) := by
  refine fn_ok T.F_format_book sc_format_book (fun ds r h => by obtain ⟨w_, c_, rfl, _⟩ := h; rfl) fun cd A outer s H E hs ds r hr h => ?_
  obtain ⟨w_, c_, rfl, p1, p2, rfl⟩ := h
  have p1' := p1
  unfold Wk.Ok at p1'
  have lw_ := strI_len (i := w_.wall) 9 (by decide) (by omega)
  have lf_ := strI_len (i := w_.flow) 9 (by decide) (by omega)
  have lp_ := strI_len (i := w_.pump) 9 (by decide) (by omega)
  have lr_ := strI_len (i := w_.rest) 9 (by decide) (by omega)
  have ld_ := strI_len (i := w_.deep) 9 (by decide) (by omega)
  show KSs _ ([.sh (dv w_), .sh (dv c_), .no, .no, .no] : List Ent) _ _
  refine ks_cons (s_let (α := Str) 2 sc_format_book.nd rfl ?_)
  refine k_joinT ?_
  refine k_litT ?_
  refine ⟨short (by simp only [Str.length_append, l_emp, l_sp, l_works]; omega), ?_⟩
  refine k_fmtIT ?_
  refine k_fld (n := 0) Wk.wall Wk.lk_wall T.cl_0 T.na_wall ?_
  refine k_var 0 rfl rfl ?_
  refine ⟨by omega, ?_⟩
  refine ⟨short (by simp only [Str.length_append, l_emp, l_sp, l_works]; omega), ?_⟩
  refine k_litT ?_
  refine ⟨short (by simp only [Str.length_append, l_emp, l_sp, l_works]; omega), ?_⟩
  refine k_fmtIT ?_
  refine k_fld (n := 0) Wk.flow Wk.lk_flow T.cl_0 T.na_flow ?_
  refine k_var 0 rfl rfl ?_
  refine ⟨by omega, ?_⟩
  refine ⟨short (by simp only [Str.length_append, l_emp, l_sp, l_works]; omega), ?_⟩
  refine k_litT ?_
  refine ⟨short (by simp only [Str.length_append, l_emp, l_sp, l_works]; omega), ?_⟩
  refine k_fmtIT ?_
  refine k_fld (n := 0) Wk.pump Wk.lk_pump T.cl_0 T.na_pump ?_
  refine k_var 0 rfl rfl ?_
  refine ⟨by omega, ?_⟩
  refine ⟨short (by simp only [Str.length_append, l_emp, l_sp, l_works]; omega), ?_⟩
  refine k_litT ?_
  refine ⟨short (by simp only [Str.length_append, l_emp, l_sp, l_works]; omega), ?_⟩
  refine k_fmtIT ?_
  refine k_fld (n := 0) Wk.rest Wk.lk_rest T.cl_0 T.na_rest ?_
  refine k_var 0 rfl rfl ?_
  refine ⟨by omega, ?_⟩
  refine ⟨short (by simp only [Str.length_append, l_emp, l_sp, l_works]; omega), ?_⟩
  refine k_litT ?_
  refine ⟨short (by simp only [Str.length_append, l_emp, l_sp, l_works]; omega), ?_⟩
  refine k_fmtIT ?_
  refine k_fld (n := 0) Wk.deep Wk.lk_deep T.cl_0 T.na_deep ?_
  refine k_var 0 rfl rfl ?_
  refine ⟨by omega, ?_⟩
  refine ⟨short (by simp only [Str.length_append, l_emp, l_sp, l_works]; omega), ?_⟩
  refine fun head head_e => ?_
  have hd_ : head = wkT (W5.of w_) := by rw [head_e, emp_app]; exact wk_fmt (W5.of w_)
  clear head_e
  subst hd_
  show KSs _ ([.sh (dv w_), .sh (dv c_), .sh (dv (wkT (W5.of w_))), .no, .no] : List Ent) _ _
  refine ks_cons (s_let (α := List Str) 3 sc_format_book.nd rfl ?_)
  refine k_lst (α := List Str) (ds := dvs) ?_
  refine a_cons (α := Str) ?_
  refine k_var 2 rfl rfl ?_
  refine a_star (α := Str) ?_
  refine k_call (ok_hour_lines T) (hr.mono (by decide)) T.g_hour_lines T.k_hour_lines T.b_hour_lines ?_
  refine a_cons (α := Crs) ?_
  refine k_var 1 rfl rfl ?_
  refine a_nil ?_
  refine ⟨_, ⟨_, rfl, by first | assumption | omega, rfl⟩, Got.ok ?_⟩
  refine a_nil ?_
  refine ⟨by simp [dvs_len]; have := p2.2.1; omega, wkT (W5.of w_) :: c_.hours.map hrT, by simp [dvs], ?_⟩
  refine fun lines lines_e => ?_
  have ll_ : ∀ l ∈ lines, l.length ≤ 120 := by rw [lines_e]; exact lines_len (w5_of p1) p2.2.2
  have ln_ : lines.length ≤ 73 := by rw [lines_e, List.length_cons, List.length_map]; have := p2.2.1; omega
  show KSs _ ([.sh (dv w_), .sh (dv c_), .sh (dv (wkT (W5.of w_))), .sh (dv lines), .no] : List Ent) _ _
  refine ks_one (s_ret (α := Str) ?_)
  refine k_joinS ?_
  refine k_str ?_
  refine k_ofLc (q_lc (α := Str) (β := Str) [("line", 4)] sc_format_book.nd (blkOk_by rfl) (Nat.le_of_ble_eq_true rfl) (fun F' ⟨s', H', C', cl', fp', hs', e'⟩ => by subst e'; exact g_name (α := Str) 4 sc_format_book.nd rfl) (by decide) (by intro i hi o; simp only [List.map_cons, List.map_nil, List.mem_cons, List.not_mem_nil, or_false] at hi; subst hi <;> intro z <;> cases z) ?_)
  refine k_var 3 rfl rfl ?_
  refine ⟨by omega, fun _ => true, fun l : Str => l ++ ("\n" : Str), ?_, ?_, ?_⟩
  · rintro F' line ⟨s', H', C', cl', fp', hs', rfl⟩ comp1_m
    exact rfl
  · rintro F' line ⟨s', H', C', cl', fp', hs', rfl⟩ comp1_m comp1_t
    show KE _ [.sh (dv w_), .sh (dv c_), .sh (dv (wkT (W5.of w_))), .sh (dv lines), .sh (dv line)] _ _ _
    refine k_joinT ?_
    refine k_fmtST ?_
    refine k_var 4 rfl rfl ?_
    have lm_ := ll_ line comp1_m
    refine ⟨short (by omega), ?_⟩
    refine ⟨short (by rw [emp_app]; omega), ?_⟩
    refine k_litT ?_
    refine ⟨short (by rw [emp_app, Str.length_append, l_nl]; omega), ?_⟩
    show Str.empty ++ line ++ ("\n" : Str) = line ++ ("\n" : Str)
    rw [emp_app]
  refine ⟨by rw [filter_yes]; exact book_join (by omega) (fun l m => Nat.le_trans (ll_ l m) (by decide)), ?_⟩
  show (_ : Rz) = _
  exact congrArg (fun x => Rz.ok (dv x)) (by rw [filter_yes, lines_e]; rfl)
/-! _law_wide -/
def S_law_wide : List DV → (List Hr → Prop) → Prop := fun ds r => ∃ (r_ : Rnd) (hs_ : List Hr), ds = [dv r_, dv hs_] ∧ (hs_.length ≤ 12) ∧ (∀ h ∈ hs_, h.Ok ∧ h.sh ≤ 100 ∧ h.rh ≤ 100) ∧ r = (fun hs => hs.length = hs_.length ∧ ∀ h ∈ hs, h.Ok)
theorem ok_law_wide (T : Tx w K mg) : FnOk PP w K mg base (L2.CX PP w) 3 T.a_law_wide T.fd_law_wide ["state", "hours"] (spAny K T.cls S_law_wide) := by
  refine fn_any T.F_law_wide sc_law_wide (fun ds r h => by obtain ⟨r_, hs_, rfl, _⟩ := h; rfl) fun cd A outer s H E hs ds r hr h => ?_
  obtain ⟨r_, hs_, rfl, p1, p2, rfl⟩ := h
  show KSs _ ([.sh (dv r_), .sh (dv hs_), .no, .no, .no, .no, .no, .no, .no] : List Ent) _ _
  refine ks_cons (s_new (α := Hr) 2 sc_law_wide.nd rfl (Nat.le_of_ble_eq_true rfl) ?_)
  refine a_nil ?_
  refine ⟨Nat.le_of_ble_eq_true rfl, ([] : List Hr), rfl, ?_⟩
  rintro _ rfl
  show KSs _ ([.sh (dv r_), .sh (dv hs_), .ow (olist ([] : List Hr)), .no, .no, .no, .no, .no, .no] : List Ent) _ _
  show KSs _ ([.sh (dv r_), .sh (dv hs_), .ow (olist ([] : List Hr)), .no, .no, .no, .no, .no, .no] : List Ent) _ _
  refine ks_cons (s_for (α := Hr) (g_tup (ds := Hr.ds) [3, 4, 5, 6, 7] (pgs_cons (pg_name (i := 3) sc_law_wide.nd rfl (by first | exact .inl rfl | exact .inr rfl)) (pgs_cons (pg_name (i := 4) sc_law_wide.nd rfl (by first | exact .inl rfl | exact .inr rfl)) (pgs_cons (pg_name (i := 5) sc_law_wide.nd rfl (by first | exact .inl rfl | exact .inr rfl)) (pgs_cons (pg_name (i := 6) sc_law_wide.nd rfl (by first | exact .inl rfl | exact .inr rfl)) (pgs_cons (pg_name (i := 7) sc_law_wide.nd rfl (by first | exact .inl rfl | exact .inr rfl)) (pgs_nil)))))) (fun _ => rfl)) ?_)
  refine k_var 1 rfl rfl ?_
  refine ⟨fun (i_for1 : Nat) e_ => ∃ (ws_ : List Hr), e_ = ([.sh (dv r_), .sh (dv hs_), .ow (olist ws_), .no, .no, .no, .no, .no, .no] : List Ent) ∧ (ws_.length = i_for1 ∧ ∀ h ∈ ws_, h.Ok), ?_, ?_, ?_⟩
  · exact ⟨_, rfl, rfl, fun _ z => nomatch z⟩
  · rintro i_for1 it_for1 _ for1_at ⟨ws_, rfl, for1_i⟩
    refine turn_fgt ?_
    show KSs _ ([.sh (dv r_), .sh (dv hs_), .ow (olist ws_), .sh (dv (Hr.sl it_for1)), .sh (dv (Hr.sh it_for1)), .sh (dv (Hr.rl it_for1)), .sh (dv (Hr.rh it_for1)), .sh (dv (Hr.ship it_for1)), .no] : List Ent) _ _
    have li_ : i_for1 < hs_.length := (List.getElem?_eq_some_iff.mp for1_at).1
    have hk_ := p2 _ (List.mem_of_getElem? for1_at)
    have hk2_ := hk_.1
    unfold Hr.Ok at hk2_
    refine ks_cons (s_let (α := Int) 8 sc_law_wide.nd rfl ?_)
    refine k_ixL ?_
    refine k_lst (α := List Int) (ds := dvs) ?_
    refine a_cons (α := Int) ?_
    refine k_int ?_
    refine a_cons (α := Int) ?_
    refine k_int ?_
    refine a_nil ?_
    refine ⟨Nat.le_of_ble_eq_true rfl, [_, _], rfl, ?_⟩
    refine k_callA (α := Int) (ok_law_take T) (hr.mono (by decide)) T.g_law_take T.k_law_take T.b_law_take ?_
    refine a_cons (α := Rnd) ?_
    refine k_var 0 rfl rfl ?_
    refine a_cons (α := Int) ?_
    refine k_int ?_
    refine a_nil ?_
    refine ⟨_, ⟨_, _, rfl, by first | assumption | omega, rfl⟩, fun law_take1_v law_take1_h => ?_⟩
    obtain ⟨y_, ym_, yi_⟩ := pick_in (xs := [(0 : Int), 300]) (i := law_take1_v) (by simp only [List.length_cons, List.length_nil]; omega)
    have yb_ : 0 ≤ y_ ∧ y_ ≤ 300 := by
      simp only [List.mem_cons, List.not_mem_nil, or_false] at ym_
      rcases ym_ with rfl | rfl <;> omega
    refine ⟨y_, yi_, ?_⟩
    refine fun rise rise_e => ?_
    show KSs _ ([.sh (dv r_), .sh (dv hs_), .ow (olist ws_), .sh (dv (Hr.sl it_for1)), .sh (dv (Hr.sh it_for1)), .sh (dv (Hr.rl it_for1)), .sh (dv (Hr.rh it_for1)), .sh (dv (Hr.ship it_for1)), .sh (dv rise)] : List Ent) _ _
    refine ks_one (s_app 2 rfl rfl (by rw [for1_i.1]; omega) ?_)
    refine k_tup (α := Hr) (ds := Hr.ds) ?_
    refine a_cons (α := Int) ?_
    refine k_var 3 rfl rfl ?_
    refine a_cons (α := Int) ?_
    refine k_add ?_
    refine k_var 4 rfl rfl ?_
    refine k_var 8 rfl rfl ?_
    refine a_cons (α := Int) ?_
    refine k_var 5 rfl rfl ?_
    refine a_cons (α := Int) ?_
    refine k_add ?_
    refine k_var 6 rfl rfl ?_
    refine k_var 8 rfl rfl ?_
    refine a_cons (α := Bool) ?_
    refine k_var 7 rfl rfl ?_
    refine a_nil ?_
    refine ⟨Nat.le_of_ble_eq_true rfl, ⟨it_for1.sl, it_for1.sh + rise, it_for1.rl, it_for1.rh + rise, it_for1.ship⟩, rfl, ?_⟩
    refine fun wide_app1 wide_app1_e => ?_
    exact ⟨[8, 3, 4, 5, 6, 7], _, rfl, by rw [wide_app1_e, List.length_append, for1_i.1]; rfl, by
      rw [wide_app1_e]
      exact fun x hx => (List.mem_append.mp hx).elim (for1_i.2 x) (fun z => by rw [List.mem_singleton.mp z]; unfold Hr.Ok; dsimp only; omega)⟩
  · rintro _ ⟨ws_, rfl, for1_d⟩
    show KSs _ ([.sh (dv r_), .sh (dv hs_), .ow (olist ws_), .no, .no, .no, .no, .no, .no] : List Ent) _ _
    refine ks_freeze 2 rfl ?_
    show KSs _ ([.sh (dv r_), .sh (dv hs_), .sh (dv ws_), .no, .no, .no, .no, .no, .no] : List Ent) _ _
    refine ks_one (s_ret (α := List Hr) ?_)
    refine k_var 2 rfl rfl ?_
    refine ⟨_, rfl, ?_⟩
    exact ⟨by rw [for1_d.1], for1_d.2⟩
/-! _read_numbers -/
def S_read_numbers : Pm := fun ds r => ∃ (n_ : Str) (ws_ : List Str) (m_ : Int), ds = [dv n_, dv ws_, dv m_] ∧ (ws_ ≠ []) ∧ (ws_.length ≤ 39000) ∧ (∀ w ∈ ws_, w.length ≤ 1000000) ∧ r = .ok (dv (Op.mk (readNs n_ ws_ m_)))
theorem ok_read_numbers (T : Tx w K mg) : FnOk PP w K mg base (L2.CX PP w) 2 T.a_read_numbers T.fd_read_numbers ["name", "words", "many"] (spOf K T.cls S_read_numbers) := by
  refine fn_ok T.F_read_numbers sc_read_numbers (fun ds r h => by obtain ⟨n_, ws_, m_, rfl, _⟩ := h; rfl) fun cd A outer s H E hs ds r hr h => ?_
  obtain ⟨n_, ws_, m_, rfl, p1, p2, p3, rfl⟩ := h
  show KSs _ ([.sh (dv n_), .sh (dv ws_), .sh (dv m_), .no, .no] : List Ent) _ _
  refine ks_cons (s_letLc 3 rfl (q_lc (α := Str) (β := Option Int) [("word", 4)] sc_read_numbers.nd (blkOk_by rfl) (Nat.le_of_ble_eq_true rfl) (fun F' ⟨s', H', C', cl', fp', hs', e'⟩ => by subst e'; exact g_name (α := Str) 4 sc_read_numbers.nd rfl) (by decide) (by intro i hi o; simp only [List.map_cons, List.map_nil, List.mem_cons, List.not_mem_nil, or_false] at hi; subst hi <;> intro z <;> cases z) ?_))
  refine k_slFrom ?_
  refine k_var 1 rfl rfl ?_
  refine k_int ?_
  refine ⟨by omega, ?_⟩
  refine ⟨by rw [List.length_drop]; omega, fun _ => true, fun w => readN w, ?_, ?_, ?_⟩
  · rintro F' word ⟨s', H', C', cl', fp', hs', rfl⟩ comp1_m
    exact rfl
  · rintro F' word ⟨s', H', C', cl', fp', hs', rfl⟩ comp1_m comp1_t
    show KE _ [.sh (dv n_), .sh (dv ws_), .sh (dv m_), .no, .sh (dv word)] _ _ _
    refine k_call (ok_read_number T) (hr.mono (by decide)) T.g_read_number T.k_read_number T.b_read_number ?_
    refine a_cons (α := Str) ?_
    refine k_var 4 rfl rfl ?_
    refine a_nil ?_
    refine ⟨_, ⟨_, rfl, p3 _ (List.mem_of_mem_drop comp1_m), rfl⟩, Got.ok ?_⟩
    exact rfl
  refine fun numbers numbers_e => ?_
  have nm_ : numbers = (ws_.drop 1).map readN := by rw [numbers_e, filter_yes]; rfl
  show KSs _ ([.sh (dv n_), .sh (dv ws_), .sh (dv m_), .sh (dv numbers), .no] : List Ent) _ _
  refine ks_cons (s_if ?_)
  refine t_w ?_
  refine' w_orD _ ?_; rotate_left
  refine t_ne (α := Str) ?_
  refine k_ixL ?_
  refine k_var 1 rfl rfl ?_
  refine k_int ?_
  refine ⟨ws_.getD 0 Str.empty, ⟨by decide, getD_at (List.length_pos_iff.mpr p1)⟩, ?_⟩
  refine k_var 0 rfl rfl ?_
  refine ⟨fun hb1 => ?_, ?_⟩
  · skip
    refine' w_orD _ ?_; rotate_left
    refine t_ne (α := Int) ?_
    refine k_lenL (α := (Option Int)) T.nogl ?_
    refine k_var 3 rfl rfl ?_
    refine k_var 2 rfl rfl ?_
    refine ⟨fun hb2 => ?_, ?_⟩
    · skip
      refine w_or1 ?_
      refine t_noneInL ?_
      refine k_var 3 rfl rfl ?_
      exact rfl
    exact rfl
  refine ifB (fun h1 => ?_) (fun h1 => ?_)
  · skip
    refine ks_one (s_ret (α := Op (List (Option Int))) ?_)
    refine k_nonO ?_
    show (_ : Rz) = _
    rw [nm_] at h1
    exact congrArg (fun x => Rz.ok (dv (Op.mk x))) (if_pos h1)
  · skip
    refine ks_nil ?_
    show KSs _ ([.sh (dv n_), .sh (dv ws_), .sh (dv m_), .sh (dv numbers), .no] : List Ent) _ _
    refine ks_one (s_ret (α := Op (List (Option Int))) ?_)
    refine k_someO (α := List (Option Int)) ?_
    refine k_var 3 rfl rfl ?_
    show (_ : Rz) = _
    rw [nm_] at h1 ⊢
    exact congrArg (fun x => Rz.ok (dv (Op.mk x))) (if_neg (by rw [h1]; decide))
/-! _read_hour -/
def S_read_hour : Pm := fun ds r => ∃ (t_ : Str), ds = [dv t_] ∧ (t_.length ≤ 30000) ∧ (PyData.strOk t_ = true) ∧ r = .ok (dv (Op.mk (readHr t_)))
theorem ok_read_hour (T : Tx w K mg) : FnOk PP w K mg base (L2.CX PP w) 3 T.a_read_hour T.fd_read_hour ["line"] (spOf K T.cls S_read_hour) := by
  refine fn_ok T.F_read_hour sc_read_hour (fun ds r h => by obtain ⟨t_, rfl, _⟩ := h; rfl) fun cd A outer s H E hs ds r hr h => ?_
  obtain ⟨t_, rfl, p1, p2, rfl⟩ := h
  show KSs _ ([.sh (dv t_), .no, .no, .no] : List Ent) _ _
  refine ks_cons (s_let (α := List Str) 1 sc_read_hour.nd rfl ?_)
  refine k_split ?_
  refine k_var 0 rfl rfl ?_
  refine k_str ?_
  refine ⟨⟨rfl, Nat.le_trans (Nat.add_le_add_right p1 2) (by decide)⟩, ?_⟩
  refine fun words words_e => ?_
  subst words_e
  show KSs _ ([.sh (dv t_), .sh (dv (Txt.split t_ " ")), .no, .no] : List Ent) _ _
  refine ks_cons (s_let (α := Bool) 2 sc_read_hour.nd rfl ?_)
  refine k_eqSs hr.units ?_
  refine k_slFrom ?_
  refine k_var 1 rfl rfl ?_
  refine k_int ?_
  refine ⟨by omega, ?_⟩
  refine k_lst (α := List Str) (ds := dvs) ?_
  refine a_cons (α := Str) ?_
  refine k_str ?_
  refine a_nil ?_
  refine ⟨Nat.le_of_ble_eq_true rfl, [_], rfl, ?_⟩
  refine ⟨⟨List.all_eq_true.mpr fun w m => split_strOk p2 (List.mem_of_mem_drop m), by decide +kernel⟩, ?_⟩
  refine fun ship ship_e => ?_
  show KSs _ ([.sh (dv t_), .sh (dv (Txt.split t_ " ")), .sh (dv ship), .no] : List Ent) _ _
  refine ks_cons (s_let (α := Op (List (Option Int))) 3 sc_read_hour.nd rfl ?_)
  refine k_call (ok_read_numbers T) (hr.mono (by decide)) T.g_read_numbers T.k_read_numbers T.b_read_numbers ?_
  refine a_cons (α := Str) ?_
  refine k_str ?_
  refine a_cons (α := List Str) ?_
  refine' k_ifD (α := List Str) _ _ ?_
  rotate_left 2
  refine t_val ?_
  refine k_var 2 rfl rfl ?_
  refine ⟨fun ife1_t => ?_, fun ife1_f => ?_, ?_⟩
  · skip
    refine k_slTo ?_
    refine k_var 1 rfl rfl ?_
    refine k_int ?_
    refine ⟨by omega, ?_⟩
    exact rfl
  · skip
    refine k_var 1 rfl rfl ?_
    exact rfl
  refine a_cons (α := Int) ?_
  refine k_int ?_
  refine a_nil ?_
  have c5_ := cut5 ship t_
  refine ⟨_, ⟨_, _, _, rfl, c5_.1, Nat.le_trans c5_.2.1 (by omega), fun w m => Nat.le_trans (c5_.2.2 w m) (by omega), rfl⟩, Got.ok ?_⟩
  refine fun numbers numbers_e => ?_
  have ne_ : readNs "hour" (hrWords (Txt.split t_ " ")) 4 = numbers.o := by rw [numbers_e, ship_e]; rfl
  show KSs _ ([.sh (dv t_), .sh (dv (Txt.split t_ " ")), .sh (dv ship), .sh (dv numbers)] : List Ent) _ _
  refine ks_cons (s_if ?_)
  refine t_isN (α := Op (List (Option Int))) ?_
  refine k_var 3 rfl rfl ?_
  refine ifB (fun h1 => ?_) (fun h1 => ?_)
  · skip
    refine ks_one (s_ret (α := Op Hr) ?_)
    refine k_nonO ?_
    show (_ : Rz) = _
    exact congrArg (fun x => Rz.ok (dv (Op.mk x))) (readHr_no (ne_.trans (isN_none h1)))
  · skip
    obtain ⟨ns_, en_⟩ := isN_some h1
    obtain ⟨a_, b_, c_, d_, es_, er_⟩ := readHr_ok (ne_.trans en_)
    refine ks_conv 3 ([a_, b_, c_, d_] : List Int) rfl (cv_intsO (en_.trans (congrArg some es_))) ?_
    show KSs _ ([.sh (dv t_), .sh (dv (Txt.split t_ " ")), .sh (dv ship), .sh (dv ([a_, b_, c_, d_] : List Int))] : List Ent) _ _
    refine ks_nil ?_
    show KSs _ ([.sh (dv t_), .sh (dv (Txt.split t_ " ")), .sh (dv ship), .sh (dv ([a_, b_, c_, d_] : List Int))] : List Ent) _ _
    refine ks_one (s_ret (α := Op Hr) ?_)
    refine k_someO (α := Hr) ?_
    refine k_tup (α := Hr) (ds := Hr.ds) ?_
    refine a_star (α := Int) ?_
    refine k_var 3 rfl rfl ?_
    refine a_cons (α := Bool) ?_
    refine k_var 2 rfl rfl ?_
    refine a_nil ?_
    refine ⟨Nat.le_of_ble_eq_true rfl, ⟨a_, b_, c_, d_, _⟩, rfl, ?_⟩
    show (_ : Rz) = _
    exact congrArg (fun x => Rz.ok (dv (Op.mk x))) (by rw [er_, ship_e]; rfl)
/-! parse_book -/
def S_parse_book : Pm := fun ds r => ∃ (t_ : Str), ds = [dv t_] ∧ (t_.length ≤ 30000) ∧ (PyData.strOk t_ = true) ∧ r = bookR t_
theorem ok_parse_book (T : Tx w K mg) : FnOk PP w K mg base (L2.CX PP w) 6 T.a_parse_book T.fd_parse_book ["text"] (spOf K T.cls S_parse_book) := by
  refine fn_ok T.F_parse_book sc_parse_book (fun ds r h => by obtain ⟨t_, rfl, _⟩ := h; rfl) fun cd A outer s H E hs ds r hr h => ?_
  obtain ⟨t_, rfl, p1, p2, rfl⟩ := h
  have lc_ := lines_count t_
  show KSs _ ([.sh (dv t_), .no, .no, .no, .no, .no, .no, .no] : List Ent) _ _
  refine ks_cons (s_if ?_)
  refine t_not ?_
  refine t_val ?_
  refine k_endswith ?_
  refine k_var 0 rfl rfl ?_
  refine k_str ?_
  refine ifNB (fun h1 => ?_) (fun h1 => ?_)
  · skip
    refine ks_one (s_raiseL T.o_line T.cl_line T.f_line T.i_line T.t_line (ok_InvalidLine__init T) (hr.mono (by decide)) T.b_InvalidLine__init T.gx_15 ?_)
    refine k_add ?_
    refine k_count ?_
    refine k_var 0 rfl rfl ?_
    refine k_str ?_
    refine k_int ?_
    have cb_ := count_bounds t_ "\n"
    refine ⟨by omega, ?_⟩
    show (_ : Rz) = _
    exact bookR_nl h1
  · skip
    refine ks_nil ?_
    show KSs _ ([.sh (dv t_), .no, .no, .no, .no, .no, .no, .no] : List Ent) _ _
    refine ks_cons (s_let (α := List Str) 1 sc_parse_book.nd rfl ?_)
    refine k_slButLast ?_
    refine k_split ?_
    refine k_var 0 rfl rfl ?_
    refine k_str ?_
    refine ⟨⟨rfl, Nat.le_trans (Nat.add_le_add_right p1 2) (by decide)⟩, ?_⟩
    refine fun lines lines_e => ?_
    have l0_ := line0_mem h1
    subst lines_e
    show KSs _ ([.sh (dv t_), .sh (dv (linesOf t_)), .no, .no, .no, .no, .no, .no] : List Ent) _ _
    refine ks_cons (s_let (α := Op (List (Option Int))) 2 sc_parse_book.nd rfl ?_)
    refine k_call (ok_read_numbers T) (hr.mono (by decide)) T.g_read_numbers T.k_read_numbers T.b_read_numbers ?_
    refine a_cons (α := Str) ?_
    refine k_str ?_
    refine a_cons (α := List Str) ?_
    refine k_split ?_
    refine k_ixL ?_
    refine k_var 1 rfl rfl ?_
    refine k_int ?_
    refine ⟨(linesOf t_).getD 0 Str.empty, ⟨by decide, getD_at (lines_pos h1)⟩, ?_⟩
    refine k_str ?_
    refine ⟨⟨rfl, Nat.le_trans (Nat.add_le_add_right (Nat.le_trans (lines_short l0_) p1) 2) (by decide)⟩, ?_⟩
    refine a_cons (α := Int) ?_
    refine k_int ?_
    refine a_nil ?_
    have ls0_ := lines_short l0_
    refine ⟨_, ⟨_, _, _, rfl, split_ne _ _, Nat.le_trans (split_count l_sp1) (by omega), fun w m => Nat.le_trans (part_short m) (by omega), rfl⟩, Got.ok ?_⟩
    refine fun numbers numbers_e => ?_
    have ne_ : readNs "works" (Txt.split ((linesOf t_).getD 0 Str.empty) " ") 5 = numbers.o := by rw [numbers_e]
    show KSs _ ([.sh (dv t_), .sh (dv (linesOf t_)), .sh (dv numbers), .no, .no, .no, .no, .no] : List Ent) _ _
    refine ks_cons (s_if ?_)
    refine t_isN (α := Op (List (Option Int))) ?_
    refine k_var 2 rfl rfl ?_
    refine ifB (fun h2 => ?_) (fun h2 => ?_)
    · skip
      refine ks_one (s_raiseL T.o_line T.cl_line T.f_line T.i_line T.t_line (ok_InvalidLine__init T) (hr.mono (by decide)) T.b_InvalidLine__init T.gx_15 ?_)
      refine k_int ?_
      refine ⟨by decide, ?_⟩
      show (_ : Rz) = _
      exact bookR_wk h1 (readWk_no (ne_.trans (isN_none h2)))
    · skip
      obtain ⟨ns_, en_⟩ := isN_some h2
      obtain ⟨a_, b_, c_, d_, f_, es_, rw_⟩ := readWk_ok (ne_.trans en_)
      refine ks_conv 2 ([V.int a_, V.int b_, V.int c_, V.int d_, V.int f_] : List V) rfl (cv_valsO (is := [a_, b_, c_, d_, f_]) (en_.trans (congrArg some es_))) ?_
      show KSs _ ([.sh (dv t_), .sh (dv (linesOf t_)), .sh (dv ([V.int a_, V.int b_, V.int c_, V.int d_, V.int f_] : List V)), .no, .no, .no, .no, .no] : List Ent) _ _
      refine ks_nil ?_
      show KSs _ ([.sh (dv t_), .sh (dv (linesOf t_)), .sh (dv ([V.int a_, V.int b_, V.int c_, V.int d_, V.int f_] : List V)), .no, .no, .no, .no, .no] : List Ent) _ _
      refine ks_cons (s_new (α := Hr) 3 sc_parse_book.nd rfl (Nat.le_of_ble_eq_true rfl) ?_)
      refine a_nil ?_
      refine ⟨Nat.le_of_ble_eq_true rfl, ([] : List Hr), rfl, ?_⟩
      rintro _ rfl
      show KSs _ ([.sh (dv t_), .sh (dv (linesOf t_)), .sh (dv ([V.int a_, V.int b_, V.int c_, V.int d_, V.int f_] : List V)), .ow (olist ([] : List Hr)), .no, .no, .no, .no] : List Ent) _ _
      show KSs _ ([.sh (dv t_), .sh (dv (linesOf t_)), .sh (dv ([V.int a_, V.int b_, V.int c_, V.int d_, V.int f_] : List V)), .ow (olist ([] : List Hr)), .no, .no, .no, .no] : List Ent) _ _
      refine ks_cons (s_forEK (α := Str) (c := 2) (g_tup (ds := ds2) [4, 5] (pgs_cons (pg_name (i := 4) sc_parse_book.nd rfl (by first | exact .inl rfl | exact .inr rfl)) (pgs_cons (pg_name (i := 5) sc_parse_book.nd rfl (by first | exact .inl rfl | exact .inr rfl)) (pgs_nil))) (fun _ => rfl)) T.nogl (by decide) (by decide) ?_)
      refine k_slFrom ?_
      refine k_var 1 rfl rfl ?_
      refine k_int ?_
      refine ⟨by omega, ?_⟩
      refine ⟨fun (i_for1 : Nat) e_ => e_ = ([.sh (dv t_), .sh (dv (linesOf t_)), .sh (dv ([V.int a_, V.int b_, V.int c_, V.int d_, V.int f_] : List V)), .ow (olist ((((linesOf t_).drop 1).take i_for1).filterMap readHr)), .no, .no, .no, .no] : List Ent) ∧ (∀ x ∈ ((linesOf t_).drop 1).take i_for1, (readHr x).isSome = true), ?_, ?_, ?_⟩
      · exact ⟨rfl, fun _ z => nomatch z⟩
      · rintro i_for1 it_for1 _ for1_at ⟨rfl, for1_i⟩
        refine turn_fgt ?_
        show KSs _ ([.sh (dv t_), .sh (dv (linesOf t_)), .sh (dv ([V.int a_, V.int b_, V.int c_, V.int d_, V.int f_] : List V)), .ow (olist ((((linesOf t_).drop 1).take i_for1).filterMap readHr)), .sh (dv (Prod.fst it_for1)), .sh (dv (Prod.snd it_for1)), .no, .no] : List Ent) _ _
        rw [enumK_get] at for1_at
        obtain ⟨l_, el_, eit_⟩ := Option.map_eq_some_iff.mp for1_at
        have e1_ : it_for1.1 = 2 + (i_for1 : Int) := by rw [← eit_]
        have e2_ : l_ = it_for1.2 := by rw [← eit_]
        clear eit_
        subst e2_
        have el_ : ((linesOf t_).drop 1)[i_for1]? = some it_for1.2 := el_
        have il_ := (List.getElem?_eq_some_iff.mp el_).1
        rw [List.length_drop] at il_
        have lm_ := List.mem_of_mem_drop (List.mem_of_getElem? el_)
        refine ks_cons (s_let (α := Op Hr) 6 sc_parse_book.nd rfl ?_)
        refine k_call (ok_read_hour T) (hr.mono (by decide)) T.g_read_hour T.k_read_hour T.b_read_hour ?_
        refine a_cons (α := Str) ?_
        refine k_var 5 rfl rfl ?_
        refine a_nil ?_
        refine ⟨_, ⟨_, rfl, Nat.le_trans (lines_short lm_) p1, lines_ok p2 lm_, rfl⟩, Got.ok ?_⟩
        refine fun hour hour_e => ?_
        show KSs _ ([.sh (dv t_), .sh (dv (linesOf t_)), .sh (dv ([V.int a_, V.int b_, V.int c_, V.int d_, V.int f_] : List V)), .ow (olist ((((linesOf t_).drop 1).take i_for1).filterMap readHr)), .sh (dv (Prod.fst it_for1)), .sh (dv (Prod.snd it_for1)), .sh (dv hour), .no] : List Ent) _ _
        refine ks_cons (s_if ?_)
        refine t_isN (α := Op Hr) ?_
        refine k_var 6 rfl rfl ?_
        refine ifB (fun h3 => ?_) (fun h3 => ?_)
        · skip
          refine ks_one (s_raiseL T.o_line T.cl_line T.f_line T.i_line T.t_line (ok_InvalidLine__init T) (hr.mono (by decide)) T.b_InvalidLine__init T.gx_15 ?_)
          refine k_var 4 rfl rfl ?_
          refine ⟨by omega, ?_⟩
          show (_ : Rz) = _
          rw [e1_]
          exact bookR_ln h1 rw_ (badLn_at for1_i el_ (by have z := isN_none h3; rw [hour_e] at z; exact z))
        · skip
          obtain ⟨h_, eh_⟩ := isN_some h3
          refine ks_conv 6 h_ rfl (cv_op eh_) ?_
          show KSs _ ([.sh (dv t_), .sh (dv (linesOf t_)), .sh (dv ([V.int a_, V.int b_, V.int c_, V.int d_, V.int f_] : List V)), .ow (olist ((((linesOf t_).drop 1).take i_for1).filterMap readHr)), .sh (dv (Prod.fst it_for1)), .sh (dv (Prod.snd it_for1)), .sh (dv h_), .no] : List Ent) _ _
          rw [hour_e] at eh_
          have eh_ : readHr it_for1.2 = some h_ := eh_
          refine ks_nil ?_
          show KSs _ ([.sh (dv t_), .sh (dv (linesOf t_)), .sh (dv ([V.int a_, V.int b_, V.int c_, V.int d_, V.int f_] : List V)), .ow (olist ((((linesOf t_).drop 1).take i_for1).filterMap readHr)), .sh (dv (Prod.fst it_for1)), .sh (dv (Prod.snd it_for1)), .sh (dv h_), .no] : List Ent) _ _
          refine ks_one (s_app 3 rfl rfl (Nat.lt_of_le_of_lt (List.length_filterMap_le _ _) (Nat.lt_of_le_of_lt (List.length_take_le _ _) (by omega))) ?_)
          refine k_var 6 rfl rfl ?_
          refine fun hours_app1 hours_app1_e => ?_
          exact ⟨[6, 4, 5], by rw [fm_take el_ eh_, ← hours_app1_e]; rfl, fun x m => by
            rw [List.take_add_one, el_] at m
            rcases List.mem_append.mp m with m | m
            · exact for1_i x m
            · rw [List.mem_singleton.mp m, eh_]; rfl⟩
      · rintro _ ⟨rfl, for1_d⟩
        have ft_ : ((linesOf t_).drop 1).take (enumK 2 ((linesOf t_).drop (1 : Int).toNat)).length = (linesOf t_).drop 1 := by rw [enumK_len]; exact List.take_length
        have nb_ : badLn 2 ((linesOf t_).drop 1) = none := badLn_no fun x m => for1_d x (by rw [ft_]; exact m)
        show KSs _ ([.sh (dv t_), .sh (dv (linesOf t_)), .sh (dv ([V.int a_, V.int b_, V.int c_, V.int d_, V.int f_] : List V)), .ow (olist ((((linesOf t_).drop 1).take ((enumK 2 ((linesOf t_).drop (1 : Int).toNat)).length)).filterMap readHr)), .no, .no, .no, .no] : List Ent) _ _
        refine ks_cons (s_let (α := Wk) 7 sc_parse_book.nd rfl ?_)
        refine k_makeStar (α := Wk) (β := V) (num := 0) (fs := Wk.fs) T.mk_0 (ok_Works__init T) (hr.mono (by decide)) T.g_Works T.b_Works__init ?_
        refine k_var 2 rfl rfl ?_
        refine ⟨_, ⟨_, _, _, _, _, rfl, scl_i _, scl_i _, scl_i _, scl_i _, scl_i _, rfl⟩, ?_⟩
        refine GotI.via (initWk_if ⟨a_, b_, c_, d_, f_⟩) ?_
        refine GotI.ite (fun c1 => ?_) (fun c1 => ?_)
        rotate_left
        · exact (show bookR t_ = Rz.err 10 from (bookR_ends h1 rw_ nb_).trans (if_neg c1))
        refine ⟨_, rfl, ?_⟩
        refine fun works works_e => ?_
        show KSs _ ([.sh (dv t_), .sh (dv (linesOf t_)), .sh (dv ([V.int a_, V.int b_, V.int c_, V.int d_, V.int f_] : List V)), .ow (olist ((((linesOf t_).drop 1).take ((enumK 2 ((linesOf t_).drop (1 : Int).toNat)).length)).filterMap readHr)), .no, .no, .no, .sh (dv works)] : List Ent) _ _
        refine ks_freeze 3 rfl ?_
        show KSs _ ([.sh (dv t_), .sh (dv (linesOf t_)), .sh (dv ([V.int a_, V.int b_, V.int c_, V.int d_, V.int f_] : List V)), .sh (dv ((((linesOf t_).drop 1).take ((enumK 2 ((linesOf t_).drop (1 : Int).toNat)).length)).filterMap readHr)), .no, .no, .no, .sh (dv works)] : List Ent) _ _
        refine ks_one (s_ret (α := (Wk × Crs)) ?_)
        refine k_tup (α := (Wk × Crs)) (ds := ds2) ?_
        refine a_cons (α := Wk) ?_
        refine k_var 7 rfl rfl ?_
        refine a_cons (α := Crs) ?_
        refine k_make (num := 1) (fs := Crs.fs) T.mk_1 (ok_Course__init T) (hr.mono (by decide)) T.g_Course T.b_Course__init ?_
        refine a_cons (α := List Tv) ?_
        refine k_cv (α := List Hr) ?_
        refine k_var 3 rfl rfl ?_
        refine ⟨_, cv_list cv_hr _, ?_⟩
        refine a_nil ?_
        refine ⟨_, ⟨_, rfl, scl_hrs _, rfl⟩, ?_⟩
        refine GotI.via (initCrs_if _) ?_
        rw [ft_]
        refine GotI.ite (fun c2 => ?_) (fun c2 => ?_)
        rotate_left
        · exact (show bookR t_ = Rz.err 11 from (bookR_ends h1 rw_ nb_).trans ((if_pos c1).trans (if_neg c2)))
        refine ⟨_, rfl, ?_⟩
        refine a_nil ?_
        refine ⟨Nat.le_of_ble_eq_true rfl, ⟨_, _⟩, rfl, ?_⟩
        show (_ : Rz) = _
        exact (bookR_ends h1 rw_ nb_).trans ((if_pos c1).trans ((if_pos c2).trans (by rw [works_e])))
/-! law -/
def S_law : Pm := fun ds r => ∃ (ns_ : List Int), ds = [dv (Scr.mk ns_)] ∧ (ns_.length ≤ 63) ∧ r = .ok (dv true)
theorem ok_law (T : Tx w K mg) : FnOk PP w K mg base (L2.CX PP w) 7 T.a_law T.fd_law ["script"] (spOf K T.cls S_law) := by
  refine fn_ok T.F_law sc_law (fun ds r h => by obtain ⟨ns_, rfl, _⟩ := h; rfl) fun cd A outer s H E hs ds r hr h => ?_
  obtain ⟨ns_, rfl, p1, rfl⟩ := h
  show KSs _ ([.sh (dv (Scr.mk ns_)), .no, .no, .no, .no, .no, .no, .no] : List Ent) _ _
  refine ks_cons (s_let (α := Rnd) 1 sc_law.nd rfl ?_)
  refine k_call (ok_law_state T) (hr.mono (by decide)) T.g_law_state T.k_law_state T.b_law_state ?_
  refine a_cons (α := Scr) ?_
  refine k_var 0 rfl rfl ?_
  refine a_nil ?_
  refine ⟨_, ⟨_, rfl, by first | assumption | omega, rfl⟩, Got.ok ?_⟩
  refine fun state state_e => ?_
  show KSs _ ([.sh (dv (Scr.mk ns_)), .sh (dv state), .no, .no, .no, .no, .no, .no] : List Ent) _ _
  refine ks_cons (s_let (α := W5) 2 sc_law.nd rfl ?_)
  refine k_callA (α := W5) (ok_law_works T) (hr.mono (by decide)) T.g_law_works T.k_law_works T.b_law_works ?_
  refine a_cons (α := Rnd) ?_
  refine k_var 1 rfl rfl ?_
  refine a_nil ?_
  refine ⟨_, ⟨_, rfl, rfl⟩, fun law_works1_v law_works1_h => ?_⟩
  refine fun works works_e => ?_
  show KSs _ ([.sh (dv (Scr.mk ns_)), .sh (dv state), .sh (dv works), .no, .no, .no, .no, .no] : List Ent) _ _
  refine ks_cons (s_cut (fun e_ => ∃ (wk_ : W5), e_ = ([.sh (dv (Scr.mk ns_)), .sh (dv state), .sh (dv wk_), .no, .no, .no, .no, .no] : List Ent) ∧ (wk_.Ok)) ?_ ?_)
  · refine s_if ?_
    refine t_eq (α := Int) ?_
    refine k_callA (α := Int) (ok_law_take T) (hr.mono (by decide)) T.g_law_take T.k_law_take T.b_law_take ?_
    refine a_cons (α := Rnd) ?_
    refine k_var 1 rfl rfl ?_
    refine a_cons (α := Int) ?_
    refine k_int ?_
    refine a_nil ?_
    refine ⟨_, ⟨_, _, rfl, by first | assumption | omega, rfl⟩, fun law_take1_v law_take1_h => ?_⟩
    refine k_int ?_
    refine ifD (fun h1 => ?_) (fun h1 => ?_)
    · skip
      refine ks_one (s_let (α := W5) 2 sc_law.nd rfl ?_)
      refine k_tup (α := W5) (ds := W5.ds) ?_
      refine a_cons (α := Int) ?_
      refine k_sub ?_
      refine k_int ?_
      refine k_callA (α := Int) (ok_law_take T) (hr.mono (by decide)) T.g_law_take T.k_law_take T.b_law_take ?_
      refine a_cons (α := Rnd) ?_
      refine k_var 1 rfl rfl ?_
      refine a_cons (α := Int) ?_
      refine k_int ?_
      refine a_nil ?_
      refine ⟨_, ⟨_, _, rfl, by first | assumption | omega, rfl⟩, fun law_take2_v law_take2_h => ?_⟩
      refine a_cons (α := Int) ?_
      refine k_sub ?_
      refine k_int ?_
      refine k_callA (α := Int) (ok_law_take T) (hr.mono (by decide)) T.g_law_take T.k_law_take T.b_law_take ?_
      refine a_cons (α := Rnd) ?_
      refine k_var 1 rfl rfl ?_
      refine a_cons (α := Int) ?_
      refine k_int ?_
      refine a_nil ?_
      refine ⟨_, ⟨_, _, rfl, by first | assumption | omega, rfl⟩, fun law_take3_v law_take3_h => ?_⟩
      refine a_cons (α := Int) ?_
      refine k_callA (α := Int) (ok_law_take T) (hr.mono (by decide)) T.g_law_take T.k_law_take T.b_law_take ?_
      refine a_cons (α := Rnd) ?_
      refine k_var 1 rfl rfl ?_
      refine a_cons (α := Int) ?_
      refine k_int ?_
      refine a_nil ?_
      refine ⟨_, ⟨_, _, rfl, by first | assumption | omega, rfl⟩, fun law_take4_v law_take4_h => ?_⟩
      refine a_cons (α := Int) ?_
      refine k_add ?_
      refine k_int ?_
      refine k_callA (α := Int) (ok_law_take T) (hr.mono (by decide)) T.g_law_take T.k_law_take T.b_law_take ?_
      refine a_cons (α := Rnd) ?_
      refine k_var 1 rfl rfl ?_
      refine a_cons (α := Int) ?_
      refine k_int ?_
      refine a_nil ?_
      refine ⟨_, ⟨_, _, rfl, by first | assumption | omega, rfl⟩, fun law_take5_v law_take5_h => ?_⟩
      refine a_cons (α := Int) ?_
      refine k_callA (α := Int) (ok_law_take T) (hr.mono (by decide)) T.g_law_take T.k_law_take T.b_law_take ?_
      refine a_cons (α := Rnd) ?_
      refine k_var 1 rfl rfl ?_
      refine a_cons (α := Int) ?_
      refine k_int ?_
      refine a_nil ?_
      refine ⟨_, ⟨_, _, rfl, by first | assumption | omega, rfl⟩, fun law_take6_v law_take6_h => ?_⟩
      refine a_nil ?_
      refine ⟨Nat.le_of_ble_eq_true rfl, ⟨_, _, _, _, _⟩, rfl, ?_⟩
      refine fun works works_e2 => ?_
      exact ⟨[], _, rfl, by rw [works_e2]; unfold W5.Ok; dsimp only; omega⟩
    · skip
      refine ks_nil ?_
      exact ⟨[], _, rfl, by rw [works_e]; exact law_works1_h⟩
  · rintro _ ⟨wk_, rfl, cut_h1_i⟩
    show KSs _ ([.sh (dv (Scr.mk ns_)), .sh (dv state), .sh (dv wk_), .no, .no, .no, .no, .no] : List Ent) _ _
    show KSs _ ([.sh (dv (Scr.mk ns_)), .sh (dv state), .sh (dv wk_), .no, .no, .no, .no, .no] : List Ent) _ _
    refine ks_cons (s_let (α := List Hr) 3 sc_law.nd rfl ?_)
    refine k_callA (α := List Hr) (ok_law_wide T) (hr.mono (by decide)) T.g_law_wide T.k_law_wide T.b_law_wide ?_
    refine a_cons (α := Rnd) ?_
    refine k_var 1 rfl rfl ?_
    refine a_cons (α := List Hr) ?_
    refine k_callA (α := List Hr) (ok_law_hours T) (hr.mono (by decide)) T.g_law_hours T.k_law_hours T.b_law_hours ?_
    refine a_cons (α := Rnd) ?_
    refine k_var 1 rfl rfl ?_
    refine a_cons (α := Int) ?_
    refine k_int ?_
    refine a_nil ?_
    refine ⟨_, ⟨_, _, rfl, by first | assumption | omega, rfl⟩, fun law_hours1_v law_hours1_h => ?_⟩
    refine a_nil ?_
    refine ⟨_, ⟨_, _, rfl, by have := law_hours1_h.1.2; omega, law_hours1_h.2, rfl⟩, fun law_wide1_v law_wide1_h => ?_⟩
    refine fun hours hours_e => ?_
    have hl_ : 1 ≤ hours.length ∧ hours.length ≤ 12 := by rw [hours_e, law_wide1_h.1]; have := law_hours1_h.1; omega
    have ho_ : ∀ h ∈ hours, h.Ok := by rw [hours_e]; exact law_wide1_h.2
    show KSs _ ([.sh (dv (Scr.mk ns_)), .sh (dv state), .sh (dv wk_), .sh (dv hours), .no, .no, .no, .no] : List Ent) _ _
    refine ks_cons (s_cut (fun e_ => ∃ (hs_ : List Hr), e_ = ([.sh (dv (Scr.mk ns_)), .sh (dv state), .sh (dv wk_), .sh (dv hs_), .no, .no, .no, .no] : List Ent) ∧ (1 ≤ hs_.length ∧ hs_.length ≤ 72 ∧ ∀ h ∈ hs_, h.Ok)) ?_ ?_)
    · refine s_if ?_
      refine t_eq (α := Int) ?_
      refine k_callA (α := Int) (ok_law_take T) (hr.mono (by decide)) T.g_law_take T.k_law_take T.b_law_take ?_
      refine a_cons (α := Rnd) ?_
      refine k_var 1 rfl rfl ?_
      refine a_cons (α := Int) ?_
      refine k_int ?_
      refine a_nil ?_
      refine ⟨_, ⟨_, _, rfl, by first | assumption | omega, rfl⟩, fun law_take7_v law_take7_h => ?_⟩
      refine k_int ?_
      refine ifD (fun h2 => ?_) (fun h2 => ?_)
      · skip
        refine ks_one (s_let (α := List Hr) 3 sc_law.nd rfl ?_)
        refine k_rep ?_
        refine k_var 3 rfl rfl ?_
        refine k_add ?_
        refine k_int ?_
        refine k_callA (α := Int) (ok_law_take T) (hr.mono (by decide)) T.g_law_take T.k_law_take T.b_law_take ?_
        refine a_cons (α := Rnd) ?_
        refine k_var 1 rfl rfl ?_
        refine a_cons (α := Int) ?_
        refine k_int ?_
        refine a_nil ?_
        refine ⟨_, ⟨_, _, rfl, by first | assumption | omega, rfl⟩, fun law_take8_v law_take8_h => ?_⟩
        refine ⟨by omega, ?_⟩
        refine fun hours hours_e2 => ?_
        exact ⟨[], _, rfl, by rw [hours_e2]; exact rep_ok hl_ ho_ (by omega)⟩
      · skip
        refine ks_nil ?_
        exact ⟨[], _, rfl, hl_.1, by omega, ho_⟩
    · rintro _ ⟨hs_, rfl, cut_h2_i⟩
      show KSs _ ([.sh (dv (Scr.mk ns_)), .sh (dv state), .sh (dv wk_), .sh (dv hs_), .no, .no, .no, .no] : List Ent) _ _
      obtain ⟨h1_, h2_, h3_⟩ := cut_h2_i
      have c_ok_ : (Crs.mk hs_).Ok := ⟨h1_, h2_, h3_⟩
      have wl_ := lines_len cut_h1_i h3_
      have bl_ := book_len cut_h1_i h3_ h2_
      have bo_ := book_ok cut_h1_i h3_
      show KSs _ ([.sh (dv (Scr.mk ns_)), .sh (dv state), .sh (dv wk_), .sh (dv hs_), .no, .no, .no, .no] : List Ent) _ _
      refine ks_cons (s_let (α := Str) 4 sc_law.nd rfl ?_)
      refine k_call (ok_law_text T) (hr.mono (by decide)) T.g_law_text T.k_law_text T.b_law_text ?_
      refine a_cons (α := List Str) ?_
      refine k_call (ok_law_lines T) (hr.mono (by decide)) T.g_law_lines T.k_law_lines T.b_law_lines ?_
      refine a_cons (α := W5) ?_
      refine k_var 2 rfl rfl ?_
      refine a_cons (α := List Hr) ?_
      refine k_var 3 rfl rfl ?_
      refine a_nil ?_
      refine ⟨_, ⟨_, _, rfl, cut_h1_i, by omega, h3_, rfl⟩, Got.ok ?_⟩
      refine a_nil ?_
      refine ⟨_, ⟨_, rfl, by rw [List.length_cons, List.length_map]; omega, fun l m => Nat.le_trans (wl_ l m) (by decide), rfl⟩, Got.ok ?_⟩
      refine fun text text_e => ?_
      subst text_e
      show KSs _ ([.sh (dv (Scr.mk ns_)), .sh (dv state), .sh (dv wk_), .sh (dv hs_), .sh (dv (bookT (wkT wk_ :: hs_.map hrT))), .no, .no, .no] : List Ent) _ _
      refine ks_cons (s_if ?_)
      refine t_ne (α := Str) ?_
      refine k_call (ok_format_book T) (hr.mono (by decide)) T.g_format_book T.k_format_book T.b_format_book ?_
      refine a_cons (α := Wk) ?_
      refine k_make (num := 0) (fs := Wk.fs) T.mk_0 (ok_Works__init T) (hr.mono (by decide)) T.g_Works T.b_Works__init ?_
      refine a_cons (α := V) ?_
      refine k_toV (α := Int) ?_
      refine k_ixT (α := W5) (ds := W5.ds) 0 W5.a (fun _ => rfl) rfl ?_
      refine k_var 2 rfl rfl ?_
      refine a_cons (α := V) ?_
      refine k_toV (α := Int) ?_
      refine k_ixT (α := W5) (ds := W5.ds) 1 W5.b (fun _ => rfl) rfl ?_
      refine k_var 2 rfl rfl ?_
      refine a_cons (α := V) ?_
      refine k_toV (α := Int) ?_
      refine k_ixT (α := W5) (ds := W5.ds) 2 W5.c (fun _ => rfl) rfl ?_
      refine k_var 2 rfl rfl ?_
      refine a_cons (α := V) ?_
      refine k_toV (α := Int) ?_
      refine k_ixT (α := W5) (ds := W5.ds) 3 W5.d (fun _ => rfl) rfl ?_
      refine k_var 2 rfl rfl ?_
      refine a_cons (α := V) ?_
      refine k_toV (α := Int) ?_
      refine k_ixT (α := W5) (ds := W5.ds) 4 W5.e (fun _ => rfl) rfl ?_
      refine k_var 2 rfl rfl ?_
      refine a_nil ?_
      refine ⟨_, ⟨_, _, _, _, _, rfl, scl_i _, scl_i _, scl_i _, scl_i _, scl_i _, rfl⟩, ?_⟩
      refine GotI.eq (initWk_ok (w := ⟨wk_.a, wk_.b, wk_.c, wk_.d, wk_.e⟩) (wk_of5 cut_h1_i)) ?_
      refine a_cons (α := Crs) ?_
      refine k_make (num := 1) (fs := Crs.fs) T.mk_1 (ok_Course__init T) (hr.mono (by decide)) T.g_Course T.b_Course__init ?_
      refine a_cons (α := List Tv) ?_
      refine k_cv (α := List Hr) ?_
      refine k_var 3 rfl rfl ?_
      refine ⟨_, cv_list cv_hr _, ?_⟩
      refine a_nil ?_
      refine ⟨_, ⟨_, rfl, scl_hrs _, rfl⟩, ?_⟩
      refine GotI.eq (initCrs_ok (c := ⟨hs_⟩) c_ok_) ?_
      refine a_nil ?_
      refine ⟨_, ⟨_, _, rfl, wk_of5 cut_h1_i, c_ok_, rfl⟩, Got.ok ?_⟩
      refine k_var 4 rfl rfl ?_
      refine ifND (fun h3 => ?_) (fun h3 => ?_)
      · skip
        exact absurd rfl h3
      · skip
        refine ks_nil ?_
        show KSs _ ([.sh (dv (Scr.mk ns_)), .sh (dv state), .sh (dv wk_), .sh (dv hs_), .sh (dv (bookT (wkT wk_ :: hs_.map hrT))), .no, .no, .no] : List Ent) _ _
        refine ks_cons (s_let (α := (Wk × Crs)) 5 sc_law.nd rfl ?_)
        refine k_call (ok_parse_book T) (hr.mono (by decide)) T.g_parse_book T.k_parse_book T.b_parse_book ?_
        refine a_cons (α := Str) ?_
        refine k_var 4 rfl rfl ?_
        refine a_nil ?_
        refine ⟨_, ⟨_, rfl, by omega, bo_, rfl⟩, ?_⟩
        refine Got.eq (bookR_back cut_h1_i c_ok_) ?_
        refine fun told_v told_e => ?_
        subst told_e
        show KSs _ ([.sh (dv (Scr.mk ns_)), .sh (dv state), .sh (dv wk_), .sh (dv hs_), .sh (dv (bookT (wkT wk_ :: hs_.map hrT))), .sh (dv (Wk.mk wk_.a wk_.b wk_.c wk_.d wk_.e, Crs.mk hs_)), .no, .no] : List Ent) _ _
        refine ks_cons (s_if ?_)
        refine t_w ?_
        refine' w_orD _ ?_; rotate_left
        refine t_not ?_
        refine t_val ?_
        refine k_isTup (α := (Wk × Crs)) (ds := ds2) T.nogl ?_
        refine k_var 5 rfl rfl ?_
        refine ⟨fun hb1 => ?_, ?_⟩
        · skip
          refine w_or1 ?_
          refine t_ne (α := Int) ?_
          refine k_lenT (α := (Wk × Crs)) (ds := ds2) T.nogl ?_
          refine k_var 5 rfl rfl ?_
          refine k_int ?_
          exact rfl
        refine ifB (fun h4 => ?_) (fun h4 => ?_)
        · skip
          exact absurd (show false = true from h4) (by decide)
        · skip
          refine ks_nil ?_
          show KSs _ ([.sh (dv (Scr.mk ns_)), .sh (dv state), .sh (dv wk_), .sh (dv hs_), .sh (dv (bookT (wkT wk_ :: hs_.map hrT))), .sh (dv (Wk.mk wk_.a wk_.b wk_.c wk_.d wk_.e, Crs.mk hs_)), .no, .no] : List Ent) _ _
          refine ks_cons (s_lets (α := (Wk × Crs)) (ds := ds2) [6, 7] (pgs_cons (pg_name (i := 6) sc_law.nd rfl (by first | exact .inl rfl | exact .inr rfl)) (pgs_cons (pg_name (i := 7) sc_law.nd rfl (by first | exact .inl rfl | exact .inr rfl)) (pgs_nil))) (fun _ => rfl) ?_)
          refine k_var 5 rfl rfl ?_
          intro z_ ez_; subst z_
          show KSs _ ([.sh (dv (Scr.mk ns_)), .sh (dv state), .sh (dv wk_), .sh (dv hs_), .sh (dv (bookT (wkT wk_ :: hs_.map hrT))), .sh (dv (Wk.mk wk_.a wk_.b wk_.c wk_.d wk_.e, Crs.mk hs_)), .sh (dv (Wk.mk wk_.a wk_.b wk_.c wk_.d wk_.e)), .sh (dv (Crs.mk hs_))] : List Ent) _ _
          refine ks_cons (s_if ?_)
          refine t_w ?_
          refine' w_orD _ ?_; rotate_left
          refine t_neD (α := W5) hr.units ?_
          refine k_tup (α := W5) (ds := W5.ds) ?_
          refine a_cons (α := Int) ?_
          refine k_fld (n := 0) Wk.wall Wk.lk_wall T.cl_0 T.na_wall ?_
          refine k_var 6 rfl rfl ?_
          refine a_cons (α := Int) ?_
          refine k_fld (n := 0) Wk.flow Wk.lk_flow T.cl_0 T.na_flow ?_
          refine k_var 6 rfl rfl ?_
          refine a_cons (α := Int) ?_
          refine k_fld (n := 0) Wk.pump Wk.lk_pump T.cl_0 T.na_pump ?_
          refine k_var 6 rfl rfl ?_
          refine a_cons (α := Int) ?_
          refine k_fld (n := 0) Wk.rest Wk.lk_rest T.cl_0 T.na_rest ?_
          refine k_var 6 rfl rfl ?_
          refine a_cons (α := Int) ?_
          refine k_fld (n := 0) Wk.deep Wk.lk_deep T.cl_0 T.na_deep ?_
          refine k_var 6 rfl rfl ?_
          refine a_nil ?_
          refine ⟨Nat.le_of_ble_eq_true rfl, ⟨_, _, _, _, _⟩, rfl, ?_⟩
          refine k_var 2 rfl rfl ?_
          refine ⟨fun hb2 => ?_, ?_⟩
          · skip
            refine w_or1 ?_
            refine t_neD (α := List Hr) hr.units ?_
            refine k_fld (n := 1) Crs.hours Crs.lk_hours T.cl_1 T.na_hours ?_
            refine k_var 7 rfl rfl ?_
            refine k_var 3 rfl rfl ?_
            exact rfl
          refine ifB (fun h5 => ?_) (fun h5 => ?_)
          · skip
            exact absurd h5 (by simp)
          · skip
            refine ks_nil ?_
            show KSs _ ([.sh (dv (Scr.mk ns_)), .sh (dv state), .sh (dv wk_), .sh (dv hs_), .sh (dv (bookT (wkT wk_ :: hs_.map hrT))), .sh (dv (Wk.mk wk_.a wk_.b wk_.c wk_.d wk_.e, Crs.mk hs_)), .sh (dv (Wk.mk wk_.a wk_.b wk_.c wk_.d wk_.e)), .sh (dv (Crs.mk hs_))] : List Ent) _ _
            refine ks_one (s_ret (α := Bool) ?_)
            refine k_eq (α := Str) ?_
            refine k_call (ok_format_book T) (hr.mono (by decide)) T.g_format_book T.k_format_book T.b_format_book ?_
            refine a_cons (α := Wk) ?_
            refine k_var 6 rfl rfl ?_
            refine a_cons (α := Crs) ?_
            refine k_var 7 rfl rfl ?_
            refine a_nil ?_
            refine ⟨_, ⟨_, _, rfl, wk_of5 cut_h1_i, c_ok_, rfl⟩, Got.ok ?_⟩
            refine k_var 4 rfl rfl ?_
            show (_ : Rz) = _
            first | rfl | assumption | (simp_all; done)
end
end Sk
namespace Sk
open PySem L2 PyProof.Rows Rk
theorem all_mk {PP : Program} {w : World} {K : PySem.W.Frag} {h : Heap} {mg : Str → Option Value} {fa : Addr} (X : K.In h) (G : h.Ns mainGlobals mg) (hfa : mg "law" = some (.ref fa))
    {C0 C1 C10 C11 C12 C15 C16 : Addr}
    {lnm lq : Str} {lN : Addr} {lbs : List Value} {lsn : List Str} {lsub : List Value} {lab : Bool} {lcol : Option Bool} {ldd : Option Addr} {lm0 lm1 lm2 lm3 lm5 : Option Value}
    {t_MOST_LEVEL : Tok}
    {t_MOST_FLOW : Tok}
    {t_MOST_PUMP : Tok}
    {t_MOST_REST : Tok}
    {t_MOST_HOURS : Tok}
    {t_MOST_BOUND : Tok}
    {t_MOST_DIGITS : Tok}
    {f_is_whole : Addr} {od_is_whole an_is_whole : Option Addr} {sl_is_whole : Array (Option Value)} {oc_is_whole kV_is_whole dc_is_whole pm_is_whole cd_is_whole ct_is_whole : Value}
    {f_check_works_number : Addr} {od_check_works_number an_check_works_number : Option Addr} {sl_check_works_number : Array (Option Value)} {oc_check_works_number kV_check_works_number dc_check_works_number pm_check_works_number cd_check_works_number ct_check_works_number : Value}
    {f_check_bounds : Addr} {od_check_bounds an_check_bounds : Option Addr} {sl_check_bounds : Array (Option Value)} {oc_check_bounds kV_check_bounds dc_check_bounds pm_check_bounds cd_check_bounds ct_check_bounds : Value}
    {f_check_hour : Addr} {od_check_hour an_check_hour : Option Addr} {sl_check_hour : Array (Option Value)} {oc_check_hour kV_check_hour dc_check_hour pm_check_hour cd_check_hour ct_check_hour : Value}
    {f_Works__init : Addr} {od_Works__init an_Works__init : Option Addr} {sl_Works__init : Array (Option Value)} {oc_Works__init kV_Works__init dc_Works__init pm_Works__init cd_Works__init ct_Works__init : Value}
    {f_Course__init : Addr} {od_Course__init an_Course__init : Option Addr} {sl_Course__init : Array (Option Value)} {oc_Course__init kV_Course__init dc_Course__init pm_Course__init cd_Course__init ct_Course__init : Value}
    {f_Course_count : Addr} {od_Course_count an_Course_count : Option Addr} {sl_Course_count : Array (Option Value)} {oc_Course_count kV_Course_count dc_Course_count pm_Course_count cd_Course_count ct_Course_count : Value}
    {f_law_state : Addr} {od_law_state an_law_state : Option Addr} {sl_law_state : Array (Option Value)} {oc_law_state kV_law_state dc_law_state pm_law_state cd_law_state ct_law_state : Value}
    {f_law_mixed : Addr} {od_law_mixed an_law_mixed : Option Addr} {sl_law_mixed : Array (Option Value)} {oc_law_mixed kV_law_mixed dc_law_mixed pm_law_mixed cd_law_mixed ct_law_mixed : Value}
    {f_law_take : Addr} {od_law_take an_law_take : Option Addr} {sl_law_take : Array (Option Value)} {oc_law_take kV_law_take dc_law_take pm_law_take cd_law_take ct_law_take : Value}
    {f_InvalidLine__init : Addr} {od_InvalidLine__init an_InvalidLine__init : Option Addr} {sl_InvalidLine__init : Array (Option Value)} {oc_InvalidLine__init kV_InvalidLine__init dc_InvalidLine__init pm_InvalidLine__init cd_InvalidLine__init ct_InvalidLine__init : Value}
    {f_read_number : Addr} {od_read_number an_read_number : Option Addr} {sl_read_number : Array (Option Value)} {oc_read_number kV_read_number dc_read_number pm_read_number cd_read_number ct_read_number : Value}
    {f_format_hour : Addr} {od_format_hour an_format_hour : Option Addr} {sl_format_hour : Array (Option Value)} {oc_format_hour kV_format_hour dc_format_hour pm_format_hour cd_format_hour ct_format_hour : Value}
    {f_hour_lines : Addr} {od_hour_lines an_hour_lines : Option Addr} {sl_hour_lines : Array (Option Value)} {oc_hour_lines kV_hour_lines dc_hour_lines pm_hour_lines cd_hour_lines ct_hour_lines : Value}
    {f_law_works : Addr} {od_law_works an_law_works : Option Addr} {sl_law_works : Array (Option Value)} {oc_law_works kV_law_works dc_law_works pm_law_works cd_law_works ct_law_works : Value}
    {f_law_hours : Addr} {od_law_hours an_law_hours : Option Addr} {sl_law_hours : Array (Option Value)} {oc_law_hours kV_law_hours dc_law_hours pm_law_hours cd_law_hours ct_law_hours : Value}
    {f_law_lines : Addr} {od_law_lines an_law_lines : Option Addr} {sl_law_lines : Array (Option Value)} {oc_law_lines kV_law_lines dc_law_lines pm_law_lines cd_law_lines ct_law_lines : Value}
    {f_law_text : Addr} {od_law_text an_law_text : Option Addr} {sl_law_text : Array (Option Value)} {oc_law_text kV_law_text dc_law_text pm_law_text cd_law_text ct_law_text : Value}
    {f_format_book : Addr} {od_format_book an_format_book : Option Addr} {sl_format_book : Array (Option Value)} {oc_format_book kV_format_book dc_format_book pm_format_book cd_format_book ct_format_book : Value}
    {f_law_wide : Addr} {od_law_wide an_law_wide : Option Addr} {sl_law_wide : Array (Option Value)} {oc_law_wide kV_law_wide dc_law_wide pm_law_wide cd_law_wide ct_law_wide : Value}
    {f_read_numbers : Addr} {od_read_numbers an_read_numbers : Option Addr} {sl_read_numbers : Array (Option Value)} {oc_read_numbers kV_read_numbers dc_read_numbers pm_read_numbers cd_read_numbers ct_read_numbers : Value}
    {f_read_hour : Addr} {od_read_hour an_read_hour : Option Addr} {sl_read_hour : Array (Option Value)} {oc_read_hour kV_read_hour dc_read_hour pm_read_hour cd_read_hour ct_read_hour : Value}
    {f_parse_book : Addr} {od_parse_book an_parse_book : Option Addr} {sl_parse_book : Array (Option Value)} {oc_parse_book kV_parse_book dc_parse_book pm_parse_book cd_parse_book ct_parse_book : Value}
    {f_law : Addr} {od_law an_law : Option Addr} {sl_law : Array (Option Value)} {oc_law kV_law dc_law pm_law cd_law ct_law : Value}
    (h0 : PySem.W.nsIn K mainGlobals "Works" = some (some (.ref C0)))
    (h1 : PySem.W.nsIn K mainGlobals "Course" = some (some (.ref C1)))
    (h2 : PySem.W.nsIn K mainGlobals "InvalidWorks" = some (some (.ref C10)))
    (h3 : PySem.W.nsIn K mainGlobals "InvalidCourse" = some (some (.ref C11)))
    (h4 : PySem.W.nsIn K mainGlobals "InvalidState" = some (some (.ref C12)))
    (h5 : PySem.W.nsIn K mainGlobals "InvalidLine" = some (some (.ref C15)))
    (h6 : PySem.W.nsIn K mainGlobals "KeepError" = some (some (.ref C16)))
    (h7 : PySem.W.excIn K C10 [.type "ValueError", .type "Exception", .type "BaseException", .type "object"] "ValueError.__new__" = true)
    (h8 : PySem.W.keepIn K (.ref C10) = true)
    (h9 : PySem.W.subIn K (.ref C10) (.type "BaseException") = some true)
    (h10 : PySem.W.typeIn K (.ref C10) = some (.type "type"))
    (h11 : PySem.W.excIn K C11 [.type "ValueError", .type "Exception", .type "BaseException", .type "object"] "ValueError.__new__" = true)
    (h12 : PySem.W.keepIn K (.ref C11) = true)
    (h13 : PySem.W.subIn K (.ref C11) (.type "BaseException") = some true)
    (h14 : PySem.W.typeIn K (.ref C11) = some (.type "type"))
    (h15 : K.lookup C15 = some (excClassObj lnm lq C15 lN lbs [.ref C16, .type "ValueError", .type "Exception", .type "BaseException", .type "object"] true lsn lsub lab lcol ldd lm0 lm1 lm2 lm3 lm5 "ValueError.__new__"))
    (h16 : PySem.W.findIn K (.ref C15) "__setattr__" = some (some (.builtin "object.__setattr__")))
    (h17 : PySem.W.subIn K (.ref C15) (.type "BaseException") = some true)
    (h18 : PySem.W.typeIn K (.ref C15) = some (.type "type"))
    (h19 : PySem.W.keepIn K (.ref C15) = true)
    (h20 : PySem.W.findIn K (.ref C15) "line" = some none)
    (h21 : PySem.W.specialIn K (.ref C16) "__getattribute__" = some (some (.builtin "type.__getattribute__")))
    (h22 : PySem.W.typeIn K (.ref C16) = some (.type "type"))
    (h23 : PySem.W.readsIn K C16 (.type "type") = true)
    (h24 : PySem.W.findCls K (.ref C16) (.type "type") "__init__" = some (.val (.builtin "ValueError.__init__")))
    (h25 : PySem.W.nsIn K mainGlobals "MOST_LEVEL" = some (some (.int 200 t_MOST_LEVEL)))
    (h26 : PySem.W.nsIn K mainGlobals "MOST_FLOW" = some (some (.int 400 t_MOST_FLOW)))
    (h27 : PySem.W.nsIn K mainGlobals "MOST_PUMP" = some (some (.int 400 t_MOST_PUMP)))
    (h28 : PySem.W.nsIn K mainGlobals "MOST_REST" = some (some (.int 6 t_MOST_REST)))
    (h29 : PySem.W.nsIn K mainGlobals "MOST_HOURS" = some (some (.int 72 t_MOST_HOURS)))
    (h30 : PySem.W.nsIn K mainGlobals "MOST_BOUND" = some (some (.int 400 t_MOST_BOUND)))
    (h31 : PySem.W.nsIn K mainGlobals "MOST_DIGITS" = some (some (.int 9 t_MOST_DIGITS)))
    (h32 : PySem.W.plainGet K C0 Str.empty = true)
    (h33 : PySem.W.hasDictIn K C0 = true)
    (h34 : PySem.W.plainOver K C0 = true)
    (h35 : PySem.W.findIn K (.ref C0) "__setattr__" = some (some (.builtin "object.__setattr__")))
    (h36 : PySem.W.findIn K (.ref C0) "wall" = some none)
    (h37 : PySem.W.findIn K (.ref C0) "flow" = some none)
    (h38 : PySem.W.findIn K (.ref C0) "pump" = some none)
    (h39 : PySem.W.findIn K (.ref C0) "rest" = some none)
    (h40 : PySem.W.findIn K (.ref C0) "deep" = some none)
    (h41 : PySem.W.plainGet K C1 Str.empty = true)
    (h42 : PySem.W.hasDictIn K C1 = true)
    (h43 : PySem.W.plainOver K C1 = true)
    (h44 : PySem.W.findIn K (.ref C1) "__setattr__" = some (some (.builtin "object.__setattr__")))
    (h45 : PySem.W.findIn K (.ref C1) "hours" = some none)
    (h46 : PySem.W.nsIn K mainGlobals "is_whole" = some (some (.ref f_is_whole)))
    (h47 : K.lookup f_is_whole = some ⟨oc_is_whole, od_is_whole, .func (PySem.W.fnOf "is_whole" "is_whole" (defArgs s_is_whole) (defBody s_is_whole) (defScope s_is_whole) .none kV_is_whole dc_is_whole pm_is_whole an_is_whole cd_is_whole ct_is_whole), sl_is_whole⟩)
    (h48 : PySem.W.codeIn K cd_is_whole "is_whole" = true)
    (h49 : PySem.W.keepIn K (.ref f_is_whole) = true)
    (h50 : PySem.W.nsIn K mainGlobals "_check_works_number" = some (some (.ref f_check_works_number)))
    (h51 : K.lookup f_check_works_number = some ⟨oc_check_works_number, od_check_works_number, .func (PySem.W.fnOf "_check_works_number" "_check_works_number" (defArgs s_check_works_number) (defBody s_check_works_number) (defScope s_check_works_number) .none kV_check_works_number dc_check_works_number pm_check_works_number an_check_works_number cd_check_works_number ct_check_works_number), sl_check_works_number⟩)
    (h52 : PySem.W.codeIn K cd_check_works_number "_check_works_number" = true)
    (h53 : PySem.W.keepIn K (.ref f_check_works_number) = true)
    (h54 : PySem.W.nsIn K mainGlobals "_check_bounds" = some (some (.ref f_check_bounds)))
    (h55 : K.lookup f_check_bounds = some ⟨oc_check_bounds, od_check_bounds, .func (PySem.W.fnOf "_check_bounds" "_check_bounds" (defArgs s_check_bounds) (defBody s_check_bounds) (defScope s_check_bounds) .none kV_check_bounds dc_check_bounds pm_check_bounds an_check_bounds cd_check_bounds ct_check_bounds), sl_check_bounds⟩)
    (h56 : PySem.W.codeIn K cd_check_bounds "_check_bounds" = true)
    (h57 : PySem.W.keepIn K (.ref f_check_bounds) = true)
    (h58 : PySem.W.nsIn K mainGlobals "_check_hour" = some (some (.ref f_check_hour)))
    (h59 : K.lookup f_check_hour = some ⟨oc_check_hour, od_check_hour, .func (PySem.W.fnOf "_check_hour" "_check_hour" (defArgs s_check_hour) (defBody s_check_hour) (defScope s_check_hour) .none kV_check_hour dc_check_hour pm_check_hour an_check_hour cd_check_hour ct_check_hour), sl_check_hour⟩)
    (h60 : PySem.W.codeIn K cd_check_hour "_check_hour" = true)
    (h61 : PySem.W.keepIn K (.ref f_check_hour) = true)
    (h62 : PySem.W.findIn K (.ref C0) "__init__" = some (some (.ref f_Works__init)))
    (h63 : PySem.W.isFn K (.ref f_Works__init) = true)
    (h64 : K.lookup f_Works__init = some ⟨oc_Works__init, od_Works__init, .func (PySem.W.fnOf "__init__" "Works.__init__" (defArgs s_Works__init) (defBody s_Works__init) (defScope s_Works__init) .none kV_Works__init dc_Works__init pm_Works__init an_Works__init cd_Works__init ct_Works__init), sl_Works__init⟩)
    (h65 : PySem.W.codeIn K cd_Works__init "Works.__init__" = true)
    (h66 : PySem.W.keepIn K (.ref f_Works__init) = true)
    (h67 : PySem.W.makesIn K C0 = true)
    (h68 : PySem.W.keepIn K (.ref C0) = true)
    (h69 : PySem.W.findIn K (.ref C1) "__init__" = some (some (.ref f_Course__init)))
    (h70 : PySem.W.isFn K (.ref f_Course__init) = true)
    (h71 : K.lookup f_Course__init = some ⟨oc_Course__init, od_Course__init, .func (PySem.W.fnOf "__init__" "Course.__init__" (defArgs s_Course__init) (defBody s_Course__init) (defScope s_Course__init) .none kV_Course__init dc_Course__init pm_Course__init an_Course__init cd_Course__init ct_Course__init), sl_Course__init⟩)
    (h72 : PySem.W.codeIn K cd_Course__init "Course.__init__" = true)
    (h73 : PySem.W.keepIn K (.ref f_Course__init) = true)
    (h74 : PySem.W.makesIn K C1 = true)
    (h75 : PySem.W.keepIn K (.ref C1) = true)
    (h76 : PySem.W.findIn K (.ref C1) "count" = some (some (.ref f_Course_count)))
    (h77 : PySem.W.isFn K (.ref f_Course_count) = true)
    (h78 : K.lookup f_Course_count = some ⟨oc_Course_count, od_Course_count, .func (PySem.W.fnOf "count" "Course.count" (defArgs s_Course_count) (defBody s_Course_count) (defScope s_Course_count) .none kV_Course_count dc_Course_count pm_Course_count an_Course_count cd_Course_count ct_Course_count), sl_Course_count⟩)
    (h79 : PySem.W.codeIn K cd_Course_count "Course.count" = true)
    (h80 : PySem.W.keepIn K (.ref f_Course_count) = true)
    (h81 : PySem.W.nsIn K mainGlobals "_law_state" = some (some (.ref f_law_state)))
    (h82 : K.lookup f_law_state = some ⟨oc_law_state, od_law_state, .func (PySem.W.fnOf "_law_state" "_law_state" (defArgs s_law_state) (defBody s_law_state) (defScope s_law_state) .none kV_law_state dc_law_state pm_law_state an_law_state cd_law_state ct_law_state), sl_law_state⟩)
    (h83 : PySem.W.codeIn K cd_law_state "_law_state" = true)
    (h84 : PySem.W.keepIn K (.ref f_law_state) = true)
    (h85 : PySem.W.nsIn K mainGlobals "_law_mixed" = some (some (.ref f_law_mixed)))
    (h86 : K.lookup f_law_mixed = some ⟨oc_law_mixed, od_law_mixed, .func (PySem.W.fnOf "_law_mixed" "_law_mixed" (defArgs s_law_mixed) (defBody s_law_mixed) (defScope s_law_mixed) .none kV_law_mixed dc_law_mixed pm_law_mixed an_law_mixed cd_law_mixed ct_law_mixed), sl_law_mixed⟩)
    (h87 : PySem.W.codeIn K cd_law_mixed "_law_mixed" = true)
    (h88 : PySem.W.keepIn K (.ref f_law_mixed) = true)
    (h89 : PySem.W.nsIn K mainGlobals "_law_take" = some (some (.ref f_law_take)))
    (h90 : K.lookup f_law_take = some ⟨oc_law_take, od_law_take, .func (PySem.W.fnOf "_law_take" "_law_take" (defArgs s_law_take) (defBody s_law_take) (defScope s_law_take) .none kV_law_take dc_law_take pm_law_take an_law_take cd_law_take ct_law_take), sl_law_take⟩)
    (h91 : PySem.W.codeIn K cd_law_take "_law_take" = true)
    (h92 : PySem.W.keepIn K (.ref f_law_take) = true)
    (h93 : PySem.W.findIn K (.ref C15) "__init__" = some (some (.ref f_InvalidLine__init)))
    (h94 : PySem.W.isFn K (.ref f_InvalidLine__init) = true)
    (h95 : K.lookup f_InvalidLine__init = some ⟨oc_InvalidLine__init, od_InvalidLine__init, .func (PySem.W.fnOf "__init__" "InvalidLine.__init__" (defArgs s_InvalidLine__init) (defBody s_InvalidLine__init) (defScope s_InvalidLine__init) .none kV_InvalidLine__init dc_InvalidLine__init pm_InvalidLine__init an_InvalidLine__init cd_InvalidLine__init ct_InvalidLine__init), sl_InvalidLine__init⟩)
    (h96 : PySem.W.codeIn K cd_InvalidLine__init "InvalidLine.__init__" = true)
    (h97 : PySem.W.keepIn K (.ref f_InvalidLine__init) = true)
    (h98 : PySem.W.typeIn K (.ref f_InvalidLine__init) = some (.type "function"))
    (h99 : PySem.W.nsIn K mainGlobals "read_number" = some (some (.ref f_read_number)))
    (h100 : K.lookup f_read_number = some ⟨oc_read_number, od_read_number, .func (PySem.W.fnOf "read_number" "read_number" (defArgs s_read_number) (defBody s_read_number) (defScope s_read_number) .none kV_read_number dc_read_number pm_read_number an_read_number cd_read_number ct_read_number), sl_read_number⟩)
    (h101 : PySem.W.codeIn K cd_read_number "read_number" = true)
    (h102 : PySem.W.keepIn K (.ref f_read_number) = true)
    (h103 : PySem.W.nsIn K mainGlobals "_format_hour" = some (some (.ref f_format_hour)))
    (h104 : K.lookup f_format_hour = some ⟨oc_format_hour, od_format_hour, .func (PySem.W.fnOf "_format_hour" "_format_hour" (defArgs s_format_hour) (defBody s_format_hour) (defScope s_format_hour) .none kV_format_hour dc_format_hour pm_format_hour an_format_hour cd_format_hour ct_format_hour), sl_format_hour⟩)
    (h105 : PySem.W.codeIn K cd_format_hour "_format_hour" = true)
    (h106 : PySem.W.keepIn K (.ref f_format_hour) = true)
    (h107 : PySem.W.nsIn K mainGlobals "hour_lines" = some (some (.ref f_hour_lines)))
    (h108 : K.lookup f_hour_lines = some ⟨oc_hour_lines, od_hour_lines, .func (PySem.W.fnOf "hour_lines" "hour_lines" (defArgs s_hour_lines) (defBody s_hour_lines) (defScope s_hour_lines) .none kV_hour_lines dc_hour_lines pm_hour_lines an_hour_lines cd_hour_lines ct_hour_lines), sl_hour_lines⟩)
    (h109 : PySem.W.codeIn K cd_hour_lines "hour_lines" = true)
    (h110 : PySem.W.keepIn K (.ref f_hour_lines) = true)
    (h111 : PySem.W.nsIn K mainGlobals "_law_works" = some (some (.ref f_law_works)))
    (h112 : K.lookup f_law_works = some ⟨oc_law_works, od_law_works, .func (PySem.W.fnOf "_law_works" "_law_works" (defArgs s_law_works) (defBody s_law_works) (defScope s_law_works) .none kV_law_works dc_law_works pm_law_works an_law_works cd_law_works ct_law_works), sl_law_works⟩)
    (h113 : PySem.W.codeIn K cd_law_works "_law_works" = true)
    (h114 : PySem.W.keepIn K (.ref f_law_works) = true)
    (h115 : PySem.W.nsIn K mainGlobals "_law_hours" = some (some (.ref f_law_hours)))
    (h116 : K.lookup f_law_hours = some ⟨oc_law_hours, od_law_hours, .func (PySem.W.fnOf "_law_hours" "_law_hours" (defArgs s_law_hours) (defBody s_law_hours) (defScope s_law_hours) .none kV_law_hours dc_law_hours pm_law_hours an_law_hours cd_law_hours ct_law_hours), sl_law_hours⟩)
    (h117 : PySem.W.codeIn K cd_law_hours "_law_hours" = true)
    (h118 : PySem.W.keepIn K (.ref f_law_hours) = true)
    (h119 : PySem.W.nsIn K mainGlobals "_law_lines" = some (some (.ref f_law_lines)))
    (h120 : K.lookup f_law_lines = some ⟨oc_law_lines, od_law_lines, .func (PySem.W.fnOf "_law_lines" "_law_lines" (defArgs s_law_lines) (defBody s_law_lines) (defScope s_law_lines) .none kV_law_lines dc_law_lines pm_law_lines an_law_lines cd_law_lines ct_law_lines), sl_law_lines⟩)
    (h121 : PySem.W.codeIn K cd_law_lines "_law_lines" = true)
    (h122 : PySem.W.keepIn K (.ref f_law_lines) = true)
    (h123 : PySem.W.nsIn K mainGlobals "_law_text" = some (some (.ref f_law_text)))
    (h124 : K.lookup f_law_text = some ⟨oc_law_text, od_law_text, .func (PySem.W.fnOf "_law_text" "_law_text" (defArgs s_law_text) (defBody s_law_text) (defScope s_law_text) .none kV_law_text dc_law_text pm_law_text an_law_text cd_law_text ct_law_text), sl_law_text⟩)
    (h125 : PySem.W.codeIn K cd_law_text "_law_text" = true)
    (h126 : PySem.W.keepIn K (.ref f_law_text) = true)
    (h127 : PySem.W.nsIn K mainGlobals "format_book" = some (some (.ref f_format_book)))
    (h128 : K.lookup f_format_book = some ⟨oc_format_book, od_format_book, .func (PySem.W.fnOf "format_book" "format_book" (defArgs s_format_book) (defBody s_format_book) (defScope s_format_book) .none kV_format_book dc_format_book pm_format_book an_format_book cd_format_book ct_format_book), sl_format_book⟩)
    (h129 : PySem.W.codeIn K cd_format_book "format_book" = true)
    (h130 : PySem.W.keepIn K (.ref f_format_book) = true)
    (h131 : PySem.W.nsIn K mainGlobals "_law_wide" = some (some (.ref f_law_wide)))
    (h132 : K.lookup f_law_wide = some ⟨oc_law_wide, od_law_wide, .func (PySem.W.fnOf "_law_wide" "_law_wide" (defArgs s_law_wide) (defBody s_law_wide) (defScope s_law_wide) .none kV_law_wide dc_law_wide pm_law_wide an_law_wide cd_law_wide ct_law_wide), sl_law_wide⟩)
    (h133 : PySem.W.codeIn K cd_law_wide "_law_wide" = true)
    (h134 : PySem.W.keepIn K (.ref f_law_wide) = true)
    (h135 : PySem.W.nsIn K mainGlobals "_read_numbers" = some (some (.ref f_read_numbers)))
    (h136 : K.lookup f_read_numbers = some ⟨oc_read_numbers, od_read_numbers, .func (PySem.W.fnOf "_read_numbers" "_read_numbers" (defArgs s_read_numbers) (defBody s_read_numbers) (defScope s_read_numbers) .none kV_read_numbers dc_read_numbers pm_read_numbers an_read_numbers cd_read_numbers ct_read_numbers), sl_read_numbers⟩)
    (h137 : PySem.W.codeIn K cd_read_numbers "_read_numbers" = true)
    (h138 : PySem.W.keepIn K (.ref f_read_numbers) = true)
    (h139 : PySem.W.nsIn K mainGlobals "_read_hour" = some (some (.ref f_read_hour)))
    (h140 : K.lookup f_read_hour = some ⟨oc_read_hour, od_read_hour, .func (PySem.W.fnOf "_read_hour" "_read_hour" (defArgs s_read_hour) (defBody s_read_hour) (defScope s_read_hour) .none kV_read_hour dc_read_hour pm_read_hour an_read_hour cd_read_hour ct_read_hour), sl_read_hour⟩)
    (h141 : PySem.W.codeIn K cd_read_hour "_read_hour" = true)
    (h142 : PySem.W.keepIn K (.ref f_read_hour) = true)
    (h143 : PySem.W.nsIn K mainGlobals "parse_book" = some (some (.ref f_parse_book)))
    (h144 : K.lookup f_parse_book = some ⟨oc_parse_book, od_parse_book, .func (PySem.W.fnOf "parse_book" "parse_book" (defArgs s_parse_book) (defBody s_parse_book) (defScope s_parse_book) .none kV_parse_book dc_parse_book pm_parse_book an_parse_book cd_parse_book ct_parse_book), sl_parse_book⟩)
    (h145 : PySem.W.codeIn K cd_parse_book "parse_book" = true)
    (h146 : PySem.W.keepIn K (.ref f_parse_book) = true)
    (h147 : PySem.W.nsIn K mainGlobals "law" = some (some (.ref f_law)))
    (h148 : K.lookup f_law = some ⟨oc_law, od_law, .func (PySem.W.fnOf "law" "law" (defArgs s_law) (defBody s_law) (defScope s_law) .none kV_law dc_law pm_law an_law cd_law ct_law), sl_law⟩)
    (h149 : PySem.W.codeIn K cd_law "law" = true)
    (h150 : PySem.W.keepIn K (.ref f_law) = true)
    (h151 : PySem.W.nsIn K mainGlobals "abs" = some none)
    (h152 : PySem.W.nsIn K mainGlobals "len" = some none)
    (h153 : PySem.W.nsIn K mainGlobals "range" = some none)
    (h154 : PySem.W.nsIn K mainGlobals "min" = some none)
    (h155 : PySem.W.nsIn K mainGlobals "max" = some none)
    (h156 : PySem.W.nsIn K mainGlobals "int" = some none)
    (h157 : PySem.W.nsIn K mainGlobals "isinstance" = some none)
    (h158 : PySem.W.nsIn K mainGlobals "list" = some none)
    (h159 : PySem.W.nsIn K mainGlobals "tuple" = some none)
    (h160 : PySem.W.nsIn K mainGlobals "sorted" = some none)
    (h161 : PySem.W.nsIn K mainGlobals "enumerate" = some none)
    (h162 : PySem.W.nsIn K mainGlobals "zip" = some none)
    (h163 : PySem.W.nsIn K mainGlobals "all" = some none)
    (h164 : PySem.W.nsIn K mainGlobals "any" = some none)
    (h165 : PySem.W.nsIn K mainGlobals "bool" = some none)
    (h166 : PySem.W.nsIn K mainGlobals "dict" = some none)
    (h167 : PySem.W.nsIn K mainGlobals "str" = some none)
    (h168 : PySem.W.nsIn K mainGlobals "sum" = some none)
    (h169 : PySem.W.nsIn K mainGlobals "reversed" = some none)
    (h170 : PySem.W.nsIn K mainGlobals "ValueError" = some none) :
    ∃ fd : FuncData, (∀ (s : Shared) (v : Value), BindsTo s fd ⟨[v], []⟩ [("script", v)]) ∧ ∀ base : Heap, K.In base → base.Ns mainGlobals mg → FnOk PP w K mg base (L2.CX PP w) 7 fa fd ["script"] (lawSp 63 K) := by
  have e := hfa.symm.trans (PySem.W.mg_of X G h147)
  cases e
  let T : Tx w K mg := {
    cls := (fun n_ => if 100 ≤ n_ then C15 else match n_ with | 0 => C0 | 1 => C1 | 10 => C10 | 11 => C11 | 12 => C12 | 15 => C15 | 16 => C16 | _ => 0)
    e_InvalidWorks := ⟨PySem.W.mg_of X G h2, h7, h8, h9, h10⟩
    e_InvalidCourse := ⟨PySem.W.mg_of X G h3, h11, h12, h13, h14⟩
    o_line := ⟨⟨lnm, lq, lN, lbs, _, lsn, lsub, lab, lcol, ldd, lm0, lm1, lm2, lm3, lm5, h15, rfl⟩, h16, h17, h18, h19⟩
    cl_line := fun n_ => if_pos (Nat.le_add_right 100 n_)
    f_line := h20
    ke_ga := h21
    ke_ty := h22
    ke_rd := h23
    ke_in := h24
    gx_15 := (PySem.W.mg_of X G h5)
    gx_16 := (PySem.W.mg_of X G h6)
    c_MOST_LEVEL := ⟨_, PySem.W.mg_of X G h25⟩
    c_MOST_FLOW := ⟨_, PySem.W.mg_of X G h26⟩
    c_MOST_PUMP := ⟨_, PySem.W.mg_of X G h27⟩
    c_MOST_REST := ⟨_, PySem.W.mg_of X G h28⟩
    c_MOST_HOURS := ⟨_, PySem.W.mg_of X G h29⟩
    c_MOST_BOUND := ⟨_, PySem.W.mg_of X G h30⟩
    c_MOST_DIGITS := ⟨_, PySem.W.mg_of X G h31⟩
    cl_0 := ⟨h32, h33, h34, h35⟩
    g_Works := PySem.W.mg_of X G h0
    na_wall := h36
    na_flow := h37
    na_pump := h38
    na_rest := h39
    na_deep := h40
    cl_1 := ⟨h41, h42, h43, h44⟩
    g_Course := PySem.W.mg_of X G h1
    na_hours := h45
    a_is_whole := f_is_whole
    fd_is_whole := PySem.W.fnOf "is_whole" "is_whole" (defArgs s_is_whole) (defBody s_is_whole) (defScope s_is_whole) .none kV_is_whole dc_is_whole pm_is_whole an_is_whole cd_is_whole ct_is_whole
    F_is_whole := fun_mk (st := s_is_whole) h47 h48 h49
    k_is_whole := h49
    b_is_whole := (fun_mk (st := s_is_whole) h47 h48 h49).binds fun _ _ _ _ _ _ us hl => match us, hl with | [_, _, _], _ => rfl
    g_is_whole := PySem.W.mg_of X G h46
    a_check_works_number := f_check_works_number
    fd_check_works_number := PySem.W.fnOf "_check_works_number" "_check_works_number" (defArgs s_check_works_number) (defBody s_check_works_number) (defScope s_check_works_number) .none kV_check_works_number dc_check_works_number pm_check_works_number an_check_works_number cd_check_works_number ct_check_works_number
    F_check_works_number := fun_mk (st := s_check_works_number) h51 h52 h53
    k_check_works_number := h53
    b_check_works_number := (fun_mk (st := s_check_works_number) h51 h52 h53).binds fun _ _ _ _ _ _ us hl => match us, hl with | [_, _, _, _], _ => rfl
    g_check_works_number := PySem.W.mg_of X G h50
    a_check_bounds := f_check_bounds
    fd_check_bounds := PySem.W.fnOf "_check_bounds" "_check_bounds" (defArgs s_check_bounds) (defBody s_check_bounds) (defScope s_check_bounds) .none kV_check_bounds dc_check_bounds pm_check_bounds an_check_bounds cd_check_bounds ct_check_bounds
    F_check_bounds := fun_mk (st := s_check_bounds) h55 h56 h57
    k_check_bounds := h57
    b_check_bounds := (fun_mk (st := s_check_bounds) h55 h56 h57).binds fun _ _ _ _ _ _ us hl => match us, hl with | [_, _], _ => rfl
    g_check_bounds := PySem.W.mg_of X G h54
    a_check_hour := f_check_hour
    fd_check_hour := PySem.W.fnOf "_check_hour" "_check_hour" (defArgs s_check_hour) (defBody s_check_hour) (defScope s_check_hour) .none kV_check_hour dc_check_hour pm_check_hour an_check_hour cd_check_hour ct_check_hour
    F_check_hour := fun_mk (st := s_check_hour) h59 h60 h61
    k_check_hour := h61
    b_check_hour := (fun_mk (st := s_check_hour) h59 h60 h61).binds fun _ _ _ _ _ _ us hl => match us, hl with | [_], _ => rfl
    g_check_hour := PySem.W.mg_of X G h58
    a_Works__init := f_Works__init
    fd_Works__init := PySem.W.fnOf "__init__" "Works.__init__" (defArgs s_Works__init) (defBody s_Works__init) (defScope s_Works__init) .none kV_Works__init dc_Works__init pm_Works__init an_Works__init cd_Works__init ct_Works__init
    F_Works__init := fun_mk (st := s_Works__init) h64 h65 h66
    b_Works__init := (fun_mk (st := s_Works__init) h64 h65 h66).binds fun _ _ _ _ _ _ us hl => match us, hl with | [_, _, _, _, _, _], _ => rfl
    mk_0 := ⟨h67, h62, h63, h68⟩
    a_Course__init := f_Course__init
    fd_Course__init := PySem.W.fnOf "__init__" "Course.__init__" (defArgs s_Course__init) (defBody s_Course__init) (defScope s_Course__init) .none kV_Course__init dc_Course__init pm_Course__init an_Course__init cd_Course__init ct_Course__init
    F_Course__init := fun_mk (st := s_Course__init) h71 h72 h73
    b_Course__init := (fun_mk (st := s_Course__init) h71 h72 h73).binds fun _ _ _ _ _ _ us hl => match us, hl with | [_, _], _ => rfl
    mk_1 := ⟨h74, h69, h70, h75⟩
    a_Course_count := f_Course_count
    fd_Course_count := PySem.W.fnOf "count" "Course.count" (defArgs s_Course_count) (defBody s_Course_count) (defScope s_Course_count) .none kV_Course_count dc_Course_count pm_Course_count an_Course_count cd_Course_count ct_Course_count
    F_Course_count := fun_mk (st := s_Course_count) h78 h79 h80
    a_law_state := f_law_state
    fd_law_state := PySem.W.fnOf "_law_state" "_law_state" (defArgs s_law_state) (defBody s_law_state) (defScope s_law_state) .none kV_law_state dc_law_state pm_law_state an_law_state cd_law_state ct_law_state
    F_law_state := fun_mk (st := s_law_state) h82 h83 h84
    k_law_state := h84
    b_law_state := (fun_mk (st := s_law_state) h82 h83 h84).binds fun _ _ _ _ _ _ us hl => match us, hl with | [_], _ => rfl
    g_law_state := PySem.W.mg_of X G h81
    a_law_mixed := f_law_mixed
    fd_law_mixed := PySem.W.fnOf "_law_mixed" "_law_mixed" (defArgs s_law_mixed) (defBody s_law_mixed) (defScope s_law_mixed) .none kV_law_mixed dc_law_mixed pm_law_mixed an_law_mixed cd_law_mixed ct_law_mixed
    F_law_mixed := fun_mk (st := s_law_mixed) h86 h87 h88
    k_law_mixed := h88
    b_law_mixed := (fun_mk (st := s_law_mixed) h86 h87 h88).binds fun _ _ _ _ _ _ us hl => match us, hl with | [_], _ => rfl
    g_law_mixed := PySem.W.mg_of X G h85
    a_law_take := f_law_take
    fd_law_take := PySem.W.fnOf "_law_take" "_law_take" (defArgs s_law_take) (defBody s_law_take) (defScope s_law_take) .none kV_law_take dc_law_take pm_law_take an_law_take cd_law_take ct_law_take
    F_law_take := fun_mk (st := s_law_take) h90 h91 h92
    k_law_take := h92
    b_law_take := (fun_mk (st := s_law_take) h90 h91 h92).binds fun _ _ _ _ _ _ us hl => match us, hl with | [_, _], _ => rfl
    g_law_take := PySem.W.mg_of X G h89
    a_InvalidLine__init := f_InvalidLine__init
    fd_InvalidLine__init := PySem.W.fnOf "__init__" "InvalidLine.__init__" (defArgs s_InvalidLine__init) (defBody s_InvalidLine__init) (defScope s_InvalidLine__init) .none kV_InvalidLine__init dc_InvalidLine__init pm_InvalidLine__init an_InvalidLine__init cd_InvalidLine__init ct_InvalidLine__init
    F_InvalidLine__init := fun_mk (st := s_InvalidLine__init) h95 h96 h97
    b_InvalidLine__init := (fun_mk (st := s_InvalidLine__init) h95 h96 h97).binds fun _ _ _ _ _ _ us hl => match us, hl with | [_, _], _ => rfl
    i_line := h93
    t_line := h98
    a_read_number := f_read_number
    fd_read_number := PySem.W.fnOf "read_number" "read_number" (defArgs s_read_number) (defBody s_read_number) (defScope s_read_number) .none kV_read_number dc_read_number pm_read_number an_read_number cd_read_number ct_read_number
    F_read_number := fun_mk (st := s_read_number) h100 h101 h102
    k_read_number := h102
    b_read_number := (fun_mk (st := s_read_number) h100 h101 h102).binds fun _ _ _ _ _ _ us hl => match us, hl with | [_], _ => rfl
    g_read_number := PySem.W.mg_of X G h99
    a_format_hour := f_format_hour
    fd_format_hour := PySem.W.fnOf "_format_hour" "_format_hour" (defArgs s_format_hour) (defBody s_format_hour) (defScope s_format_hour) .none kV_format_hour dc_format_hour pm_format_hour an_format_hour cd_format_hour ct_format_hour
    F_format_hour := fun_mk (st := s_format_hour) h104 h105 h106
    k_format_hour := h106
    b_format_hour := (fun_mk (st := s_format_hour) h104 h105 h106).binds fun _ _ _ _ _ _ us hl => match us, hl with | [_], _ => rfl
    g_format_hour := PySem.W.mg_of X G h103
    a_hour_lines := f_hour_lines
    fd_hour_lines := PySem.W.fnOf "hour_lines" "hour_lines" (defArgs s_hour_lines) (defBody s_hour_lines) (defScope s_hour_lines) .none kV_hour_lines dc_hour_lines pm_hour_lines an_hour_lines cd_hour_lines ct_hour_lines
    F_hour_lines := fun_mk (st := s_hour_lines) h108 h109 h110
    k_hour_lines := h110
    b_hour_lines := (fun_mk (st := s_hour_lines) h108 h109 h110).binds fun _ _ _ _ _ _ us hl => match us, hl with | [_], _ => rfl
    g_hour_lines := PySem.W.mg_of X G h107
    a_law_works := f_law_works
    fd_law_works := PySem.W.fnOf "_law_works" "_law_works" (defArgs s_law_works) (defBody s_law_works) (defScope s_law_works) .none kV_law_works dc_law_works pm_law_works an_law_works cd_law_works ct_law_works
    F_law_works := fun_mk (st := s_law_works) h112 h113 h114
    k_law_works := h114
    b_law_works := (fun_mk (st := s_law_works) h112 h113 h114).binds fun _ _ _ _ _ _ us hl => match us, hl with | [_], _ => rfl
    g_law_works := PySem.W.mg_of X G h111
    a_law_hours := f_law_hours
    fd_law_hours := PySem.W.fnOf "_law_hours" "_law_hours" (defArgs s_law_hours) (defBody s_law_hours) (defScope s_law_hours) .none kV_law_hours dc_law_hours pm_law_hours an_law_hours cd_law_hours ct_law_hours
    F_law_hours := fun_mk (st := s_law_hours) h116 h117 h118
    k_law_hours := h118
    b_law_hours := (fun_mk (st := s_law_hours) h116 h117 h118).binds fun _ _ _ _ _ _ us hl => match us, hl with | [_, _], _ => rfl
    g_law_hours := PySem.W.mg_of X G h115
    a_law_lines := f_law_lines
    fd_law_lines := PySem.W.fnOf "_law_lines" "_law_lines" (defArgs s_law_lines) (defBody s_law_lines) (defScope s_law_lines) .none kV_law_lines dc_law_lines pm_law_lines an_law_lines cd_law_lines ct_law_lines
    F_law_lines := fun_mk (st := s_law_lines) h120 h121 h122
    k_law_lines := h122
    b_law_lines := (fun_mk (st := s_law_lines) h120 h121 h122).binds fun _ _ _ _ _ _ us hl => match us, hl with | [_, _], _ => rfl
    g_law_lines := PySem.W.mg_of X G h119
    a_law_text := f_law_text
    fd_law_text := PySem.W.fnOf "_law_text" "_law_text" (defArgs s_law_text) (defBody s_law_text) (defScope s_law_text) .none kV_law_text dc_law_text pm_law_text an_law_text cd_law_text ct_law_text
    F_law_text := fun_mk (st := s_law_text) h124 h125 h126
    k_law_text := h126
    b_law_text := (fun_mk (st := s_law_text) h124 h125 h126).binds fun _ _ _ _ _ _ us hl => match us, hl with | [_], _ => rfl
    g_law_text := PySem.W.mg_of X G h123
    a_format_book := f_format_book
    fd_format_book := PySem.W.fnOf "format_book" "format_book" (defArgs s_format_book) (defBody s_format_book) (defScope s_format_book) .none kV_format_book dc_format_book pm_format_book an_format_book cd_format_book ct_format_book
    F_format_book := fun_mk (st := s_format_book) h128 h129 h130
    k_format_book := h130
    b_format_book := (fun_mk (st := s_format_book) h128 h129 h130).binds fun _ _ _ _ _ _ us hl => match us, hl with | [_, _], _ => rfl
    g_format_book := PySem.W.mg_of X G h127
    a_law_wide := f_law_wide
    fd_law_wide := PySem.W.fnOf "_law_wide" "_law_wide" (defArgs s_law_wide) (defBody s_law_wide) (defScope s_law_wide) .none kV_law_wide dc_law_wide pm_law_wide an_law_wide cd_law_wide ct_law_wide
    F_law_wide := fun_mk (st := s_law_wide) h132 h133 h134
    k_law_wide := h134
    b_law_wide := (fun_mk (st := s_law_wide) h132 h133 h134).binds fun _ _ _ _ _ _ us hl => match us, hl with | [_, _], _ => rfl
    g_law_wide := PySem.W.mg_of X G h131
    a_read_numbers := f_read_numbers
    fd_read_numbers := PySem.W.fnOf "_read_numbers" "_read_numbers" (defArgs s_read_numbers) (defBody s_read_numbers) (defScope s_read_numbers) .none kV_read_numbers dc_read_numbers pm_read_numbers an_read_numbers cd_read_numbers ct_read_numbers
    F_read_numbers := fun_mk (st := s_read_numbers) h136 h137 h138
    k_read_numbers := h138
    b_read_numbers := (fun_mk (st := s_read_numbers) h136 h137 h138).binds fun _ _ _ _ _ _ us hl => match us, hl with | [_, _, _], _ => rfl
    g_read_numbers := PySem.W.mg_of X G h135
    a_read_hour := f_read_hour
    fd_read_hour := PySem.W.fnOf "_read_hour" "_read_hour" (defArgs s_read_hour) (defBody s_read_hour) (defScope s_read_hour) .none kV_read_hour dc_read_hour pm_read_hour an_read_hour cd_read_hour ct_read_hour
    F_read_hour := fun_mk (st := s_read_hour) h140 h141 h142
    k_read_hour := h142
    b_read_hour := (fun_mk (st := s_read_hour) h140 h141 h142).binds fun _ _ _ _ _ _ us hl => match us, hl with | [_], _ => rfl
    g_read_hour := PySem.W.mg_of X G h139
    a_parse_book := f_parse_book
    fd_parse_book := PySem.W.fnOf "parse_book" "parse_book" (defArgs s_parse_book) (defBody s_parse_book) (defScope s_parse_book) .none kV_parse_book dc_parse_book pm_parse_book an_parse_book cd_parse_book ct_parse_book
    F_parse_book := fun_mk (st := s_parse_book) h144 h145 h146
    k_parse_book := h146
    b_parse_book := (fun_mk (st := s_parse_book) h144 h145 h146).binds fun _ _ _ _ _ _ us hl => match us, hl with | [_], _ => rfl
    g_parse_book := PySem.W.mg_of X G h143
    a_law := fa
    fd_law := PySem.W.fnOf "law" "law" (defArgs s_law) (defBody s_law) (defScope s_law) .none kV_law dc_law pm_law an_law cd_law ct_law
    F_law := fun_mk (st := s_law) h148 h149 h150
    n_abs := PySem.W.mg_none_of X G h151
    nogl := List.forall_mem_cons.mpr ⟨PySem.W.mg_none_of X G h152, List.forall_mem_cons.mpr ⟨PySem.W.mg_none_of X G h153, List.forall_mem_cons.mpr ⟨PySem.W.mg_none_of X G h154, List.forall_mem_cons.mpr ⟨PySem.W.mg_none_of X G h155, List.forall_mem_cons.mpr ⟨PySem.W.mg_none_of X G h156, List.forall_mem_cons.mpr ⟨PySem.W.mg_none_of X G h157, List.forall_mem_cons.mpr ⟨PySem.W.mg_none_of X G h158, List.forall_mem_cons.mpr ⟨PySem.W.mg_none_of X G h159, List.forall_mem_cons.mpr ⟨PySem.W.mg_none_of X G h160, List.forall_mem_cons.mpr ⟨PySem.W.mg_none_of X G h161, List.forall_mem_cons.mpr ⟨PySem.W.mg_none_of X G h162, List.forall_mem_cons.mpr ⟨PySem.W.mg_none_of X G h163, List.forall_mem_cons.mpr ⟨PySem.W.mg_none_of X G h164, List.forall_mem_cons.mpr ⟨PySem.W.mg_none_of X G h165, List.forall_mem_cons.mpr ⟨PySem.W.mg_none_of X G h166, List.forall_mem_cons.mpr ⟨PySem.W.mg_none_of X G h167, List.forall_mem_cons.mpr ⟨PySem.W.mg_none_of X G h168, List.forall_mem_cons.mpr ⟨PySem.W.mg_none_of X G h169, List.forall_mem_cons.mpr ⟨PySem.W.mg_none_of X G h170, fun _ h_ => nomatch h_⟩⟩⟩⟩⟩⟩⟩⟩⟩⟩⟩⟩⟩⟩⟩⟩⟩⟩⟩ }
  exact ⟨_, fun s v => .of_eq rfl, fun base _ _ => (ok_law (PP := PP) (w := w) (base := base) T).imp (law_to fun ns hl => ⟨ns, rfl, hl, rfl⟩)⟩
end Sk
open PySem PySem.W PyProof.Rows
set_option maxHeartbeats 0
open_top Sk.top_head for PySem.Challenge.rw_surgekept_k61_whole_books_come_back
theorem PySem.Challenge.cw_surgekept_k61_whole_books_come_back_holds : PySem.Challenge.rw_surgekept_k61_whole_books_come_back.Holds := by
  refine Sk.top_head ?_
  k_fill
  refine L2.walk_of (l := PySem.Challenge.rw_surgekept_k61_whole_books_come_back) (n := 63) (k := 7) (x := "script") (CX := fun w => L2.CX PySem.Challenge.rw_surgekept_k61_whole_books_come_back.prog w) (sp := fun w => Rk.lawSp 63 _) rfl (by decide) rfl ⟨rfl, by decide, by decide⟩ (fun w h Y => kIn_of Y) ?F (fun _ _ a ns hl _ hS => ⟨a, ns, rfl, hl, hS, fun _ => rfl⟩) (fun _ _ _ _ _ z => Rk.law_cx z)
  intro w mg fa h KX G hmg
  refine' Sk.all_mk KX G hmg ?h0 ?h1 ?h2 ?h3 ?h4 ?h5 ?h6 ?h7 ?h8 ?h9 ?h10 ?h11 ?h12 ?h13 ?h14 ?h15 ?h16 ?h17 ?h18 ?h19 ?h20 ?h21 ?h22 ?h23 ?h24 ?h25 ?h26 ?h27 ?h28 ?h29 ?h30 ?h31 ?h32 ?h33 ?h34 ?h35 ?h36 ?h37 ?h38 ?h39 ?h40 ?h41 ?h42 ?h43 ?h44 ?h45 ?h46 ?h47 ?h48 ?h49 ?h50 ?h51 ?h52 ?h53 ?h54 ?h55 ?h56 ?h57 ?h58 ?h59 ?h60 ?h61 ?h62 ?h63 ?h64 ?h65 ?h66 ?h67 ?h68 ?h69 ?h70 ?h71 ?h72 ?h73 ?h74 ?h75 ?h76 ?h77 ?h78 ?h79 ?h80 ?h81 ?h82 ?h83 ?h84 ?h85 ?h86 ?h87 ?h88 ?h89 ?h90 ?h91 ?h92 ?h93 ?h94 ?h95 ?h96 ?h97 ?h98 ?h99 ?h100 ?h101 ?h102 ?h103 ?h104 ?h105 ?h106 ?h107 ?h108 ?h109 ?h110 ?h111 ?h112 ?h113 ?h114 ?h115 ?h116 ?h117 ?h118 ?h119 ?h120 ?h121 ?h122 ?h123 ?h124 ?h125 ?h126 ?h127 ?h128 ?h129 ?h130 ?h131 ?h132 ?h133 ?h134 ?h135 ?h136 ?h137 ?h138 ?h139 ?h140 ?h141 ?h142 ?h143 ?h144 ?h145 ?h146 ?h147 ?h148 ?h149 ?h150 ?h151 ?h152 ?h153 ?h154 ?h155 ?h156 ?h157 ?h158 ?h159 ?h160 ?h161 ?h162 ?h163 ?h164 ?h165 ?h166 ?h167 ?h168 ?h169 ?h170
  (case h0 => k_is)
  (case h1 => k_is)
  (case h2 => k_is)
  (case h3 => k_is)
  (case h4 => k_is)
  (case h5 => k_is)
  (case h6 => k_is)
  (case h7 => k_exc)
  (case h8 => k_is)
  (case h9 => k_is)
  (case h10 => k_is)
  (case h11 => k_exc)
  (case h12 => k_is)
  (case h13 => k_is)
  (case h14 => k_is)
  (case h15 => k_is)
  (case h16 => k_is)
  (case h17 => k_is)
  (case h18 => k_is)
  (case h19 => k_is)
  (case h20 => k_is)
  (case h21 => k_is)
  (case h22 => k_is)
  (case h23 => k_is)
  (case h24 => k_is)
  (case h25 => k_is)
  (case h26 => k_is)
  (case h27 => k_is)
  (case h28 => k_is)
  (case h29 => k_is)
  (case h30 => k_is)
  (case h31 => k_is)
  (case h32 => k_is)
  (case h33 => k_is)
  (case h34 => k_is)
  (case h35 => k_is)
  (case h36 => k_is)
  (case h37 => k_is)
  (case h38 => k_is)
  (case h39 => k_is)
  (case h40 => k_is)
  (case h41 => k_is)
  (case h42 => k_is)
  (case h43 => k_is)
  (case h44 => k_is)
  (case h45 => k_is)
  (case h46 => k_is)
  (case h47 => k_is)
  (case h48 => k_is)
  (case h49 => k_is)
  (case h50 => k_is)
  (case h51 => k_is)
  (case h52 => k_is)
  (case h53 => k_is)
  (case h54 => k_is)
  (case h55 => k_is)
  (case h56 => k_is)
  (case h57 => k_is)
  (case h58 => k_is)
  (case h59 => k_is)
  (case h60 => k_is)
  (case h61 => k_is)
  (case h62 => k_is)
  (case h63 => k_is)
  (case h64 => k_is)
  (case h65 => k_is)
  (case h66 => k_is)
  (case h67 => k_is)
  (case h68 => k_is)
  (case h69 => k_is)
  (case h70 => k_is)
  (case h71 => k_is)
  (case h72 => k_is)
  (case h73 => k_is)
  (case h74 => k_is)
  (case h75 => k_is)
  (case h76 => k_is)
  (case h77 => k_is)
  (case h78 => k_is)
  (case h79 => k_is)
  (case h80 => k_is)
  (case h81 => k_is)
  (case h82 => k_is)
  (case h83 => k_is)
  (case h84 => k_is)
  (case h85 => k_is)
  (case h86 => k_is)
  (case h87 => k_is)
  (case h88 => k_is)
  (case h89 => k_is)
  (case h90 => k_is)
  (case h91 => k_is)
  (case h92 => k_is)
  (case h93 => k_is)
  (case h94 => k_is)
  (case h95 => k_is)
  (case h96 => k_is)
  (case h97 => k_is)
  (case h98 => k_is)
  (case h99 => k_is)
  (case h100 => k_is)
  (case h101 => k_is)
  (case h102 => k_is)
  (case h103 => k_is)
  (case h104 => k_is)
  (case h105 => k_is)
  (case h106 => k_is)
  (case h107 => k_is)
  (case h108 => k_is)
  (case h109 => k_is)
  (case h110 => k_is)
  (case h111 => k_is)
  (case h112 => k_is)
  (case h113 => k_is)
  (case h114 => k_is)
  (case h115 => k_is)
  (case h116 => k_is)
  (case h117 => k_is)
  (case h118 => k_is)
  (case h119 => k_is)
  (case h120 => k_is)
  (case h121 => k_is)
  (case h122 => k_is)
  (case h123 => k_is)
  (case h124 => k_is)
  (case h125 => k_is)
  (case h126 => k_is)
  (case h127 => k_is)
  (case h128 => k_is)
  (case h129 => k_is)
  (case h130 => k_is)
  (case h131 => k_is)
  (case h132 => k_is)
  (case h133 => k_is)
  (case h134 => k_is)
  (case h135 => k_is)
  (case h136 => k_is)
  (case h137 => k_is)
  (case h138 => k_is)
  (case h139 => k_is)
  (case h140 => k_is)
  (case h141 => k_is)
  (case h142 => k_is)
  (case h143 => k_is)
  (case h144 => k_is)
  (case h145 => k_is)
  (case h146 => k_is)
  (case h147 => k_is)
  (case h148 => k_is)
  (case h149 => k_is)
  (case h150 => k_is)
  (case h151 => k_is)
  (case h152 => k_is)
  (case h153 => k_is)
  (case h154 => k_is)
  (case h155 => k_is)
  (case h156 => k_is)
  (case h157 => k_is)
  (case h158 => k_is)
  (case h159 => k_is)
  (case h160 => k_is)
  (case h161 => k_is)
  (case h162 => k_is)
  (case h163 => k_is)
  (case h164 => k_is)
  (case h165 => k_is)
  (case h166 => k_is)
  (case h167 => k_is)
  (case h168 => k_is)
  (case h169 => k_is)
  (case h170 => k_is)

