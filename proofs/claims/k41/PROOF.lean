import PyProof.Rows.All
import Wide.All
import OpenK.AllK
import Wide.FinOn
import HandS.ForMost
import HandS.ForExc
import HandS.FStr
import HandS.Small
import HandS.Style
import HandS.IsInst
import HandS.ExcIs
import HandS.Flow
import HandS.CallSlots
import HandS.RaiseMore
import HandS.Conv
import HandS.SortInts
import KE.KeyNested
import HandS.SetBool
import HandS.DictComp
import HandS.AnyAll
import KE.KDictZip
import HandS.Star
import HandS.TryOnly
import HandS.Flt
import HandS.Sort
import HandS.ExcInit
import HandS.StrMore
import HandS.StrSplit
import HandS.HotCalls
import KE.KExcIs
import HandS.ExcField
import HandS.Iter
import PyProof.Rows.SortStrRead
import KE.GoesEnumKw
import KE.KAssignIn
import HandS.Comp
import HandS.List
import HandS.Rev
import PyProof.CollectIter
import PyProof.ListNew
import HandS.Head2
import PySem.Challenge.RW_surgekept_k41_rows_of_the_papers
set_option Elab.async false
set_option linter.all false
set_option maxRecDepth 100000
set_option maxHeartbeats 4000000
namespace Rk
open PySem L2
structure Gm where
  K : PySem.W.Frag
  cls : Nat → Addr
noncomputable def Hid (hs : Addr → Prop) (H : Hp) : Hp := fun a => open Classical in if hs a then none else H a
theorem hid_of {hs : Addr → Prop} {H : Hp} {a : Addr} {o : HO} (h : Hid hs H a = some o) : H a = some o := by
  unfold Hid at h
  split at h
  · cases h
  · exact h
theorem hid_at {hs : Addr → Prop} {H : Hp} {a : Addr} (h : ¬ hs a) : Hid hs H a = H a := by
  unfold Hid; rw [if_neg h]
theorem hid_same {hs : Addr → Prop} {H H' : Hp} (e : Same H H') : Same (Hid hs H) (Hid hs H') := fun a o h => by
  have h1 := hid_of h
  by_cases q : hs a
  · unfold Hid at h; rw [if_pos q] at h; cases h
  · rw [hid_at q]; exact e a o h1
theorem hid_le {hs : Addr → Prop} {H : Hp} : Same (Hid hs H) H := fun _ _ h => hid_of h
theorem hid_more {hs hs' : Addr → Prop} {H : Hp} (h : ∀ a, hs' a → hs a) : Same (Hid hs H) (Hid hs' H) := fun a o e => by
  have h1 := hid_of e
  by_cases q : hs a
  · unfold Hid at e; rw [if_pos q] at e; cases e
  · rw [hid_at fun z => q (h a z)]; exact h1
theorem hid_upd {hs : Addr → Prop} {H : Hp} {p : Addr} {o : HO} (h : hs p) : Hid hs (upd H p o) = Hid hs H := by
  funext a
  by_cases q : hs a
  · unfold Hid; rw [if_pos q, if_pos q]
  · rw [hid_at q, hid_at q, upd_ne fun e => q (by rw [e]; exact h)]
theorem same_new {H : Hp} {p : Addr} {o : HO} (h : H p = none) : Same H (upd H p o) := fun b u e => by
  rw [upd_ne (ne_of_none e h)]; exact e
class Rp (α : Type) where
  rep : Gm → Hp → V → α → Prop
  mono : ∀ {G : Gm} {H H' : Hp} {v : V} {a : α}, Same H H' → rep G H v a → rep G H' v a
structure DV : Type 1 where
  ty : Type
  ins : Rp ty
  val : ty
@[reducible] def dv {α : Type} [i : Rp α] (a : α) : DV := ⟨α, i, a⟩
def DV.rep (G : Gm) (H : Hp) (v : V) (d : DV) : Prop := d.ins.rep G H v d.val
theorem DV.mono {G : Gm} {H H' : Hp} {v : V} {d : DV} (e : Same H H') (h : d.rep G H v) : d.rep G H' v := d.ins.mono e h
def RepAll (G : Gm) (H : Hp) : List V → List DV → Prop
  | [], [] => True
  | v :: vs, d :: ds => d.rep G H v ∧ RepAll G H vs ds
  | _, _ => False
theorem RepAll.mono {G : Gm} {H H' : Hp} (e : Same H H') : ∀ {vs : List V} {ds : List DV}, RepAll G H vs ds → RepAll G H' vs ds
  | [], [], _ => trivial
  | _ :: _, _ :: _, h => ⟨DV.mono e h.1, RepAll.mono e h.2⟩
theorem RepAll.len {G : Gm} {H : Hp} : ∀ {vs : List V} {ds : List DV}, RepAll G H vs ds → vs.length = ds.length
  | [], [], _ => rfl
  | _ :: _, _ :: _, h => congrArg (· + 1) (RepAll.len h.2)
theorem RepAll.get {G : Gm} {H : Hp} : ∀ {vs : List V} {ds : List DV} {i : Nat} {d : DV}, RepAll G H vs ds → ds[i]? = some d → ∃ v, vs[i]? = some v ∧ d.rep G H v
  | [], [], _, _, _, e => by simp at e
  | v :: _, d :: _, 0, x, h, e => by
    have q : d = x := by simpa using e
    exact ⟨v, rfl, q ▸ h.1⟩
  | _ :: _, _ :: _, i + 1, _, h, e => by
    obtain ⟨v, h1, h2⟩ := RepAll.get (i := i) h.2 (by simpa using e)
    exact ⟨v, by simpa using h1, h2⟩
theorem RepAll.get' {G : Gm} {H : Hp} : ∀ {vs : List V} {ds : List DV} {i : Nat} {v : V}, RepAll G H vs ds → vs[i]? = some v → ∃ d, ds[i]? = some d ∧ d.rep G H v
  | [], [], _, _, _, e => by simp at e
  | w :: _, d :: _, 0, x, h, e => by
    have q : w = x := by simpa using e
    exact ⟨d, rfl, q ▸ h.1⟩
  | _ :: _, _ :: _, i + 1, _, h, e => by
    obtain ⟨v, h1, h2⟩ := RepAll.get' (i := i) h.2 (by simpa using e)
    exact ⟨v, by simpa using h1, h2⟩
theorem RepAll.app {G : Gm} {H : Hp} : ∀ {vs ws : List V} {ds es : List DV}, RepAll G H vs ds → RepAll G H ws es → RepAll G H (vs ++ ws) (ds ++ es)
  | [], _, [], _, _, k => k
  | _ :: _, _, _ :: _, _, h, k => ⟨h.1, RepAll.app h.2 k⟩
theorem RepAll.take {G : Gm} {H : Hp} : ∀ {vs : List V} {ds : List DV} (n : Nat), RepAll G H vs ds → RepAll G H (vs.take n) (ds.take n)
  | _, _, 0, _ => trivial
  | [], [], _ + 1, _ => trivial
  | _ :: _, _ :: _, n + 1, h => ⟨h.1, RepAll.take n h.2⟩
theorem RepAll.drop {G : Gm} {H : Hp} : ∀ {vs : List V} {ds : List DV} (n : Nat), RepAll G H vs ds → RepAll G H (vs.drop n) (ds.drop n)
  | _, _, 0, h => h
  | [], [], _ + 1, _ => trivial
  | _ :: _, _ :: _, n + 1, h => RepAll.drop n h.2
theorem RepAll.set {G : Gm} {H : Hp} {v : V} {d : DV} (r : d.rep G H v) : ∀ {vs : List V} {ds : List DV} (n : Nat), RepAll G H vs ds → RepAll G H (vs.set n v) (ds.set n d)
  | [], [], _, _ => trivial
  | _ :: _, _ :: _, 0, h => ⟨r, h.2⟩
  | _ :: _, _ :: _, n + 1, h => ⟨h.1, RepAll.set r n h.2⟩
class Sc (α : Type) where
  v : α → V
  inj : ∀ {a b : α}, v a = v b → a = b
@[reducible] def scRp (α : Type) [i : Sc α] : Rp α := ⟨fun _ _ v a => v = i.v a, fun _ h => h⟩
instance : Sc Int := ⟨V.int, fun h => by injection h⟩
instance : Sc Bool := ⟨V.bl, fun h => by injection h⟩
instance : Sc Unit := ⟨fun _ => V.non, fun _ => rfl⟩
instance : Sc Str := ⟨V.str, fun h => by injection h⟩
instance : Sc V := ⟨id, fun h => h⟩
def oiV : Option Int → V
  | none => .non
  | some i => .int i
instance : Sc (Option Int) := ⟨oiV, fun {a b} h => by cases a <;> cases b <;> first | rfl | (injection h with e; rw [e]) | cases h⟩
def obV : Option Bool → V
  | none => .non
  | some i => .bl i
instance : Sc (Option Bool) := ⟨obV, fun {a b} h => by cases a <;> cases b <;> first | rfl | (injection h with e; rw [e]) | cases h⟩
instance : Rp Int := scRp Int
instance : Rp Bool := scRp Bool
instance : Rp Unit := scRp Unit
instance : Rp Str := scRp Str
instance : Rp V := scRp V
instance : Rp (Option Int) := scRp (Option Int)
instance : Rp (Option Bool) := scRp (Option Bool)
@[reducible] def tpRp {α : Type} (ds : α → List DV) : Rp α where
  rep := fun G H v a => ∃ p vs, v = .ref p ∧ H p = some (.tup vs) ∧ RepAll G H vs (ds a)
  mono := fun e ⟨p, vs, h1, h2, h3⟩ => ⟨p, vs, h1, e _ _ h2, h3.mono e⟩
instance {α β : Type} [Rp α] [Rp β] : Rp (α × β) := tpRp fun p => [dv p.1, dv p.2]
@[reducible] def lsRp {α : Type} (ds : α → List DV) : Rp α where
  rep := fun G H v a => ∃ p vs, v = .ref p ∧ H p = some (.lst vs) ∧ RepAll G H vs (ds a)
  mono := fun e ⟨p, vs, h1, h2, h3⟩ => ⟨p, vs, h1, e _ _ h2, h3.mono e⟩
def dvs {α : Type} [Rp α] (xs : List α) : List DV := xs.map dv
instance {α : Type} [Rp α] : Rp (List α) := lsRp dvs
structure Scr where
  ns : List Int
instance : Rp Scr where
  rep := fun G H v a => ∃ p, v = .ref p ∧ SqL G.K H p (a.ns.map V.int)
  mono := fun e ⟨p, h1, h2⟩ => ⟨p, h1, e.seq h2⟩
theorem dvs_len {α : Type} [Rp α] (xs : List α) : (dvs xs).length = xs.length := List.length_map _
theorem dvs_get {α : Type} [Rp α] (xs : List α) (i : Nat) : (dvs xs)[i]? = (xs[i]?).map dv := List.getElem?_map
def RepF (G : Gm) (H : Hp) : List (Str × V) → List (Str × DV) → Prop
  | [], [] => True
  | (n, v) :: vs, (m, d) :: ds => n = m ∧ d.rep G H v ∧ RepF G H vs ds
  | _, _ => False
theorem RepF.mono {G : Gm} {H H' : Hp} (e : Same H H') : ∀ {vs : List (Str × V)} {ds : List (Str × DV)}, RepF G H vs ds → RepF G H' vs ds
  | [], [], _ => trivial
  | (_, _) :: _, (_, _) :: _, h => ⟨h.1, DV.mono e h.2.1, RepF.mono e h.2.2⟩
theorem RepF.get {G : Gm} {H : Hp} {f : Str} : ∀ {vs : List (Str × V)} {ds : List (Str × DV)} {d : DV}, RepF G H vs ds → ds.lookup f = some d → ∃ v, vs.lookup f = some v ∧ d.rep G H v
  | [], [], _, _, e => by simp at e
  | (n, v) :: vs, (m, d) :: ds, x, h, e => by
    obtain ⟨rfl, h1, h2⟩ := h
    by_cases q : f == n
    · rw [List.lookup_cons, q] at e ⊢
      have z : d = x := by simpa using e
      exact ⟨v, rfl, z ▸ h1⟩
    · have q' : (f == n) = false := by simpa using q
      rw [List.lookup_cons, q'] at e ⊢
      exact RepF.get h2 e
theorem RepF.no {G : Gm} {H : Hp} {f : Str} : ∀ {vs : List (Str × V)} {ds : List (Str × DV)}, RepF G H vs ds → ds.lookup f = none → vs.lookup f = none
  | [], [], _, _ => rfl
  | (n, v) :: vs, (m, d) :: ds, h, e => by
    obtain ⟨rfl, h1, h2⟩ := h
    by_cases q : f == n
    · rw [List.lookup_cons, q] at e; cases e
    · have q' : (f == n) = false := by simpa using q
      rw [List.lookup_cons, q'] at e ⊢
      exact RepF.no h2 e
@[reducible] def obRp {α : Type} (c : Nat) (fs : α → List (Str × DV)) : Rp α where
  rep := fun G H v a => ∃ p dx kvs, v = .ref p ∧ H p = some (.ins (G.cls c) dx kvs) ∧ RepF G H kvs (fs a)
  mono := fun e ⟨p, dx, kvs, h1, h2, h3⟩ => ⟨p, dx, kvs, h1, e _ _ h2, h3.mono e⟩
structure OV : Type 1 where
  ok : Gm → Hp → Addr → HO → Prop
  mono : ∀ {G : Gm} {H H' : Hp} {p : Addr} {o : HO}, Same H H' → ok G H p o → ok G H' p o
structure MV : Type 1 where
  ft : Addr → Prop
  ok : Gm → Hp → Hp → V → Prop
  mono : ∀ {G : Gm} {S S' H H' : Hp} {v : V}, Same S S' → (∀ a o, ft a → H a = some o → H' a = some o) → ok G S H v → ok G S' H' v
inductive Ent : Type 1 where
  | no
  | sh (d : DV)
  | ow (o : OV)
  | gh (m : MV)
def noGb : List Ent → Bool
  | [] => true
  | .gh _ :: _ => false
  | _ :: r => noGb r
def NoG (env : List Ent) : Prop := noGb env = true
theorem nog_at : ∀ {env : List Ent} {i : Nat} {m : MV}, NoG env → env[i]? ≠ some (.gh m)
  | [], _, _, _, e => by simp at e
  | x :: r, 0, m, h, e => by
    have : x = .gh m := by simpa using e
    subst this
    exact Bool.noConfusion h
  | x :: r, i + 1, m, h, e => by
    have h2 : NoG r := by
      cases x with
      | gh m => exact Bool.noConfusion h
      | no => exact h
      | sh d => exact h
      | ow o => exact h
    exact nog_at (i := i) h2 (by simpa using e)
def olist {α : Type} [Rp α] (xs : List α) : OV := ⟨fun G H _ o => ∃ vs, o = .lst vs ∧ RepAll G H vs (dvs xs), fun e ⟨vs, h1, h2⟩ => ⟨vs, h1, h2.mono e⟩⟩
def oobj (p : Addr) (c : Nat) (fs : List (Str × DV)) : OV := ⟨fun G H q o => q = p ∧ ∃ dx kvs, o = .ins (G.cls c) dx kvs ∧ RepF G H kvs fs, fun e ⟨h0, dx, vs, h1, h2⟩ => ⟨h0, dx, vs, h1, h2.mono e⟩⟩
noncomputable def lessOwn (own : Nat → Option Addr) (H : Hp) : Hp := Hid (fun a => ∃ i, own i = some a) H
theorem less_same {own : Nat → Option Addr} {H : Hp} : Same (lessOwn own H) H := hid_le
theorem less_mono {own : Nat → Option Addr} {H H' : Hp} (s : Same H H') : Same (lessOwn own H) (lessOwn own H') := hid_same s
theorem less_sub {own own' : Nat → Option Addr} {H : Hp} (h : ∀ i p, own' i = some p → own i = some p) : Same (lessOwn own H) (lessOwn own' H) := hid_more fun _ ⟨i, z⟩ => ⟨i, h i _ z⟩
def hd (hs : Addr → Prop) (own : Nat → Option Addr) : Addr → Prop := fun a => hs a ∨ ∃ i, own i = some a
def EntOk (G : Gm) (hs : Addr → Prop) (own : Nat → Option Addr) (σ : L2.St) (H : Hp) (i : Nat) : Ent → Prop
  | .no => True
  | .sh d => ∃ v, σ[i]? = some (some v) ∧ d.rep G (Hid (hd hs own) H) v
  | .ow o => ∃ p ho, own i = some p ∧ σ[i]? = some (some (.ref p)) ∧ H p = some ho ∧ o.ok G (Hid (hd hs own) H) p ho
  | .gh m => ∃ v, σ[i]? = some (some v) ∧ m.ok G (Hid (hd hs own) H) (lessOwn own H) v
structure Kn (G : Gm) (hs : Addr → Prop) (B : Hp) (own : Nat → Option Addr) (env : List Ent) (σ : L2.St) (H : Hp) : Prop where
  ex : Same B H
  hsB : ∀ a, hs a → H a ≠ none
  dis : ∀ i p, own i = some p → ¬ hs p
  len : σ.length = env.length
  inj : ∀ i j p, own i = some p → own j = some p → i = j
  new : ∀ i p, own i = some p → B p = none ∧ H p ≠ none
  out : ∀ i p, own i = some p → ∃ o, env[i]? = some (.ow o)
  ent : ∀ i e, env[i]? = some e → EntOk G hs own σ H i e
section
variable {G : Gm} {hs : Addr → Prop} {B : Hp} {own : Nat → Option Addr} {env : List Ent} {σ : L2.St} {H H' : Hp}
theorem EntOk.mono {i : Nat} {e : Ent} (s : Same H H') (h : EntOk G hs own σ H i e) : EntOk G hs own σ H' i e := by
  cases e with
  | no => trivial
  | sh d => obtain ⟨v, h1, h2⟩ := h; exact ⟨v, h1, DV.mono (hid_same s) h2⟩
  | ow o => obtain ⟨p, ho, h0, h1, h2, h3⟩ := h; exact ⟨p, ho, h0, h1, s _ _ h2, o.mono (hid_same s) h3⟩
  | gh m => obtain ⟨v, h1, h2⟩ := h; exact ⟨v, h1, m.mono (hid_same s) (fun a o _ => less_mono s a o) h2⟩
theorem stays {a : Addr} (s : Same H H') (h : H a ≠ none) : H' a ≠ none := fun z => by
  cases q : H a with
  | none => exact h q
  | some o => rw [s a o q] at z; cases z
theorem Kn.mono (k : Kn G hs B own env σ H) (s : Same H H') : Kn G hs B own env σ H' where
  ex := k.ex.trans s
  hsB := fun a h => stays s (k.hsB a h)
  dis := k.dis
  len := k.len
  inj := k.inj
  new := fun i p h => ⟨(k.new i p h).1, stays s (k.new i p h).2⟩
  out := k.out
  ent := fun i e h => (k.ent i e h).mono s
theorem Kn.sh (k : Kn G hs B own env σ H) {i : Nat} {d : DV} (h : env[i]? = some (.sh d)) : ∃ v, σ[i]? = some (some v) ∧ d.rep G (Hid (hd hs own) H) v := k.ent i _ h
theorem Kn.fresh (k : Kn G hs B own env σ H) (s : Same H H') {p : Addr} (h : H' p = none) : ¬ hd hs own p := fun z => by
  rcases z with z | ⟨i, z⟩
  · cases q : H p with
    | none => exact k.hsB p z q
    | some o => rw [s _ _ q] at h; cases h
  · cases q : H p with
    | none => exact (k.new i p z).2 q
    | some o => rw [s _ _ q] at h; cases h
def drop (own : Nat → Option Addr) (i : Nat) : Nat → Option Addr := fun j => if j = i then none else own j
theorem drop_sub {i j : Nat} {p : Addr} (h : drop own i j = some p) : own j = some p ∧ j ≠ i := by
  unfold drop at h
  split at h
  · cases h
  · exact ⟨h, by assumption⟩
theorem drop_hd {i : Nat} {a : Addr} (h : hd hs (drop own i) a) : hd hs own a := by
  rcases h with h | ⟨j, h⟩
  · exact .inl h
  · exact .inr ⟨j, (drop_sub h).1⟩
theorem Kn.set (k : Kn G hs B own env σ H) {i : Nat} {v : V} {d : DV} (r : d.rep G (Hid (hd hs own) H) v) : Kn G hs B (drop own i) (env.set i (.sh d)) (σ.set i (some v)) H where
  ex := k.ex
  hsB := k.hsB
  dis := fun a p h => k.dis a p (drop_sub h).1
  len := by rw [List.length_set, List.length_set]; exact k.len
  inj := fun a b p h1 h2 => k.inj a b p (drop_sub h1).1 (drop_sub h2).1
  new := fun a p h => k.new a p (drop_sub h).1
  out := fun a p h => by
    obtain ⟨h1, h2⟩ := drop_sub h
    obtain ⟨o, ho⟩ := k.out a p h1
    exact ⟨o, by rw [List.getElem?_set_ne (Ne.symm h2)]; exact ho⟩
  ent := fun j e h => by
    have sm : Same (Hid (hd hs own) H) (Hid (hd hs (drop own i)) H) := hid_more fun a z => drop_hd z
    by_cases q : i = j
    · subst q
      have hi : i < env.length := by
        have z := (List.getElem?_eq_some_iff.mp h).1
        rw [List.length_set] at z
        exact z
      rw [List.getElem?_set_self hi] at h
      cases h
      exact ⟨v, by rw [List.getElem?_set_self (by rw [k.len]; exact hi)], DV.mono sm r⟩
    · rw [List.getElem?_set_ne q] at h
      have z := k.ent j e h
      cases e with
      | no => trivial
      | sh d' => obtain ⟨w, h1, h2⟩ := z; exact ⟨w, by rw [List.getElem?_set_ne q]; exact h1, DV.mono sm h2⟩
      | ow o =>
        obtain ⟨p, ho, h0, h1, h2, h3⟩ := z
        exact ⟨p, ho, by unfold drop; rw [if_neg (Ne.symm q)]; exact h0, by rw [List.getElem?_set_ne q]; exact h1, h2, o.mono sm h3⟩
      | gh m => obtain ⟨w, h1, h2⟩ := z; exact ⟨w, by rw [List.getElem?_set_ne q]; exact h1, m.mono sm (fun a o _ => less_sub (fun _ _ z => (drop_sub z).1) a o) h2⟩
theorem Kn.forget (k : Kn G hs B own env σ H) (i : Nat) : Kn G hs B (drop own i) (env.set i .no) σ H where
  ex := k.ex
  hsB := k.hsB
  dis := fun a p h => k.dis a p (drop_sub h).1
  len := by rw [List.length_set]; exact k.len
  inj := fun a b p h1 h2 => k.inj a b p (drop_sub h1).1 (drop_sub h2).1
  new := fun a p h => k.new a p (drop_sub h).1
  out := fun a p h => by
    obtain ⟨h1, h2⟩ := drop_sub h
    obtain ⟨o, ho⟩ := k.out a p h1
    exact ⟨o, by rw [List.getElem?_set_ne (Ne.symm h2)]; exact ho⟩
  ent := fun j e h => by
    have sm : Same (Hid (hd hs own) H) (Hid (hd hs (drop own i)) H) := hid_more fun a z => drop_hd z
    by_cases q : i = j
    · subst q
      by_cases hi : i < env.length
      · rw [List.getElem?_set_self hi] at h; cases h; trivial
      · have : (env.set i Ent.no)[i]? = none := List.getElem?_eq_none_iff.mpr (by rw [List.length_set]; omega)
        rw [this] at h; cases h
    · rw [List.getElem?_set_ne q] at h
      have z := k.ent j e h
      cases e with
      | no => trivial
      | sh d' => obtain ⟨w, h1, h2⟩ := z; exact ⟨w, h1, DV.mono sm h2⟩
      | ow o =>
        obtain ⟨p, ho, h0, h1, h2, h3⟩ := z
        exact ⟨p, ho, by unfold drop; rw [if_neg (Ne.symm q)]; exact h0, h1, h2, o.mono sm h3⟩
      | gh m => obtain ⟨w, h1, h2⟩ := z; exact ⟨w, h1, m.mono sm (fun a o _ => less_sub (fun _ _ z => (drop_sub z).1) a o) h2⟩
def hold (own : Nat → Option Addr) (i : Nat) (p : Addr) : Nat → Option Addr := fun j => if j = i then some p else own j
theorem Kn.gain (k : Kn G hs B own env σ H) {i : Nat} {p : Addr} {ho : HO} {o : OV} (hi : i < env.length) (s : Same H H') (hp : H p = none) (hH : H' p = some ho) (r : o.ok G (Hid (hd hs own) H) p ho) : Kn G hs B (hold (drop own i) i p) (env.set i (.ow o)) (σ.set i (some (.ref p))) H' := by
  have sm : Same (Hid (hd hs own) H) (Hid (hd hs (hold (drop own i) i p)) H') := fun a u e => by
    have h1 := hid_of e
    have ne : a ≠ p := ne_of_none h1 hp
    have nh : ¬ hd hs own a := fun z => by unfold Hid at e; rw [if_pos z] at e; cases e
    have nh' : ¬ hd hs (hold (drop own i) i p) a := fun z => by
      rcases z with z | ⟨j, z⟩
      · exact nh (.inl z)
      · unfold hold at z
        split at z
        · cases z; exact ne rfl
        · exact nh (.inr ⟨j, (drop_sub z).1⟩)
    rw [hid_at nh']
    exact s a u h1
  have npo : ∀ j q, own j = some q → q ≠ p := fun j q h e => by
    subst e
    exact (k.new j q h).2 hp
  exact {
    ex := k.ex.trans s
    hsB := fun a h z => by
      cases q : H a with
      | none => exact k.hsB a h q
      | some o => rw [s a o q] at z; cases z
    dis := fun a q h z => by
      unfold hold at h
      by_cases ha : a = i
      · rw [if_pos ha] at h; cases h
        exact k.hsB p z hp
      · rw [if_neg ha] at h; exact k.dis a q (drop_sub h).1 z
    len := by rw [List.length_set, List.length_set]; exact k.len
    inj := fun a b q h1 h2 => by
      unfold hold at h1 h2
      by_cases ha : a = i
      · by_cases hb : b = i
        · rw [ha, hb]
        · rw [if_pos ha] at h1; rw [if_neg hb] at h2
          cases h1
          exact absurd rfl (npo b _ (drop_sub h2).1)
      · by_cases hb : b = i
        · rw [if_neg ha] at h1; rw [if_pos hb] at h2
          cases h2
          exact absurd rfl (npo a _ (drop_sub h1).1)
        · rw [if_neg ha] at h1; rw [if_neg hb] at h2
          exact k.inj a b q (drop_sub h1).1 (drop_sub h2).1
    new := fun a q h => by
      unfold hold at h
      by_cases ha : a = i
      · rw [if_pos ha] at h; cases h
        refine ⟨?_, by rw [hH]; simp⟩
        cases z : B p with
        | none => rfl
        | some u => rw [k.ex _ _ z] at hp; cases hp
      · rw [if_neg ha] at h
        have z := k.new a q (drop_sub h).1
        refine ⟨z.1, fun e => ?_⟩
        cases y : H q with
        | none => exact z.2 y
        | some u => rw [s _ _ y] at e; cases e
    out := fun a q h => by
      unfold hold at h
      by_cases ha : a = i
      · subst ha; exact ⟨o, List.getElem?_set_self hi⟩
      · rw [if_neg ha] at h
        obtain ⟨h1, h2⟩ := drop_sub h
        obtain ⟨o', ho'⟩ := k.out a q h1
        exact ⟨o', by rw [List.getElem?_set_ne (Ne.symm ha)]; exact ho'⟩
    ent := fun j e h => by
      by_cases q : i = j
      · subst q
        rw [List.getElem?_set_self hi] at h
        cases h
        exact ⟨p, ho, by unfold hold; rw [if_pos rfl], by rw [List.getElem?_set_self (by rw [k.len]; exact hi)], hH, o.mono sm r⟩
      · rw [List.getElem?_set_ne q] at h
        have z := k.ent j e h
        cases e with
        | no => trivial
        | sh d' => obtain ⟨w, h1, h2⟩ := z; exact ⟨w, by rw [List.getElem?_set_ne q]; exact h1, DV.mono sm h2⟩
        | ow o' =>
          obtain ⟨p', ho', h0, h1, h2, h3⟩ := z
          refine ⟨p', ho', ?_, by rw [List.getElem?_set_ne q]; exact h1, s _ _ h2, o'.mono sm h3⟩
          unfold hold drop
          rw [if_neg (Ne.symm q), if_neg (Ne.symm q)]
          exact h0
        | gh m =>
          obtain ⟨w, h1, h2⟩ := z
          refine ⟨w, by rw [List.getElem?_set_ne q]; exact h1, m.mono sm (fun a u _ e => ?_) h2⟩
          have g1 := hid_of e
          have ne : a ≠ p := ne_of_none g1 hp
          have nh : ¬ ∃ i, own i = some a := fun z => by unfold lessOwn Hid at e; rw [if_pos z] at e; cases e
          unfold lessOwn
          rw [hid_at fun z => by
            obtain ⟨j', z⟩ := z
            unfold hold at z
            split at z
            · cases z; exact ne rfl
            · exact nh ⟨j', (drop_sub z).1⟩]
          exact s a u g1 }
theorem Kn.chg (k : Kn G hs B own env σ H) {i : Nat} {p : Addr} {ho : HO} {o : OV} (hi : i < env.length) (hp : own i = some p) (r : o.ok G (Hid (hd hs own) H) p ho) : Kn G hs B own (env.set i (.ow o)) σ (upd H p ho) := by
  have hh : hd hs own p := .inr ⟨i, hp⟩
  exact {
    ex := fun a u e => by
      rw [upd_ne fun z => ?_]
      · exact k.ex a u e
      · subst z
        rw [(k.new i a hp).1] at e; cases e
    hsB := fun a h z => by
      by_cases e : a = p
      · subst e; rw [upd_same] at z; cases z
      · rw [upd_ne e] at z; exact k.hsB a h z
    dis := k.dis
    len := by rw [List.length_set]; exact k.len
    inj := k.inj
    new := fun a q h => ⟨(k.new a q h).1, fun z => by
      by_cases e : q = p
      · subst e; rw [upd_same] at z; cases z
      · rw [upd_ne e] at z; exact (k.new a q h).2 z⟩
    out := fun a q h => by
      by_cases ha : a = i
      · subst ha; exact ⟨o, List.getElem?_set_self hi⟩
      · obtain ⟨o', ho'⟩ := k.out a q h
        exact ⟨o', by rw [List.getElem?_set_ne (Ne.symm ha)]; exact ho'⟩
    ent := fun j e h => by
      have eh : Hid (hd hs own) (upd H p ho) = Hid (hd hs own) H := hid_upd hh
      by_cases q : i = j
      · subst q
        rw [List.getElem?_set_self hi] at h
        cases h
        obtain ⟨o0, ho0⟩ := k.out i p hp
        obtain ⟨p', _, h0, h1, _, _⟩ := (show EntOk G hs own σ H i (.ow o0) from k.ent i _ ho0)
        rw [hp] at h0; cases h0
        exact ⟨p, ho, hp, h1, upd_same, by rw [eh]; exact r⟩
      · rw [List.getElem?_set_ne q] at h
        have z := k.ent j e h
        cases e with
        | no => trivial
        | sh d' => obtain ⟨w, h1, h2⟩ := z; exact ⟨w, h1, by rw [eh]; exact h2⟩
        | ow o' =>
          obtain ⟨p', ho', h0, h1, h2, h3⟩ := z
          have ne : p' ≠ p := fun e => q (k.inj i j p hp (e ▸ h0))
          exact ⟨p', ho', h0, h1, by rw [upd_ne ne]; exact h2, by rw [eh]; exact h3⟩
        | gh m =>
          obtain ⟨w, h1, h2⟩ := z
          have el : lessOwn own (upd H p ho) = lessOwn own H := hid_upd ⟨i, hp⟩
          exact ⟨w, h1, by rw [eh, el]; exact h2⟩ }
theorem Kn.freeze (k : Kn G hs B own env σ H) {i : Nat} {o : OV} {d : DV} (he : env[i]? = some (.ow o)) (r : ∀ p ho (H1 : Hp), H p = some ho → H1 p = some ho → Same (Hid (hd hs own) H) H1 → o.ok G (Hid (hd hs own) H) p ho → d.rep G H1 (.ref p)) : Kn G hs B (drop own i) (env.set i (.sh d)) σ H := by
  have hi : i < env.length := (List.getElem?_eq_some_iff.mp he).1
  obtain ⟨p, ho, h0, h1, h2, h3⟩ := (show EntOk G hs own σ H i (.ow o) from k.ent i _ he)
  have sm : Same (Hid (hd hs own) H) (Hid (hd hs (drop own i)) H) := hid_more fun a z => drop_hd z
  have np : ¬ hd hs (drop own i) p := fun z => by
    rcases z with z | ⟨j, z⟩
    · exact k.dis i p h0 z
    · obtain ⟨z1, z2⟩ := drop_sub z
      exact z2 (k.inj j i p z1 h0)
  have es : σ.set i (some (.ref p)) = σ := by
    apply List.ext_getElem?
    intro j
    by_cases q : i = j
    · subst q; rw [List.getElem?_set_self (by rw [k.len]; exact hi), h1]
    · rw [List.getElem?_set_ne q]
  have z := (k.forget i)
  have rr : d.rep G (Hid (hd hs (drop (drop own i) i)) H) (.ref p) := by
    have e2 : drop (drop own i) i = drop own i := by
      funext j; unfold drop; split <;> rfl
    rw [e2]
    exact r p ho _ h2 (by rw [hid_at np]; exact h2) sm h3
  have w := z.set (i := i) (v := .ref p) (d := d) (by
    have e2 : drop (drop own i) i = drop own i := by
      funext j; unfold drop; split <;> rfl
    rw [e2] at rr
    exact rr)
  have e2 : drop (drop own i) i = drop own i := by
    funext j; unfold drop; split <;> rfl
  rw [e2, List.set_set, es] at w
  exact w
def Fr (hs : Addr → Prop) (own own' : Nat → Option Addr) (H H' : Hp) : Prop := Same (Hid (hd hs own) H) (Hid (hd hs own') H')
theorem Fr.refl : Fr hs own own H H := Same.refl _
theorem Fr.trans {own' own'' : Nat → Option Addr} {H'' : Hp} (a : Fr hs own own' H H') (b : Fr hs own' own'' H' H'') : Fr hs own own'' H H'' := Same.trans a b
theorem Fr.of (s : Same H H') : Fr hs own own H H' := hid_same s
theorem Fr.drop (i : Nat) : Fr hs own (Rk.drop own i) H H := hid_more fun _ z => drop_hd z
theorem Fr.chg {p : Addr} {ho : HO} {i : Nat} (h : own i = some p) : Fr hs own own H (upd H p ho) := by
  unfold Fr
  rw [hid_upd (show hd hs own p from .inr ⟨i, h⟩)]
  exact Same.refl _
theorem Fr.gain {p : Addr} {i : Nat} (s : Same H H') (hp : H p = none) : Fr hs own (hold (Rk.drop own i) i p) H H' := fun a u e => by
  have h1 := hid_of e
  have ne : a ≠ p := ne_of_none h1 hp
  have nh : ¬ hd hs own a := fun z => by unfold Hid at e; rw [if_pos z] at e; cases e
  have nh' : ¬ hd hs (hold (Rk.drop own i) i p) a := fun z => by
    rcases z with z | ⟨j, z⟩
    · exact nh (.inl z)
    · unfold hold at z
      split at z
      · cases z; exact ne rfl
      · exact nh (.inr ⟨j, (drop_sub z).1⟩)
  rw [hid_at nh']
  exact s a u h1
end
end Rk
set_option maxHeartbeats 4000000
namespace Rk
open PySem L2
section
variable (X : Cx)
def tE (e : Expr) : TE := fun σ H Q => ∀ (pins : List (Addr × Obj)) (s : Shared), Inv X pins σ H s → wpAny (model X.prog X.w) X.A (eval e X.env) (EP X pins σ Q) X.xe s
def tT (e : Expr) : TT := fun σ H Q => ∀ (pins : List (Addr × Obj)) (s : Shared), Inv X pins σ H s → wpAny (model X.prog X.w) X.A (isTrue e X.env (eval e X.env)) (TP X pins σ Q) X.xe s
def tTW (e : Expr) : TT := fun σ H Q => ∀ (whole : Sem Value) (pins : List (Addr × Obj)) (s : Shared), Inv X pins σ H s → wpAny (model X.prog X.w) X.A (isTrue e X.env whole) (TP X pins σ Q) X.xe s
def tA (es : List Expr) : TA := fun σ H Q => ∀ (pos : Pos) (pins : List (Addr × Obj)) (s : Shared), Inv X pins σ H s → wpAny (model X.prog X.w) X.A (spliced (backTo pos (starEach es X.env))) (AP X pins σ Q) X.xe s
def tS (st : Stmt) : TS := fun D σ H => ∀ (pins : List (Addr × Obj)) (s : Shared), Inv X pins σ H s → wpAny (model X.prog X.w) X.A (exec st X.env) (SP X pins D) X.xe s
def tSs (st : List Stmt) : TS := fun D σ H => ∀ (pins : List (Addr × Obj)) (s : Shared), Inv X pins σ H s → wpAny (model X.prog X.w) X.A (execs st X.env) (SP X pins D) X.xe s
end
section
variable {X : Cx} {e : Expr} {es : List Expr} {st : Stmt} {sts : List Stmt} {σ : L2.St} {H : Hp}
theorem peE : PE X e (tE X e) := ⟨fun pins s σ H Q I h => h pins s I⟩
theorem peT : PT X e (tT X e) := ⟨fun pins s σ H Q I h => h pins s I⟩
theorem peTW : PW X e (tTW X e) := ⟨fun w pins s σ H Q I h => h w pins s I⟩
theorem peA : PA X es (tA X es) := ⟨fun pos pins s σ H Q I h => h pos pins s I⟩
theorem peS : PS X st (tS X st) := ⟨fun pins s σ H D I h => h pins s I⟩
theorem peSs : PSs X sts (tSs X sts) := ⟨fun pins s σ H D I h => h pins s I⟩
theorem tE_mono {Q Q' : VK} (q : ∀ v H', Q v H' → Q' v H') (h : tE X e σ H Q) : tE X e σ H Q' := fun pins s I => thn (h pins s I) fun u s' ⟨v, H', J, r, z⟩ => ⟨v, H', J, r, q v H' z⟩
theorem tT_mono {Q Q' : Bool → Hp → Prop} (q : ∀ v H', Q v H' → Q' v H') (h : tT X e σ H Q) : tT X e σ H Q' := fun pins s I => thn (h pins s I) fun u s' ⟨H', J, z⟩ => ⟨H', J, q _ H' z⟩
theorem tTW_mono {Q Q' : Bool → Hp → Prop} (q : ∀ v H', Q v H' → Q' v H') (h : tTW X e σ H Q) : tTW X e σ H Q' := fun w pins s I => thn (h w pins s I) fun u s' ⟨H', J, z⟩ => ⟨H', J, q _ H' z⟩
theorem tA_mono {Q Q' : List V → Hp → Prop} (q : ∀ v H', Q v H' → Q' v H') (h : tA X es σ H Q) : tA X es σ H Q' := fun pos pins s I => thn (h pos pins s I) fun u s' ⟨v, H', J, r, z⟩ => ⟨v, H', J, r, q v H' z⟩
theorem sp_mono {D D' : Ends} {pins : List (Addr × Obj)} {f : Flow} {s' : Shared} (n : ∀ σ H, D.nx σ H → D'.nx σ H) (r : ∀ v H, D.rt v H → D'.rt v H) (b : ∀ σ H, D.bk σ H → D'.bk σ H) (c : ∀ σ H, D.ct σ H → D'.ct σ H)
    (h : SP X pins D f s') : SP X pins D' f s' := by
  cases f with
  | next => obtain ⟨σ', H', J, q⟩ := h; exact ⟨σ', H', J, n _ _ q⟩
  | brk => obtain ⟨σ', H', J, q⟩ := h; exact ⟨σ', H', J, b _ _ q⟩
  | cont => obtain ⟨σ', H', J, q⟩ := h; exact ⟨σ', H', J, c _ _ q⟩
  | ret u => obtain ⟨v, σ', H', J, rv, q⟩ := h; exact ⟨v, σ', H', J, rv, r _ _ q⟩
theorem tS_mono {D D' : Ends} (n : ∀ σ H, D.nx σ H → D'.nx σ H) (r : ∀ v H, D.rt v H → D'.rt v H) (b : ∀ σ H, D.bk σ H → D'.bk σ H) (c : ∀ σ H, D.ct σ H → D'.ct σ H) (h : tS X st D σ H) : tS X st D' σ H :=
  fun pins s I => thn (h pins s I) fun f s' z => sp_mono n r b c z
theorem tSs_mono {D D' : Ends} (n : ∀ σ H, D.nx σ H → D'.nx σ H) (r : ∀ v H, D.rt v H → D'.rt v H) (b : ∀ σ H, D.bk σ H → D'.bk σ H) (c : ∀ σ H, D.ct σ H → D'.ct σ H) (h : tSs X sts D σ H) : tSs X sts D' σ H :=
  fun pins s I => thn (h pins s I) fun f s' z => sp_mono n r b c z
theorem tE_of {t : TE} {Q : VK} (p : PE X e t) (h : t σ H Q) : tE X e σ H Q := fun pins s I => p.run pins s σ H Q I h
theorem tT_of {t : TT} {Q : Bool → Hp → Prop} (p : PT X e t) (h : t σ H Q) : tT X e σ H Q := fun pins s I => p.run pins s σ H Q I h
theorem tTW_of {t : TT} {Q : Bool → Hp → Prop} (p : PW X e t) (h : t σ H Q) : tTW X e σ H Q := fun w pins s I => p.run w pins s σ H Q I h
theorem tA_of {t : TA} {Q : List V → Hp → Prop} (p : PA X es t) (h : t σ H Q) : tA X es σ H Q := fun pos pins s I => p.run pos pins s σ H Q I h
theorem tS_of {t : TS} {D : Ends} (p : PS X st t) (h : t D σ H) : tS X st D σ H := fun pins s I => p.run pins s σ H D I h
theorem tSs_of {t : TS} {D : Ends} (p : PSs X sts t) (h : t D σ H) : tSs X sts D σ H := fun pins s I => p.run pins s σ H D I h
end
structure Fx where
  X : Cx
  cls : Nat → Addr
  hs : Addr → Prop
  B : Hp
def Fx.G (F : Fx) : Gm := ⟨F.X.K, F.cls⟩
abbrev Fx.Kn (F : Fx) := Rk.Kn F.G F.hs F.B
def Xd (C : Nat) (dd : Option Addr) (H : Hp) : Prop := if C < 100 then dd = none else ∃ d, dd = some d ∧ H d = some (.xd [("line", .int ((C : Int) - 100))])
theorem Xd.lo {C : Nat} {H : Hp} (h : C < 100) : Xd C none H := by unfold Xd; rw [if_pos h]
theorem Xd.hi {C : Nat} {H : Hp} {dd : Option Addr} (h : 100 ≤ C) (x : Xd C dd H) : ∃ d, dd = some d ∧ H d = some (.xd [("line", .int ((C : Int) - 100))]) := by unfold Xd at x; rw [if_neg (by omega)] at x; exact x
theorem Xd.no {C : Nat} {H : Hp} {dd : Option Addr} (h : C < 100) (x : Xd C dd H) : dd = none := by unfold Xd at x; rw [if_pos h] at x; exact x
theorem Xd.mono {C : Nat} {H H' : Hp} {dd : Option Addr} (s : Same H H') (x : Xd C dd H) : Xd C dd H' := by
  by_cases h : C < 100
  · rw [Xd.no h x]; exact Xd.lo h
  · obtain ⟨d, e, q⟩ := Xd.hi (by omega) x
    unfold Xd
    rw [if_neg h]; exact ⟨d, e, s _ _ q⟩
def Port (F : Fx) (own : Nat → Option Addr) (H : Hp) (ex : List Ent → Nat → Prop) : Prop :=
  PassesOwn (model F.X.prog F.X.w) F.X.A F.X.env F.X.xe ∧ ∃ W : WX, Takes F.X W ∧ ∀ env own' C dd σ H', F.Kn own' env σ H' → Fr F.hs own own' H H' → ex env C → Xd C dd (Hid (hd F.hs own') H') → W (.ref (F.cls C)) dd σ H'
theorem Port.imp {F : Fx} {own : Nat → Option Addr} {H : Hp} {ex ex' : List Ent → Nat → Prop} (p : Port F own H ex) (h : ∀ env C, ex' env C → ex env C) : Port F own H ex' :=
  ⟨p.1, p.2.elim fun W ⟨t, w⟩ => ⟨W, t, fun env own C dd σ H k f q => w env own C dd σ H k f (h _ _ q)⟩⟩
theorem Port.step {F : Fx} {own own' : Nat → Option Addr} {H H' : Hp} {ex : List Ent → Nat → Prop} (p : Port F own H ex) (f : Fr F.hs own own' H H') : Port F own' H' ex :=
  ⟨p.1, p.2.elim fun W ⟨t, w⟩ => ⟨W, t, fun env o C dd σ h k g q => w env o C dd σ h k (f.trans g) q⟩⟩
theorem Port.mono {F : Fx} {own : Nat → Option Addr} {H H' : Hp} {ex : List Ent → Nat → Prop} (p : Port F own H ex) (s : Same H H') : Port F own H' ex := p.step (Fr.of s)
abbrev XP := List Ent → Nat → Prop
def KE (F : Fx) (env : List Ent) (e : Expr) (ex : XP) {α : Type} [Rp α] (Q : α → Prop) : Prop :=
  ∀ own σ H, F.Kn own env σ H → Port F own H ex → tE F.X e σ H fun v H' => ∃ a : α, Same H H' ∧ Rp.rep F.G (Hid (hd F.hs own) H') v a ∧ Q a
def KT (F : Fx) (env : List Ent) (e : Expr) (ex : XP) (Q : Bool → Prop) : Prop :=
  ∀ own σ H, F.Kn own env σ H → Port F own H ex → tT F.X e σ H fun b H' => Same H H' ∧ Q b
def KTW (F : Fx) (env : List Ent) (e : Expr) (ex : XP) (Q : Bool → Prop) : Prop :=
  ∀ own σ H, F.Kn own env σ H → Port F own H ex → tTW F.X e σ H fun b H' => Same H H' ∧ Q b
def KA (F : Fx) (env : List Ent) (es : List Expr) (ex : XP) (Q : List DV → Prop) : Prop :=
  ∀ own σ H, F.Kn own env σ H → Port F own H ex → tA F.X es σ H fun vs H' => ∃ ds, Same H H' ∧ RepAll F.G (Hid (hd F.hs own) H') vs ds ∧ Q ds
structure Po : Type 1 where
  nx : List Ent → Prop
  rt : DV → Prop
  bk : List Ent → Prop := fun _ => False
  ct : List Ent → Prop := fun _ => False
  ex : XP := fun _ _ => False
  re : List Ent → Prop := fun _ => True
def At (F : Fx) (own : Nat → Option Addr) (H : Hp) (p : List Ent → Prop) (σ : L2.St) (H' : Hp) : Prop := ∃ env own', F.Kn own' env σ H' ∧ Fr F.hs own own' H H' ∧ p env
def Rt (F : Fx) (p : DV → Prop) (re : List Ent → Prop) (v : V) (H : Hp) : Prop := ∃ d : DV, Same F.B H ∧ d.rep F.G (Hid F.hs H) v ∧ p d ∧ ∃ env own σ, F.Kn own env σ H ∧ re env
def ends (F : Fx) (own : Nat → Option Addr) (H : Hp) (P : Po) : Ends := { nx := At F own H P.nx, rt := Rt F P.rt P.re, bk := At F own H P.bk, ct := At F own H P.ct }
structure KS (F : Fx) (env : List Ent) (st : Stmt) (P : Po) : Prop where
  run : ∀ own σ H, F.Kn own env σ H → Port F own H P.ex → tS F.X st (ends F own H P) σ H
instance {F : Fx} {env : List Ent} {st : Stmt} {P : Po} : CoeFun (KS F env st P) (fun _ => ∀ own σ H, F.Kn own env σ H → Port F own H P.ex → tS F.X st (ends F own H P) σ H) := ⟨fun h => h.run⟩
structure KSs (F : Fx) (env : List Ent) (st : List Stmt) (P : Po) : Prop where
  run : ∀ own σ H, F.Kn own env σ H → Port F own H P.ex → tSs F.X st (ends F own H P) σ H
instance {F : Fx} {env : List Ent} {st : List Stmt} {P : Po} : CoeFun (KSs F env st P) (fun _ => ∀ own σ H, F.Kn own env σ H → Port F own H P.ex → tSs F.X st (ends F own H P) σ H) := ⟨fun h => h.run⟩
section
variable {F : Fx} {env : List Ent} {ex : XP} {a b c e : Expr} {es : List Expr} {pos : Pos}
theorem ke_imp {α : Type} [Rp α] {Q Q' : α → Prop} (q : ∀ x, Q x → Q' x) (h : KE F env e ex Q) : KE F env e ex Q' := fun own σ H k p => tE_mono (fun v H' ⟨x, s, r, z⟩ => ⟨x, s, r, q x z⟩) (h own σ H k p)
theorem At.imp {own : Nat → Option Addr} {H H' : Hp} {p q : List Ent → Prop} {σ : L2.St} (h : ∀ env, p env → q env) (a : At F own H p σ H') : At F own H q σ H' := a.elim fun env ⟨own, k, f, z⟩ => ⟨env, own, k, f, h env z⟩
theorem k_var {α : Type} [Rp α] {x : α} {Q : α → Prop} (i : Nat) {n : Str} (hN : F.X.N[i]? = some n) (he : env[i]? = some (.sh (dv x))) (q : Q x)
    (hv : Vis F.X.env.scope n := by first | exact Or.inl rfl | exact Or.inr (Or.inl rfl) | exact Or.inr (Or.inr rfl)) (hd : (n == ("__debug__" : Str)) = false := by decide) (hcd : (n == ("__classdict__" : Str)) = false := by decide) :
    KE F env (.Name n pos) ex Q := fun own σ H k p => by
  obtain ⟨v, h1, h2⟩ := k.sh he
  exact tE_of (pe_var hN hv hd hcd) ⟨v, h1, x, Same.refl H, h2, q⟩
theorem k_int {i : Int} {j} {Q : Int → Prop} (q : Q i) : KE F env (.Constant (.int i) j pos) ex Q := fun own σ H k p => tE_of pe_int ⟨i, Same.refl H, rfl, q⟩
theorem k_bl {i : Bool} {j} {Q : Bool → Prop} (q : Q i) : KE F env (.Constant (.bool i) j pos) ex Q := fun own σ H k p => tE_of pe_bl ⟨i, Same.refl H, rfl, q⟩
theorem k_str {i : Str} {j} {Q : Str → Prop} (q : Q i) : KE F env (.Constant (.str i) j pos) ex Q := fun own σ H k p => tE_of pe_str ⟨i, Same.refl H, rfl, q⟩
theorem k_non {j} {Q : Unit → Prop} (q : Q ()) : KE F env (.Constant .none j pos) ex Q := fun own σ H k p => tE_of pe_non ⟨(), Same.refl H, rfl, q⟩
theorem k_nonI {j} {Q : Option Int → Prop} (q : Q none) : KE F env (.Constant .none j pos) ex Q := fun own σ H k p => tE_of pe_non ⟨none, Same.refl H, rfl, q⟩
theorem k_gint {n : Str} {i : Int} {Q : Int → Prop} (hm : ∃ t, F.X.mg n = some (.int i t)) (q : Q i) (hg : Gl F.X n := by rfl) (hd : (n == ("__debug__" : Str)) = false := by decide) : KE F env (.Name n pos) ex Q := fun own σ H k p => by
  obtain ⟨t, hm⟩ := hm
  exact tE_of (pe_glob hg hm (v := .int i) ⟨t, rfl⟩ hd) ⟨i, Same.refl H, rfl, q⟩
theorem k_as {α β : Type} [Rp α] [Rp β] {Q : β → Prop} (f : α → β) (hf : ∀ G H v x, Rp.rep G H v x → Rp.rep G H v (f x)) (h : KE F env e ex fun x : α => Q (f x)) : KE F env e ex Q :=
  fun own σ H k p => tE_mono (fun v H' ⟨x, s, r, z⟩ => ⟨f x, s, hf _ _ _ _ r, z⟩) (h own σ H k p)
theorem k_some {Q : Option Int → Prop} (h : KE F env e ex fun x : Int => Q (some x)) : KE F env e ex Q := k_as some (fun _ _ _ _ r => r) h
theorem two {α β : Type} [Rp α] [Rp β] {own : Nat → Option Addr} {σ : L2.St} {H : Hp} {Q : α → β → Prop} {R : V → V → Hp → Prop} (k : F.Kn own env σ H) (p : Port F own H ex) (h : KE F env a ex fun x : α => KE F env b ex fun y : β => Q x y)
    (f : ∀ v u x y H', Same H H' → Rp.rep F.G (Hid (hd F.hs own) H') v x → Rp.rep F.G (Hid (hd F.hs own) H') u y → Q x y → R v u H') : tE F.X a σ H fun v H1 => tE F.X b σ H1 fun u H2 => R v u H2 :=
  tE_mono (fun v H1 ⟨x, s1, r1, h1⟩ => tE_mono (fun u H2 ⟨y, s2, r2, q⟩ => f v u x y H2 (s1.trans s2) (Rp.mono (hid_same s2) r1) r2 q) (h1 own σ H1 (k.mono s1) (p.mono s1))) (h own σ H k p)
def Rs (F : Fx) (own : Nat → Option Addr) (H : Hp) {α : Type} [Rp α] (Q : α → Prop) : VK := fun v H' => ∃ x : α, Same H H' ∧ Rp.rep F.G (Hid (hd F.hs own) H') v x ∧ Q x
theorem k_op {α β γ : Type} [Rp α] [Rp β] [Rp γ] {op : Operator} {r : R2} (ho : OpR F.X (binaryOp op) r) {Q : γ → Prop} {Q2 : α → β → Prop} (h : KE F env a ex fun x : α => KE F env b ex fun y : β => Q2 x y)
    (f : ∀ own σ H0 H v u x y, Same H0 H → F.Kn own env σ H → Rp.rep F.G (Hid (hd F.hs own) H) v x → Rp.rep F.G (Hid (hd F.hs own) H) u y → Q2 x y → r v u H (Rs F own H0 Q)) :
    KE F env (.BinOp a op b pos) ex Q := fun own σ H k p =>
  tE_of (pe_op ho peE peE) (two (R := fun v u H' => r v u H' (Rs F own H Q)) k p h fun v u x y H' s r1 r2 q => f own σ H H' v u x y s (k.mono s) r1 r2 q)
theorem k_cmp {α β γ : Type} [Rp α] [Rp β] [Rp γ] {op : CmpOp} {r : R2} (ho : OpR F.X (compareOp op) r) {Q : γ → Prop} {Q2 : α → β → Prop} (h : KE F env a ex fun x : α => KE F env b ex fun y : β => Q2 x y)
    (f : ∀ own σ H0 H v u x y, Same H0 H → F.Kn own env σ H → Rp.rep F.G (Hid (hd F.hs own) H) v x → Rp.rep F.G (Hid (hd F.hs own) H) u y → Q2 x y → r v u H (Rs F own H0 Q)) (hm : behindInMarks op b = false) :
    KE F env (.Compare a [op] [b] pos) ex Q := fun own σ H k p =>
  tE_of (pe_cmpR ho peE peE hm) (two (R := fun v u H' => r v u H' (Rs F own H Q)) k p h fun v u x y H' s r1 r2 q => f own σ H H' v u x y s (k.mono s) r1 r2 q)
theorem t_cmp {α β : Type} [Rp α] [Rp β] {op : CmpOp} {r : R2} (ho : OpR F.X (compareOp op) r) {Q : Bool → Prop} {Q2 : α → β → Prop} (h : KE F env a ex fun x : α => KE F env b ex fun y : β => Q2 x y)
    (f : ∀ own σ H0 H v u x y, Same H0 H → F.Kn own env σ H → Rp.rep F.G (Hid (hd F.hs own) H) v x → Rp.rep F.G (Hid (hd F.hs own) H) u y → Q2 x y → r v u H (fun z H' => ∃ c, z = .bl c ∧ Same H0 H' ∧ Q c)) (hm : behindInMarks op b = false) :
    KT F env (.Compare a [op] [b] pos) ex Q := fun own σ H k p =>
  tT_of (pt_cmpR ho peE peE hm) (two (R := fun v u H' => r v u H' (fun z H'' => ∃ c, z = .bl c ∧ Same H H'' ∧ Q c)) k p h fun v u x y H' s r1 r2 q => f own σ H H' v u x y s (k.mono s) r1 r2 q)
theorem k_add {Q : Int → Prop} (h : KE F env a ex fun x : Int => KE F env b ex fun y : Int => Q (x + y)) : KE F env (.BinOp a .Add b pos) ex Q :=
  k_op op_add h fun _ _ _ _ _ _ x y s _ r1 r2 q => by cases r1; cases r2; exact ⟨x, y, rfl, rfl, _, s, rfl, q⟩
theorem k_sub {Q : Int → Prop} (h : KE F env a ex fun x : Int => KE F env b ex fun y : Int => Q (x - y)) : KE F env (.BinOp a .Sub b pos) ex Q :=
  k_op op_sub h fun _ _ _ _ _ _ x y s _ r1 r2 q => by cases r1; cases r2; exact ⟨x, y, rfl, rfl, _, s, rfl, q⟩
def okMul (x y : Int) : Prop := (-(2 ^ 64) < x ∧ x < 2 ^ 64) ∨ (-(2 ^ 64) < y ∧ y < 2 ^ 64)
theorem k_mul {Q : Int → Prop} (h : KE F env a ex fun x : Int => KE F env b ex fun y : Int => okMul x y ∧ Q (x * y)) : KE F env (.BinOp a .Mult b pos) ex Q :=
  k_op op_mul h fun _ _ _ _ _ _ x y s _ r1 r2 q => by cases r1; cases r2; exact ⟨x, y, rfl, rfl, q.1, _, s, rfl, q.2⟩
theorem k_div {Q : Int → Prop} (h : KE F env a ex fun x : Int => KE F env b ex fun y : Int => (0 < y ∧ y < 1073741824) ∧ Q (x / y)) : KE F env (.BinOp a .FloorDiv b pos) ex Q :=
  k_op op_fdivN h fun _ _ _ _ _ _ x y s _ r1 r2 q => by
    cases r1; cases r2
    refine ⟨x, y, rfl, rfl, ⟨by omega, by omega⟩, x / y, s, ?_, q.2⟩
    show V.int (x.fdiv y) = V.int (x / y)
    rw [Int.fdiv_eq_ediv_of_nonneg _ (Int.le_of_lt q.1.1)]
theorem k_mod {Q : Int → Prop} (h : KE F env a ex fun x : Int => KE F env b ex fun y : Int => 0 < y ∧ Q (x % y)) : KE F env (.BinOp a .Mod b pos) ex Q :=
  k_op op_modN h fun _ _ _ _ _ _ x y s _ r1 r2 q => by
    cases r1; cases r2
    refine ⟨x, y, rfl, rfl, by have := q.1; omega, x % y, s, ?_, q.2⟩
    show V.int (x.fmod y) = V.int (x % y)
    rw [Int.fmod_eq_emod_of_nonneg _ (Int.le_of_lt q.1)]
theorem k_neg {Q : Int → Prop} (h : KE F env a ex fun x : Int => Q (-x)) : KE F env (.UnaryOp .USub a pos) ex Q := fun own σ H k p =>
  tE_of (pe_un un_neg peE) (tE_mono (fun v H' ⟨x, s, r, q⟩ => by cases r; exact ⟨x, rfl, _, s, rfl, q⟩) (h own σ H k p))
theorem k_ge {Q : Bool → Prop} (h : KE F env a ex fun x : Int => KE F env b ex fun y : Int => Q (decide (y ≤ x))) : KE F env (.Compare a [.GtE] [b] pos) ex Q :=
  k_cmp op_ge h (fun _ _ _ _ _ _ x y s _ r1 r2 q => by cases r1; cases r2; exact ⟨x, y, rfl, rfl, _, s, rfl, q⟩) (nomark _)
theorem t_lt {Q : Bool → Prop} (h : KE F env a ex fun x : Int => KE F env b ex fun y : Int => Q (decide (x < y))) : KT F env (.Compare a [.Lt] [b] pos) ex Q :=
  t_cmp op_lt h (fun _ _ _ _ _ _ x y s _ r1 r2 q => by cases r1; cases r2; exact ⟨x, y, rfl, rfl, _, rfl, s, q⟩) (nomark _)
theorem t_gt {Q : Bool → Prop} (h : KE F env a ex fun x : Int => KE F env b ex fun y : Int => Q (decide (y < x))) : KT F env (.Compare a [.Gt] [b] pos) ex Q :=
  t_cmp op_gt h (fun _ _ _ _ _ _ x y s _ r1 r2 q => by cases r1; cases r2; exact ⟨x, y, rfl, rfl, _, rfl, s, q⟩) (nomark _)
class ScE (α : Type) extends Sc α where
  ok : ∀ a b : α, scal (v a) (v b) = true
instance : ScE Int := ⟨fun _ _ => rfl⟩
instance : ScE Bool := ⟨fun _ _ => rfl⟩
instance : ScE Str := ⟨fun _ _ => rfl⟩
instance : ScE (Option Int) := ⟨fun a b => by cases a <;> cases b <;> rfl⟩
instance : ScE (Option Bool) := ⟨fun a b => by cases a <;> cases b <;> rfl⟩
theorem sc_dec {α : Type} [Sc α] [DecidableEq α] (x y : α) : decide (Sc.v x = Sc.v y) = decide (x = y) := by
  by_cases h : x = y
  · rw [decide_eq_true h, decide_eq_true (congrArg Sc.v h)]
  · rw [decide_eq_false h, decide_eq_false fun z => h (Sc.inj z)]
theorem k_eq {α : Type} [i : ScE α] [DecidableEq α] {Q : Bool → Prop} (h : @KE F env a ex α (scRp α) fun x : α => @KE F env b ex α (scRp α) fun y : α => Q (decide (x = y))) : KE F env (.Compare a [.Eq] [b] pos) ex Q :=
  @k_cmp F env ex a b pos α α Bool (scRp α) (scRp α) _ _ _ op_eq _ _ h (fun _ _ _ _ v u x y s _ r1 r2 q => by
    have e1 : v = Sc.v x := r1
    have e2 : u = Sc.v y := r2
    refine ⟨by rw [e1, e2]; exact ScE.ok x y, _, s, ?_, q⟩
    rw [e1, e2, sc_dec]; exact rfl) (nomark _)
theorem t_eq {α : Type} [i : ScE α] [DecidableEq α] {Q : Bool → Prop} (h : @KE F env a ex α (scRp α) fun x : α => @KE F env b ex α (scRp α) fun y : α => Q (decide (x = y))) : KT F env (.Compare a [.Eq] [b] pos) ex Q :=
  @t_cmp F env ex a b pos α α (scRp α) (scRp α) _ _ op_eq _ _ h (fun _ _ _ _ v u x y s _ r1 r2 q => by
    have e1 : v = Sc.v x := r1
    have e2 : u = Sc.v y := r2
    refine ⟨by rw [e1, e2]; exact ScE.ok x y, _, ?_, s, q⟩
    rw [e1, e2, sc_dec]) (nomark _)
theorem t_ne {α : Type} [i : ScE α] [DecidableEq α] {Q : Bool → Prop} (h : @KE F env a ex α (scRp α) fun x : α => @KE F env b ex α (scRp α) fun y : α => Q (!decide (x = y))) : KT F env (.Compare a [.NotEq] [b] pos) ex Q :=
  @t_cmp F env ex a b pos α α (scRp α) (scRp α) _ _ op_ne _ _ h (fun _ _ _ _ v u x y s _ r1 r2 q => by
    have e1 : v = Sc.v x := r1
    have e2 : u = Sc.v y := r2
    refine ⟨by rw [e1, e2]; exact ScE.ok x y, _, ?_, s, q⟩
    rw [e1, e2, sc_dec]) (nomark _)
class Nn (α : Type) [Rp α] where
  isN : α → Bool
  ok : ∀ {G : Gm} {H : Hp} {v : V} {a : α}, Rp.rep G H v a → decide (v = .non) = isN a
instance : Nn (Option Int) := ⟨fun a => a.isNone, fun {G H v a} h => by
  have e : v = oiV a := h
  cases a <;> rw [e] <;> rfl⟩
instance : Nn (Option Bool) := ⟨fun a => a.isNone, fun {G H v a} h => by
  have e : v = obV a := h
  cases a <;> rw [e] <;> rfl⟩
theorem k_notN {α : Type} [Rp α] [Nn α] {j p1} {Q : Bool → Prop} (h : KE F env a ex fun x : α => Q (!Nn.isN x)) : KE F env (.Compare a [.IsNot] [.Constant .none j p1] pos) ex Q :=
  k_cmp (β := Unit) (Q2 := fun x _ => Q (!Nn.isN x)) op_notN (ke_imp (fun x q => k_non q) h) (fun _ _ _ _ v u x y s _ r1 r2 q => by
    cases r2
    refine ⟨rfl, _, s, ?_, q⟩
    rw [Nn.ok r1]; exact rfl) (nomark _)
theorem t_isN {α : Type} [Rp α] [Nn α] {j p1} {Q : Bool → Prop} (h : KE F env a ex fun x : α => Q (Nn.isN x)) : KT F env (.Compare a [.Is] [.Constant .none j p1] pos) ex Q :=
  t_cmp (β := Unit) (Q2 := fun x _ => Q (Nn.isN x)) op_isN (ke_imp (fun x q => k_non q) h) (fun _ _ _ _ v u x y s _ r1 r2 q => by
    cases r2
    exact ⟨rfl, _, by rw [Nn.ok r1], s, q⟩) (nomark _)
theorem k_lele {Q : Bool → Prop} (h : KE F env a ex fun x : Int => KE F env b ex fun y : Int => if x ≤ y then KE F env c ex fun z : Int => Q (decide (y ≤ z)) else Q false)
    (hm : lastMarks [.LtE, .LtE] [b, c] = false := by with_unfolding_all rfl) : KE F env (.Compare a [.LtE, .LtE] [b, c] pos) ex Q := fun own σ H k p =>
  tE_of (pe_chain op_le op_le peE peE peE hm) (two k p h fun v u x y H' s r1 r2 q => by
    cases r1; cases r2
    refine ⟨x, y, rfl, rfl, _, rfl, ?_⟩
    by_cases l : x ≤ y
    · rw [if_pos (decide_eq_true l)]
      rw [if_pos l] at q
      exact tE_mono (fun w H3 ⟨z, s3, r3, q3⟩ => by cases r3; exact ⟨y, z, rfl, rfl, _, s.trans s3, rfl, q3⟩) (q own σ H' (k.mono s) (p.mono s))
    · rw [if_neg (by simpa using l)]
      rw [if_neg l] at q
      exact ⟨_, s, rfl, q⟩)
theorem k_not {Q : Bool → Prop} (h : KE F env a ex fun x : Bool => Q (!x)) : KE F env (.UnaryOp .Not a pos) ex Q := fun own σ H k p =>
  tE_of (pe_not peE) (tE_mono (fun v H' ⟨x, s, r, q⟩ => by cases r; exact ⟨x, rfl, _, s, rfl, q⟩) (h own σ H k p))
theorem k_and {Q : Bool → Prop} (h : KE F env a ex fun x : Bool => if x = true then KE F env (.BoolOp .And (b :: es) pos) ex Q else Q false) : KE F env (.BoolOp .And (a :: b :: es) pos) ex Q := fun own σ H k p =>
  tE_of (pe_and peE peE) (tE_mono (fun v H' ⟨x, s, r, q⟩ => by
    cases r
    refine ⟨x, rfl, ?_⟩
    cases x with
    | true => exact tE_mono (fun w H2 ⟨y, s2, r2, q2⟩ => ⟨y, s.trans s2, r2, q2⟩) (q own σ H' (k.mono s) (p.mono s))
    | false => exact ⟨false, s, rfl, q⟩) (h own σ H k p))
theorem k_or {Q : Bool → Prop} (h : KE F env a ex fun x : Bool => if x = true then Q true else KE F env (.BoolOp .Or (b :: es) pos) ex Q) : KE F env (.BoolOp .Or (a :: b :: es) pos) ex Q := fun own σ H k p =>
  tE_of (pe_or peE peE) (tE_mono (fun v H' ⟨x, s, r, q⟩ => by
    cases r
    refine ⟨x, rfl, ?_⟩
    cases x with
    | false => exact tE_mono (fun w H2 ⟨y, s2, r2, q2⟩ => ⟨y, s.trans s2, r2, q2⟩) (q own σ H' (k.mono s) (p.mono s))
    | true => exact ⟨true, s, rfl, q⟩) (h own σ H k p))
theorem k_one {α : Type} [Rp α] {op : BoolOp} {Q : α → Prop} (h : KE F env a ex Q) : KE F env (.BoolOp op [a] pos) ex Q := fun own σ H k p => tE_of (pe_one peE) (h own σ H k p)
theorem t_val {Q : Bool → Prop} (h : KE F env a ex Q) (he : ∀ whole, isTrue a F.X.env whole = (do let v ← whole; standAt a.pos; holding [v] (truthy v)) := by intro _; rfl) : KT F env a ex Q := fun own σ H k p =>
  tT_of (pt_val peE he) (tE_mono (fun v H' ⟨x, s, r, q⟩ => by cases r; exact ⟨x, rfl, s, q⟩) (h own σ H k p))
theorem t_not {Q : Bool → Prop} (h : KT F env a ex fun x => Q (!x)) : KT F env (.UnaryOp .Not a pos) ex Q := fun own σ H k p =>
  tT_of (pt_not peT) (tT_mono (fun v H' ⟨s, q⟩ => ⟨s, q⟩) (h own σ H k p))
theorem t_w {Q : Bool → Prop} (h : KTW F env a ex Q) : KT F env a ex Q := fun own σ H k p => tT_of (peTW.pt) (h own σ H k p)
theorem w_and {Q : Bool → Prop} (h : KT F env a ex fun x => if x = true then KTW F env (.BoolOp .And (b :: es) pos) ex Q else Q false) : KTW F env (.BoolOp .And (a :: b :: es) pos) ex Q := fun own σ H k p =>
  tTW_of (pw_and peT peTW) (tT_mono (fun x H' ⟨s, q⟩ => by
    cases x with
    | true => exact tTW_mono (fun w H2 ⟨s2, q2⟩ => ⟨s.trans s2, q2⟩) (q own σ H' (k.mono s) (p.mono s))
    | false => exact ⟨s, q⟩) (h own σ H k p))
theorem w_or {Q : Bool → Prop} (h : KT F env a ex fun x => if x = true then Q true else KTW F env (.BoolOp .Or (b :: es) pos) ex Q) : KTW F env (.BoolOp .Or (a :: b :: es) pos) ex Q := fun own σ H k p =>
  tTW_of (pw_or peT peTW) (tT_mono (fun x H' ⟨s, q⟩ => by
    cases x with
    | false => exact tTW_mono (fun w H2 ⟨s2, q2⟩ => ⟨s.trans s2, q2⟩) (q own σ H' (k.mono s) (p.mono s))
    | true => exact ⟨s, q⟩) (h own σ H k p))
theorem w_and1 {Q : Bool → Prop} (h : KT F env a ex Q) : KTW F env (.BoolOp .And [a] pos) ex Q := fun own σ H k p => tTW_of (pw_and1 peT) (h own σ H k p)
theorem w_or1 {Q : Bool → Prop} (h : KT F env a ex Q) : KTW F env (.BoolOp .Or [a] pos) ex Q := fun own σ H k p => tTW_of (pw_or1 peT) (h own σ H k p)
theorem k_if {α : Type} [Rp α] {Q : α → Prop} (h : KT F env c ex fun x => if x = true then KE F env a ex Q else KE F env b ex Q) : KE F env (.IfExp c a b pos) ex Q := fun own σ H k p =>
  tE_of (pe_ifExp peT peE peE) (tT_mono (fun x H' ⟨s, q⟩ => by
    cases x with
    | true => exact tE_mono (fun w H2 ⟨y, s2, r2, q2⟩ => ⟨y, s.trans s2, r2, q2⟩) (q own σ H' (k.mono s) (p.mono s))
    | false => exact tE_mono (fun w H2 ⟨y, s2, r2, q2⟩ => ⟨y, s.trans s2, r2, q2⟩) (q own σ H' (k.mono s) (p.mono s))) (h own σ H k p))
theorem a_nil {Q : List DV → Prop} (q : Q []) : KA F env [] ex Q := fun own σ H k p => tA_of pa_nil ⟨[], Same.refl H, trivial, q⟩
theorem a_cons {α : Type} [Rp α] {Q : List DV → Prop} (h : KE F env e ex fun x : α => KA F env es ex fun ds => Q (dv x :: ds)) (hs : starEach (e :: es) F.X.env = (false, eval e F.X.env) :: starEach es F.X.env := by rfl) : KA F env (e :: es) ex Q := fun own σ H k p =>
  tA_of (pa_cons peE peA hs) (tE_mono (fun v H1 ⟨x, s1, r1, h1⟩ => tA_mono (fun vs H2 ⟨ds, s2, r2, q⟩ => ⟨dv x :: ds, s1.trans s2, ⟨DV.mono (d := dv x) (hid_same s2) r1, r2⟩, q⟩) (h1 own σ H1 (k.mono s1) (p.mono s1))) (h own σ H k p))
theorem hid_new {own : Nat → Option Addr} {σ : L2.St} {H H1 : Hp} {p : Addr} {o : HO} (k : F.Kn own env σ H) (s : Same H H1) (hp : H1 p = none) : Hid (hd F.hs own) (upd H1 p o) p = some o := by
  rw [hid_at (k.fresh s hp), upd_same]
theorem k_tup {α : Type} {ds : α → List DV} {x1} {Q : α → Prop} (h : KA F env es ex fun xs => xs.length ≤ 1000 ∧ ∃ y, ds y = xs ∧ Q y) : @KE F env (.Tuple es x1 pos) ex α (tpRp ds) Q := fun own σ H k p =>
  tE_of (pe_tup peA) (tA_mono (fun vs H1 ⟨xs, s, r, hl, y, e, q⟩ => ⟨by rw [r.len]; exact Nat.le_of_lt (small1000 hl), fun a ha => ⟨y, s.trans (same_new ha), ⟨a, vs, rfl, hid_new k s ha, by rw [e]; exact r.mono (hid_same (same_new ha))⟩, q⟩⟩) (h own σ H k p))
theorem k_lst {α : Type} {ds : α → List DV} {Q : α → Prop} (h : KA F env es ex fun xs => xs.length ≤ 1000 ∧ ∃ y, ds y = xs ∧ Q y) : @KE F env (.List es pos) ex α (lsRp ds) Q := fun own σ H k p =>
  tE_of (pe_lst peA) (tA_mono (fun vs H1 ⟨xs, s, r, hl, y, e, q⟩ => ⟨by rw [r.len]; exact Nat.le_of_lt (small1000 hl), fun a ha => ⟨y, s.trans (same_new ha), ⟨a, vs, rfl, hid_new k s ha, by rw [e]; exact r.mono (hid_same (same_new ha))⟩, q⟩⟩) (h own σ H k p))
end
end Rk
set_option maxHeartbeats 4000000
namespace Rk
open PySem L2
section
variable {F : Fx} {env : List Ent} {ex : XP} {a b c e : Expr} {es : List Expr} {pos : Pos}
theorem k_fld {α β : Type} [Rp β] {n : Nat} {fs : α → List (Str × DV)} {f : Str} {Q : β → Prop} (g : α → β) (hg : ∀ o, (fs o).lookup f = some (dv (g o))) (hc : Cls F.X.K (F.cls n)) (hn : NoAttr F.X.K (F.cls n) f)
    (h : @KE F env a ex α (obRp n fs) fun o => Q (g o)) (hb : attributeBase a f F.X.env (eval a F.X.env) = eval a F.X.env := by rfl) : KE F env (.Attribute a f pos) ex Q := fun own σ H k p =>
  tE_of (pe_fld peE hb) (tE_mono (fun v H' ⟨o, s, ⟨q, dx, kvs, e1, e2, e3⟩, z⟩ => by
    obtain ⟨w, h1, h2⟩ := e3.get (hg o)
    exact ⟨q, F.cls n, dx, kvs, w, e1, hid_of e2, hc, hn, h1, g o, s, h2, z⟩) (h own σ H k p))
theorem k_ixT {α β : Type} [Rp β] {ds : α → List DV} {i j} {p1 : Pos} {Q : β → Prop} (n : Nat) (g : α → β) (hg : ∀ o, (ds o)[n]? = some (dv (g o))) (hi : i = (n : Int)) (h : @KE F env a ex α (tpRp ds) fun o => Q (g o)) :
    KE F env (.Subscript a (.Constant (.int i) j p1) pos) ex Q := fun own σ H k p =>
  tE_of (pe_ix ix_tup peE pe_int (fun _ _ => rfl)) (tE_mono (fun v H' ⟨o, s, ⟨q, vs, e1, e2, e3⟩, z⟩ => by
    obtain ⟨w, h1, h2⟩ := e3.get (hg o)
    refine ⟨q, vs, _, w, e1, rfl, SqT.of (hid_of e2), ?_, g o, s, h2, z⟩
    subst hi
    have hl : n < vs.length := (List.getElem?_eq_some_iff.mp h1).1
    unfold atI ixN
    rw [if_pos (by omega), if_pos (by omega)]
    simpa using h1) (h own σ H k p))
theorem at_nat {α : Type} {xs : List α} {i : Int} {x : α} (h0 : 0 ≤ i) (h : xs[i.toNat]? = some x) : atI xs i = some x := by
  have hl : i.toNat < xs.length := (List.getElem?_eq_some_iff.mp h).1
  unfold atI ixN
  rw [if_pos h0, if_pos (by omega)]
  simpa using h
theorem at_last {α : Type} {xs : List α} {x : α} (h : xs.getLast? = some x) : atI xs (-1) = some x := by
  rw [List.getLast?_eq_getElem?] at h
  have hl : xs.length - 1 < xs.length := (List.getElem?_eq_some_iff.mp h).1
  unfold atI ixN
  rw [if_neg (by decide), if_pos (by omega)]
  have e : ((-1 : Int) + (xs.length : Int)).toNat = xs.length - 1 := by omega
  simpa [e] using h
theorem k_ixL {α : Type} [Rp α] {Q : α → Prop} (h : KE F env a ex fun xs : List α => KE F env b ex fun i : Int => ∃ x, (0 ≤ i ∧ xs[i.toNat]? = some x) ∧ Q x) (hs : PlainIx b := by intro _ _; rfl) : KE F env (.Subscript a b pos) ex Q := fun own σ H k p =>
  tE_of (pe_ix ix_list peE peE hs) (two k p h fun v u xs i H' s r1 r2 ⟨x, hx, q⟩ => by
    obtain ⟨l, vs, e1, e2, e3⟩ := r1
    cases r2
    obtain ⟨w, h1, h2⟩ := e3.get (i := i.toNat) (d := dv x) (by rw [dvs_get, hx.2]; rfl)
    exact ⟨l, vs, i, w, e1, rfl, SqL.of (hid_of e2), at_nat hx.1 h1, x, s, h2, q⟩)
theorem cut_rep {α : Type} [Rp α] {G : Gm} {H : Hp} {vs : List V} {xs : List α} (r : RepAll G H vs (dvs xs)) (m n : Nat) : RepAll G H ((vs.drop m).take n) (dvs ((xs.drop m).take n)) := by
  unfold dvs
  rw [List.map_take, List.map_drop]
  exact (r.drop m).take n
theorem k_sl {α : Type} [Rp α] {Q : List α → Prop} {p2 : Pos} (h : KE F env a ex fun xs : List α => KE F env b ex fun i : Int => KE F env c ex fun j : Int => (0 ≤ i ∧ 0 ≤ j) ∧ Q ((xs.drop i.toNat).take (j.toNat - i.toNat))) :
    KE F env (.Subscript a (.Slice (some b) (some c) none p2) pos) ex Q := fun own σ H k p =>
  tE_of (pe_slice sl_list peE (po_some peE) (po_some peE)) (two k p h fun v u xs i H' s r1 r2 q => by
    cases r2
    refine ⟨i, rfl, ?_⟩
    refine tE_mono (fun w H3 ⟨j, s3, r3, q3, q4⟩ => ?_) (q own σ H' (k.mono s) (p.mono s))
    cases r3
    obtain ⟨l, vs, e1, e2, e3⟩ := Rp.mono (hid_same s3) r1
    have st : Same H H3 := s.trans s3
    have hl : vs.length = xs.length := by rw [e3.len, dvs_len]
    refine ⟨j, rfl, l, vs, e1, SqL.of (hid_of e2), fun t ht => ⟨_, st.trans (same_new ht), ?_, q4⟩⟩
    have ec : cutV vs (some i) (some j) = (vs.drop i.toNat).take (j.toNat - i.toNat) := by
      have ei : (i : Int) = (i.toNat : Int) := by omega
      have ej : (j : Int) = (j.toNat : Int) := by omega
      unfold cutV
      rw [ei, ej, HT.sIx_nat, HT.sIx_nat]
      simp only [Int.toNat_natCast]
      by_cases g : i.toNat ≤ vs.length
      · rw [Nat.min_eq_left g]
        by_cases g2 : j.toNat ≤ vs.length
        · rw [Nat.min_eq_left g2]
        · rw [Nat.min_eq_right (by omega), List.take_of_length_le (by rw [List.length_drop]; omega), List.take_of_length_le (by rw [List.length_drop]; omega)]
      · rw [List.drop_of_length_le (by omega), List.drop_of_length_le (by omega), List.take_nil, List.take_nil]
    refine ⟨t, _, rfl, hid_new k st ht, ?_⟩
    rw [ec]
    exact (cut_rep e3 _ _).mono (hid_same (same_new ht)))
theorem k_cat {α : Type} [Rp α] {Q : List α → Prop} (h : KE F env a ex fun xs : List α => KE F env b ex fun ys : List α => (xs.length + ys.length ≤ 100000) ∧ Q (xs ++ ys)) : KE F env (.BinOp a .Add b pos) ex Q :=
  k_op op_cat h fun own σ H0 H v u xs ys s k r1 r2 q => by
    obtain ⟨l, vs, e1, e2, e3⟩ := r1
    obtain ⟨l', vs', e1', e2', e3'⟩ := r2
    have h1 : vs.length = xs.length := by rw [e3.len, dvs_len]
    have h2 : vs'.length = ys.length := by rw [e3'.len, dvs_len]
    have hz : vs.length + vs'.length ≤ 100000 := by rw [h1, h2]; exact q.1
    refine ⟨l, l', vs, vs', e1, e1', hid_of e2, hid_of e2', Nat.le_trans hz (by decide), fun t ht => ⟨_, s.trans (same_new ht), ?_, q.2⟩⟩
    refine ⟨t, _, rfl, hid_new k (Same.refl _) ht, ?_⟩
    have g := e3.app e3'
    unfold dvs at g ⊢
    rw [List.map_append]
    exact RepAll.mono (hid_same (same_new ht)) g
theorem scr_get {ns : List Int} {i : Nat} {x : Int} (h : ns[i]? = some x) : (ns.map V.int)[i]? = some (V.int x) := by
  rw [List.getElem?_map, h]
  rfl
theorem k_ixScr {Q : Int → Prop} (h : KE F env a ex fun xs : Scr => KE F env b ex fun i : Int => ∃ x, (0 ≤ i ∧ xs.ns[i.toNat]? = some x) ∧ Q x) (hs : PlainIx b := by intro _ _; rfl) : KE F env (.Subscript a b pos) ex Q := fun own σ H k p =>
  tE_of (pe_ix ix_list peE peE hs) (two k p h fun v u xs i H' s r1 r2 ⟨x, hx, q⟩ => by
    obtain ⟨l, e1, e2⟩ := r1
    cases r2
    exact ⟨l, _, i, _, e1, rfl, hid_le.seq e2, at_nat hx.1 (scr_get hx.2), x, s, rfl, q⟩)
theorem rep_ints {G : Gm} {H : Hp} : ∀ ns : List Int, RepAll G H (ns.map V.int) (dvs ns)
  | [] => trivial
  | n :: r => ⟨rfl, rep_ints r⟩
theorem rep_rep {G : Gm} {H : Hp} {vs : List V} {ds : List DV} (r : RepAll G H vs ds) : ∀ n, RepAll G H (List.replicate n vs).flatten (List.replicate n ds).flatten
  | 0 => trivial
  | n + 1 => r.app (rep_rep r n)
end
end Rk
set_option maxHeartbeats 4000000
namespace Rk
open PySem L2
section
variable {F : Fx} {env : List Ent} {ex : XP} {a b c e : Expr} {es : List Expr} {pos p0 : Pos} {n : Str}
def NoGl (mg : Str → Option Value) : Prop := ∀ x ∈ (["len", "range", "min", "max", "int", "isinstance", "list", "tuple", "sorted", "enumerate", "zip", "all", "any", "bool", "dict", "str", "sum", "reversed", "ValueError"] : List Str), mg x = none
theorem cb {id : String} {r : List V → Hp → VK → Prop} {γ : Type} [Rp γ] {Q : γ → Prop} {Q2 : List DV → Prop} (hc : CallR F.X (.builtin id) r) (hm : F.X.mg n = none) (hv : bootBuiltins n = some (.builtin id)) (h : KA F env (e :: es) ex Q2)
    (f : ∀ own σ H0 H vs ds, Same H0 H → F.Kn own env σ H → RepAll F.G (Hid (hd F.hs own) H) vs ds → Q2 ds → r vs H (Rs F own H0 Q))
    (hg : Gl F.X n := by rfl) (hn : n ≠ "__name__" := by decide) (hdb : (n == ("__debug__" : Str)) = false := by decide)
    (hz : starEach (e :: es) F.X.env = (false, eval e F.X.env) :: starEach es F.X.env := by rfl) (hpl : (backTo pos (starEach es F.X.env)).any (·.1) = false := by rfl) :
    KE F env (.Call (.Name n p0) (e :: es) [] pos) ex Q := fun own σ H k p =>
  tE_of (pe_callB hc hg hm hv peA hn hdb hz hpl) (tA_mono (fun vs H' ⟨ds, s, r1, q⟩ => f own σ H H' vs ds s (k.mono s) r1 q) (h own σ H k p))
theorem ct {id : String} {r : List V → Hp → VK → Prop} {γ : Type} [Rp γ] {Q : γ → Prop} {Q2 : List DV → Prop} (hc : CallR F.X (.type id) r) (hm : F.X.mg n = none) (hv : bootBuiltins n = some (.type id)) (h : KA F env (e :: es) ex Q2)
    (f : ∀ own σ H0 H vs ds, Same H0 H → F.Kn own env σ H → RepAll F.G (Hid (hd F.hs own) H) vs ds → Q2 ds → r vs H (Rs F own H0 Q))
    (hg : Gl F.X n := by rfl) (hn : n ≠ "__name__" := by decide) (hdb : (n == ("__debug__" : Str)) = false := by decide)
    (hz : starEach (e :: es) F.X.env = (false, eval e F.X.env) :: starEach es F.X.env := by rfl) (hpl : (backTo pos (starEach es F.X.env)).any (·.1) = false := by rfl) :
    KE F env (.Call (.Name n p0) (e :: es) [] pos) ex Q := fun own σ H k p =>
  tE_of (pe_callTy hc hg hm hv peA hn hdb hz hpl) (tA_mono (fun vs H' ⟨ds, s, r1, q⟩ => f own σ H H' vs ds s (k.mono s) r1 q) (h own σ H k p))
def One {α : Type} [Rp α] (Q : α → Prop) (ds : List DV) : Prop := ∃ x : α, ds = [dv x] ∧ Q x
def Two {α β : Type} [Rp α] [Rp β] (Q : α → β → Prop) (ds : List DV) : Prop := ∃ (x : α) (y : β), ds = [dv x, dv y] ∧ Q x y
abbrev Ns (F : Fx) (e : Expr) (es : List Expr) : Prop := starEach (e :: es) F.X.env = (false, eval e F.X.env) :: starEach es F.X.env
theorem a_one {α : Type} [Rp α] {Q : α → Prop} (h : KE F env e ex Q) (z : Ns F e []) : KA F env [e] ex (One Q) := a_cons (ke_imp (fun x q => a_nil ⟨x, rfl, q⟩) h) z
theorem a_two {α β : Type} [Rp α] [Rp β] {Q : α → β → Prop} (h : KE F env a ex fun x => KE F env b ex fun y => Q x y) (z : Ns F a [b]) (z2 : Ns F b []) : KA F env [a, b] ex (Two Q) := a_cons (ke_imp (fun x q => a_cons (ke_imp (fun y q => a_nil ⟨x, y, rfl, q⟩) q) z2) h) z
theorem rep1 {G : Gm} {H : Hp} {vs : List V} {d : DV} (r : RepAll G H vs [d]) : ∃ v, vs = [v] ∧ d.rep G H v := by
  match vs, r with
  | [v], r => exact ⟨v, rfl, r.1⟩
theorem rep2 {G : Gm} {H : Hp} {vs : List V} {d d' : DV} (r : RepAll G H vs [d, d']) : ∃ v w, vs = [v, w] ∧ d.rep G H v ∧ d'.rep G H w := by
  match vs, r with
  | [v, w], r => exact ⟨v, w, rfl, r.1, r.2.1⟩
theorem k_lenL {α : Type} [Rp α] {Q : Int → Prop} (m : NoGl F.X.mg) (h : KE F env e ex fun xs : List α => Q (xs.length : Int)) (z : Ns F e [] := by rfl) (hg : Gl F.X "len" := by rfl) : KE F env (.Call (.Name "len" p0) [e] [] pos) ex Q :=
  cb call_len_seq (m _ (by simp)) PySem.boot_len (a_one h z) (fun own σ H0 H vs ds s k r ⟨xs, ed, q⟩ => by
    subst ed
    obtain ⟨v, rfl, l, ws, e1, e2, e3⟩ := rep1 r
    refine ⟨l, ws, by rw [e1], .inl (SqL.of (hid_of e2)), _, s, ?_, q⟩
    show V.int _ = V.int _
    rw [e3.len, dvs_len]) hg (hz := z)
theorem k_lenS {Q : Int → Prop} (m : NoGl F.X.mg) (h : KE F env e ex fun xs : Scr => Q (xs.ns.length : Int)) (z : Ns F e [] := by rfl) (hg : Gl F.X "len" := by rfl) : KE F env (.Call (.Name "len" p0) [e] [] pos) ex Q :=
  cb call_len_seq (m _ (by simp)) PySem.boot_len (a_one h z) (fun own σ H0 H vs ds s k r ⟨xs, ed, q⟩ => by
    subst ed
    obtain ⟨v, rfl, l, e1, e2⟩ := rep1 r
    refine ⟨l, _, by rw [e1], .inl (hid_le.seq e2), _, s, ?_, q⟩
    show V.int _ = V.int _
    rw [List.length_map]) hg (hz := z)
theorem k_lenT {α : Type} {ds : α → List DV} {Q : Int → Prop} (m : NoGl F.X.mg) (h : @KE F env e ex α (tpRp ds) fun x : α => Q ((ds x).length : Int)) (z : Ns F e [] := by rfl) (hg : Gl F.X "len" := by rfl) : KE F env (.Call (.Name "len" p0) [e] [] pos) ex Q :=
  cb call_len_seq (m _ (by simp)) PySem.boot_len (@a_one F env ex e α (tpRp ds) _ h z) (fun own σ H0 H vs _ s k r ⟨xs, ed, q⟩ => by
    subst ed
    obtain ⟨v, rfl, l, ws, e1, e2, e3⟩ := rep1 r
    refine ⟨l, ws, by rw [e1], .inr (SqT.of (hid_of e2)), _, s, ?_, q⟩
    show V.int _ = V.int _
    rw [e3.len]) hg (hz := z)
theorem k_intI {Q : Int → Prop} (m : NoGl F.X.mg) (h : KE F env e ex Q) (z : Ns F e [] := by rfl) (hg : Gl F.X "int" := by rfl) : KE F env (.Call (.Name "int" p0) [e] [] pos) ex Q :=
  ct call_int1 (m _ (by simp)) (by decide +kernel) (a_one h z) (fun own σ H0 H vs ds s k r ⟨x, ed, q⟩ => by
    subst ed
    obtain ⟨v, rfl, e1⟩ := rep1 r
    cases e1
    exact .inl ⟨x, rfl, x, s, rfl, q⟩) hg (hz := z)
def b2 (b : Bool) : Int := if b then 1 else 0
theorem k_max2 {Q : Int → Prop} (m : NoGl F.X.mg) (h : KE F env a ex fun x : Int => KE F env b ex fun y : Int => Q (max x y)) (hc : F.X.calm = true := by rfl) (z : Ns F a [b] := by rfl) (z2 : Ns F b [] := by rfl) (hpl : (backTo pos (starEach [b] F.X.env)).any (·.1) = false := by rfl) (hg : Gl F.X "max" := by rfl) : KE F env (.Call (.Name "max" p0) [a, b] [] pos) ex Q :=
  cb (call_max2 hc) (m _ (by simp)) (by decide +kernel) (a_two h z z2) (fun own σ H0 H vs ds s k r ⟨x, y, ed, q⟩ => by
    subst ed
    obtain ⟨v, w, rfl, e1, e2⟩ := rep2 r
    cases e1; cases e2
    refine ⟨x, y, rfl, _, s, ?_, q⟩
    show V.int _ = V.int _
    congr 1
    split <;> omega) hg (hz := z) (hpl := hpl)
theorem k_min2 {Q : Int → Prop} (m : NoGl F.X.mg) (h : KE F env a ex fun x : Int => KE F env b ex fun y : Int => Q (min x y)) (hc : F.X.calm = true := by rfl) (z : Ns F a [b] := by rfl) (z2 : Ns F b [] := by rfl) (hpl : (backTo pos (starEach [b] F.X.env)).any (·.1) = false := by rfl) (hg : Gl F.X "min" := by rfl) : KE F env (.Call (.Name "min" p0) [a, b] [] pos) ex Q :=
  cb (call_min2 hc) (m _ (by simp)) (by decide +kernel) (a_two h z z2) (fun own σ H0 H vs ds s k r ⟨x, y, ed, q⟩ => by
    subst ed
    obtain ⟨v, w, rfl, e1, e2⟩ := rep2 r
    cases e1; cases e2
    refine ⟨x, y, rfl, _, s, ?_, q⟩
    show V.int _ = V.int _
    congr 1
    split <;> omega) hg (hz := z) (hpl := hpl)
theorem reps_ints {G : Gm} {H : Hp} : ∀ {vs : List V} {ns : List Int}, RepAll G H vs (dvs ns) → vs = ns.map V.int
  | [], [], _ => rfl
  | v :: vs, n :: ns, h => by
    have e : v = V.int n := h.1
    rw [e, reps_ints (vs := vs) (ns := ns) h.2] <;> rfl
theorem k_maxL {Q : Int → Prop} (m : NoGl F.X.mg) (h : KE F env e ex fun xs : List Int => xs ≠ [] ∧ ∀ y, y ∈ xs → (∀ z ∈ xs, z ≤ y) → Q y) (hc : F.X.calm = true := by rfl) (z : Ns F e [] := by rfl) (hg : Gl F.X "max" := by rfl) : KE F env (.Call (.Name "max" p0) [e] [] pos) ex Q :=
  cb (cr_max hc) (m _ (by simp)) (by decide +kernel) (a_one h z) (fun own σ H0 H vs ds s k r ⟨xs, ed, q0, q⟩ => by
    subst ed
    obtain ⟨v, rfl, l, ws, e1, e2, e3⟩ := rep1 r
    have e4 := reps_ints e3
    refine ⟨l, xs, by rw [e1], SqL.of (by rw [← e4]; exact hid_of e2), List.length_pos_iff.mpr q0, fun y hy hle => ⟨y, s, rfl, q y hy hle⟩⟩) hg (hz := z)
theorem k_list {α : Type} [Rp α] {Q : List α → Prop} (m : NoGl F.X.mg) (h : KE F env e ex Q) (z : Ns F e [] := by rfl) (hg : Gl F.X "list" := by rfl) : KE F env (.Call (.Name "list" p0) [e] [] pos) ex Q :=
  ct call_list_of (m _ (by simp)) (by decide +kernel) (a_one h z) (fun own σ H0 H vs ds s k r ⟨xs, ed, q⟩ => by
    subst ed
    obtain ⟨v, rfl, l, ws, e1, e2, e3⟩ := rep1 r
    exact ⟨l, ws, by rw [e1], .inl (SqL.of (hid_of e2)), fun t ht => ⟨xs, s.trans (same_new ht), ⟨t, ws, rfl, hid_new k (Same.refl _) ht, e3.mono (hid_same (same_new ht))⟩, q⟩⟩) hg (hz := z)
inductive Rz : Type 1 where
  | ok (d : DV)
  | err (c : Nat)
abbrev Pm := List DV → Rz → Prop
def spOf (K : PySem.W.Frag) (cls : Nat → Addr) (S : Pm) : Sp := fun vs H Q E => ∃ (hs : Addr → Prop) (ds : List DV) (r : Rz), (∀ x, hs x → H x ≠ none) ∧ RepAll ⟨K, cls⟩ (Hid hs H) vs ds ∧ S ds r ∧
  match r with
  | .ok d => ∀ v H', Same H H' → d.rep ⟨K, cls⟩ (Hid hs H') v → Q v H'
  | .err c => ∀ dd H', Same H H' → Xd c dd (Hid hs H') → E (.ref (cls c)) dd H'
def Got {α : Type} [Rp α] (env : List Ent) (ex : XP) (Q : α → Prop) : Rz → Prop
  | .ok d => ∃ x : α, d = dv x ∧ Q x
  | .err c => ex env c
theorem Got.ok {α : Type} [Rp α] {env : List Ent} {ex : XP} {Q : α → Prop} {x : α} (q : Q x) : Got env ex Q (.ok (dv x)) := ⟨x, rfl, q⟩
theorem Kn.hidden {own : Nat → Option Addr} {σ : L2.St} {H : Hp} (k : F.Kn own env σ H) : ∀ x, hd F.hs own x → H x ≠ none := fun x z => by
  rcases z with z | ⟨i, z⟩
  · exact k.hsB x z
  · exact (k.new i x z).2
section
variable {kk : Nat} {f : Addr} {fd : FuncData} {ps : List Str} {S : Pm}
theorem spec_run {own : Nat → Option Addr} {σ : L2.St} {H0 H : Hp} {α : Type} [Rp α] {Q : α → Prop} {W : WX} {vs : List V} {ds : List DV} {r : Rz} (s : Same H0 H) (k : F.Kn own env σ H) (hw : ∀ env own' C dd σ H', F.Kn own' env σ H' → Fr F.hs own own' H0 H' → ex env C → Xd C dd (Hid (hd F.hs own') H') → W (.ref (F.cls C)) dd σ H')
    (rv : RepAll F.G (Hid (hd F.hs own) H) vs ds) (hS : S ds r) (q : Got env ex Q r) : spOf F.X.K F.cls S vs H (Rs F own H0 Q) (WE W σ) := by
  refine ⟨hd F.hs own, ds, r, Kn.hidden k, rv, hS, ?_⟩
  cases r with
  | ok d =>
    obtain ⟨x, ed, q⟩ := q
    intro v H' s' rd
    subst ed
    exact ⟨x, s.trans s', rd, q⟩
  | err c => exact fun dd H' s' x => hw env own c dd σ H' (k.mono s') (Fr.of (s.trans s')) q x
theorem k_call {α : Type} [Rp α] {Q : α → Prop} (G : FnOk F.X.prog F.X.w F.X.K F.X.mg F.X.base (L2.CX F.X.prog F.X.w) kk f fd ps (spOf F.X.K F.cls S)) (hr : Room kk F.X.A) (hm : F.X.mg n = some (.ref f)) (hk : PySem.W.keepIn F.X.K (.ref f) = true) (hb : Binds F.X.K fd ps [])
    (h : KA F env (e :: es) ex fun ds => ∃ r, S ds r ∧ Got env ex Q r) (hg : Gl F.X n := by rfl) (hdb : (n == ("__debug__" : Str)) = false := by decide)
    (hz : starEach (e :: es) F.X.env = (false, eval e F.X.env) :: starEach es F.X.env := by rfl) (hpl : (backTo pos (starEach es F.X.env)).any (·.1) = false := by rfl) : KE F env (.Call (.Name n p0) (e :: es) [] pos) ex Q := fun own σ H k p => by
  obtain ⟨pa, W, tk, hw⟩ := id p
  exact tE_of (pe_callS G hr hg hm hk hb (fun σ => passAt tk σ) peA hdb hz hpl) (tA_mono (fun vs H' ⟨ds, s, r1, r, hS, q⟩ => spec_run s (k.mono s) hw r1 hS q) (h own σ H k p))
theorem pe_methS {X : Cx} {C : Addr} {sp : Sp} {E : L2.St → XK} {m : Str} {apos : Pos} {o : Expr} {ta : TE} {t : TA} {pl : Sem Bool} {CT : CXT} (he : PE X o ta) (cl : Cls X.K C) (hm : Meth X.K C m f) (G : FnOk X.prog X.w X.K X.mg X.base CT kk f fd ps sp) (hr : Room kk X.A) (hb : Binds X.K fd ps []) (hx : ∀ σ, PassesAt CT X σ (E σ)) (ha : PA X (e :: es) t)
    (hst : starEach (e :: es) X.env = (false, eval e X.env) :: starEach es X.env := by rfl) (hpl : (backTo pos (starEach es X.env)).any (·.1) = false := by rfl)
    (ht : eval (.Call (.Attribute o m apos) (e :: es) [] pos) X.env = (do
      let recv ← eval o X.env
      standAt apos.atName
      let (fn, fst) ← holding [recv] (getMethod recv m pl)
      callWith pos fn fst (backTo pos (starEach (e :: es) X.env)) (backToKw pos (keywordEach [] X.env))) := by rfl) :
    PE X (.Call (.Attribute o m apos) (e :: es) [] pos) (fun σ H Q => ta σ H fun x H1 => ∃ a dx fs, x = .ref a ∧ H1 a = some (.ins C dx fs) ∧ fs.lookup m = none ∧ t σ H1 fun vs H2 => sp (x :: vs) H2 Q (E σ)) := by
  refine ⟨fun pins s σ H Q I hq => ?_⟩
  refine PySem.W.methodCall_KW (pl := pl) (thn (he.run pins s σ H _ I hq) fun u s1 ⟨x, H1, I1, rx, a, dx, fs, ex1, ea, l, q⟩ => ?_) ht
  subst ex1
  obtain rfl : u = Value.ref a := rx
  refine getmeth_ok I1 ea cl hm l ?_
  refine PySem.W.callWith_K (h₀ := X.base) (first := [.ref a]) I.ok.mod.kin hm.kp (thn (ha.run pos pins s1 σ H1 _ I1 q) fun vals s2 ⟨vs, H2, I2, r, q2⟩ => ⟨I2.kIn, ?_⟩) hst hpl
  exact run_fnS (vs := .ref a :: vs) (us := .ref a :: vals) G hr hb (hx σ) I2 (.cons rfl r) q2
theorem pe_methS0 {X : Cx} {C : Addr} {sp : Sp} {E : L2.St → XK} {m : Str} {apos : Pos} {o : Expr} {ta : TE} {pl : Sem Bool} {CT : CXT} (he : PE X o ta) (cl : Cls X.K C) (hm : Meth X.K C m f) (G : FnOk X.prog X.w X.K X.mg X.base CT kk f fd ps sp) (hr : Room kk X.A) (hb : Binds X.K fd ps []) (hx : ∀ σ, PassesAt CT X σ (E σ))
    (ht : eval (.Call (.Attribute o m apos) [] [] pos) X.env = (do
      let recv ← eval o X.env
      standAt apos.atName
      let (fn, fst) ← holding [recv] (getMethod recv m pl)
      callWith pos fn fst (backTo pos (starEach [] X.env)) (backToKw pos (keywordEach [] X.env))) := by rfl) :
    PE X (.Call (.Attribute o m apos) [] [] pos) (fun σ H Q => ta σ H fun x H1 => ∃ a dx fs, x = .ref a ∧ H1 a = some (.ins C dx fs) ∧ fs.lookup m = none ∧ sp [x] H1 Q (E σ)) := by
  refine ⟨fun pins s σ H Q I hq => ?_⟩
  refine PySem.W.methodCall_KW (pl := pl) (thn (he.run pins s σ H _ I hq) fun u s1 ⟨x, H1, I1, rx, a, dx, fs, ex1, ea, l, q⟩ => ?_) ht
  subst ex1
  obtain rfl : u = Value.ref a := rx
  refine getmeth_ok I1 ea cl hm l ?_
  exact PySem.W.callWith_K0 (first := [.ref a]) I1.kIn hm.kp (run_fnS (vs := [.ref a]) (us := [.ref a]) G hr hb (hx σ) I1 (.cons rfl .nil) q)
theorem k_meth {α β : Type} [Rp β] {num : Nat} {fs : α → List (Str × DV)} {m : Str} {apos : Pos} {Q : β → Prop} (hf : ∀ o, (fs o).lookup m = none) (cl : Cls F.X.K (F.cls num)) (hm : Meth F.X.K (F.cls num) m f)
    (G : FnOk F.X.prog F.X.w F.X.K F.X.mg F.X.base (L2.CX F.X.prog F.X.w) kk f fd ps (spOf F.X.K F.cls S)) (hr : Room kk F.X.A) (hb : Binds F.X.K fd ps [])
    (h : @KE F env a ex α (obRp num fs) fun o => KA F env (e :: es) ex fun ds => ∃ r, S (@dv α (obRp num fs) o :: ds) r ∧ Got env ex Q r)
    (hst : starEach (e :: es) F.X.env = (false, eval e F.X.env) :: starEach es F.X.env := by rfl) (hpl : (backTo pos (starEach es F.X.env)).any (·.1) = false := by rfl) {pl : Sem Bool}
    (ht : eval (.Call (.Attribute a m apos) (e :: es) [] pos) F.X.env = (do
      let recv ← eval a F.X.env
      standAt apos.atName
      let (fn, fst) ← holding [recv] (getMethod recv m pl)
      callWith pos fn fst (backTo pos (starEach (e :: es) F.X.env)) (backToKw pos (keywordEach [] F.X.env))) := by rfl) :
    KE F env (.Call (.Attribute a m apos) (e :: es) [] pos) ex Q := fun own σ H k p => by
  obtain ⟨pa, W, tk, hw⟩ := id p
  refine tE_of (pe_methS peE cl hm G hr hb (fun σ => passAt tk σ) peA hst hpl ht) (tE_mono (fun v H1 ⟨o, s1, r1, q1⟩ => ?_) (h own σ H k p))
  obtain ⟨x, dx, kvs, e1, e2, e3⟩ := id r1
  refine ⟨x, dx, kvs, e1, hid_of e2, e3.no (hf o), tA_mono (fun vs H2 ⟨ds, s2, r2, r, hS, q⟩ => ?_) (q1 own σ H1 (k.mono s1) (p.mono s1))⟩
  exact spec_run (s1.trans s2) (k.mono (s1.trans s2)) hw (ds := @dv α (obRp num fs) o :: ds) ⟨(obRp num fs).mono (hid_same s2) r1, r2⟩ hS q
theorem k_meth0 {α β : Type} [Rp β] {num : Nat} {fs : α → List (Str × DV)} {m : Str} {apos : Pos} {Q : β → Prop} (hf : ∀ o, (fs o).lookup m = none) (cl : Cls F.X.K (F.cls num)) (hm : Meth F.X.K (F.cls num) m f)
    (G : FnOk F.X.prog F.X.w F.X.K F.X.mg F.X.base (L2.CX F.X.prog F.X.w) kk f fd ps (spOf F.X.K F.cls S)) (hr : Room kk F.X.A) (hb : Binds F.X.K fd ps [])
    (h : @KE F env a ex α (obRp num fs) fun o => ∃ r, S [@dv α (obRp num fs) o] r ∧ Got env ex Q r) {pl : Sem Bool}
    (ht : eval (.Call (.Attribute a m apos) [] [] pos) F.X.env = (do
      let recv ← eval a F.X.env
      standAt apos.atName
      let (fn, fst) ← holding [recv] (getMethod recv m pl)
      callWith pos fn fst (backTo pos (starEach [] F.X.env)) (backToKw pos (keywordEach [] F.X.env))) := by rfl) :
    KE F env (.Call (.Attribute a m apos) [] [] pos) ex Q := fun own σ H k p => by
  obtain ⟨pa, W, tk, hw⟩ := id p
  refine tE_of (pe_methS0 peE cl hm G hr hb (fun σ => passAt tk σ) ht) (tE_mono (fun v H1 ⟨o, s1, r1, r, hS, q⟩ => ?_) (h own σ H k p))
  obtain ⟨x, dx, kvs, e1, e2, e3⟩ := id r1
  refine ⟨x, dx, kvs, e1, hid_of e2, e3.no (hf o), ?_⟩
  exact spec_run s1 (k.mono s1) hw (ds := [@dv α (obRp num fs) o]) ⟨r1, trivial⟩ hS q
end
end
end Rk
set_option maxHeartbeats 4000000
set_option exponentiation.threshold 3000
namespace Rk
open PySem L2
section
variable {F : Fx} {env : List Ent} {a b c e : Expr} {es : List Expr} {pos p0 p1 : Pos} {n x : Str} {P : Po} {st : Stmt} {sts ss : List Stmt}
def Parts (F : Fx) (env : List Ent) (ex : XP) (q : Prop) : List Expr → Prop
  | [] => q
  | e :: es => KE F env e ex fun z : Str => z.length ≤ 100 ∧ Parts F env ex q es
theorem k_fmtI {ex : XP} {q : Prop} (h : KE F env e ex fun i : Int => i.natAbs < 1000000 ∧ q) : KE F env (.FormattedValue e (-1) none pos) ex fun z : Str => z.length ≤ 100 ∧ q := fun own σ H kn p =>
  tE_of (pe_fmt peE) (tE_mono (fun v H' ⟨i, s, r, h1, h2⟩ => by
    cases r
    have hb : i.natAbs.log2 < 1920 := by
      by_cases z : i.natAbs = 0
      · rw [z]; decide
      · exact (Nat.log2_lt z).mpr (Nat.lt_of_lt_of_le h1 (Nat.le_trans (by decide : 1000000 ≤ 2 ^ 20) (Nat.pow_le_pow_right (by decide) (by decide))))
    refine .inr ⟨i, rfl, hb, _, s, rfl, ?_, h2⟩
    have e1 := int_text_length_le10 (a := i) (k := 6) (by decide) h1
    rw [ofString_length]
    omega) (h own σ H kn p))
theorem k_fmtS {ex : XP} {q : Prop} (h : KE F env e ex fun z : Str => z.length ≤ 100 ∧ q) : KE F env (.FormattedValue e (-1) none pos) ex fun z : Str => z.length ≤ 100 ∧ q := fun own σ H kn p =>
  tE_of (pe_fmt peE) (tE_mono (fun v H' ⟨z, s, r, h1, h2⟩ => by
    cases r
    exact .inl ⟨z, rfl, Nat.le_of_lt (small1000 (by omega)), z, s, rfl, h1, h2⟩) (h own σ H kn p))
theorem k_lit {ex : XP} {q : Prop} {s : Str} {j} (h : s.length ≤ 100) (hq : q) : KE F env (.Constant (.str s) j pos) ex fun z : Str => z.length ≤ 100 ∧ q := k_str ⟨h, hq⟩
def pjs (X : Cx) : List Expr → List TE
  | [] => []
  | e :: es => tE X e :: pjs X es
theorem pj_all {X : Cx} : ∀ es : List Expr, PJ X es (pjs X es)
  | [] => .nil
  | _ :: es => .cons peE (pj_all es)
theorem parts_run {ex : XP} {q : Prop} {own : Nat → Option Addr} {σ : L2.St} {H0 : Hp} : ∀ (es : List Expr) (acc : Str) (k : Nat) (H : Hp), es.length + k ≤ 100 → acc.length ≤ 100 * k → Same H0 H → F.Kn own env σ H → Port F own H ex → Parts F env ex q es →
    tJs (pjs F.X es) acc σ H fun out H1 => Rs F own H0 (fun _ : Str => q) (.str out) H1
  | [], acc, k, H, _, _, s, kn, p, h => ⟨acc, s, rfl, h⟩
  | e :: es, acc, k, H, hk, ha, s, kn, p, h => tE_mono (fun v H' ⟨z, s', r, hz, h'⟩ => by
      cases r
      have hl : (acc ++ z).length = acc.length + z.length := Str.length_append acc z
      simp only [List.length_cons] at hk
      refine ⟨z, rfl, Nat.le_trans (by rw [hl]; omega : (acc ++ z).length ≤ 20000) (by decide), ?_⟩
      exact parts_run es (acc ++ z) (k + 1) H' (by omega) (by rw [hl]; omega) (s.trans s') (kn.mono s') (p.mono s') h') (h own σ H kn p)
theorem k_join {ex : XP} {q : Prop} {v1 v2 : Expr} {rest : List Expr} (h : Parts F env ex q (v1 :: v2 :: rest)) (hl : rest.length ≤ 90) : KE F env (.JoinedStr (v1 :: v2 :: rest) pos) ex fun _ : Str => q := fun own σ H kn p =>
  tE_of (pe_joined (pj_all _)) (parts_run _ _ 0 H (by simp only [List.length_cons]; omega) (Nat.le_of_eq rfl) (Same.refl H) kn p h)
theorem At.more {own own' : Nat → Option Addr} {H H' : Hp} {p : List Ent → Prop} {σ : L2.St} {H2 : Hp} (f : Fr F.hs own own' H H') (h : At F own' H' p σ H2) : At F own H p σ H2 := h.elim fun env ⟨o, k, g, z⟩ => ⟨env, o, k, f.trans g, z⟩
theorem b_more {own own' : Nat → Option Addr} {H H' H2 : Hp} {σ : L2.St} (f : Fr F.hs own own' H H') (h : tSs F.X sts (ends F own' H' P) σ H2) : tSs F.X sts (ends F own H P) σ H2 :=
  tSs_mono (D := ends F own' H' P) (D' := ends F own H P) (fun _ _ z => At.more f z) (fun _ _ z => z) (fun _ _ z => At.more f z) (fun _ _ z => At.more f z) h
theorem ks_nil (q : P.nx env) : KSs F env [] P := KSs.mk fun own σ H k p => tSs_of pss_nil ⟨env, own, k, Fr.refl, q⟩
theorem ks_one (h : KS F env st P) : KSs F env [st] P := KSs.mk fun own σ H k p => tSs_of (pss_one peS) (h own σ H k p)
theorem ks_cons (h : KS F env st { P with nx := fun env' => KSs F env' (sts) P }) : KSs F env (st :: sts) P := KSs.mk fun own σ H k p => by
  refine tSs_of (pss_cons peS peSs) ?_
  refine tS_mono (D := ends F own H { P with nx := fun env' => KSs F env' sts P }) (D' := { ends F own H P with nx := tSs F.X sts (ends F own H P) }) (fun σ' H' z => ?_) (fun _ _ z => z) (fun _ _ z => z) (fun _ _ z => z) (h own σ H k p)
  obtain ⟨env', own', k', f, z⟩ := z
  exact b_more f (z own' σ' H' k' (p.step f))
theorem ks_as {env' : List Ent} (f : ∀ own σ H, F.Kn own env σ H → ∃ own', F.Kn own' env' σ H ∧ Fr F.hs own own' H H) (h : KSs F env' sts P) : KSs F env sts P := KSs.mk fun own σ H k p => by
  obtain ⟨own', k', g⟩ := f own σ H k
  exact b_more g (h own' σ H k' (p.step g))
theorem ks_freeze {α : Type} [Rp α] (i : Nat) {xs : List α} (he : env[i]? = some (.ow (olist xs))) (h : KSs F (env.set i (.sh (dv xs))) sts P) : KSs F env sts P :=
  ks_as (fun own σ H k => ⟨_, k.freeze he (fun p ho H1 _ h1 sm ok => by
    obtain ⟨vs, e1, r⟩ := ok
    subst e1
    exact ⟨p, vs, rfl, h1, r.mono sm⟩), Fr.drop i⟩) h
theorem s_ret {α : Type} [Rp α] (h : KE F env e P.ex fun y : α => P.rt (dv y)) (hre : P.re env := by exact True.intro) : KS F env (.Return (some e) pos) P := KS.mk fun own σ H k p =>
  tS_of (ps_ret peE) (tE_mono (fun v H' ⟨y, s, r, q⟩ => ⟨dv y, k.ex.trans s, DV.mono (d := dv y) (hid_more fun _ z => .inl z) r, q, env, own, σ, k.mono s, hre⟩) (h own σ H k p))
theorem s_if (h : KT F env c P.ex fun b => if b = true then KSs F env sts P else KSs F env ss P) : KS F env (.If c sts ss pos) P := KS.mk fun own σ H k p =>
  tS_of (ps_if peT peSs peSs) (tT_mono (fun b H' ⟨s, q⟩ => by
    have f : Fr F.hs own own H H' := Fr.of s
    cases b with
    | true => exact b_more f ((show KSs F env sts P from q) own σ H' (k.mono s) (p.mono s))
    | false => exact b_more f ((show KSs F env ss P from q) own σ H' (k.mono s) (p.mono s))) (h own σ H k p))
theorem s_expr {α : Type} [Rp α] (h : KE F env e P.ex fun _ : α => P.nx env) (hs : swapsWith e none pos.line F.X.env = pure false := by rfl) : KS F env (.Expr e pos) P := KS.mk fun own σ H k p =>
  tS_of (ps_expr peE hs) (tE_mono (fun v H' ⟨_, s, _, q⟩ => ⟨env, own, k.mono s, Fr.of s, q⟩) (h own σ H k p))
theorem s_asg {α : Type} [Rp α] (i : Nat) (nd : F.X.N.Nodup) (hi : F.X.N[i]? = some x) (h : KE F env e P.ex fun y : α => P.nx (env.set i (.sh (dv y)))) (hx : Loc F.X.env.scope x := by first | exact Or.inl rfl | exact Or.inr rfl) (hs : swapsWith e (some (.Name x p1)) pos.line F.X.env = pure false := by rfl)
    (hf : F.X.fn x = true ∨ F.X.env.scope.names.lookup x = some .local := by exact Or.inl rfl) : KS F env (.Assign [.Name x p1] e pos) P := KS.mk fun own σ H k p =>
  tS_of (ps_set nd hi hx peE hs hf) (tE_mono (fun v H' ⟨y, s, r, q⟩ => ⟨_, _, (k.mono s).set (i := i) (d := dv y) r, (Fr.of s).trans (Fr.drop i), q⟩) (h own σ H k p))
theorem s_new {α : Type} [Rp α] (i : Nat) (nd : F.X.N.Nodup) (hi : F.X.N[i]? = some x) (hl : i < env.length) (h : KA F env es P.ex fun ds => ds.length ≤ 1000 ∧ ∃ xs : List α, dvs xs = ds ∧ ∀ zs, zs = xs → P.nx (env.set i (.ow (olist zs)))) (hx : Loc F.X.env.scope x := by first | exact Or.inl rfl | exact Or.inr rfl)
    (hs : swapsWith (.List es p0) (some (.Name x p1)) pos.line F.X.env = pure false := by rfl) (hf : F.X.fn x = true ∨ F.X.env.scope.names.lookup x = some .local := by exact Or.inl rfl) : KS F env (.Assign [.Name x p1] (.List es p0) pos) P := KS.mk fun own σ H k p =>
  tS_of (ps_set nd hi hx (pe_lst peA) hs hf) (tA_mono (fun vs H' ⟨ds, s, r, hz, xs, ed, q⟩ => ⟨by rw [r.len]; exact Nat.le_of_lt (small1000 hz), fun t ht =>
    ⟨_, _, (k.mono s).gain (i := i) (o := olist xs) hl (same_new ht) ht upd_same ⟨vs, rfl, by rw [ed]; exact r⟩, (Fr.of s).trans (Fr.gain (same_new ht) ht), q xs rfl⟩⟩) (h own σ H k p))
theorem s_app {α : Type} [Rp α] (i : Nat) {xs : List α} {q0 q1 : Pos} (hN : F.X.N[i]? = some x) (he : env[i]? = some (.ow (olist xs))) (hz : xs.length < 100000) (h : KE F env e P.ex fun y : α => ∀ zs, zs = xs ++ [y] → P.nx (env.set i (.ow (olist zs)))) (z : Ns F e [] := by rfl)
    (hv : Vis F.X.env.scope x := by first | exact Or.inl rfl | exact Or.inr (Or.inl rfl) | exact Or.inr (Or.inr rfl)) (hdb : (x == ("__debug__" : Str)) = false := by decide) (hcd : (x == ("__classdict__" : Str)) = false := by decide)
    (hbase : attributeBase (.Name x q0) "append" F.X.env (eval (.Name x q0) F.X.env) = eval (.Name x q0) F.X.env := by rfl)
    (hfew : ((backTo p0 (starEach (e :: []) F.X.env)).all (fun x => !x.1) && (backToKw p0 (keywordEach [] F.X.env)).all (fun x => x.1.isSome)
      && decide ((e :: ([] : List Expr)).length + ([] : List Keyword).length + (if ([] : List Keyword).isEmpty then 0 else 1) < 30)) = true := by rfl)
    (hline : (q1.endLine == p0.line) = true := by rfl) (hplain : (backTo p0 (starEach ([] : List Expr) F.X.env)).any (·.1) = false := by rfl)
    (hs : swapsWith (.Call (.Attribute (.Name x q0) "append" q1) [e] [] p0) none pos.line F.X.env = pure false := by rfl) :
    KS F env (.Expr (.Call (.Attribute (.Name x q0) "append" q1) [e] [] p0) pos) P := KS.mk fun own σ H k p => by
  have hi : i < env.length := (List.getElem?_eq_some_iff.mp he).1
  obtain ⟨l, ho, h0, h1, h2, vs, e3, r3⟩ := (show EntOk F.G F.hs own σ H i (.ow (olist xs)) from k.ent i _ he)
  subst e3
  refine tS_of (ps_expr (pe_bm PySem.F.plainAttrs_list PySem.F.slot_list_append PySem.F.type_list_append mt_append (pe_var hN hv hdb hcd) (pa_cons peE pa_nil z) hbase hfew hline z hplain) hs) ⟨.ref l, h1, .inl ⟨rfl, _, SqL.of h2⟩, ?_⟩
  refine tE_mono (fun v H' ⟨y, s, r, q⟩ => ?_) (h own σ H k p)
  have k' := k.mono s
  have r3' := r3.mono (hid_same (hs := hd F.hs own) s)
  refine ⟨l, vs, v, rfl, rfl, s _ _ h2, Nat.lt_of_lt_of_le (by rw [r3.len, dvs_len]; exact hz) (by decide : 100000 ≤ sizeLine), ?_⟩
  refine ⟨_, _, k'.chg (i := i) hi h0 (o := olist (xs ++ [y])) ⟨vs ++ [v], rfl, ?_⟩, (Fr.of s).trans (Fr.chg h0), q _ rfl⟩
  unfold dvs
  rw [List.map_append]
  exact r3'.app ⟨r, trivial⟩
def setAll (env : List Ent) : List Nat → List DV → List Ent
  | i :: is, d :: ds => setAll (env.set i (.sh d)) is ds
  | _, _ => env
def gNs : List Nat → TGs
  | [] => gNil
  | i :: is => gCons (gName i) (gNs is)
def Wp (is : List Nat) (σ σ' : L2.St) : Prop := ∀ vs : List Nat, (∀ i ∈ is, i ∈ vs) → wipe σ' vs = wipe σ vs
theorem wipe_set {σ : L2.St} {i : Nat} {o : Option V} : ∀ {vs : List Nat}, i ∈ vs → wipe (σ.set i o) vs = wipe σ vs
  | [], h => nomatch h
  | v :: vs, h => by
    show (wipe (σ.set i o) vs).set v none = (wipe σ vs).set v none
    by_cases q : i ∈ vs
    · rw [wipe_set q]
    · have e : i = v := by
        rcases List.mem_cons.mp h with e | e
        · exact e
        · exact absurd e q
      subst e
      have sc : ∀ (σ : L2.St) (vs : List Nat), i ∉ vs → wipe (σ.set i o) vs = (wipe σ vs).set i o := by
        intro σ vs
        induction vs with
        | nil => intro _; rfl
        | cons u us ih =>
          intro hn
          show (wipe (σ.set i o) us).set u none = ((wipe σ us).set u none).set i o
          rw [ih fun z => hn (List.mem_cons_of_mem _ z), List.set_comm _ _ (fun z => hn (by rw [z]; exact List.mem_cons_self))]
      rw [sc σ vs q, List.set_set]
theorem Wp.one {σ : L2.St} {i : Nat} {o : Option V} : Wp [i] σ (σ.set i o) := fun vs h => wipe_set (h i List.mem_cons_self)
def Kp (is : List Nat) (own own' : Nat → Option Addr) : Prop := ∀ i p, own i = some p → i ∈ is ∨ own' i = some p
theorem Kp.one {own : Nat → Option Addr} {i : Nat} : Kp [i] own (drop own i) := fun j p h => by
  by_cases e : j = i
  · subst e; exact .inl List.mem_cons_self
  · exact .inr (by unfold drop; rw [if_neg e]; exact h)
theorem unpack {Q : L2.St → Hp → Prop} : ∀ (is : List Nat) (ds : List DV) (vs : List V) (env : List Ent) (own : Nat → Option Addr) (σ : L2.St) (H : Hp), is.length = ds.length → F.Kn own env σ H → RepAll F.G (Hid (hd F.hs own) H) vs ds →
    (∀ own' σ', F.Kn own' (setAll env is ds) σ' H → Fr F.hs own own' H H → Wp is σ σ' → Kp is own own' → Q σ' H) → gNs is vs σ H Q
  | [], [], [], env, own, σ, H, _, k, _, q => ⟨rfl, q own σ k Fr.refl (fun _ _ => rfl) fun _ _ h => .inr h⟩
  | i :: is, d :: ds, v :: vs, env, own, σ, H, hl, k, r, q => ⟨v, vs, rfl, unpack is ds vs _ _ _ H (by simpa using hl) (k.set (i := i) r.1) (r.2.mono (Fr.drop i)) fun own' σ' k' f wp kp => q own' σ' k' ((Fr.drop i).trans f) (fun vs h => by
      rw [wp vs fun j hj => h j (List.mem_cons_of_mem _ hj)]
      exact wipe_set (h i List.mem_cons_self)) fun j p h => by
      rcases Kp.one j p h with z | z
      · exact .inl (by rw [List.mem_singleton.mp z]; exact List.mem_cons_self)
      · rcases kp j p z with y | y
        · exact .inl (List.mem_cons_of_mem _ y)
        · exact .inr y⟩
theorem s_unpack {α : Type} {ds : α → List DV} (is : List Nat) {kx : Nat} (hg : PGs F.X es (gNs is)) (hl : ∀ y, is.length = (ds y).length) (h : @KE F env e P.ex α (tpRp ds) fun y => P.nx (setAll env is (ds y))) (hc : F.X.calm = true := by rfl)
    (hn : (assignEach es F.X.env).length = is.length := by rfl) (hst : (assignEach es F.X.env).findIdx? (·.1) = none := by rfl) (hs : swapsWithSole [.Tuple es kx p1] e pos.line F.X.env = pure false := by rfl) (hw : swappedStores [.Tuple es kx p1] e F.X.env = pure none := by rfl)
    (h1 : (assignEach [.Tuple es kx p1] F.X.env).map (·.2) = [assign (.Tuple es kx p1) F.X.env] := by rfl) : KS F env (.Assign [.Tuple es kx p1] e pos) P := KS.mk fun own σ H k p =>
  tS_of (ps_asg peE (pg_tup hc hg hn hst) hs hw h1) (tE_mono (fun v H' ⟨y, s, ⟨l, vs, e1, e2, e3⟩, q⟩ => ⟨l, vs, e1, SqT.of (hid_of e2), by rw [e3.len, ← hl y], unpack is _ vs env own σ H' (hl y) (k.mono s) e3 fun own' σ' k' f _ _ => ⟨_, own', k', (Fr.of s).trans f, q⟩⟩) (h own σ H k p))
structure ExcT (K : PySem.W.Frag) (mg : Str → Option Value) (x : Str) (C : Addr) : Prop where
  gC : mg x = some (.ref C)
  q : PySem.W.excIn K C [.type "ValueError", .type "Exception", .type "BaseException", .type "object"] "ValueError.__new__" = true
  kC : PySem.W.keepIn K (.ref C) = true
  sB : PySem.W.subIn K (.ref C) (.type "BaseException") = some true
  tC : PySem.W.typeIn K (.ref C) = some (.type "type")
theorem s_raise {cn : Nat} (T : ExcT F.X.K F.X.mg x (F.cls cn)) (h : KE F env e P.ex fun _ : Str => P.ex env cn) (hc : F.X.calm = true := by rfl) (hg : Gl F.X x := by rfl) (z : Ns F e [] := by rfl) (hdb : (x == ("__debug__" : Str)) = false := by decide) (hcn : cn < 100 := by decide) :
    KS F env (.Raise (some (.Call (.Name x p0) [e] [] p1)) none pos) P := KS.mk fun own σ H k p => by
  obtain ⟨_, W, tk, hw⟩ := id p
  refine tS_of (ps_raise hc tk (SkE.pmk_own1 PySem.F.excBase_ValueError T.q T.gC T.kC (raises_own T.sB T.tC) hg peE z hdb)) ?_
  exact tE_mono (fun v H' ⟨y, s, r, q⟩ => hw env own cn none σ H' (k.mono s) (Fr.of s) q (Xd.lo hcn)) (h own σ H k p)
end
end Rk
set_option maxHeartbeats 4000000
namespace Rk
open PySem L2 PyProof.Rows
section
variable {F : Fx} {env : List Ent} {a b c e it : Expr} {es : List Expr} {pos p0 p1 : Pos} {n x : Str} {P : Po} {st : Stmt} {sts ss body : List Stmt}
structure Tg (F : Fx) (tg : Expr) (α : Type) [Rp α] (g : TG) (is : List Nat) (f : α → List Ent → List Ent) : Prop where
  pg : PG F.X tg g
  sem : ∀ (x : α) (Q : L2.St → Hp → Prop) (env : List Ent) (own : Nat → Option Addr) (σ : L2.St) (H : Hp) (v : V), F.Kn own env σ H → Rp.rep F.G (Hid (hd F.hs own) H) v x →
    (∀ own' σ', F.Kn own' (f x env) σ' H → Fr F.hs own own' H H → Wp is σ σ' → Kp is own own' → Q σ' H) → g v σ H Q
theorem g_name {α : Type} [Rp α] (j : Nat) (nd : F.X.N.Nodup) (hi : F.X.N[j]? = some x) (hx : Loc F.X.env.scope x := by first | exact Or.inl rfl | exact Or.inr rfl) (hf : F.X.fn x = true ∨ F.X.env.scope.names.lookup x = some .local := by first | exact Or.inl rfl | exact Or.inr rfl) :
    Tg F (.Name x pos) α (gName j) [j] fun y env => env.set j (.sh (dv y)) := ⟨pg_name nd hi hx hf, fun y Q env own σ H v k r q => q _ _ (k.set (i := j) (d := dv y) r) (Fr.drop j) Wp.one Kp.one⟩
theorem g_tup {α : Type} {ds : α → List DV} (is : List Nat) {kx : Nat} (hg : PGs F.X es (gNs is)) (hl : ∀ y, is.length = (ds y).length) (hc : F.X.calm = true := by rfl) (hn : (assignEach es F.X.env).length = is.length := by rfl) (hst : (assignEach es F.X.env).findIdx? (·.1) = none := by rfl) :
    @Tg F (.Tuple es kx pos) α (tpRp ds) (gTup F.X.K is.length (gNs is)) is fun y env => setAll env is (ds y) := by
  refine @Tg.mk F _ α (tpRp ds) _ _ _ (pg_tup hc hg hn hst) fun y Q env own σ H v k r q => ?_
  obtain ⟨l, vs, e1, e2, e3⟩ := r
  exact ⟨l, vs, e1, SqT.of (hid_of e2), by rw [e3.len, ← hl y], unpack is _ vs env own σ H (hl y) k e3 q⟩
abbrev turn (P : Po) (nx : List Ent → Prop) : Po := { nx := nx, ct := nx, bk := P.nx, rt := P.rt, ex := P.ex, re := P.re }
theorem s_for {α : Type} [Rp α] {f : α → List Ent → List Ent} {g : TG} {is : List Nat} (tg : Tg F a α g is f) (h : KE F env it P.ex fun xs : List α => ∃ I : Nat → List Ent → Prop, I 0 env ∧ (∀ i y env', xs[i]? = some y → I i env' → KSs F (f y env') body (turn P (I (i + 1)))) ∧ ∀ env', I xs.length env' → P.nx env')
    (hc : F.X.calm = true := by rfl) (hs : ∀ x, foldedSetIterable it F.X.env x = pure x := by intro _; rfl) : KS F env (.For a it body [] pos) P := KS.mk fun own σ H k p => by
  refine tS_of (ps_for p.1 hc (pi_list peE) tg.pg peSs hs) (tE_mono (fun v H1 ⟨xs, s, ⟨l, vs, e1, e2, e3⟩, I, h0, h1, h2⟩ => ?_) (h own σ H k p))
  have hlen : vs.length = xs.length := by rw [e3.len, dvs_len]
  refine ⟨l, e1, ⟨vs, SqL.of (hid_of e2)⟩, for_list (K := F.X.K) (a := l) (xs := vs) (fun i σ' H' => ∃ own', Fr F.hs own own' H1 H' ∧ ∃ env', F.Kn own' env' σ' H' ∧ I i env') ⟨own, Fr.refl, env, k.mono s, h0⟩ ?_ ?_ ?_⟩
  · rintro i σ' H' _ ⟨own', fr, _, _, _⟩
    exact SqL.of (hid_of (fr _ _ e2))
  · rintro i v' σ' H' hv ⟨own', fr, env', k', hI⟩
    obtain ⟨d, hd1, hd2⟩ := e3.get' hv
    rw [dvs_get] at hd1
    cases hx : xs[i]? with
    | none => rw [hx] at hd1; cases hd1
    | some y =>
      rw [hx] at hd1
      have ed : dv y = d := Option.some.inj hd1
      subst ed
      have base : Fr F.hs own own H H1 := Fr.of s
      refine tg.sem y _ env' own' σ' H' v' k' (DV.mono (d := dv y) fr hd2) fun own2 σ2 k2 f2 _ _ => ?_
      have tot : Fr F.hs own own2 H H' := (base.trans fr).trans f2
      refine tSs_mono (D := ends F own2 H' (turn P (I (i + 1)))) ?n (fun _ _ z => z) (fun _ _ z => At.more tot z) ?c (h1 i y env' hx hI own2 σ2 H' k2 (p.step tot))
      all_goals
        rintro σ3 H3 ⟨env3, own3, k3, f3, q3⟩
        exact ⟨own3, fr.trans (f2.trans f3), env3, k3, q3⟩
  · rintro σ' H' ⟨own', fr, env', k', hI⟩
    rw [hlen] at hI
    exact ⟨env', own', k', (Fr.of s).trans fr, h2 env' hI⟩
structure Tl (α : Type) where
  xs : List α
instance {α : Type} [Rp α] : Rp (Tl α) := tpRp fun t => dvs t.xs
theorem s_forT {α : Type} [Rp α] {f : α → List Ent → List Ent} {g : TG} {is : List Nat} (tg : Tg F a α g is f) (h : KE F env it P.ex fun t : Tl α => ∃ I : Nat → List Ent → Prop, I 0 env ∧ (∀ i y env', t.xs[i]? = some y → I i env' → KSs F (f y env') body (turn P (I (i + 1)))) ∧ ∀ env', I t.xs.length env' → P.nx env')
    (hc : F.X.calm = true := by rfl) (hs : ∀ x, foldedSetIterable it F.X.env x = pure x := by intro _; rfl) : KS F env (.For a it body [] pos) P := KS.mk fun own σ H k p => by
  refine tS_of (ps_for p.1 hc (pi_tup peE) tg.pg peSs hs) (tE_mono (fun v H1 ⟨⟨xs⟩, s, ⟨l, vs, e1, e2, e3⟩, I, h0, h1, h2⟩ => ?_) (h own σ H k p))
  have e3 : RepAll F.G (Hid (hd F.hs own) H1) vs (dvs xs) := e3
  have h1 : ∀ i y env', xs[i]? = some y → I i env' → KSs F (f y env') body (turn P (I (i + 1))) := h1
  have h2 : ∀ env', I xs.length env' → P.nx env' := h2
  have hlen : vs.length = xs.length := by rw [e3.len, dvs_len]
  refine ⟨l, e1, ⟨vs, SqT.of (hid_of e2)⟩, for_tup (K := F.X.K) (a := l) (xs := vs) (fun i σ' H' => ∃ own', Fr F.hs own own' H1 H' ∧ ∃ env', F.Kn own' env' σ' H' ∧ I i env') ⟨own, Fr.refl, env, k.mono s, h0⟩ ?_ ?_ ?_⟩
  · rintro i σ' H' _ ⟨own', fr, _, _, _⟩
    exact SqT.of (hid_of (fr _ _ e2))
  · rintro i v' σ' H' hv ⟨own', fr, env', k', hI⟩
    obtain ⟨d, hd1, hd2⟩ := e3.get' hv
    rw [dvs_get] at hd1
    cases hx : xs[i]? with
    | none => rw [hx] at hd1; cases hd1
    | some y =>
      rw [hx] at hd1
      have ed : dv y = d := Option.some.inj hd1
      subst ed
      have base : Fr F.hs own own H H1 := Fr.of s
      refine tg.sem y _ env' own' σ' H' v' k' (DV.mono (d := dv y) fr hd2) fun own2 σ2 k2 f2 _ _ => ?_
      have tot : Fr F.hs own own2 H H' := (base.trans fr).trans f2
      refine tSs_mono (D := ends F own2 H' (turn P (I (i + 1)))) ?n (fun _ _ z => z) (fun _ _ z => At.more tot z) ?c (h1 i y env' hx hI own2 σ2 H' k2 (p.step tot))
      all_goals
        rintro σ3 H3 ⟨env3, own3, k3, f3, q3⟩
        exact ⟨own3, fr.trans (f2.trans f3), env3, k3, q3⟩
  · rintro σ' H' ⟨own', fr, env', k', hI⟩
    rw [hlen] at hI
    exact ⟨env', own', k', (Fr.of s).trans fr, h2 env' hI⟩
theorem rng_core {is : List Nat} {f : Int → List Ent → List Ent} {g : TG} {own : Nat → Option Addr} {σ : L2.St} {H H1 : Hp} {lo : Int} {m : Nat} (hg : ∀ (x : Int) (Q : L2.St → Hp → Prop) (env : List Ent) (own : Nat → Option Addr) (σ : L2.St) (H : Hp) (v : V), F.Kn own env σ H → Rp.rep F.G (Hid (hd F.hs own) H) v x → (∀ own' σ', F.Kn own' (f x env) σ' H → Fr F.hs own own' H H → Wp is σ σ' → Kp is own own' → Q σ' H) → g v σ H Q)
    (s : Same H H1) (k : F.Kn own env σ H) (p : Port F own H P.ex) {I : Nat → List Ent → Prop} (h0 : I 0 env) (h1 : ∀ (i : Nat) env', i < m → I i env' → KSs F (f (lo + i) env') body (turn P (I (i + 1)))) (h2 : ∀ env', I m env' → P.nx env') :
    ∃ W : Nat → Nat → L2.St → Hp → Prop, (∃ m, W 0 m σ H1) ∧ ∀ i m' σ' H', W i m' σ' H' →
      ((Itr lo m).stop i H' ∧ (ends F own H P).nx σ' H') ∨ ((Itr lo m).go i H' ∧ ∃ N : L2.St → Hp → Prop, (∀ σ2 H2, N σ2 H2 → ∃ m2, m2 < m' ∧ W (i + 1) m2 σ2 H2) ∧ ∀ x H2, (Itr lo m).yld i H' x H2 → g x σ' H2 fun σ2 H3 => tSs F.X body { ends F own H P with nx := N, ct := N, bk := (ends F own H P).nx } σ2 H3) := by
  refine for_range (lo := lo) (n := m) (fun i σ' H' => ∃ own', Fr F.hs own own' H1 H' ∧ ∃ env', F.Kn own' env' σ' H' ∧ I i env') ⟨own, Fr.refl, env, k.mono s, h0⟩ ?_ ?_
  · rintro i σ' H' hi ⟨own', fr, env', k', hI⟩
    have base : Fr F.hs own own H H1 := Fr.of s
    refine hg (lo + i) _ env' own' σ' H' _ k' rfl fun own2 σ2 k2 f2 _ _ => ?_
    have tot : Fr F.hs own own2 H H' := (base.trans fr).trans f2
    refine tSs_mono (D := ends F own2 H' (turn P (I (i + 1)))) ?n (fun _ _ z => z) (fun _ _ z => At.more tot z) ?c (h1 i env' hi hI own2 σ2 H' k2 (p.step tot))
    all_goals
      rintro σ3 H3 ⟨env3, own3, k3, f3, q3⟩
      exact ⟨own3, fr.trans (f2.trans f3), env3, k3, q3⟩
  · rintro σ' H' ⟨own', fr, env', k', hI⟩
    exact ⟨env', own', k', (Fr.of s).trans fr, h2 env' hI⟩
theorem s_forR1 {f : Int → List Ent → List Ent} {g : TG} {is : List Nat} (tg : Tg F a Int g is f) (m : NoGl F.X.mg) (h : KE F env e P.ex fun hi : Int => hi < 2 ^ 40 ∧ -(2 ^ 40) < hi ∧ ∃ I : Nat → List Ent → Prop, I 0 env ∧ (∀ (i : Nat) env', (i : Int) < hi → I i env' → KSs F (f i env') body (turn P (I (i + 1)))) ∧ ∀ env', I hi.toNat env' → P.nx env')
    (hc : F.X.calm = true := by rfl) (hg : Gl F.X "range" := by rfl) (z : Ns F e [] := by rfl) (z1 : starEach [e] F.X.env = [(false, eval e F.X.env)] := by rfl) (hs : ∀ x, foldedSetIterable (.Call (.Name "range" p0) [e] [] p1) F.X.env x = pure x := by intro _; rfl) :
    KS F env (.For a (.Call (.Name "range" p0) [e] [] p1) body [] pos) P := KS.mk fun own σ H k p => by
  refine tS_of (ps_for p.1 hc (pi_range1 hg (m _ (by simp)) (pa_cons peE pa_nil z) z1) tg.pg peSs hs) (tE_mono (fun v H1 ⟨hi, s, r, b1, b2, I, h0, h1, h2⟩ => ?_) (h own σ H k p))
  cases r
  refine ⟨hi, rfl, by omega, by omega, rng_core tg.sem s k p h0 (fun i env' hi' q => ?_) h2⟩
  have e0 : (0 : Int) + (i : Int) = (i : Int) := Int.zero_add _
  rw [e0]
  exact h1 i env' (by omega) q
theorem s_forR2 {f : Int → List Ent → List Ent} {g : TG} {is : List Nat} (tg : Tg F a Int g is f) (m : NoGl F.X.mg) (h : KE F env b P.ex fun lo : Int => KE F env e P.ex fun hi : Int => (hi < 2 ^ 40 ∧ -(2 ^ 40) < hi ∧ lo < 2 ^ 40 ∧ -(2 ^ 40) < lo) ∧ ∃ I : Nat → List Ent → Prop, I 0 env ∧ (∀ (i : Nat) env', lo + (i : Int) < hi → I i env' → KSs F (f (lo + i) env') body (turn P (I (i + 1)))) ∧ ∀ env', I (hi - lo).toNat env' → P.nx env')
    (hc : F.X.calm = true := by rfl) (hg : Gl F.X "range" := by rfl) (z : Ns F b [e] := by rfl) (z' : Ns F e [] := by rfl) (z1 : starEach [b, e] F.X.env = [(false, eval b F.X.env), (false, eval e F.X.env)] := by rfl) (z2 : starEach [e] F.X.env = [(false, eval e F.X.env)] := by rfl)
    (hs : ∀ x, foldedSetIterable (.Call (.Name "range" p0) [b, e] [] p1) F.X.env x = pure x := by intro _; rfl) :
    KS F env (.For a (.Call (.Name "range" p0) [b, e] [] p1) body [] pos) P := KS.mk fun own σ H k p => by
  refine tS_of (ps_for p.1 hc (pi_range2 hg (m _ (by simp)) (pa_cons peE (pa_cons peE pa_nil z') z) z1 z2) tg.pg peSs hs) (two k p h fun u v lo hi H1 s r1 r2 ⟨⟨b1, b2, b3, b4⟩, I, h0, h1, h2⟩ => ?_)
  cases r1; cases r2
  exact ⟨lo, hi, rfl, ⟨by omega, by omega, by omega, by omega⟩, rng_core tg.sem s k p h0 (fun i env' hi' q => h1 i env' (by omega) q) h2⟩
def fx (P : Program) (w : World) (K : PySem.W.Frag) (mg : Str → Option Value) (base : Heap) (cls : Nat → Addr) (N : List Str) (qual : Str) (sc : Scope) (f : Addr) (cd : Value) (A : Around) (outer : List Env) (s : Shared) (H : Hp) (E : XK) (hs : Addr → Prop) : Fx :=
  ⟨cxOf (L2.CX P w) P w K mg base N qual sc f cd A outer s H E, cls, hs, H⟩
def env0 (ds : List DV) (n : Nat) : List Ent := ds.map .sh ++ List.replicate (n - ds.length) .no
theorem kn_start {G : Gm} {hs : Addr → Prop} {H : Hp} {vs : List V} {ds : List DV} {N : List Str} (hh : ∀ x, hs x → H x ≠ none) (r : RepAll G (Hid hs H) vs ds) : Kn G hs H (fun _ => none) (env0 ds N.length) (L2.start N vs) H where
  ex := Same.refl _
  hsB := hh
  dis := fun _ _ h => nomatch h
  len := by
    unfold L2.start env0
    rw [List.length_append, List.length_append, List.length_map, List.length_map, List.length_replicate, List.length_replicate, r.len]
  inj := fun _ _ _ h => nomatch h
  new := fun _ _ h => nomatch h
  out := fun _ _ h => nomatch h
  ent := fun i e h => by
    have eh : hd hs (fun _ => (none : Option Addr)) = hs := by
      funext a
      apply propext
      constructor
      · rintro (z | ⟨_, z⟩)
        · exact z
        · cases z
      · exact .inl
    unfold env0 at h
    by_cases hi : i < ds.length
    · rw [List.getElem?_append_left (by rw [List.length_map]; exact hi), List.getElem?_map, List.getElem?_eq_getElem hi] at h
      have e1 : Ent.sh ds[i] = e := Option.some.inj h
      subst e1
      obtain ⟨v, h1, h2⟩ := r.get (List.getElem?_eq_getElem hi)
      refine ⟨v, ?_, by rw [eh]; exact h2⟩
      unfold L2.start
      have hv : i < vs.length := (List.getElem?_eq_some_iff.mp h1).1
      rw [List.getElem?_append_left (by rw [List.length_map]; exact hv), List.getElem?_map, h1]
      rfl
    · rw [List.getElem?_append_right (by rw [List.length_map]; omega), List.getElem?_replicate] at h
      split at h
      · cases h; trivial
      · cases h
def bodyPo (r : Rz) : Po := { nx := fun _ => r = .ok (dv ()), rt := fun d => r = .ok d, ex := fun _ C => r = .err C }
section
variable {PP : Program} {w : World} {K : PySem.W.Frag} {mg : Str → Option Value} {base : Heap} {cls : Nat → Addr}
theorem fn_ok {name qual : Str} {st : Stmt} {f : Addr} {fd : FuncData} {N ps : List Str} {k : Nat} {S : Pm} (Fn : Fun K name qual st f fd) (sc : FnScope N ps (defScope st)) (len : ∀ ds r, S ds r → ds.length = ps.length)
    (hb : ∀ (cd : Value) (A : Around) (outer : List Env) (s : Shared) (H : Hp) (E : XK) (hs : Addr → Prop) (ds : List DV) (r : Rz), Room k (A.deeper (envOfC qual (defScope st) s.heap.objs.size f cd)) → S ds r →
      KSs (fx PP w K mg base cls N qual (defScope st) f cd A outer s H E hs) (env0 ds N.length) (defBody st) (bodyPo r)) : FnOk PP w K mg base (L2.CX PP w) (k + 1) f fd ps (spOf K cls S) := by
  refine Fn.okX sc (fun vs H Q E ⟨hs, ds, r, _, rv, hS, _⟩ => by rw [rv.len]; exact len ds r hS) (fun cd A outer s H vs Q E hr ⟨hs, ds, r, hh, rv, hS, q⟩ => ⟨_, peSs, ?_⟩)
  have kn := kn_start (N := N) hh rv
  have pt : Port (fx PP w K mg base cls N qual (defScope st) f cd A outer s H E hs) (fun _ => none) H (bodyPo r).ex := by
    refine ⟨passes_of rfl, _, takes_of (E := E) rfl rfl rfl rfl, fun env own' C dd σ H' k' fr e xd => ?_⟩
    have e : r = .err C := e
    subst e
    exact q dd H' k'.ex (xd.mono (hid_more fun _ z => .inl z))
  refine tSs_mono (D := ends (fx PP w K mg base cls N qual (defScope st) f cd A outer s H E hs) (fun _ => none) H (bodyPo r)) ?_ ?_ ?_ ?_ (hb cd A outer s H E hs ds r hr hS _ _ H kn pt)
  · rintro σ' H' ⟨env', own', k', fr, e⟩
    have e : r = .ok (dv ()) := e
    subst e
    exact q .non H' k'.ex rfl
  · rintro v H' ⟨d, sm, rd, e, _⟩
    have e : r = .ok d := e
    subst e
    exact q v H' sm rd
  · rintro σ' H' ⟨env', own', k', fr, e⟩
    exact e.elim
  · rintro σ' H' ⟨env', own', k', fr, e⟩
    exact e.elim
end
end
end Rk
set_option maxHeartbeats 4000000
namespace Rk
open PySem L2 PyProof.Rows
def putD (f : Str) (d : DV) : List (Str × DV) → List (Str × DV)
  | [] => [(f, d)]
  | (n, x) :: r => if n = f then (n, d) :: r else (n, x) :: putD f d r
theorem putD_le (f : Str) (d : DV) : ∀ fs : List (Str × DV), (putD f d fs).length ≤ fs.length + 1
  | [] => Nat.le_refl _
  | (n, x) :: r => by
    unfold putD
    split
    · exact Nat.le_succ _
    · exact Nat.succ_le_succ (putD_le f d r)
theorem RepF.put {G : Gm} {H : Hp} {f : Str} {v : V} {d : DV} (r : d.rep G H v) : ∀ {kvs : List (Str × V)} {fs : List (Str × DV)}, RepF G H kvs fs → RepF G H (putF f v kvs) (putD f d fs)
  | [], [], _ => ⟨rfl, r, trivial⟩
  | (m, w) :: kvs, (n, x) :: fs, h => by
    obtain ⟨rfl, h1, h2⟩ := h
    show RepF G H (if m = f then (m, v) :: kvs else (m, w) :: putF f v kvs) (if m = f then (m, d) :: fs else (m, x) :: putD f d fs)
    by_cases e : m = f
    · rw [if_pos e, if_pos e]; exact ⟨rfl, r, h2⟩
    · rw [if_neg e, if_neg e]; exact ⟨rfl, h1, RepF.put r h2⟩
theorem RepF.len {G : Gm} {H : Hp} : ∀ {kvs : List (Str × V)} {fs : List (Str × DV)}, RepF G H kvs fs → kvs.length = fs.length
  | [], [], _ => rfl
  | (_, _) :: _, (_, _) :: _, h => congrArg (· + 1) (RepF.len h.2.2)
section
variable {F : Fx} {env : List Ent} {a b c e it : Expr} {es : List Expr} {pos p0 p1 : Pos} {n x : Str} {P : Po} {st : Stmt} {sts ss body : List Stmt}
theorem s_setF {α : Type} [Rp α] {q : Addr} {num : Nat} {f : Str} {p2 p3 : Pos} {fs : List (Str × DV)} (i : Nat) (hN : F.X.N[i]? = some x) (he : env[i]? = some (.ow (oobj q num fs))) (hl : fs.length < 1000) (cl : Cls F.X.K (F.cls num)) (hn : NoAttr F.X.K (F.cls num) f)
    (h : KE F env e P.ex fun y : α => ∀ g, g = putD f (dv y) fs → P.nx (env.set i (.ow (oobj q num g)))) (hv : Vis F.X.env.scope x := by first | exact Or.inl rfl | exact Or.inr (Or.inl rfl) | exact Or.inr (Or.inr rfl)) (hdb : (x == ("__debug__" : Str)) = false := by decide) (hcd : (x == ("__classdict__" : Str)) = false := by decide)
    (hs : swapsWith e (some (.Attribute (.Name x p2) f p3)) pos.line F.X.env = pure false := by rfl) : KS F env (.Assign [.Attribute (.Name x p2) f p3] e pos) P := KS.mk fun own σ H k p => by
  have hi : i < env.length := (List.getElem?_eq_some_iff.mp he).1
  obtain ⟨l, ho, h0, h1, h2, h3⟩ := (show EntOk F.G F.hs own σ H i (.ow (oobj q num fs)) from k.ent i _ he)
  obtain ⟨rfl, dx, kvs, e3, r3⟩ := h3
  subst e3
  refine tS_of (ps_fld (pe_var hN hv hdb hcd) peE hs) (tE_mono (fun v H' ⟨y, s, r, z⟩ => ?_) (h own σ H k p))
  refine ⟨.ref l, h1, l, F.cls num, dx, kvs, rfl, s _ _ h2, cl, hn, by rw [r3.len]; exact hl, ?_⟩
  exact ⟨_, _, (k.mono s).chg (i := i) (o := oobj l num (putD f (dv y) fs)) hi h0 ⟨rfl, dx, _, rfl, RepF.put (d := dv y) r (r3.mono (hid_same s))⟩, (Fr.of s).trans (Fr.chg h0), z _ rfl⟩
inductive Ri : Type 1 where
  | ok (fs : List (Str × DV))
  | err (c : Nat)
def spInit (K : PySem.W.Frag) (cls : Nat → Addr) (num : Nat) (S : List DV → Ri → Prop) : Sp := fun vs H Q E => ∃ (hs : Addr → Prop) (p dx : Addr) (ws : List V) (ds : List DV) (r : Ri), vs = .ref p :: ws ∧ H p = some (.ins (cls num) dx []) ∧ (∀ x, hs x → H x ≠ none) ∧ ¬ hs p ∧
  RepAll ⟨K, cls⟩ (Hid (fun x => hs x ∨ x = p) H) ws ds ∧ S ds r ∧
  match r with
  | .ok fs => ∀ kvs dx' H', Same (Hid (fun x => x = p) H) H' → H' p = some (.ins (cls num) dx' kvs) → RepF ⟨K, cls⟩ (Hid (fun x => hs x ∨ x = p) H') kvs fs → Q .non H'
  | .err c => ∀ dd H', Same (Hid (fun x => x = p) H) H' → Xd c dd (Hid hs H') → E (.ref (cls c)) dd H'
section
variable {kk : Nat} {f : Addr} {fd : FuncData} {ps : List Str} {S : List DV → Ri → Prop}
theorem run_makeS {X : Cx} {C : Addr} {sp : Sp} {CT : CXT} {E : L2.St → XK} {pins : List (Addr × Obj)} {σ : L2.St} {H : Hp} {s : Shared} {Q : VK} {us : List Value} {vs : List V} (M : Mk X.K C f) (G : FnOk X.prog X.w X.K X.mg X.base CT kk f fd ps sp) (hr : Room (kk + 1) X.A) (hb : Binds X.K fd ps [])
    (hx : PassesAt CT X σ (E σ)) (I : Inv X pins σ H s) (r : Vals vs us)
    (h : ∀ y dy, H y = none → H dy = none → dy ≠ y → sp (.ref y :: vs) (upd (upd H dy (.own y)) y (.ins C dy [])) (fun v H2 => v = .non ∧ Q (.ref y) H2) (E σ)) :
    wpAny (model X.prog X.w) X.A (call (.ref C) us) (EP X pins σ Q) X.xe s := by
  have hq := h (s.heap.objs.size + 1) s.heap.objs.size (I.hok.fresh (Nat.le_succ _)) (I.hok.fresh (Nat.le_refl _)) (Nat.ne_of_lt (Nat.lt_succ_self _))
  have J := Inv.made (C := C) I
  have rr : Vals (V.ref (s.heap.objs.size + 1) :: vs) (Value.ref (s.heap.objs.size + 1) :: us) := .cons rfl r
  have hlen : (Value.ref (s.heap.objs.size + 1) :: us).length = ps.length := by
    have e1 := rr.length
    rw [G.len _ _ _ _ hq] at e1
    exact e1.symm
  have bb := hb _ (Value.ref (s.heap.objs.size + 1) :: us) J.kIn (by rw [List.append_nil]; exact hlen)
  rw [List.append_nil] at bb
  refine wpAny_call (make_map (f := f) I.kIn M.makes M.init (beq_iff_eq.mp M.fn) (codeAny_mono (G.run _ X.stack _ _ ⟨Value.ref (s.heap.objs.size + 1) :: us, []⟩ (Value.ref (s.heap.objs.size + 1) :: us) _ _ (E σ) (hr.make C us [])
    (J.env0.make C us []) bb rr hq) fun res s' hres => ?_))
  cases res with
  | error er => exact hx pins _ _ er s' J hres
  | ok fl =>
    cases fl with
    | ret u =>
      obtain ⟨v, H', J3, rv, ev, q3⟩ := J.after hres
      subst ev
      exact ⟨rv, ⟨V.ref (s.heap.objs.size + 1), H', J3, rfl, q3⟩⟩
    | next => exact hres.elim
    | brk => exact hres.elim
    | cont => exact hres.elim
def GotI {α : Type} (fs : α → List (Str × DV)) (env : List Ent) (ex : XP) (Q : α → Prop) : Ri → Prop
  | .ok g => ∃ y : α, g = fs y ∧ Q y
  | .err c => ex env c
theorem k_make {α : Type} {num : Nat} {fs : α → List (Str × DV)} {ex : XP} {Q : α → Prop} (M : Mk F.X.K (F.cls num) f) (G : FnOk F.X.prog F.X.w F.X.K F.X.mg F.X.base (L2.CX F.X.prog F.X.w) kk f fd ps (spInit F.X.K F.cls num S)) (hr : Room (kk + 1) F.X.A) (hm : F.X.mg n = some (.ref (F.cls num))) (hb : Binds F.X.K fd ps [])
    (h : KA F env (e :: es) ex fun ds => ∃ r, S ds r ∧ GotI fs env ex Q r) (hg : Gl F.X n := by rfl) (hdb : (n == ("__debug__" : Str)) = false := by decide)
    (hz : starEach (e :: es) F.X.env = (false, eval e F.X.env) :: starEach es F.X.env := by rfl) (hpl : (backTo pos (starEach es F.X.env)).any (·.1) = false := by rfl) : @KE F env (.Call (.Name n p0) (e :: es) [] pos) ex α (obRp num fs) Q := fun own σ H k p pins s I => by
  obtain ⟨pa, W, tk, hw⟩ := id p
  refine wpAny_Call_Name_kw (ld_glob I hg hm ?_ hdb)
  refine PySem.W.callWith_K (h₀ := F.X.base) I.ok.mod.kin M.kp (thn (h own σ H k p pos pins s I) fun vals s1 ⟨vs, H1, J, rv, ds, sm, rr, r, hS, q⟩ => ⟨J.kIn, ?_⟩) hz hpl
  refine run_makeS (E := WE W) M G hr hb (passAt tk σ) J rv fun y dy ny ndy ne => ?_
  have kn := k.mono sm
  have fy : ¬ hd F.hs own y := kn.fresh (Same.refl _) ny
  have s1' : Same H1 (upd (upd H1 dy (.own y)) y (.ins (F.cls num) dy [])) := fun b o eb => by
    rw [upd_ne (ne_of_none eb ny), upd_ne (ne_of_none eb ndy)]; exact eb
  have hidy : Same H1 (Hid (fun x => x = y) (upd (upd H1 dy (.own y)) y (.ins (F.cls num) dy []))) := fun b o eb => by
    have hb' : b ≠ y := ne_of_none eb ny
    rw [hid_at (hs := fun x => x = y) hb']; exact s1' b o eb
  refine ⟨hd F.hs own, y, dy, vs, ds, r, rfl, upd_same, fun x hx => stays s1' (Kn.hidden kn x hx), fy, rr.mono fun b o eb => ?_, hS, ?_⟩
  · have h1 := hid_of eb
    have hb' : b ≠ y := ne_of_none h1 ny
    have nh : ¬ hd F.hs own b := fun z => by unfold Hid at eb; rw [if_pos z] at eb; cases eb
    rw [hid_at fun z => z.elim nh hb']
    exact s1' b o h1
  · cases r with
    | ok g =>
      obtain ⟨o, eo, q⟩ := q
      subst eo
      intro kvs dx' H' s' hy rf
      refine ⟨rfl, o, sm.trans (hidy.trans s'), ⟨y, dx', kvs, rfl, ?_, rf.mono (hid_more fun x z => .inl z)⟩, q⟩
      rw [hid_at fy]; exact hy
    | err cc => exact fun dd H' s' x => hw env own cc dd σ H' (kn.mono (hidy.trans s')) (Fr.of (sm.trans (hidy.trans s'))) q x
end
section
variable {PP : Program} {w : World} {K : PySem.W.Frag} {mg : Str → Option Value} {base : Heap} {cls : Nat → Addr}
def envI (p : Addr) (num : Nat) (ds : List DV) (n : Nat) : List Ent := .ow (oobj p num []) :: env0 ds n
def initPo (p : Addr) (num : Nat) (r : Ri) : Po := { nx := fun env => ∃ fs, env[0]? = some (.ow (oobj p num fs)) ∧ r = .ok fs, rt := fun _ => False, ex := fun _ C => r = .err C }
theorem init_ok {qual : Str} {st : Stmt} {f : Addr} {fd : FuncData} {s0 : Str} {N ps : List Str} {k num : Nat} {S : List DV → Ri → Prop} (Fn : Fun K "__init__" qual st f fd) (sc : FnScope (s0 :: N) (s0 :: ps) (defScope st)) (len : ∀ ds r, S ds r → ds.length = ps.length)
    (hb : ∀ (cd : Value) (A : Around) (outer : List Env) (s : Shared) (H B : Hp) (E : XK) (hs : Addr → Prop) (p : Addr) (ds : List DV) (r : Ri), Room k (A.deeper (envOfC qual (defScope st) s.heap.objs.size f cd)) → S ds r →
      KSs ⟨cxOf (L2.CX PP w) PP w K mg base (s0 :: N) qual (defScope st) f cd A outer s H E, cls, hs, B⟩ (envI p num ds N.length) (defBody st) (initPo p num r)) : FnOk PP w K mg base (L2.CX PP w) (k + 1) f fd (s0 :: ps) (spInit K cls num S) := by
  refine Fn.okX sc (fun vs H Q E ⟨hs, p, dx, ws, ds, r, ev, _, _, _, rv, hS, _⟩ => by rw [ev, List.length_cons, rv.len, len ds r hS, List.length_cons]) (fun cd A outer s H vs Q E hr ⟨hs, p, dx, ws, ds, r, ev, hp, hh, np, rv, hS, q⟩ => ⟨_, peSs, ?_⟩)
  subst ev
  have hB : Same (Hid (fun x => x = p) H) H := hid_le
  have kn : Kn ⟨K, cls⟩ hs (Hid (fun x => x = p) H) (fun i => if i = 0 then some p else none) (envI p num ds N.length) (L2.start (s0 :: N) (.ref p :: ws)) H := by
    have eh : hd hs (fun i => if i = 0 then some p else none) = fun x => hs x ∨ x = p := by
      funext x
      apply propext
      constructor
      · rintro (z | ⟨i, z⟩)
        · exact .inl z
        · dsimp only at z
          split at z
          · cases z; exact .inr rfl
          · cases z
      · rintro (z | z)
        · exact .inl z
        · exact .inr ⟨0, by show some p = some x; rw [z]⟩
    exact {
      ex := hB
      hsB := hh
      dis := fun i x h z => by
        split at h
        · cases h; exact np z
        · cases h
      len := by
        unfold L2.start envI env0
        simp only [List.length_append, List.length_map, List.length_cons, List.length_replicate, rv.len]
        omega
      inj := fun i j x h1 h2 => by
        split at h1
        · split at h2
          · omega
          · cases h2
        · cases h1
      new := fun i x h => by
        split at h
        · cases h
          refine ⟨?_, by rw [hp]; simp⟩
          unfold Hid; rw [if_pos rfl]
        · cases h
      out := fun i x h => by
        split at h
        · rename_i e0; subst e0; exact ⟨oobj p num [], rfl⟩
        · cases h
      ent := fun i e h => by
        cases i with
        | zero =>
          have e1 : Ent.ow (oobj p num []) = e := Option.some.inj h
          subst e1
          exact ⟨p, _, rfl, rfl, hp, rfl, dx, [], rfl, trivial⟩
        | succ i =>
          have h' : (env0 ds N.length)[i]? = some e := h
          unfold env0 at h'
          by_cases hi : i < ds.length
          · rw [List.getElem?_append_left (by rw [List.length_map]; exact hi), List.getElem?_map, List.getElem?_eq_getElem hi] at h'
            have e1 : Ent.sh ds[i] = e := Option.some.inj h'
            subst e1
            obtain ⟨v, h1, h2⟩ := rv.get (List.getElem?_eq_getElem hi)
            refine ⟨v, ?_, by rw [eh]; exact h2⟩
            have hv : i < ws.length := (List.getElem?_eq_some_iff.mp h1).1
            unfold L2.start
            show ((V.ref p :: ws).map some ++ _)[i + 1]? = _
            rw [List.getElem?_append_left (by rw [List.length_map, List.length_cons]; omega), List.getElem?_map, List.getElem?_cons_succ, h1]
            rfl
          · rw [List.getElem?_append_right (by rw [List.length_map]; omega), List.getElem?_replicate] at h'
            split at h'
            · cases h'; trivial
            · cases h' }
  have pt : Port ⟨cxOf (L2.CX PP w) PP w K mg base (s0 :: N) qual (defScope st) f cd A outer s H E, cls, hs, Hid (fun x => x = p) H⟩ (fun i => if i = 0 then some p else none) H (initPo p num r).ex := by
    refine ⟨passes_of rfl, _, takes_of (E := E) rfl rfl rfl rfl, fun env own' C dd σ H' k' fr e xd => ?_⟩
    have e : r = .err C := e
    subst e
    exact q dd H' k'.ex (xd.mono (hid_more fun _ z => .inl z))
  refine tSs_mono (D := ends ⟨cxOf (L2.CX PP w) PP w K mg base (s0 :: N) qual (defScope st) f cd A outer s H E, cls, hs, Hid (fun x => x = p) H⟩ (fun i => if i = 0 then some p else none) H (initPo p num r)) ?_ ?_ ?_ ?_ (hb cd A outer s H (Hid (fun x => x = p) H) E hs p ds r hr hS _ _ H kn pt)
  · rintro σ' H' ⟨env', own', k', fr, fs, he, e⟩
    subst e
    obtain ⟨p', ho, h0, h1, h2, rfl, dx', kvs, e3, r3⟩ := (show EntOk _ hs own' σ' H' 0 (.ow (oobj p num fs)) from k'.ent 0 _ he)
    subst e3
    refine q kvs dx' H' k'.ex h2 (r3.mono (hid_more fun x z => ?_))
    rcases z with z | z
    · exact .inl z
    · exact .inr ⟨0, by rw [z]; exact h0⟩
  · rintro v H' ⟨d, sm, rd, e, _⟩
    exact e.elim
  · rintro σ' H' ⟨env', own', k', fr, e⟩
    exact e.elim
  · rintro σ' H' ⟨env', own', k', fr, e⟩
    exact e.elim
end
end
end Rk
set_option maxHeartbeats 4000000
namespace Rk
open PySem L2 PyProof.Rows
section
variable {F : Fx} {env : List Ent} {ex : XP} {a b c e it : Expr} {es : List Expr} {pos p0 p1 : Pos} {n x : Str} {P : Po} {st : Stmt} {sts ss body : List Stmt}
def Cv {α β : Type} [Rp α] [Rp β] (x : α) (y : β) : Prop := ∀ G H v, Rp.rep G H v x → Rp.rep G H v y
theorem k_cv {α β : Type} [Rp α] [Rp β] {Q : β → Prop} (h : KE F env e ex fun x : α => ∃ y : β, Cv x y ∧ Q y) : KE F env e ex Q := fun own σ H k p =>
  tE_mono (fun v H' ⟨x, s, r, y, c, q⟩ => ⟨y, s, c _ _ _ r, q⟩) (h own σ H k p)
theorem k_toV {α : Type} [Sc α] {Q : V → Prop} (h : @KE F env e ex α (scRp α) fun x => Q (Sc.v x)) : KE F env e ex Q := fun own σ H k p =>
  tE_mono (fun v H' ⟨x, s, r, q⟩ => ⟨Sc.v x, s, r, q⟩) (h own σ H k p)
structure Tv where
  vs : List V
  deriving DecidableEq
instance : Rp Tv := tpRp fun t => dvs t.vs
theorem reps_vs {G : Gm} {H : Hp} : ∀ {ws vs : List V}, RepAll G H ws (dvs vs) → ws = vs
  | [], [], _ => rfl
  | w :: ws, v :: vs, h => by
    have e : w = v := h.1
    rw [e, reps_vs (ws := ws) (vs := vs) h.2]
theorem reps_to {α β : Type} [Rp α] [Rp β] {f : α → β} (hf : ∀ x, Cv x (f x)) {G : Gm} {H : Hp} : ∀ {vs : List V} {xs : List α}, RepAll G H vs (dvs xs) → RepAll G H vs (dvs (xs.map f))
  | [], [], _ => trivial
  | _ :: _, x :: _, h => ⟨hf x _ _ _ h.1, reps_to hf h.2⟩
theorem reps_from {α β : Type} [Rp α] [Rp β] {f : β → α} (hf : ∀ y, Cv (f y) y) {G : Gm} {H : Hp} : ∀ {vs : List V} {ys : List β}, RepAll G H vs (dvs (ys.map f)) → RepAll G H vs (dvs ys)
  | [], [], _ => trivial
  | _ :: _, y :: _, h => ⟨hf y _ _ _ h.1, reps_from hf h.2⟩
theorem cv_list {α β : Type} [Rp α] [Rp β] {f : α → β} (hf : ∀ x, Cv x (f x)) (xs : List α) : Cv xs (xs.map f) := fun G H v ⟨p, vs, e1, e2, e3⟩ => ⟨p, vs, e1, e2, reps_to hf e3⟩
theorem cv_list' {α β : Type} [Rp α] [Rp β] {f : β → α} (hf : ∀ y, Cv (f y) y) (ys : List β) : Cv (ys.map f) ys := fun G H v ⟨p, vs, e1, e2, e3⟩ => ⟨p, vs, e1, e2, reps_from hf e3⟩
class Dt (α : Type) [Rp α] where
  d : α → PyData
  dp : Nat
  rp : ∀ {G : Gm} {H : Hp} {v : V} {x : α}, Rp.rep G H v x → Dp G.K H v (d x)
  lay : ∀ x, (d x).canLay0 = true
  deep : ∀ x, (d x).depth ≤ dp
  inj : ∀ x y, PyData.eqv (d x) (d y) = true ↔ x = y
theorem Dt.eq {α : Type} [Rp α] [Dt α] [DecidableEq α] (x y : α) : PyData.eqv (Dt.d x) (Dt.d y) = decide (x = y) := by
  by_cases h : x = y
  · rw [decide_eq_true h, (Dt.inj x y).mpr h]
  · rw [decide_eq_false h]
    cases z : PyData.eqv (Dt.d x) (Dt.d y) with
    | false => rfl
    | true => exact absurd ((Dt.inj x y).mp z) h
instance : Dt Int := ⟨fun x => .int x, 0, fun {G H v x} r => by cases r; exact .int x, fun _ => rfl, fun _ => Nat.le_refl _, fun x y => by show (x == y) = true ↔ _; simp⟩
instance : Dt Bool := ⟨fun x => .bool x, 0, fun {G H v x} r => by cases r; exact .bl x, fun _ => rfl, fun _ => Nat.le_refl _, fun x y => by show (x == y) = true ↔ _; simp⟩
def oiD : Option Int → PyData
  | none => .none
  | some i => .int i
instance : Dt (Option Int) := ⟨oiD, 0, fun {G H v x} r => by
    have e : v = oiV x := r
    subst e
    cases x with
    | none => exact .non
    | some i => exact .int i, fun x => by cases x <;> rfl, fun x => by cases x <;> exact Nat.le_refl _, fun x y => by
    cases x with
    | none => cases y with
      | none => exact ⟨fun _ => rfl, fun _ => rfl⟩
      | some j => exact ⟨fun h => (by cases h), fun h => (by cases h)⟩
    | some i => cases y with
      | none => exact ⟨fun h => (by cases h), fun h => (by cases h)⟩
      | some j => show (i == j) = true ↔ _; simp⟩
def obD : Option Bool → PyData
  | none => .none
  | some i => .bool i
instance : Dt (Option Bool) := ⟨obD, 0, fun {G H v x} r => by
    have e : v = obV x := r
    subst e
    cases x with
    | none => exact .non
    | some i => exact .bl i, fun x => by cases x <;> rfl, fun x => by cases x <;> exact Nat.le_refl _, fun x y => by
    cases x with
    | none => cases y with
      | none => exact ⟨fun _ => rfl, fun _ => rfl⟩
      | some j => exact ⟨fun h => (by cases h), fun h => (by cases h)⟩
    | some i => cases y with
      | none => exact ⟨fun h => (by cases h), fun h => (by cases h)⟩
      | some j => show (i == j) = true ↔ _; simp⟩
theorem dp_list {α : Type} [Rp α] [Dt α] {G : Gm} {H : Hp} : ∀ {vs : List V} {xs : List α}, RepAll G H vs (dvs xs) → DpAll G.K H vs (xs.map Dt.d)
  | [], [], _ => .nil
  | _ :: _, _ :: _, h => .cons (Dt.rp h.1) (dp_list h.2)
theorem eqv_list {α : Type} [Rp α] [Dt α] : ∀ xs ys : List α, PyData.eqvAll (xs.map Dt.d) (ys.map Dt.d) = true ↔ xs = ys
  | [], [] => ⟨fun _ => rfl, fun _ => rfl⟩
  | [], _ :: _ => ⟨fun h => (by cases h), fun h => (by cases h)⟩
  | _ :: _, [] => ⟨fun h => (by cases h), fun h => (by cases h)⟩
  | x :: xs, y :: ys => by
    show (PyData.eqv (Dt.d x) (Dt.d y) && PyData.eqvAll (xs.map Dt.d) (ys.map Dt.d)) = true ↔ _
    rw [Bool.and_eq_true, Dt.inj, eqv_list xs ys, List.cons.injEq]
theorem lay_list {α : Type} [Rp α] [Dt α] : ∀ xs : List α, PyData.canLayAll0 (xs.map Dt.d) = true
  | [] => rfl
  | x :: xs => by
    show ((Dt.d x).canLay0 && PyData.canLayAll0 (xs.map Dt.d)) = true
    rw [Dt.lay x, lay_list xs] <;> rfl
theorem deep_list {α : Type} [Rp α] [Dt α] : ∀ xs : List α, PyData.depthAll (xs.map Dt.d) ≤ Dt.dp α
  | [] => Nat.zero_le _
  | x :: xs => Nat.max_le.mpr ⟨Dt.deep x, deep_list xs⟩
instance {α : Type} [Rp α] [Dt α] : Dt (List α) := ⟨fun xs => .list (xs.map Dt.d), Dt.dp α + 1, fun {G H v xs} ⟨p, vs, e1, e2, e3⟩ => by subst e1; exact .lst (SqL.of e2) (dp_list e3), fun xs => lay_list xs, fun xs => Nat.succ_le_succ (deep_list xs), fun xs ys => eqv_list xs ys⟩
instance {α β : Type} [Rp α] [Dt α] [Rp β] [Dt β] : Dt (α × β) := ⟨fun p => .tuple [Dt.d p.1, Dt.d p.2], max (Dt.dp α) (Dt.dp β) + 1, fun {G H v x} ⟨p, vs, e1, e2, e3⟩ => by
    subst e1
    match vs, e3 with
    | [u, w], e3 => exact .tup (SqT.of e2) (.cons (Dt.rp e3.1) (.cons (Dt.rp e3.2.1) .nil)), fun x => by
    show ((Dt.d x.1).canLay0 && ((Dt.d x.2).canLay0 && true)) = true
    rw [Dt.lay, Dt.lay] <;> rfl, fun x => Nat.succ_le_succ (Nat.max_le.mpr ⟨Nat.le_trans (Dt.deep _) (Nat.le_max_left _ _), Nat.max_le.mpr ⟨Nat.le_trans (Dt.deep _) (Nat.le_max_right _ _), Nat.zero_le _⟩⟩), fun x y => by
    show (PyData.eqv (Dt.d x.1) (Dt.d y.1) && (PyData.eqv (Dt.d x.2) (Dt.d y.2) && true)) = true ↔ _
    rw [Bool.and_true, Bool.and_eq_true, Dt.inj, Dt.inj, Prod.ext_iff]⟩
theorem shaped_dt {α : Type} [Rp α] [Dt α] (h : Dt.dp α ≤ 60) (x : α) : SeqAt.shaped (Dt.d x) = true := by
  unfold SeqAt.shaped
  rw [Dt.lay, decide_eq_true (Nat.le_trans (Dt.deep x) (by omega))]
  rfl
theorem k_eqD {α : Type} [Rp α] [Dt α] [DecidableEq α] {Q : Bool → Prop} (hu : F.X.A.units + 64 < cLine) (h : KE F env a ex fun x : α => KE F env b ex fun y : α => Q (decide (x = y))) (hz : Dt.dp α ≤ 60 := by decide) : KE F env (.Compare a [.Eq] [b] pos) ex Q :=
  k_cmp (op_eqD hu) h (fun _ _ _ _ v u x y s _ r1 r2 q => ⟨_, _, Dt.rp (Rp.mono hid_le r1), Dt.rp (Rp.mono hid_le r2), shaped_dt hz x, shaped_dt hz y, _, s, by rw [Dt.eq]; exact rfl, q⟩) (nomark _)
theorem t_neD {α : Type} [Rp α] [Dt α] [DecidableEq α] {Q : Bool → Prop} (hu : F.X.A.units + 64 < cLine) (h : KE F env a ex fun x : α => KE F env b ex fun y : α => Q (!decide (x = y))) (hz : Dt.dp α ≤ 60 := by decide) : KT F env (.Compare a [.NotEq] [b] pos) ex Q :=
  t_cmp (op_neD hu) h (fun _ _ _ _ v u x y s _ r1 r2 q => ⟨_, _, Dt.rp (Rp.mono hid_le r1), Dt.rp (Rp.mono hid_le r2), shaped_dt hz x, shaped_dt hz y, _, by rw [Dt.eq], s, q⟩) (nomark _)
theorem in_ints (y : Int) : ∀ xs : List Int, inV (V.int y) (xs.map V.int) = decide (y ∈ xs)
  | [] => rfl
  | x :: xs => by
    show (eqV (V.int x) (V.int y) || inV (V.int y) (xs.map V.int)) = _
    rw [in_ints y xs]
    have e : eqV (V.int x) (V.int y) = decide (y = x) := by
      show (x == y) = _
      by_cases h : x = y
      · subst h; simp
      · rw [decide_eq_false (Ne.symm h)]; simpa using h
    rw [e, ← Bool.decide_or]
    congr 1
    rw [List.mem_cons]
theorem flat_ints : ∀ xs : List Int, (xs.map V.int).all flatV = true
  | [] => rfl
  | x :: xs => flat_ints xs
def tyS : V → Option String
  | .non => some "NoneType"
  | .bl _ => some "bool"
  | .int _ => some "int"
  | .str _ => some "str"
  | _ => none
theorem tyS_of {K : PySem.W.Frag} {H : Hp} {v : V} {t : String} (h : tyS v = some t) : TyX K H v (.type t) := by
  cases v <;> (try cases h)
  · exact .base .non
  · exact .base (.bl _)
  · exact .base (.int _)
  · exact .base (.str _)
theorem k_isV {Q : Bool → Prop} {T : String} {t : Str} (m : NoGl F.X.mg) (ht : F.X.mg t = none) (hv : bootBuiltins t = some (.type T)) (h : KE F env a ex fun y : V => ∃ k r, tyS y = some k ∧ kitB k T = some r ∧ Q r) (hg : Gl F.X "isinstance" := by rfl) (hgt : Gl F.X t := by rfl)
    (z : Ns F a [.Name t p1] := by rfl) (z2 : Ns F (.Name t p1) [] := by rfl) (hpl : (backTo pos (starEach [.Name t p1] F.X.env)).any (·.1) = false := by rfl) (htn : t ≠ "__name__" := by decide) (htd : (t == ("__debug__" : Str)) = false := by decide) :
    KE F env (.Call (.Name "isinstance" p0) [a, .Name t p1] [] pos) ex Q := fun own σ H k p =>
  tE_of (pe_callB call_isi hg (m _ (by simp)) (by decide +kernel) (pa_cons peE (pa_cons (pe_bltn (v := .ty T) hgt ht hv rfl htn htd) pa_nil z2) z) (he := z) (hpl := hpl)) (tE_mono (fun v H' ⟨y, s, r, kt, rr, e1, e2, q⟩ => by
    have r : v = y := r
    subst r
    exact ⟨v, .ty T, _, _, rr, rfl, .ty T, tyS_of e1, kit_ty e2, rr, s, rfl, q⟩) (h own σ H k p))
theorem k_isTup {α : Type} {ds : α → List DV} {Q : Bool → Prop} (m : NoGl F.X.mg) (h : @KE F env a ex α (tpRp ds) fun _ => Q true) (hg : Gl F.X "isinstance" := by rfl) (hgt : Gl F.X "tuple" := by rfl)
    (z : Ns F a [.Name "tuple" p1] := by rfl) (z2 : Ns F (.Name "tuple" p1) [] := by rfl) (hpl : (backTo pos (starEach [.Name "tuple" p1] F.X.env)).any (·.1) = false := by rfl) :
    KE F env (.Call (.Name "isinstance" p0) [a, .Name "tuple" p1] [] pos) ex Q := fun own σ H k p =>
  tE_of (pe_callB call_isi hg (m _ (by simp)) (by decide +kernel) (pa_cons peE (pa_cons (pe_bltn (v := .ty "tuple") hgt (m _ (by simp)) (by decide +kernel) rfl) pa_nil z2) z) (he := z) (hpl := hpl)) (tE_mono (fun v H' ⟨y, s, ⟨l, vs, e1, e2, e3⟩, q⟩ => by
    subst e1
    exact ⟨.ref l, .ty "tuple", _, _, true, rfl, .ty _, .base (.tup (hid_of e2)), kit_ty (by decide +kernel), true, s, rfl, q⟩) (h own σ H k p))
theorem k_isLst {α : Type} [Rp α] {Q : Bool → Prop} (m : NoGl F.X.mg) (h : KE F env a ex fun _ : List α => Q true) (hg : Gl F.X "isinstance" := by rfl) (hgt : Gl F.X "list" := by rfl)
    (z : Ns F a [.Name "list" p1] := by rfl) (z2 : Ns F (.Name "list" p1) [] := by rfl) (hpl : (backTo pos (starEach [.Name "list" p1] F.X.env)).any (·.1) = false := by rfl) :
    KE F env (.Call (.Name "isinstance" p0) [a, .Name "list" p1] [] pos) ex Q := fun own σ H k p =>
  tE_of (pe_callB call_isi hg (m _ (by simp)) (by decide +kernel) (pa_cons peE (pa_cons (pe_bltn (v := .ty "list") hgt (m _ (by simp)) (by decide +kernel) rfl) pa_nil z2) z) (he := z) (hpl := hpl)) (tE_mono (fun v H' ⟨y, s, ⟨l, vs, e1, e2, e3⟩, q⟩ => by
    subst e1
    exact ⟨.ref l, .ty "list", _, _, true, rfl, .ty _, .base (.lst (hid_of e2)), kit_ty (by decide +kernel), true, s, rfl, q⟩) (h own σ H k p))
theorem k_sorted {Q : List Int → Prop} (m : NoGl F.X.mg) (h : KE F env e ex fun xs : List Int => ∀ ys : List Int, ys.Perm xs → ys.Pairwise (· ≤ ·) → Q ys) (z : Ns F e [] := by rfl) (hg : Gl F.X "sorted" := by rfl) : KE F env (.Call (.Name "sorted" p0) [e] [] pos) ex Q :=
  cb cr_sortedI (m _ (by simp)) (by decide +kernel) (a_one h z) (fun own σ H0 H vs ds s k r ⟨xs, ed, q⟩ => by
    subst ed
    obtain ⟨v, rfl, l, ws, e1, e2, e3⟩ := rep1 r
    have e4 := reps_ints e3
    refine ⟨l, xs, by rw [e1], SqL.of (by rw [← e4]; exact hid_of e2), fun ys t hp hs ht => ⟨ys, s.trans (same_new ht), ⟨t, _, rfl, hid_new k (Same.refl _) ht, rep_ints ys⟩, q ys hp hs⟩⟩) hg (hz := z)
def span (lo hi : Int) : List Int := (List.range (hi - lo).toNat).map fun i : Nat => lo + (i : Int)
theorem ints_rg (lo hi : Int) : rgV lo hi = (span lo hi).map V.int := by
  unfold rgV span
  rw [List.map_map]
  rfl
theorem k_listRg2 {Q : List Int → Prop} {p2 p3 : Pos} (m : NoGl F.X.mg) (h : KE F env a ex fun lo : Int => KE F env b ex fun hi : Int => (-1000000 < lo ∧ lo < 1000000 ∧ -1000000 < hi ∧ hi < 1000000) ∧ Q (span lo hi)) (hc : F.X.calm = true := by rfl) (hg : Gl F.X "list" := by rfl) (hgr : Gl F.X "range" := by rfl)
    (na : Ns F a [b] := by rfl) (nb : Ns F b [] := by rfl) (hp : (backTo p2 (starEach [b] F.X.env)).any (·.1) = false := by rfl) (nr : Ns F (.Call (.Name "range" p3) [a, b] [] p2) [] := by rfl) :
    KE F env (.Call (.Name "list" p0) [.Call (.Name "range" p3) [a, b] [] p2] [] pos) ex Q := fun own σ H k p =>
  tE_of (pe_listRg hc hg (m _ (by simp)) (prg_2 hgr (m _ (by simp)) peE peE na nb hp) nr) (two k p h fun v u lo hi H' s r1 r2 ⟨hb, q⟩ => by
    cases r1; cases r2
    refine ⟨lo, hi, rfl, rfl, ⟨by omega, by omega, by omega, by omega, by omega⟩, fun t ht => ⟨_, s.trans (same_new ht), ⟨t, _, rfl, hid_new k s ht, ?_⟩, q⟩⟩
    rw [ints_rg]
    exact rep_ints _)
end
end Rk
set_option maxHeartbeats 4000000
namespace Rk
open PySem L2 PyProof.Rows
section
variable {F : Fx} {env : List Ent} {ex : XP} {a b c e it elt tg : Expr} {es ifs : List Expr} {pos p0 p1 : Pos} {n x : Str} {P : Po} {st : Stmt} {sts ss body : List Stmt}
def Fx.tr (F : Fx) (pn : List (Addr × Obj)) (xe : Value → Shared → Prop) : Fx := { F with X := F.X.tr pn xe }
def Fx.su (F : Fx) (q : Addr) (pn : List (Addr × Obj)) : Fx := { F with X := F.X.suite q pn }
structure Exo where
  at_ : Addr
instance : Sc Exo := ⟨fun x => .ref x.at_, fun {a b} h => by cases a; cases b; injection h with h; subst h; rfl⟩
instance : Rp Exo := scRp Exo
structure Exl where
  at_ : Addr
  d : Addr
  line : Int
instance : Rp Exl where
  rep := fun G H v x => v = .ref x.at_ ∧ H x.d = some (.xd [("line", .int x.line)])
  mono := fun e ⟨h1, h2⟩ => ⟨h1, e _ _ h2⟩
def Blk (F : Fx) (scope : Scope) (F' : Fx) : Prop := ∃ (s : Shared) (H : Hp) (C : Addr) (cl : List (Str × Addr)) (fp : List Addr) (hs : Addr → Prop), F' = ⟨F.X.blk s H scope (compEnvC scope cl C F.X.env) fp, F.cls, hs, F.B⟩
def noex : XP := fun _ _ => False
def wipeE (env : List Ent) : List Nat → List Ent
  | [] => env
  | v :: vs => (wipeE env vs).set v .no
def wipeO (own : Nat → Option Addr) : List Nat → Nat → Option Addr
  | [] => own
  | v :: vs => drop (wipeO own vs) v
theorem wipe_mem {σ : L2.St} {i : Nat} : ∀ {vs : List Nat}, i ∈ vs → ∀ v, (wipe σ vs)[i]? ≠ some (some v)
  | [], h, _ => nomatch h
  | u :: vs, h, v => by
    show ((wipe σ vs).set u none)[i]? ≠ _
    by_cases e : u = i
    · subst e
      intro z
      by_cases hl : u < (wipe σ vs).length
      · rw [List.getElem?_set_self hl] at z; cases z
      · rw [List.getElem?_eq_none_iff.mpr (by rw [List.length_set]; omega)] at z; cases z
    · rw [List.getElem?_set_ne e]
      exact wipe_mem ((List.mem_cons.mp h).resolve_left (Ne.symm e)) v
theorem Kn.unset {own : Nat → Option Addr} {σ : L2.St} {H : Hp} (k2 : F.Kn own env σ H) (i : Nat) : F.Kn (drop own i) (env.set i .no) (σ.set i none) H := by
  have kf := k2.forget i
  exact { kf with
    len := by rw [List.length_set]; exact kf.len
    ent := fun j e h => by
      have y := kf.ent j e h
      by_cases ij : i = j
      · subst ij
        have hl := (List.getElem?_eq_some_iff.mp h).1
        rw [List.length_set] at hl
        rw [List.getElem?_set_self hl] at h
        cases h
        trivial
      · cases e with
        | no => trivial
        | sh d => obtain ⟨v, y1, y2⟩ := y; exact ⟨v, by rw [List.getElem?_set_ne ij]; exact y1, y2⟩
        | ow o => obtain ⟨p', ho, y0, y1, y2, y3⟩ := y; exact ⟨p', ho, y0, by rw [List.getElem?_set_ne ij]; exact y1, y2, y3⟩
        | gh m => obtain ⟨w, y1, y2⟩ := y; exact ⟨w, by rw [List.getElem?_set_ne ij]; exact y1, y2⟩ }
theorem Kn.wipe {own : Nat → Option Addr} {σ : L2.St} {H : Hp} (k : F.Kn own env σ H) : ∀ vs : List Nat, F.Kn (wipeO own vs) (wipeE env vs) (L2.wipe σ vs) H ∧ Fr F.hs own (wipeO own vs) H H
  | [] => ⟨k, Fr.refl⟩
  | v :: vs => ⟨((Kn.wipe k vs).1).unset v, (Kn.wipe k vs).2.trans (Fr.drop v)⟩
theorem Kn.veil {own : Nat → Option Addr} {σ : L2.St} {H H' : Hp} {t : Addr} {o : HO} (k : F.Kn own env σ H) (s : Same H H') (ht : H t = none) (ho : H' t = some o) : Rk.Kn F.G (fun x => F.hs x ∨ x = t) F.B own env σ H' := by
  have nt : ¬ hd F.hs own t := k.fresh (Same.refl _) ht
  have sm : Same (Hid (hd F.hs own) H) (Hid (hd (fun x => F.hs x ∨ x = t) own) H') := fun x u e => by
    have h1 := hid_of e
    have ne : x ≠ t := ne_of_none h1 ht
    have nh : ¬ hd F.hs own x := fun z => by unfold Hid at e; rw [if_pos z] at e; cases e
    rw [hid_at fun z => by
      rcases z with (z | z) | z
      · exact nh (.inl z)
      · exact ne z
      · exact nh (.inr z)]
    exact s x u h1
  exact {
    ex := k.ex.trans s
    hsB := fun x h => by
      rcases h with h | h
      · exact stays s (k.hsB x h)
      · subst h; rw [ho]; simp
    dis := fun i p h z => by
      rcases z with z | z
      · exact k.dis i p h z
      · subst z; exact nt (.inr ⟨i, h⟩)
    len := k.len
    inj := k.inj
    new := fun i p h => ⟨(k.new i p h).1, stays s (k.new i p h).2⟩
    out := k.out
    ent := fun i e h => by
      have y := k.ent i e h
      cases e with
      | no => trivial
      | sh d => obtain ⟨v, y1, y2⟩ := y; exact ⟨v, y1, DV.mono sm y2⟩
      | ow o => obtain ⟨p', ho', y0, y1, y2, y3⟩ := y; exact ⟨p', ho', y0, y1, s _ _ y2, o.mono sm y3⟩
      | gh m => obtain ⟨w, y1, y2⟩ := y; exact ⟨w, y1, m.mono sm (fun a o _ => less_mono s a o) y2⟩ }
def KTs (F : Fx) (env : List Ent) : List Expr → (Bool → Prop) → Prop
  | [], Q => Q true
  | [c], Q => KT F env c noex Q
  | _, _ => False
def tIfs (X : Cx) : List Expr → TT
  | [c] => tT X c
  | _ => tYes
theorem noPort {own : Nat → Option Addr} {H : Hp} {F' : Fx} {scope : Scope} (h : Blk F scope F') : Port F' own H noex := by
  obtain ⟨s, H0, C, cl, fp, hs, rfl⟩ := h
  exact ⟨PassesOwn.never, _, takes0, fun _ _ _ _ _ _ _ _ q _ => q.elim⟩
def uT (F : Fx) (scope : Scope) (ifs : List Expr) : TT := fun σ H Q => ∀ (s : Shared) (H0 : Hp) (C : Addr) (cl : List (Str × Addr)) (fp : List Addr), tIfs (F.X.blk s H0 scope (compEnvC scope cl C F.X.env) fp) ifs σ H Q
def uE (F : Fx) (scope : Scope) (e : Expr) : TE := fun σ H Q => ∀ (s : Shared) (H0 : Hp) (C : Addr) (cl : List (Str × Addr)) (fp : List Addr), tE (F.X.blk s H0 scope (compEnvC scope cl C F.X.env) fp) e σ H Q
theorem wipeO_same {own : Nat → Option Addr} : ∀ {vs : List Nat}, (∀ i ∈ vs, own i = none) → wipeO own vs = own
  | [], _ => rfl
  | v :: vs, h => by
    show drop (wipeO own vs) v = own
    rw [wipeO_same fun i hi => h i (List.mem_cons_of_mem _ hi)]
    funext j
    unfold drop
    split
    · rename_i e; subst e; exact (h j List.mem_cons_self).symm
    · rfl
def LcAt {α β : Type} [Rp α] [Rp β] (F : Fx) (own : Nat → Option Addr) (H1 : Hp) (D : Addr) (t : α → Bool) (v : α → β) (done : List α) (H2 : Hp) : Prop :=
  Same H1 (fun x => if x = D then none else H2 x) ∧ ∃ acc, H2 D = some (.lst acc) ∧ RepAll F.G (Hid (hd (fun x => F.hs x ∨ x = D) own) H2) acc (dvs ((done.filter t).map v))
theorem LcAt.same {α β : Type} [Rp α] [Rp β] {own : Nat → Option Addr} {H1 H2 : Hp} {D : Addr} {t : α → Bool} {v : α → β} {done : List α} (h : LcAt F own H1 D t v done H2) (hD : H1 D = none) : Same H1 H2 := fun x o e => by
  have ne : x ≠ D := ne_of_none e hD
  have z : (if x = D then none else H2 x) = some o := h.1 x o e
  rw [if_neg ne] at z; exact z
theorem LcAt.start {α β : Type} [Rp α] [Rp β] {own : Nat → Option Addr} {H1 : Hp} {D : Addr} {t : α → Bool} {v : α → β} (hD : H1 D = none) : LcAt F own H1 D t v [] (upd H1 D (.lst [])) := by
  refine ⟨fun x o e => ?_, [], upd_same, trivial⟩
  have ne : x ≠ D := ne_of_none e hD
  show (if x = D then none else upd H1 D (.lst []) x) = some o
  rw [if_neg ne, upd_ne ne]; exact e
theorem wipe_twice {σ : L2.St} (vs : List Nat) : L2.wipe (L2.wipe σ vs) vs = L2.wipe σ vs := by
  have key : ∀ us : List Nat, (∀ i ∈ us, i ∈ vs) → L2.wipe (L2.wipe σ vs) us = L2.wipe σ vs := fun us => by
    induction us with
    | nil => intro _; rfl
    | cons u us ih =>
      intro hh
      show (L2.wipe (L2.wipe σ vs) us).set u none = _
      rw [ih fun i hi => hh i (List.mem_cons_of_mem _ hi)]
      apply List.ext_getElem?
      intro j
      by_cases e : u = j
      · subst e
        by_cases hl : u < (L2.wipe σ vs).length
        · rw [List.getElem?_set_self hl]
          have nv := wipe_mem (σ := σ) (hh u List.mem_cons_self)
          cases q : (L2.wipe σ vs)[u]? with
          | none => rw [List.getElem?_eq_none_iff] at q; omega
          | some o => cases o with
            | none => rfl
            | some w => exact absurd q (nv w)
        · rw [List.getElem?_eq_none_iff.mpr (by rw [List.length_set]; omega), List.getElem?_eq_none_iff.mpr (by omega)]
      · rw [List.getElem?_set_ne e]
  exact key vs fun _ h => h
theorem lc_stepG {α β : Type} [Rp α] [Rp β] {scope : Scope} (own0 : List (Str × Nat)) {g : TG} {is : List Nat} {f : α → List Ent → List Ent} {own : Nat → Option Addr} {σ : L2.St} {H1 H2 : Hp} {D : Addr} {t : α → Bool} {v : α → β} {done : List α} {y : α} {u : V}
    (hlen : ifs.length ≤ 1) (htg : ∀ F', Blk F scope F' → Tg F' tg α g is f) (his : ∀ i ∈ is, i ∈ own0.map (·.2)) (onone : ∀ i ∈ own0.map (·.2), own i = none) (k1 : F.Kn own env σ H1) (hD : H1 D = none) (hx : done.length ≤ 40000)
    (ht : ∀ F', Blk F scope F' → KTs F' (f y (wipeE env (own0.map (·.2)))) ifs fun b => b = t y) (hv : ∀ F', Blk F scope F' → t y = true → KE F' (f y (wipeE env (own0.map (·.2)))) elt noex fun z => z = v y)
    (hd2 : Rp.rep F.G (Hid (hd (fun x => F.hs x ∨ x = D) own) H2) u y) (p : LcAt F own H1 D t v done H2) :
    g u (L2.wipe σ (own0.map (·.2))) H2 fun σ2 H2' => L2.wipe σ2 (own0.map (·.2)) = L2.wipe σ (own0.map (·.2)) ∧ uT F scope ifs σ2 H2' fun b H3 =>
      if b = true then uE F scope elt σ2 H3 fun z H4 => ∃ acc, H4 D = some (.lst acc) ∧ acc.length < sizeLine ∧ LcAt F own H1 D t v (done ++ [y]) (upd H4 D (.lst (acc ++ [z]))) else LcAt F own H1 D t v (done ++ [y]) H3 := by
  have s12 := p.same hD
  obtain ⟨s2, acc, hacc, hr⟩ := p
  have kD : Rk.Kn F.G (fun x => F.hs x ∨ x = D) F.B own env σ H2 := k1.veil s12 hD hacc
  obtain ⟨kw, frw⟩ := Kn.wipe (F := ⟨F.X, F.cls, fun x => F.hs x ∨ x = D, F.B⟩) (show (⟨F.X, F.cls, fun x => F.hs x ∨ x = D, F.B⟩ : Fx).Kn own env σ H2 from kD) (own0.map (·.2))
  refine (htg ⟨F.X.blk F.X.s_0 H1 scope (compEnvC scope [] 0 F.X.env) [], F.cls, fun x => F.hs x ∨ x = D, F.B⟩ ⟨F.X.s_0, H1, 0, [], [], _, rfl⟩).sem y _ _ _ _ H2 u kw (DV.mono (d := dv y) frw hd2) fun own2 σ2 k2 f2 wp kp => ?_
  rw [wipeO_same onone] at kp
  refine ⟨by rw [wp _ his]; exact wipe_twice _, ?_⟩
  have keep : ∀ (s' : Shared) (H0 : Hp) (C : Addr) (cl : List (Str × Addr)) (fp : List Addr) (H3 : Hp), Same H2 H3 → t y = true → tE (F.X.blk s' H0 scope (compEnvC scope cl C F.X.env) fp) elt σ2 H3 fun z H4 => ∃ acc, H4 D = some (.lst acc) ∧ acc.length < sizeLine ∧ LcAt F own H1 D t v (done ++ [y]) (upd H4 D (.lst (acc ++ [z]))) := fun s' H0 C cl fp H3 s3 hty => by
    have B' : Blk F scope ⟨F.X.blk s' H0 scope (compEnvC scope cl C F.X.env) fp, F.cls, fun x => F.hs x ∨ x = D, F.B⟩ := ⟨s', H0, C, cl, fp, _, rfl⟩
    refine tE_mono (fun z H4 ⟨w, s4, rw', ew⟩ => ?_) (hv _ B' hty own2 σ2 H3 (k2.mono s3) (noPort B'))
    subst ew
    have s24 : Same H2 H4 := s3.trans s4
    have hD4 : H4 D = some (.lst acc) := s24 _ _ hacc
    have la : acc.length = ((done.filter t).map v).length := by rw [hr.len, dvs_len]
    have lb : ((done.filter t).map v).length ≤ 40000 := by
      rw [List.length_map]
      exact Nat.le_trans (List.length_filter_le _ _) hx
    refine ⟨acc, hD4, Nat.lt_of_le_of_lt (by rw [la]; exact lb) (by decide : 40000 < sizeLine), fun x o e => ?_, acc ++ [z], upd_same, ?_⟩
    · have ne : x ≠ D := ne_of_none e hD
      show (if x = D then none else upd H4 D (.lst (acc ++ [z])) x) = some o
      rw [if_neg ne, upd_ne ne]; exact s24 _ _ (s12 _ _ e)
    · rw [List.filter_append, List.map_append, List.filter_cons, if_pos hty, List.filter_nil]
      have hidD : hd (fun x => F.hs x ∨ x = D) own D := .inl (.inr rfl)
      rw [hid_upd hidD]
      unfold dvs
      rw [List.map_append]
      refine RepAll.app (hr.mono (hid_same s24)) ⟨?_, trivial⟩
      refine DV.mono (d := dv (v y)) (hid_more fun x q => ?_) rw'
      rcases q with q | ⟨i, q⟩
      · exact .inl q
      · rcases kp i x q with z | z
        · rw [onone i (his i z)] at q; cases q
        · exact .inr ⟨i, z⟩
  have skip : ∀ H3 : Hp, Same H2 H3 → t y = false → LcAt F own H1 D t v (done ++ [y]) H3 := fun H3 s3 hty => by
    refine ⟨fun x o e => ?_, acc, s3 _ _ hacc, ?_⟩
    · have ne : x ≠ D := ne_of_none e hD
      show (if x = D then none else H3 x) = some o
      rw [if_neg ne]; exact s3 _ _ (s12 _ _ e)
    · rw [List.filter_append, List.map_append, List.filter_cons, if_neg (by rw [hty]; decide), List.filter_nil, List.map_nil, List.append_nil]
      exact hr.mono (hid_same s3)
  intro s' H0 C cl fp
  match ifs, hlen, ht with
  | [], _, ht =>
    have B' : Blk F scope ⟨F.X.blk s' H0 scope (compEnvC scope cl C F.X.env) fp, F.cls, fun x => F.hs x ∨ x = D, F.B⟩ := ⟨s', H0, C, cl, fp, _, rfl⟩
    have hty : true = t y := ht _ B'
    exact fun s2' H02 C2 cl2 fp2 => keep s2' H02 C2 cl2 fp2 H2 (Same.refl _) hty.symm
  | [c], _, ht =>
    have B' : Blk F scope ⟨F.X.blk s' H0 scope (compEnvC scope cl C F.X.env) fp, F.cls, fun x => F.hs x ∨ x = D, F.B⟩ := ⟨s', H0, C, cl, fp, _, rfl⟩
    refine tT_mono (fun b H3 ⟨s3, eb⟩ => ?_) (ht _ B' own2 σ2 H2 k2 (noPort B'))
    cases hty : t y with
    | true =>
      rw [hty] at eb; subst eb
      exact fun s2' H02 C2 cl2 fp2 => keep s2' H02 C2 cl2 fp2 H3 s3 hty
    | false =>
      rw [hty] at eb; subst eb
      exact skip H3 s3 hty
theorem lc_step {α β : Type} [Rp α] [Rp β] {scope : Scope} (own0 : List (Str × Nat)) {g : TG} {is : List Nat} {f : α → List Ent → List Ent} {own : Nat → Option Addr} {σ : L2.St} {H1 H2 : Hp} {D : Addr} {t : α → Bool} {v : α → β} {done : List α} {y : α} {u : V}
    (hlen : ifs.length ≤ 1) (htg : ∀ F', Blk F scope F' → Tg F' tg α g is f) (his : ∀ i ∈ is, i ∈ own0.map (·.2)) (onone : ∀ i ∈ own0.map (·.2), own i = none) (k1 : F.Kn own env σ H1) (hD : H1 D = none) (hx : done.length ≤ 40000)
    (ht : ∀ F', Blk F scope F' → KTs F' (f y (wipeE env (own0.map (·.2)))) ifs fun b => b = t y) (hv : ∀ F', Blk F scope F' → t y = true → KE F' (f y (wipeE env (own0.map (·.2)))) elt noex fun z => z = v y)
    (hd2 : Rp.rep F.G (Hid (hd F.hs own) H1) u y) (p : LcAt F own H1 D t v done H2) :
    g u (L2.wipe σ (own0.map (·.2))) H2 fun σ2 H2' => L2.wipe σ2 (own0.map (·.2)) = L2.wipe σ (own0.map (·.2)) ∧ uT F scope ifs σ2 H2' fun b H3 =>
      if b = true then uE F scope elt σ2 H3 fun z H4 => ∃ acc, H4 D = some (.lst acc) ∧ acc.length < sizeLine ∧ LcAt F own H1 D t v (done ++ [y]) (upd H4 D (.lst (acc ++ [z]))) else LcAt F own H1 D t v (done ++ [y]) H3 := by
  have s12 := p.same hD
  have sD : Same (Hid (hd F.hs own) H1) (Hid (hd (fun x => F.hs x ∨ x = D) own) H2) := fun x o e => by
    have h1 := hid_of e
    have ne : x ≠ D := ne_of_none h1 hD
    have nh : ¬ hd F.hs own x := fun z => by unfold Hid at e; rw [if_pos z] at e; cases e
    rw [hid_at fun z => by
      rcases z with (z | z) | z
      · exact nh (.inl z)
      · exact ne z
      · exact nh (.inr z)]
    exact s12 x o h1
  exact lc_stepG own0 hlen htg his onone k1 hD hx ht hv (DV.mono (d := dv y) sD hd2) p
theorem lc_end {α β : Type} [Rp α] [Rp β] {own : Nat → Option Addr} {σ : L2.St} {H H1 H2 : Hp} {D : Addr} {t : α → Bool} {v : α → β} {xs : List α} {Q : List β → Prop} (k1 : F.Kn own env σ H1) (sm : Same H H1) (hD : H1 D = none) (p : LcAt F own H1 D t v xs H2) (hQ : Q ((xs.filter t).map v)) :
    ∃ y : List β, Same H H2 ∧ Rp.rep F.G (Hid (hd F.hs own) H2) (V.ref D) y ∧ Q y := by
  have s12 := p.same hD
  have nD : ¬ hd F.hs own D := k1.fresh (Same.refl _) hD
  obtain ⟨s2, acc, hacc, hr⟩ := p
  refine ⟨_, sm.trans s12, ⟨D, acc, rfl, by rw [hid_at nD]; exact hacc, hr.mono (hid_more fun x z => ?_)⟩, hQ⟩
  rcases z with z | z
  · exact .inl (.inl z)
  · exact .inr z
theorem lc_tests (hlen : ifs.length ≤ 1) {scope : Scope} (s : Shared) (H : Hp) (C : Addr) (cl : List (Str × Addr)) (fp : List Addr) : PTs (F.X.blk s H scope (compEnvC scope cl C F.X.env) fp) ifs (uT F scope ifs) := by
  match ifs, hlen with
  | [], _ => exact ⟨fun pins s' σ H' Q I h => pts_nil.run pins s' σ H' Q I (h s H C cl fp)⟩
  | [c], _ => exact ⟨fun pins s' σ H' Q I h => (pts_one peT).run pins s' σ H' Q I (h s H C cl fp)⟩
theorem same_none {H H1 : Hp} {D : Addr} (s : Same H H1) (h : H1 D = none) : H D = none := by
  cases q : H D with
  | none => rfl
  | some o => rw [s _ _ q] at h; cases h
def KLc {β : Type} [Rp β] (F : Fx) (env : List Ent) (elt tg it : Expr) (ifs : List Expr) (scope : Scope) (ex : XP) (Q : List β → Prop) : Prop := ∀ own σ H, F.Kn own env σ H → Port F own H ex → ∃ (wi : TI) (g : TG) (own0 : List (Str × Nat)),
  F.X.calm = true ∧ F.X.N.Nodup ∧ PI F.X tg it wi ∧ BlkOk F.X.N F.X.env.scope scope own0 ∧ (∀ (s : Shared) (H : Hp) (C : Addr) (cl : List (Str × Addr)) (fp : List Addr), PG (F.X.blk s H scope (compEnvC scope cl C F.X.env) fp) tg g) ∧ ifs.length ≤ 1 ∧ (∀ x, foldedSetIterable it F.X.env x = pure x) ∧
  ∀ Q' : VK, (∀ v H', Rs F own H Q v H' → (∃ p, v = .ref p ∧ H p = none) → Q' v H') → tLc wi g (uT F scope ifs) (uE F scope elt) (own0.map (·.2)) σ H Q'
theorem k_ofLc {β : Type} [Rp β] {scope : Scope} {Q : List β → Prop} {ex : XP} (h : KLc F env elt tg it ifs scope ex Q) : KE F env (.ListComp elt [⟨tg, it, ifs, 0⟩] scope pos) ex Q := fun own σ H k p => by
  obtain ⟨wi, g, own0, hc, nd, pi, ok, pg, hlen, hs, z⟩ := h own σ H k p
  exact tE_of (pe_lc (own := own0) (g := g) (te := uE F scope elt) hc nd pi ok pg (lc_tests hlen) (fun s H C cl fp => ⟨fun pins s' σ H' Q I h => h s H C cl fp pins s' I⟩) hs) (z _ fun _ _ q _ => q)
theorem s_letLc {β : Type} [Rp β] {scope : Scope} {y : Str} (i : Nat) (hy : F.X.N[i]? = some y) (h : KLc F env elt tg it ifs scope P.ex fun ys : List β => ∀ z : List β, z = ys → P.nx (env.set i (.sh (dv z))))
    (hyl : F.X.env.scope.names.lookup y = some .local := by rfl) (hsw : swapsWith (.ListComp elt [⟨tg, it, ifs, 0⟩] scope p0) (some (.Name y p1)) pos.line F.X.env = pure true := by rfl) : KS F env (.Assign [.Name y p1] (.ListComp elt [⟨tg, it, ifs, 0⟩] scope p0) pos) P := KS.mk fun own σ H k p => by
  obtain ⟨wi, g, own0, hc, nd, pi, ok, pg, hlen, hs, z⟩ := h own σ H k p
  refine tS_of (ps_setLc (own := own0) (g := g) (te := uE F scope elt) (i := i) hc nd hy hyl hsw pi ok pg (lc_tests hlen) (fun s H C cl fp => ⟨fun pins s' σ H' Q I h => h s H C cl fp pins s' I⟩) hs) (z _ fun v H' ⟨ys, s, r, q⟩ _ => ?_)
  exact ⟨_, _, (k.mono s).set (i := i) (d := dv ys) r, (Fr.of s).trans (Fr.drop i), q ys rfl⟩
section
variable {α β : Type} [Rp α] [Rp β] {scope : Scope} {Q : List β → Prop} {g : TG} {is : List Nat} {f : α → List Ent → List Ent}
theorem q_lc (own0 : List (Str × Nat)) (nd : F.X.N.Nodup) (ok : BlkOk F.X.N F.X.env.scope scope own0)
    (hlen : ifs.length ≤ 1) (htg : ∀ F', Blk F scope F' → Tg F' tg α g is f) (his : ∀ i ∈ is, i ∈ own0.map (·.2)) (hno : ∀ i ∈ own0.map (·.2), ∀ o, env[i]? ≠ some (.ow o))
    (h : KE F env it ex fun xs : List α => xs.length ≤ 40000 ∧ ∃ (t : α → Bool) (v : α → β), (∀ F' x, Blk F scope F' → x ∈ xs → KTs F' (f x (wipeE env (own0.map (·.2)))) ifs fun b => b = t x) ∧
      (∀ F' x, Blk F scope F' → x ∈ xs → t x = true → KE F' (f x (wipeE env (own0.map (·.2)))) elt noex fun y => y = v x) ∧ Q ((xs.filter t).map v))
    (hc : F.X.calm = true := by rfl) (hs : ∀ x, foldedSetIterable it F.X.env x = pure x := by intro _; rfl) : KLc F env elt tg it ifs scope ex Q := fun own σ H k p => by
  have onone : ∀ i ∈ own0.map (·.2), own i = none := fun i hi => by
    cases q : own i with
    | none => rfl
    | some p => exact absurd (k.out i p q).choose_spec (hno i hi _)
  refine ⟨_, g, own0, hc, nd, (pi_list peE), ok, (fun s H C cl fp => (htg ⟨F.X.blk s H scope (compEnvC scope cl C F.X.env) fp, F.cls, F.hs, F.B⟩ ⟨s, H, C, cl, fp, F.hs, rfl⟩).pg), hlen, hs, fun Q' hq => ?_⟩
  refine tE_mono (fun v0 H1 ⟨xs, sm, ⟨l, vs, e1, e2, e3⟩, hx, t, v, ht, hv, hQ⟩ => ?_) (h own σ H k p)
  have hlv : vs.length = xs.length := by rw [e3.len, dvs_len]
  refine ⟨l, e1, ⟨vs, SqL.of (hid_of e2)⟩, fun D hD => ?_⟩
  have k1 := k.mono sm
  refine lc_list (K := F.X.K) (a := l) (xs := vs) (g := g) (tt := uT F scope ifs) (te := uE F scope elt) (vs := own0.map (·.2)) (σ := σ) (H1 := H1) (D := D) (Qd := fun H' => Q' (.ref D) H')
    (fun i H2 => LcAt F own H1 D t v (xs.take i) H2) (LcAt.start hD) (fun i H2 _ p => SqL.of (p.same hD _ _ (hid_of e2))) ?_ (fun H2 p => hq _ _ (lc_end k1 sm hD (by rw [hlv, List.take_length] at p; exact p) hQ) ⟨D, rfl, same_none sm hD⟩)
  intro i u H2 hu p2
  obtain ⟨d, hd1, hd2⟩ := e3.get' hu
  rw [dvs_get] at hd1
  cases hxi : xs[i]? with
  | none => rw [hxi] at hd1; cases hd1
  | some y =>
    rw [hxi] at hd1
    have ed : dv y = d := Option.some.inj hd1
    subst ed
    have hmem : y ∈ xs := List.mem_of_getElem? hxi
    have tk : xs.take (i + 1) = xs.take i ++ [y] := by rw [List.take_add_one, hxi]; rfl
    rw [tk]
    exact lc_step own0 hlen htg his onone k1 hD (by rw [List.length_take]; omega) (fun F' b => ht F' y b hmem) (fun F' b z => hv F' y b hmem z) hd2 p2
theorem q_lcT (own0 : List (Str × Nat)) (nd : F.X.N.Nodup) (ok : BlkOk F.X.N F.X.env.scope scope own0)
    (hlen : ifs.length ≤ 1) (htg : ∀ F', Blk F scope F' → Tg F' tg α g is f) (his : ∀ i ∈ is, i ∈ own0.map (·.2)) (hno : ∀ i ∈ own0.map (·.2), ∀ o, env[i]? ≠ some (.ow o))
    (h : KE F env it ex fun xs : Tl α => xs.xs.length ≤ 40000 ∧ ∃ (t : α → Bool) (v : α → β), (∀ F' x, Blk F scope F' → x ∈ xs.xs → KTs F' (f x (wipeE env (own0.map (·.2)))) ifs fun b => b = t x) ∧
      (∀ F' x, Blk F scope F' → x ∈ xs.xs → t x = true → KE F' (f x (wipeE env (own0.map (·.2)))) elt noex fun y => y = v x) ∧ Q ((xs.xs.filter t).map v))
    (hc : F.X.calm = true := by rfl) (hs : ∀ x, foldedSetIterable it F.X.env x = pure x := by intro _; rfl) : KLc F env elt tg it ifs scope ex Q := fun own σ H k p => by
  have onone : ∀ i ∈ own0.map (·.2), own i = none := fun i hi => by
    cases q : own i with
    | none => rfl
    | some p => exact absurd (k.out i p q).choose_spec (hno i hi _)
  refine ⟨_, g, own0, hc, nd, (pi_tup peE), ok, (fun s H C cl fp => (htg ⟨F.X.blk s H scope (compEnvC scope cl C F.X.env) fp, F.cls, F.hs, F.B⟩ ⟨s, H, C, cl, fp, F.hs, rfl⟩).pg), hlen, hs, fun Q' hq => ?_⟩
  refine tE_mono (fun v0 H1 ⟨⟨xs⟩, sm, ⟨l, vs, e1, e2, e3⟩, hx, t, v, ht, hv, hQ⟩ => ?_) (h own σ H k p)
  have e3 : RepAll F.G (Hid (hd F.hs own) H1) vs (dvs xs) := e3
  have hlv : vs.length = xs.length := by rw [e3.len, dvs_len]
  refine ⟨l, e1, ⟨vs, SqT.of (hid_of e2)⟩, fun D hD => ?_⟩
  have k1 := k.mono sm
  refine lc_tup (K := F.X.K) (a := l) (xs := vs) (g := g) (tt := uT F scope ifs) (te := uE F scope elt) (vs := own0.map (·.2)) (σ := σ) (H1 := H1) (D := D) (Qd := fun H' => Q' (.ref D) H')
    (fun i H2 => LcAt F own H1 D t v (xs.take i) H2) (LcAt.start hD) (fun i H2 _ p => SqT.of (p.same hD _ _ (hid_of e2))) ?_ (fun H2 p => hq _ _ (lc_end k1 sm hD (by rw [hlv, List.take_length] at p; exact p) hQ) ⟨D, rfl, same_none sm hD⟩)
  intro i u H2 hu p2
  obtain ⟨d, hd1, hd2⟩ := e3.get' hu
  rw [dvs_get] at hd1
  cases hxi : xs[i]? with
  | none => rw [hxi] at hd1; cases hd1
  | some y =>
    rw [hxi] at hd1
    have ed : dv y = d := Option.some.inj hd1
    subst ed
    have hmem : y ∈ xs := List.mem_of_getElem? hxi
    have tk : xs.take (i + 1) = xs.take i ++ [y] := by rw [List.take_add_one, hxi]; rfl
    rw [tk]
    exact lc_step own0 hlen htg his onone k1 hD (by rw [List.length_take]; show min i xs.length ≤ 40000; have : xs.length ≤ 40000 := hx; omega) (fun F' b => ht F' y b hmem) (fun F' b z => hv F' y b hmem z) hd2 p2
end
section
variable {β : Type} [Rp β] {scope : Scope} {Q : List β → Prop} {g : TG} {is : List Nat} {f : Int → List Ent → List Ent}
theorem span_get {lo hi : Int} {i : Nat} (h : i < (hi - lo).toNat) : (span lo hi)[i]? = some (lo + (i : Int)) := by
  unfold span
  rw [List.getElem?_map, List.getElem?_range h]; rfl
theorem span_len (lo hi : Int) : (span lo hi).length = (hi - lo).toNat := by unfold span; rw [List.length_map, List.length_range]
theorem lcr_core (own0 : List (Str × Nat)) {own : Nat → Option Addr} {σ : L2.St} {H H1 : Hp} {lo hi : Int} (hlen : ifs.length ≤ 1) (htg : ∀ F', Blk F scope F' → Tg F' tg Int g is f) (his : ∀ i ∈ is, i ∈ own0.map (·.2)) (onone : ∀ i ∈ own0.map (·.2), own i = none)
    (k1 : F.Kn own env σ H1) (sm : Same H H1) (hx : hi - lo ≤ 40000) {t : Int → Bool} {v : Int → β} (ht : ∀ F' x, Blk F scope F' → x ∈ span lo hi → KTs F' (f x (wipeE env (own0.map (·.2)))) ifs fun b => b = t x)
    (hv : ∀ F' x, Blk F scope F' → x ∈ span lo hi → t x = true → KE F' (f x (wipeE env (own0.map (·.2)))) elt noex fun y => y = v x) (hQ : Q (((span lo hi).filter t).map v)) {Q' : VK} (hq : ∀ v H', Rs F own H Q v H' → (∃ p, v = .ref p ∧ H p = none) → Q' v H') (D : Addr) (hD : H1 D = none) :
    ∃ W : Nat → Nat → Hp → Prop, (∃ m, W 0 m (upd H1 D (.lst []))) ∧ ∀ i m H', W i m H' →
      ((Itr lo (hi - lo).toNat).stop i H' ∧ Q' (.ref D) H') ∨ ((Itr lo (hi - lo).toNat).go i H' ∧ ∃ Nx : Hp → Prop, (∀ H'', Nx H'' → ∃ m', m' < m ∧ W (i + 1) m' H'') ∧ ∀ x H'', (Itr lo (hi - lo).toNat).yld i H' x H'' → g x (L2.wipe σ (own0.map (·.2))) H'' fun σ2 H2 => L2.wipe σ2 (own0.map (·.2)) = L2.wipe σ (own0.map (·.2)) ∧ uT F scope ifs σ2 H2 fun b H3 =>
        if b = true then uE F scope elt σ2 H3 fun y H4 => ∃ acc, H4 D = some (.lst acc) ∧ acc.length < sizeLine ∧ Nx (upd H4 D (.lst (acc ++ [y]))) else Nx H3) := by
  refine lc_range (lo := lo) (n := (hi - lo).toNat) (g := g) (tt := uT F scope ifs) (te := uE F scope elt) (vs := own0.map (·.2)) (σ := σ) (H1 := H1) (D := D) (Qd := fun H' => Q' (.ref D) H')
    (fun i H2 => LcAt F own H1 D t v ((span lo hi).take i) H2) (LcAt.start hD) ?_ (fun H2 p => hq _ _ (lc_end k1 sm hD (by rw [List.take_of_length_le (by rw [span_len]; exact Nat.le_refl _)] at p; exact p) hQ) ⟨D, rfl, same_none sm hD⟩)
  intro i H2 hi' p2
  have tk : (span lo hi).take (i + 1) = (span lo hi).take i ++ [lo + (i : Int)] := by rw [List.take_add_one, span_get hi']; rfl
  rw [tk]
  have hmem : lo + (i : Int) ∈ span lo hi := List.mem_of_getElem? (span_get hi')
  exact lc_step own0 hlen htg his onone k1 hD (by rw [List.length_take]; omega) (fun F' b => ht F' _ b hmem) (fun F' b z => hv F' _ b hmem z) rfl p2
theorem q_lcR1 {p2 p3 : Pos} (own0 : List (Str × Nat)) (nd : F.X.N.Nodup) (m : NoGl F.X.mg) (ok : BlkOk F.X.N F.X.env.scope scope own0)
    (hlen : ifs.length ≤ 1) (htg : ∀ F', Blk F scope F' → Tg F' tg Int g is f) (his : ∀ i ∈ is, i ∈ own0.map (·.2)) (hno : ∀ i ∈ own0.map (·.2), ∀ o, env[i]? ≠ some (.ow o))
    (h : KE F env e ex fun hi : Int => (hi ≤ 40000 ∧ -1000000 < hi) ∧ ∃ (t : Int → Bool) (v : Int → β), (∀ F' x, Blk F scope F' → x ∈ span 0 hi → KTs F' (f x (wipeE env (own0.map (·.2)))) ifs fun b => b = t x) ∧
      (∀ F' x, Blk F scope F' → x ∈ span 0 hi → t x = true → KE F' (f x (wipeE env (own0.map (·.2)))) elt noex fun y => y = v x) ∧ Q (((span 0 hi).filter t).map v))
    (hc : F.X.calm = true := by rfl) (hg : Gl F.X "range" := by rfl) (z : Ns F e [] := by rfl) (z1 : starEach [e] F.X.env = [(false, eval e F.X.env)] := by rfl)
    (hs : ∀ x, foldedSetIterable (.Call (.Name "range" p2) [e] [] p3) F.X.env x = pure x := by intro _; rfl) : KLc F env elt tg (.Call (.Name "range" p2) [e] [] p3) ifs scope ex Q := fun own σ H k p => by
  have onone : ∀ i ∈ own0.map (·.2), own i = none := fun i hi => by
    cases q : own i with
    | none => rfl
    | some p => exact absurd (k.out i p q).choose_spec (hno i hi _)
  refine ⟨_, g, own0, hc, nd, (pi_range1 hg (m _ (by simp)) (pa_cons peE pa_nil z) z1), ok, (fun s H C cl fp => (htg ⟨F.X.blk s H scope (compEnvC scope cl C F.X.env) fp, F.cls, F.hs, F.B⟩ ⟨s, H, C, cl, fp, F.hs, rfl⟩).pg), hlen, hs, fun Q' hq => ?_⟩
  refine tE_mono (fun u1 H1 ⟨hi, sm, r1, ⟨b0, b1⟩, t, v, ht, hv, hQ⟩ => ?_) (h own σ H k p)
  cases r1
  have z0 : (hi - 0).toNat = hi.toNat := by rw [Int.sub_zero]
  refine ⟨hi, rfl, by omega, by omega, ?_⟩
  have y := lcr_core (lo := 0) (hi := hi) own0 hlen htg his onone (k.mono sm) sm (by omega) ht hv hQ hq
  rw [z0] at y
  exact y
end
end
end Rk
set_option maxHeartbeats 4000000
namespace Rk
open PySem L2 PyProof.Rows
theorem ifB {b : Bool} {A B : Prop} (h1 : b = true → A) (h2 : b = false → B) : if b = true then A else B := by
  cases b with
  | true => exact h1 rfl
  | false => exact h2 rfl
theorem ifD {p A B : Prop} [Decidable p] (h1 : p → A) (h2 : ¬ p → B) : if decide p = true then A else B := by
  by_cases h : p
  · rw [if_pos (decide_eq_true h)]; exact h1 h
  · rw [if_neg (by simpa using h)]; exact h2 h
theorem ifND {p A B : Prop} [Decidable p] (h1 : ¬ p → A) (h2 : p → B) : if (!decide p) = true then A else B := by
  by_cases h : p
  · rw [if_neg (by simpa using h)]; exact h2 h
  · rw [if_pos (by simpa using h)]; exact h1 h
theorem ifNB {b : Bool} {A B : Prop} (h1 : b = false → A) (h2 : b = true → B) : if (!b) = true then A else B := by
  cases b with
  | true => exact h2 rfl
  | false => exact h1 rfl
section
variable {F : Fx} {env : List Ent} {ex : XP} {a b c e it : Expr} {es : List Expr} {pos p0 p1 : Pos} {n x : Str} {P : Po} {st : Stmt} {sts ss body : List Stmt}
theorem kt_imp {Q Q' : Bool → Prop} (q : ∀ x, Q x → Q' x) (h : KT F env e ex Q) : KT F env e ex Q' := fun own σ H k p => tT_mono (fun v H' ⟨s, z⟩ => ⟨s, q _ z⟩) (h own σ H k p)
theorem ktw_imp {Q Q' : Bool → Prop} (q : ∀ x, Q x → Q' x) (h : KTW F env e ex Q) : KTW F env e ex Q' := fun own σ H k p => tTW_mono (fun v H' ⟨s, z⟩ => ⟨s, q _ z⟩) (h own σ H k p)
theorem w_andD {Q : Bool → Prop} (y : Bool) (h : KT F env a ex fun x => (x = true → KTW F env (.BoolOp .And (b :: es) pos) ex fun z => z = y) ∧ Q (x && y)) : KTW F env (.BoolOp .And (a :: b :: es) pos) ex Q :=
  w_and (kt_imp (fun x ⟨h1, h2⟩ => by
    cases x with
    | true => exact ktw_imp (fun z ez => by subst ez; exact h2) (h1 rfl)
    | false => exact h2) h)
theorem w_orD {Q : Bool → Prop} (y : Bool) (h : KT F env a ex fun x => (x = false → KTW F env (.BoolOp .Or (b :: es) pos) ex fun z => z = y) ∧ Q (x || y)) : KTW F env (.BoolOp .Or (a :: b :: es) pos) ex Q :=
  w_or (kt_imp (fun x ⟨h1, h2⟩ => by
    cases x with
    | false => exact ktw_imp (fun z ez => by subst ez; exact h2) (h1 rfl)
    | true => exact h2) h)
theorem k_andD {Q : Bool → Prop} (y : Bool) (h : KE F env a ex fun x : Bool => (x = true → KE F env (.BoolOp .And (b :: es) pos) ex fun z : Bool => z = y) ∧ Q (x && y)) : KE F env (.BoolOp .And (a :: b :: es) pos) ex Q :=
  k_and (ke_imp (fun x ⟨h1, h2⟩ => by
    cases x with
    | true => exact ke_imp (fun z ez => by subst ez; exact h2) (h1 rfl)
    | false => exact h2) h)
theorem k_orD {Q : Bool → Prop} (y : Bool) (h : KE F env a ex fun x : Bool => (x = false → KE F env (.BoolOp .Or (b :: es) pos) ex fun z : Bool => z = y) ∧ Q (x || y)) : KE F env (.BoolOp .Or (a :: b :: es) pos) ex Q :=
  k_or (ke_imp (fun x ⟨h1, h2⟩ => by
    cases x with
    | false => exact ke_imp (fun z ez => by subst ez; exact h2) (h1 rfl)
    | true => exact h2) h)
theorem k_leleD {Q : Bool → Prop} (z : Int) (h : KE F env a ex fun x : Int => KE F env b ex fun y : Int => (KE F env c ex fun u : Int => u = z) ∧ Q (decide (x ≤ y ∧ y ≤ z)))
    (hm : lastMarks [.LtE, .LtE] [b, c] = false := by with_unfolding_all rfl) : KE F env (.Compare a [.LtE, .LtE] [b, c] pos) ex Q :=
  k_lele (ke_imp (fun x h => ke_imp (fun y ⟨h1, h2⟩ => by
    by_cases l : x ≤ y
    · rw [if_pos l]
      refine ke_imp (fun u eu => ?_) h1
      subst eu
      rw [show decide (y ≤ u) = decide (x ≤ y ∧ y ≤ u) from by simp [l]]
      exact h2
    · rw [if_neg l]
      rw [show decide (x ≤ y ∧ y ≤ z) = false from by simp [l]] at h2
      exact h2) h) h) hm
theorem Got.ite {α : Type} [Rp α] {Q : α → Prop} {p : Prop} [Decidable p] {r1 r2 : Rz} (h1 : p → Got env ex Q r1) (h2 : ¬ p → Got env ex Q r2) : Got env ex Q (if p then r1 else r2) := by
  by_cases h : p
  · rw [if_pos h]; exact h1 h
  · rw [if_neg h]; exact h2 h
theorem Got.eq {α : Type} [Rp α] {ex : XP} {Q : α → Prop} {x : α} {r : Rz} (e : r = .ok (dv x)) (q : Q x) : Got env ex Q r := by rw [e]; exact ⟨x, rfl, q⟩
theorem Got.via {α : Type} [Rp α] {ex : XP} {Q : α → Prop} {r r' : Rz} (e : r = r') (q : Got env ex Q r') : Got env ex Q r := e ▸ q
theorem GotI.via {α : Type} {fs : α → List (Str × DV)} {ex : XP} {Q : α → Prop} {r r' : Ri} (e : r = r') (q : GotI fs env ex Q r') : GotI fs env ex Q r := e ▸ q
theorem GotI.ite {α : Type} {fs : α → List (Str × DV)} {ex : XP} {Q : α → Prop} {p : Prop} [Decidable p] {r1 r2 : Ri} (h1 : p → GotI fs env ex Q r1) (h2 : ¬ p → GotI fs env ex Q r2) : GotI fs env ex Q (if p then r1 else r2) := by
  by_cases h : p
  · rw [if_pos h]; exact h1 h
  · rw [if_neg h]; exact h2 h
theorem GotI.eq {α : Type} {fs : α → List (Str × DV)} {ex : XP} {Q : α → Prop} {y : α} {r : Ri} (e : r = .ok (fs y)) (q : Q y) : GotI fs env ex Q r := by rw [e]; exact ⟨y, rfl, q⟩
theorem s_let {α : Type} [Rp α] (i : Nat) (nd : F.X.N.Nodup) (hi : F.X.N[i]? = some x) (h : KE F env e P.ex fun y : α => ∀ z : α, z = y → P.nx (env.set i (.sh (dv z)))) (hx : Loc F.X.env.scope x := by first | exact Or.inl rfl | exact Or.inr rfl) (hs : swapsWith e (some (.Name x p1)) pos.line F.X.env = pure false := by rfl)
    (hf : F.X.fn x = true ∨ F.X.env.scope.names.lookup x = some .local := by exact Or.inl rfl) : KS F env (.Assign [.Name x p1] e pos) P := s_asg i nd hi (ke_imp (fun y h => h y rfl) h) hx hs hf
theorem s_lets {α : Type} {ds : α → List DV} (is : List Nat) {kx : Nat} (hg : PGs F.X es (gNs is)) (hl : ∀ y, is.length = (ds y).length) (h : @KE F env e P.ex α (tpRp ds) fun y => ∀ z : α, z = y → P.nx (setAll env is (ds z))) (hc : F.X.calm = true := by rfl)
    (hn : (assignEach es F.X.env).length = is.length := by rfl) (hst : (assignEach es F.X.env).findIdx? (·.1) = none := by rfl) (hs : swapsWithSole [.Tuple es kx p1] e pos.line F.X.env = pure false := by rfl) (hw : swappedStores [.Tuple es kx p1] e F.X.env = pure none := by rfl)
    (h1 : (assignEach [.Tuple es kx p1] F.X.env).map (·.2) = [assign (.Tuple es kx p1) F.X.env] := by rfl) : KS F env (.Assign [.Tuple es kx p1] e pos) P := by
  letI : Rp α := tpRp ds
  exact s_unpack is hg hl (ke_imp (fun y h => h y rfl) h) hc hn hst hs hw h1
def fgt (env : List Ent) (ns : List Nat) : List Ent := ns.foldl (fun e j => e.set j .no) env
theorem Kn.fgt {σ : L2.St} {H : Hp} : ∀ (ns : List Nat) {env : List Ent} {own : Nat → Option Addr}, F.Kn own env σ H → ∃ own', F.Kn own' (Rk.fgt env ns) σ H ∧ Fr F.hs own own' H H
  | [], _, own, k => ⟨own, k, Fr.refl⟩
  | n :: ns, _, _, k => by
    obtain ⟨o, k', f⟩ := Kn.fgt ns (k.forget n)
    exact ⟨o, k', (Fr.drop n).trans f⟩
theorem At.fgt {own : Nat → Option Addr} {H : Hp} {q : List Ent → Prop} {σ : L2.St} {H' : Hp} (h : At F own H (fun e => ∃ ns, q (Rk.fgt e ns)) σ H') : At F own H q σ H' := by
  obtain ⟨env, o, k, f, ns, z⟩ := h
  obtain ⟨o', k', f'⟩ := Kn.fgt ns k
  exact ⟨_, o', k', f.trans f', z⟩
theorem turn_fgt {I : List Ent → Prop} (h : KSs F env body (turn P fun e => ∃ ns, I (fgt e ns))) : KSs F env body (turn P I) := KSs.mk fun own σ H k p =>
  tSs_mono (D := ends F own H (turn P fun e => ∃ ns, I (fgt e ns))) (D' := ends F own H (turn P I)) (fun _ _ z => At.fgt z) (fun _ _ z => z) (fun _ _ z => z) (fun _ _ z => At.fgt z) (h own σ H k p)
theorem at_int {i : Nat} {k v : Int} (e : k = v) (h : KSs F (env.set i (.sh (dv k))) sts P) : KSs F (env.set i (.sh (dv v))) sts P := e ▸ h
theorem ks_conv {α β : Type} [Rp α] [Rp β] (i : Nat) {y : α} (z : β) (he : env[i]? = some (.sh (dv y))) (hc : Cv y z) (h : KSs F (env.set i (.sh (dv z))) sts P) : KSs F env sts P :=
  ks_as (fun own σ H k => by
    obtain ⟨v, h1, h2⟩ := k.sh he
    have k2 := k.set (i := i) (v := v) (d := dv z) (hc _ _ _ h2)
    have es : σ.set i (some v) = σ := by
      apply List.ext_getElem?
      intro j
      by_cases q : i = j
      · subst q
        rw [List.getElem?_set_self (List.getElem?_eq_some_iff.mp h1).1, h1]
      · rw [List.getElem?_set_ne q]
    rw [es] at k2
    exact ⟨_, k2, Fr.drop i⟩) h
end
theorem hid_nil (H : Hp) : Hid (fun _ => False) H = H := by
  funext a
  exact hid_at fun z => z
def lawSp (n : Nat) (K : PySem.W.Frag) : Sp := fun vs H Q _ => ∃ (a : Addr) (ns : List Int), vs = [.ref a] ∧ ns.length ≤ n ∧ SqL K H a (ns.map V.int) ∧ ∀ H', Q (.bl true) H'
theorem law_to {n : Nat} {K : PySem.W.Frag} {cls : Nat → Addr} {S : Pm} (h : ∀ ns : List Int, ns.length ≤ n → S [dv (Scr.mk ns)] (.ok (dv true))) : ∀ vs H Q E, lawSp n K vs H Q E → spOf K cls S vs H Q E := by
  rintro vs H Q E ⟨a, ns, rfl, hl, hs, q⟩
  refine ⟨fun _ => False, [dv (Scr.mk ns)], .ok (dv true), fun _ z => z.elim, ⟨⟨a, rfl, ?_⟩, trivial⟩, h ns hl, fun v H' _ r => ?_⟩
  · rw [hid_nil]; exact hs
  · have e : v = V.bl true := r
    rw [e]; exact q H'
theorem law_cx {P : Program} {w : World} {H : Hp} {s : Shared} {e : Value} {s' : Shared} (h : L2.CX P w [] H s (fun _ _ _ => False) e s') : False := by
  obtain ⟨_, _, _, _, _, _, _, _, _, _, _, _, z⟩ := h
  exact z
end Rk
set_option maxHeartbeats 4000000
namespace Rk
open PySem L2 PyProof.Rows
structure Op (α : Type) where
  o : Option α
instance {α : Type} [Rp α] : Rp (Op α) where
  rep := fun G H v a => match a.o with
    | none => v = .non
    | some x => Rp.rep G H v x
  mono := fun {G H H' v a} e h => by
    obtain ⟨o⟩ := a
    cases o with
    | none => exact h
    | some x => exact Rp.mono e h
class NN (α : Type) [Rp α] : Prop where
  ne : ∀ {G : Gm} {H : Hp} {v : V} {x : α}, Rp.rep G H v x → v ≠ .non
theorem nn_ob {α : Type} {c : Nat} {fs : α → List (Str × DV)} : @NN α (obRp c fs) := by
  letI : Rp α := obRp c fs
  exact ⟨fun {G H v x} ⟨p, _, _, e, _⟩ z => by rw [e] at z; cases z⟩
theorem nn_tp {α : Type} {ds : α → List DV} : @NN α (tpRp ds) := by
  letI : Rp α := tpRp ds
  exact ⟨fun {G H v x} ⟨p, _, e, _⟩ z => by rw [e] at z; cases z⟩
instance {α : Type} [Rp α] : NN (List α) := ⟨fun {G H v x} ⟨p, _, e, _⟩ z => by rw [e] at z; cases z⟩
instance : NN Int := ⟨fun {G H v x} e z => by
  have e : v = V.int x := e
  rw [e] at z; cases z⟩
instance {α : Type} [Rp α] [NN α] : Nn (Op α) := ⟨fun a => a.o.isNone, fun {G H v a} h => by
  obtain ⟨o⟩ := a
  cases o with
  | none =>
    have e : v = .non := h
    rw [e]; rfl
  | some x => exact decide_eq_false (NN.ne (show Rp.rep G H v x from h))⟩
theorem cv_op {α : Type} [Rp α] {t : Op α} {x : α} (h : t.o = some x) : Cv t x := fun G H v r => by
  obtain ⟨o⟩ := t
  have h : o = some x := h
  subst h
  exact r
section
variable {F : Fx} {env : List Ent} {ex : XP} {a b c e it : Expr} {es : List Expr} {pos p0 p1 : Pos} {n x : Str} {P : Po} {st : Stmt} {sts ss body : List Stmt}
theorem k_nonO {α : Type} [Rp α] {j} {Q : Op α → Prop} (q : Q ⟨none⟩) : KE F env (.Constant .none j pos) ex Q := fun own σ H k p => tE_of pe_non ⟨⟨none⟩, Same.refl H, rfl, q⟩
theorem g_tupK {α : Type} {ds : α → List DV} {K : PySem.W.Frag} (is : List Nat) {kx : Nat} (hK : F.X.K = K) (hg : PGs F.X es (gNs is)) (hl : ∀ y, is.length = (ds y).length) (hc : F.X.calm = true) (hn : (assignEach es F.X.env).length = is.length) (hst : (assignEach es F.X.env).findIdx? (·.1) = none) :
    @Tg F (.Tuple es kx pos) α (tpRp ds) (gTup K is.length (gNs is)) is fun y env => setAll env is (ds y) := by
  subst hK
  exact g_tup is hg hl hc hn hst
end
end Rk
set_option maxHeartbeats 4000000
namespace Rk
open PySem L2 PyProof.Rows
inductive KeyD where
  | b (x : Bool)
  | t (xs : List Int)
  deriving DecidableEq
def numV : V → Option Int
  | .int i => some i
  | .bl b => some (b2 b)
  | _ => none
def KeyRep (H : Hp) (x : V) : KeyD → Prop
  | .b y => x = .bl y
  | .t ks => ∃ p vs, x = .ref p ∧ H p = some (.tup vs) ∧ vs.map numV = ks.map some
theorem KeyRep.mono {H H' : Hp} (e : Same H H') {x : V} : ∀ {k : KeyD}, KeyRep H x k → KeyRep H' x k
  | .b _, h => h
  | .t _, ⟨p, vs, h1, h2, h3⟩ => ⟨p, vs, h1, e _ _ h2, h3⟩
def hashD : KeyD → Int
  | .b x => PpSet.hB x
  | .t ks => reduceHash (Builtin.Tuple.tupleHashOf (ks.map hashInt))
abbrev nk (ks : List Int) : NestedKey := .tup (ks.map .num)
theorem nk_inj {a b : List Int} (h : nk a = nk b) : a = b := by
  unfold nk at h
  injection h with h
  induction a generalizing b with
  | nil => cases b with
    | nil => rfl
    | cons => cases h
  | cons x xs ih =>
    cases b with
    | nil => cases h
    | cons y ys =>
      rw [List.map_cons, List.map_cons] at h
      injection h with h1 h2
      injection h1 with h1
      rw [h1, ih h2]
theorem hashes_num (w : World) : ∀ ks : List Int, NestedKey.hashes w (ks.map .num) = ks.map hashInt
  | [] => rfl
  | k :: ks => by
    show NestedKey.hash w (.num k) :: NestedKey.hashes w (ks.map .num) = _
    rw [hashes_num w ks]; rfl
theorem hash_nk (w : World) (ks : List Int) : NestedKey.hash w (nk ks) = hashD (.t ks) := by
  show reduceHash (Builtin.Tuple.tupleHashOf (NestedKey.hashes w (ks.map .num))) = _
  rw [hashes_num]; rfl
theorem depth_num : ∀ ks : List Int, NestedKey.depthAll (ks.map .num) = 0
  | [] => rfl
  | k :: ks => by
    show max (NestedKey.depth (.num k)) (NestedKey.depthAll (ks.map .num)) = 0
    rw [depth_num ks]; rfl
theorem nested_one {h : Heap} {v : V} {i : Int} {u : Value} (e : numV v = some i) (r : RelV v u) : NestedIs h (.num i) u := by
  cases v with
  | int j =>
    have e : some j = some i := e
    cases e
    obtain ⟨t, q⟩ := (show ∃ t, u = Value.int i t from r)
    subst q
    exact .int _ _
  | bl b =>
    have e : some (b2 b) = some i := e
    cases e
    have q : u = Value.bool b := r
    subst q
    exact .bool rfl
  | _ => cases e
theorem nested_all {h : Heap} : ∀ {vs : List V} {us : List Value} {ks : List Int}, Vals vs us → vs.map numV = ks.map some → NestedAll h (ks.map .num) us
  | [], _, ks, r, e => by
    cases r
    cases ks with
    | nil => exact .nil
    | cons => cases e
  | v :: vs, _, ks, r, e => by
    cases r with
    | cons r1 r2 =>
      cases ks with
      | nil => cases e
      | cons k ks =>
        rw [List.map_cons, List.map_cons] at e
        injection e with e1 e2
        exact .cons (nested_one e1 r1) (nested_all r2 e2)
theorem nested_at {P : Program} {w : World} {H : Hp} {h : Heap} {p : Addr} {vs : List V} {ks : List Int} (ok : HOk P w H h) (e : H p = some (.tup vs)) (q : vs.map numV = ks.map some) : (nestedKind P w).is h (nk ks) p := by
  obtain ⟨_, its, r, o, h1, h2, n, h3⟩ := (show ObjOk P w H h p (.tup vs) from ok p _ e)
  refine ⟨.tup h1 h2 h3 ?_, ?_⟩
  · have z := nested_all (h := h) r q
    simpa using z
  · show NestedKey.depthAll (ks.map .num) + 1 ≤ 8
    rw [depth_num]; decide
structure En where
  h : Int
  k : V
  v : V
def EnOk (e : En) (d : DictEntry) : Prop := d.hash = e.h ∧ RelV e.k d.key ∧ RelV e.v d.val
def DictAt (a : Addr) (es : List En) (h : Heap) : Prop := es.length ≤ sizeLine ∧ (a == sysModules) = false ∧ ∃ o arr ep, h.get? a = some o ∧ o.ExactDict ∧ o.data = .dict arr ep ∧ Paired EnOk es arr.toList
def DO (a : Addr) (es : List En) : HO := .ext (DictAt a es)
theorem dictAt_stays {a : Addr} {es : List En} (h1 h2 : Heap) (d : DictAt a es h1) (k : ∀ o, h1.get? a = some o → h2.get? a = some o) : DictAt a es h2 := by
  obtain ⟨l, s, o, arr, ep, ho, r⟩ := d
  exact ⟨l, s, o, arr, ep, k o ho, r⟩
theorem do_ok {P : Program} {w : World} {H : Hp} {h : Heap} {a : Addr} {es : List En} (d : DictAt a es h) : ObjOk P w H h a (DO a es) := by
  refine ⟨d, ?_, dictAt_stays⟩
  obtain ⟨_, _, o, _, _, ho, _⟩ := d
  exact ⟨o, ho⟩
theorem do_at {P : Program} {w : World} {H : Hp} {h : Heap} {a : Addr} {es : List En} (ok : HOk P w H h) (e : Rd H a (DO a es)) : DictAt a es h := (show ObjOk P w H h a (DO a es) from e.ok ok).1
abbrev KeysAt (H : Hp) (es : List En) (ks : List KeyD) : Prop := Paired (fun e k => e.h = hashD k ∧ KeyRep H e.k k) es ks
theorem ents_t {P : Program} {w : World} {H : Hp} {h : Heap} (ok : HOk P w H h) : ∀ {es : List En} {ds : List DictEntry} {ks : List (List Int)}, Paired EnOk es ds → KeysAt H es (ks.map .t) →
    ∃ xs : List (NestedKey × Addr × Value), ds = xs.map (entryOfKey (nestedKind P w)) ∧ xs.map (·.1) = ks.map nk ∧ (∀ x ∈ xs, (nestedKind P w).is h x.1 x.2.1) ∧ Paired (fun (e : En) x => e.k = .ref x.2.1 ∧ RelV e.v x.2.2) es xs
  | [], ds, ks, p, q => by
    cases p
    cases ks with
    | nil => exact ⟨[], rfl, rfl, ⟨fun _ h => (List.not_mem_nil h).elim, .nil⟩⟩
    | cons => cases q
  | e :: es, ds, ks, p, q => by
    cases p with
    | @cons _ d _ ds p1 p2 =>
      cases ks with
      | nil => cases q
      | cons k ks =>
        cases q with
        | cons q1 q2 =>
          obtain ⟨xs, h1, h2, h3, h4⟩ := ents_t ok p2 q2
          obtain ⟨hh, hk, hv⟩ := p1
          obtain ⟨eh, b, vs, ek, hb, hn⟩ := q1
          rw [ek] at hk
          refine ⟨(nk k, b, d.val) :: xs, ?_, ?_, ?_, .cons ⟨ek, hv⟩ h4⟩
          · rw [List.map_cons, h1]
            congr 1
            obtain ⟨dh, dk, dv⟩ := d
            have hk : dk = Value.ref b := hk
            have hh : dh = e.h := hh
            unfold entryOfKey
            rw [hk, hh, eh]
            show _ = DictEntry.mk (NestedKey.hash w (nk k)) _ _
            rw [hash_nk]
          · rw [List.map_cons, List.map_cons, h2]
          · intro x hx
            rcases List.mem_cons.mp hx with rfl | hx
            · exact nested_at ok hb hn
            · exact h3 x hx
theorem nodup_nk {ks : List (List Int)} (h : ks.Nodup) : (ks.map nk).Nodup := List.Pairwise.map _ (fun a b n e => n (nk_inj e)) h
theorem nodup_t {ks : List (List Int)} (h : (ks.map KeyD.t).Nodup) : ks.Nodup := by
  rw [List.nodup_iff_pairwise_ne, List.pairwise_map] at h
  exact h.imp fun n e => n (by rw [e])
theorem nodup_b {ks : List Bool} (h : (ks.map KeyD.b).Nodup) : ks.Nodup := by
  rw [List.nodup_iff_pairwise_ne, List.pairwise_map] at h
  exact h.imp fun n e => n (by rw [e])
theorem ents_b {P : Program} {w : World} {H : Hp} : ∀ {es : List En} {ds : List DictEntry} {ks : List Bool}, Paired EnOk es ds → KeysAt H es (ks.map .b) →
    ∃ xs : List (Bool × Value), Pairs (PpSet.boolK P w) ds xs ∧ xs.map (·.1) = ks ∧ (∀ d ∈ ds, ∃ k, (PpSet.boolK P w).is k d.key = true ∧ d.hash = (PpSet.boolK P w).hash k) ∧ Paired (fun (e : En) x => RelV e.v x.2) es xs
  | [], ds, ks, p, q => by
    cases p
    cases ks with
    | nil => exact ⟨[], .nil, rfl, ⟨fun _ h => (List.not_mem_nil h).elim, .nil⟩⟩
    | cons => cases q
  | e :: es, ds, ks, p, q => by
    cases p with
    | @cons _ d _ ds p1 p2 =>
      cases ks with
      | nil => cases q
      | cons k ks =>
        cases q with
        | cons q1 q2 =>
          obtain ⟨xs, h1, h2, h3, h4⟩ := ents_b (P := P) (w := w) p2 q2
          obtain ⟨hh, hk, hv⟩ := p1
          obtain ⟨eh, ek⟩ := q1
          have ek : e.k = V.bl k := ek
          rw [ek] at hk
          have hk : d.key = Value.bool k := hk
          have is : (PpSet.boolK P w).is k d.key = true := by rw [hk]; exact PpSet.boolK_is P w k
          refine ⟨(k, d.val) :: xs, .cons is rfl h1, ?_, ?_, .cons hv h4⟩
          · rw [List.map_cons, h2]
          · intro x hx
            rcases List.mem_cons.mp hx with rfl | hx
            · exact ⟨k, is, by rw [hh, eh]; rfl⟩
            · exact h3 x hx
inductive Hom : List KeyD → KeyD → Prop
  | b (ks : List Bool) (k : Bool) : Hom (ks.map .b) (.b k)
  | t (ks : List (List Int)) (k : List Int) : Hom (ks.map .t) (.t k)
theorem valueAt_get {κ : Type} [DecidableEq κ] : ∀ {xs : List (κ × Value)} {i : Nat} {k : κ} {v : Value}, (xs.map (·.1)).Nodup → xs[i]? = some (k, v) → valueAt xs k = some v
  | [], _, _, _, _, e => by simp at e
  | x :: xs, 0, k, v, _, e => by
    have e : x = (k, v) := by simpa using e
    subst e
    simp [valueAt]
  | x :: xs, i + 1, k, v, n, e => by
    rw [List.map_cons, List.nodup_cons] at n
    have e : xs[i]? = some (k, v) := by simpa using e
    have m : k ∈ xs.map (·.1) := List.mem_map.mpr ⟨(k, v), List.mem_of_getElem? e, rfl⟩
    have ne : ¬ x.1 = k := fun z => n.1 (z ▸ m)
    have ih := valueAt_get n.2 e
    unfold valueAt at ih ⊢
    rw [List.find?_cons]
    simp only [ne, decide_false]
    exact ih
theorem valueAt_in {κ : Type} [DecidableEq κ] (xs : List (κ × Value)) (k : κ) : (valueAt xs k).isSome = decide (k ∈ xs.map (·.1)) := by
  unfold valueAt
  rw [Option.isSome_map]
  by_cases h : k ∈ xs.map (·.1)
  · rw [decide_eq_true h]
    obtain ⟨x, hx, e⟩ := List.mem_map.mp h
    rw [List.find?_isSome]
    exact ⟨x, hx, by simp [e]⟩
  · rw [decide_eq_false h]
    cases q : xs.find? fun kv => decide (kv.1 = k) with
    | none => rfl
    | some x =>
      have := List.find?_some q
      exact absurd (List.mem_map.mpr ⟨x, List.mem_of_find?_eq_some q, by simpa using this⟩) h
theorem atKey_in {κ : Type} [DecidableEq κ] (xs : List (κ × Addr × Value)) (k : κ) : (atKey xs k).isSome = decide (k ∈ xs.map (·.1)) := by
  unfold atKey
  rw [Option.isSome_map]
  by_cases h : k ∈ xs.map (·.1)
  · rw [decide_eq_true h]
    obtain ⟨x, hx, e⟩ := List.mem_map.mp h
    rw [List.find?_isSome]
    exact ⟨x, hx, by simp [e]⟩
  · rw [decide_eq_false h]
    cases q : xs.find? fun kv => decide (kv.1 = k) with
    | none => rfl
    | some x =>
      have := List.find?_some q
      exact absurd (List.mem_map.mpr ⟨x, List.mem_of_find?_eq_some q, by simpa using this⟩) h
theorem mem_b {ks : List Bool} {k : Bool} : KeyD.b k ∈ ks.map KeyD.b ↔ k ∈ ks := by
  rw [List.mem_map]
  exact ⟨fun ⟨x, hx, e⟩ => by injection e with e; exact e ▸ hx, fun h => ⟨k, h, rfl⟩⟩
theorem mem_t {ks : List (List Int)} {k : List Int} : KeyD.t k ∈ ks.map KeyD.t ↔ nk k ∈ ks.map nk := by
  rw [List.mem_map, List.mem_map]
  exact ⟨fun ⟨x, hx, e⟩ => by injection e with e; exact ⟨x, hx, by rw [e]⟩, fun ⟨x, hx, e⟩ => ⟨x, hx, by rw [nk_inj e]⟩⟩
section
variable {X : Cx} {pins : List (Addr × Obj)} {σ : L2.St} {H : Hp} {s : Shared} {a : Addr} {es : List En} {ks : List KeyD} {k : KeyD} {y : V} {u : Value} {A : Around} {E : Value → Shared → Prop}
theorem lib_b {ks : List Bool} (I : Inv X pins σ H s) (hD : Rd H a (DO a es)) (hk : KeysAt H es (ks.map .b)) (nd : (ks.map KeyD.b).Nodup) :
    ∃ xs : List (Bool × Value), s.heap.DictOf (PpSet.boolK X.prog X.w) a xs ∧ xs.map (·.1) = ks ∧ Paired (fun (e : En) x => RelV e.v x.2) es xs ∧ (a == sysModules) = false ∧ es.length ≤ sizeLine := by
  obtain ⟨hl, hs, o, arr, ep, ho, hex, hd, hp⟩ := do_at I.hok hD
  obtain ⟨xs, h1, h2, h3, h4⟩ := ents_b (P := X.prog) (w := X.w) hp hk
  exact ⟨xs, ⟨o, arr, ep, ho, hex, hd, fun e he => h3 e (Array.mem_def.mp he), h1, by rw [h2]; exact nodup_b nd⟩, h2, h4, hs, hl⟩
theorem lib_t {ks : List (List Int)} (I : Inv X pins σ H s) (hD : Rd H a (DO a es)) (hk : KeysAt H es (ks.map .t)) (nd : (ks.map KeyD.t).Nodup) :
    ∃ xs : List (NestedKey × Addr × Value), s.heap.DictOfH (nestedKind X.prog X.w) a xs ∧ xs.map (·.1) = ks.map nk ∧ Paired (fun (e : En) x => e.k = .ref x.2.1 ∧ RelV e.v x.2.2) es xs ∧ (a == sysModules) = false ∧ es.length ≤ sizeLine := by
  obtain ⟨hl, hs, o, arr, ep, ho, hex, hd, hp⟩ := do_at I.hok hD
  obtain ⟨xs, h1, h2, h3, h4⟩ := ents_t I.hok hp hk
  exact ⟨xs, ⟨o, arr, ep, ho, hex, hd, h1, h3, by rw [h2]; exact nodup_nk (nodup_t nd)⟩, h2, h4, hs, hl⟩
theorem key_of_t {ks : List Int} (I : Inv X pins σ H s) (hy : KeyRep H y (.t ks)) (ry : RelV y u) : ∃ b, u = .ref b ∧ y = .ref b ∧ (nestedKind X.prog X.w).is s.heap (nk ks) b := by
  obtain ⟨p, vs, e, hp, hn⟩ := hy
  subst e
  exact ⟨p, ry, rfl, nested_at I.hok hp hn⟩
theorem key_of_b {b : Bool} (hy : KeyRep H y (.b b)) (ry : RelV y u) : u = .bool b := by
  have e : y = V.bl b := hy
  subst e
  exact ry
theorem room_nk (hu : A.units + 16 < cLine) : (nestedKind X.prog X.w).room A.in1 := by
  show A.in1.units + 8 < cLine
  rw [Around.in1_units]; omega
theorem dx_get {i : Nat} {e : En} {Q : Value → Shared → Prop} (hu : A.units + 16 < cLine) (I : Inv X pins σ H s) (hD : Rd H a (DO a es)) (hk : KeysAt H es ks) (nd : ks.Nodup) (hom : Hom ks k) (he : es[i]? = some e) (hi : ks[i]? = some k) (hy : KeyRep H y k) (ry : RelV y u)
    (h : ∀ w' s', Inv X pins σ H s' → RelV e.v w' → Q w' s') : wpAny (model X.prog X.w) A (getItem (.ref a) u) Q E s := by
  cases hom with
  | b ks k =>
    obtain ⟨xs, dd, hx, hp, _, _⟩ := lib_b I hD hk nd
    rw [key_of_b hy ry]
    obtain ⟨⟨k', w'⟩, hxi, hr⟩ := paired_get hp he
    have hki : (xs.map (·.1))[i]? = some k := by
      rw [hx]
      rw [List.getElem?_map] at hi
      cases q : ks[i]? with
      | none => rw [q] at hi; cases hi
      | some z =>
        rw [q] at hi
        have hi : KeyD.b z = KeyD.b k := Option.some.inj hi
        injection hi with hi
        rw [hi]
    have ek : k' = k := by
      rw [List.getElem?_map, hxi] at hki
      exact Option.some.inj hki
    subst ek
    refine wpAny_getItem_of (PpSet.boolK_is _ _ k') dd.mapOf (valueAt_get (by rw [hx]; exact nodup_b nd) hxi) (h w' _ (I.tok _) hr)
  | t ks k =>
    obtain ⟨xs, dd, hx, hp, _, _⟩ := lib_t I hD hk nd
    obtain ⟨b, eu, _, is⟩ := key_of_t I hy ry
    rw [eu]
    obtain ⟨⟨k', p⟩, hxi, _, hr⟩ := paired_get hp he
    have hki : (xs.map (·.1))[i]? = some (nk k) := by
      rw [hx, List.getElem?_map]
      rw [List.getElem?_map] at hi
      cases q : ks[i]? with
      | none => rw [q] at hi; cases hi
      | some z =>
        rw [q] at hi
        have hi : KeyD.t z = KeyD.t k := Option.some.inj hi
        injection hi with hi
        rw [hi]; rfl
    have ek : k' = nk k := by
      rw [List.getElem?_map, hxi] at hki
      exact Option.some.inj hki
    subst ek
    exact wpAny_getItem_heap (room_nk hu) is dd (atKey_of_get (by rw [hx]; exact nodup_nk (nodup_t nd)) hxi) (h p.2 _ (I.tok _) hr)
theorem dx_in {Q : Value → Shared → Prop} (hu : A.units + 16 < cLine) (I : Inv X pins σ H s) (hD : Rd H a (DO a es)) (hk : KeysAt H es ks) (nd : ks.Nodup) (hom : Hom ks k) (hy : KeyRep H y k) (ry : RelV y u)
    (h : ∀ s', Inv X pins σ H s' → Q (.bool (decide (k ∈ ks))) s') : wpAny (model X.prog X.w) A (compareOp .In u (.ref a)) Q E s := by
  cases hom with
  | b ks k =>
    obtain ⟨xs, dd, hx, hp, hs, _⟩ := lib_b I hD hk nd
    rw [key_of_b hy ry]
    refine wpAny_in_of (PpSet.boolK_is _ _ k) hs dd.mapOf ?_
    rw [valueAt_in, hx, ← decide_eq_decide.mpr (mem_b (ks := ks) (k := k))]
    exact h _ (I.tok _)
  | t ks k =>
    obtain ⟨xs, dd, hx, hp, hs, _⟩ := lib_t I hD hk nd
    obtain ⟨b, eu, _, is⟩ := key_of_t I hy ry
    rw [eu]
    refine wpAny_in_heap (room_nk hu) is hs dd ?_
    rw [atKey_in, hx, ← decide_eq_decide.mpr (mem_t (ks := ks) (k := k))]
    exact h _ (I.tok _)
theorem dx_notIn {Q : Value → Shared → Prop} (hu : A.units + 16 < cLine) (I : Inv X pins σ H s) (hD : Rd H a (DO a es)) (hk : KeysAt H es ks) (nd : ks.Nodup) (hom : Hom ks k) (hy : KeyRep H y k) (ry : RelV y u)
    (h : ∀ s', Inv X pins σ H s' → Q (.bool (!decide (k ∈ ks))) s') : wpAny (model X.prog X.w) A (compareOp .NotIn u (.ref a)) Q E s := by
  cases hom with
  | b ks k =>
    obtain ⟨xs, dd, hx, hp, hs, _⟩ := lib_b I hD hk nd
    rw [key_of_b hy ry]
    refine wpAny_notIn_of (PpSet.boolK_is _ _ k) hs dd.mapOf ?_
    rw [valueAt_in, hx, ← decide_eq_decide.mpr (mem_b (ks := ks) (k := k))]
    exact h _ (I.tok _)
  | t ks k =>
    obtain ⟨xs, dd, hx, hp, hs, _⟩ := lib_t I hD hk nd
    obtain ⟨b, eu, _, is⟩ := key_of_t I hy ry
    rw [eu]
    refine wpAny_notIn_heap (room_nk hu) is hs dd ?_
    rw [atKey_in, hx, ← decide_eq_decide.mpr (mem_t (ks := ks) (k := k))]
    exact h _ (I.tok _)
end
end Rk
set_option maxHeartbeats 4000000
namespace Rk
open PySem L2 PyProof.Rows
theorem back_b {P : Program} {w : World} {H : Hp} : ∀ {es : List En} {ds : List DictEntry} {xs : List (Bool × Value)} {ks : List Bool}, Pairs (PpSet.boolK P w) ds xs → (∀ d ∈ ds, ∃ k, (PpSet.boolK P w).is k d.key = true ∧ d.hash = (PpSet.boolK P w).hash k) → xs.map (·.1) = ks → KeysAt H es (ks.map .b) →
    Paired (fun (e : En) x => RelV e.v x.2) es xs → Paired EnOk es ds
  | [], _, _, _, p, _, _, _, v => by
    cases v
    cases p
    exact .nil
  | e :: es, _, _, ks, p, q, hx, hk, v => by
    cases v with
    | cons v1 v2 =>
      cases p with
      | cons p1 p2 p3 =>
        rw [List.map_cons] at hx
        subst hx
        rw [List.map_cons] at hk
        cases hk with
        | cons k1 k2 =>
          refine .cons ⟨?_, ?_, ?_⟩ (back_b p3 (fun d hd => q d (List.mem_cons_of_mem _ hd)) rfl k2 v2)
          · obtain ⟨k, h1, h2⟩ := q _ List.mem_cons_self
            have e1 := PpSet.isB_shape h1
            have e2 := PpSet.isB_shape p1
            rw [e1] at e2
            injection e2 with e2
            rw [h2, k1.1, e2]; rfl
          · have e2 := PpSet.isB_shape p1
            rw [e2, show e.k = _ from k1.2]; rfl
          · rw [p2]; exact v1
theorem back_t {P : Program} {w : World} {H : Hp} : ∀ {es : List En} {xs : List (NestedKey × Addr × Value)} {ks : List (List Int)}, xs.map (·.1) = ks.map nk → KeysAt H es (ks.map .t) → Paired (fun (e : En) x => e.k = .ref x.2.1 ∧ RelV e.v x.2.2) es xs → Paired EnOk es (xs.map (entryOfKey (nestedKind P w)))
  | [], _, _, _, _, v => by
    cases v
    exact .nil
  | e :: es, _, ks, hx, hk, v => by
    cases v with
    | @cons _ x _ xs v1 v2 =>
      cases ks with
      | nil => cases hk
      | cons k ks =>
        rw [List.map_cons, List.map_cons] at hx
        injection hx with hx1 hx2
        rw [List.map_cons] at hk
        cases hk with
        | cons k1 k2 =>
          refine .cons ⟨?_, ?_, v1.2⟩ (back_t hx2 k2 v2)
          · show NestedKey.hash w x.1 = e.h
            rw [hx1, hash_nk, k1.1]
          · show RelV e.k (.ref x.2.1)
            rw [v1.1]; rfl
section
variable {X : Cx} {pins : List (Addr × Obj)} {σ : L2.St} {H : Hp} {s : Shared} {a : Addr} {es : List En} {ks : List KeyD} {k : KeyD} {y v : V} {u r : Value} {A : Around} {E : Value → Shared → Prop}
theorem stored_new {κ : Type} [DecidableEq κ] {xs : List (κ × Value)} {k : κ} {r : Value} (h : k ∉ xs.map (·.1)) : stored xs k r = xs ++ [(k, r)] := by
  unfold stored
  rw [if_neg]
  intro z
  rw [List.any_eq_true] at z
  obtain ⟨x, hx, e⟩ := z
  exact h (List.mem_map.mpr ⟨x, hx, by simpa using e⟩)
theorem storedT_new {κ : Type} [DecidableEq κ] {xs : List (κ × Addr × Value)} {k : κ} {b : Addr} {r : Value} (h : k ∉ xs.map (·.1)) : storedH xs k b r = xs ++ [(k, b, r)] := by
  refine storedH_new ?_ b r
  cases q : atKey xs k with
  | none => rfl
  | some p =>
    have z := atKey_in xs k
    rw [q, decide_eq_false h] at z
    cases z
theorem put_b {ks : List Bool} {k : Bool} {xs : List (Bool × Value)} {h' : Heap} (hx : xs.map (·.1) = ks) (hp : Paired (fun (e : En) x => RelV e.v x.2) es xs) (hk : KeysAt H es (ks.map .b)) (hn : KeyD.b k ∉ ks.map KeyD.b) (hy : KeyRep H y (.b k)) (rv : RelV v r) (hs : (a == sysModules) = false) (hl : es.length < sizeLine)
    (dd : h'.DictOf (PpSet.boolK X.prog X.w) a (stored xs k r)) : DictAt a (es ++ [⟨hashD (.b k), y, v⟩]) h' := by
  rw [stored_new (by rw [hx]; exact fun z => hn (mem_b.mpr z))] at dd
  obtain ⟨o, arr, ep, ho, hex, hd, hko, hpr, _⟩ := dd
  refine ⟨by rw [List.length_append]; exact hl, hs, o, arr, ep, ho, hex, hd, ?_⟩
  refine back_b (H := H) (ks := ks ++ [k]) hpr (fun d hd => hko d (Array.mem_def.mpr hd)) (by rw [List.map_append, hx]; rfl) ?_ (Paired.snoc hp rv)
  rw [List.map_append]
  exact Paired.snoc hk ⟨rfl, hy⟩
theorem put_t {ks : List (List Int)} {k : List Int} {xs : List (NestedKey × Addr × Value)} {b : Addr} {h' : Heap} (hx : xs.map (·.1) = ks.map nk) (hp : Paired (fun (e : En) x => e.k = .ref x.2.1 ∧ RelV e.v x.2.2) es xs) (hk : KeysAt H es (ks.map .t)) (hn : KeyD.t k ∉ ks.map KeyD.t) (hy : KeyRep H y (.t k)) (ey : y = .ref b) (rv : RelV v r)
    (hs : (a == sysModules) = false) (hl : es.length < sizeLine) (dd : h'.DictOfH (nestedKind X.prog X.w) a (storedH xs (nk k) b r)) : DictAt a (es ++ [⟨hashD (.t k), y, v⟩]) h' := by
  rw [storedT_new (by rw [hx]; exact fun z => hn (mem_t.mpr z))] at dd
  obtain ⟨o, arr, ep, ho, hex, hd, hpr, _, _⟩ := dd
  refine ⟨by rw [List.length_append]; exact hl, hs, o, arr, ep, ho, hex, hd, ?_⟩
  rw [hpr]
  refine back_t (H := H) (ks := ks ++ [k]) (by rw [List.map_append, List.map_append, hx]; rfl) ?_ (Paired.snoc hp ⟨ey, rv⟩)
  rw [List.map_append]
  exact Paired.snoc hk ⟨rfl, hy⟩
theorem dx_dictSet {Q : Unit → Shared → Prop} (hu : A.units + 16 < cLine) (I : Inv X pins σ H s) (hD : H a = some (DO a es)) (hk : KeysAt H es ks) (nd : ks.Nodup) (hom : Hom ks k) (hn : k ∉ ks) (hl : es.length < sizeLine) (hy : KeyRep H y k) (ry : RelV y u) (rv : RelV v r)
    (h : ∀ s', Inv X pins σ (upd H a (DO a (es ++ [⟨hashD k, y, v⟩]))) s' → Q () s') : wpAny (model X.prog X.w) A (dictSet a u r) Q E s := by
  cases hom with
  | b ks k =>
    obtain ⟨xs, dd, hx, hp, hs, hl0⟩ := lib_b I (.of hD) hk nd
    have lx : xs.length = es.length := (Paired.length hp).symm
    rw [key_of_b hy ry]
    refine wpAny_dictSet_pairs (hsz := by rw [lx]; exact hl0) (PpSet.boolK_is _ _ k) dd fun h' dd' sb => h _ ?_
    have na := put_b (X := X) hx hp hk hn hy rv hs hl dd'
    exact d_write I (by rw [hD]; exact True.intro) sb (let ⟨_, _, q, _, _, hq, _⟩ := na; ⟨q, hq⟩) (do_ok na)
  | t ks k =>
    obtain ⟨xs, dd, hx, hp, hs, hl0⟩ := lib_t I (.of hD) hk nd
    obtain ⟨b, eu, ey, is⟩ := key_of_t I hy ry
    have lx : xs.length = es.length := (Paired.length hp).symm
    rw [eu]
    refine wpAny_dictSet_heap (hsz := by rw [lx]; exact hl0) (by show A.units + 8 < cLine; omega) is dd fun h' dd' sb => h _ ?_
    have na := put_t (X := X) hx hp hk hn hy ey rv hs hl dd'
    exact d_write I (by rw [hD]; exact True.intro) sb (let ⟨_, _, q, _, _, hq, _⟩ := na; ⟨q, hq⟩) (do_ok na)
theorem dx_setItem {Q : Unit → Shared → Prop} (hu : A.units + 16 < cLine) (I : Inv X pins σ H s) (hD : H a = some (DO a es)) (hk : KeysAt H es ks) (nd : ks.Nodup) (hom : Hom ks k) (hn : k ∉ ks) (hl : es.length < sizeLine) (hy : KeyRep H y k) (ry : RelV y u) (rv : RelV v r)
    (h : ∀ s', Inv X pins σ (upd H a (DO a (es ++ [⟨hashD k, y, v⟩]))) s' → Q () s') : wpAny (model X.prog X.w) A (setItem (.ref a) u r) Q E s := by
  cases hom with
  | b ks k =>
    obtain ⟨xs, dd, hx, hp, hs, hl0⟩ := lib_b I (.of hD) hk nd
    have lx : xs.length = es.length := (Paired.length hp).symm
    rw [key_of_b hy ry]
    refine wpAny_setItem_pairs (hsz := by rw [lx]; exact hl0) (PpSet.boolK_is _ _ k) dd fun h' dd' sb => h _ ?_
    have na := put_b (X := X) hx hp hk hn hy rv hs hl dd'
    exact d_write I (by rw [hD]; exact True.intro) sb (let ⟨_, _, q, _, _, hq, _⟩ := na; ⟨q, hq⟩) (do_ok na)
  | t ks k =>
    obtain ⟨xs, dd, hx, hp, hs, hl0⟩ := lib_t I (.of hD) hk nd
    obtain ⟨b, eu, ey, is⟩ := key_of_t I hy ry
    have lx : xs.length = es.length := (Paired.length hp).symm
    rw [eu]
    refine wpAny_setItem_heap (hsz := by rw [lx]; exact hl0) (room_nk hu) is dd fun h' dd' sb => h _ ?_
    have na := put_t (X := X) hx hp hk hn hy ey rv hs hl dd'
    exact d_write I (by rw [hD]; exact True.intro) sb (let ⟨_, _, q, _, _, hq, _⟩ := na; ⟨q, hq⟩) (do_ok na)
theorem do_empty {P : Program} {w : World} {H : Hp} (h : Heap) (hb : sysModules < h.objs.size) : ObjOk P w H (h.push { cls := .type "dict", data := .dict #[] }) h.objs.size (DO h.objs.size []) :=
  do_ok ⟨Nat.zero_le _, beq_eq_false_iff_ne.mpr (Ne.symm (Nat.ne_of_lt hb)), _, #[], 0, Heap.get?_push_size _ rfl, ⟨rfl, rfl, rfl⟩, rfl, .nil⟩
theorem pe_dnewX {pos : Pos} : PE X (.Dict [] [] pos) (fun _ H Q => ∀ p, H p = none → Q (.ref p) (upd H p (DO p []))) := ⟨fun pins s σ H Q I h =>
  wpAny_Dict_empty ⟨.ref s.heap.objs.size, _, I.laid (a := s.heap.objs.size) (o := DO s.heap.objs.size []) (t' := s.toks) (fun _ _ q => Heap.get?_push_of_some _ q) (Nat.le_refl _) (do_empty s.heap I.big), rfl, h _ (I.hok.fresh (Nat.le_refl _))⟩⟩
theorem pe_dgetX {o i : Expr} {pos : Pos} {td ty : TE} (hu : X.A.units + 16 < cLine) (ho : PE X o td) (hi : PE X i ty) (hs : NoSl i) :
    PE X (.Subscript o i pos) (fun σ H Q => td σ H fun x H1 => ty σ H1 fun y H2 => ∃ (a : Addr) (es : List En) (ks : List KeyD) (j : Nat) (e : En) (k : KeyD), x = .ref a ∧ Rd H2 a (DO a es) ∧ KeysAt H2 es ks ∧ ks.Nodup ∧ Hom ks k ∧ es[j]? = some e ∧ ks[j]? = some k ∧ KeyRep H2 y k ∧ Q e.v H2) := by
  refine ⟨fun pins s σ H Q I h => ?_⟩
  refine subD_of PySem.F.slot_dict_getitem.lookup hs (thn (ho.run pins s σ H _ I h) fun u s1 ⟨x, H1, I1, rx, q1⟩ => thn (hi.run pins s1 σ H1 _ I1 q1) fun iv s2 ⟨y, H2, I2, ry, a, es, ks, j, e, k, ex, hD, hk, nd, hom, he, hkj, hy, q2⟩ => ?_)
  subst ex
  obtain rfl : u = Value.ref a := rx
  refine ⟨?_, dx_get hu I2 hD hk nd hom he hkj hy ry fun w' s3 I3 rw' => ⟨e.v, H2, I3, rw', q2⟩⟩
  obtain ⟨_, _, ob, _, _, hob, hex, _⟩ := do_at I2.hok hD
  exact ⟨ob, hob, hex.1⟩
theorem ps_dputX {o i value : Expr} {pos pos' : Pos} {td ty tv : TE} (hu : X.A.units + 16 < cLine) (ho : PE X o td) (hi : PE X i ty) (hv : PE X value tv) (hs : swapsWith value (some (.Subscript o i pos')) pos.line X.env = pure false) :
    PS X (.Assign [.Subscript o i pos'] value pos) (fun D σ H => tv σ H fun v H1 => td σ H1 fun x H2 => ty σ H2 fun y H3 => ∃ a es ks k, x = .ref a ∧ H3 a = some (DO a es) ∧ KeysAt H3 es ks ∧ ks.Nodup ∧ Hom ks k ∧ k ∉ ks ∧ es.length < sizeLine ∧ KeyRep H3 y k ∧ D.nx σ (upd H3 a (DO a (es ++ [⟨hashD k, y, v⟩])))) := by
  refine ⟨fun pins s σ H D I h => ?_⟩
  refine wpAny_Assign_Subscript (thn (hv.run pins s σ H _ I h) fun r s1 ⟨v, H1, I1, rv, q1⟩ => thn (ho.run pins s1 σ H1 _ I1 q1) fun u s2 ⟨x, H2, I2, rx, q2⟩ => thn (hi.run pins s2 σ H2 _ I2 q2) fun iv s3 ⟨y, H3, I3, ry, a, es, ks, k, ex, hD, hk, nd, hom, hn, hl, hy, q3⟩ => ?_) hs
  subst ex
  obtain rfl : u = Value.ref a := rx
  exact dx_setItem hu I3 hD hk nd hom hn hl hy ry rv fun s4 I4 => ⟨σ, _, I4, q3⟩
end
end Rk
set_option maxHeartbeats 4000000
namespace Rk
open PySem L2 PyProof.Rows
class Ky (κ : Type) [Rp κ] where
  kd : κ → KeyD
  hom : (∃ f : κ → Bool, ∀ k, kd k = .b (f k)) ∨ ∃ f : κ → List Int, ∀ k, kd k = .t (f k)
  inj : ∀ {a b : κ}, kd a = kd b → a = b
  rep : ∀ {G : Gm} {H : Hp} {v : V} {k : κ}, Rp.rep G H v k → KeyRep H v (kd k)
theorem b2_inj {a b : Bool} (h : b2 a = b2 b) : a = b := by cases a <;> cases b <;> first | rfl | (exact absurd h (by decide))
instance : Ky Bool := ⟨.b, .inl ⟨id, fun _ => rfl⟩, fun h => by injection h, fun h => h⟩
instance : Ky (Bool × Int) := ⟨fun p => .t [b2 p.1, p.2], .inr ⟨_, fun _ => rfl⟩, fun {a b} h => by
    injection h with h
    injection h with h1 h2
    injection h2 with h2 _
    exact Prod.ext (b2_inj h1) h2, fun {G H v k} ⟨p, vs, e1, e2, e3⟩ => by
    match vs, e3 with
    | [x, y], e3 =>
      have h1 : x = V.bl k.1 := e3.1
      have h2 : y = V.int k.2 := e3.2.1
      exact ⟨p, _, e1, e2, by rw [h1, h2]; rfl⟩⟩
section
variable {κ β : Type} [Rp κ] [Ky κ] [Rp β]
structure Dic (κ β : Type) where
  kvs : List (κ × β)
def EnsRep (G : Gm) (H : Hp) (es : List En) (kvs : List (κ × β)) : Prop := Paired (fun (e : En) kv => e.h = hashD (Ky.kd kv.1) ∧ Rp.rep G H e.k kv.1 ∧ Rp.rep G H e.v kv.2) es kvs
theorem EnsRep.mono {G : Gm} {H H' : Hp} (s : Same H H') {es : List En} {kvs : List (κ × β)} (h : EnsRep G H es kvs) : EnsRep G H' es kvs := Paired.mapP h fun _ _ z => ⟨z.1, Rp.mono s z.2.1, Rp.mono s z.2.2⟩
theorem EnsRep.keys {G : Gm} {H : Hp} {es : List En} {kvs : List (κ × β)} (h : EnsRep G H es kvs) : KeysAt H es (kvs.map fun kv => Ky.kd kv.1) := by
  unfold EnsRep at h
  induction h with
  | nil => exact .nil
  | cons r t ih => exact .cons ⟨r.1, Ky.rep r.2.1⟩ ih
theorem KeysAt.mono {H H' : Hp} (s : Same H H') {es : List En} {ks : List KeyD} (h : KeysAt H es ks) : KeysAt H' es ks := Paired.mapP h fun _ _ z => ⟨z.1, z.2.mono s⟩
theorem nodup_kd {kvs : List (κ × β)} (h : (kvs.map Prod.fst).Nodup) : (kvs.map fun kv => Ky.kd kv.1).Nodup := by
  rw [List.nodup_iff_pairwise_ne, List.pairwise_map] at h ⊢
  exact h.imp fun n e => n (Ky.inj e)
theorem hom_kd (kvs : List (κ × β)) (k : κ) : Hom (kvs.map fun kv => Ky.kd kv.1) (Ky.kd k) := by
  rcases (Ky.hom : (∃ f : κ → Bool, ∀ k, Ky.kd k = .b (f k)) ∨ ∃ f : κ → List Int, ∀ k, Ky.kd k = .t (f k)) with ⟨f, hf⟩ | ⟨f, hf⟩
  · have e : (kvs.map fun kv => Ky.kd kv.1) = (kvs.map fun kv => f kv.1).map .b := by
      rw [List.map_map]; exact List.map_congr_left fun kv _ => hf kv.1
    rw [e, hf]; exact .b _ _
  · have e : (kvs.map fun kv => Ky.kd kv.1) = (kvs.map fun kv => f kv.1).map .t := by
      rw [List.map_map]; exact List.map_congr_left fun kv _ => hf kv.1
    rw [e, hf]; exact .t _ _
theorem mem_kd {kvs : List (κ × β)} {k : κ} : Ky.kd k ∈ (kvs.map fun kv => Ky.kd kv.1) ↔ k ∈ kvs.map Prod.fst := by
  rw [List.mem_map, List.mem_map]
  exact ⟨fun ⟨x, hx, e⟩ => ⟨x, hx, Ky.inj e⟩, fun ⟨x, hx, e⟩ => ⟨x, hx, by rw [e]⟩⟩
instance : Rp (Dic κ β) where
  rep := fun G H v d => ∃ p o es, v = .ref p ∧ H p = some (.frz o (DO p es)) ∧ EnsRep G H es d.kvs ∧ (d.kvs.map Prod.fst).Nodup
  mono := fun e ⟨p, o, es, h1, h2, h3, h4⟩ => ⟨p, o, es, h1, e _ _ h2, h3.mono e, h4⟩
def odict (kvs : List (κ × β)) : OV := ⟨fun G H p o => ∃ es, o = DO p es ∧ EnsRep G H es kvs ∧ (kvs.map Prod.fst).Nodup, fun e ⟨es, h1, h2, h3⟩ => ⟨es, h1, h2.mono e, h3⟩⟩
section
variable {F : Fx} {env : List Ent} {ex : XP} {a b c e it : Expr} {es : List Expr} {pos p0 p1 p2 p3 : Pos} {n x : Str} {P : Po} {st : Stmt} {sts ss body : List Stmt}
theorem k_ixD {Q : β → Prop} (hu : F.X.A.units + 64 < cLine) (h : KE F env a ex fun d : Dic κ β => KE F env b ex fun k : κ => ∃ x, (k, x) ∈ d.kvs ∧ Q x) (hs : NoSl b := by intro _ _; rfl) : KE F env (.Subscript a b pos) ex Q := fun own σ H k p =>
  tE_of (pe_dgetX (by omega) peE peE hs) (two k p h fun v u d kk H' s r1 r2 ⟨x, hx, q⟩ => by
    obtain ⟨l, o, es, e1, e2, e3, e4⟩ := r1
    obtain ⟨j, hj⟩ := List.mem_iff_getElem?.mp hx
    obtain ⟨e, he, g⟩ : ∃ e, es[j]? = some e ∧ Rp.rep F.G (Hid (hd F.hs own) H') e.v x := by
      have l1 : es.length = d.kvs.length := Paired.length e3
      have lj : j < d.kvs.length := (List.getElem?_eq_some_iff.mp hj).1
      have q := List.getElem?_eq_getElem (l := es) (i := j) (by omega)
      obtain ⟨kv, h1, h2⟩ := paired_get e3 q
      rw [hj] at h1
      cases h1
      exact ⟨_, q, h2.2.2⟩
    refine ⟨l, es, _, j, e, Ky.kd kk, e1, .inr ⟨o, hid_of e2⟩, (KeysAt.mono hid_le e3.keys), nodup_kd e4, hom_kd _ _, he, ?_, (Ky.rep r2).mono hid_le, x, s, g, q⟩
    rw [List.getElem?_map, hj]; rfl)
def rInX : R2 := fun x y H Q => ∃ (a : Addr) (es : List En) (ks : List KeyD) (k : KeyD), y = .ref a ∧ Rd H a (DO a es) ∧ KeysAt H es ks ∧ ks.Nodup ∧ Hom ks k ∧ KeyRep H x k ∧ Q (.bl (decide (k ∈ ks))) H
def rNotInX : R2 := fun x y H Q => ∃ (a : Addr) (es : List En) (ks : List KeyD) (k : KeyD), y = .ref a ∧ Rd H a (DO a es) ∧ KeysAt H es ks ∧ ks.Nodup ∧ Hom ks k ∧ KeyRep H x k ∧ Q (.bl (!decide (k ∈ ks))) H
theorem op_inX {X : Cx} (hu : X.A.units + 16 < cLine) : OpR X (compareOp .In) rInX := by
  intro pins s σ H x y v u Q I rx ry h
  obtain ⟨a, es, ks, k, ey, hD, hk, nd, hom, hy, q⟩ := h
  subst ey
  have eu : u = Value.ref a := ry
  subst eu
  exact dx_in hu I hD hk nd hom hy rx fun s3 I3 => ⟨.bl (decide (k ∈ ks)), H, I3, rfl, q⟩
theorem op_notinX {X : Cx} (hu : X.A.units + 16 < cLine) : OpR X (compareOp .NotIn) rNotInX := by
  intro pins s σ H x y v u Q I rx ry h
  obtain ⟨a, es, ks, k, ey, hD, hk, nd, hom, hy, q⟩ := h
  subst ey
  have eu : u = Value.ref a := ry
  subst eu
  exact dx_notIn hu I hD hk nd hom hy rx fun s3 I3 => ⟨.bl (!decide (k ∈ ks)), H, I3, rfl, q⟩
theorem k_inD [DecidableEq κ] {Q : Bool → Prop} (hu : F.X.A.units + 64 < cLine) (h : KE F env a ex fun k : κ => KE F env b ex fun d : Dic κ β => Q (decide (k ∈ d.kvs.map Prod.fst))) (hm : behindInMarks .In b = false := by with_unfolding_all rfl) : KE F env (.Compare a [.In] [b] pos) ex Q :=
  k_cmp (op_inX (by omega)) h (fun _ _ _ _ _ _ x d s _ r1 r2 q => by
    obtain ⟨l, o, es, e1, e2, e3, e4⟩ := r2
    refine ⟨l, es, _, Ky.kd x, e1, .inr ⟨o, hid_of e2⟩, KeysAt.mono hid_le e3.keys, nodup_kd e4, hom_kd _ _, (Ky.rep r1).mono hid_le, _, s, rfl, ?_⟩
    rw [decide_eq_decide.mpr (mem_kd (kvs := d.kvs) (k := x))]
    exact q) hm
theorem t_notinD [DecidableEq κ] {Q : Bool → Prop} (hu : F.X.A.units + 64 < cLine) (h : KE F env a ex fun k : κ => KE F env b ex fun d : Dic κ β => Q (!decide (k ∈ d.kvs.map Prod.fst))) (hm : behindInMarks .NotIn b = false := by with_unfolding_all rfl) : KT F env (.Compare a [.NotIn] [b] pos) ex Q :=
  t_cmp (op_notinX (by omega)) h (fun _ _ _ _ _ _ x d s _ r1 r2 q => by
    obtain ⟨l, o, es, e1, e2, e3, e4⟩ := r2
    refine ⟨l, es, _, Ky.kd x, e1, .inr ⟨o, hid_of e2⟩, KeysAt.mono hid_le e3.keys, nodup_kd e4, hom_kd _ _, (Ky.rep r1).mono hid_le, _, rfl, s, ?_⟩
    rw [decide_eq_decide.mpr (mem_kd (kvs := d.kvs) (k := x))]
    exact q) hm
theorem s_newD (i : Nat) (nd : F.X.N.Nodup) (hi : F.X.N[i]? = some x) (hl : i < env.length) (h : P.nx (env.set i (.ow (odict ([] : List (κ × β)))))) (hx : Loc F.X.env.scope x := by first | exact Or.inl rfl | exact Or.inr rfl)
    (hs : swapsWith (.Dict [] [] p0) (some (.Name x p1)) pos.line F.X.env = pure false := by rfl) (hf : F.X.fn x = true ∨ F.X.env.scope.names.lookup x = some .local := by exact Or.inl rfl) : KS F env (.Assign [.Name x p1] (.Dict [] [] p0) pos) P := KS.mk fun own σ H k p =>
  tS_of (ps_set nd hi hx pe_dnewX hs hf) fun t ht => ⟨_, _, k.gain (i := i) (o := odict ([] : List (κ × β))) hl (same_new ht) ht upd_same ⟨[], rfl, .nil, List.nodup_nil⟩, Fr.gain (same_new ht) ht, h⟩
theorem s_setD [DecidableEq κ] (i : Nat) {kvs : List (κ × β)} (hu : F.X.A.units + 64 < cLine) (hN : F.X.N[i]? = some x) (he : env[i]? = some (.ow (odict kvs))) (h : KE F env e P.ex fun y : β => KE F env b P.ex fun k : κ => (k ∉ kvs.map Prod.fst ∧ kvs.length < 100000) ∧ ∀ zs, zs = kvs ++ [(k, y)] → P.nx (env.set i (.ow (odict zs))))
    (hv : Vis F.X.env.scope x := by first | exact Or.inl rfl | exact Or.inr (Or.inl rfl) | exact Or.inr (Or.inr rfl)) (hdb : (x == ("__debug__" : Str)) = false := by decide) (hcd : (x == ("__classdict__" : Str)) = false := by decide)
    (hs : swapsWith e (some (.Subscript (.Name x p2) b p3)) pos.line F.X.env = pure false := by rfl) : KS F env (.Assign [.Subscript (.Name x p2) b p3] e pos) P := KS.mk fun own σ H k p => by
  have hi : i < env.length := (List.getElem?_eq_some_iff.mp he).1
  obtain ⟨l, ho, h0, g1, h2, es, e3, e4, e5⟩ := (show EntOk F.G F.hs own σ H i (.ow (odict kvs)) from k.ent i _ he)
  subst e3
  refine tS_of (ps_dputX (by omega) (pe_var hN hv hdb hcd) peE peE hs) (tE_mono (fun v H' ⟨y, s, r, z⟩ => ?_) (h own σ H k p))
  refine ⟨.ref l, g1, tE_mono (fun u H2 ⟨kk, s2, rk, hc, z2⟩ => ?_) (z own σ H' (k.mono s) (p.mono s))⟩
  have st : Same H H2 := s.trans s2
  have e4' := e4.mono (hid_same st)
  have le : es.length = kvs.length := Paired.length e4
  have hsz : (100000 : Nat) ≤ sizeLine := by decide
  have hc2 := hc.2
  refine ⟨l, es, _, Ky.kd kk, rfl, st _ _ h2, KeysAt.mono hid_le e4'.keys, nodup_kd e5, hom_kd _ _, fun m => hc.1 (mem_kd.mp m), by omega, (Ky.rep rk).mono hid_le, ?_⟩
  refine ⟨_, _, (k.mono st).chg (i := i) (o := odict (kvs ++ [(kk, y)])) hi h0 ⟨_, rfl, Paired.snoc e4' ⟨rfl, rk, DV.mono (d := dv y) (hid_same s2) r⟩, ?_⟩, (Fr.of st).trans (Fr.chg h0), z2 _ rfl⟩
  rw [List.map_append]
  refine List.nodup_append.mpr ⟨e5, by simp, fun a ha b hb e => ?_⟩
  have hb : b = kk := by simpa using hb
  exact hc.1 (by rw [← hb, ← e]; exact ha)
def ofrz (kvs : List (κ × β)) : OV := ⟨fun G H p o => ∃ ob es, o = .frz ob (DO p es) ∧ EnsRep G H es kvs ∧ (kvs.map Prod.fst).Nodup, fun e ⟨ob, es, h1, h2, h3⟩ => ⟨ob, es, h1, h2.mono e, h3⟩⟩
theorem ks_freezeD (i : Nat) {kvs : List (κ × β)} (he : env[i]? = some (.ow (odict kvs))) (h : KSs F (env.set i (.sh (dv (Dic.mk kvs)))) sts P) : KSs F env sts P := KSs.mk fun own σ H k p pins s I => by
  have hi : i < env.length := (List.getElem?_eq_some_iff.mp he).1
  obtain ⟨l, ho, h0, g1, h2, es, e3, e4, e5⟩ := (show EntOk F.G F.hs own σ H i (.ow (odict kvs)) from k.ent i _ he)
  subst e3
  obtain ⟨od, J⟩ := I.lock h2 True.intro
  have k2 := k.chg (i := i) (o := ofrz kvs) hi h0 ⟨od, es, rfl, e4, e5⟩
  have k3 := k2.freeze (i := i) (d := dv (Dic.mk kvs)) (by rw [List.getElem?_set_self hi]) (fun p ho H1 _ h1 sm ok => by
    obtain ⟨ob, es, e1, r, n⟩ := ok
    subst e1
    exact ⟨p, ob, es, rfl, h1, r.mono sm, n⟩)
  rw [List.set_set] at k3
  have fr : Fr F.hs own (drop own i) H (upd H l (.frz od (DO l es))) := (Fr.chg h0).trans (Fr.drop i)
  exact (b_more fr (h _ σ _ k3 (p.step fr))) pins s J
end
end
end Rk
set_option maxHeartbeats 4000000
namespace Rk
open PySem L2 PyProof.Rows
def PutX (D : Addr) (Nx : Hp → Prop) (y z : V) (H : Hp) : Prop := ∃ (es : List En) (ks : List KeyD) (k : KeyD), H D = some (DO D es) ∧ KeysAt H es ks ∧ ks.Nodup ∧ Hom ks k ∧ k ∉ ks ∧ es.length < sizeLine ∧ KeyRep H y k ∧ Nx (upd H D (DO D (es ++ [⟨hashD k, y, z⟩])))
def tDx (wi : TI) (g : TG) (tt : TT) (tk tv : TE) (vs : List Nat) : TE := fun σ H Q => wi σ H fun J H1 => ∀ D, H1 D = none → ∃ W : Nat → Nat → Hp → Prop, (∃ m, W 0 m (upd H1 D (DO D []))) ∧ ∀ i m H, W i m H →
  (J.stop i H ∧ ∃ es, H D = some (DO D es) ∧ ∀ ob, Q (.ref D) (upd H D (.frz ob (DO D es)))) ∨ (J.go i H ∧ ∃ Nx : Hp → Prop, (∀ H', Nx H' → ∃ m', m' < m ∧ W (i + 1) m' H') ∧
    ∀ x H', J.yld i H x H' → g x (wipe σ vs) H' fun σ2 H2 => wipe σ2 vs = wipe σ vs ∧ tt σ2 H2 fun b H3 => if b = true then tk σ2 H3 fun y H4 => tv σ2 H4 fun z H5 => PutX D Nx y z H5 else Nx H3)
section
variable {X : Cx}
theorem dictcomp_core {pins : List (Addr × Obj)} {s : Shared} {σ : L2.St} {H : Hp} {Q : VK} {ek ev tg iter : Expr} {ifs : List Expr} {scope : Scope} {own : List (Str × Nat)} {pos pos2 : Pos} {wi : TI} {g : TG} {tt : TT} {tk tv : TE} {use : Option (Value → Sem Unit)} {Qf : Value → Shared → Prop}
    (hu : X.A.units + 16 < cLine) (calm : X.calm = true) (nd : X.N.Nodup) (I : Inv X pins σ H s) (pi : PI X tg iter wi) (ok : BlkOk X.N X.env.scope scope own)
    (hg : ∀ (s : Shared) (H : Hp) (C : Addr) (cl : List (Str × Addr)) (fp : List Addr), PG (X.blk s H scope (compEnvC scope cl C X.env) fp) tg g) (ht : ∀ (s : Shared) (H : Hp) (C : Addr) (cl : List (Str × Addr)) (fp : List Addr), PTs (X.blk s H scope (compEnvC scope cl C X.env) fp) ifs tt)
    (hk : ∀ (s : Shared) (H : Hp) (C : Addr) (cl : List (Str × Addr)) (fp : List Addr), PE (X.blk s H scope (compEnvC scope cl C X.env) fp) ek tk) (hv : ∀ (s : Shared) (H : Hp) (C : Addr) (cl : List (Str × Addr)) (fp : List Addr), PE (X.blk s H scope (compEnvC scope cl C X.env) fp) ev tv)
    (hs : ∀ x, foldedSetIterable iter X.env x = pure x) (h : tDx wi g tt tk tv (own.map (·.2)) σ H Q)
    (fin : ∀ D C s' m H', Inv X pins σ H' s' → Q (.ref D) H' → s'.heap.Ns C m → FpOk X pins H' C → compPost (model X.prog X.w) X.A X.xe use Qf (.ref D) C (.ok .next) s') :
    wpAny (model X.prog X.w) X.A (comprehension (.DictComp ek ev [⟨tg, iter, ifs, 0⟩] scope pos) scope X.env pos2 newDict false (eval iter X.env) use) Qf X.xe s := by
  have free : ∀ y ∈ scope.names, y.2 = .free → ∃ c, X.env.cells.lookup y.1 = some c := fun y hy e => (ok.free y hy e).elim (fun z => I.ok.has _ (.inl z)) fun z => I.ok.has _ (.inr z)
  refine wpAny_comprehension_free (use := use) rfl hs (closure_ok free) ok.kind (fun y hy e => by rw [ok.uniq y hy, e]) (thn (pi.run pins s σ H _ I h) fun xv s1 hx => thn hx fun itv s2 h2 => ?_)
  obtain ⟨it, fp, tn, J, H2, rfl, I2, T, st2, f2, q⟩ := h2
  refine wpAny_newObj_type (newEnv_comp ?_)
  -- the new dict at D
  obtain ⟨D, eD⟩ : ∃ D, D = s2.heap.objs.size := ⟨_, rfl⟩
  rw [← eD]
  have nD : H2 D = none := I2.hok.fresh (Nat.le_of_eq eD.symm)
  obtain ⟨W, ⟨m0, w0⟩, turn⟩ := q D nD
  obtain ⟨s3, e3⟩ : ∃ s3 : Shared, s3 = { s2 with heap := s2.heap.push { cls := .type "dict", data := .dict #[] } } := ⟨_, rfl⟩
  rw [← e3]
  have hp3 : s3.heap = s2.heap.push { cls := .type "dict", data := .dict #[] } := by rw [e3]
  have I3 : Inv X pins σ (upd H2 D (DO D [])) s3 := by
    rw [e3]
    refine I2.laid (t' := s2.toks) (fun b o z => Heap.get?_push_of_some _ z) (Nat.le_of_eq eD.symm) ?_
    rw [eD]
    exact do_empty s2.heap I2.big
  have below : ∀ b ∈ fp, b < s2.heap.objs.size := fun b hb => let ⟨_, z, _⟩ := T.obj _ _ st2 b hb; Heap.lt_size z
  have f3 : ∀ b ∈ fp, FpOk X pins (upd H2 D (DO D [])) b ∧ b < s3.heap.objs.size := fun b hb => by
    have lt := below b hb
    constructor
    · exact ⟨by rw [upd_ne (by rw [eD]; exact Nat.ne_of_lt lt)]; exact (f2 b hb).1, (f2 b hb).2⟩
    · rw [hp3, Heap.size_push]; exact Nat.lt_succ_of_lt lt
  have st3 : tn 0 s3.heap := T.keep _ _ _ st2 fun b _ o z => by rw [hp3]; exact Heap.get?_push_of_some _ z
  have I4 := block_start I3 ok nd f3
  obtain ⟨cl, ecl⟩ : ∃ cl, cl = cellsFrom (s3.heap.objs.size + 1) scope.names (cloFrom X.env.cells scope.names []) := ⟨_, rfl⟩
  have pg := hg s3 (upd H2 D (DO D [])) s3.heap.objs.size cl fp
  have pt := ht s3 (upd H2 D (DO D [])) s3.heap.objs.size cl fp
  have pk := hk s3 (upd H2 D (DO D [])) s3.heap.objs.size cl fp
  have pv := hv s3 (upd H2 D (DO D [])) s3.heap.objs.size cl fp
  rw [← ecl] at I4
  show codeAny _ _ (.compStart (.DictComp ek ev [⟨tg, iter, ifs, 0⟩] scope pos) 0 (.ref it) (.ref D) (compEnvC scope (cellsFrom (s3.heap.objs.size + 1) scope.names (cloFrom X.env.cells scope.names [])) s3.heap.objs.size X.env)) (compPost (model X.prog X.w) X.A X.xe use Qf (.ref D) s3.heap.objs.size) { s3 with heap := pushCells (s3.heap.push { cls := .type "dict", data := .dict #[] }) scope.names }
  rw [← ecl]
  have nfp : ∀ b ∈ fp, (upd H2 D (DO D [])) b = none := fun b hb => (f3 b hb).1.1
  obtain ⟨ce, ece⟩ : ∃ ce, ce = compEnvC scope cl s3.heap.objs.size X.env := ⟨_, rfl⟩
  rw [← ece] at I4 pg pt pk pv ⊢
  have cL : ce.locals = s3.heap.objs.size := by rw [ece]; rfl
  obtain ⟨H3, eH3⟩ : ∃ H3, H3 = upd H2 D (DO D []) := ⟨_, rfl⟩
  rw [← eH3] at I3 I4 pg pt pk pv w0 nfp f3
  obtain ⟨s4, e4⟩ : ∃ s4 : Shared, s4 = { s3 with heap := pushCells (s3.heap.push { cls := .type "dict", data := .dict #[] }) scope.names } := ⟨_, rfl⟩
  rw [← e4] at I4 ⊢
  have st4 : tn 0 s4.heap := T.keep _ _ _ st3 fun b _ o z => by rw [e4]; exact pushCells_keeps _ _ _ _ (Heap.get?_push_of_some _ z)
  obtain ⟨Y, eY⟩ : ∃ Y, Y = X.blk s3 H3 scope ce fp := ⟨_, rfl⟩
  have still : ∀ {σ' : L2.St} {H' : Hp} {s' : Shared}, Inv (X.blk s3 H3 scope ce fp) [] σ' H' s' → (∀ b ∈ fp, H' b = none) → ∀ b ∈ fp, FpOk (X.blk s3 H3 scope ce fp) [] H' b := fun {σ' H' s'} J' hn b hb =>
    ⟨hn b hb, (J'.ok.exf b hb).1, J'.ok.exfs b hb, .inl hb, fun x c z => (J'.ok.exf b hb).2 x c z, fun p hp => absurd (show p ∈ ([] : List (Addr × Obj)) ++ [] from hp) (by simp)⟩
  have loop : codeAny (model X.prog X.w) X.A (.compLoop (.DictComp ek ev [⟨tg, iter, ifs, 0⟩] scope pos) 0 (.ref it) (.ref D) ce) (compPost (model X.prog X.w) X.A X.xe use Qf (.ref D) s3.heap.objs.size) s4 := by
    refine compLoop_anyD (fun n s' => ∃ i H', Inv (X.blk s3 H3 scope ce fp) [] (wipe σ (own.map (·.2))) H' s' ∧ tn i s'.heap ∧ (∀ b ∈ fp, H' b = none) ∧ W i n H') ?_ m0 ⟨0, H3, I4, st4, nfp, w0⟩
    rintro n s5 ⟨i, H5, I5, st5, n5, w5⟩
    rcases turn i n H5 w5 with ⟨stop, es, hDe, qq⟩ | ⟨go, Nx, less, step⟩
    · refine thnF (T.done (X.blk s3 H3 scope ce fp) rfl rfl rfl calm i [] s5 _ H5 (fun _ _ => False) I5 (still I5 n5) st5 stop) fun r s6 ⟨hr, I6⟩ => ?_
      subst hr
      have nC : H5 s3.heap.objs.size = none := by
        have z : H5 ce.locals = none := I6.free
        rw [cL] at z; exact z
      obtain ⟨m, hn, _⟩ := I6.loc
      replace hn : s6.heap.Ns ce.locals m := hn
      rw [cL] at hn
      -- back in the def's own frame; the dict is known from here on
      have I7 : Inv X pins σ H5 s6 := I3.call' (ch := fp) I6.os I6.base I6.hok I6.bare fun b hb => let z := (f3 b hb).1.2; ⟨z.2.2.1, z.1, z.2.2.2.1, z.2.2.2.2⟩
      obtain ⟨ob, I8⟩ := I7.lock hDe True.intro
      have neD : s3.heap.objs.size ≠ D := fun z => by rw [z, hDe] at nC; cases nC
      exact fin D s3.heap.objs.size s6 m _ I8 (qq ob) hn (I3.fpOk (Nat.le_refl _) nC |> fun z => ⟨by rw [upd_ne neD]; exact z.1, z.2⟩)
    · refine thnF (T.item (X.blk s3 H3 scope ce fp) rfl rfl rfl calm i [] s5 _ H5 (fun _ _ => False) I5 (still I5 n5) st5 go) fun r s6 ⟨u, hr, h6⟩ => ?_
      subst hr
      refine thnF h6 fun _ s7 ⟨x, H7, I7, r7, y7, st7, n7⟩ => ?_
      refine thnF (pg.run _ s7 _ H7 x u _ (I7.pinned (still I7 n7) (T.obj _ _ st7)) r7 (step x H7 y7)) fun _ s8 ⟨σ8, H8, I8, hw8, q8⟩ => ?_
      refine thnF (pt.run _ s8 σ8 H8 _ I8 q8) fun b s9 ⟨H9, I9, q9⟩ => ?_
      have last : ∀ {s' : Shared} {H' : Hp}, Inv (X.blk s3 H3 scope ce fp) ([] ++ pinsAt fp s7.heap) σ8 H' s' → Nx H' → ∃ m, m < n ∧ ∃ i H', Inv (X.blk s3 H3 scope ce fp) [] (wipe σ (own.map (·.2))) H' s' ∧ tn i s'.heap ∧ (∀ b ∈ fp, H' b = none) ∧ W i m H' := fun {s' H'} J' nx => by
        obtain ⟨m', lt, w'⟩ := less H' nx
        have pinned : ∀ b ∈ fp, ∀ o, s7.heap.get? b = some o → s'.heap.get? b = some o ∧ H' b = none := fun b hb o z =>
          let t := J'.pin (b, o) (List.mem_append_right _ (List.mem_append_right _ (mem_pinsAt hb z)))
          ⟨t.1, t.2.1⟩
        refine ⟨m', lt, i + 1, H', (J'.unpinned (pins := [])).weak (by rw [← hw8, wipe_length]) (fun j v z => ?_), T.keep _ _ _ st7 fun b hb o z => (pinned b hb o z).1, fun b hb => ?_, w'⟩
        · rw [← hw8] at z; exact (wipe_some z).1
        · obtain ⟨o, z, _⟩ := T.obj _ _ st7 b hb
          exact (pinned b hb o z).2
      cases b with
      | false =>
        simp only [Bool.false_eq_true, if_false] at q9 ⊢
        exact last I9 q9
      | true =>
        simp only [if_true] at q9 ⊢
        refine thnF (pk.run _ s9 σ8 H9 _ I9 q9) fun z s10 ⟨yk, H10, I10, r10, q10⟩ => ?_
        refine thnF (pv.run _ s10 σ8 H10 _ I10 q10) fun z2 s11 ⟨yv, H11, I11, r11, es, ks, k, hD11, ka, kn, kh, nk', lz, yr, nx⟩ => ?_
        exact dx_dictSet (X := X.blk s3 H3 scope ce fp) hu I11 hD11 ka kn kh nk' lz yr r10 r11 fun s12 I12 => last I12 nx
  exact codeAny_compStart_dict loop (T.self X.A 0 _ _ _ st4 loop)
theorem pe_dcX {ek ev tg iter : Expr} {ifs : List Expr} {scope : Scope} {own : List (Str × Nat)} {pos : Pos} {wi : TI} {g : TG} {tt : TT} {tk tv : TE} (hu : X.A.units + 16 < cLine) (calm : X.calm = true) (nd : X.N.Nodup) (pi : PI X tg iter wi) (ok : BlkOk X.N X.env.scope scope own)
    (hg : ∀ (s : Shared) (H : Hp) (C : Addr) (cl : List (Str × Addr)) (fp : List Addr), PG (X.blk s H scope (compEnvC scope cl C X.env) fp) tg g) (ht : ∀ (s : Shared) (H : Hp) (C : Addr) (cl : List (Str × Addr)) (fp : List Addr), PTs (X.blk s H scope (compEnvC scope cl C X.env) fp) ifs tt)
    (hk : ∀ (s : Shared) (H : Hp) (C : Addr) (cl : List (Str × Addr)) (fp : List Addr), PE (X.blk s H scope (compEnvC scope cl C X.env) fp) ek tk) (hv : ∀ (s : Shared) (H : Hp) (C : Addr) (cl : List (Str × Addr)) (fp : List Addr), PE (X.blk s H scope (compEnvC scope cl C X.env) fp) ev tv)
    (hs : ∀ x, foldedSetIterable iter X.env x = pure x) : PE X (.DictComp ek ev [⟨tg, iter, ifs, 0⟩] scope pos) (tDx wi g tt tk tv (own.map (·.2))) := by
  refine ⟨fun pins s σ H Q I h => ?_⟩
  rw [arm_eval_DictComp]
  refine dictcomp_core hu calm nd I pi ok hg ht hk hv hs h fun D C s' m H' J q hn f => ⟨m, hn, fun h'' sb => ?_⟩
  obtain ⟨f0, f1, f2, f3, f4, f5⟩ := f
  exact ⟨.ref D, H', J.turned (t' := s'.toks) (fun b o hb z => (sb.2 b hb).trans z) f0 f1 f3 f4 f5, rfl, q⟩
end
end Rk
set_option maxHeartbeats 4000000
namespace Rk
open PySem L2 PyProof.Rows
section
variable {F : Fx} {env : List Ent} {ex : XP} {a b c e it ek ev tg : Expr} {es ifs : List Expr} {pos p0 p1 : Pos} {n x : Str} {P : Po} {st : Stmt} {sts ss body : List Stmt}
section
variable {α κ β : Type} [Rp α] [Rp κ] [Ky κ] [Rp β]
def DcAt (F : Fx) (own : Nat → Option Addr) (H1 : Hp) (D : Addr) (kvs : List (κ × β)) (H2 : Hp) : Prop :=
  Same H1 (fun x => if x = D then none else H2 x) ∧ ∃ es, H2 D = some (DO D es) ∧ EnsRep F.G (Hid (hd (fun x => F.hs x ∨ x = D) own) H2) es kvs
theorem DcAt.same {own : Nat → Option Addr} {H1 H2 : Hp} {D : Addr} {kvs : List (κ × β)} (h : DcAt F own H1 D kvs H2) (hD : H1 D = none) : Same H1 H2 := fun x o e => by
  have ne : x ≠ D := ne_of_none e hD
  have z : (if x = D then none else H2 x) = some o := h.1 x o e
  rw [if_neg ne] at z; exact z
theorem DcAt.start {own : Nat → Option Addr} {H1 : Hp} {D : Addr} (hD : H1 D = none) : DcAt F own H1 D ([] : List (κ × β)) (upd H1 D (DO D [])) := by
  refine ⟨fun x o e => ?_, [], upd_same, .nil⟩
  have ne : x ≠ D := ne_of_none e hD
  show (if x = D then none else upd H1 D (DO D []) x) = some o
  rw [if_neg ne, upd_ne ne]; exact e
theorem dc_step {scope : Scope} (own0 : List (Str × Nat)) {g : TG} {is : List Nat} {f : α → List Ent → List Ent} {own : Nat → Option Addr} {σ : L2.St} {H1 H2 : Hp} {D : Addr} {t : α → Bool} {kf : α → κ} {vf : α → β} {kvs : List (κ × β)} {y : α} {u : V} {Nx : Hp → Prop} (hT : t y = true → ∀ H, DcAt F own H1 D (kvs ++ [(kf y, vf y)]) H → Nx H) (hF : t y = false → ∀ H, DcAt F own H1 D kvs H → Nx H)
    (hlen : ifs.length ≤ 1) (htg : ∀ F', Blk F scope F' → Tg F' tg α g is f) (his : ∀ i ∈ is, i ∈ own0.map (·.2)) (onone : ∀ i ∈ own0.map (·.2), own i = none) (k1 : F.Kn own env σ H1) (hD : H1 D = none) (hx : kvs.length ≤ 40000) (hn : (kvs.map Prod.fst).Nodup) (hnew : t y = true → kf y ∉ kvs.map Prod.fst)
    (ht : ∀ F', Blk F scope F' → KTs F' (f y (wipeE env (own0.map (·.2)))) ifs fun b => b = t y) (hk : ∀ F', Blk F scope F' → t y = true → KE F' (f y (wipeE env (own0.map (·.2)))) ek noex fun z => z = kf y)
    (hv : ∀ F', Blk F scope F' → t y = true → KE F' (f y (wipeE env (own0.map (·.2)))) ev noex fun z => z = vf y)
    (hd2 : Rp.rep F.G (Hid (hd F.hs own) H1) u y) (p : DcAt F own H1 D kvs H2) :
    g u (L2.wipe σ (own0.map (·.2))) H2 fun σ2 H2' => L2.wipe σ2 (own0.map (·.2)) = L2.wipe σ (own0.map (·.2)) ∧ uT F scope ifs σ2 H2' fun b H3 =>
      if b = true then uE F scope ek σ2 H3 fun yk H4 => uE F scope ev σ2 H4 fun z H5 => PutX D Nx yk z H5 else Nx H3 := by
  have s12 := p.same hD
  obtain ⟨s2, es, hes, hr⟩ := p
  have kD : Rk.Kn F.G (fun x => F.hs x ∨ x = D) F.B own env σ H2 := k1.veil s12 hD hes
  obtain ⟨kw, frw⟩ := Kn.wipe (F := ⟨F.X, F.cls, fun x => F.hs x ∨ x = D, F.B⟩) (show (⟨F.X, F.cls, fun x => F.hs x ∨ x = D, F.B⟩ : Fx).Kn own env σ H2 from kD) (own0.map (·.2))
  have sD : Same (Hid (hd F.hs own) H1) (Hid (hd (fun x => F.hs x ∨ x = D) own) H2) := fun x o e => by
    have h1 := hid_of e
    have ne : x ≠ D := ne_of_none h1 hD
    have nh : ¬ hd F.hs own x := fun z => by unfold Hid at e; rw [if_pos z] at e; cases e
    rw [hid_at fun z => by
      rcases z with (z | z) | z
      · exact nh (.inl z)
      · exact ne z
      · exact nh (.inr z)]
    exact s12 x o h1
  refine (htg ⟨F.X.blk F.X.s_0 H1 scope (compEnvC scope [] 0 F.X.env) [], F.cls, fun x => F.hs x ∨ x = D, F.B⟩ ⟨F.X.s_0, H1, 0, [], [], _, rfl⟩).sem y _ _ _ _ H2 u kw (DV.mono (d := dv y) (sD.trans frw) hd2) fun own2 σ2 k2 f2 wp kp => ?_
  rw [wipeO_same onone] at kp
  refine ⟨by rw [wp _ his]; exact wipe_twice _, ?_⟩
  have un : ∀ {H' : Hp} {d : DV} {w : V}, d.rep F.G (Hid (hd (fun x => F.hs x ∨ x = D) own2) H') w → d.rep F.G (Hid (hd (fun x => F.hs x ∨ x = D) own) H') w := fun {H' d w} r => DV.mono (hid_more fun x q => by
    rcases q with q | ⟨i, q⟩
    · exact .inl q
    · rcases kp i x q with z | z
      · rw [onone i (his i z)] at q; cases q
      · exact .inr ⟨i, z⟩) r
  have keep : ∀ (s' : Shared) (H0 : Hp) (C : Addr) (cl : List (Str × Addr)) (fp : List Addr) (H3 : Hp), Same H2 H3 → t y = true → tE (F.X.blk s' H0 scope (compEnvC scope cl C F.X.env) fp) ek σ2 H3 fun yk H4 => uE F scope ev σ2 H4 fun z H5 => PutX D Nx yk z H5 := fun s' H0 C cl fp H3 s3 hty => by
    have B' : Blk F scope ⟨F.X.blk s' H0 scope (compEnvC scope cl C F.X.env) fp, F.cls, fun x => F.hs x ∨ x = D, F.B⟩ := ⟨s', H0, C, cl, fp, _, rfl⟩
    refine tE_mono (fun yk H4 ⟨wk, s4, rk, ewk⟩ => ?_) (hk _ B' hty own2 σ2 H3 (k2.mono s3) (noPort B'))
    subst ewk
    intro s'2 H02 C2 cl2 fp2
    have B2 : Blk F scope ⟨F.X.blk s'2 H02 scope (compEnvC scope cl2 C2 F.X.env) fp2, F.cls, fun x => F.hs x ∨ x = D, F.B⟩ := ⟨s'2, H02, C2, cl2, fp2, _, rfl⟩
    refine tE_mono (fun z H5 ⟨w, s5, rw', ew⟩ => ?_) (hv _ B2 hty own2 σ2 H4 (k2.mono (s3.trans s4)) (noPort B2))
    subst ew
    have s25 : Same H2 H5 := (s3.trans s4).trans s5
    have rk5 : (dv (kf y)).rep F.G (Hid (hd (fun x => F.hs x ∨ x = D) own) H5) yk := un (DV.mono (d := dv (kf y)) (hid_same s5) rk)
    have hr5 := hr.mono (hid_same s25)
    have le : es.length = kvs.length := Paired.length hr
    have hidD : hd (fun x => F.hs x ∨ x = D) own D := .inl (.inr rfl)
    have big : (40000 : Nat) < sizeLine := by decide
    refine ⟨es, _, Ky.kd (kf y), s25 _ _ hes, KeysAt.mono hid_le hr5.keys, nodup_kd hn, hom_kd _ _, fun m => hnew hty (mem_kd.mp m), by omega, (Ky.rep rk5).mono hid_le, hT hty _ ⟨fun x o e => ?_, es ++ [⟨hashD (Ky.kd (kf y)), yk, z⟩], upd_same, ?_⟩⟩
    · have ne : x ≠ D := ne_of_none e hD
      show (if x = D then none else upd H5 D (DO D (es ++ [⟨hashD (Ky.kd (kf y)), yk, z⟩])) x) = some o
      rw [if_neg ne, upd_ne ne]; exact s25 _ _ (s12 _ _ e)
    · rw [hid_upd hidD]
      exact Paired.snoc hr5 ⟨rfl, rk5, un (d := dv (vf y)) rw'⟩
  have skip : ∀ H3 : Hp, Same H2 H3 → DcAt F own H1 D kvs H3 := fun H3 s3 => by
    refine ⟨fun x o e => ?_, es, s3 _ _ hes, hr.mono (hid_same s3)⟩
    have ne : x ≠ D := ne_of_none e hD
    show (if x = D then none else H3 x) = some o
    rw [if_neg ne]; exact s3 _ _ (s12 _ _ e)
  intro s' H0 C cl fp
  match ifs, hlen, ht with
  | [], _, ht =>
    have B' : Blk F scope ⟨F.X.blk s' H0 scope (compEnvC scope cl C F.X.env) fp, F.cls, fun x => F.hs x ∨ x = D, F.B⟩ := ⟨s', H0, C, cl, fp, _, rfl⟩
    have hty : true = t y := ht _ B'
    exact fun s2' H02 C2 cl2 fp2 => keep s2' H02 C2 cl2 fp2 H2 (Same.refl _) hty.symm
  | [c], _, ht =>
    have B' : Blk F scope ⟨F.X.blk s' H0 scope (compEnvC scope cl C F.X.env) fp, F.cls, fun x => F.hs x ∨ x = D, F.B⟩ := ⟨s', H0, C, cl, fp, _, rfl⟩
    refine tT_mono (fun b H3 ⟨s3, eb⟩ => ?_) (ht _ B' own2 σ2 H2 k2 (noPort B'))
    cases hty : t y with
    | true =>
      rw [hty] at eb; subst eb
      exact fun s2' H02 C2 cl2 fp2 => keep s2' H02 C2 cl2 fp2 H3 s3 hty
    | false =>
      rw [hty] at eb; subst eb
      exact hF hty H3 (skip H3 s3)
theorem dc_end {own : Nat → Option Addr} {σ : L2.St} {H H1 H2 : Hp} {D : Addr} {kvs : List (κ × β)} {Q : Dic κ β → Prop} (k1 : F.Kn own env σ H1) (sm : Same H H1) (hD : H1 D = none) (p : DcAt F own H1 D kvs H2) (hn : (kvs.map Prod.fst).Nodup) (hQ : Q ⟨kvs⟩) :
    ∃ es, H2 D = some (DO D es) ∧ ∀ ob, Rs F own H Q (.ref D) (upd H2 D (.frz ob (DO D es))) := by
  have s12 := p.same hD
  have nD : ¬ hd F.hs own D := k1.fresh (Same.refl _) hD
  obtain ⟨s2, es, hes, hr⟩ := p
  refine ⟨es, hes, fun ob => ⟨_, fun x o e => ?_, ⟨D, ob, es, rfl, by rw [hid_at nD, upd_same], hr.mono fun x o e => ?_, hn⟩, hQ⟩⟩
  · have h1 := sm x o e
    rw [upd_ne (ne_of_none h1 hD)]; exact s12 _ _ h1
  · have h1 := hid_of e
    have nh : ¬ hd (fun x => F.hs x ∨ x = D) own x := fun z => by unfold Hid at e; rw [if_pos z] at e; cases e
    have ne : x ≠ D := fun z => nh (.inl (.inr z))
    rw [hid_at fun z => by
      rcases z with z | z
      · exact nh (.inl (.inl z))
      · exact nh (.inr z), upd_ne ne]
    exact h1
end
def KDc {κ β : Type} [Rp κ] [Ky κ] [Rp β] (F : Fx) (env : List Ent) (ek ev tg it : Expr) (ifs : List Expr) (scope : Scope) (ex : XP) (Q : Dic κ β → Prop) : Prop := ∀ own σ H, F.Kn own env σ H → Port F own H ex → ∃ (wi : TI) (g : TG) (own0 : List (Str × Nat)),
  F.X.A.units + 16 < cLine ∧ F.X.calm = true ∧ F.X.N.Nodup ∧ PI F.X tg it wi ∧ BlkOk F.X.N F.X.env.scope scope own0 ∧ (∀ (s : Shared) (H : Hp) (C : Addr) (cl : List (Str × Addr)) (fp : List Addr), PG (F.X.blk s H scope (compEnvC scope cl C F.X.env) fp) tg g) ∧ ifs.length ≤ 1 ∧ (∀ x, foldedSetIterable it F.X.env x = pure x) ∧
  ∀ Q' : VK, (∀ v H', Rs F own H Q v H' → Q' v H') → tDx wi g (uT F scope ifs) (uE F scope ek) (uE F scope ev) (own0.map (·.2)) σ H Q'
theorem k_ofDc {κ β : Type} [Rp κ] [Ky κ] [Rp β] {scope : Scope} {Q : Dic κ β → Prop} {ex : XP} (h : KDc F env ek ev tg it ifs scope ex Q) : KE F env (.DictComp ek ev [⟨tg, it, ifs, 0⟩] scope pos) ex Q := fun own σ H k p => by
  obtain ⟨wi, g, own0, hu, hc, nd, pi, ok, pg, hlen, hs, z⟩ := h own σ H k p
  exact tE_of (pe_dcX (own := own0) (g := g) (tk := uE F scope ek) (tv := uE F scope ev) hu hc nd pi ok pg (lc_tests hlen) (fun s H C cl fp => ⟨fun pins s' σ H' Q I h => h s H C cl fp pins s' I⟩) (fun s H C cl fp => ⟨fun pins s' σ H' Q I h => h s H C cl fp pins s' I⟩) hs) (z _ fun _ _ q => q)
theorem dx_over {J : It} {S : Hp → List V → Prop} (hgo : ∀ i H xs x, S H xs → xs[i]? = some x → J.go i H) (hyl : ∀ i H x H' xs, S H xs → J.yld i H x H' → H' = H ∧ xs[i]? = some x) (hst : ∀ i H xs, S H xs → xs.length ≤ i → J.stop i H)
    {xs : List V} {g : TG} {tt : TT} {tk tv : TE} {vs : List Nat} {σ : L2.St} {H1 : Hp} {D : Addr} {Q : VK} (Pv : Nat → Hp → Prop) (h0 : Pv 0 (upd H1 D (DO D []))) (hl : ∀ i H, Pv i H → S H xs)
    (hs : ∀ i x H, xs[i]? = some x → Pv i H → g x (wipe σ vs) H fun σ2 H2 => wipe σ2 vs = wipe σ vs ∧ tt σ2 H2 fun b H3 => if b = true then tk σ2 H3 fun y H4 => tv σ2 H4 fun z H5 => PutX D (Pv (i + 1)) y z H5 else Pv (i + 1) H3)
    (hd : ∀ H, Pv xs.length H → ∃ es, H D = some (DO D es) ∧ ∀ ob, Q (.ref D) (upd H D (.frz ob (DO D es)))) :
    ∃ W : Nat → Nat → Hp → Prop, (∃ m, W 0 m (upd H1 D (DO D []))) ∧ ∀ i m H, W i m H → (J.stop i H ∧ ∃ es, H D = some (DO D es) ∧ ∀ ob, Q (.ref D) (upd H D (.frz ob (DO D es)))) ∨ (J.go i H ∧ ∃ Nx : Hp → Prop, (∀ H', Nx H' → ∃ m', m' < m ∧ W (i + 1) m' H') ∧
      ∀ x H', J.yld i H x H' → g x (wipe σ vs) H' fun σ2 H2 => wipe σ2 vs = wipe σ vs ∧ tt σ2 H2 fun b H3 => if b = true then tk σ2 H3 fun y H4 => tv σ2 H4 fun z H5 => PutX D Nx y z H5 else Nx H3) := by
  refine ⟨fun i m H => m + i = xs.length ∧ Pv i H, ⟨xs.length, rfl, h0⟩, ?_⟩
  rintro i m H ⟨em, p⟩
  by_cases lt : i < xs.length
  · refine .inr ⟨hgo i H xs _ (hl i H p) (List.getElem?_eq_getElem lt), Pv (i + 1), fun H' p' => ⟨m - 1, by omega, by omega, p'⟩, fun x H' y => ?_⟩
    obtain ⟨eH, ex⟩ := hyl i H x H' xs (hl i H p) y
    subst eH
    exact hs i x _ ex p
  · have e : i = xs.length := by omega
    subst e
    exact .inl ⟨hst _ H xs (hl _ H p) (Nat.le_refl _), hd H p⟩
section
variable {α κ β : Type} [Rp α] [Rp κ] [Ky κ] [Rp β] {scope : Scope} {ex : XP} {Q : Dic κ β → Prop} {g : TG} {is : List Nat} {f : α → List Ent → List Ent}
def dcF (t : α → Bool) (kf : α → κ) (vf : α → β) (xs : List α) : List (κ × β) := (xs.filter t).map fun x => (kf x, vf x)
theorem dcF_keys {t : α → Bool} {kf : α → κ} {vf : α → β} {xs : List α} : (dcF t kf vf xs).map Prod.fst = (xs.filter t).map kf := by
  unfold dcF; rw [List.map_map]; rfl
theorem dcF_one {t : α → Bool} {kf : α → κ} {vf : α → β} {xs : List α} {y : α} : dcF t kf vf (xs ++ [y]) = if t y = true then dcF t kf vf xs ++ [(kf y, vf y)] else dcF t kf vf xs := by
  unfold dcF
  rw [List.filter_append, List.map_append, List.filter_cons]
  by_cases h : t y = true
  · rw [if_pos h, if_pos h]; rfl
  · rw [if_neg h, if_neg h]; simp
theorem dc_turns (own0 : List (Str × Nat)) {own : Nat → Option Addr} {σ : L2.St} {H H1 : Hp} {J : It} {S : Hp → List V → Prop} {vs : List V} {xs : List α} (hgo : ∀ i H xs x, S H xs → xs[i]? = some x → J.go i H) (hyl : ∀ i H x H' xs, S H xs → J.yld i H x H' → H' = H ∧ xs[i]? = some x) (hst : ∀ i H xs, S H xs → xs.length ≤ i → J.stop i H)
    (hS : ∀ H2, Same H1 H2 → S H2 vs) (e3 : RepAll F.G (Hid (hd F.hs own) H1) vs (dvs xs)) (hlen : ifs.length ≤ 1) (htg : ∀ F', Blk F scope F' → Tg F' tg α g is f) (his : ∀ i ∈ is, i ∈ own0.map (·.2)) (onone : ∀ i ∈ own0.map (·.2), own i = none) (k1 : F.Kn own env σ H1) (sm : Same H H1) (hx : xs.length ≤ 40000)
    {t : α → Bool} {kf : α → κ} {vf : α → β} (ht : ∀ F' x, Blk F scope F' → x ∈ xs → KTs F' (f x (wipeE env (own0.map (·.2)))) ifs fun b => b = t x) (hk : ∀ F' x, Blk F scope F' → x ∈ xs → t x = true → KE F' (f x (wipeE env (own0.map (·.2)))) ek noex fun y => y = kf x)
    (hv : ∀ F' x, Blk F scope F' → x ∈ xs → t x = true → KE F' (f x (wipeE env (own0.map (·.2)))) ev noex fun y => y = vf x) (hn : ((xs.filter t).map kf).Nodup) (hQ : Q ⟨dcF t kf vf xs⟩) {Q' : VK} (hq : ∀ v H', Rs F own H Q v H' → Q' v H') (D : Addr) (hD : H1 D = none) :
    ∃ W : Nat → Nat → Hp → Prop, (∃ m, W 0 m (upd H1 D (DO D []))) ∧ ∀ i m H, W i m H → (J.stop i H ∧ ∃ es, H D = some (DO D es) ∧ ∀ ob, Q' (.ref D) (upd H D (.frz ob (DO D es)))) ∨ (J.go i H ∧ ∃ Nx : Hp → Prop, (∀ H', Nx H' → ∃ m', m' < m ∧ W (i + 1) m' H') ∧
      ∀ x H', J.yld i H x H' → g x (wipe σ (own0.map (·.2))) H' fun σ2 H2 => wipe σ2 (own0.map (·.2)) = wipe σ (own0.map (·.2)) ∧ uT F scope ifs σ2 H2 fun b H3 => if b = true then uE F scope ek σ2 H3 fun y H4 => uE F scope ev σ2 H4 fun z H5 => PutX D Nx y z H5 else Nx H3) := by
  have hlv : vs.length = xs.length := by rw [e3.len, dvs_len]
  refine dx_over hgo hyl hst (xs := vs) (fun i H2 => DcAt F own H1 D (dcF t kf vf (xs.take i)) H2) (DcAt.start hD) (fun i H2 p => hS H2 (p.same hD)) ?_ (fun H2 p => ?_)
  · intro i u H2 hu p2
    obtain ⟨d, hd1, hd2⟩ := e3.get' hu
    rw [dvs_get] at hd1
    cases hxi : xs[i]? with
    | none => rw [hxi] at hd1; cases hd1
    | some y =>
      rw [hxi] at hd1
      have ed : dv y = d := Option.some.inj hd1
      subst ed
      have hmem : y ∈ xs := List.mem_of_getElem? hxi
      have tk : xs.take (i + 1) = xs.take i ++ [y] := by rw [List.take_add_one, hxi]; rfl
      have sub : ∀ zs : List α, ∀ rest, zs ++ rest = xs → ((zs.filter t).map kf).Nodup := fun zs rest e => by
        rw [← e, List.filter_append, List.map_append] at hn
        exact (List.nodup_append.mp hn).1
      have nd0 := sub (xs.take i) (xs.drop i) (List.take_append_drop _ _)
      have nd1 := sub (xs.take (i + 1)) (xs.drop (i + 1)) (List.take_append_drop _ _)
      rw [tk, List.filter_append, List.map_append, List.filter_cons] at nd1
      have e : dcF t kf vf (xs.take i ++ [y]) = if t y = true then dcF t kf vf (xs.take i) ++ [(kf y, vf y)] else dcF t kf vf (xs.take i) := dcF_one
      rw [tk]
      exact dc_step own0 (t := t) (kf := kf) (vf := vf) (kvs := dcF t kf vf (xs.take i)) (Nx := DcAt F own H1 D (dcF t kf vf (xs.take i ++ [y]))) (fun hty H z => by rw [e, if_pos hty]; exact z) (fun hty H z => by rw [e, if_neg (by rw [hty]; decide)]; exact z) hlen htg his onone k1 hD
        (by unfold dcF; rw [List.length_map]; exact Nat.le_trans (List.length_filter_le _ _) (by rw [List.length_take]; omega)) (by rw [dcF_keys]; exact nd0)
        (fun hty => by
          rw [if_pos hty] at nd1
          rw [dcF_keys]
          intro m
          exact (List.nodup_append.mp nd1).2.2 _ m _ (by simp) rfl) (fun F' b => ht F' y b hmem) (fun F' b z => hk F' y b hmem z) (fun F' b z => hv F' y b hmem z) hd2 p2
  · obtain ⟨es, h1, h2⟩ := dc_end (Q := Q) k1 sm hD p (by rw [dcF_keys, hlv, List.take_length]; exact hn) (by rw [hlv, List.take_length]; exact hQ)
    exact ⟨es, h1, fun ob => hq _ _ (h2 ob)⟩
theorem q_dc (own0 : List (Str × Nat)) (hu : F.X.A.units + 64 < cLine) (nd : F.X.N.Nodup) (ok : BlkOk F.X.N F.X.env.scope scope own0)
    (hlen : ifs.length ≤ 1) (htg : ∀ F', Blk F scope F' → Tg F' tg α g is f) (his : ∀ i ∈ is, i ∈ own0.map (·.2)) (hno : ∀ i ∈ own0.map (·.2), ∀ o, env[i]? ≠ some (.ow o))
    (h : KE F env it ex fun xs : List α => xs.length ≤ 40000 ∧ ∃ (t : α → Bool) (kf : α → κ) (vf : α → β), (∀ F' x, Blk F scope F' → x ∈ xs → KTs F' (f x (wipeE env (own0.map (·.2)))) ifs fun b => b = t x) ∧
      (∀ F' x, Blk F scope F' → x ∈ xs → t x = true → KE F' (f x (wipeE env (own0.map (·.2)))) ek noex fun y => y = kf x) ∧ (∀ F' x, Blk F scope F' → x ∈ xs → t x = true → KE F' (f x (wipeE env (own0.map (·.2)))) ev noex fun y => y = vf x) ∧ ((xs.filter t).map kf).Nodup ∧ Q ⟨dcF t kf vf xs⟩)
    (hc : F.X.calm = true := by rfl) (hs : ∀ x, foldedSetIterable it F.X.env x = pure x := by intro _; rfl) : KDc F env ek ev tg it ifs scope ex Q := fun own σ H k p => by
  have onone : ∀ i ∈ own0.map (·.2), own i = none := fun i hi => by
    cases q : own i with
    | none => rfl
    | some p => exact absurd (k.out i p q).choose_spec (hno i hi _)
  refine ⟨_, g, own0, by omega, hc, nd, (pi_list peE), ok, (fun s H C cl fp => (htg ⟨F.X.blk s H scope (compEnvC scope cl C F.X.env) fp, F.cls, F.hs, F.B⟩ ⟨s, H, C, cl, fp, F.hs, rfl⟩).pg), hlen, hs, fun Q' hq => ?_⟩
  refine tE_mono (fun v0 H1 ⟨xs, sm, ⟨l, vs, e1, e2, e3⟩, hx, t, kf, vf, ht, hk, hv, hn, hQ⟩ => ?_) (h own σ H k p)
  refine ⟨l, e1, ⟨vs, SqL.of (hid_of e2)⟩, fun D hD => ?_⟩
  exact dc_turns own0 (J := Itl F.X.K l) (S := fun H2 ws => SqL F.X.K H2 l ws) (fun i H xs x q e => ⟨xs, x, q, e⟩) (fun i H x H' xs q ⟨e, y⟩ => ⟨e, y xs q⟩) (fun i H xs q e => ⟨xs, q, e⟩) (fun H2 s => SqL.of (s _ _ (hid_of e2))) e3 hlen htg his onone (k.mono sm) sm hx ht hk hv hn hQ hq D hD
theorem q_dcT (own0 : List (Str × Nat)) (hu : F.X.A.units + 64 < cLine) (nd : F.X.N.Nodup) (ok : BlkOk F.X.N F.X.env.scope scope own0)
    (hlen : ifs.length ≤ 1) (htg : ∀ F', Blk F scope F' → Tg F' tg α g is f) (his : ∀ i ∈ is, i ∈ own0.map (·.2)) (hno : ∀ i ∈ own0.map (·.2), ∀ o, env[i]? ≠ some (.ow o))
    (h : KE F env it ex fun xs : Tl α => xs.xs.length ≤ 40000 ∧ ∃ (t : α → Bool) (kf : α → κ) (vf : α → β), (∀ F' x, Blk F scope F' → x ∈ xs.xs → KTs F' (f x (wipeE env (own0.map (·.2)))) ifs fun b => b = t x) ∧
      (∀ F' x, Blk F scope F' → x ∈ xs.xs → t x = true → KE F' (f x (wipeE env (own0.map (·.2)))) ek noex fun y => y = kf x) ∧ (∀ F' x, Blk F scope F' → x ∈ xs.xs → t x = true → KE F' (f x (wipeE env (own0.map (·.2)))) ev noex fun y => y = vf x) ∧ ((xs.xs.filter t).map kf).Nodup ∧ Q ⟨dcF t kf vf xs.xs⟩)
    (hc : F.X.calm = true := by rfl) (hs : ∀ x, foldedSetIterable it F.X.env x = pure x := by intro _; rfl) : KDc F env ek ev tg it ifs scope ex Q := fun own σ H k p => by
  have onone : ∀ i ∈ own0.map (·.2), own i = none := fun i hi => by
    cases q : own i with
    | none => rfl
    | some p => exact absurd (k.out i p q).choose_spec (hno i hi _)
  refine ⟨_, g, own0, by omega, hc, nd, (pi_tup peE), ok, (fun s H C cl fp => (htg ⟨F.X.blk s H scope (compEnvC scope cl C F.X.env) fp, F.cls, F.hs, F.B⟩ ⟨s, H, C, cl, fp, F.hs, rfl⟩).pg), hlen, hs, fun Q' hq => ?_⟩
  refine tE_mono (fun v0 H1 ⟨⟨xs⟩, sm, ⟨l, vs, e1, e2, e3⟩, hx, t, kf, vf, ht, hk, hv, hn, hQ⟩ => ?_) (h own σ H k p)
  have e3 : RepAll F.G (Hid (hd F.hs own) H1) vs (dvs xs) := e3
  refine ⟨l, e1, ⟨vs, SqT.of (hid_of e2)⟩, fun D hD => ?_⟩
  exact dc_turns own0 (J := Itt F.X.K l) (S := fun H2 ws => SqT F.X.K H2 l ws) (fun i H xs x q e => ⟨xs, x, q, e⟩) (fun i H x H' xs q ⟨e, y⟩ => ⟨e, y xs q⟩) (fun i H xs q e => ⟨xs, q, e⟩) (fun H2 s => SqT.of (s _ _ (hid_of e2))) e3 hlen htg his onone (k.mono sm) sm hx ht hk hv hn hQ hq D hD
end
end
end Rk
set_option maxHeartbeats 4000000
namespace Rk
open PySem L2 PyProof.Rows
section
variable {X : Cx} {pins : List (Addr × Obj)} {σ : L2.St} {H : Hp} {s : Shared} {d : Addr} {o : Obj} {ens : List En}
theorem frzX (I : Inv X pins σ H s) (h : H d = some (.frz o (DO d ens))) : s.heap.get? d = some o ∧ (d == sysModules) = false ∧ o.ExactDict ∧ ∃ (arr : Array DictEntry) (ep : Nat), o.data = .dict arr ep ∧ arr.size = ens.length ∧ ∀ (i : Nat) (e : En), ens[i]? = some e → ∃ en, arr[i]? = some en ∧ RelV e.k en.key := by
  obtain ⟨ho, q, _⟩ := I.hok d _ h
  obtain ⟨_, hs, o', arr, ep, ho', hx, hd, hp⟩ := q
  rw [ho] at ho'
  cases ho'
  refine ⟨ho, hs, hx, arr, ep, hd, ?_, fun i e he => ?_⟩
  · have l := Paired.length hp
    rw [Array.length_toList] at l
    exact l.symm
  · obtain ⟨en, h1, h2⟩ := paired_get hp he
    exact ⟨en, by rw [← Array.getElem?_toList]; exact h1, h2.2.1⟩
end
def Itx (d : Addr) (o : Obj) (ens : List En) : It :=
  ⟨fun i H => H d = some (.frz o (DO d ens)) ∧ i < ens.length, fun i H x H' => H' = H ∧ ∃ e, ens[i]? = some e ∧ x = e.k, fun i H => H d = some (.frz o (DO d ens)) ∧ ens.length ≤ i⟩
section
variable {P : Program} {w : World} {K : PySem.W.Frag} {tg : Expr} {d : Addr} {o : Obj} {ens : List En} {arr : Array DictEntry} {ep : Nat}
theorem turn_keysX (it : Addr) (hod : o.data = .dict arr ep) : Turn P w K tg (Itx d o ens) [it] it (fun i h => h.IsKeyIter it d i ens.length ep) where
  mem := List.mem_singleton.mpr rfl
  obj := fun i h st b hb => by
    rw [List.mem_singleton] at hb
    obtain ⟨oi, z, _, dd⟩ := st
    exact ⟨oi, hb ▸ z, fun v q => by rw [dd] at q; cases q⟩
  keep := fun i h h' st k => st.at fun oi z => k it (List.mem_singleton.mpr rfl) oi z
  item := by
    intro X hP hw hK hc i pins s σ H E I hf st hg
    subst hP hw hK
    obtain ⟨g0, g1, g2, g3, g4, g5⟩ := hf it (List.mem_singleton.mpr rfl)
    obtain ⟨hgd, hs, hx, arr', ep', hdt, hsz, ent⟩ := frzX I hg.1
    obtain ⟨ea, eb⟩ := dict_ep hod hdt
    subst ea eb
    obtain ⟨e, he⟩ : ∃ e, ens[i]? = some e := ⟨_, List.getElem?_eq_getElem hg.2⟩
    obtain ⟨en, hen, hr⟩ := ent i e he
    refine next_key_item st hgd hdt hsz hen fun h' st' sb => ?_
    have J : Inv X pins σ H { s with heap := h' } := I.turned (t' := s.toks) (fun b ob hb z => (sb.2 b hb).trans z) g0 g1 g3 g4 g5
    obtain ⟨oi, z1, z2, z3⟩ := id st'
    exact ⟨en.key, rfl, go_of (s := { s with heap := h' }) z1 z2 z3 (by decide) ⟨e.k, H, J, hr, ⟨rfl, e, he, rfl⟩, st', fun b hb => (hf b hb).1⟩⟩
  done := by
    intro X hP hw hK hc i pins s σ H E I hf st hg
    subst hP hw hK
    obtain ⟨g0, g1, g2, g3, g4, g5⟩ := hf it (List.mem_singleton.mpr rfl)
    obtain ⟨hgd, hs, hx, arr', ep', hdt, hsz, ent⟩ := frzX I hg.1
    obtain ⟨ea, eb⟩ := dict_ep hod hdt
    subst ea eb
    exact next_key_end (I.ok.hd hc) st hgd hdt hsz hg.2 fun h' eb => ⟨rfl, I.turned (t' := s.toks) (fun b ob hb z => eb b ob hb z) g0 g1 g3 g4 g5⟩
  self := fun A i s Q E st h => wpAny_pyIter_keyiter st h
end
theorem pi_keysX {X : Cx} {tg e : Expr} {td : TE} (he : PE X e td) : PI X tg e (fun σ H R => td σ H fun x H1 => ∃ (d : Addr) (o : Obj) (ens : List En), x = .ref d ∧ H1 d = some (.frz o (DO d ens)) ∧ R (Itx d o ens) H1) := by
  refine ⟨fun pins s σ H R I h => ?_⟩
  refine thn (he.run pins s σ H _ I h) fun u s1 ⟨x, H1, J, rx, d, o, ens, ex, hd, q⟩ => ?_
  subst ex
  have eu : u = Value.ref d := rx
  subst eu
  obtain ⟨hgd, hs, hx, arr, ep, hdt, hsz, _⟩ := frzX J hd
  refine iter_keys hs hgd hx hdt (pi_one (tk := s1.toks) J _ (turn_keysX _ hdt) ⟨_, Heap.get?_push_size _ rfl, rfl, ?_⟩ q)
  rw [hsz] <;> rfl
section
variable {F : Fx} {env : List Ent} {ex : XP} {a b c e it elt tg : Expr} {es ifs : List Expr} {pos p0 p1 p2 p3 : Pos} {n x : Str} {P : Po} {st : Stmt} {sts ss body : List Stmt}
theorem LcAt.mono {α β : Type} [Rp α] [Rp β] {own : Nat → Option Addr} {H1 H2 H3 : Hp} {D : Addr} {t : α → Bool} {v : α → β} {done : List α} (hD : H1 D = none) (p : LcAt F own H1 D t v done H2) (s : Same H2 H3) : LcAt F own H1 D t v done H3 := by
  obtain ⟨s2, acc, h1, h2⟩ := p
  refine ⟨fun x o e => ?_, acc, s _ _ h1, h2.mono (hid_same s)⟩
  have ne : x ≠ D := ne_of_none e hD
  have z : (if x = D then none else H2 x) = some o := s2 x o e
  show (if x = D then none else H3 x) = some o
  rw [if_neg ne] at z ⊢
  exact s _ _ z
theorem lc_any {α β : Type} [Rp α] [Rp β] {scope : Scope} {Q : List β → Prop} {g : TG} {is : List Nat} {f : α → List Ent → List Ent} (own0 : List (Str × Nat)) {own : Nat → Option Addr} {σ : L2.St} {H H1 : Hp} {J : It} {xs : List α}
    (hgo : ∀ i H2, Same H1 H2 → i < xs.length → J.go i H2) (hst : ∀ H2, Same H1 H2 → J.stop xs.length H2)
    (hyl : ∀ i H2 u H' y, Same H1 H2 → xs[i]? = some y → J.yld i H2 u H' → Same H2 H' ∧ ∀ hid : Addr → Prop, (∀ a, hid a → H2 a ≠ none) → Same (Hid (hd F.hs own) H1) (Hid hid H2) → Rp.rep F.G (Hid hid H') u y)
    (hlen : ifs.length ≤ 1) (htg : ∀ F', Blk F scope F' → Tg F' tg α g is f) (his : ∀ i ∈ is, i ∈ own0.map (·.2)) (onone : ∀ i ∈ own0.map (·.2), own i = none) (k1 : F.Kn own env σ H1) (sm : Same H H1) (hx : xs.length ≤ 40000)
    {t : α → Bool} {v : α → β} (ht : ∀ F' x, Blk F scope F' → x ∈ xs → KTs F' (f x (wipeE env (own0.map (·.2)))) ifs fun b => b = t x) (hv : ∀ F' x, Blk F scope F' → x ∈ xs → t x = true → KE F' (f x (wipeE env (own0.map (·.2)))) elt noex fun y => y = v x)
    (hQ : Q ((xs.filter t).map v)) {Q' : VK} (hq : ∀ v H', Rs F own H Q v H' → (∃ p, v = .ref p ∧ H p = none) → Q' v H') (D : Addr) (hD : H1 D = none) :
    ∃ W : Nat → Nat → Hp → Prop, (∃ m, W 0 m (upd H1 D (.lst []))) ∧ ∀ i m H, W i m H → (J.stop i H ∧ Q' (.ref D) H) ∨ (J.go i H ∧ ∃ Nx : Hp → Prop, (∀ H', Nx H' → ∃ m', m' < m ∧ W (i + 1) m' H') ∧
      ∀ x H', J.yld i H x H' → g x (wipe σ (own0.map (·.2))) H' fun σ2 H2 => wipe σ2 (own0.map (·.2)) = wipe σ (own0.map (·.2)) ∧ uT F scope ifs σ2 H2 fun b H3 => if b = true then uE F scope elt σ2 H3 fun y H4 => ∃ acc, H4 D = some (.lst acc) ∧ acc.length < sizeLine ∧ Nx (upd H4 D (.lst (acc ++ [y]))) else Nx H3) := by
  refine ⟨fun i m H2 => m + i = xs.length ∧ LcAt F own H1 D t v (xs.take i) H2, ⟨xs.length, rfl, LcAt.start hD⟩, ?_⟩
  rintro i m H2 ⟨em, p⟩
  have s12 := p.same hD
  by_cases lt : i < xs.length
  · obtain ⟨y, hy⟩ : ∃ y, xs[i]? = some y := ⟨_, List.getElem?_eq_getElem lt⟩
    have hmem : y ∈ xs := List.mem_of_getElem? hy
    refine .inr ⟨hgo i H2 s12 lt, LcAt F own H1 D t v (xs.take (i + 1)), fun H' p' => ⟨m - 1, by omega, by omega, p'⟩, fun u H' yl => ?_⟩
    obtain ⟨s2', rp⟩ := hyl i H2 u H' y s12 hy yl
    have tk : xs.take (i + 1) = xs.take i ++ [y] := by rw [List.take_add_one, hy]; rfl
    rw [tk]
    have sD : Same (Hid (hd F.hs own) H1) (Hid (hd (fun x => F.hs x ∨ x = D) own) H2) := fun x o e => by
      have h1 := hid_of e
      have ne : x ≠ D := ne_of_none h1 hD
      have nh : ¬ hd F.hs own x := fun z => by unfold Hid at e; rw [if_pos z] at e; cases e
      rw [hid_at fun z => by
        rcases z with (z | z) | z
        · exact nh (.inl z)
        · exact ne z
        · exact nh (.inr z)]
      exact s12 x o h1
    have r := rp (hd (fun x => F.hs x ∨ x = D) own) (fun a z => by
      rcases z with (z | z) | ⟨j, z⟩
      · exact stays s12 (k1.hsB a z)
      · obtain ⟨_, acc, h1, _⟩ := p
        rw [z, h1]; exact nofun
      · exact stays s12 (k1.new j a z).2) sD
    exact lc_stepG own0 hlen htg his onone k1 hD (by rw [List.length_take]; omega) (fun F' b => ht F' y b hmem) (fun F' b z => hv F' y b hmem z) r (p.mono hD s2')
  · have e : i = xs.length := by omega
    subst e
    exact .inl ⟨hst H2 s12, hq _ _ (lc_end k1 sm hD (by rw [List.take_length] at p; exact p) hQ) ⟨D, rfl, same_none sm hD⟩⟩
end
end Rk
set_option maxHeartbeats 4000000
namespace Rk
open PySem L2 PyProof.Rows
theorem min_tupRaw {prog : Program} {w : World} {A : Around} {E : Value → Shared → Prop} {s : Shared} {l : Addr} {its : List Value} {ns : List Int} {Q : Value → Shared → Prop} (hh : A.handled = none) (hl : s.heap.IsTuple l its.toArray) (hi : IntsAre its ns) (hne : 0 < ns.length)
    (h : ∀ h' tk M t', (∀ b o, s.heap.get? b = some o → h'.get? b = some o) → M ∈ ns → (∀ a, a ∈ ns → M ≤ a) → Q (.int M t') { s with heap := h', toks := tk }) : wpAny (model prog w) A (call (.builtin "min") [.ref l]) Q E s := by
  obtain ⟨xs, e⟩ := hi.allInts.items
  have hn : numsOf (intItems xs).toList = ns := by rw [← e]; exact hi.numsOf
  rw [nums_intItems] at hn
  subst hn
  rw [e] at hl
  have hsz : 0 < xs.size := by simpa using hne
  have lt : l < s.heap.objs.size := by obtain ⟨_, z, _⟩ := id hl; exact Heap.lt_size z
  have ne : l ≠ s.heap.objs.size := Nat.ne_of_lt lt
  refine call_min_walk (wpAny_pyIter_tuple hl ?_)
  have hl2 : (s.heap.push { cls := .type "tuple_iterator", data := .fields #[.ref l, .int 0 0] }).IsTuple l (intItems xs) := by
    obtain ⟨o, z, r⟩ := hl
    exact ⟨o, Heap.get?_push_of_some _ z, r⟩
  refine ⟨s.heap.objs.size, _, _, _, _, _, _, rfl, Walks.tuple (A := A.in1) hh _ l ne (intItems xs), ⟨⟨_, Heap.get?_push_size _ rfl, rfl, rfl⟩, hl2⟩, fun b hb => ?_, by simpa [intItems] using hsz, CmpOf.ints_lt (numAt xs) (fun _ _ => intItems_at), fun v h' tk hP hk => ?_⟩
  · show b < (s.heap.push _).objs.size
    rw [Heap.size_push]
    simp only [List.mem_cons, List.not_mem_nil, or_false] at hb
    rcases hb with z | z
    · rw [z]; exact Nat.lt_succ_self _
    · rw [z]; exact Nat.lt_succ_of_lt lt
  · have hv : (intItems xs)[argBest (fun i j => decide (numAt xs i < numAt xs j)) (xs.size - 1)]? = some v := by simpa [intItems] using hP
    obtain ⟨t, ev⟩ := intItems_at hv
    subst ev
    obtain ⟨h1, h2⟩ := argBest_lt (numAt xs) (xs.size - 1)
    refine h h' tk _ t (fun b o z => ?_) ?_ fun a ha => ?_
    · refine hk b o (fun m => ?_) (Heap.get?_push_of_some _ z)
      rw [List.mem_singleton] at m
      exact absurd (m ▸ Heap.lt_size z) (Nat.lt_irrefl _)
    · rw [numAt_eq]; exact PySem.getD_mem (by rw [List.length_map, Array.length_toList]; omega)
    · obtain ⟨j, hj, rfl⟩ := mem_getD ha
      rw [List.length_map, Array.length_toList] at hj
      rw [← numAt_eq]; exact h2 j (by omega)
theorem cr_minTup {X : Cx} (hc : X.calm = true) : CallR X (.builtin "min") (fun vs H Q => ∃ (a : Addr) (ns : List Int), vs = [V.ref a] ∧ SqT X.K H a (ns.map V.int) ∧ 0 < ns.length ∧ ∀ m, m ∈ ns → (∀ y, y ∈ ns → m ≤ y) → Q (.int m) H) := by
  intro pins s σ H vs us Q I r h
  obtain ⟨a, ns, rfl, hs, hne, q⟩ := h
  obtain ⟨its, rv, hl, _⟩ := I.tuple hs
  rw [Vals.ref1 r]
  exact min_tupRaw (I.ok.hd hc) (show s.heap.IsTuple a its.toArray from hl) rv.ints hne fun h' tk m t' hk h1 h2 => ⟨.int _, H, I.kept hk, ⟨_, rfl⟩, q m h1 h2⟩
theorem reps_bls {G : Gm} {H : Hp} : ∀ {vs : List V} {bs : List Bool}, RepAll G H vs (dvs bs) → vs = bs.map V.bl
  | [], [], _ => rfl
  | v :: vs, b :: bs, h => by
    have e : v = V.bl b := h.1
    rw [e, reps_bls (vs := vs) (bs := bs) h.2]; rfl
section
variable {F : Fx} {env : List Ent} {ex : XP} {a b c e it elt tg : Expr} {es ifs : List Expr} {pos p0 p1 p2 p3 : Pos} {n x : Str} {P : Po} {st : Stmt} {sts ss body : List Stmt}
theorem k_minT {Q : Int → Prop} (m : NoGl F.X.mg) (h : KE F env e ex fun t : Tl Int => t.xs ≠ [] ∧ ∀ y, y ∈ t.xs → (∀ z ∈ t.xs, y ≤ z) → Q y) (hc : F.X.calm = true := by rfl) (z : Ns F e [] := by rfl) (hg : Gl F.X "min" := by rfl) : KE F env (.Call (.Name "min" p0) [e] [] pos) ex Q :=
  cb (cr_minTup hc) (m _ (by simp)) (by decide +kernel) (a_one h z) (fun own σ H0 H vs ds s k r ⟨t, ed, q0, q⟩ => by
    subst ed
    obtain ⟨v, rfl, l, ws, e1, e2, e3⟩ := rep1 r
    have e4 := reps_ints e3
    refine ⟨l, t.xs, by rw [e1], SqT.of (by rw [← e4]; exact hid_of e2), List.length_pos_iff.mpr q0, fun y hy hle => ⟨y, s, rfl, q y hy hle⟩⟩) hg (hz := z)
theorem k_all {Q : Bool → Prop} (m : NoGl F.X.mg) (h : KE F env e ex fun bs : List Bool => Q (bs.all id)) (hc : F.X.calm = true := by rfl) (z : Ns F e [] := by rfl) (hg : Gl F.X "all" := by rfl) : KE F env (.Call (.Name "all" p0) [e] [] pos) ex Q :=
  cb (cr_all hc) (m _ (by simp)) (by decide +kernel) (a_one h z) (fun own σ H0 H vs ds s k r ⟨bs, ed, q⟩ => by
    subst ed
    obtain ⟨v, rfl, l, ws, e1, e2, e3⟩ := rep1 r
    have e4 := reps_bls e3
    exact ⟨l, bs, by rw [e1], SqL.of (by rw [← e4]; exact hid_of e2), _, s, rfl, q⟩) hg (hz := z)
theorem k_rep {α : Type} [Rp α] {Q : List α → Prop} (h : KE F env a ex fun xs : List α => KE F env b ex fun n : Int => (-100000 < n ∧ n < 100000 ∧ xs.length ≤ 100) ∧ Q (List.replicate n.toNat xs).flatten) : KE F env (.BinOp a .Mult b pos) ex Q :=
  k_op op_rep h fun own σ H0 H v u xs n s k r1 r2 ⟨⟨b1, b2, b3⟩, q⟩ => by
    obtain ⟨l, vs, e1, e2, e3⟩ := r1
    have hl : vs.length = xs.length := by rw [e3.len, dvs_len]
    have e : u = V.int n := r2
    refine ⟨l, n, vs, e1, e, hid_of e2, by omega, by omega, ?_, fun t ht => ⟨_, s.trans (same_new ht), ?_, q⟩⟩
    · rw [hl]
      calc xs.length * n.toNat ≤ 100 * 100000 := Nat.mul_le_mul b3 (by omega)
        _ ≤ sizeLine := by decide
    · refine ⟨t, _, rfl, hid_new k (Same.refl _) ht, ?_⟩
      have g := rep_rep e3 n.toNat
      have ed : dvs (List.replicate n.toNat xs).flatten = (List.replicate n.toNat (dvs xs)).flatten := by
        unfold dvs
        rw [List.map_flatten, List.map_replicate]
      rw [ed]
      exact RepAll.mono (hid_same (same_new ht)) g
theorem k_someO {α : Type} [Rp α] {Q : Op α → Prop} (h : KE F env e ex fun x : α => Q ⟨some x⟩) : KE F env e ex Q := fun own σ H k p => tE_mono (fun v H' ⟨x, s, r, q⟩ => ⟨⟨some x⟩, s, r, q⟩) (h own σ H k p)
theorem q_lcK {κ β γ : Type} [Rp κ] [Ky κ] [Rp β] [Rp γ] {scope : Scope} {Q : List γ → Prop} {g : TG} {is : List Nat} {f : κ → List Ent → List Ent} (own0 : List (Str × Nat)) (nd : F.X.N.Nodup) (ok : BlkOk F.X.N F.X.env.scope scope own0)
    (hlen : ifs.length ≤ 1) (htg : ∀ F', Blk F scope F' → Tg F' tg κ g is f) (his : ∀ i ∈ is, i ∈ own0.map (·.2)) (hno : ∀ i ∈ own0.map (·.2), ∀ o, env[i]? ≠ some (.ow o))
    (h : KE F env it ex fun d : Dic κ β => d.kvs.length ≤ 40000 ∧ ∃ (t : κ → Bool) (v : κ → γ), (∀ F' x, Blk F scope F' → x ∈ d.kvs.map Prod.fst → KTs F' (f x (wipeE env (own0.map (·.2)))) ifs fun b => b = t x) ∧
      (∀ F' x, Blk F scope F' → x ∈ d.kvs.map Prod.fst → t x = true → KE F' (f x (wipeE env (own0.map (·.2)))) elt noex fun y => y = v x) ∧ Q (((d.kvs.map Prod.fst).filter t).map v))
    (hc : F.X.calm = true := by rfl) (hs : ∀ x, foldedSetIterable it F.X.env x = pure x := by intro _; rfl) : KLc F env elt tg it ifs scope ex Q := fun own σ H k p => by
  have onone : ∀ i ∈ own0.map (·.2), own i = none := fun i hi => by
    cases q : own i with
    | none => rfl
    | some p => exact absurd (k.out i p q).choose_spec (hno i hi _)
  refine ⟨_, g, own0, hc, nd, (pi_keysX peE), ok, (fun s H C cl fp => (htg ⟨F.X.blk s H scope (compEnvC scope cl C F.X.env) fp, F.cls, F.hs, F.B⟩ ⟨s, H, C, cl, fp, F.hs, rfl⟩).pg), hlen, hs, fun Q' hq => ?_⟩
  refine tE_mono (fun v0 H1 ⟨d, sm, ⟨l, o, ens, e1, e2, e3, e4⟩, hx, t, v, ht, hv, hQ⟩ => ⟨l, o, ens, e1, hid_of e2, fun D hD => ?_⟩) (h own σ H k p)
  have le : ens.length = d.kvs.length := Paired.length e3
  exact lc_any own0 (J := Itx l o ens) (xs := d.kvs.map Prod.fst) (fun i H2 s lt => ⟨s _ _ (hid_of e2), by rw [List.length_map] at lt; omega⟩) (fun H2 s => ⟨s _ _ (hid_of e2), by rw [List.length_map]; omega⟩)
    (fun i H2 u H' y s hy ⟨eH, e, he, ex⟩ => by
      subst eH
      refine ⟨Same.refl _, fun hid _ sm2 => ?_⟩
      obtain ⟨kv, h1, h2⟩ := paired_get e3 he
      rw [List.getElem?_map, h1] at hy
      have ey : kv.1 = y := Option.some.inj hy
      rw [ex, ← ey]
      exact Rp.mono sm2 h2.2.1) hlen htg his onone (k.mono sm) sm (by rw [List.length_map]; exact hx) ht hv hQ hq D hD
def enumL {α : Type} (xs : List α) : List (Int × α) := xs.zipIdx.map fun p => ((p.2 : Int), p.1)
theorem enumL_get {α : Type} {xs : List α} {i : Nat} : (enumL xs)[i]? = (xs[i]?).map fun x => ((i : Int), x) := by
  unfold enumL
  rw [List.getElem?_map, List.getElem?_zipIdx, Option.map_map]
  cases xs[i]? with
  | none => rfl
  | some x => simp
theorem enumL_len {α : Type} {xs : List α} : (enumL xs).length = xs.length := by unfold enumL; rw [List.length_map, List.length_zipIdx]
theorem q_lcE {α γ : Type} [Rp α] [Rp γ] {scope : Scope} {Q : List γ → Prop} {g : TG} {is : List Nat} {f : Int × α → List Ent → List Ent} {elts : List Expr} {kk : Nat} {tpos : Pos} (own0 : List (Str × Nat)) (nd : F.X.N.Nodup) (m : NoGl F.X.mg) (ok : BlkOk F.X.N F.X.env.scope scope own0)
    (hlen : ifs.length ≤ 1) (htg : ∀ F', Blk F scope F' → Tg F' (.Tuple elts kk tpos) (Int × α) g is f) (his : ∀ i ∈ is, i ∈ own0.map (·.2)) (hno : ∀ i ∈ own0.map (·.2), ∀ o, env[i]? ≠ some (.ow o))
    (h : KE F env it ex fun xs : List α => xs.length ≤ 40000 ∧ ∃ (t : Int × α → Bool) (v : Int × α → γ), (∀ F' x, Blk F scope F' → x ∈ enumL xs → KTs F' (f x (wipeE env (own0.map (·.2)))) ifs fun b => b = t x) ∧
      (∀ F' x, Blk F scope F' → x ∈ enumL xs → t x = true → KE F' (f x (wipeE env (own0.map (·.2)))) elt noex fun y => y = v x) ∧ Q (((enumL xs).filter t).map v))
    (hc : F.X.calm = true := by rfl) (hg : Gl F.X "enumerate" := by rfl) (z : Ns F it [] := by rfl) (z1 : starEach [it] F.X.env = [(false, eval it F.X.env)] := by rfl)
    (hs : ∀ x, foldedSetIterable (.Call (.Name "enumerate" p0) [it] [] p1) F.X.env x = pure x := by intro _; rfl) : KLc F env elt (.Tuple elts kk tpos) (.Call (.Name "enumerate" p0) [it] [] p1) ifs scope ex Q := fun own σ H k p => by
  have onone : ∀ i ∈ own0.map (·.2), own i = none := fun i hi => by
    cases q : own i with
    | none => rfl
    | some p => exact absurd (k.out i p q).choose_spec (hno i hi _)
  refine ⟨_, g, own0, hc, nd, (pi_enum hg (m _ (by simp)) (pa_cons peE pa_nil z) z1), ok, (fun s H C cl fp => (htg ⟨F.X.blk s H scope (compEnvC scope cl C F.X.env) fp, F.cls, F.hs, F.B⟩ ⟨s, H, C, cl, fp, F.hs, rfl⟩).pg), hlen, hs, fun Q' hq => ?_⟩
  refine tE_mono (fun v0 H1 ⟨xs, sm, ⟨l, vs, e1, e2, e3⟩, hx, t, v, ht, hv, hQ⟩ => ?_) (h own σ H k p)
  have hl : vs.length = xs.length := by rw [e3.len, dvs_len]
  have sq : ∀ H2, Same H1 H2 → SqL F.X.K H2 l vs := fun H2 s => SqL.of (s _ _ (hid_of e2))
  refine ⟨l, vs, by rw [e1], sq H1 (Same.refl _), fun D hD => ?_⟩
  exact lc_any own0 (J := Ite F.X.K l) (xs := enumL xs) (fun i H2 s lt => ⟨vs, _, sq H2 s, List.getElem?_eq_getElem (by rw [enumL_len] at lt; omega)⟩) (fun H2 s => ⟨vs, sq H2 s, by rw [enumL_len]; omega⟩)
    (fun i H2 u H' y s hy ⟨T, w, eu, nT, eH, hw⟩ => by
      subst eH
      refine ⟨same_new nT, fun hid hn sm2 => ?_⟩
      rw [enumL_get] at hy
      cases hxi : xs[i]? with
      | none => rw [hxi] at hy; cases hy
      | some x =>
        rw [hxi] at hy
        have ey : ((i : Int), x) = y := Option.some.inj hy
        subst ey
        have nh : ¬ hid T := fun z => hn T z nT
        obtain ⟨w2, h1, h2⟩ := e3.get (i := i) (d := dv x) (by rw [dvs_get, hxi]; rfl)
        have ew : w = w2 := by
          have z := hw vs (sq H2 s)
          rw [h1] at z
          exact (Option.some.inj z).symm
        subst ew
        refine ⟨T, [V.int (i : Nat), w], eu, by rw [hid_at nh, upd_same], ?_⟩
        show (dv (i : Int)).rep F.G _ (V.int (i : Nat)) ∧ (dv x).rep F.G _ w ∧ True
        refine ⟨rfl, ?_, trivial⟩
        refine DV.mono (d := dv x) (sm2.trans fun a o e => ?_) h2
        have h0 := hid_of e
        have nh2 : ¬ hid a := fun z => by unfold Hid at e; rw [if_pos z] at e; cases e
        rw [hid_at nh2, upd_ne (ne_of_none h0 nT)]
        exact h0) hlen htg his onone (k.mono sm) sm (by rw [enumL_len]; exact hx) ht hv hQ hq D hD
end
end Rk
set_option maxHeartbeats 4000000
namespace Rk
open PySem L2 PyProof.Rows
section
variable {F : Fx} {env : List Ent} {ex : XP} {a b c e it elt tg tg1 lo hi : Expr} {es ifs : List Expr} {pos p0 p1 p2 p3 : Pos} {n x : Str} {P : Po} {st : Stmt} {sts ss body : List Stmt}
theorem Kn.but {G : Gm} {hs : Addr → Prop} {B : Hp} {own : Nat → Option Addr} {σ : L2.St} {H H' : Hp} {D : Addr} (k : Rk.Kn G hs B own env σ H) (hB : B D = none) (hD : hs D) (s : Same (fun a => if a = D then none else H a) H') (hn : H' D ≠ none) (ng : NoG env) : Rk.Kn G hs B own env σ H' := by
  have at_ : ∀ a o, a ≠ D → H a = some o → H' a = some o := fun a o ne e => s a o (by show (if a = D then none else H a) = some o; rw [if_neg ne]; exact e)
  have sm : Same (Hid (hd hs own) H) (Hid (hd hs own) H') := fun a o e => by
    have h1 := hid_of e
    have nh : ¬ hd hs own a := fun z => by unfold Hid at e; rw [if_pos z] at e; cases e
    rw [hid_at nh]
    exact at_ a o (fun z => nh (.inl (z ▸ hD))) h1
  exact {
    ex := fun a o e => at_ a o (ne_of_none e hB) (k.ex a o e)
    hsB := fun a h => by
      by_cases z : a = D
      · rw [z]; exact hn
      · cases q : H a with
        | none => exact absurd q (k.hsB a h)
        | some o => rw [at_ a o z q]; exact nofun
    dis := k.dis
    len := k.len
    inj := k.inj
    new := fun i p h => ⟨(k.new i p h).1, by
      have z : p ≠ D := fun z => k.dis i p h (z ▸ hD)
      cases q : H p with
      | none => exact absurd q (k.new i p h).2
      | some o => rw [at_ p o z q]; exact nofun⟩
    out := k.out
    ent := fun i e h => by
      have y := k.ent i e h
      cases e with
      | no => trivial
      | sh d => obtain ⟨v, h1, h2⟩ := y; exact ⟨v, h1, DV.mono sm h2⟩
      | ow o =>
        obtain ⟨p, ho, h0, h1, h2, h3⟩ := y
        exact ⟨p, ho, h0, h1, at_ p ho (fun z => k.dis i p h0 (z ▸ hD)) h2, o.mono sm h3⟩
      | gh m => exact absurd h (nog_at ng) }
def uA (F : Fx) (scope : Scope) (es : List Expr) : TA := fun σ H Q => ∀ (s : Shared) (H0 : Hp) (C : Addr) (cl : List (Str × Addr)) (fp : List Addr), tA (F.X.blk s H0 scope (compEnvC scope cl C F.X.env) fp) es σ H Q
def out2 {α β : Type} (l h : α → Int) (v : α → Int → β) (xs : List α) : List β := xs.flatMap fun x => (span (l x) (h x)).map (v x)
theorem out2_one {α β : Type} {l h : α → Int} {v : α → Int → β} {xs : List α} {y : α} : out2 l h v (xs ++ [y]) = out2 l h v xs ++ (span (l y) (h y)).map (v y) := by
  unfold out2; rw [List.flatMap_append]; simp
abbrev LcL {β : Type} [Rp β] (F : Fx) (own : Nat → Option Addr) (H1 : Hp) (D : Addr) (done : List β) (H2 : Hp) : Prop := LcAt F own H1 D (fun _ : β => true) id done H2
theorem lcl_eq {β : Type} (xs : List β) : (xs.filter fun _ => true).map id = xs := by rw [List.map_id, List.filter_eq_self.mpr fun _ _ => rfl]
theorem k_lc2 {α β : Type} [Rp α] [Rp β] {scope : Scope} {Q : List β → Prop} {g g1 : TG} {is is1 : List Nat} {f : α → List Ent → List Ent} {f1 : Int → List Ent → List Ent} (own0 : List (Str × Nat)) (vs1 : List Nat) (nd : F.X.N.Nodup) (m : NoGl F.X.mg) (ok : BlkOk F.X.N F.X.env.scope scope own0) (hv1 : ∀ i ∈ vs1, i ∈ own0.map (·.2))
    (htg : ∀ F', Blk F scope F' → Tg F' tg α g is f) (htg1 : ∀ F', Blk F scope F' → Tg F' tg1 Int g1 is1 f1) (his : ∀ i ∈ is, i ∈ own0.map (·.2)) (his1 : ∀ i ∈ is1, i ∈ vs1) (hno : ∀ i ∈ own0.map (·.2), ∀ o, env[i]? ≠ some (.ow o)) (hno2 : ∀ (x : α), ∀ i ∈ vs1, ∀ o, (f x (wipeE env (own0.map (·.2))))[i]? ≠ some (.ow o))
    (h : KE F env it ex fun xs : Tl α => xs.xs.length ≤ 100 ∧ ∃ (l h : α → Int) (v : α → Int → β), (∀ F' x, Blk F scope F' → x ∈ xs.xs → (-1000 < l x ∧ l x < 1000 ∧ -1000 < h x ∧ h x < 1000) ∧ KE F' (f x (wipeE env (own0.map (·.2)))) lo noex fun i => KE F' (f x (wipeE env (own0.map (·.2)))) hi noex fun j => i = l x ∧ j = h x) ∧
      (∀ F' x z, Blk F scope F' → x ∈ xs.xs → z ∈ span (l x) (h x) → KE F' (f1 z (wipeE (f x (wipeE env (own0.map (·.2)))) vs1)) elt noex fun y => y = v x z) ∧ Q (out2 l h v xs.xs))
    (ng2 : ∀ x : α, NoG (f x (wipeE env (own0.map (·.2)))) := by intro _; rfl)
    (hB : ∀ s H0 C cl fp, Gl (F.X.blk s H0 scope (compEnvC scope cl C F.X.env) fp) "range" := by intro _ _ _ _ _; rfl)
    (z1 : ∀ s H0 C cl fp, starEach [lo, hi] (F.X.blk s H0 scope (compEnvC scope cl C F.X.env) fp).env = [(false, eval lo (F.X.blk s H0 scope (compEnvC scope cl C F.X.env) fp).env), (false, eval hi (F.X.blk s H0 scope (compEnvC scope cl C F.X.env) fp).env)] := by intro _ _ _ _ _; rfl)
    (z2 : ∀ s H0 C cl fp, starEach [hi] (F.X.blk s H0 scope (compEnvC scope cl C F.X.env) fp).env = [(false, eval hi (F.X.blk s H0 scope (compEnvC scope cl C F.X.env) fp).env)] := by intro _ _ _ _ _; rfl)
    (hc : F.X.calm = true := by rfl) (hs : ∀ x, foldedSetIterable it F.X.env x = pure x := by intro _; rfl) (hs1 : ∀ env x, foldedSetIterable (.Call (.Name "range" p2) [lo, hi] [] p3) env x = pure x := by intro _ _; rfl) :
    KE F env (.ListComp elt [⟨tg, it, [], 0⟩, ⟨tg1, .Call (.Name "range" p2) [lo, hi] [] p3, [], 0⟩] scope pos) ex Q := fun own σ H k p => by
  have onone : ∀ i ∈ own0.map (·.2), own i = none := fun i hi => by
    cases q : own i with
    | none => rfl
    | some p => exact absurd (k.out i p q).choose_spec (hno i hi _)
  refine tE_of (pe_lc2 (own := own0) (vs1 := vs1) (g := g) (g1 := g1) (tt := uT F scope []) (tt1 := uT F scope []) (te := uE F scope elt) (wi1 := iRng2 (uA F scope [lo, hi])) hc nd (pi_tup peE) ok hv1 (fun s H C cl fp => (htg ⟨F.X.blk s H scope (compEnvC scope cl C F.X.env) fp, F.cls, F.hs, F.B⟩ ⟨s, H, C, cl, fp, F.hs, rfl⟩).pg) (lc_tests (Nat.zero_le _))
    (fun s H C cl fp => pi_range2 (hB s H C cl fp) (m _ (by simp)) ⟨fun pos pins s' σ H' Q I h => h s H C cl fp pos pins s' I⟩ (z1 s H C cl fp) (z2 s H C cl fp)) (fun s H C cl fp => (htg1 ⟨F.X.blk s H scope (compEnvC scope cl C F.X.env) fp, F.cls, F.hs, F.B⟩ ⟨s, H, C, cl, fp, F.hs, rfl⟩).pg) (lc_tests (Nat.zero_le _))
    (fun s H C cl fp => ⟨fun pins s' σ H' Q I h => h s H C cl fp pins s' I⟩) hs hs1) ?_
  refine tE_mono (fun v0 H1 ⟨⟨xs⟩, sm, ⟨t, vs, e1, e2, e3⟩, hx, l, h, v, hb, hv, hQ⟩ => ?_) (h own σ H k p)
  have e3 : RepAll F.G (Hid (hd F.hs own) H1) vs (dvs xs) := e3
  have hx : xs.length ≤ 100 := hx
  have hlv : vs.length = xs.length := by rw [e3.len, dvs_len]
  have sq : ∀ H2, Same H1 H2 → SqT F.X.K H2 t vs := fun H2 s => SqT.of (s _ _ (hid_of e2))
  refine ⟨t, e1, ⟨vs, sq H1 (Same.refl _)⟩, fun D hD => ?_⟩
  have k1 := k.mono sm
  have hBD : F.B D = none := by
    cases q : F.B D with
    | none => rfl
    | some o => rw [k1.ex D o q] at hD; cases hD
  have small : ∀ ys : List α, (∀ y ∈ ys, y ∈ xs) → ys.length ≤ 100 → (out2 l h v ys).length ≤ ys.length * 2000 := fun ys hys _ => by
    induction ys with
    | nil => exact Nat.zero_le _
    | cons y ys ih =>
      have e : out2 l h v (y :: ys) = (span (l y) (h y)).map (v y) ++ out2 l h v ys := by unfold out2; rw [List.flatMap_cons]
      have b := (hb ⟨F.X.blk F.X.s_0 H1 scope (compEnvC scope [] 0 F.X.env) [], F.cls, F.hs, F.B⟩ y ⟨_, _, _, _, _, _, rfl⟩ (hys y List.mem_cons_self)).1
      rw [e, List.length_append, List.length_map, span_len, List.length_cons, Nat.add_mul]
      have := ih (fun z hz => hys z (List.mem_cons_of_mem _ hz)) (by simp at *; omega)
      omega
  refine ⟨fun i mm H2 => mm + i = xs.length ∧ LcL F own H1 D (out2 l h v (xs.take i)) H2, ⟨xs.length, rfl, LcAt.start hD⟩, ?_⟩
  rintro i mm H2 ⟨em, q2⟩
  have s12 := q2.same hD
  by_cases lt : i < xs.length
  · obtain ⟨y, hy⟩ : ∃ y, xs[i]? = some y := ⟨_, List.getElem?_eq_getElem lt⟩
    have hmem : y ∈ xs := List.mem_of_getElem? hy
    refine .inr ⟨⟨vs, _, sq H2 s12, List.getElem?_eq_getElem (by omega)⟩, LcL F own H1 D (out2 l h v (xs.take (i + 1))), fun H' q' => ⟨mm - 1, by omega, by omega, q'⟩, fun u H' ⟨eH, hu⟩ => ?_⟩
    replace eH := eH.symm
    subst eH
    have tk : xs.take (i + 1) = xs.take i ++ [y] := by rw [List.take_add_one, hy]; rfl
    rw [tk, out2_one]
    obtain ⟨w, hw1, hw2⟩ := e3.get (i := i) (d := dv y) (by rw [dvs_get, hy]; rfl)
    have eu : u = w := by
      have z := hu vs (sq _ s12)
      rw [hw1] at z
      exact (Option.some.inj z).symm
    subst eu
    obtain ⟨acc0, hacc0⟩ : ∃ acc, H2 D = some (.lst acc) := let ⟨_, acc, z, _⟩ := q2; ⟨acc, z⟩
    have kD : Rk.Kn F.G (fun x => F.hs x ∨ x = D) F.B own env σ H2 := k1.veil s12 hD hacc0
    obtain ⟨kw, frw⟩ := Kn.wipe (F := ⟨F.X, F.cls, fun x => F.hs x ∨ x = D, F.B⟩) (show (⟨F.X, F.cls, fun x => F.hs x ∨ x = D, F.B⟩ : Fx).Kn own env σ H2 from kD) (own0.map (·.2))
    have sD : Same (Hid (hd F.hs own) H1) (Hid (hd (fun x => F.hs x ∨ x = D) own) H2) := fun x o e => by
      have h1 := hid_of e
      have ne : x ≠ D := ne_of_none h1 hD
      have nh : ¬ hd F.hs own x := fun z => by unfold Hid at e; rw [if_pos z] at e; cases e
      rw [hid_at fun z => by
        rcases z with (z | z) | z
        · exact nh (.inl z)
        · exact ne z
        · exact nh (.inr z)]
      exact s12 x o h1
    refine (htg ⟨F.X.blk F.X.s_0 H1 scope (compEnvC scope [] 0 F.X.env) [], F.cls, fun x => F.hs x ∨ x = D, F.B⟩ ⟨F.X.s_0, H1, 0, [], [], _, rfl⟩).sem y _ _ _ _ H2 u kw (DV.mono (d := dv y) (sD.trans frw) hw2) fun own2 σ2 k2 f2 wp kp => ?_
    rw [wipeO_same onone] at kp
    refine ⟨by rw [wp _ his]; exact wipe_twice _, fun _ _ _ _ _ => ?_⟩
    -- the inner range
    intro s' H0 C cl fp
    have B' : Blk F scope ⟨F.X.blk s' H0 scope (compEnvC scope cl C F.X.env) fp, F.cls, fun x => F.hs x ∨ x = D, F.B⟩ := ⟨s', H0, C, cl, fp, _, rfl⟩
    obtain ⟨bnd, ke⟩ := hb _ y B' hmem
    have args : KA ⟨F.X.blk s' H0 scope (compEnvC scope cl C F.X.env) fp, F.cls, fun x => F.hs x ∨ x = D, F.B⟩ (f y (wipeE env (own0.map (·.2)))) [lo, hi] noex fun ds => ds = [dv (l y), dv (h y)] :=
      a_cons (ke_imp (fun i q => a_cons (ke_imp (fun j q => a_nil (by rw [q.1, q.2])) q) (by
        have z := z2 s' H0 C cl fp
        exact z)) ke) (by
        have z := z1 s' H0 C cl fp
        have z' := z2 s' H0 C cl fp
        show starEach [lo, hi] _ = (false, eval lo _) :: starEach [hi] _
        rw [z, z'])
    refine tA_mono (fun ws H4 ⟨ds, s4, r4, ed⟩ => ?_) (args own2 σ2 H2 k2 (noPort B'))
    subst ed
    match ws, r4 with
    | [w1, w2], r4 =>
      have ew1 : w1 = V.int (l y) := r4.1
      have ew2 : w2 = V.int (h y) := r4.2.1
      subst ew1 ew2
      refine ⟨l y, h y, rfl, ⟨by omega, by omega, by omega, by omega⟩, ?_⟩
      have q4 : LcL F own H1 D (out2 l h v (xs.take i)) H4 := q2.mono hD s4
      refine ⟨fun j kk H5 => kk + j = (h y - l y).toNat ∧ Same (fun a => if a = D then none else H2 a) H5 ∧ LcL F own H1 D (out2 l h v (xs.take i) ++ ((span (l y) (h y)).take j).map (v y)) H5, ⟨(h y - l y).toNat, rfl, fun a o e => ?_, by rw [List.take_zero, List.map_nil, List.append_nil]; exact q4⟩, ?_⟩
      · replace e : (if a = D then none else H2 a) = some o := e
        by_cases z : a = D
        · rw [if_pos z] at e; cases e
        · rw [if_neg z] at e; exact s4 _ _ e
      rintro j kk H5 ⟨ek, s25, q5⟩
      have s15 := q5.same hD
      obtain ⟨s5, acc, hacc, hr⟩ := q5
      by_cases lt2 : j < (h y - l y).toNat
      · refine .inr ⟨lt2, fun H6 => Same (fun a => if a = D then none else H2 a) H6 ∧ LcL F own H1 D (out2 l h v (xs.take i) ++ ((span (l y) (h y)).take (j + 1)).map (v y)) H6, fun H' q' => ⟨kk - 1, by omega, by omega, q'⟩, fun u2 H6 ⟨eH6, eu2⟩ => ?_⟩
        replace eH6 := eH6.symm
        subst eH6
        have hz := span_get lt2
        have hmz : l y + (j : Int) ∈ span (l y) (h y) := List.mem_of_getElem? hz
        have tk2 : (span (l y) (h y)).take (j + 1) = (span (l y) (h y)).take j ++ [l y + (j : Int)] := by rw [List.take_add_one, hz]; rfl
        rw [tk2, List.map_append, ← List.append_assoc]
        have k5 : Rk.Kn F.G (fun x => F.hs x ∨ x = D) F.B own2 (f y (wipeE env (own0.map (·.2)))) σ2 H5 := Kn.but k2 hBD (.inr rfl) s25 (by rw [hacc]; exact nofun) (ng2 y)
        obtain ⟨kw5, frw5⟩ := Kn.wipe (F := ⟨F.X, F.cls, fun x => F.hs x ∨ x = D, F.B⟩) (show (⟨F.X, F.cls, fun x => F.hs x ∨ x = D, F.B⟩ : Fx).Kn own2 _ σ2 H5 from k5) vs1
        have onone2 : ∀ i ∈ vs1, own2 i = none := fun i hi => by
          cases q : own2 i with
          | none => rfl
          | some p => exact absurd (k5.out i p q).choose_spec (hno2 y i hi _)
        refine (htg1 ⟨F.X.blk F.X.s_0 H1 scope (compEnvC scope [] 0 F.X.env) [], F.cls, fun x => F.hs x ∨ x = D, F.B⟩ ⟨F.X.s_0, H1, 0, [], [], _, rfl⟩).sem (l y + (j : Int)) _ _ _ _ H5 u2 kw5 eu2 fun own3 σ3 k6 f6 wp6 kp6 => ?_
        rw [wipeO_same onone2] at kp6
        refine ⟨by rw [wp6 _ his1]; exact wipe_twice _, fun _ _ _ _ _ => ?_⟩
        intro s7 H7 C7 cl7 fp7
        have B7 : Blk F scope ⟨F.X.blk s7 H7 scope (compEnvC scope cl7 C7 F.X.env) fp7, F.cls, fun x => F.hs x ∨ x = D, F.B⟩ := ⟨s7, H7, C7, cl7, fp7, _, rfl⟩
        refine tE_mono (fun z H8 ⟨w8, s8, r8, e8⟩ => ?_) (hv _ y (l y + (j : Int)) B7 hmem hmz own3 σ3 H5 k6 (noPort B7))
        subst e8
        have la : acc.length = (out2 l h v (xs.take i) ++ ((span (l y) (h y)).take j).map (v y)).length := by rw [hr.len, dvs_len, lcl_eq]
        have lb := small (xs.take i) (fun z hz => List.mem_of_mem_take hz) (by rw [List.length_take]; omega)
        have big : (300000 : Nat) < sizeLine := by decide
        refine ⟨acc, s8 _ _ hacc, ?_, fun a o e => ?_, fun a o e => ?_, acc ++ [z], upd_same, ?_⟩
        · rw [la, List.length_append, List.length_map, List.length_take, span_len]
          rw [List.length_take] at lb
          have : min i xs.length * 2000 ≤ 100 * 2000 := Nat.mul_le_mul_right _ (by omega)
          omega
        · by_cases zz : a = D
          · replace e : (if a = D then none else H2 a) = some o := e
            rw [if_pos zz] at e; cases e
          · rw [upd_ne zz]
            exact s8 _ _ (s25 a o e)
        · have ne : a ≠ D := ne_of_none e hD
          show (if a = D then none else upd H8 D (.lst (acc ++ [z])) a) = some o
          rw [if_neg ne, upd_ne ne]; exact s8 _ _ (s15 _ _ e)
        · rw [List.filter_append, List.map_append]
          have hidD : hd (fun x => F.hs x ∨ x = D) own D := .inl (.inr rfl)
          rw [hid_upd hidD]
          unfold dvs
          rw [List.map_append]
          refine RepAll.app (hr.mono (hid_same s8)) ⟨?_, trivial⟩
          refine DV.mono (d := dv (v y (l y + (j : Int)))) (hid_more fun x q => ?_) r8
          rcases q with q | ⟨i3, q⟩
          · exact .inl q
          · have o2 : own2 i3 = some x → ∃ i4, own3 i4 = some x := fun q2 => by
              rcases kp6 i3 x q2 with z | z
              · rw [onone2 i3 (his1 i3 z)] at q2; cases q2
              · exact ⟨i3, z⟩
            rcases kp i3 x q with z | z
            · rw [onone i3 (his i3 z)] at q; cases q
            · exact .inr (o2 z)
      · have e : j = (h y - l y).toNat := by omega
        subst e
        refine .inl ⟨Nat.le_refl _, ?_⟩
        rw [show (span (l y) (h y)).take (h y - l y).toNat = span (l y) (h y) from List.take_of_length_le (by rw [span_len]; exact Nat.le_refl _)] at hr
        exact ⟨s5, acc, hacc, hr⟩
  · have e : i = xs.length := by omega
    subst e
    rw [List.take_length] at q2
    obtain ⟨y, s, r, q⟩ := lc_end (Q := Q) k1 sm hD q2 (by rw [lcl_eq]; exact hQ)
    exact .inl ⟨⟨vs, sq H2 s12, by omega⟩, y, s, r, q⟩
end
end Rk
set_option maxHeartbeats 4000000
namespace Rk
open PySem L2 PyProof.Rows
abbrev Zt := Addr × Addr × List Value
def ZObj (h : Heap) (z TI TO : Addr) (f0 f1 : Value) : Prop := h.get? z = some ⟨.type "zip", none, .fields #[f0, f1, .bool false, .ref TI, .ref TO], #[]⟩
def ZTup (h : Heap) (T : Addr) (xs : List Value) : Prop := h.get? T = some { cls := .type "tuple", data := .seq xs.toArray }
def ZOut (f0 : Value) : Prop := f0 = .none ∨ ∃ T : Addr, f0 = rawInt T
def ZAt (h : Heap) (k : Nat) (t : Zt) : Prop := h.IsListIter t.1 t.2.1 k ∧ h.IsList t.2.1 t.2.2.toArray
theorem ZAt.but {h h' : Heap} {k : Nat} {t : Zt} {a : Addr} (st : ZAt h k t) (e : Heap.SameBut a h h') (n1 : t.1 ≠ a) (n2 : t.2.1 ≠ a) : ZAt h' k t :=
  ⟨st.1.at fun o q => e.extBut _ _ n1 q, st.2.at fun o q => e.extBut _ _ n2 q⟩
def Keeps (xs : List Addr) (h h' : Heap) : Prop := h'.objs.size = h.objs.size ∧ ∀ c o, c ∉ xs → h.get? c = some o → h'.get? c = some o
theorem Keeps.refl {xs : List Addr} {h : Heap} : Keeps xs h h := ⟨rfl, fun _ _ _ e => e⟩
theorem Keeps.of {a : Addr} {xs : List Addr} {h h' : Heap} (m : a ∈ xs) (e : Heap.SameBut a h h') : Keeps xs h h' := ⟨e.1, fun c o n q => e.extBut _ _ (fun z => n (z ▸ m)) q⟩
theorem Keeps.trans {xs : List Addr} {h h' h'' : Heap} (a : Keeps xs h h') (b : Keeps xs h' h'') : Keeps xs h h'' := ⟨b.1.trans a.1, fun c o n q => b.2 c o n (a.2 c o n q)⟩
theorem Keeps.sub {xs ys : List Addr} {h h' : Heap} (a : Keeps xs h h') (m : ∀ x ∈ xs, x ∈ ys) : Keeps ys h h' := ⟨a.1, fun c o n q => a.2 c o (fun z => n (m c z)) q⟩
theorem ZAt.kept {h h' : Heap} {k : Nat} {t : Zt} {xs : List Addr} (st : ZAt h k t) (e : Keeps xs h h') (n1 : t.1 ∉ xs) (n2 : t.2.1 ∉ xs) : ZAt h' k t :=
  ⟨st.1.at fun o q => e.2 _ _ n1 q, st.2.at fun o q => e.2 _ _ n2 q⟩
section
variable {prog : Program} {w : World} {A : Around} {E : Value → Shared → Prop} {s : Shared} {z TI TO : Addr} {f0 f1 : Value}
theorem z_alive {a : Addr} {Q : Option Obj → Shared → Prop} (hQ : Q (s.heap.get? a) s) : wpAny (model prog w) A (loadIfAlive a) Q E s := fun _ _ _ => hQ
theorem z_free {Q : Bool → Shared → Prop} (hz : ZObj s.heap z TI TO f0 f1) (o0 : ZOut f0) (o1 : ∃ b, f1 = .bool b) (hf : Q true s)
    (hh : ∀ h', ZObj h' z TI TO f0 (.bool true) → Heap.SameBut z s.heap h' → Q false { s with heap := h' }) : wpAny (model prog w) A (Builtin.SmallTypes.ownedTupleIsFree (.ref z)) Q E s := by
  obtain ⟨b, rfl⟩ := o1
  rcases o0 with rfl | ⟨T, rfl⟩
  · unfold Builtin.SmallTypes.ownedTupleIsFree; refine wpAny_bind (wpAny_field hz rfl (x := .none) rfl ?_); exact wpAny_pure hf
  · cases hT : s.heap.get? T with
    | some oT => exact wpAny_tupleHeld_zip hz hT hh
    | none =>
      unfold Builtin.SmallTypes.ownedTupleIsFree; refine wpAny_bind (wpAny_field hz rfl (x := rawInt T) rfl ?_)
      show wpAny _ _ (loadIfAlive ((T : Int).toNat) >>= fun o => _) _ _ _
      rw [Int.toNat_natCast]; refine wpAny_bind (z_alive ?_); rw [hT]; simp only [Option.isNone_none, if_true]; exact wpAny_pure hf
theorem z_loop {σ β : Type} {body : β → σ → Sem (ForInStep σ)} (St : Nat → σ → Shared → Prop) {Q : σ → Shared → Prop} (ts : List β)
    (hb : ∀ (j : Nat) (t : β) (st : σ) (s' : Shared), ts[j]? = some t → St j st s' → wpAny (model prog w) A (body t st) (fun r s2 => ∃ st2, r = .yield st2 ∧ St (j + 1) st2 s2) E s')
    (hQ : ∀ st s', St ts.length st s' → Q st s') {st : σ} (h0 : St 0 st s) : wpAny (model prog w) A (forIn ts st body) Q E s := by
  suffices key : ∀ (us : List β) (j : Nat) (st : σ) (s' : Shared), (∀ i t, us[i]? = some t → ts[j + i]? = some t) → j + us.length = ts.length → St j st s' → wpAny (model prog w) A (forIn us st body) Q E s' from
    key ts 0 st s (fun i t e => by rw [Nat.zero_add]; exact e) (Nat.zero_add _) h0
  intro us
  induction us with
  | nil => intro j st s' _ hl h; rw [List.forIn_nil]; exact wpAny_pure (hQ _ _ (by rw [← hl]; exact h))
  | cons u us ih =>
    intro j st s' hi hl h
    rw [List.forIn_cons]
    refine wpAny_bind (wpAny_mono (hb j u st s' (hi 0 u rfl) h) (fun r s2 ⟨st2, er, h2⟩ => ?_) fun _ _ x => x)
    subst er
    exact ih (j + 1) st2 s2 (fun i t e => by have := hi (i + 1) t (by rw [List.getElem?_cons_succ]; exact e); rw [Nat.add_assoc, Nat.add_comm 1 i]; exact this) (by rw [List.length_cons] at hl; omega) h2
structure ZMid (h0 : Heap) (z TI TO : Addr) (ts : List Zt) (k j : Nat) (f0 f1 : Value) (h : Heap) : Prop where
  obj : ZObj h z TI TO f0 f1
  out : ∃ xs, ZTup h TO xs ∧ xs.length = ts.length
  at_ : ∀ i t, ts[i]? = some t → ZAt h (if i < j then k + 1 else k) t
  kp : Keeps (z :: TO :: ts.map (·.1)) h0 h
structure ZSep (z TI TO : Addr) (ts : List Zt) : Prop where
  zTI : TI ≠ z
  zTO : TO ≠ z
  TIO : TI ≠ TO
  its : ∀ t ∈ ts, t.1 ≠ z ∧ t.1 ≠ TI ∧ t.1 ≠ TO
  nd : (ts.map (·.1)).Nodup
  ls : ∀ t ∈ ts, t.2.1 ≠ z ∧ t.2.1 ≠ TO ∧ ∀ u ∈ ts, t.2.1 ≠ u.1
theorem ZSep.fp {ts : List Zt} (D : ZSep z TI TO ts) {t : Zt} (m : t ∈ ts) : t.2.1 ∉ z :: TO :: ts.map (·.1) := by
  obtain ⟨a, b, c⟩ := D.ls t m
  intro q; simp only [List.mem_cons, List.mem_map] at q
  rcases q with q | q | ⟨u, hu, q⟩
  · exact a q
  · exact b q
  · exact c u hu q.symm
theorem ZSep.TIfp {ts : List Zt} (D : ZSep z TI TO ts) : TI ∉ z :: TO :: ts.map (·.1) := by
  intro q; simp only [List.mem_cons, List.mem_map] at q
  rcases q with q | q | ⟨u, hu, q⟩
  · exact D.zTI q
  · exact D.TIO q
  · exact (D.its u hu).2.1 q
theorem ZMid.draw {h0 : Heap} {ts : List Zt} {k j : Nat} {t : Zt} {x : Value} {Q : Value → Shared → Prop} (D : ZSep z TI TO ts) (M : ZMid h0 z TI TO ts k j f0 f1 s.heap) (ht : ts[j]? = some t) (hx : t.2.2[k]? = some x)
    (hQ : ∀ h', ZMid h0 z TI TO ts k (j + 1) f0 f1 h' → Heap.SameBut t.1 s.heap h' → Q x { s with heap := h' }) : wpAny (model prog w) A (Builtin.SmallTypes.nextOf (.ref t.1)) Q E s := by
  have m := List.mem_of_getElem? ht
  have a := M.at_ j t ht
  rw [if_neg (Nat.lt_irrefl j)] at a
  refine wpAny_nextOf_list_item a.1 a.2 (x := x) (by simpa using hx) fun h' n e => hQ h' ?_ e
  obtain ⟨xs, hxs, lx⟩ := M.out
  refine ⟨e.extBut _ _ (Ne.symm (D.its t m).1) M.obj, ⟨xs, e.extBut _ _ (Ne.symm (D.its t m).2.2) hxs, lx⟩, fun i u hu => ?_, M.kp.trans (Keeps.of (List.mem_cons_of_mem _ (List.mem_cons_of_mem _ (List.mem_map.mpr ⟨t, m, rfl⟩))) e)⟩
  have mu := List.mem_of_getElem? hu
  have z2 := M.at_ i u hu
  by_cases q : i = j
  · subst q; rw [ht] at hu; cases hu
    rw [if_pos (Nat.lt_succ_self i)]
    exact ⟨n, a.2.at fun o q => e.extBut _ _ ((D.ls t m).2.2 t m) q⟩
  · have ne : u.1 ≠ t.1 := fun q2 => by
      have h1 : (ts.map (·.1))[i]? = some u.1 := by rw [List.getElem?_map, hu]; rfl
      have h2 : (ts.map (·.1))[j]? = some t.1 := by rw [List.getElem?_map, ht]; rfl
      exact q ((List.getElem?_inj (by have := (List.getElem?_eq_some_iff.mp h1).1; exact this) D.nd).mp (by rw [h1, h2, q2]))
    rw [show (if i < j + 1 then k + 1 else k) = if i < j then k + 1 else k from by split <;> split <;> omega]
    exact z2.but e ne ((D.ls u mu).2.2 t m)
theorem ZMid.chg {h0 h h' : Heap} {ts : List Zt} {k j : Nat} {xs : List Value} (M : ZMid h0 z TI TO ts k j f0 f1 h) (D : ZSep z TI TO ts) (e : Heap.SameBut TO h h') (q : ZTup h' TO xs) (l : xs.length = ts.length) : ZMid h0 z TI TO ts k j f0 f1 h' :=
  ⟨e.extBut _ _ (Ne.symm D.zTO) M.obj, ⟨xs, q, l⟩, fun i t ht => (M.at_ i t ht).but e (D.its t (List.mem_of_getElem? ht)).2.2 (D.ls t (List.mem_of_getElem? ht)).2.1, M.kp.trans (Keeps.of (List.mem_cons_of_mem _ List.mem_cons_self) e)⟩
def zItem (k : Nat) (ts : List Zt) : List Value := ts.map fun t => (t.2.2[k]?).getD .none
theorem zItem_take {k j : Nat} {ts : List Zt} {t : Zt} {x : Value} (ht : ts[j]? = some t) (hx : t.2.2[k]? = some x) : (zItem k ts).take (j + 1) = (zItem k ts).take j ++ [x] := by
  rw [List.take_add_one]; unfold zItem; rw [List.getElem?_map, ht]; simp [hx]
theorem zItem_set {k j : Nat} {ts : List Zt} {t : Zt} {x : Value} {xs : List Value} (ht : ts[j]? = some t) (hx : t.2.2[k]? = some x) (hl : xs.length = ts.length) (ha : xs.take j = (zItem k ts).take j) : (xs.set j x).take (j + 1) = (zItem k ts).take (j + 1) := by
  have lj := (List.getElem?_eq_some_iff.mp ht).1
  rw [zItem_take ht hx, ← ha, List.take_add_one, List.take_set_of_le (Nat.le_refl j), List.getElem?_set_self (by omega)]; rfl
theorem z_item {k : Nat} {ts : List Zt} {Q : Value → Shared → Prop} (D : ZSep z TI TO ts) (hne : ts ≠ []) (hs : ts.length ≤ 100) (o0 : ZOut f0) (o1 : ∃ b, f1 = .bool b) (hz : ZObj s.heap z TI TO f0 f1) (hTI : ZTup s.heap TI (ts.map fun t => Value.ref t.1))
    (hTO : ∃ xs, ZTup s.heap TO xs ∧ xs.length = ts.length) (hat : ∀ t ∈ ts, ZAt s.heap k t) (hx : ∀ t ∈ ts, ∃ x, t.2.2[k]? = some x)
    (hQ : ∀ h' g0 g1, ZOut g0 → (∃ b, g1 = .bool b) → ZObj h' z TI TO g0 g1 → ZTup h' TI (ts.map fun t => Value.ref t.1) → (∃ xs, ZTup h' TO xs ∧ xs.length = ts.length) → (∀ t ∈ ts, ZAt h' (k + 1) t) → ZTup h' s.heap.objs.size (zItem k ts) → h'.objs.size = s.heap.objs.size + 1 →
      (∀ c o, c ∉ z :: TO :: ts.map (·.1) → s.heap.get? c = some o → h'.get? c = some o) → Q (.ref s.heap.objs.size) { s with heap := h' }) :
    wpAny (model prog w) A (Builtin.«zip.__next__» ⟨[.ref z], []⟩) (fun fin s' => ∃ v, fin = .done (.ret v) ∧ Q v s') E s := by
  have start : ∀ {h : Heap} {g0 g1 : Value}, ZObj h z TI TO g0 g1 → Heap.SameBut z s.heap h → ZMid s.heap z TI TO ts k 0 g0 g1 h := fun {h g0 g1} a e => by
    obtain ⟨xs, q1, q2⟩ := hTO
    refine ⟨a, ⟨xs, e.extBut _ _ D.zTO q1, q2⟩, fun i t ht => ?_, Keeps.of List.mem_cons_self e⟩
    rw [if_neg (Nat.not_lt_zero i)]
    have m := List.mem_of_getElem? ht
    exact (hat t m).but e (D.its t m).1 (D.ls t m).1
  have fin : ∀ {h : Heap} {g0 g1 : Value}, ZMid s.heap z TI TO ts k ts.length g0 g1 h → ∀ t ∈ ts, ZAt h (k + 1) t := fun {h g0 g1} M t m => by
    obtain ⟨i, hi⟩ := List.mem_iff_getElem?.mp m
    have q := M.at_ i t hi
    rw [if_pos (List.getElem?_eq_some_iff.mp hi).1] at q
    exact q
  show wpAny _ _ (field (.ref z) 2 >>= fun a => _) _ _ _
  refine wpAny_bind (wpAny_field hz rfl (x := .bool false) rfl ?_); show wpAny _ _ (field (.ref z) 3 >>= fun a => _) _ _ _
  refine wpAny_bind (wpAny_field hz rfl (x := .ref TI) rfl ?_); refine wpAny_bind (wpAny_seqItems (show s.heap.get? TI = _ from hTI) rfl ?_)
  show wpAny _ _ (if (ts.map fun t => Value.ref t.1).toArray.isEmpty = true then _ else _) _ _ _
  rw [if_neg (by cases ts with | nil => exact absurd rfl hne | cons => simp)]
  refine wpAny_bind (z_free hz o0 o1 ?_ fun h₁ hz₁ e₁ => ?_)
  · simp only [if_true]; refine wpAny_bind (wpAny_rule ?_)
    refine wpAny_bind (wpAny_field hz rfl (x := .ref TO) rfl ?_); refine wpAny_bind (wpAny_setField_rec hz (by simp) fun h₁ hz₁ e₁ => ?_)
    replace hz₁ : ZObj h₁ z TI TO .ellipsis f1 := hz₁
    have M0 := start hz₁ e₁
    refine wpAny_bind ?_
    refine z_loop (fun j st s' => st = (none, ()) ∧ ∃ h xs, s' = { s with heap := h } ∧ ZMid s.heap z TI TO ts k j .ellipsis f1 h ∧ ZTup h TO xs ∧ xs.length = ts.length ∧ xs.take j = (zItem k ts).take j) _ ?_ ?_ ?_
    · rintro j ⟨v, jj⟩ st s' hj ⟨rfl, h, xs, rfl, M, hxs, hl, ha⟩
      rw [List.getElem?_zipIdx, List.getElem?_map] at hj
      cases ht : ts[j]? with
      | none => rw [ht] at hj; cases hj
      | some t =>
      rw [ht] at hj
      have ev : Value.ref t.1 = v ∧ j = jj := by simpa using hj
      obtain ⟨rfl, rfl⟩ := ev
      obtain ⟨x, ex⟩ := hx t (List.mem_of_getElem? ht)
      refine wpAny_bind (wpAny_onRaise ?_)
      show wpAny _ _ (Builtin.SmallTypes.nextOf (.ref t.1) >>= fun y => _) _ _ _
      refine wpAny_bind (ZMid.draw (s := { s with heap := h }) D M ht ex fun h2 M2 e2 => wpAny_pure ?_)
      have tm := List.mem_of_getElem? ht
      have y1 : ZTup h2 TO xs := e2.extBut _ _ (Ne.symm (D.its t tm).2.2) hxs
      refine wpAny_bind (wpAny_seqItems y1 rfl ?_)
      refine wpAny_bind (wpAny_updateSeq (f := fun a => a.setIfInBounds j x) y1 rfl ?_ ?_ ?_)
      · have y4 : ZTup (h2.update TO (Obj.mapSeq fun a => a.setIfInBounds j x)) TO (xs.set j x) := by
          unfold ZTup; rw [Heap.get?_update_self _ y1 rfl]; simp [Obj.mapSeq]
        refine wpAny_bind (wpAny_letGo (wpAny_pure ⟨_, rfl, rfl, _, xs.set j x, rfl, M2.chg D (Heap.SameBut.update ..) y4 (by rw [List.length_set]; exact hl), y4, by rw [List.length_set]; exact hl, zItem_set ht ex hl ha⟩))
      · simp; exact Nat.le_trans (by omega : xs.length ≤ 100) (by decide)
      · simp; exact Nat.le_trans (by omega : xs.length ≤ 100) (by decide)
    · rintro st s' ⟨rfl, h, xs, rfl, M, hxs, hl, ha⟩
      rw [List.length_zipIdx, List.length_map] at M ha
      have exs : xs = zItem k ts := by
        rw [List.take_of_length_le (by omega), List.take_of_length_le (by unfold zItem; rw [List.length_map]; exact Nat.le_refl _)] at ha
        exact ha
      subst exs
      refine wpAny_bind (wpAny_seqItems hxs rfl ?_)
      refine wpAny_bind (wpAny_newTuple (hsz := by simp; unfold zItem; rw [List.length_map]; exact Nat.le_trans hs (by decide)) ?_)
      refine wpAny_bind ?_
      unfold Builtin.SmallTypes.ownedTupleHandOut
      have hsz : h.objs.size = s.heap.objs.size := M.kp.1
      have hz6 : ZObj (h.push { cls := .type "tuple", data := .seq (zItem k ts).toArray }) z TI TO .ellipsis f1 := Heap.get?_push_of_some _ M.obj
      refine wpAny_bind (wpAny_setField_rec hz6 (by simp) fun h7 hz7 e7 => ?_); refine wpAny_setField_rec hz7 (by simp) fun h8 hz8 e8 => ?_
      have zlt : z < h.objs.size := Heap.lt_size M.obj
      have up : ∀ c o, c ≠ z → h.get? c = some o → h8.get? c = some o := fun c o n q => e8.extBut _ _ n (e7.extBut _ _ n (Heap.get?_push_of_some _ q))
      have TIh : h.get? TI = _ := M.kp.2 _ _ D.TIfp hTI
      refine wpAny_pure ⟨_, rfl, ?_⟩
      rw [hsz]
      refine hQ h8 (rawInt s.heap.objs.size) (.bool false) (.inr ⟨_, rfl⟩) ⟨_, rfl⟩ (by have := hz8; rw [hsz] at this; exact this) (up _ _ D.zTI TIh) ⟨_, up _ _ D.zTO hxs, hl⟩ (fun t m => ?_) ?_ ?_ fun c o n q => up c o (fun z => n (z ▸ List.mem_cons_self)) (M.kp.2 c o n q)
      · have q := fin M t m
        exact ⟨q.1.at fun o y => up _ _ (D.its t m).1 y, q.2.at fun o y => up _ _ (D.ls t m).1 y⟩
      · have q : h8.get? h.objs.size = _ := e8.extBut _ _ (Nat.ne_of_gt zlt) (e7.extBut _ _ (Nat.ne_of_gt zlt) (Heap.get?_push_size _ rfl))
        rw [hsz] at q; exact q
      · rw [e8.1, e7.1, Heap.size_push, hsz]
    · obtain ⟨xs, q1, q2⟩ := hTO
      exact ⟨rfl, h₁, xs, rfl, M0, e₁.extBut _ _ D.zTO q1, q2, rfl⟩
  · simp only [Bool.false_eq_true, if_false]
    have M0 := start hz₁ e₁
    refine wpAny_bind ?_
    rw [← Array.forIn_toList]
    refine z_loop (fun j st s' => st = (none, ((zItem k ts).take j).toArray) ∧ ∃ h, s' = { s with heap := h } ∧ ZMid s.heap z TI TO ts k j f0 (.bool true) h) _ ?_ ?_ ⟨rfl, h₁, rfl, M0⟩
    · rintro j v st s' hj ⟨rfl, h, rfl, M⟩
      rw [List.getElem?_map] at hj
      cases ht : ts[j]? with
      | none => rw [ht] at hj; cases hj
      | some t =>
      rw [ht] at hj
      have ev : Value.ref t.1 = v := by simpa using hj
      subst ev
      obtain ⟨x, ex⟩ := hx t (List.mem_of_getElem? ht)
      refine wpAny_bind (wpAny_holding ?_)
      show wpAny _ _ (Builtin.SmallTypes.nextOf (.ref t.1) >>= fun y => _) _ _ _
      refine wpAny_bind (ZMid.draw (s := { s with heap := h }) D M ht ex fun h2 M2 e2 => wpAny_pure (wpAny_pure ⟨_, rfl, ?_, h2, rfl, M2⟩))
      rw [zItem_take ht ex]; simp
    · rintro st s' ⟨rfl, h, rfl, M⟩
      rw [List.length_map] at M
      have exs : (zItem k ts).take (ts.map fun t => Value.ref t.1).length = zItem k ts := List.take_of_length_le (by unfold zItem; rw [List.length_map, List.length_map]; exact Nat.le_refl _)
      show wpAny _ _ (newTuple ((zItem k ts).take (ts.map fun t => Value.ref t.1).length).toArray.toList >>= fun v => _) _ _ _
      rw [exs]
      refine wpAny_bind (wpAny_newTuple (hsz := by unfold zItem; rw [List.length_map]; exact Nat.le_trans hs (by decide)) ?_)
      have hsz : h.objs.size = s.heap.objs.size := M.kp.1
      have up : ∀ c o, h.get? c = some o → (h.push { cls := .type "tuple", data := .seq (zItem k ts).toArray }).get? c = some o := fun c o q => Heap.get?_push_of_some _ q
      obtain ⟨xs, q1, q2⟩ := M.out
      refine wpAny_pure ⟨_, rfl, ?_⟩
      show Q (.ref h.objs.size) _
      rw [hsz]
      refine hQ _ f0 (.bool true) o0 ⟨_, rfl⟩ (up _ _ M.obj) (up _ _ (M.kp.2 _ _ D.TIfp hTI)) ⟨xs, up _ _ q1, q2⟩ (fun t m => ?_) ?_ ?_ fun c o n q => up c o (M.kp.2 c o n q)
      · have q := fin M t m
        exact ⟨q.1.at fun o y => up _ _ y, q.2.at fun o y => up _ _ y⟩
      · have q : (h.push { cls := .type "tuple", data := .seq (zItem k ts).toArray }).get? h.objs.size = _ := Heap.get?_push_size _ rfl
        rw [hsz] at q; exact q
      · rw [Heap.size_push, hsz]
theorem z_end {k : Nat} {t : Zt} {ts : List Zt} {Q : PySem.Fin → Shared → Prop} (hh : A.handled = none) (D : ZSep z TI TO (t :: ts)) (o0 : ZOut f0) (o1 : ∃ b, f1 = .bool b) (hz : ZObj s.heap z TI TO f0 f1) (hTI : ZTup s.heap TI ((t :: ts).map fun t => Value.ref t.1))
    (hat : ZAt s.heap k t) (hx : t.2.2[k]? = none)
    (hE : ∀ h' e, (∀ c o, c ∉ z :: TO :: (t :: ts).map (·.1) → s.heap.get? c = some o → h'.get? c = some o) → (∃ o, h'.get? e = some o ∧ o.cls = .type "StopIteration") → E (.ref e) { s with heap := h' }) :
    wpAny (model prog w) A (Builtin.«zip.__next__» ⟨[.ref z], []⟩) Q E s := by
  have m : t.1 ∈ z :: TO :: (t :: ts).map (·.1) := List.mem_cons_of_mem _ (List.mem_cons_of_mem _ List.mem_cons_self)
  have D1 := D.its t List.mem_cons_self
  have D2 := D.ls t List.mem_cons_self
  show wpAny _ _ (field (.ref z) 2 >>= fun a => _) _ _ _
  refine wpAny_bind (wpAny_field hz rfl (x := .bool false) rfl ?_); show wpAny _ _ (field (.ref z) 3 >>= fun a => _) _ _ _
  refine wpAny_bind (wpAny_field hz rfl (x := .ref TI) rfl ?_); refine wpAny_bind (wpAny_seqItems (show s.heap.get? TI = _ from hTI) rfl ?_)
  show wpAny _ _ (if ((t :: ts).map fun t => Value.ref t.1).toArray.isEmpty = true then _ else _) _ _ _
  rw [if_neg (by simp)]
  refine wpAny_bind (z_free hz o0 o1 ?_ fun h₁ hz₁ e₁ => ?_)
  · simp only [if_true]; refine wpAny_bind (wpAny_rule ?_)
    refine wpAny_bind (wpAny_field hz rfl (x := .ref TO) rfl ?_); refine wpAny_bind (wpAny_setField_rec hz (by simp) fun h₁ hz₁ e₁ => ?_)
    replace hz₁ : ZObj h₁ z TI TO .ellipsis f1 := hz₁
    refine wpAny_bind ?_
    rw [List.map_cons, List.zipIdx_cons, List.forIn_cons]
    refine wpAny_bind (wpAny_bind (wpAny_onRaise ?_))
    show wpAny _ _ (Builtin.SmallTypes.nextOf (.ref t.1) >>= fun y => _) _ _ _
    have a1 := hat.but e₁ D1.1 D2.1
    refine wpAny_bind (wpAny_nextOf_list_end (s := { s with heap := h₁ }) hh a1.1 a1.2 (by simpa using hx) fun h₂ e e2 he => ?_)
    obtain ⟨oe, ho, hc⟩ := he
    have z2 : ZObj h₂ z TI TO .ellipsis f1 := e2 _ _ (Ne.symm D1.1) hz₁
    have ne : e ≠ z := fun q => by rw [q, show h₂.get? z = _ from z2] at ho; cases ho; simp at hc
    exact wpAny_setField_rec z2 (by simp) fun h₃ _ e3 => hE h₃ e (fun c o n q => e3.extBut _ _ (fun y => n (y ▸ List.mem_cons_self)) (e2 _ _ (fun y => n (y ▸ m)) (e₁.extBut _ _ (fun y => n (y ▸ List.mem_cons_self)) q))) ⟨oe, e3.extBut _ _ ne ho, hc⟩
  · simp only [Bool.false_eq_true, if_false]
    refine wpAny_bind ?_
    rw [← Array.forIn_toList, List.map_cons, List.forIn_cons]
    refine wpAny_bind (wpAny_bind (wpAny_holding ?_))
    show wpAny _ _ (Builtin.SmallTypes.nextOf (.ref t.1) >>= fun y => _) _ _ _
    have a1 := hat.but e₁ D1.1 D2.1
    refine wpAny_bind (wpAny_nextOf_list_end (s := { s with heap := h₁ }) hh a1.1 a1.2 (by simpa using hx) fun h₂ e e2 he => ?_)
    exact hE h₂ e (fun c o n q => e2 _ _ (fun z => n (z ▸ m)) (e₁.extBut _ _ (fun z => n (z ▸ List.mem_cons_self)) q)) he
theorem z_pyNext {k : Nat} {ts : List Zt} {Q : Option Value → Shared → Prop} (D : ZSep z TI TO ts) (hne : ts ≠ []) (hs : ts.length ≤ 100) (o0 : ZOut f0) (o1 : ∃ b, f1 = .bool b) (hz : ZObj s.heap z TI TO f0 f1) (hTI : ZTup s.heap TI (ts.map fun t => Value.ref t.1))
    (hTO : ∃ xs, ZTup s.heap TO xs ∧ xs.length = ts.length) (hat : ∀ t ∈ ts, ZAt s.heap k t) (hx : ∀ t ∈ ts, ∃ x, t.2.2[k]? = some x)
    (hQ : ∀ h' g0 g1, ZOut g0 → (∃ b, g1 = .bool b) → ZObj h' z TI TO g0 g1 → ZTup h' TI (ts.map fun t => Value.ref t.1) → (∃ xs, ZTup h' TO xs ∧ xs.length = ts.length) → (∀ t ∈ ts, ZAt h' (k + 1) t) → ZTup h' s.heap.objs.size (zItem k ts) → h'.objs.size = s.heap.objs.size + 1 →
      (∀ c o, c ∉ z :: TO :: ts.map (·.1) → s.heap.get? c = some o → h'.get? c = some o) → Q (some (.ref s.heap.objs.size)) { s with heap := h' }) : wpAny (model prog w) A (pyNext (.ref z)) Q E s := by
  have ty : s.TypeIs (.ref z) "zip" := ⟨_, show s.heap.get? z = _ from hz, rfl⟩
  unfold pyNext
  refine wpAny_bind (wpAny_attempt (wpAny_callSpecial?_slot (name := Str.ofString "__next__") ty F.slot_zip_next (wpAny_call_entry F.slot_zip_next ty F.entry_zip_next ?_ (F.args_zip_next_1 _))))
  exact z_item D hne hs o0 o1 hz hTI hTO hat hx fun h' g0 g1 a1 a2 a3 a4 a5 a6 a7 a8 a9 => wpAny_pure (hQ h' g0 g1 a1 a2 a3 a4 a5 a6 a7 a8 a9)
theorem z_pyEnd {k : Nat} {t : Zt} {ts : List Zt} {Q : Option Value → Shared → Prop} (hh : A.handled = none) (D : ZSep z TI TO (t :: ts)) (o0 : ZOut f0) (o1 : ∃ b, f1 = .bool b) (hz : ZObj s.heap z TI TO f0 f1) (hTI : ZTup s.heap TI ((t :: ts).map fun t => Value.ref t.1))
    (hat : ZAt s.heap k t) (hx : t.2.2[k]? = none) (hQ : ∀ h', (∀ c o, c ∉ z :: TO :: (t :: ts).map (·.1) → s.heap.get? c = some o → h'.get? c = some o) → Q none { s with heap := h' }) : wpAny (model prog w) A (pyNext (.ref z)) Q E s := by
  have ty : s.TypeIs (.ref z) "zip" := ⟨_, show s.heap.get? z = _ from hz, rfl⟩
  unfold pyNext
  refine wpAny_bind (wpAny_attempt (wpAny_callSpecial?_slot (name := Str.ofString "__next__") ty F.slot_zip_next (wpAny_call_entry F.slot_zip_next ty F.entry_zip_next ?_ (F.args_zip_next_1 _))))
  refine z_end hh D o0 o1 hz hTI hat hx fun h' e hk he => ?_
  obtain ⟨o, ho, hc⟩ := he
  exact wpAny_bind (wpAny_isInstance (T := "StopIteration") (b := true) ⟨o, ho, hc⟩ isSubtype_stop (wpAny_pure (hQ _ hk)))
end
theorem zipnew1 (a : Value) : checkBuiltinCall "zip.__new__" ⟨[.type "zip", a], []⟩ = pure () := by kernel_rfl
theorem zipcall1 (a : Value) : checkTypeCall "zip" ⟨[a], []⟩ = pure () := by kernel_rfl
theorem zipobj2 (a b : Value) : argsOk "object.__init__" ⟨[a, b], []⟩ := by
  unfold argsOk
  rw [signature?_of (id := "object.__init__") (n := ['_', '_', 't', 'i', 'n', 'i', '_', '_']) (o := ['t', 'c', 'e', 'j', 'b', 'o']) (by kernel_rfl) F.owner_object]; kernel_rfl
def zip1H (h : Heap) (l : Addr) : Heap := (((h.push { cls := .type "list_iterator", data := .fields #[.ref l, .int 0 0] }).push { cls := .type "tuple", data := .seq #[.ref h.objs.size] }).push { cls := .type "tuple", data := .seq #[.none] }).push ⟨.type "zip", none, .fields #[.none, .bool false, .bool false, .ref (h.objs.size + 1), .ref (h.objs.size + 2)], #[]⟩
theorem meets_zip1 (l : Addr) (xs : Array Value) : Meets (Builtin.«zip.__new__» ⟨[.type "zip", .ref l], []⟩) (fun _ R s => s.heap.IsList l xs ∧ R (.ok (.ret (.ref (s.heap.objs.size + 3)))) { s with heap := zip1H s.heap l }) :=
  .of_wp fun prog w A R s h => by
    obtain ⟨hp, g, d, tk, os⟩ := s
    obtain ⟨hl, h⟩ := h
    have hsub := sub_zip
    have hL : Heap.IsList (Shared.heap ⟨hp, g, d, tk, os⟩) l xs := hl
    wp_walk using wpAny_pyIter_list hL
    refine ⟨_, rfl, ?_⟩
    simp [Heap.size_push]
    exact h
section
variable {prog : Program} {w : World} {A : Around} {E : Value → Shared → Prop} {s : Shared}
theorem call_zip1 {l : Addr} {xs : Array Value} {Q : Value → Shared → Prop} (hl : s.heap.IsList l xs)
    (h : ∀ h', ZObj h' (s.heap.objs.size + 3) (s.heap.objs.size + 1) (s.heap.objs.size + 2) .none (.bool false) → ZTup h' (s.heap.objs.size + 1) [.ref s.heap.objs.size] → ZTup h' (s.heap.objs.size + 2) [.none] → h'.IsListIter s.heap.objs.size l 0 →
      (∀ c o, s.heap.get? c = some o → h'.get? c = some o) → Q (.ref (s.heap.objs.size + 3)) { s with heap := h' }) : wpAny (model prog w) A (call (.type "zip") [.ref l]) Q E s := by
  refine callType_new F.called_zip (by decide) (zipcall1 _) (zipnew1 _) (fun obj => zipobj2 obj _) F.entry_zip_new (meets_zip1 l xs) ⟨hl, ?_⟩
  have e1 : (s.heap.push { cls := .type "list_iterator", data := .fields #[.ref l, .int 0 0] }).objs.size = s.heap.objs.size + 1 := Heap.size_push ..
  have e2 : ((s.heap.push { cls := .type "list_iterator", data := .fields #[.ref l, .int 0 0] }).push { cls := .type "tuple", data := .seq #[.ref s.heap.objs.size] }).objs.size = s.heap.objs.size + 2 := by rw [Heap.size_push, e1]
  have e3 : (((s.heap.push { cls := .type "list_iterator", data := .fields #[.ref l, .int 0 0] }).push { cls := .type "tuple", data := .seq #[.ref s.heap.objs.size] }).push { cls := .type "tuple", data := .seq #[.none] }).objs.size = s.heap.objs.size + 3 := by rw [Heap.size_push, e2]
  have g3 : ZObj (zip1H s.heap l) (s.heap.objs.size + 3) (s.heap.objs.size + 1) (s.heap.objs.size + 2) .none (.bool false) := by unfold ZObj zip1H; rw [← e3]; exact Heap.get?_push_size _ rfl
  have g2 : ZTup (zip1H s.heap l) (s.heap.objs.size + 2) [.none] := by unfold ZTup zip1H; rw [← e2]; exact Heap.get?_push_of_some _ (Heap.get?_push_size _ rfl)
  have g1 : ZTup (zip1H s.heap l) (s.heap.objs.size + 1) [.ref s.heap.objs.size] := by unfold ZTup zip1H; rw [← e1]; exact Heap.get?_push_of_some _ (Heap.get?_push_of_some _ (Heap.get?_push_size _ rfl))
  have g0 : (zip1H s.heap l).get? s.heap.objs.size = some _ := Heap.get?_push_of_some _ (Heap.get?_push_of_some _ (Heap.get?_push_of_some _ (Heap.get?_push_size _ rfl)))
  exact ⟨⟨_, g3, rfl⟩, h _ g3 g1 g2 ⟨_, g0, rfl, rfl⟩ fun c o q => Heap.get?_push_of_some _ (Heap.get?_push_of_some _ (Heap.get?_push_of_some _ (Heap.get?_push_of_some _ q)))⟩
end
def Itzn (K : PySem.W.Frag) (as : List Addr) : It :=
  ⟨fun i H => ∀ a ∈ as, ∃ xs, SqL K H a xs ∧ i < xs.length,
    fun i H v H' => ∃ T ys, v = .ref T ∧ H T = none ∧ H' = upd H T (.tup ys) ∧ ys.length = as.length ∧ ∀ (j : Nat) a xs, as[j]? = some a → SqL K H a xs → ∃ y, ys[j]? = some y ∧ xs[i]? = some y,
    fun i H => ∃ a xs, as[0]? = some a ∧ SqL K H a xs ∧ xs.length ≤ i⟩
theorem zl_vals {X : Cx} {pins : List (Addr × Obj)} {σ : L2.St} {H : Hp} {s : Shared} (I : Inv X pins σ H s) {as : List Addr} (h : ∀ a ∈ as, ∃ xs, SqL X.K H a xs) : ∃ f : Addr → List Value, ∀ a ∈ as, ∀ xs, SqL X.K H a xs → s.heap.IsList a (f a).toArray ∧ Vals xs (f a) := by
  classical
  have key : ∀ a, ∃ vs : List Value, a ∈ as → ∀ xs, SqL X.K H a xs → s.heap.IsList a vs.toArray ∧ Vals xs vs := fun a => by
    by_cases m : a ∈ as
    · obtain ⟨xs, q⟩ := h a m
      obtain ⟨us, rv, p, _⟩ := I.list q
      exact ⟨us, fun _ ys q2 => ⟨p.isList, by rw [I.list_inj q2 q]; exact rv⟩⟩
    · exact ⟨[], fun z => absurd z m⟩
  exact ⟨fun a => (key a).choose, fun a m => (key a).choose_spec m⟩
def zts (its as : List Addr) (f : Addr → List Value) : List Zt := (its.zip as).map fun p => (p.1, p.2, f p.2)
theorem zts_get {its as : List Addr} {f : Addr → List Value} {j : Nat} {t : Zt} : (zts its as f)[j]? = some t ↔ ∃ it a, its[j]? = some it ∧ as[j]? = some a ∧ t = (it, a, f a) := by
  unfold zts
  rw [List.getElem?_map, Option.map_eq_some_iff]
  constructor
  · rintro ⟨⟨it, a⟩, h, e⟩
    obtain ⟨h1, h2⟩ := List.getElem?_zip_eq_some.mp h
    exact ⟨it, a, h1, h2, e.symm⟩
  · rintro ⟨it, a, h1, h2, e⟩
    exact ⟨(it, a), List.getElem?_zip_eq_some.mpr ⟨h1, h2⟩, e.symm⟩
theorem zts_its {its as : List Addr} {f : Addr → List Value} (hl : its.length = as.length) : (zts its as f).map (·.1) = its := by
  unfold zts
  rw [List.map_map]
  exact List.map_fst_zip (Nat.le_of_eq hl)
theorem zts_len {its as : List Addr} {f : Addr → List Value} (hl : its.length = as.length) : (zts its as f).length = its.length := by
  have e := congrArg List.length (zts_its (f := f) hl)
  rw [List.length_map] at e
  exact e
theorem zts_mem {its as : List Addr} {f : Addr → List Value} {t : Zt} (h : t ∈ zts its as f) : t.1 ∈ its ∧ t.2.1 ∈ as ∧ t.2.2 = f t.2.1 := by
  obtain ⟨j, hj⟩ := List.mem_iff_getElem?.mp h
  obtain ⟨it, a, h1, h2, e⟩ := zts_get.mp hj
  subst e
  exact ⟨List.mem_of_getElem? h1, List.mem_of_getElem? h2, rfl⟩
theorem zts_vals {f : Addr → List Value} {g : Addr → V} {i : Nat} : ∀ {its as : List Addr}, its.length = as.length → (∀ a ∈ as, RelV (g a) (((f a)[i]?).getD .none)) → Vals (as.map g) (zItem i (zts its as f))
  | [], [], _, _ => .nil
  | it :: its, a :: as, h, r => .cons (r a List.mem_cons_self) (zts_vals (its := its) (as := as) (by simpa using h) fun b m => r b (List.mem_cons_of_mem _ m))
theorem turn_zipn {P : Program} {w : World} {K : PySem.W.Frag} {x : Str} {tpos : Pos} {as its : List Addr} {z TI TO : Addr} (hl : its.length = as.length) (hne : as ≠ []) (hs : as.length ≤ 100) (zTI : TI ≠ z) (zTO : TO ≠ z) (TIO : TI ≠ TO) (hi : ∀ i ∈ its, i ≠ z ∧ i ≠ TI ∧ i ≠ TO) (nd : its.Nodup)
    (ha : ∀ a ∈ as, a ≠ z ∧ a ≠ TI ∧ a ≠ TO ∧ ∀ i ∈ its, a ≠ i) :
    Turn P w K (.Name x tpos) (Itzn K as) (z :: TI :: TO :: its) z (fun i h => ∃ f0 f1, ZOut f0 ∧ (∃ b, f1 = .bool b) ∧ ZObj h z TI TO f0 f1 ∧ ZTup h TI (its.map Value.ref) ∧ (∃ xs, ZTup h TO xs ∧ xs.length = its.length) ∧ ∀ (j : Nat) it a, its[j]? = some it → as[j]? = some a → h.IsListIter it a i) where
  mem := List.mem_cons_self
  obj := fun i h ⟨f0, f1, _, _, hz, hTI, ⟨xs, hTO, _⟩, hit⟩ b hb => by
    simp only [List.mem_cons] at hb
    rcases hb with q | q | q | q
    · rw [q]; exact ⟨_, hz, fun v q => nomatch q⟩
    · rw [q]; exact ⟨_, hTI, fun v q => nomatch q⟩
    · rw [q]; exact ⟨_, hTO, fun v q => nomatch q⟩
    · obtain ⟨j, hj⟩ := List.mem_iff_getElem?.mp q
      obtain ⟨a, haj⟩ : ∃ a, as[j]? = some a := ⟨_, List.getElem?_eq_getElem (by have := (List.getElem?_eq_some_iff.mp hj).1; omega)⟩
      obtain ⟨o, e1, _, d⟩ := hit j b a hj haj
      exact ⟨o, e1, fun v q => by rw [d] at q; cases q⟩
  keep := fun i h h' ⟨f0, f1, o0, o1, hz, hTI, ⟨xs, hTO, lx⟩, hit⟩ k => by
    refine ⟨f0, f1, o0, o1, k z (by simp) _ hz, k TI (by simp) _ hTI, ⟨xs, k TO (by simp) _ hTO, lx⟩, fun j it a hj haj => (hit j it a hj haj).at fun o q => k it (by simp [List.mem_of_getElem? hj]) o q⟩
  item := by
    intro X hP hw hK hc i pins s σ H E I hf ⟨f0, f1, o0, o1, hz, hTI, hTO, hit⟩ hg
    subst hP hw hK
    obtain ⟨f, hf2⟩ := zl_vals I (as := as) fun a m => (hg a m).elim fun xs q => ⟨xs, q.1⟩
    have ei : (zts its as f).map (·.1) = its := zts_its hl
    have er : (zts its as f).map (fun t => Value.ref t.1) = its.map Value.ref := by rw [← ei, List.map_map, ei]; rfl
    have D : ZSep z TI TO (zts its as f) := ⟨zTI, zTO, TIO, fun t m => hi _ (zts_mem m).1, by rw [ei]; exact nd, fun t m => ⟨(ha _ (zts_mem m).2.1).1, (ha _ (zts_mem m).2.1).2.2.1, fun u mu => (ha _ (zts_mem m).2.1).2.2.2 _ (zts_mem mu).1⟩⟩
    have hx : ∀ t ∈ zts its as f, ∃ x, t.2.2[i]? = some x := fun t m => by
      obtain ⟨_, m2, e⟩ := zts_mem m
      obtain ⟨xs, q, lt⟩ := hg _ m2
      have r := (hf2 _ m2 xs q).2.length
      rw [e]; exact ⟨_, List.getElem?_eq_getElem (by omega)⟩
    have lz : (zts its as f).length = its.length := zts_len hl
    have hzl : z < s.heap.objs.size := Heap.lt_size hz
    refine z_pyNext D (by intro q; rw [q] at lz; exact hne (List.eq_nil_of_length_eq_zero (by simp at lz; omega))) (by omega) o0 o1 hz (by rw [er]; exact hTI) (by rw [lz]; exact hTO) (fun t m => ?_) hx fun h' g0 g1 q0 q1 hz' hTI' hTO' hat' hT hsz hk => ?_
    · obtain ⟨j, hj⟩ := List.mem_iff_getElem?.mp m
      obtain ⟨it, a, h1, h2, e⟩ := zts_get.mp hj
      subst e
      obtain ⟨xs, q, _⟩ := hg a (List.mem_of_getElem? h2)
      exact ⟨hit j it a h1 h2, (hf2 a (List.mem_of_getElem? h2) xs q).1⟩
    · rw [ei] at hk; rw [er] at hTI'; rw [lz] at hTO'
      have hk2 : ∀ c o, c ∉ z :: TI :: TO :: its → s.heap.get? c = some o → h'.get? c = some o := fun c o n q => hk c o (fun y => n (by
        simp only [List.mem_cons] at y ⊢
        rcases y with y | y | y
        · exact .inl y
        · exact .inr (.inr (.inl y))
        · exact .inr (.inr (.inr y)))) q
      -- the items, as the known heap has them
      obtain ⟨ys, vy, hy⟩ : ∃ ys : List V, Vals ys (zItem i (zts its as f)) ∧ ∀ (j : Nat) a xs, as[j]? = some a → SqL X.K H a xs → ∃ y, ys[j]? = some y ∧ xs[i]? = some y := by
        classical
        have g0 : ∀ a, ∃ v : V, a ∈ as → (∀ xs, SqL X.K H a xs → xs[i]? = some v) ∧ RelV v (((f a)[i]?).getD .none) := fun a => by
          by_cases m : a ∈ as
          · obtain ⟨xs, q, lt⟩ := hg a m
            obtain ⟨u, hu, ru⟩ := (hf2 a m xs q).2.get (List.getElem?_eq_getElem lt)
            refine ⟨xs[i], fun _ => ⟨fun ys q2 => ?_, ?_⟩⟩
            · rw [I.list_inj q2 q]; exact List.getElem?_eq_getElem lt
            · rw [hu]; exact ru
          · exact ⟨.non, fun z => absurd z m⟩
        refine ⟨as.map fun a => (g0 a).choose, zts_vals hl fun a m => ((g0 a).choose_spec m).2, fun j a xs hj q => ⟨(g0 a).choose, ?_, ((g0 a).choose_spec (List.mem_of_getElem? hj)).1 xs q⟩⟩
        rw [List.getElem?_map, hj]; rfl
      have ly : ys.length = as.length := by rw [vy.length]; unfold zItem; rw [List.length_map]; omega
      have new : ObjOk X.prog X.w (upd H s.heap.objs.size (.tup ys)) h' s.heap.objs.size (.tup ys) := ⟨by show ys.length ≤ sizeLine; exact Nat.le_trans (by omega : ys.length ≤ 100) (by decide), _, vy, ⟨_, hT, rfl, _, rfl⟩⟩
      have I1 : Inv X pins σ (upd H s.heap.objs.size (.tup ys)) { s with heap := h' } := I.turnedNew (t' := s.toks) (ch := z :: TI :: TO :: its) hk2 hf (Nat.le_refl _) new
      refine ⟨_, rfl, ?_⟩
      show wpAny _ _ (pure ()) _ _ _
      refine wpAny_pure ⟨.ref s.heap.objs.size, _, I1, rfl, ⟨_, ys, rfl, I.hok.fresh (Nat.le_refl _), rfl, ly, hy⟩, ⟨g0, g1, q0, q1, hz', hTI', hTO', fun j it a hj haj => ?_⟩, fun b hb => ?_⟩
      · exact (hat' _ (List.mem_of_getElem? (zts_get.mpr ⟨it, a, hj, haj, rfl⟩))).1
      · have lt : b < s.heap.objs.size := by
          obtain ⟨x0, hTO, lx⟩ := hTO
          simp only [List.mem_cons] at hb
          rcases hb with q | q | q | q
          · rw [q]; exact hzl
          · rw [q]; exact Heap.lt_size hTI
          · rw [q]; exact Heap.lt_size hTO
          · obtain ⟨j, hj⟩ := List.mem_iff_getElem?.mp q
            obtain ⟨a, haj⟩ : ∃ a, as[j]? = some a := ⟨_, List.getElem?_eq_getElem (by have := (List.getElem?_eq_some_iff.mp hj).1; omega)⟩
            obtain ⟨o, e1, _⟩ := hit j b a hj haj
            exact Heap.lt_size e1
        rw [upd_ne (Nat.ne_of_lt lt)]
        exact (hf b hb).1
  done := by
    intro X hP hw hK hc i pins s σ H E I hf ⟨f0, f1, o0, o1, hz, hTI, hTO, hit⟩ hg
    subst hP hw hK
    obtain ⟨a, xs, h0, q, lx⟩ := hg
    obtain ⟨us, rv, p, _⟩ := I.list q
    have r := rv.length
    obtain ⟨it, hi0⟩ : ∃ it, its[0]? = some it := ⟨_, List.getElem?_eq_getElem (by have := (List.getElem?_eq_some_iff.mp h0).1; omega)⟩
    let f : Addr → List Value := fun b => if b = a then us else []
    obtain ⟨t, ts, et⟩ : ∃ t ts, zts its as f = t :: ts := by
      cases e : zts its as f with
      | nil => have := (zts_get (f := f)).mpr ⟨it, a, hi0, h0, rfl⟩; rw [e] at this; cases this
      | cons t ts => exact ⟨t, ts, rfl⟩
    have e0 : t = (it, a, us) := by
      have := (zts_get (f := f)).mpr ⟨it, a, hi0, h0, rfl⟩
      rw [et] at this
      have e : t = (it, a, f a) := by simpa using this
      rw [e]; show (it, a, if a = a then us else []) = _; rw [if_pos rfl]
    have ei : (t :: ts).map (·.1) = its := by rw [← et]; exact zts_its hl
    have er : (t :: ts).map (fun t => Value.ref t.1) = its.map Value.ref := by rw [← ei, List.map_map]; rfl
    have D : ZSep z TI TO (t :: ts) := by
      rw [← et]
      exact ⟨zTI, zTO, TIO, fun t m => hi _ (zts_mem m).1, by rw [zts_its hl]; exact nd, fun t m => ⟨(ha _ (zts_mem m).2.1).1, (ha _ (zts_mem m).2.1).2.2.1, fun u mu => (ha _ (zts_mem m).2.1).2.2.2 _ (zts_mem mu).1⟩⟩
    subst e0
    refine z_pyEnd (I.ok.hd hc) D o0 o1 hz (by rw [er]; exact hTI) ⟨hit 0 it a hi0 h0, p.isList⟩ (List.getElem?_eq_none_iff.mpr (by show us.length ≤ i; omega)) fun h' hk => ⟨rfl, I.turnedL (t' := s.toks) (ch := z :: TI :: TO :: its) (fun c o n q => hk c o (fun y => n (by
      rw [ei] at y
      simp only [List.mem_cons] at y ⊢
      rcases y with y | y | y
      · exact .inl y
      · exact .inr (.inr (.inl y))
      · exact .inr (.inr (.inr y)))) q) hf⟩
  self := fun A i s Q E ⟨f0, f1, o0, o1, hz, hTI, hTO, hit⟩ h => by
    have ty : s.TypeIs (.ref z) "zip" := ⟨_, show s.heap.get? z = _ from hz, rfl⟩
    refine wpAny_pyIter_slot ty F.slot_zip_iter (wpAny_call_entry F.slot_zip_iter ty F.entry_zip_iter ?_ (F.args_zip_iter_1 _))
    show wpAny _ _ (ret (.ref z)) _ _ s
    exact wpAny_pure ⟨_, rfl, "zip", _, ty, F.slot_zip_next.lookup, h⟩
theorem pi_zipS {X : Cx} {x : Str} {tpos p sp pos : Pos} {e : Expr} {te : TE} (hg : Gl X "zip") (hm : X.mg "zip" = none) (he : PE X e te) (hst : starEach [.Starred e sp] X.env = [(true, eval e X.env)] := by rfl) :
    PI X (.Name x tpos) (.Call (.Name "zip" p) [.Starred e sp] [] pos) (fun σ H R => te σ H fun y H1 => ∃ (l : Addr) (as : List Addr), y = .ref l ∧ SqL X.K H1 l (as.map V.ref) ∧ (as.length = 1 ∨ as.length = 2) ∧ (∀ a ∈ as, ∃ xs, SqL X.K H1 a xs) ∧ R (Itzn X.K as) H1) := by
  refine ⟨fun pins s σ H R I h => ?_⟩
  refine Call_ (ld_blt I hg hm PyProof.Rows.boot_zip ?_)
  rw [hst]
  refine PySem.W.ks_call (P := fun _ => True) rfl (fun _ _ => ⟨.machine, .inr (.inl rfl), PySem.W.Looks.of_pure rfl⟩) ?_
  refine PySem.W.ks_lone (thn (he.run pins s σ H _ I h) fun v s1 ⟨y, H1, I1, ry, l, as, ey, hl, hn, ha, q⟩ => ?_)
  subst ey
  obtain rfl : v = Value.ref l := ry
  refine StX.star_any I1 (.inr hl) fun us s2 I2 rv => ⟨trivial, ?_⟩
  have eus : us = as.map Value.ref := by
    have key : ∀ {as : List Addr} {us : List Value}, Vals (as.map V.ref) us → us = as.map Value.ref := fun {as} => by
      induction as with
      | nil => intro us r; cases r; rfl
      | cons a as ih => intro us r; cases r with | cons r1 r2 => rw [List.map_cons, ih r2]; cases r1; rfl
    exact key rv
  subst eus
  have pl : ∀ a ∈ as, ∃ vs : List Value, s2.heap.IsList a vs.toArray := fun a m => by
    obtain ⟨xs, q⟩ := ha a m
    obtain ⟨us, _, p, _⟩ := I2.list q
    exact ⟨us, p.isList⟩
  have lta : ∀ a ∈ as, a < s2.heap.objs.size := fun a m => by
    obtain ⟨_, o, ho, _⟩ := pl a m
    exact Heap.lt_size ho
  match as, hn, pl, lta, q with
  | [a], _, pl, lta, q =>
    obtain ⟨vs, hv⟩ := pl a List.mem_cons_self
    have la : a < s2.heap.objs.size := lta a List.mem_cons_self
    refine call_zip1 hv fun h' z1 z2 z3 z4 hk => ?_
    have I3 : Inv X pins σ H1 { s2 with heap := h' } := I2.kept (t' := s2.toks) hk
    have ty : Shared.TypeIs { s2 with heap := h' } (.ref (s2.heap.objs.size + 3)) "zip" := ⟨_, show h'.get? _ = _ from z1, rfl⟩
    refine wpAny_pyIter_slot ty F.slot_zip_iter (wpAny_call_entry F.slot_zip_iter ty F.entry_zip_iter ?_ (F.args_zip_iter_1 _))
    show wpAny _ _ (ret (.ref _)) _ _ _
    refine wpAny_pure ⟨_, rfl, "zip", _, ty, F.slot_zip_next.lookup, ?_⟩
    have n0 : ∀ n : Nat, a ≠ s2.heap.objs.size + n := fun n e => by rw [e] at la; exact absurd la (by show ¬ (_ : Nat) < _; omega)
    refine ⟨s2.heap.objs.size + 3, (s2.heap.objs.size + 3) :: (s2.heap.objs.size + 1) :: (s2.heap.objs.size + 2) :: [s2.heap.objs.size], _, Itzn X.K [a], H1, rfl, I3, turn_zipn (its := [s2.heap.objs.size]) rfl (by simp) (Nat.le_of_ble_eq_true rfl) (by show ¬ (_ : Nat) = _; omega) (by show ¬ (_ : Nat) = _; omega) (by show ¬ (_ : Nat) = _; omega) ?_ (by simp) ?_, ⟨.none, .bool false, .inl rfl, ⟨_, rfl⟩, z1, z2, ⟨_, z3, rfl⟩, ?_⟩, ?_, q⟩
    · intro i hi; rw [List.mem_singleton] at hi; subst hi
      exact ⟨by show ¬ (_ : Nat) = _; omega, by show ¬ (_ : Nat) = _; omega, by show ¬ (_ : Nat) = _; omega⟩
    · intro b hb; rw [List.mem_singleton] at hb; subst hb
      exact ⟨n0 3, n0 1, n0 2, fun i hi => by rw [List.mem_singleton] at hi; subst hi; exact n0 0⟩
    · intro j it b hj hb
      cases j with
      | zero => cases hj; cases hb; exact z4
      | succ j => cases hj
    · intro c hc
      have hle : s2.heap.objs.size ≤ c := by
        simp only [List.mem_cons, List.not_mem_nil, or_false] at hc
        rcases hc with q | q | q | q <;> rw [q] <;> first | exact Nat.le_refl _ | exact Nat.le_add_right _ _
      exact I2.fpOk hle (I2.hok.fresh hle)
  | [a, b], _, pl, lta, q =>
    obtain ⟨vs, hv⟩ := pl a List.mem_cons_self
    obtain ⟨ws, hw⟩ := pl b (List.mem_cons_of_mem _ List.mem_cons_self)
    have la : a < s2.heap.objs.size := lta a List.mem_cons_self
    have lb : b < s2.heap.objs.size := lta b (List.mem_cons_of_mem _ List.mem_cons_self)
    refine call_zip_2 hv hw fun h' z1 z2 z3 z4 z5 _ hk => ?_
    have I3 : Inv X pins σ H1 { s2 with heap := h' } := I2.kept (t' := s2.toks) hk
    have ty : Shared.TypeIs { s2 with heap := h' } (.ref (s2.heap.objs.size + 4)) "zip" := ⟨_, z1, rfl⟩
    refine wpAny_pyIter_slot ty F.slot_zip_iter (wpAny_call_entry F.slot_zip_iter ty F.entry_zip_iter ?_ (F.args_zip_iter_1 _))
    show wpAny _ _ (ret (.ref _)) _ _ _
    refine wpAny_pure ⟨_, rfl, "zip", _, ty, F.slot_zip_next.lookup, ?_⟩
    have n0 : ∀ n : Nat, a ≠ s2.heap.objs.size + n := fun n e => by rw [e] at la; exact absurd la (by show ¬ (_ : Nat) < _; omega)
    have n1 : ∀ n : Nat, b ≠ s2.heap.objs.size + n := fun n e => by rw [e] at lb; exact absurd lb (by show ¬ (_ : Nat) < _; omega)
    refine ⟨s2.heap.objs.size + 4, (s2.heap.objs.size + 4) :: (s2.heap.objs.size + 2) :: (s2.heap.objs.size + 3) :: [s2.heap.objs.size, s2.heap.objs.size + 1], _, Itzn X.K [a, b], H1, rfl, I3, turn_zipn (its := [s2.heap.objs.size, s2.heap.objs.size + 1]) rfl (by simp) (Nat.le_of_ble_eq_true rfl) (by show ¬ (_ : Nat) = _; omega) (by show ¬ (_ : Nat) = _; omega) (by show ¬ (_ : Nat) = _; omega) ?_ (by simp) ?_, ⟨.none, .bool false, .inl rfl, ⟨_, rfl⟩, z1, z2, ⟨[.none, .none], z3, rfl⟩, ?_⟩, ?_, q⟩
    · intro i hi
      simp only [List.mem_cons, List.not_mem_nil, or_false] at hi
      rcases hi with rfl | rfl
      all_goals exact ⟨by show ¬ (_ : Nat) = _; omega, by show ¬ (_ : Nat) = _; omega, by show ¬ (_ : Nat) = _; omega⟩
    · intro c hc
      simp only [List.mem_cons, List.not_mem_nil, or_false] at hc
      rcases hc with rfl | rfl
      · exact ⟨n0 4, n0 2, n0 3, fun i hi => by
          simp only [List.mem_cons, List.not_mem_nil, or_false] at hi
          rcases hi with rfl | rfl
          · exact n0 0
          · exact n0 1⟩
      · exact ⟨n1 4, n1 2, n1 3, fun i hi => by
          simp only [List.mem_cons, List.not_mem_nil, or_false] at hi
          rcases hi with rfl | rfl
          · exact n1 0
          · exact n1 1⟩
    · intro j it c hj hc
      match j, hj, hc with
      | 0, hj, hc => cases hj; cases hc; exact z4
      | 1, hj, hc => cases hj; cases hc; exact z5
    · intro c hc
      have hle : s2.heap.objs.size ≤ c := by
        simp only [List.mem_cons, List.not_mem_nil, or_false] at hc
        rcases hc with q | q | q | q | q <;> rw [q] <;> first | exact Nat.le_refl _ | exact Nat.le_add_right _ _
      exact I2.fpOk hle (I2.hok.fresh hle)
def cols {α : Type} : List (List α) → List (Tl α)
  | [r] => r.map fun x => ⟨[x]⟩
  | [r, t] => (r.zip t).map fun p => ⟨[p.1, p.2]⟩
  | _ => []
section
variable {F : Fx} {env : List Ent} {ex : XP} {a b c e it elt tg : Expr} {es ifs : List Expr} {pos p0 p1 p2 p3 : Pos} {n x : Str} {P : Po} {st : Stmt} {sts ss body : List Stmt}
theorem q_lcZ {α γ : Type} [Rp α] [Rp γ] {scope : Scope} {Q : List γ → Prop} {g : TG} {is : List Nat} {f : Tl α → List Ent → List Ent} {sp : Pos} (own0 : List (Str × Nat)) (nd : F.X.N.Nodup) (m : F.X.mg "zip" = none) (ok : BlkOk F.X.N F.X.env.scope scope own0)
    (hlen : ifs.length ≤ 1) (htg : ∀ F', Blk F scope F' → Tg F' (.Name x p2) (Tl α) g is f) (his : ∀ i ∈ is, i ∈ own0.map (·.2)) (hno : ∀ i ∈ own0.map (·.2), ∀ o, env[i]? ≠ some (.ow o))
    (h : KE F env it ex fun rows : List (List α) => ((∃ r, rows = [r] ∧ r.length ≤ 40000) ∨ ∃ r r2, rows = [r, r2] ∧ r.length = r2.length ∧ r.length ≤ 40000) ∧ ∃ (t : Tl α → Bool) (v : Tl α → γ), (∀ F' x, Blk F scope F' → x ∈ cols rows → KTs F' (f x (wipeE env (own0.map (·.2)))) ifs fun b => b = t x) ∧
      (∀ F' x, Blk F scope F' → x ∈ cols rows → t x = true → KE F' (f x (wipeE env (own0.map (·.2)))) elt noex fun y => y = v x) ∧ Q (((cols rows).filter t).map v))
    (hc : F.X.calm = true := by rfl) (hg : Gl F.X "zip" := by rfl) (hst : starEach [.Starred it sp] F.X.env = [(true, eval it F.X.env)] := by rfl)
    (hs : ∀ x, foldedSetIterable (.Call (.Name "zip" p0) [.Starred it sp] [] p1) F.X.env x = pure x := by intro _; rfl) : KLc F env elt (.Name x p2) (.Call (.Name "zip" p0) [.Starred it sp] [] p1) ifs scope ex Q := fun own σ H k p => by
  have onone : ∀ i ∈ own0.map (·.2), own i = none := fun i hi => by
    cases q : own i with
    | none => rfl
    | some p => exact absurd (k.out i p q).choose_spec (hno i hi _)
  refine ⟨_, g, own0, hc, nd, (pi_zipS hg m peE hst), ok, (fun s H C cl fp => (htg ⟨F.X.blk s H scope (compEnvC scope cl C F.X.env) fp, F.cls, F.hs, F.B⟩ ⟨s, H, C, cl, fp, F.hs, rfl⟩).pg), hlen, hs, fun Q' hq => ?_⟩
  refine tE_mono (fun v0 H1 ⟨rows, sm, ⟨l, vs, e1, e2, e3⟩, hrows, t, v, ht, hv, hQ⟩ => ?_) (h own σ H k p)
  -- the rows' addresses
  obtain ⟨as, eas, hal, har⟩ : ∃ as : List Addr, vs = as.map V.ref ∧ as.length = rows.length ∧ ∀ (j : Nat) a r, as[j]? = some a → rows[j]? = some r → ∃ ws, Hid (hd F.hs own) H1 a = some (.lst ws) ∧ RepAll F.G (Hid (hd F.hs own) H1) ws (dvs r) := by
    clear hrows ht hv hQ e2
    have key : ∀ {vs : List V} {rows : List (List α)}, RepAll F.G (Hid (hd F.hs own) H1) vs (dvs rows) → ∃ as : List Addr, vs = as.map V.ref ∧ as.length = rows.length ∧ ∀ (j : Nat) a r, as[j]? = some a → rows[j]? = some r → ∃ ws, Hid (hd F.hs own) H1 a = some (.lst ws) ∧ RepAll F.G (Hid (hd F.hs own) H1) ws (dvs r) := by
      intro vs
      induction vs with
      | nil => intro rows r; cases rows with
        | nil => exact ⟨[], rfl, rfl, fun j a r h => by cases h⟩
        | cons => exact r.elim
      | cons v vs ih => intro rows r; cases rows with
        | nil => exact r.elim
        | cons w rows =>
          obtain ⟨⟨p, ws, rfl, h1, h2⟩, r2⟩ := r
          obtain ⟨as, ea, la, har⟩ := ih r2
          refine ⟨p :: as, by rw [ea]; rfl, by simp [la], fun j a r hj hr => ?_⟩
          cases j with
          | zero => cases hj; cases hr; exact ⟨ws, h1, h2⟩
          | succ j => exact har j a r hj hr
    exact key e3
  subst eas
  have hsq : ∀ (j : Nat) a r, as[j]? = some a → rows[j]? = some r → ∃ ws, (∀ H2, Same H1 H2 → SqL F.X.K H2 a ws) ∧ ws.length = r.length ∧ RepAll F.G (Hid (hd F.hs own) H1) ws (dvs r) := fun j a r hj hr => by
    obtain ⟨ws, w1, w2⟩ := har j a r hj hr
    exact ⟨ws, fun H2 s => SqL.of (s _ _ (hid_of w1)), by rw [w2.len, dvs_len], w2⟩
  have hex : ∀ a ∈ as, ∃ xs, SqL F.X.K H1 a xs := fun a ma => by
    obtain ⟨j, hj⟩ := List.mem_iff_getElem?.mp ma
    obtain ⟨r, hr⟩ : ∃ r, rows[j]? = some r := ⟨_, List.getElem?_eq_getElem (by have := (List.getElem?_eq_some_iff.mp hj).1; omega)⟩
    obtain ⟨ws, w1, _⟩ := hsq j a r hj hr
    exact ⟨ws, w1 H1 (Same.refl _)⟩
  have lcol : ∀ (j : Nat) r, rows[j]? = some r → r.length = (cols rows).length := fun j r hr => by
    rcases hrows with ⟨r0, rfl, _⟩ | ⟨r0, r1, rfl, el, _⟩
    · match j, hr with
      | 0, hr => cases hr; simp [cols]
    · match j, hr with
      | 0, hr => cases hr; simp [cols, el]
      | 1, hr => cases hr; simp [cols, el]
  have hx : (cols rows).length ≤ 40000 := by
    rcases hrows with ⟨r0, rfl, _⟩ | ⟨r0, r1, rfl, el, _⟩
    · simpa [cols]
    · simp [cols]; omega
  refine ⟨l, as, e1, SqL.of (hid_of e2), by rcases hrows with ⟨r0, rfl, _⟩ | ⟨r0, r1, rfl, _⟩ <;> simp at hal <;> omega, hex, fun D hD => ?_⟩
  exact lc_any own0 (J := Itzn F.X.K as) (xs := cols rows) (fun i H2 s lt a ma => by
      obtain ⟨j, hj⟩ := List.mem_iff_getElem?.mp ma
      obtain ⟨r, hr⟩ : ∃ r, rows[j]? = some r := ⟨_, List.getElem?_eq_getElem (by have := (List.getElem?_eq_some_iff.mp hj).1; omega)⟩
      obtain ⟨ws, w1, w2, _⟩ := hsq j a r hj hr
      exact ⟨ws, w1 H2 s, by rw [w2, lcol j r hr]; exact lt⟩) (fun H2 s => by
      obtain ⟨r, hr⟩ : ∃ r, rows[0]? = some r := ⟨_, List.getElem?_eq_getElem (by rcases hrows with ⟨r0, rfl, _⟩ | ⟨r0, r1, rfl, _⟩ <;> simp)⟩
      obtain ⟨a, ha⟩ : ∃ a, as[0]? = some a := ⟨_, List.getElem?_eq_getElem (by have := (List.getElem?_eq_some_iff.mp hr).1; omega)⟩
      obtain ⟨ws, w1, w2, _⟩ := hsq 0 a r ha hr
      exact ⟨a, ws, ha, w1 H2 s, by rw [w2, lcol 0 r hr]; exact Nat.le_refl _⟩)
    (fun i H2 u H' y s hy ⟨T, ys, eu, nT, eH, ly, hys⟩ => by
      subst eH
      refine ⟨same_new nT, fun hid hn sm2 => ?_⟩
      have nh : ¬ hid T := fun z => hn T z nT
      refine ⟨T, ys, eu, by rw [hid_at nh, upd_same], ?_⟩
      have up : Same (Hid (hd F.hs own) H1) (Hid hid (upd H2 T (.tup ys))) := sm2.trans fun a o e => by
        have h0 := hid_of e
        have nh2 : ¬ hid a := fun z => by unfold Hid at e; rw [if_pos z] at e; cases e
        rw [hid_at nh2, upd_ne (ne_of_none h0 nT)]
        exact h0
      have one : ∀ (j : Nat) r a (z : α), rows[j]? = some r → as[j]? = some a → r[i]? = some z → ∃ w, ys[j]? = some w ∧ Rp.rep F.G (Hid hid (upd H2 T (.tup ys))) w z := fun j r a z hr ha hz => by
        obtain ⟨ws, w1, w2, w3⟩ := hsq j a r ha hr
        obtain ⟨w, hw1, hw2⟩ := hys j a ws ha (w1 H2 s)
        obtain ⟨w', h1, h2⟩ := w3.get (i := i) (d := dv z) (by rw [dvs_get, hz]; rfl)
        rw [hw2] at h1
        cases h1
        exact ⟨w, hw1, DV.mono (d := dv z) up h2⟩
      rcases hrows with ⟨r0, rfl, _⟩ | ⟨r0, r1, rfl, el, _⟩
      · rw [show cols [r0] = r0.map fun x => ⟨[x]⟩ from rfl, List.getElem?_map] at hy
        cases hz : r0[i]? with
        | none => rw [hz] at hy; cases hy
        | some z =>
          rw [hz] at hy
          have ey : (⟨[z]⟩ : Tl α) = y := Option.some.inj hy
          subst ey
          obtain ⟨a0, ha⟩ : ∃ a, as[0]? = some a := ⟨_, List.getElem?_eq_getElem (by simp at hal; omega)⟩
          obtain ⟨w, hw, r⟩ := one 0 r0 a0 z rfl ha hz
          have l1 : ys.length = 1 := by simp at hal; omega
          match ys, l1, hw with
          | [w'], _, hw => cases hw; exact ⟨r, trivial⟩
      · rw [show cols [r0, r1] = (r0.zip r1).map fun p => ⟨[p.1, p.2]⟩ from rfl, List.getElem?_map] at hy
        cases hz : (r0.zip r1)[i]? with
        | none => rw [hz] at hy; cases hy
        | some z =>
          rw [hz] at hy
          have ey : (⟨[z.1, z.2]⟩ : Tl α) = y := Option.some.inj hy
          subst ey
          obtain ⟨hz1, hz2⟩ := List.getElem?_zip_eq_some.mp hz
          obtain ⟨a0, ha⟩ : ∃ a, as[0]? = some a := ⟨_, List.getElem?_eq_getElem (by simp at hal; omega)⟩
          obtain ⟨a1, ha1⟩ : ∃ a, as[1]? = some a := ⟨_, List.getElem?_eq_getElem (by simp at hal; omega)⟩
          obtain ⟨w, hw, r⟩ := one 0 r0 a0 z.1 rfl ha hz1
          obtain ⟨w1, hw1, rr⟩ := one 1 r1 a1 z.2 rfl ha1 hz2
          have l1 : ys.length = 2 := by simp at hal; omega
          match ys, l1, hw, hw1 with
          | [u1, u2], _, hw, hw1 => cases hw; cases hw1; exact ⟨r, rr, trivial⟩) hlen htg his onone (k.mono sm) sm hx ht hv hQ hq D hD
end
end Rk
set_option maxHeartbeats 4000000
namespace Rk
open PySem L2 PyProof.Rows
instance {α β : Type} [Rp α] [Rp β] : NN (α × β) := nn_tp
section
variable {F : Fx} {env : List Ent} {ex : XP} {a b c e it elt tg : Expr} {es ifs : List Expr} {pos p0 p1 p2 p3 : Pos} {n x : Str} {P : Po} {st : Stmt} {sts ss body : List Stmt}
theorem k_ifD {α : Type} [Rp α] {Q : α → Prop} (v1 v2 : α) (h : KT F env c ex fun x => (x = true → KE F env a ex fun y : α => y = v1) ∧ (x = false → KE F env b ex fun y : α => y = v2) ∧ Q (if x = true then v1 else v2)) : KE F env (.IfExp c a b pos) ex Q :=
  k_if (kt_imp (fun x ⟨h1, h2, h3⟩ => by
    cases x with
    | true => rw [if_pos rfl] at h3 ⊢; exact ke_imp (fun y e => by rw [e]; exact h3) (h1 rfl)
    | false => rw [if_neg Bool.false_ne_true] at h3 ⊢; exact ke_imp (fun y e => by rw [e]; exact h3) (h2 rfl)) h)
end
end Rk
set_option maxHeartbeats 4000000
namespace Rk
open PySem L2 PyProof.Rows
@[reducible] def fsh (B : Hp) {α : Type} (i : Rp α) : Rp α where
  rep := fun G H v a => i.rep G H v a ∧ ∃ p, v = .ref p ∧ B p = none
  mono := fun e h => ⟨i.mono e h.1, h.2⟩
def DV.new (B : Hp) (d : DV) : DV := ⟨d.ty, fsh B d.ins, d.val⟩
def spNew (K : PySem.W.Frag) (cls : Nat → Addr) (S : Pm) : Sp := fun vs H Q E => ∃ (hs : Addr → Prop) (ds : List DV) (r : Rz), (∀ x, hs x → H x ≠ none) ∧ RepAll ⟨K, cls⟩ (Hid hs H) vs ds ∧ S ds r ∧
  match r with
  | .ok d => ∀ v H', Same H H' → (d.new H).rep ⟨K, cls⟩ (Hid hs H') v → Q v H'
  | .err c => ∀ dd H', Same H H' → Xd c dd (Hid hs H') → E (.ref (cls c)) dd H'
theorem new_of {K : PySem.W.Frag} {cls : Nat → Addr} {S : Pm} (vs : List V) (H : Hp) (Q : VK) (E : XK) (h : spOf K cls S vs H Q E) : spNew K cls S vs H Q E := by
  obtain ⟨hs, ds, r, hh, rv, hS, q⟩ := h
  refine ⟨hs, ds, r, hh, rv, hS, ?_⟩
  cases r with
  | ok d => exact fun v H' s rd => q v H' s rd.1
  | err c => exact q
def bodyNew (B : Hp) (r : Rz) : Po := { nx := fun _ => False, rt := fun d => ∃ d0, r = .ok d0 ∧ d = d0.new B, ex := fun _ C => r = .err C }
section
variable {PP : Program} {w : World} {K : PySem.W.Frag} {mg : Str → Option Value} {base : Heap} {cls : Nat → Addr}
theorem fn_okN {name qual : Str} {st : Stmt} {f : Addr} {fd : FuncData} {N ps : List Str} {k : Nat} {S : Pm} (Fn : Fun K name qual st f fd) (sc : FnScope N ps (defScope st)) (len : ∀ ds r, S ds r → ds.length = ps.length)
    (hb : ∀ (cd : Value) (A : Around) (outer : List Env) (s : Shared) (H : Hp) (E : XK) (hs : Addr → Prop) (ds : List DV) (r : Rz), Room k (A.deeper (envOfC qual (defScope st) s.heap.objs.size f cd)) → S ds r →
      KSs (fx PP w K mg base cls N qual (defScope st) f cd A outer s H E hs) (env0 ds N.length) (defBody st) (bodyNew H r)) : FnOk PP w K mg base (L2.CX PP w) (k + 1) f fd ps (spNew K cls S) := by
  refine Fn.okX sc (fun vs H Q E ⟨hs, ds, r, _, rv, hS, _⟩ => by rw [rv.len]; exact len ds r hS) (fun cd A outer s H vs Q E hr ⟨hs, ds, r, hh, rv, hS, q⟩ => ⟨_, peSs, ?_⟩)
  have kn := kn_start (N := N) hh rv
  have pt : Port (fx PP w K mg base cls N qual (defScope st) f cd A outer s H E hs) (fun _ => none) H (bodyNew H r).ex := by
    refine ⟨passes_of rfl, _, takes_of (E := E) rfl rfl rfl rfl, fun env own' C dd σ H' k' fr e xd => ?_⟩
    have e : r = .err C := e
    subst e
    exact q dd H' k'.ex (xd.mono (hid_more fun _ z => .inl z))
  refine tSs_mono (D := ends (fx PP w K mg base cls N qual (defScope st) f cd A outer s H E hs) (fun _ => none) H (bodyNew H r)) ?_ ?_ ?_ ?_ (hb cd A outer s H E hs ds r hr hS _ _ H kn pt)
  · rintro σ' H' ⟨env', own', k', fr, e⟩
    exact e.elim
  · rintro v H' ⟨d, sm, rd, ⟨d0, e, ed⟩, _⟩
    subst e
    subst ed
    exact q v H' sm rd
  · rintro σ' H' ⟨env', own', k', fr, e⟩
    exact e.elim
  · rintro σ' H' ⟨env', own', k', fr, e⟩
    exact e.elim
end
section
variable {F : Fx} {env : List Ent} {ex : XP} {a b c e it elt tg : Expr} {es ifs : List Expr} {pos p0 p1 : Pos} {n x : Str} {P : Po} {st : Stmt} {sts ss body : List Stmt}
def KEN (F : Fx) (env : List Ent) (e : Expr) (ex : XP) {α : Type} [i : Rp α] (Q : α → Prop) : Prop :=
  ∀ own σ H, F.Kn own env σ H → Port F own H ex → tE F.X e σ H fun v H' => ∃ a : α, Same H H' ∧ (fsh H i).rep F.G (Hid (hd F.hs own) H') v a ∧ Q a
theorem s_retNew {α : Type} [i : Rp α] (h : KEN F env e P.ex fun y : α => P.rt ((dv y).new F.B)) (hre : P.re env := by exact True.intro) : KS F env (.Return (some e) pos) P :=
  @s_ret F env e pos P α (fsh F.B i) (fun own σ H k p => tE_mono (fun v H' ⟨y, s, ⟨r, p, e, z⟩, q⟩ => ⟨y, s, ⟨r, p, e, same_none k.ex z⟩, q⟩) (h own σ H k p)) hre
theorem s_retOwn {α : Type} [Rp α] (i : Nat) {xs : List α} (hN : F.X.N[i]? = some x) (he : env[i]? = some (.ow (olist xs))) (q : P.rt ((dv xs).new F.B)) (hre : P.re env := by exact True.intro)
    (hv : Vis F.X.env.scope x := by first | exact Or.inl rfl | exact Or.inr (Or.inl rfl) | exact Or.inr (Or.inr rfl)) (hdb : (x == ("__debug__" : Str)) = false := by decide) (hcd : (x == ("__classdict__" : Str)) = false := by decide) : KS F env (.Return (some (.Name x p1)) pos) P := KS.mk fun own σ H k p => by
  obtain ⟨l, ho, h0, h1, h2, vs, e3, r3⟩ := (show EntOk F.G F.hs own σ H i (.ow (olist xs)) from k.ent i _ he)
  subst e3
  exact tS_of (ps_ret (pe_var hN hv hdb hcd)) ⟨.ref l, h1, (dv xs).new F.B, k.ex, ⟨⟨l, vs, rfl, by rw [hid_at (k.dis i l h0)]; exact h2, r3.mono (hid_more fun _ z => .inl z)⟩, l, rfl, (k.new i l h0).1⟩, q, env, own, σ, k, hre⟩
theorem kn_ofLc {β : Type} [Rp β] {scope : Scope} {Q : List β → Prop} {ex : XP} (h : KLc F env elt tg it ifs scope ex Q) : KEN F env (.ListComp elt [⟨tg, it, ifs, 0⟩] scope pos) ex Q := fun own σ H k p => by
  obtain ⟨wi, g, own0, hc, nd, pi, ok, pg, hlen, hs, z⟩ := h own σ H k p
  exact tE_of (pe_lc (own := own0) (g := g) (te := uE F scope elt) hc nd pi ok pg (lc_tests hlen) (fun s H C cl fp => ⟨fun pins s' σ H' Q I h => h s H C cl fp pins s' I⟩) hs) (z _ fun v H' ⟨y, s, r, q⟩ fr => ⟨y, s, ⟨r, fr⟩, q⟩)
section
variable {kk : Nat} {f : Addr} {fd : FuncData} {ps : List Str} {S : Pm}
theorem spec_runN {own : Nat → Option Addr} {σ : L2.St} {H0 H : Hp} {α : Type} [i : Rp α] {Q : α → Prop} {W : WX} {vs : List V} {ds : List DV} {r : Rz} (s : Same H0 H) (k : F.Kn own env σ H) (hw : ∀ env own' C dd σ H', F.Kn own' env σ H' → Fr F.hs own own' H0 H' → ex env C → Xd C dd (Hid (hd F.hs own') H') → W (.ref (F.cls C)) dd σ H')
    (rv : RepAll F.G (Hid (hd F.hs own) H) vs ds) (hS : S ds r) (q : Got env ex Q r) : spNew F.X.K F.cls S vs H (fun v H' => ∃ y : α, Same H0 H' ∧ (fsh H0 i).rep F.G (Hid (hd F.hs own) H') v y ∧ Q y) (WE W σ) := by
  refine ⟨hd F.hs own, ds, r, Kn.hidden k, rv, hS, ?_⟩
  cases r with
  | ok d =>
    obtain ⟨x, ed, q⟩ := q
    intro v H' s' rd
    subst ed
    obtain ⟨r1, p, e, z⟩ := rd
    exact ⟨x, s.trans s', ⟨r1, p, e, same_none s z⟩, q⟩
  | err c => exact fun dd H' s' x => hw env own c dd σ H' (k.mono s') (Fr.of (s.trans s')) q x
theorem kn_call {α : Type} [Rp α] {Q : α → Prop} (G : FnOk F.X.prog F.X.w F.X.K F.X.mg F.X.base (L2.CX F.X.prog F.X.w) kk f fd ps (spNew F.X.K F.cls S)) (hr : Room kk F.X.A) (hm : F.X.mg n = some (.ref f)) (hk : PySem.W.keepIn F.X.K (.ref f) = true) (hb : Binds F.X.K fd ps [])
    (h : KA F env (e :: es) ex fun ds => ∃ r, S ds r ∧ Got env ex Q r) (hg : Gl F.X n := by rfl) (hdb : (n == ("__debug__" : Str)) = false := by decide)
    (hz : starEach (e :: es) F.X.env = (false, eval e F.X.env) :: starEach es F.X.env := by rfl) (hpl : (backTo pos (starEach es F.X.env)).any (·.1) = false := by rfl) : KEN F env (.Call (.Name n p0) (e :: es) [] pos) ex Q := fun own σ H k p => by
  obtain ⟨pa, W, tk, hw⟩ := id p
  exact tE_of (pe_callS G hr hg hm hk hb (fun σ => passAt tk σ) peA hdb hz hpl) (tA_mono (fun vs H' ⟨ds, s, r1, r, hS, q⟩ => spec_runN s (k.mono s) hw r1 hS q) (h own σ H k p))
end
end
end Rk
set_option maxHeartbeats 4000000
namespace Rk
open PySem L2 PyProof.Rows
section
variable {F : Fx} {env : List Ent} {ex : XP} {a e : Expr} {P : Po} {pos p1 : Pos} {es : List Expr}
theorem t_lst {α : Type} [Rp α] {Q : Bool → Prop} (h : KE F env a ex fun xs : List α => Q (!xs.isEmpty)) (he : ∀ whole, isTrue a F.X.env whole = (do let v ← whole; standAt a.pos; holding [v] (truthy v)) := by intro _; rfl) : KT F env a ex Q := fun own σ H k p =>
  tT_of (pt_truth peE he) (tE_mono (fun v H' ⟨xs, s, ⟨l, vs, e1, e2, e3⟩, q⟩ => ⟨!xs.isEmpty, by
    subst e1
    refine .inl ⟨vs, SqL.of (hid_of e2), ?_⟩
    have hl := e3.len
    rw [dvs_len] at hl
    cases vs <;> cases xs <;> first | rfl | (simp at hl), s, q⟩) (h own σ H k p))
end
end Rk
set_option maxHeartbeats 4000000
namespace Rk
open PySem L2 PyProof.Rows
section
variable {F : Fx} {env : List Ent} {ex : XP} {a e : Expr} {pos p0 p1 : Pos}
end
end Rk
set_option maxHeartbeats 4000000
namespace Rk
open PySem L2 PyProof.Rows
section
variable {F : Fx} {env : List Ent} {ex : XP} {a b e : Expr} {pos p0 p1 : Pos}
def isNumV : V → Bool
  | .int _ => true
  | .bl _ => true
  | _ => false
def eqVI : V → Int → Bool
  | .int i, j => decide (i = j)
  | .bl c, j => decide (b2 c = j)
  | _, _ => false
end
end Rk
set_option maxHeartbeats 4000000
namespace Rk
open PySem L2 PyProof.Rows
section
variable {F : Fx} {env : List Ent} {ex : XP} {a b e : Expr} {pos p0 p1 : Pos} {x : Str} {P : Po}
theorem t_ownL {α : Type} [Rp α] {Q : Bool → Prop} (i : Nat) {xs : List α} (hN : F.X.N[i]? = some x) (he : env[i]? = some (.ow (olist xs))) (q : Q (!xs.isEmpty))
    (hv : Vis F.X.env.scope x := by first | exact Or.inl rfl | exact Or.inr (Or.inl rfl) | exact Or.inr (Or.inr rfl)) (hdb : (x == ("__debug__" : Str)) = false := by decide) (hcd : (x == ("__classdict__" : Str)) = false := by decide)
    (ht : ∀ whole, isTrue (.Name x pos) F.X.env whole = (do let v ← whole; standAt pos; holding [v] (truthy v)) := by intro _; rfl) : KT F env (.Name x pos) ex Q := fun own σ H k p => by
  obtain ⟨l, ho, h0, g1, h2, vs, e3, r3⟩ := (show EntOk F.G F.hs own σ H i (.ow (olist xs)) from k.ent i _ he)
  subst e3
  refine tT_of (pt_truth (pe_var hN hv hdb hcd) ht) ⟨_, g1, !xs.isEmpty, .inl ⟨vs, SqL.of h2, ?_⟩, Same.refl H, q⟩
  have hl := r3.len
  rw [dvs_len] at hl
  cases vs <;> cases xs <;> first | rfl | (simp at hl)
theorem k_ownLast {α : Type} [Rp α] {Q : α → Prop} {j : Nat} {p2 p3 : Pos} (i : Nat) {xs : List α} (hN : F.X.N[i]? = some x) (he : env[i]? = some (.ow (olist xs))) (h : ∃ y, xs.getLast? = some y ∧ Q y)
    (hv : Vis F.X.env.scope x := by first | exact Or.inl rfl | exact Or.inr (Or.inl rfl) | exact Or.inr (Or.inr rfl)) (hdb : (x == ("__debug__" : Str)) = false := by decide) (hcd : (x == ("__classdict__" : Str)) = false := by decide) :
    KE F env (.Subscript (.Name x p0) (.UnaryOp .USub (.Constant (.int 1) j p1) p2) p3) ex Q := fun own σ H k p => by
  obtain ⟨l, ho, h0, g1, h2, vs, e3, r3⟩ := (show EntOk F.G F.hs own σ H i (.ow (olist xs)) from k.ent i _ he)
  subst e3
  obtain ⟨y, hy, q⟩ := h
  rw [List.getLast?_eq_getElem?] at hy
  obtain ⟨w, w1, w2⟩ := r3.get (i := xs.length - 1) (d := dv y) (by rw [dvs_get, hy]; rfl)
  have hl : vs.length = xs.length := by rw [r3.len, dvs_len]
  refine tE_of (pe_ix ix_list (pe_var hN hv hdb hcd) (pe_un un_neg pe_int) (fun _ _ => rfl)) ⟨_, g1, 1, rfl, l, vs, -1, w, rfl, rfl, SqL.of h2, at_last ?_, y, Same.refl H, w2, q⟩
  rw [List.getLast?_eq_getElem?, hl]
  exact w1
theorem s_setLast {α : Type} [Rp α] {jz : Nat} {p2 p3 p4 p5 : Pos} (i : Nat) {xs : List α} (hN : F.X.N[i]? = some x) (he : env[i]? = some (.ow (olist xs))) (h : KE F env e P.ex fun y : α => xs ≠ [] ∧ ∀ zs, zs = xs.dropLast ++ [y] → P.nx (env.set i (.ow (olist zs))))
    (hv : Vis F.X.env.scope x := by first | exact Or.inl rfl | exact Or.inr (Or.inl rfl) | exact Or.inr (Or.inr rfl)) (hdb : (x == ("__debug__" : Str)) = false := by decide) (hcd : (x == ("__classdict__" : Str)) = false := by decide)
    (ha : ∀ v, assign (.Subscript (.Name x p2) (.UnaryOp .USub (.Constant (.int 1) jz p4) p5) p3) F.X.env v = (do
      let recv ← holding [v] (eval (.Name x p2) F.X.env)
      let ix ← holding [v, recv] (eval (.UnaryOp .USub (.Constant (.int 1) jz p4) p5) F.X.env)
      standAt p3
      holding [v, recv, ix] (setItem recv ix v)
      release [v, recv, ix] []) := by intro _; rfl)
    (hs : swapsWithSole [.Subscript (.Name x p2) (.UnaryOp .USub (.Constant (.int 1) jz p4) p5) p3] e pos.line F.X.env = pure false := by rfl) (hw : swappedStores [.Subscript (.Name x p2) (.UnaryOp .USub (.Constant (.int 1) jz p4) p5) p3] e F.X.env = pure none := by rfl)
    (h1 : (assignEach [.Subscript (.Name x p2) (.UnaryOp .USub (.Constant (.int 1) jz p4) p5) p3] F.X.env).map (·.2) = [assign (.Subscript (.Name x p2) (.UnaryOp .USub (.Constant (.int 1) jz p4) p5) p3) F.X.env] := by rfl) : KS F env (.Assign [.Subscript (.Name x p2) (.UnaryOp .USub (.Constant (.int 1) jz p4) p5) p3] e pos) P := KS.mk fun own σ H k p => by
  have hi : i < env.length := (List.getElem?_eq_some_iff.mp he).1
  obtain ⟨l, ho, h0, g1, h2, vs, e3, r3⟩ := (show EntOk F.G F.hs own σ H i (.ow (olist xs)) from k.ent i _ he)
  subst e3
  refine tS_of (ps_asg peE (pg_sub (pe_var hN hv hdb hcd) (pe_un un_neg pe_int) set_list ha) hs hw h1) (tE_mono (fun v H' ⟨y, s, r, hj, z⟩ => ?_) (h own σ H k p))
  have hlen : vs.length = xs.length := by rw [r3.len, dvs_len]
  have hpos : 0 < xs.length := List.length_pos_iff.mpr hj
  refine ⟨.ref l, g1, 1, rfl, l, vs, -1, xs.length - 1, rfl, rfl, s _ _ h2, ?_, ?_⟩
  · unfold ixN
    rw [if_neg (by decide), if_pos (by omega)]
    congr 1; omega
  · refine ⟨_, _, (k.mono s).chg (i := i) (o := olist (xs.dropLast ++ [y])) hi h0 ⟨_, rfl, ?_⟩, (Fr.of s).trans (Fr.chg h0), z _ rfl⟩
    have e : xs.dropLast ++ [y] = xs.set (xs.length - 1) y := by
      apply List.ext_getElem?
      intro n
      by_cases q : n < xs.length - 1
      · rw [List.getElem?_append_left (by rw [List.length_dropLast]; exact q), List.getElem?_dropLast, if_pos q, List.getElem?_set_ne (by omega)]
      · by_cases q2 : n = xs.length - 1
        · subst q2
          rw [List.getElem?_append_right (by rw [List.length_dropLast]; exact Nat.le_refl _), List.length_dropLast, Nat.sub_self, List.getElem?_set_self (by omega)]; rfl
        · rw [List.getElem?_eq_none_iff.mpr (by rw [List.length_append, List.length_dropLast]; simp only [List.length_cons, List.length_nil]; omega), List.getElem?_eq_none_iff.mpr (by rw [List.length_set]; omega)]
    rw [e]
    unfold dvs
    rw [List.map_set]
    exact RepAll.set (d := dv y) r _ (r3.mono (hid_same s))
end
end Rk
set_option maxHeartbeats 4000000
namespace Rk
open PySem L2 PyProof.Rows
theorem cr_range1 {X : Cx} : CallR X (.type "range") fun vs H Q => ∃ j, vs = [V.int j] ∧ ∀ p, H p = none → Q (.ref p) (upd H p (.rng 0 j)) := fun pins s σ H xs us Q I va ⟨j, e, q⟩ => by
  subst e
  match us, va with
  | [u], .cons r .nil =>
    obtain ⟨t, rfl⟩ : ∃ t, u = Value.int j t := r
    refine call_range_1 ?_
    refine ⟨.ref s.heap.objs.size, upd H s.heap.objs.size (.rng 0 j), ?_, rfl, q _ I.fresh⟩
    exact I.laid (o := .rng 0 j) (fun b u h => Heap.get?_push_of_some _ h) (Nat.le_refl _) ⟨_, _, _, Heap.get?_push_size _ rfl⟩
theorem pi_rngO {X : Cx} {tg e : Expr} {td : TE} (he : PE X e td) : PI X tg e (fun σ H R => td σ H fun x H1 => ∃ (p : Addr) (lo hi : Int), x = .ref p ∧ H1 p = some (.rng lo hi) ∧ (-2 ^ 62 ≤ lo ∧ lo < 2 ^ 62 ∧ -2 ^ 62 ≤ hi ∧ hi < 2 ^ 62) ∧ R (Itr lo (hi - lo).toNat) H1) := by
  refine ⟨fun pins s σ H R I h => ?_⟩
  refine thn (he.run pins s σ H _ I h) fun u s1 ⟨x, H1, J, rx, p, lo, hi, ex, hp, b, q⟩ => ?_
  subst ex
  have eu : u = Value.ref p := rx
  subst eu
  obtain ⟨t, u, v, hr⟩ := J.hok p _ hp
  refine wpAny_pyIter_range hr (small_one b.1 b.2.1 b.2.2.1 b.2.2.2) (pi_one (tk := s1.toks) J _ (turn_range _ lo (hi - lo).toNat) ?_ q)
  rw [rangeSize_nat]
  show Heap.get? _ _ = some _
  rw [Heap.get?_push_size _ rfl]
  simp
structure Rng where
  lo : Int
  hi : Int
instance : Rp Rng where
  rep := fun G H v a => ∃ p, v = .ref p ∧ H p = some (.rng a.lo a.hi)
  mono := fun e ⟨p, h1, h2⟩ => ⟨p, h1, e _ _ h2⟩
section
variable {F : Fx} {env : List Ent} {ex : XP} {a b c e it elt tg : Expr} {es ifs : List Expr} {pos p0 p1 : Pos}
theorem k_rng1 {Q : Rng → Prop} (m : NoGl F.X.mg) (h : KE F env e ex fun n : Int => Q ⟨0, n⟩) (z : Ns F e [] := by rfl) (hg : Gl F.X "range" := by rfl) : KE F env (.Call (.Name "range" p0) [e] [] pos) ex Q :=
  ct cr_range1 (m _ (by simp)) (by decide +kernel) (a_one h z) (fun own σ H0 H vs ds s k r ⟨n, ed, q⟩ => by
    subst ed
    obtain ⟨v, rfl, e1⟩ := rep1 r
    have e1 : v = V.int n := e1
    subst e1
    exact ⟨n, rfl, fun p hp => ⟨⟨0, n⟩, s.trans (same_new hp), ⟨p, rfl, hid_new k (Same.refl H) hp⟩, q⟩⟩) hg (hz := z)
theorem q_lcRng {γ : Type} [Rp γ] {scope : Scope} {Q : List γ → Prop} {g : TG} {is : List Nat} {f : Int → List Ent → List Ent} (own0 : List (Str × Nat)) (nd : F.X.N.Nodup) (ok : BlkOk F.X.N F.X.env.scope scope own0)
    (hlen : ifs.length ≤ 1) (htg : ∀ F', Blk F scope F' → Tg F' tg Int g is f) (his : ∀ i ∈ is, i ∈ own0.map (·.2)) (hno : ∀ i ∈ own0.map (·.2), ∀ o, env[i]? ≠ some (.ow o))
    (h : KE F env it ex fun d : Rng => ((-1000000 ≤ d.lo ∧ d.lo ≤ 1000000) ∧ -1000000 ≤ d.hi ∧ d.hi ≤ d.lo + 40000) ∧ ∃ (t : Int → Bool) (v : Int → γ), (∀ F' x, Blk F scope F' → x ∈ span d.lo d.hi → KTs F' (f x (wipeE env (own0.map (·.2)))) ifs fun b => b = t x) ∧
      (∀ F' x, Blk F scope F' → x ∈ span d.lo d.hi → t x = true → KE F' (f x (wipeE env (own0.map (·.2)))) elt noex fun y => y = v x) ∧ Q (((span d.lo d.hi).filter t).map v))
    (hc : F.X.calm = true := by rfl) (hs : ∀ x, foldedSetIterable it F.X.env x = pure x := by intro _; rfl) : KLc F env elt tg it ifs scope ex Q := fun own σ H k p => by
  have onone : ∀ i ∈ own0.map (·.2), own i = none := fun i hi => by
    cases q : own i with
    | none => rfl
    | some p => exact absurd (k.out i p q).choose_spec (hno i hi _)
  refine ⟨_, g, own0, hc, nd, (pi_rngO peE), ok, (fun s H C cl fp => (htg ⟨F.X.blk s H scope (compEnvC scope cl C F.X.env) fp, F.cls, F.hs, F.B⟩ ⟨s, H, C, cl, fp, F.hs, rfl⟩).pg), hlen, hs, fun Q' hq => ?_⟩
  refine tE_mono (fun v0 H1 ⟨d, sm, ⟨l, e1, e2⟩, hb, t, v, ht, hv, hQ⟩ => ⟨l, d.lo, d.hi, e1, hid_of e2, by omega, fun D hD => ?_⟩) (h own σ H k p)
  have len : (span d.lo d.hi).length = (d.hi - d.lo).toNat := span_len _ _
  exact lc_any own0 (J := Itr d.lo (d.hi - d.lo).toNat) (xs := span d.lo d.hi) (fun i H2 s lt => by rw [len] at lt; exact lt) (fun H2 s => by rw [len]; exact Nat.le_refl _)
    (fun i H2 u H' y s hy ⟨eH, ex⟩ => by
      subst eH
      refine ⟨Same.refl _, fun hid _ sm2 => ?_⟩
      have lt : i < (d.hi - d.lo).toNat := by rw [← len]; exact (List.getElem?_eq_some_iff.mp hy).1
      rw [span_get lt] at hy
      have ey : d.lo + (i : Int) = y := Option.some.inj hy
      rw [ex, ← ey]; exact rfl) hlen htg his onone (k.mono sm) sm (by rw [len]; omega) ht hv hQ hq D hD
end
end Rk
set_option maxHeartbeats 4000000
namespace Rk
open PySem L2 PyProof.Rows
section
variable {X : Cx} {x : Str} {CK : Addr} {e : Expr} {es : List Expr} {ta : TA} {p1 p2 pos : Pos}
end
def spIL (K : PySem.W.Frag) : Sp := fun vs H Q _ => ∃ (p C : Addr) (n : Int), vs = [.ref p, .int n] ∧ OexC K C ∧ PySem.W.findIn K (.ref C) "line" = some none ∧ (-1000000 < n ∧ n < 1000000) ∧ H p = some (exo p C none) ∧
  ∀ H2 d, Same (fun a => if a = p then none else H a) H2 → H2 p = some (exo p C (some d)) → H2 d = some (exd d [("line", .int n)]) → H d = none → d ≠ p → Q .non H2
section
variable {F : Fx} {env : List Ent} {ex : XP} {e : Expr} {p0 p1 pos : Pos} {x : Str} {P : Po}
end
end Rk
namespace Rk
open PySem L2 PyProof.Rows
section
variable {F : Fx} {env : List Ent} {e o : Expr} {p0 p1 p2 p3 p4 pos : Pos} {x f : Str}
end
end Rk
set_option maxHeartbeats 4000000
namespace Rk
open PySem L2 PyProof.Rows
section
variable {F : Fx} {env : List Ent} {ex : XP} {a b c e o : Expr} {es : List Expr} {pos p0 p1 ap : Pos} {n x : Str} {P : Po}
theorem reps_strs {G : Gm} {H : Hp} : ∀ {ys : List Str}, RepAll G H (ys.map V.str) (dvs ys)
  | [] => trivial
  | _ :: _ => ⟨rfl, reps_strs⟩
theorem reps_strs' {G : Gm} {H : Hp} : ∀ {ys : List Str} {vs : List V}, RepAll G H vs (dvs ys) → vs = ys.map V.str
  | [], [], _ => rfl
  | y :: ys, v :: vs, h => by
    have h1 : v = V.str y := h.1
    rw [h1, reps_strs' (ys := ys) h.2]; rfl
def strI (i : Int) : Str := Str.ofString (toString i)
end
structure Tld where
  a : Option Int
  b : Option Bool
  c : Option Int
def Tld.ds (t : Tld) : List DV := [dv t.a, dv t.b, dv t.c]
instance : Rp Tld := tpRp Tld.ds
def Tld.miss (t : Tld) : Bool := t.a.isNone || t.b.isNone || t.c.isNone
section
variable {F : Fx} {env : List Ent} {ex : XP} {a b c e o : Expr} {es : List Expr} {pos p0 p1 ap : Pos} {n x : Str} {P : Po}
end
end Rk
set_option maxHeartbeats 4000000
namespace Rk
open PySem L2 PyProof.Rows
def gateOf (x : Str) : Option Bool := if x = "open" then some false else if x = "shut" then some true else none
def gEnt (h1 h2 : Int) (t1 t2 : Tok) : List DictEntry := [⟨h1, .str "open" t1, .bool false⟩, ⟨h2, .str "shut" t2, .bool true⟩]
structure Gates (w : World) (K : PySem.W.Frag) (D : Addr) : Prop where
  is : ∃ n h1 h2 t1 t2, K.lookup D = some ⟨.type "dict", none, .dict (gEnt h1 h2 t1 t2).toArray n, #[]⟩ ∧ PySem.W.KeysLit w.params (gEnt h1 h2 t1 t2)
  low : (D == sysModules) = false
theorem gates_find {h1 h2 : Int} {t1 t2 : Tok} (x : Str) : (PySem.findBy Value.isStrOf (gEnt h1 h2 t1 t2).toArray x).getD .none = match gateOf x with | none => Value.none | some b => .bool b := by
  unfold PySem.findBy gEnt gateOf
  rw [List.find?_toArray]
  simp only [List.find?, Value.isStrOf]
  by_cases e1 : x = "open"
  · subst e1
    rfl
  · have n1 : (("open" : Str) == x) = false := beq_eq_false_iff_ne.mpr fun z => e1 z.symm
    by_cases e2 : x = "shut"
    · subst e2
      rfl
    · have n2 : (("shut" : Str) == x) = false := beq_eq_false_iff_ne.mpr fun z => e2 z.symm
      simp only [n1, n2, if_neg e1, if_neg e2, Option.map_none, Option.getD_none]
section
variable {X : Cx} {o e : Expr} {apos cpos : Pos} {td ty : TE} {D : Addr}
theorem pe_kget (W : Gates X.w X.K D) (ho : PE X o td) (he : PE X e ty) (m : M1 X o "get" apos e cpos) :
    PE X (.Call (.Attribute o "get" apos) [e] [] cpos) (fun σ H Q => td σ H fun x H1 => x = .ref D ∧ ty σ H1 fun y H2 => ∃ z, y = .str z ∧ Q (obV (gateOf z)) H2) := by
  refine ⟨fun pins s σ H Q I h => ?_⟩
  obtain ⟨⟨n, h1, h2, t1, t2, hl, hk⟩, low⟩ := W
  refine wpAny_Call_method m.base m.few m.line PySem.F.plainAttrs_dict PySem.F.slot_dict_get PySem.F.type_dict_get (thn (ho.run pins s σ H _ I h) fun u s1 ⟨x, H1, I1, rx, ex, q1⟩ => ?_)
  subst ex
  obtain rfl : u = Value.ref D := rx
  have hm := PySem.W.mapOf_K (prog := X.prog) (w := X.w) I1.kIn hl hk
  refine ⟨hm.typeIs, hm.noDict, ?_⟩
  rw [m.trees]
  refine Calls.callWith_builtin rfl (Calls.evalArgs_plain (Calls.spliced_cons (thn (he.run pins s1 σ H1 _ I1 q1) fun iv s2 ⟨y, H2, I2, ry, z, ey, q2⟩ => Calls.spliced_nil ?_)))
  subst ey
  obtain ⟨t, rfl⟩ := (show ∃ t, iv = Value.str z t from ry)
  have hm2 := PySem.W.mapOf_K (prog := X.prog) (w := X.w) I2.kIn hl hk
  refine call_meetsIn PySem.F.slot_dict_get hm2.typeIs PySem.F.entry_dict_get (PySem.F.args_dict_get_2 _ _) (meets_dict_get (strKind X.prog X.w) D (strKind_is X.prog X.w z t) low) ⟨_, hm2, ?_⟩
  refine ⟨obV (gateOf z), H2, I2.tok _, ?_, q2⟩
  rw [gates_find]
  unfold gateOf
  split
  · exact rfl
  · split <;> exact rfl
end
section
variable {F : Fx} {env : List Ent} {ex : XP} {e : Expr} {pos p0 ap : Pos} {n : Str}
theorem k_gates {D : Addr} {Q : Option Bool → Prop} (W : Gates F.X.w F.X.K D) (hm : F.X.mg n = some (.ref D)) (h : KE F env e ex fun s : Str => Q (gateOf s)) (m : M1 F.X (.Name n p0) "get" ap e pos := by exact ⟨rfl, rfl, rfl, rfl⟩) (hg : Gl F.X n := by rfl) (hd : (n == ("__debug__" : Str)) = false := by decide) :
    KE F env (.Call (.Attribute (.Name n p0) "get" ap) [e] [] pos) ex Q := fun own σ H k p =>
  tE_of (pe_kget W (pe_glob hg hm (v := .ref D) rfl hd) peE m) ⟨rfl, tE_mono (fun v H' ⟨s, sm, r, q⟩ => by
    have r : v = V.str s := r
    subst r
    exact ⟨s, rfl, gateOf s, sm, rfl, q⟩) (h own σ H k p)⟩
end
end Rk
set_option maxHeartbeats 4000000
namespace Rk
open PySem L2 PyProof.Rows
structure Exv where
  at_ : Addr
  d : Option Addr
instance : Rp Exv where
  rep := fun G H v x => v = .ref x.at_ ∧ ∀ d, x.d = some d → ∃ l, H d = some (.xd l)
  mono := fun e ⟨h1, h2⟩ => ⟨h1, fun d z => (h2 d z).elim fun l y => ⟨l, e _ _ y⟩⟩
def RunP (PP : Program) (w : World) (K : PySem.W.Frag) (mg : Str → Option Value) (base : Heap) (p : Addr × Obj) (k : Nat) (f : Addr) (fd : FuncData) (ps : List Str) (sp : Sp) : Prop :=
  ∀ (A : Around) (outer : List Env) (s : Shared) (H : Hp) (args : Args) (us : List Value) (vs : List V) (Q : VK) (E : XK), L2H.RoomH k A → L2H.PinOk outer H s p → Env0 PP w K mg base A outer s H → us.length = ps.length → BindsTo s fd args (ps.zip us) → Vals vs us → sp vs H Q E →
    codeAny (model PP w) A (.call (.ref f) args) (CR (L2.CX PP w) outer PP w H s Q E) s
section
variable {PP : Program} {w : World} {K : PySem.W.Frag} {mg : Str → Option Value} {base : Heap} {cls : Nat → Addr}
def fxP (P : Program) (w : World) (K : PySem.W.Frag) (mg : Str → Option Value) (base : Heap) (cls : Nat → Addr) (N : List Str) (qual : Str) (sc : Scope) (f : Addr) (cd : Value) (A : Around) (outer : List Env) (s : Shared) (H : Hp) (E : XK) (p : Addr × Obj) (hs : Addr → Prop) : Fx :=
  ⟨L2H.cxH (L2.CX P w) P w K mg base N qual sc f cd A outer s H E p, cls, hs, H⟩
end
section
variable {K : PySem.W.Frag} {D x : Addr}
theorem kitx_any {ox : Obj} (C : ExcC K D) : PySem.W.KitX K (.ref x) (.ref D) (fun h => ∃ od, PySem.W.InstAt h x ox D od) where
  ty := fun _ _ _ ⟨_, I⟩ => I.type
  it := fun M h X _ => (PySem.W.handS_kitx_exc (x := x) (ox := { cls := .ref D, data := .fields #[] }) C.hg C.hk C.hs C.hd C.ha C.hn C.ht C.hm).it M (h) X |> fun f => by
    obtain ⟨cd, hcd, _⟩ := PySem.W.any_some C.hd
    unfold PySem.W.clsIn at hcd
    split at hcd
    · rename_i ho
      intro A' Q' E' s' k q
      simp only [isType, loadHead]
      exact wpAny_bind (wpAny_loadPart (k _ _ (X _ _ ho)) (wpAny_pure q))
    · cases hcd
  ne := fun h tp dd its n sl X e => (PySem.W.handS_kitx_exc (x := x) (ox := ox) C.hg C.hk C.hs C.hd C.ha C.hn C.ht C.hm).ne h tp dd its n sl X e
  ca := fun {_ _ _ _ _ s} X ⟨od, I⟩ k => PySem.W.kx_classE X I C.hg C.hk C.hs (PySem.W.findObj_dataE (by obtain ⟨cd, hc, _⟩ := PySem.W.any_some C.hd; rw [hc]; rfl) C.ha C.hn C.ht) C.hm k
end
section
variable {F : Fx} {env : List Ent} {ex : XP} {a e : Expr} {es : List Expr} {n : Str} {pos p0 p1 : Pos} {q : Addr} {oe : Obj} {dd : Option Addr} {pn : List (Addr × Obj)}
end
end Rk
set_option maxHeartbeats 4000000
namespace Rk
open PySem L2 PyProof.Rows
def soft : HO → Prop
  | .lst _ => True
  | .ext _ => True
  | _ => False
section
variable {X : Cx} {pins : List (Addr × Obj)} {σ : L2.St} {H H2 : Hp} {s : Shared}
theorem inv_swap (I : Inv X pins σ H s) (h : ∀ a, H2 a = H a ∨ ((∃ u, H a = some u ∧ soft u) ∧ ∃ u, H2 a = some u ∧ soft u ∧ ObjOk X.prog X.w H2 s.heap a u)) : Inv X pins σ H2 s := by
  have no : ∀ a, H a = none → H2 a = none := fun a e => by
    rcases h a with q | ⟨⟨u, q, _⟩, _⟩
    · rw [q]; exact e
    · rw [e] at q; cases q
  have st : ∀ a u, H a = some u → ¬ soft u → H2 a = some u := fun a u e n => by
    rcases h a with q | ⟨⟨v, q, z⟩, _⟩
    · rw [q]; exact e
    · rw [e] at q; cases q; exact absurd z n
  exact {
    ok := I.ok, os := I.os, bare := I.bare, loc := I.loc, cell := I.cell, len := I.len
    free := no _ I.free
    freeC := fun x c e => no _ (I.freeC x c e)
    pin := fun p hp => by
      obtain ⟨h1, h2, h3⟩ := I.pin p hp
      exact ⟨h1, no _ h2, h3⟩
    base := { I.base with
      free := fun b o e n x => no _ (I.base.free b o e n x)
      tups := fun b xs e => st _ _ (I.base.tups b xs e) (fun z => z)
      frzs := fun b o u e => st _ _ (I.base.frzs b o u e) (fun z => z)
      tbls := fun b ps e => (I.base.tbls b ps e).elim fun m q => ⟨m, st _ _ q (fun z => z)⟩ }
    hok := fun a o e => by
      rcases h a with q | ⟨_, u, q, _, z⟩
      · rw [q] at e
        exact (I.hok a o e).stay (fun b u _ r => r) (fun b r => st _ _ r (fun z => z)) fun b xs r => st _ _ r (fun z => z)
      · rw [q] at e; cases e; exact z }
end
def rndO (l : Addr) : HO := .ext fun h => ∃ (ns : List Int) (its : List Value) (n : Nat), ns.length ≤ 100 ∧ Vals (ns.map V.int) its ∧ h.get? l = some { cls := .type "list", data := .seq its.toArray n }
def stO (p l : Addr) : HO := .ext fun h => ∃ (c : Int) (its : List Value) (n : Nat), Vals [V.ref l, V.int c] its ∧ h.get? p = some { cls := .type "list", data := .seq its.toArray n }
def opn (H : Hp) (p l : Addr) (c : Int) (ns : List Int) : Hp := upd (upd H p (.lst [.ref l, .int c])) l (.lst (ns.map V.int))
theorem opn_p {H : Hp} {p l : Addr} {c : Int} {ns : List Int} (h : p ≠ l) : opn H p l c ns p = some (.lst [.ref l, .int c]) := by unfold opn; rw [upd_ne h, upd_same]
theorem opn_l {H : Hp} {p l : Addr} {c : Int} {ns : List Int} : opn H p l c ns l = some (.lst (ns.map V.int)) := upd_same
theorem opn_o {H : Hp} {p l a : Addr} {c : Int} {ns : List Int} (h1 : a ≠ p) (h2 : a ≠ l) : opn H p l c ns a = H a := by unfold opn; rw [upd_ne h2, upd_ne h1]
structure Rn (H : Hp) (p l : Addr) : Prop where
  ne : p ≠ l
  hp : H p = some (stO p l)
  hl : H l = some (rndO l)
theorem Rn.mono {H H' : Hp} {p l : Addr} (s : Same H H') (r : Rn H p l) : Rn H' p l := ⟨r.ne, s _ _ r.hp, s _ _ r.hl⟩
section
variable {X : Cx} {pins : List (Addr × Obj)} {σ : L2.St} {H H' : Hp} {s : Shared} {p l : Addr}
theorem Rn.open (r : Rn H p l) (I : Inv X pins σ H s) : ∃ c ns, ns.length ≤ 100 ∧ Inv X pins σ (opn H p l c ns) s := by
  obtain ⟨⟨c, its, n, r1, e1⟩, _⟩ := I.hok _ _ r.hp
  obtain ⟨⟨ns, its2, n2, hn, r2, e2⟩, _⟩ := I.hok _ _ r.hl
  refine ⟨c, ns, hn, inv_swap I fun a => ?_⟩
  by_cases ap : a = p
  · subst ap
    exact .inr ⟨⟨_, r.hp, trivial⟩, _, opn_p r.ne, trivial, Nat.le_of_ble_eq_true rfl, its, n, r1, e1⟩
  · by_cases al : a = l
    · subst al
      exact .inr ⟨⟨_, r.hl, trivial⟩, _, opn_l, trivial, by rw [List.length_map]; exact Nat.le_trans hn (by decide), its2, n2, r2, e2⟩
    · exact .inl (opn_o ap al)
def shut (H : Hp) (p l : Addr) : Hp := upd (upd H p (stO p l)) l (rndO l)
theorem shut_rn (h : p ≠ l) : Rn (shut H p l) p l := ⟨h, by unfold shut; rw [upd_ne h, upd_same], upd_same⟩
theorem shut_inv {c : Int} {ns : List Int} (h : p ≠ l) (hp : H p = some (.lst [.ref l, .int c])) (hl : H l = some (.lst (ns.map V.int))) (hn : ns.length ≤ 100) (I : Inv X pins σ H s) : Inv X pins σ (shut H p l) s := by
  obtain ⟨_, its, n, r1, e1⟩ := I.hok _ _ hp
  obtain ⟨_, its2, n2, r2, e2⟩ := I.hok _ _ hl
  refine inv_swap I fun a => ?_
  by_cases al : a = l
  · subst al
    refine .inr ⟨⟨_, hl, trivial⟩, _, upd_same, trivial, ⟨ns, its2, n2, hn, r2, e2⟩, ⟨_, e2⟩, ?_⟩
    rintro h1 h2 ⟨ns', its', n', q1, q2, q3⟩ k
    exact ⟨ns', its', n', q1, q2, k _ q3⟩
  · by_cases ap : a = p
    · subst ap
      refine .inr ⟨⟨_, hp, trivial⟩, _, (shut_rn h).hp, trivial, ⟨c, its, n, r1, e1⟩, ⟨_, e1⟩, ?_⟩
      rintro h1 h2 ⟨c', its', n', q2, q3⟩ k
      exact ⟨c', its', n', q2, k _ q3⟩
    · refine .inl ?_
      unfold shut; rw [upd_ne al, upd_ne ap]
end
structure Rnd where
  u : Unit := ()
instance : Rp Rnd where
  rep := fun G H v _ => ∃ p l, v = .ref p ∧ Rn H p l
  mono := fun e ⟨p, l, h1, h2⟩ => ⟨p, l, h1, h2.mono e⟩
def spAny {α : Type} [Rp α] (K : PySem.W.Frag) (cls : Nat → Addr) (S : List DV → (α → Prop) → Prop) : Sp := fun vs H Q _ => ∃ (hs : Addr → Prop) (ds : List DV) (R : α → Prop), (∀ x, hs x → H x ≠ none) ∧ RepAll ⟨K, cls⟩ (Hid hs H) vs ds ∧ S ds R ∧
  ∀ (x : α) (v : V) (H' : Hp), R x → Same H H' → Rp.rep ⟨K, cls⟩ (Hid hs H') v x → Q v H'
def anyPo {α : Type} [Rp α] (R : α → Prop) : Po := { nx := fun _ => False, rt := fun d => ∃ x : α, d = dv x ∧ R x, bk := fun _ => False, ct := fun _ => False, ex := fun _ _ => False }
section
variable {PP : Program} {w : World} {K : PySem.W.Frag} {mg : Str → Option Value} {base : Heap} {cls : Nat → Addr}
end
section
variable {F : Fx} {env : List Ent} {ex : XP} {e : Expr} {es : List Expr} {p0 p1 pos : Pos} {n : Str} {f : Addr} {fd : FuncData} {ps : List Str} {kk : Nat}
end
end Rk
set_option maxHeartbeats 4000000
namespace Rk
open PySem L2 PyProof.Rows
structure TkSt (p l : Addr) (m : Int) (H1 : Hp) (σ : L2.St) (H : Hp) : Prop where
  s0 : σ[0]? = some (some (.ref p))
  s1 : σ[1]? = some (some (.int m))
  len : σ.length = 4
  hp : ∃ c : Int, H p = some (.lst [.ref l, .int c])
  hl : ∃ ns : List Int, H l = some (.lst (ns.map V.int)) ∧ ns.length ≤ 100
  ot : ∀ a o, a ≠ p → a ≠ l → H1 a = some o → H a = some o
end Rk
set_option maxHeartbeats 4000000
namespace Rk
open PySem L2 PyProof.Rows
inductive Cmp {α β : Type} (T : α → Bool → Prop) (E : α → β → Prop) : List α → List β → Prop
  | nil : Cmp T E [] []
  | skip {xs ys x} : Cmp T E xs ys → T x false → Cmp T E (xs ++ [x]) ys
  | take {xs ys x y} : Cmp T E xs ys → T x true → E x y → Cmp T E (xs ++ [x]) (ys ++ [y])
theorem Cmp.len {α β : Type} {T : α → Bool → Prop} {E : α → β → Prop} {xs : List α} {ys : List β} (h : Cmp T E xs ys) : ys.length ≤ xs.length := by
  induction h with
  | nil => exact Nat.le_refl _
  | skip _ _ ih => rw [List.length_append]; omega
  | take _ _ _ ih => rw [List.length_append, List.length_append]; simp only [List.length_cons, List.length_nil]; omega
def LcAny {α β : Type} [Rp α] [Rp β] (F : Fx) (own : Nat → Option Addr) (H1 : Hp) (D : Addr) (T : α → Bool → Prop) (E : α → β → Prop) (done : List α) (H2 : Hp) : Prop :=
  Same H1 (fun x => if x = D then none else H2 x) ∧ ∃ acc ys, H2 D = some (.lst acc) ∧ Cmp T E done ys ∧ RepAll F.G (Hid (hd (fun x => F.hs x ∨ x = D) own) H2) acc (dvs ys)
section
variable {F : Fx} {env : List Ent} {ex : XP} {elt it e : Expr} {tg : Expr} {ifs : List Expr} {pos p0 p1 : Pos}
theorem LcAny.same {α β : Type} [Rp α] [Rp β] {own : Nat → Option Addr} {H1 H2 : Hp} {D : Addr} {T : α → Bool → Prop} {E : α → β → Prop} {done : List α} (h : LcAny F own H1 D T E done H2) (hD : H1 D = none) : Same H1 H2 := fun x o e => by
  have ne : x ≠ D := ne_of_none e hD
  have z : (if x = D then none else H2 x) = some o := h.1 x o e
  rw [if_neg ne] at z; exact z
theorem LcAny.start {α β : Type} [Rp α] [Rp β] {own : Nat → Option Addr} {H1 : Hp} {D : Addr} {T : α → Bool → Prop} {E : α → β → Prop} (hD : H1 D = none) : LcAny F own H1 D T E [] (upd H1 D (.lst [])) := by
  refine ⟨fun x o e => ?_, [], [], upd_same, .nil, trivial⟩
  have ne : x ≠ D := ne_of_none e hD
  show (if x = D then none else upd H1 D (.lst []) x) = some o
  rw [if_neg ne, upd_ne ne]; exact e
theorem lca_stepG {α β : Type} [Rp α] [Rp β] {scope : Scope} (own0 : List (Str × Nat)) {g : TG} {is : List Nat} {f : α → List Ent → List Ent} {own : Nat → Option Addr} {σ : L2.St} {H1 H2 : Hp} {D : Addr} {T : α → Bool → Prop} {E : α → β → Prop} {done : List α} {y : α} {u : V}
    (hlen : ifs.length ≤ 1) (htg : ∀ F', Blk F scope F' → Tg F' tg α g is f) (his : ∀ i ∈ is, i ∈ own0.map (·.2)) (onone : ∀ i ∈ own0.map (·.2), own i = none) (k1 : F.Kn own env σ H1) (hD : H1 D = none) (hx : done.length ≤ 40000)
    (ht : ∀ F', Blk F scope F' → KTs F' (f y (wipeE env (own0.map (·.2)))) ifs fun b => T y b) (hv : ∀ F', Blk F scope F' → T y true → KE F' (f y (wipeE env (own0.map (·.2)))) elt noex fun z => E y z)
    (hd2 : Rp.rep F.G (Hid (hd (fun x => F.hs x ∨ x = D) own) H2) u y) (p : LcAny F own H1 D T E done H2) :
    g u (L2.wipe σ (own0.map (·.2))) H2 fun σ2 H2' => L2.wipe σ2 (own0.map (·.2)) = L2.wipe σ (own0.map (·.2)) ∧ uT F scope ifs σ2 H2' fun b H3 =>
      if b = true then uE F scope elt σ2 H3 fun z H4 => ∃ acc, H4 D = some (.lst acc) ∧ acc.length < sizeLine ∧ LcAny F own H1 D T E (done ++ [y]) (upd H4 D (.lst (acc ++ [z]))) else LcAny F own H1 D T E (done ++ [y]) H3 := by
  have s12 := p.same hD
  obtain ⟨s2, acc, ys, hacc, hcm, hr⟩ := p
  have kD : Rk.Kn F.G (fun x => F.hs x ∨ x = D) F.B own env σ H2 := k1.veil s12 hD hacc
  obtain ⟨kw, frw⟩ := Kn.wipe (F := ⟨F.X, F.cls, fun x => F.hs x ∨ x = D, F.B⟩) (show (⟨F.X, F.cls, fun x => F.hs x ∨ x = D, F.B⟩ : Fx).Kn own env σ H2 from kD) (own0.map (·.2))
  refine (htg ⟨F.X.blk F.X.s_0 H1 scope (compEnvC scope [] 0 F.X.env) [], F.cls, fun x => F.hs x ∨ x = D, F.B⟩ ⟨F.X.s_0, H1, 0, [], [], _, rfl⟩).sem y _ _ _ _ H2 u kw (DV.mono (d := dv y) frw hd2) fun own2 σ2 k2 f2 wp kp => ?_
  rw [wipeO_same onone] at kp
  refine ⟨by rw [wp _ his]; exact wipe_twice _, ?_⟩
  have keep : ∀ (s' : Shared) (H0 : Hp) (C : Addr) (cl : List (Str × Addr)) (fp : List Addr) (H3 : Hp), Same H2 H3 → T y true → tE (F.X.blk s' H0 scope (compEnvC scope cl C F.X.env) fp) elt σ2 H3 fun z H4 => ∃ acc, H4 D = some (.lst acc) ∧ acc.length < sizeLine ∧ LcAny F own H1 D T E (done ++ [y]) (upd H4 D (.lst (acc ++ [z]))) := fun s' H0 C cl fp H3 s3 hty => by
    have B' : Blk F scope ⟨F.X.blk s' H0 scope (compEnvC scope cl C F.X.env) fp, F.cls, fun x => F.hs x ∨ x = D, F.B⟩ := ⟨s', H0, C, cl, fp, _, rfl⟩
    refine tE_mono (fun z H4 ⟨w, s4, rw', ew⟩ => ?_) (hv _ B' hty own2 σ2 H3 (k2.mono s3) (noPort B'))
    have s24 : Same H2 H4 := s3.trans s4
    have hD4 : H4 D = some (.lst acc) := s24 _ _ hacc
    have la : acc.length = ys.length := by rw [hr.len, dvs_len]
    have lb : ys.length ≤ 40000 := Nat.le_trans hcm.len hx
    refine ⟨acc, hD4, Nat.lt_of_le_of_lt (by rw [la]; exact lb) (by decide : 40000 < sizeLine), fun x o e => ?_, acc ++ [z], ys ++ [w], upd_same, .take hcm hty ew, ?_⟩
    · have ne : x ≠ D := ne_of_none e hD
      show (if x = D then none else upd H4 D (.lst (acc ++ [z])) x) = some o
      rw [if_neg ne, upd_ne ne]; exact s24 _ _ (s12 _ _ e)
    · have hidD : hd (fun x => F.hs x ∨ x = D) own D := .inl (.inr rfl)
      rw [hid_upd hidD]
      unfold dvs
      rw [List.map_append]
      refine RepAll.app (hr.mono (hid_same s24)) ⟨?_, trivial⟩
      refine DV.mono (d := dv w) (hid_more fun x q => ?_) rw'
      rcases q with q | ⟨i, q⟩
      · exact .inl q
      · rcases kp i x q with z | z
        · rw [onone i (his i z)] at q; cases q
        · exact .inr ⟨i, z⟩
  have skip : ∀ H3 : Hp, Same H2 H3 → T y false → LcAny F own H1 D T E (done ++ [y]) H3 := fun H3 s3 hty => by
    refine ⟨fun x o e => ?_, acc, ys, s3 _ _ hacc, .skip hcm hty, ?_⟩
    · have ne : x ≠ D := ne_of_none e hD
      show (if x = D then none else H3 x) = some o
      rw [if_neg ne]; exact s3 _ _ (s12 _ _ e)
    · exact hr.mono (hid_same s3)
  intro s' H0 C cl fp
  match ifs, hlen, ht with
  | [], _, ht =>
    have B' : Blk F scope ⟨F.X.blk s' H0 scope (compEnvC scope cl C F.X.env) fp, F.cls, fun x => F.hs x ∨ x = D, F.B⟩ := ⟨s', H0, C, cl, fp, _, rfl⟩
    have hty : T y true := ht _ B'
    exact fun s2' H02 C2 cl2 fp2 => keep s2' H02 C2 cl2 fp2 H2 (Same.refl _) hty
  | [c], _, ht =>
    have B' : Blk F scope ⟨F.X.blk s' H0 scope (compEnvC scope cl C F.X.env) fp, F.cls, fun x => F.hs x ∨ x = D, F.B⟩ := ⟨s', H0, C, cl, fp, _, rfl⟩
    refine tT_mono (fun b H3 ⟨s3, eb⟩ => ?_) (ht _ B' own2 σ2 H2 k2 (noPort B'))
    cases b with
    | true => exact fun s2' H02 C2 cl2 fp2 => keep s2' H02 C2 cl2 fp2 H3 s3 eb
    | false => exact skip H3 s3 eb
theorem lca_step {α β : Type} [Rp α] [Rp β] {scope : Scope} (own0 : List (Str × Nat)) {g : TG} {is : List Nat} {f : α → List Ent → List Ent} {own : Nat → Option Addr} {σ : L2.St} {H1 H2 : Hp} {D : Addr} {T : α → Bool → Prop} {E : α → β → Prop} {done : List α} {y : α} {u : V}
    (hlen : ifs.length ≤ 1) (htg : ∀ F', Blk F scope F' → Tg F' tg α g is f) (his : ∀ i ∈ is, i ∈ own0.map (·.2)) (onone : ∀ i ∈ own0.map (·.2), own i = none) (k1 : F.Kn own env σ H1) (hD : H1 D = none) (hx : done.length ≤ 40000)
    (ht : ∀ F', Blk F scope F' → KTs F' (f y (wipeE env (own0.map (·.2)))) ifs fun b => T y b) (hv : ∀ F', Blk F scope F' → T y true → KE F' (f y (wipeE env (own0.map (·.2)))) elt noex fun z => E y z)
    (hd2 : Rp.rep F.G (Hid (hd F.hs own) H1) u y) (p : LcAny F own H1 D T E done H2) :
    g u (L2.wipe σ (own0.map (·.2))) H2 fun σ2 H2' => L2.wipe σ2 (own0.map (·.2)) = L2.wipe σ (own0.map (·.2)) ∧ uT F scope ifs σ2 H2' fun b H3 =>
      if b = true then uE F scope elt σ2 H3 fun z H4 => ∃ acc, H4 D = some (.lst acc) ∧ acc.length < sizeLine ∧ LcAny F own H1 D T E (done ++ [y]) (upd H4 D (.lst (acc ++ [z]))) else LcAny F own H1 D T E (done ++ [y]) H3 := by
  have s12 := p.same hD
  have sD : Same (Hid (hd F.hs own) H1) (Hid (hd (fun x => F.hs x ∨ x = D) own) H2) := fun x o e => by
    have h1 := hid_of e
    have ne : x ≠ D := ne_of_none h1 hD
    have nh : ¬ hd F.hs own x := fun z => by unfold Hid at e; rw [if_pos z] at e; cases e
    rw [hid_at fun z => by
      rcases z with (z | z) | z
      · exact nh (.inl z)
      · exact ne z
      · exact nh (.inr z)]
    exact s12 x o h1
  exact lca_stepG own0 hlen htg his onone k1 hD hx ht hv (DV.mono (d := dv y) sD hd2) p
theorem lca_end {α β : Type} [Rp α] [Rp β] {own : Nat → Option Addr} {σ : L2.St} {H H1 H2 : Hp} {D : Addr} {T : α → Bool → Prop} {E : α → β → Prop} {xs : List α} {Q : List β → Prop} (k1 : F.Kn own env σ H1) (sm : Same H H1) (hD : H1 D = none) (p : LcAny F own H1 D T E xs H2) (hQ : ∀ ys, Cmp T E xs ys → Q ys) :
    ∃ y : List β, Same H H2 ∧ Rp.rep F.G (Hid (hd F.hs own) H2) (V.ref D) y ∧ Q y := by
  have s12 := p.same hD
  have nD : ¬ hd F.hs own D := k1.fresh (Same.refl _) hD
  obtain ⟨s2, acc, ys, hacc, hcm, hr⟩ := p
  refine ⟨_, sm.trans s12, ⟨D, acc, rfl, by rw [hid_at nD]; exact hacc, hr.mono (hid_more fun x z => ?_)⟩, hQ _ hcm⟩
  rcases z with z | z
  · exact .inl (.inl z)
  · exact .inr z
section
variable {α β : Type} [Rp α] [Rp β] {scope : Scope} {Q : List β → Prop} {g : TG} {is : List Nat} {f : α → List Ent → List Ent}
end
section
variable {β : Type} [Rp β] {scope : Scope} {Q : List β → Prop} {g : TG} {is : List Nat} {f : Int → List Ent → List Ent}
end
end
end Rk
set_option maxHeartbeats 4000000
namespace Rk
open PySem L2 PyProof.Rows
theorem reps_ints2 {G : Gm} {H : Hp} : ∀ {ys : List Int}, RepAll G H (ys.map V.int) (dvs ys)
  | [] => trivial
  | _ :: _ => ⟨rfl, reps_ints2⟩
theorem reps_ints' {G : Gm} {H : Hp} : ∀ {ys : List Int} {vs : List V}, RepAll G H vs (dvs ys) → vs = ys.map V.int
  | [], [], _ => rfl
  | y :: ys, v :: vs, h => by
    have h1 : v = V.int y := h.1
    rw [h1, reps_ints' (ys := ys) h.2]; rfl
section
variable {F : Fx} {env : List Ent} {ex : XP} {a b c e o : Expr} {es : List Expr} {pos p0 p1 p2 ap : Pos} {n x : Str} {P : Po}
end
end Rk
set_option maxHeartbeats 4000000
namespace Rk
open PySem L2 PyProof.Rows
section
variable {F : Fx} {env : List Ent} {ex : XP} {a b c e o : Expr} {es : List Expr} {pos p0 p1 p2 ap : Pos} {n x : Str} {P : Po}
def PartsT (F : Fx) (env : List Ent) (ex : XP) (q : Str → Prop) : Str → List Expr → Prop
  | acc, [] => q acc
  | acc, e :: es => KE F env e ex fun z : Str => (acc ++ z).length ≤ sizeLine ∧ PartsT F env ex q (acc ++ z) es
theorem partsT_run {q : Str → Prop} {own : Nat → Option Addr} {σ : L2.St} {H0 : Hp} : ∀ (es : List Expr) (acc : Str) (H : Hp), Same H0 H → F.Kn own env σ H → Port F own H ex → PartsT F env ex q acc es →
    tJs (pjs F.X es) acc σ H fun out H1 => Rs F own H0 q (.str out) H1
  | [], acc, H, s, _, _, h => ⟨acc, s, rfl, h⟩
  | e :: es, acc, H, s, kn, p, h => tE_mono (fun v H' ⟨z, s', r, hz, h'⟩ => by
      cases r
      exact ⟨z, rfl, hz, partsT_run es (acc ++ z) H' (s.trans s') (kn.mono s') (p.mono s') h'⟩) (h own σ H kn p)
def inT (x y : Str) : Bool := !(Builtin.Str.occurrences y x 0 y.length 1).isEmpty
theorem in_strs (x : Str) : ∀ ys : List Str, inV (V.str x) (ys.map V.str) = decide (x ∈ ys)
  | [] => rfl
  | y :: ys => by
    have ih := in_strs x ys
    have e : eqV (V.str y) (V.str x) = (y == x) := rfl
    show (eqV (V.str y) (V.str x) || inV (V.str x) (ys.map V.str)) = _
    rw [e, ih]
    by_cases h : x = y
    · subst h; simp
    · rw [beq_eq_false_iff_ne.mpr (Ne.symm h)]; simp [h]
theorem flat_strs2 : ∀ ys : List Str, (ys.map V.str).all flatV = true
  | [] => rfl
  | _ :: ys => by rw [List.map_cons, List.all_cons, flat_strs2 ys]; rfl
end
end Rk
set_option maxHeartbeats 4000000
namespace Rk
open PySem L2 PyProof.Rows
def signs (z : Str) : List Str := z.cps.toList.map fun c => ⟨#[c]⟩
theorem signs_len (z : Str) : (signs z).length = z.length := by
  unfold signs
  rw [List.length_map, Array.length_toList]; rfl
theorem signs_get {z : Str} {i c : Nat} (h : z.cps[i]? = some c) : (signs z)[i]? = some ⟨#[c]⟩ := by
  unfold signs
  rw [List.getElem?_map, Array.getElem?_toList, h]; rfl
section
variable {F : Fx} {env : List Ent} {ex : XP} {elt it e : Expr} {tg : Expr} {ifs : List Expr} {pos p0 p1 : Pos}
variable {β : Type} [Rp β] {scope : Scope} {Q : List β → Prop} {g : TG} {is : List Nat} {f : Str → List Ent → List Ent}
end
theorem dp_strs {G : Gm} {H : Hp} : ∀ {xs : List Str} {vs : List V}, RepAll G H vs (dvs xs) → DpAll G.K H vs (xs.map PyData.str)
  | [], [], _ => .nil
  | x :: xs, v :: vs, h => by
    have e : v = V.str x := h.1
    subst e
    exact .cons (.str x) (dp_strs h.2)
theorem eqv_strs : ∀ xs ys : List Str, PyData.eqv (.list (xs.map PyData.str)) (.list (ys.map PyData.str)) = decide (xs = ys)
  | [], [] => rfl
  | [], _ :: _ => rfl
  | _ :: _, [] => rfl
  | x :: xs, y :: ys => by
    have ih := eqv_strs xs ys
    show ((x == y) && PyData.eqv (.list (xs.map PyData.str)) (.list (ys.map PyData.str))) = _
    rw [ih]
    by_cases e : x = y
    · subst e; simp
    · rw [beq_eq_false_iff_ne.mpr e, decide_eq_false fun z => e (List.cons.inj z).1]; rfl
end Rk
set_option maxHeartbeats 4000000
namespace Rk
open PySem L2 PyProof.Rows
section
variable {F : Fx} {env : List Ent} {ex : XP} {a b c e o : Expr} {es : List Expr} {pos p0 p1 p2 ap : Pos} {n x : Str} {P : Po}
theorem in_none : ∀ ys : List (Option Int), inV V.non (ys.map oiV) = ys.any (·.isNone)
  | [] => rfl
  | y :: ys => by
    have ih := in_none ys
    show (eqV (oiV y) V.non || inV V.non (ys.map oiV)) = _
    rw [ih]
    cases y <;> rfl
theorem flat_ois : ∀ ys : List (Option Int), (ys.map oiV).all flatV = true
  | [] => rfl
  | y :: ys => by
    rw [List.map_cons, List.all_cons, flat_ois ys]
    cases y <;> rfl
theorem reps_ois' {G : Gm} {H : Hp} : ∀ {ys : List (Option Int)} {vs : List V}, RepAll G H vs (dvs ys) → vs = ys.map oiV
  | [], [], _ => rfl
  | y :: ys, v :: vs, h => by
    have h1 : v = oiV y := h.1
    rw [h1, reps_ois' (ys := ys) h.2]; rfl
end
section
variable {F : Fx} {env : List Ent} {e : Expr} {pos p0 p1 : Pos} {n : Str} {f : Addr} {fd : FuncData} {ps : List Str} {kk : Nat} {S : List DV → Ri → Prop}
end
section
variable {F : Fx} {env : List Ent} {ex : XP} {a c : Expr} {pos p2 : Pos}
end
structure Nb where
  ns : List (Option Int)
  b : Bool
def Nb.ds (x : Nb) : List DV := dvs x.ns ++ [dv x.b]
instance : Rp Nb := tpRp Nb.ds
end Rk
set_option maxHeartbeats 4000000
namespace Rk
open PySem L2 PyProof.Rows
section
variable {F : Fx} {env : List Ent} {ex : XP} {a b c e it : Expr} {es elts : List Expr} {kk : Nat} {pos p0 p1 tpos : Pos} {n x : Str} {P : Po} {body : List Stmt}
theorem flat_bls : ∀ bs : List Bool, (bs.map V.bl).all flatV = true
  | [] => rfl
  | _ :: bs => by rw [List.map_cons, List.all_cons, flat_bls bs]; rfl
theorem in_bls (y : Bool) : ∀ bs : List Bool, inV (V.bl y) (bs.map V.bl) = bs.contains y
  | [] => rfl
  | b :: bs => by
    have z := in_bls y bs
    unfold inV at z ⊢
    rw [List.map_cons, List.any_cons, z, List.contains_cons]
    congr 1
    cases y <;> cases b <;> decide +kernel
end
end Rk
set_option maxHeartbeats 4000000
namespace Rk
open PySem L2 PyProof.Rows
section
variable {M : Model} {A : Around} {E : Value → Shared → Prop} {s : Shared} {env : Env}
theorem callWith_type_kw {pos : Pos} {T : String} {e : Expr} {rest : List Expr} {kws : List Keyword} {Q : Value → Shared → Prop}
    (h : wpAny M A (spliced (backTo pos (starEach (e :: rest) env))) (fun vs s₁ => wpAny M A (evalAll ((backToKw pos (keywordEach kws env)).map (·.2)))
      (fun kvs s₂ => wpAny M A (call (.type T) vs (((backToKw pos (keywordEach kws env)).filterMap (·.1)).zip kvs)) Q E s₂) E s₁) E s)
    (he : starEach (e :: rest) env = (false, eval e env) :: starEach rest env)
    (hplain : (backTo pos (starEach (e :: rest) env)).any (·.1) = false)
    (hall : (backToKw pos (keywordEach kws env)).all (·.1.isSome) = true)
    (hkw : (backToKw pos (keywordEach kws env)).any (·.1.isNone) = false) :
    wpAny M A (callWith pos (.type T) [] (backTo pos (starEach (e :: rest) env)) (backToKw pos (keywordEach kws env))) Q E s := by
  have g : wpAny M A (evalArgs (.type T) true (backTo pos (starEach (e :: rest) env)) (backToKw pos (keywordEach kws env))) (fun a s₁ => wpAny M A (call (.type T) ([] ++ a.pos) a.kw) Q E s₁) E s := by
    rw [he] at h ⊢
    exact evalArgs_kwB hall h
  unfold callWith
  refine wpAny_bind (wpAny_holding (wpAny_mono g (fun a s₁ h₁ => wpAny_bind (wpAny_standAt ?_)) fun _ _ x => x))
  simp only [hplain, hkw, Bool.or_false]
  refine wpAny_bind (wpAny_pure ?_)
  exact wpAny_bind (wpAny_mono h₁ (fun r s₂ hr => wpAny_bind (wpAny_holding (wpAny_point (wpAny_pure hr)))) fun _ _ x => x)
end
def IteK (K : PySem.W.Frag) (a : Addr) (c : Int) : It :=
  ⟨fun i H => ∃ (xs : List V) (x : V), SqL K H a xs ∧ xs[i]? = some x, fun i H v H' => ∃ T x, v = .ref T ∧ H T = none ∧ H' = upd H T (.tup [.int (c + (i : Nat)), x]) ∧ ∀ xs, SqL K H a xs → xs[i]? = some x, fun i H => ∃ xs : List V, SqL K H a xs ∧ xs.length = i⟩
theorem turn_enumK {P : Program} {w : World} {K : PySem.W.Frag} {elts : List Expr} {kk : Nat} {tpos : Pos} (a e it : Addr) (c : Int) :
    Turn P w K (.Tuple elts kk tpos) (IteK K a c) [e, it] e (fun i h => (∃ old, IsEnum h e it (c + ((i : Nat) : Int)) old) ∧ h.IsListIter it a i ∧ e ≠ it ∧ a ≠ it ∧ e ≠ a) where
  mem := by simp
  obj := fun i h st b hb => by
    obtain ⟨⟨old, he⟩, ⟨o, ho, hc, hd⟩, _⟩ := st
    have e' : b = e ∨ b = it := by simpa using hb
    rcases e' with z | z
    · rw [z]; exact ⟨_, he, fun v q => nomatch q⟩
    · rw [z]; exact ⟨o, ho, fun v q => by rw [hd] at q; cases q⟩
  keep := fun i h h' st k => let ⟨⟨old, he⟩, hi, hne⟩ := st; ⟨⟨old, k e (by simp) _ he⟩, hi.at fun o q => k it (by simp) o q, hne⟩
  item := by
    intro X hP hw hK hc i pins s σ H E I hf st hg
    subst hP hw hK
    obtain ⟨⟨old, he⟩, hit, hne, hai, hea⟩ := st
    obtain ⟨xs, x, hq, hx⟩ := hg
    obtain ⟨its, rv, p, hz⟩ := I.list hq
    obtain ⟨u, hu, ru⟩ := rv.get hx
    have hel : e < s.heap.objs.size := Heap.lt_size he
    have hil : it < s.heap.objs.size := by obtain ⟨_, q, _⟩ := hit; exact Heap.lt_size q
    have hlt : i < its.toArray.size := by
      have := (List.getElem?_eq_some_iff.mp hu).1
      simpa using this
    refine wpAny_pyNext_enum_itemC (i := i) (Draws.list (A := X.A.in1) (I.ok.hd hc) it a hai its.toArray) he ⟨hit, p.isList⟩ hlt hne (by simp [hne, hea]) fun x' h' tk hx' ho hit' hT hsz hk => ?_
    have ex : x' = u := by
      have h1 : its[i]? = some x' := by simpa using hx'
      rw [hu] at h1
      exact (Option.some.inj h1).symm
    subst ex
    refine ⟨_, rfl, wpAny_letOwnedTupleGo_enum (s := { s with heap := h', toks := tk + 1 }) ho fun h'' he' sb => ?_⟩
    have hT2 : h''.get? s.heap.objs.size = some { cls := .type "tuple", data := .seq #[.int (c + ((i : Nat) : Int)) tk, x'] } := (sb.2 _ (Nat.ne_of_gt hel)).trans hT
    have new : ObjOk X.prog X.w (upd H s.heap.objs.size (.tup [.int (c + (i : Nat)), x])) h'' s.heap.objs.size (.tup [.int (c + (i : Nat)), x]) :=
      ⟨by show 2 ≤ sizeLine; decide, [.int (c + ((i : Nat) : Int)) tk, x'], .cons ⟨_, rfl⟩ (.cons ru .nil), ⟨_, hT2, rfl, _, rfl⟩⟩
    have I1 : Inv X pins σ (upd H s.heap.objs.size (.tup [.int (c + (i : Nat)), x])) { s with heap := h'', toks := tk + 1 } :=
      I.turnedNew (ch := [e, it]) (fun b ob hb q => (sb.2 b (fun z => hb (by simp [z]))).trans (hk b ob (fun z => hb (by simp [z])) (fun z => hb (by simp [z])) q)) hf (Nat.le_refl _) new
    refine ⟨.ref s.heap.objs.size, _, I1, rfl, ⟨_, x, rfl, I.hok.fresh (Nat.le_refl _), rfl, fun ys hy => by rw [I.list_inj hy hq]; exact hx⟩, ⟨⟨x', ?_⟩, hit'.1.at fun o q => (sb.2 it (Ne.symm hne)).trans q, hne, hai, hea⟩, fun b hb => ?_⟩
    · have e1 : c + ((i + 1 : Nat) : Int) = c + (i : Int) + 1 := by omega
      rw [e1]; exact he'
    · have hb' : b < s.heap.objs.size := by
        have e' : b = e ∨ b = it := by simpa using hb
        rcases e' with z | z
        · rw [z]; exact hel
        · rw [z]; exact hil
      rw [upd_ne (Nat.ne_of_lt hb')]
      exact (hf b hb).1
  done := by
    intro X hP hw hK hc i pins s σ H E I hf st hg
    subst hP hw hK
    obtain ⟨⟨old, he⟩, hit, hne, hai, hea⟩ := st
    obtain ⟨xs, hq, hx⟩ := hg
    obtain ⟨its, rv, p, hz⟩ := I.list hq
    obtain ⟨f0, f1, f2, f3, f4, f5⟩ := hf it (by simp)
    have hl := rv.length
    have ei : i = its.toArray.size := by
      have : its.toArray.size = its.length := by simp
      omega
    exact wpAny_pyNext_enum_endD (Draws.list (A := X.A.in1) (I.ok.hd hc) it a hai its.toArray) he ⟨by rw [← ei]; exact hit, p.isList⟩ fun h' eb => ⟨rfl, I.turned (t' := s.toks) (fun b o hb q => eb b o hb q) f0 f1 f3 f4 f5⟩
  self := fun A i s Q E st h => let ⟨⟨_, he⟩, _⟩ := st; wpAny_pyIter_enum he h
def iEnumK (K : PySem.W.Frag) (ta : TA) (c : Int) : TI := fun σ H R => ta σ H fun vs H1 => ∃ a xs, vs = [.ref a] ∧ SqL K H1 a xs ∧ R (IteK K a c) H1
section
variable {F : Fx} {env : List Ent} {ex : XP} {a b c e it : Expr} {es elts : List Expr} {kk : Nat} {pos p0 p1 p2 kp tpos : Pos} {n x : Str} {P : Po} {body : List Stmt}
def enumK {α : Type} (c : Int) (xs : List α) : List (Int × α) := (enumL xs).map fun p => (c + p.1, p.2)
end
end Rk
set_option maxHeartbeats 4000000
namespace Rk
open PySem L2 PyProof.Rows
def gFld (K : PySem.W.Frag) (to : TE) (f : Str) : TG := fun v σ H Q => to σ H fun o H1 => ∃ a C dx fs, o = .ref a ∧ H1 a = some (.ins C dx fs) ∧ Cls K C ∧ NoAttr K C f ∧ fs.length < 1000 ∧ Q σ (upd H1 a (.ins C dx (putF f v fs)))
section
variable {F : Fx} {env : List Ent} {ex : XP} {a b c e it : Expr} {es : List Expr} {pos p0 p1 : Pos} {n x : Str} {P : Po} {st : Stmt} {sts ss body : List Stmt}
end
end Rk
set_option maxHeartbeats 4000000
namespace Rk
open PySem L2 PyProof.Rows
section
variable {prog : Program} {w : World} {A : Around} {R : Result → Shared → Prop} {s : Shared} {kx vx t0 i0 t1 i1 : Expr} {ifs0 ifs1 : List Expr} {scope : Scope} {pos : Pos} {it acc : Value} {env : Env} {d : Nat} {D : Addr} {gens : List Comprehension}
theorem cl_frame : (Code.compLoop (kx.DictComp vx gens scope pos) d it acc env).isFrame = false := by with_unfolding_all rfl
theorem cl_under : A.under (Code.compLoop (kx.DictComp vx gens scope pos) d it acc env) = A := Around.under_of_weight (by with_unfolding_all rfl) (by with_unfolding_all rfl)
theorem cl_turns (I : Nat → Shared → Prop) (h : ∀ n s, I n s → wpAny (model prog w) A (compTurn (kx.DictComp vx gens scope pos) d it acc env) (fun fin s' => match fin with
    | .done f => R (.ok f) s'
    | .again c' => c' = Code.compLoop (kx.DictComp vx gens scope pos) d it acc env ∧ ∃ m, m < n ∧ I m s') (fun _ _ => False) s) (n : Nat) (h0 : I n s) : codeAny (model prog w) A (.compLoop (kx.DictComp vx gens scope pos) d it acc env) R s := by
  refine codeAny_loop rfl I (fun n s hI => ?_) n h0
  rw [cl_under]
  show wpAny (model prog w) A (denote table (Code.compLoop (kx.DictComp vx gens scope pos) d it acc env)) _ _ s
  have den : denote table (Code.compLoop (kx.DictComp vx gens scope pos) d it acc env) = (compTurn (kx.DictComp vx gens scope pos) d it acc env).onRaise (fun x => (noteFrame x env).bind fun _ => theTreesLotGoes x) := by
    unfold denote
    simp only
    rw [if_neg (by rw [cl_frame]; decide)]
    rfl
  rw [den]
  refine wpAny_onRaise ?_
  exact thnF (h n s hI) fun fin s' q => q
abbrev DC2 (kx vx t0 i0 t1 i1 : Expr) (ifs0 ifs1 : List Expr) (scope : Scope) (pos : Pos) : Expr := .DictComp kx vx [⟨t0, i0, ifs0, 0⟩, ⟨t1, i1, ifs1, 0⟩] scope pos
abbrev tst (ifs : List Expr) (env : Env) : Sem Bool := forIn ifs true fun c r => if r = true then do
    let ok ← PySem.isTrue c env (eval c env)
    pure (ForInStep.yield ok)
  else pure (ForInStep.yield r)
abbrev F0 : Value → Shared → Prop := fun _ _ => False
theorem dc2_in (I : Nat → Shared → Prop) (h : ∀ n s, I n s → wpAny (model prog w) A (pyNext it) (fun r s1 => match r with
    | none => R (.ok .next) s1
    | some v => wpAny (model prog w) A (letOwnedTupleGo t1 it v) (fun _ s2 => wpAny (model prog w) A (assign t1 env v) (fun _ s3 => wpAny (model prog w) A (tst ifs1 env) (fun ok s4 => if ok = true then
        wpAny (model prog w) A (eval kx env) (fun kv s5 => wpAny (model prog w) A (eval vx env) (fun vv s6 => wpAny (model prog w) A (dictSet D kv vv) (fun _ s7 => ∃ m, m < n ∧ I m s7) F0 s6) F0 s5) F0 s4
      else ∃ m, m < n ∧ I m s4) F0 s3) F0 s2) F0 s1) F0 s) (n : Nat) (h0 : I n s) : codeAny (model prog w) A (.compLoop (DC2 kx vx t0 i0 t1 i1 ifs0 ifs1 scope pos) 1 it (.ref D) env) R s := by
  refine cl_turns I (fun n s hI => ?_) n h0
  unfold compTurn
  simp only [List.getElem?_cons_succ, List.getElem?_cons_zero, List.getElem?_nil]
  refine wpAny_bind (wpAny_standAt ?_)
  simp only [bne_self_eq_false, Bool.false_eq_true, if_false]
  refine wpAny_bind (thnF (h n s hI) fun r s1 q => ?_)
  cases r with
  | none => exact wpAny_pure q
  | some v =>
    simp only at q ⊢
    refine wpAny_bind (thnF q fun _ s2 q => ?_)
    refine wpAny_bind (thnF q fun _ s3 q => ?_)
    refine wpAny_bind (thnF q fun ok s4 q => ?_)
    cases ok with
    | false =>
      simp only [Bool.false_eq_true, if_false] at q ⊢
      exact wpAny_pure ⟨rfl, q⟩
    | true =>
      simp only [if_true] at q ⊢
      refine wpAny_bind (wpAny_bind (thnF q fun kv s5 q => ?_))
      refine wpAny_bind (wpAny_holding (thnF q fun vv s6 q => ?_))
      refine wpAny_bind (wpAny_standAt (wpAny_holding (thnF q fun _ s7 q => ?_)))
      exact wpAny_pure ⟨rfl, q⟩
theorem dc2_out (hs : ∀ x, foldedSetIterable i1 env x = pure x) (I : Nat → Shared → Prop) (h : ∀ n s, I n s → wpAny (model prog w) A (pyNext it) (fun r s1 => match r with
    | none => R (.ok .next) s1
    | some v => wpAny (model prog w) A (letOwnedTupleGo t0 it v) (fun _ s2 => wpAny (model prog w) A (assign t0 env v) (fun _ s3 => wpAny (model prog w) A (tst ifs0 env) (fun ok s4 => if ok = true then
        wpAny (model prog w) A (eval i1 env) (fun x s5 => wpAny (model prog w) A (pyIter x) (fun it1 s6 => codeAny (model prog w) A (.compStart (DC2 kx vx t0 i0 t1 i1 ifs0 ifs1 scope pos) 1 it1 acc env) (fun r s8 => match r with
          | .ok _ => ∃ m, m < n ∧ I m s8
          | .error _ => False) s6) F0 s5) F0 s4
      else ∃ m, m < n ∧ I m s4) F0 s3) F0 s2) F0 s1) F0 s) (n : Nat) (h0 : I n s) : codeAny (model prog w) A (.compLoop (DC2 kx vx t0 i0 t1 i1 ifs0 ifs1 scope pos) 0 it acc env) R s := by
  refine cl_turns I (fun n s hI => ?_) n h0
  unfold compTurn
  simp only [List.getElem?_cons_succ, List.getElem?_cons_zero, List.getElem?_nil]
  refine wpAny_bind (wpAny_standAt ?_)
  simp only [bne_self_eq_false, Bool.false_eq_true, if_false]
  refine wpAny_bind (thnF (h n s hI) fun r s1 q => ?_)
  cases r with
  | none => exact wpAny_pure q
  | some v =>
    simp only at q ⊢
    refine wpAny_bind (thnF q fun _ s2 q => ?_)
    refine wpAny_bind (thnF q fun _ s3 q => ?_)
    refine wpAny_bind (thnF q fun ok s4 q => ?_)
    cases ok with
    | false =>
      simp only [Bool.false_eq_true, if_false] at q ⊢
      exact wpAny_pure ⟨rfl, q⟩
    | true =>
      simp only [if_true] at q ⊢
      refine wpAny_bind (thnF q fun x s5 q => ?_)
      refine wpAny_bind (wpAny_standAt ?_)
      rw [hs]
      refine wpAny_bind (wpAny_pure ?_)
      refine wpAny_bind (wpAny_holding (thnF q fun it1 s6 q => ?_))
      refine wpAny_bind (wpAny_runOwn (h := none) ?_ (by intro z; cases z))
      refine codeAny_mono q fun r s8 q => ?_
      cases r with
      | error e => exact q.elim
      | ok f => exact wpAny_pure ⟨rfl, q⟩
theorem cs_frame : (Code.compStart (kx.DictComp vx gens scope pos) d it acc env).isFrame = false := by with_unfolding_all rfl
theorem cs_under : A.under (Code.compStart (kx.DictComp vx gens scope pos) d it acc env) = A := Around.under_of_weight (by with_unfolding_all rfl) (by with_unfolding_all rfl)
theorem dc2_start (h1 : codeAny (model prog w) A (.compLoop (DC2 kx vx t0 i0 t1 i1 ifs0 ifs1 scope pos) 1 it acc env) R s) (h2 : wpAny (model prog w) A (pyIter it) (fun it' s' => codeAny (model prog w) A (.compLoop (DC2 kx vx t0 i0 t1 i1 ifs0 ifs1 scope pos) 1 it' acc env) R s') F0 s) :
    codeAny (model prog w) A (.compStart (DC2 kx vx t0 i0 t1 i1 ifs0 ifs1 scope pos) 1 it acc env) R s := by
  refine codeAny_loop' rfl (fun _ s' => s' = s) (fun n s' e => ?_) 0 rfl
  subst e
  rw [cs_under]
  show wpAny (model prog w) A (denote table (Code.compStart (DC2 kx vx t0 i0 t1 i1 ifs0 ifs1 scope pos) 1 it acc env)) _ _ _
  obtain ⟨f, den⟩ : ∃ f, denote table (Code.compStart (DC2 kx vx t0 i0 t1 i1 ifs0 ifs1 scope pos) 1 it acc env) = (PySem.compStart (DC2 kx vx t0 i0 t1 i1 ifs0 ifs1 scope pos) 1 it acc env).onRaise f := by
    refine ⟨fun x => (do noteFrame x env; standAt theWindowsPlace), ?_⟩
    unfold denote
    simp only
    rw [if_neg (by rw [cs_frame]; decide)]
  rw [den]
  refine wpAny_onRaise ?_
  unfold PySem.compStart
  rw [if_neg (by simp [clausesOf])]
  refine wpAny_bind (wpAny_askSetting ?_)
  split
  · exact wpAny_pure (.inr ⟨rfl, h1⟩)
  · refine wpAny_bind (wpAny_rule ?_)
    show wpAny _ _ (do
      let __r ← standAt i1.pos
      let __do_lift ← pyIter it
      again (Code.compLoop (DC2 kx vx t0 i0 t1 i1 ifs0 ifs1 scope pos) 1 __do_lift acc env)) _ _ _
    refine wpAny_bind (wpAny_standAt (wpAny_bind (thnF h2 fun it' s2 q => wpAny_pure (.inr ⟨rfl, q⟩))))
end
end Rk
set_option maxHeartbeats 4000000
namespace Rk
open PySem L2 PyProof.Rows
def tDx2 (wi : TI) (g : TG) (tt : TT) (wi1 : TI) (g1 : TG) (tt1 : TT) (tk tv : TE) (vs vs1 : List Nat) : TE := fun σ H Q => wi σ H fun J H1 => ∀ D, H1 D = none → ∃ W : Nat → Nat → Hp → Prop, (∃ m, W 0 m (upd H1 D (DO D []))) ∧ ∀ i m H, W i m H →
  (J.stop i H ∧ ∃ es, H D = some (DO D es) ∧ ∀ ob, Q (.ref D) (upd H D (.frz ob (DO D es)))) ∨ (J.go i H ∧ ∃ Nx : Hp → Prop, (∀ H', Nx H' → ∃ m', m' < m ∧ W (i + 1) m' H') ∧
    ∀ x H', J.yld i H x H' → g x (wipe σ vs) H' fun σ2 H2 => wipe σ2 vs = wipe σ vs ∧ tt σ2 H2 fun b H3 => if b = true then wi1 σ2 H3 (fun J1 H4 => ∃ W1 : Nat → Nat → Hp → Prop, (∃ m, W1 0 m H4) ∧ ∀ j k H, W1 j k H →
      (J1.stop j H ∧ Nx H) ∨ (J1.go j H ∧ ∃ Nx1 : Hp → Prop, (∀ H', Nx1 H' → ∃ k', k' < k ∧ W1 (j + 1) k' H') ∧
        ∀ x H', J1.yld j H x H' → g1 x (wipe σ2 vs1) H' fun σ3 H5 => wipe σ3 vs1 = wipe σ2 vs1 ∧ tt1 σ3 H5 fun b H6 => if b = true then tk σ3 H6 fun y H7 => tv σ3 H7 fun z H8 => PutX D Nx1 y z H8 else Nx1 H6)) else Nx H3)
theorem wipe_wipe {σ : L2.St} {vs : List Nat} : ∀ {vs1 : List Nat}, (∀ i ∈ vs1, i ∈ vs) → wipe (wipe σ vs1) vs = wipe σ vs
  | [], _ => rfl
  | v :: vs1, h => by
    show wipe ((wipe σ vs1).set v none) vs = _
    rw [Rk.wipe_set (h v List.mem_cons_self)]
    exact wipe_wipe fun i hi => h i (List.mem_cons_of_mem _ hi)
section
variable {X : Cx}
theorem dictcomp_core2 {pins : List (Addr × Obj)} {s : Shared} {σ : L2.St} {H : Hp} {Q : VK} {ek ev tg iter tg1 iter1 : Expr} {ifs ifs1 : List Expr} {vs1 : List Nat} {wi1 : TI} {g1 : TG} {tt1 : TT} {scope : Scope} {own : List (Str × Nat)} {pos pos2 : Pos} {wi : TI} {g : TG} {tt : TT} {tk tv : TE} {use : Option (Value → Sem Unit)} {Qf : Value → Shared → Prop}
    (hu : X.A.units + 16 < cLine) (calm : X.calm = true) (nd : X.N.Nodup) (I : Inv X pins σ H s) (pi : PI X tg iter wi) (ok : BlkOk X.N X.env.scope scope own)
    (hg : ∀ (s : Shared) (H : Hp) (C : Addr) (cl : List (Str × Addr)) (fp : List Addr), PG (X.blk s H scope (compEnvC scope cl C X.env) fp) tg g) (ht : ∀ (s : Shared) (H : Hp) (C : Addr) (cl : List (Str × Addr)) (fp : List Addr), PTs (X.blk s H scope (compEnvC scope cl C X.env) fp) ifs tt)
    (hv1 : ∀ i ∈ vs1, i ∈ own.map (·.2)) (hi1 : ∀ (s : Shared) (H : Hp) (C : Addr) (cl : List (Str × Addr)) (fp : List Addr), PI (X.blk s H scope (compEnvC scope cl C X.env) fp) tg1 iter1 wi1)
    (hg1 : ∀ (s : Shared) (H : Hp) (C : Addr) (cl : List (Str × Addr)) (fp : List Addr), PG (X.blk s H scope (compEnvC scope cl C X.env) fp) tg1 g1) (ht1 : ∀ (s : Shared) (H : Hp) (C : Addr) (cl : List (Str × Addr)) (fp : List Addr), PTs (X.blk s H scope (compEnvC scope cl C X.env) fp) ifs1 tt1)
    (hs1 : ∀ (env : Env) (x : Value), foldedSetIterable iter1 env x = pure x)
    (hk : ∀ (s : Shared) (H : Hp) (C : Addr) (cl : List (Str × Addr)) (fp : List Addr), PE (X.blk s H scope (compEnvC scope cl C X.env) fp) ek tk) (hv : ∀ (s : Shared) (H : Hp) (C : Addr) (cl : List (Str × Addr)) (fp : List Addr), PE (X.blk s H scope (compEnvC scope cl C X.env) fp) ev tv)
    (hs : ∀ x, foldedSetIterable iter X.env x = pure x) (h : tDx2 wi g tt wi1 g1 tt1 tk tv (own.map (·.2)) vs1 σ H Q)
    (fin : ∀ D C s' m H', Inv X pins σ H' s' → Q (.ref D) H' → s'.heap.Ns C m → FpOk X pins H' C → compPost (model X.prog X.w) X.A X.xe use Qf (.ref D) C (.ok .next) s') :
    wpAny (model X.prog X.w) X.A (comprehension (.DictComp ek ev [⟨tg, iter, ifs, 0⟩, ⟨tg1, iter1, ifs1, 0⟩] scope pos) scope X.env pos2 newDict false (eval iter X.env) use) Qf X.xe s := by
  have free : ∀ y ∈ scope.names, y.2 = .free → ∃ c, X.env.cells.lookup y.1 = some c := fun y hy e => (ok.free y hy e).elim (fun z => I.ok.has _ (.inl z)) fun z => I.ok.has _ (.inr z)
  refine wpAny_comprehension_free (use := use) rfl hs (closure_ok free) ok.kind (fun y hy e => by rw [ok.uniq y hy, e]) (thn (pi.run pins s σ H _ I h) fun xv s1 hx => thn hx fun itv s2 h2 => ?_)
  obtain ⟨it, fp, tn, J, H2, rfl, I2, T, st2, f2, q⟩ := h2
  refine wpAny_newObj_type (newEnv_comp ?_)
  -- the new dict at D
  obtain ⟨D, eD⟩ : ∃ D, D = s2.heap.objs.size := ⟨_, rfl⟩
  rw [← eD]
  have nD : H2 D = none := I2.hok.fresh (Nat.le_of_eq eD.symm)
  obtain ⟨W, ⟨m0, w0⟩, turn⟩ := q D nD
  obtain ⟨s3, e3⟩ : ∃ s3 : Shared, s3 = { s2 with heap := s2.heap.push { cls := .type "dict", data := .dict #[] } } := ⟨_, rfl⟩
  rw [← e3]
  have hp3 : s3.heap = s2.heap.push { cls := .type "dict", data := .dict #[] } := by rw [e3]
  have I3 : Inv X pins σ (upd H2 D (DO D [])) s3 := by
    rw [e3]
    refine I2.laid (t' := s2.toks) (fun b o z => Heap.get?_push_of_some _ z) (Nat.le_of_eq eD.symm) ?_
    rw [eD]
    exact do_empty s2.heap I2.big
  have below : ∀ b ∈ fp, b < s2.heap.objs.size := fun b hb => let ⟨_, z, _⟩ := T.obj _ _ st2 b hb; Heap.lt_size z
  have f3 : ∀ b ∈ fp, FpOk X pins (upd H2 D (DO D [])) b ∧ b < s3.heap.objs.size := fun b hb => by
    have lt := below b hb
    constructor
    · exact ⟨by rw [upd_ne (by rw [eD]; exact Nat.ne_of_lt lt)]; exact (f2 b hb).1, (f2 b hb).2⟩
    · rw [hp3, Heap.size_push]; exact Nat.lt_succ_of_lt lt
  have st3 : tn 0 s3.heap := T.keep _ _ _ st2 fun b _ o z => by rw [hp3]; exact Heap.get?_push_of_some _ z
  have I4 := block_start I3 ok nd f3
  obtain ⟨cl, ecl⟩ : ∃ cl, cl = cellsFrom (s3.heap.objs.size + 1) scope.names (cloFrom X.env.cells scope.names []) := ⟨_, rfl⟩
  have pg := hg s3 (upd H2 D (DO D [])) s3.heap.objs.size cl fp
  have pt := ht s3 (upd H2 D (DO D [])) s3.heap.objs.size cl fp
  have pi1 := hi1 s3 (upd H2 D (DO D [])) s3.heap.objs.size cl fp
  have pg1 := hg1 s3 (upd H2 D (DO D [])) s3.heap.objs.size cl fp
  have pt1 := ht1 s3 (upd H2 D (DO D [])) s3.heap.objs.size cl fp
  have pk := hk s3 (upd H2 D (DO D [])) s3.heap.objs.size cl fp
  have pv := hv s3 (upd H2 D (DO D [])) s3.heap.objs.size cl fp
  rw [← ecl] at I4
  show codeAny _ _ (.compStart (.DictComp ek ev [⟨tg, iter, ifs, 0⟩, ⟨tg1, iter1, ifs1, 0⟩] scope pos) 0 (.ref it) (.ref D) (compEnvC scope (cellsFrom (s3.heap.objs.size + 1) scope.names (cloFrom X.env.cells scope.names [])) s3.heap.objs.size X.env)) (compPost (model X.prog X.w) X.A X.xe use Qf (.ref D) s3.heap.objs.size) { s3 with heap := pushCells (s3.heap.push { cls := .type "dict", data := .dict #[] }) scope.names }
  rw [← ecl]
  have nfp : ∀ b ∈ fp, (upd H2 D (DO D [])) b = none := fun b hb => (f3 b hb).1.1
  obtain ⟨ce, ece⟩ : ∃ ce, ce = compEnvC scope cl s3.heap.objs.size X.env := ⟨_, rfl⟩
  rw [← ece] at I4 pg pt pi1 pg1 pt1 pk pv ⊢
  have cL : ce.locals = s3.heap.objs.size := by rw [ece]; rfl
  obtain ⟨H3, eH3⟩ : ∃ H3, H3 = upd H2 D (DO D []) := ⟨_, rfl⟩
  rw [← eH3] at I3 I4 pg pt pi1 pg1 pt1 pk pv w0 nfp f3
  obtain ⟨s4, e4⟩ : ∃ s4 : Shared, s4 = { s3 with heap := pushCells (s3.heap.push { cls := .type "dict", data := .dict #[] }) scope.names } := ⟨_, rfl⟩
  rw [← e4] at I4 ⊢
  have st4 : tn 0 s4.heap := T.keep _ _ _ st3 fun b _ o z => by rw [e4]; exact pushCells_keeps _ _ _ _ (Heap.get?_push_of_some _ z)
  obtain ⟨Y, eY⟩ : ∃ Y, Y = X.blk s3 H3 scope ce fp := ⟨_, rfl⟩
  have still : ∀ {σ' : L2.St} {H' : Hp} {s' : Shared}, Inv (X.blk s3 H3 scope ce fp) [] σ' H' s' → (∀ b ∈ fp, H' b = none) → ∀ b ∈ fp, FpOk (X.blk s3 H3 scope ce fp) [] H' b := fun {σ' H' s'} J' hn b hb =>
    ⟨hn b hb, (J'.ok.exf b hb).1, J'.ok.exfs b hb, .inl hb, fun x c z => (J'.ok.exf b hb).2 x c z, fun p hp => absurd (show p ∈ ([] : List (Addr × Obj)) ++ [] from hp) (by simp)⟩
  have loop : codeAny (model X.prog X.w) X.A (.compLoop (.DictComp ek ev [⟨tg, iter, ifs, 0⟩, ⟨tg1, iter1, ifs1, 0⟩] scope pos) 0 (.ref it) (.ref D) ce) (compPost (model X.prog X.w) X.A X.xe use Qf (.ref D) s3.heap.objs.size) s4 := by
    refine dc2_out (hs1 ce) (fun n s' => ∃ i H', Inv (X.blk s3 H3 scope ce fp) [] (wipe σ (own.map (·.2))) H' s' ∧ tn i s'.heap ∧ (∀ b ∈ fp, H' b = none) ∧ W i n H') ?_ m0 ⟨0, H3, I4, st4, nfp, w0⟩
    rintro n s5 ⟨i, H5, I5, st5, n5, w5⟩
    rcases turn i n H5 w5 with ⟨stop, es, hDe, qq⟩ | ⟨go, Nx, less, step⟩
    · refine thnF (T.done (X.blk s3 H3 scope ce fp) rfl rfl rfl calm i [] s5 _ H5 (fun _ _ => False) I5 (still I5 n5) st5 stop) fun r s6 ⟨hr, I6⟩ => ?_
      subst hr
      have nC : H5 s3.heap.objs.size = none := by
        have z : H5 ce.locals = none := I6.free
        rw [cL] at z; exact z
      obtain ⟨m, hn, _⟩ := I6.loc
      replace hn : s6.heap.Ns ce.locals m := hn
      rw [cL] at hn
      have I7 : Inv X pins σ H5 s6 := I3.call' (ch := fp) I6.os I6.base I6.hok I6.bare fun b hb => let z := (f3 b hb).1.2; ⟨z.2.2.1, z.1, z.2.2.2.1, z.2.2.2.2⟩
      obtain ⟨ob, I8⟩ := I7.lock hDe True.intro
      have neD : s3.heap.objs.size ≠ D := fun z => by rw [z, hDe] at nC; cases nC
      exact fin D s3.heap.objs.size s6 m _ I8 (qq ob) hn (I3.fpOk (Nat.le_refl _) nC |> fun z => ⟨by rw [upd_ne neD]; exact z.1, z.2⟩)
    · refine thnF (T.item (X.blk s3 H3 scope ce fp) rfl rfl rfl calm i [] s5 _ H5 (fun _ _ => False) I5 (still I5 n5) st5 go) fun r s6 ⟨u, hr, h6⟩ => ?_
      subst hr
      refine thnF h6 fun _ s7 ⟨x, H7, I7, r7, y7, st7, n7⟩ => ?_
      refine thnF (pg.run _ s7 _ H7 x u _ (I7.pinned (still I7 n7) (T.obj _ _ st7)) r7 (step x H7 y7)) fun _ s8 ⟨σ8, H8, I8, hw8, q8⟩ => ?_
      refine thnF (pt.run _ s8 σ8 H8 _ I8 q8) fun b s9 ⟨H9, I9, q9⟩ => ?_
      have last : ∀ {s' : Shared} {H' : Hp} {σ' : L2.St}, wipe σ' (own.map (·.2)) = wipe σ (own.map (·.2)) → Inv (X.blk s3 H3 scope ce fp) ([] ++ pinsAt fp s7.heap) σ' H' s' → Nx H' → ∃ m, m < n ∧ ∃ i H', Inv (X.blk s3 H3 scope ce fp) [] (wipe σ (own.map (·.2))) H' s' ∧ tn i s'.heap ∧ (∀ b ∈ fp, H' b = none) ∧ W i m H' := fun {s' H' σ'} hw' J' nx => by
        obtain ⟨m', lt, w'⟩ := less H' nx
        have pinned : ∀ b ∈ fp, ∀ o, s7.heap.get? b = some o → s'.heap.get? b = some o ∧ H' b = none := fun b hb o z =>
          let t := J'.pin (b, o) (List.mem_append_right _ (List.mem_append_right _ (mem_pinsAt hb z)))
          ⟨t.1, t.2.1⟩
        refine ⟨m', lt, i + 1, H', (J'.unpinned (pins := [])).weak (by rw [← hw', wipe_length]) (fun j v z => ?_), T.keep _ _ _ st7 fun b hb o z => (pinned b hb o z).1, fun b hb => ?_, w'⟩
        · rw [← hw'] at z; exact (wipe_some z).1
        · obtain ⟨o, z, _⟩ := T.obj _ _ st7 b hb
          exact (pinned b hb o z).2
      cases b with
      | false =>
        simp only [Bool.false_eq_true, if_false] at q9 ⊢
        exact last hw8 I9 q9
      | true =>
        simp only [if_true] at q9 ⊢
        refine thnF (pi1.run _ s9 σ8 H9 _ I9 q9) fun v1 s10 h10 => thnF h10 fun itv1 s11 h11 => ?_
        obtain ⟨it1, fp1, tn1, J1, H11, rfl, I11, T1, st11, f11, W1, ⟨k0, w10⟩, turn1⟩ := h11
        have loop1 : codeAny (model X.prog X.w) X.A (.compLoop (.DictComp ek ev [⟨tg, iter, ifs, 0⟩, ⟨tg1, iter1, ifs1, 0⟩] scope pos) 1 (.ref it1) (.ref D) ce) (fun r s8 => match r with
            | .ok _ => ∃ m, m < n ∧ ∃ i H', Inv (X.blk s3 H3 scope ce fp) [] (wipe σ (own.map (·.2))) H' s8 ∧ tn i s8.heap ∧ (∀ b ∈ fp, H' b = none) ∧ W i m H'
            | .error _ => False) s11 := by
          refine dc2_in (fun k s' => ∃ j H', Inv (X.blk s3 H3 scope ce fp) ([] ++ pinsAt fp s7.heap) (wipe σ8 vs1) H' s' ∧ tn1 j s'.heap ∧ (∀ b ∈ fp1, H' b = none) ∧ W1 j k H') ?_ k0 ⟨0, H11, I11.weak (by rw [wipe_length]) (fun j v z => (wipe_some z).1), st11, fun b hb => (f11 b hb).1, w10⟩
          have still1 : ∀ {H' : Hp}, (∀ b ∈ fp1, H' b = none) → ∀ b ∈ fp1, FpOk (X.blk s3 H3 scope ce fp) ([] ++ pinsAt fp s7.heap) H' b := fun {H'} hn b hb => ⟨hn b hb, (f11 b hb).2⟩
          rintro k t5 ⟨j, G5, K5, u5, o5, x5⟩
          rcases turn1 j k G5 x5 with ⟨stop1, nx⟩ | ⟨go1, Nx1, less1, step1⟩
          · refine thnF (T1.done (X.blk s3 H3 scope ce fp) rfl rfl rfl calm j _ t5 _ G5 (fun _ _ => False) K5 (still1 o5) u5 stop1) fun r t6 ⟨hr, K6⟩ => ?_
            subst hr
            exact last (by rw [wipe_wipe hv1, hw8]) K6 nx
          · refine thnF (T1.item (X.blk s3 H3 scope ce fp) rfl rfl rfl calm j _ t5 _ G5 (fun _ _ => False) K5 (still1 o5) u5 go1) fun r t6 ⟨u, hr, h6⟩ => ?_
            subst hr
            refine thnF h6 fun _ t7 ⟨x1, G7, K7, r7, y7, u7, o7⟩ => ?_
            refine thnF (pg1.run _ t7 _ G7 x1 u _ (K7.pinned (still1 o7) (T1.obj _ _ u7)) r7 (step1 x1 G7 y7)) fun _ t8 ⟨σ9, G8, K8, hw9, p8⟩ => ?_
            refine thnF (pt1.run _ t8 σ9 G8 _ K8 p8) fun b t9 ⟨G9, K9, p9⟩ => ?_
            have last1 : ∀ {s' : Shared} {H' : Hp}, Inv (X.blk s3 H3 scope ce fp) (([] ++ pinsAt fp s7.heap) ++ pinsAt fp1 t7.heap) σ9 H' s' → Nx1 H' → ∃ m, m < k ∧ ∃ j H', Inv (X.blk s3 H3 scope ce fp) ([] ++ pinsAt fp s7.heap) (wipe σ8 vs1) H' s' ∧ tn1 j s'.heap ∧ (∀ b ∈ fp1, H' b = none) ∧ W1 j m H' := fun {s' H'} J' nx => by
              obtain ⟨m', lt, w'⟩ := less1 H' nx
              have pinned : ∀ b ∈ fp1, ∀ o, t7.heap.get? b = some o → s'.heap.get? b = some o ∧ H' b = none := fun b hb o z =>
                let t := J'.pin (b, o) (List.mem_append_right _ (List.mem_append_right _ (mem_pinsAt hb z)))
                ⟨t.1, t.2.1⟩
              refine ⟨m', lt, j + 1, H', (J'.unpinned (pins := [] ++ pinsAt fp s7.heap)).weak (by rw [← hw9, wipe_length]) (fun j v z => ?_), T1.keep _ _ _ u7 fun b hb o z => (pinned b hb o z).1, fun b hb => ?_, w'⟩
              · rw [← hw9] at z; exact (wipe_some z).1
              · obtain ⟨o, z, _⟩ := T1.obj _ _ u7 b hb
                exact (pinned b hb o z).2
            cases b with
            | false =>
              simp only [Bool.false_eq_true, if_false] at p9 ⊢
              exact last1 K9 p9
            | true =>
              simp only [if_true] at p9 ⊢
              refine thnF (pk.run _ t9 σ9 G9 _ K9 p9) fun z t10 ⟨yk, G10, K10, r10, p10⟩ => ?_
              refine thnF (pv.run _ t10 σ9 G10 _ K10 p10) fun z2 t11 ⟨yv, G11, K11, r11, es, ks, kk, hD11, ka, kn, kh, nk', lz, yr, nx⟩ => ?_
              exact dx_dictSet (X := X.blk s3 H3 scope ce fp) hu K11 hD11 ka kn kh nk' lz yr r10 r11 fun s12 I12 => last1 I12 nx
        exact dc2_start loop1 (T1.self X.A 0 _ _ _ st11 loop1)
  exact codeAny_compStart_dict loop (T.self X.A 0 _ _ _ st4 loop)
end
end Rk
set_option maxHeartbeats 4000000
namespace Rk
open PySem L2 PyProof.Rows
section
variable {X : Cx}
theorem Inv.untracked {pins : List (Addr × Obj)} {σ : L2.St} {H : Hp} {s : Shared} (I : L2.Inv X pins σ H s) (o : Obj) (t' : Nat) : L2.Inv X pins σ H { heap := s.heap.push o, gens := s.gens, drawn := s.drawn, toks := t', os := s.os } := by
  obtain ⟨f0, f1, f2, f3, f4, f5⟩ := I.fpOk (Nat.le_refl _) I.fresh
  exact I.turned (t' := t') (fun b ob hb z => Heap.get?_push_of_some _ z) f0 f1 f3 f4 f5
end
end Rk
set_option maxHeartbeats 4000000
namespace Rk
open PySem L2 PyProof.Rows
section
variable {F : Fx} {env : List Ent} {ex : XP} {b c e it ek ev tg tg1 hi : Expr} {pos p0 p1 p2 p3 p4 : Pos} {P : Po}
theorem dcAt_mono {κ β : Type} [Rp κ] [Ky κ] [Rp β] {own : Nat → Option Addr} {H1 H2 H3 : Hp} {D : Addr} {kvs : List (κ × β)} (hD : H1 D = none) (p : DcAt F own H1 D kvs H2) (s3 : Same H2 H3) : DcAt F own H1 D kvs H3 := by
  have s12 := p.same hD
  obtain ⟨s2, es, hes, hr⟩ := p
  refine ⟨fun x o e => ?_, es, s3 _ _ hes, hr.mono (hid_same s3)⟩
  have ne : x ≠ D := ne_of_none e hD
  show (if x = D then none else H3 x) = some o
  rw [if_neg ne]; exact s3 _ _ (s12 _ _ e)
def TlAt {κ : Type} [Rp κ] [Ky κ] (F : Fx) (own : Nat → Option Addr) (H1 : Hp) (D : Addr) (v : List V) (ks : List κ) (H2 : Hp) : Prop :=
  ∃ as : List Addr, DcAt F own H1 D (ks.zip (as.map V.ref)) H2 ∧ as.length = ks.length ∧ as.Nodup ∧ ∀ a ∈ as, H1 a = none ∧ H2 a = some (.lst v)
theorem TlAt.mono {κ : Type} [Rp κ] [Ky κ] {own : Nat → Option Addr} {H1 H2 H3 : Hp} {D : Addr} {v : List V} {ks : List κ} (hD : H1 D = none) (p : TlAt F own H1 D v ks H2) (s : Same H2 H3) : TlAt F own H1 D v ks H3 := by
  obtain ⟨as, a, b, c, d⟩ := p
  exact ⟨as, dcAt_mono hD a s, b, c, fun x hx => ⟨(d x hx).1, s _ _ (d x hx).2⟩⟩
def ksTo {α κ : Type} (kf : Int → α → κ) (xs : List α) (m : Nat) : List κ := (List.range m).flatMap fun k : Nat => xs.map (kf (k : Int))
theorem ksTo_s {α κ : Type} {kf : Int → α → κ} {xs : List α} {m : Nat} : ksTo kf xs (m + 1) = ksTo kf xs m ++ xs.map (kf (m : Int)) := by
  unfold ksTo; rw [List.range_succ, List.flatMap_append]; simp
theorem ksTo_sub {α κ : Type} {kf : Int → α → κ} {xs : List α} {m n : Nat} (h : m ≤ n) : (ksTo kf xs m).Sublist (ksTo kf xs n) := by
  induction h with
  | refl => exact List.Sublist.refl _
  | step _ ih => rw [ksTo_s]; exact ih.trans (List.sublist_append_left _ _)
theorem new_rep {F : Fx} {env : List Ent} {ex : XP} {ev : Expr} {own : Nat → Option Addr} {σ : L2.St} {H : Hp} {c : Bool} {j} {m : Int} {Q : VK} (k : F.Kn own env σ H) (p : Port F own H ex) (h : KE F env ev ex fun n : Int => n = m) (hm : 0 ≤ m ∧ m < 100000)
    (q : ∀ H' a, Same H H' → H a = none → H' a = some (.lst (List.replicate m.toNat (V.bl c))) → Q (.ref a) H') : tE F.X (.BinOp (.List [.Constant (.bool c) j p1] p2) .Mult ev p3) σ H Q := by
  refine tE_of (pe_op op_rep (pe_lst (pa_cons pe_bl pa_nil)) peE) ?_
  refine ⟨Nat.le_trans (by decide : 1 ≤ 100000) (by decide), fun a ha => ?_⟩
  have s1 : Same H (upd H a (.lst [V.bl c])) := same_new ha
  refine tE_mono (fun u H2 ⟨n, s2, r, en⟩ => ?_) (h own σ _ (k.mono s1) (p.mono s1))
  have r : u = V.int n := r
  subst r
  subst en
  refine ⟨a, n, [V.bl c], rfl, rfl, s2 _ _ upd_same, by omega, by omega, ?_, fun t ht => ?_⟩
  · rw [List.length_singleton, Nat.one_mul]
    exact Nat.le_trans (by omega : n.toNat ≤ 100000) (by decide)
  · have st : Same H H2 := s1.trans s2
    refine q _ t (st.trans (same_new ht)) (by
      cases z : H t with
      | none => rfl
      | some o => rw [st _ _ z] at ht; cases ht) ?_
    rw [upd_same]
    have e : (List.replicate n.toNat [V.bl c]).flatten = List.replicate n.toNat (V.bl c) := by
      rw [List.flatten_replicate_singleton]
    rw [e]
theorem but_same {hs : Addr → Prop} {own : Nat → Option Addr} {H H' : Hp} {D : Addr} (hD : hs D) (s : Same (fun a => if a = D then none else H a) H') : Same (Hid (hd hs own) H) (Hid (hd hs own) H') := fun a o e => by
  have h1 := hid_of e
  have nh : ¬ hd hs own a := fun z => by unfold Hid at e; rw [if_pos z] at e; cases e
  rw [hid_at nh]
  refine s a o ?_
  show (if a = D then none else H a) = some o
  rw [if_neg fun z : a = D => nh (.inl (by rw [z]; exact hD))]; exact h1
theorem map_fst_zip' {α β : Type} {xs : List α} {ys : List β} (h : ys.length = xs.length) : (xs.zip ys).map Prod.fst = xs := List.map_fst_zip (Nat.le_of_eq h.symm)
end
end Rk
set_option maxHeartbeats 4000000
namespace Rk
open PySem L2 PyProof.Rows
abbrev no_ : Nat → Option Addr := fun _ => none
theorem hd_no {hs : Addr → Prop} {a : Addr} : hd hs no_ a ↔ hs a := ⟨fun z => z.elim id (fun ⟨_, q⟩ => by cases q), Or.inl⟩
theorem drop_no {i : Nat} : drop no_ i = no_ := by funext j; unfold drop; split <;> rfl
section
variable {F : Fx} {env : List Ent} {ex : XP} {a b c e it ek ev tg tg1 hi lo o : Expr} {pos p0 p1 p2 p3 p4 p5 p6 p7 : Pos} {P : Po} {sts body : List Stmt}
abbrev Hide (κ : Type) [Rp κ] : Prop := ∀ {G : Gm} {h1 h2 : Addr → Prop} {H : Hp} {v : V} {k : κ}, (∀ a, h2 a → h1 a ∨ ∃ xs, H a = some (.lst xs)) → Rp.rep G (Hid h1 H) v k → Rp.rep G (Hid h2 H) v k
theorem kn_fgt {G : Gm} {hs : Addr → Prop} {B H : Hp} {σ : L2.St} : ∀ {env : List Ent} (is : List Nat), Rk.Kn G hs B no_ env σ H → Rk.Kn G hs B no_ (is.foldl (fun e i => e.set i .no) env) σ H
  | _, [], k => k
  | _, i :: is, k => kn_fgt is (by have z := k.forget i; rw [drop_no] at z; exact z)
def JE (F : Fx) (H : Hp) (D : Ends) (I : List Ent → Prop) (J : Hp → Prop) : Ends :=
  { D with nx := fun σ3 H3 => ∃ env3, F.Kn no_ env3 σ3 H3 ∧ Fr F.hs no_ no_ H H3 ∧ I env3 ∧ J H3, ct := fun σ3 H3 => ∃ env3, F.Kn no_ env3 σ3 H3 ∧ Fr F.hs no_ no_ H H3 ∧ I env3 ∧ J H3, bk := D.nx }
end
end Rk
set_option maxHeartbeats 4000000
namespace Rk
open PySem L2 PyProof.Rows
theorem put_same {κ : Type} [DecidableEq κ] {xs : List (κ × Addr × Value)} {k : κ} {r : Value} (h : ∀ x ∈ xs, x.1 = k → x.2.2 = r) : xs.map (putAt k r) = xs := by
  induction xs with
  | nil => rfl
  | cons x xs ih =>
    rw [List.map_cons, ih fun y hy => h y (List.mem_cons_of_mem _ hy)]
    congr 1
    unfold putAt
    by_cases q : x.1 = k
    · have z := h x List.mem_cons_self q
      rw [if_pos q, ← z]
    · rw [if_neg q]
theorem paired_mem {α β : Type} {F : α → β → Prop} : ∀ {xs : List α} {ys : List β}, Paired F xs ys → ∀ y ∈ ys, ∃ x ∈ xs, F x y
  | _, _, .nil, y, h => by cases h
  | _, _, .cons h t, y, m => by
    rcases List.mem_cons.mp m with rfl | m
    · exact ⟨_, List.mem_cons_self, h⟩
    · obtain ⟨x, hx, q⟩ := paired_mem t y m
      exact ⟨x, List.mem_cons_of_mem _ hx, q⟩
section
variable {X : Cx} {pins : List (Addr × Obj)} {σ : L2.St} {H : Hp} {s : Shared} {a : Addr} {es : List En} {y : V} {u : Value} {A : Around} {E : Value → Shared → Prop}
theorem dx_setSame {Q : Unit → Shared → Prop} {ks : List (List Int)} {k : List Int} {b : Bool} (hu : A.units + 16 < cLine) (I : Inv X pins σ H s) (hD : H a = some (DO a es)) (hk : KeysAt H es (ks.map .t)) (nd : (ks.map KeyD.t).Nodup) (hn : k ∈ ks) (hv : ∀ e ∈ es, e.v = V.bl b) (hy : KeyRep H y (.t k)) (ry : RelV y u)
    (h : ∀ s', Inv X pins σ (upd H a (DO a es)) s' → Q () s') : wpAny (model X.prog X.w) A (setItem (.ref a) u (.bool b)) Q E s := by
  obtain ⟨xs, dd, hx, hp, hs, hl0⟩ := lib_t I (.of hD) hk nd
  obtain ⟨c, eu, ey, is⟩ := key_of_t I hy ry
  have lx : xs.length = es.length := (Paired.length hp).symm
  rw [eu]
  refine wpAny_setItem_heap (hsz := by rw [lx]; exact hl0) (room_nk hu) is dd fun h' dd' sb => h _ ?_
  have all : ∀ x ∈ xs, x.2.2 = Value.bool b := fun x m => by
    obtain ⟨e, he, q⟩ := paired_mem hp x m
    have z := q.2
    rw [hv e he] at z
    exact z
  have old : storedH xs (nk k) c (.bool b) = xs := by
    cases q : atKey xs (nk k) with
    | none =>
      have z := atKey_in xs (nk k)
      rw [q, decide_eq_true (by rw [hx]; exact List.mem_map.mpr ⟨k, hn, rfl⟩)] at z
      cases z
    | some p => rw [storedH_old q]; exact put_same fun x m _ => all x m
  rw [old] at dd'
  obtain ⟨o, arr, ep, ho, hex, hd, hpr, _, _⟩ := dd'
  have na : DictAt a es h' := ⟨hl0, hs, o, arr, ep, ho, hex, hd, by rw [hpr]; exact back_t (H := H) hx hk hp⟩
  exact d_write I (by rw [hD]; exact True.intro) sb (let ⟨_, _, q, _, _, hq, _⟩ := na; ⟨q, hq⟩) (do_ok na)
end
section
variable {X : Cx}
theorem lock_all {pins : List (Addr × Obj)} {σ : L2.St} {s : Shared} : ∀ (as : List Addr) {H : Hp}, as.Nodup → (∀ a ∈ as, ∃ es, H a = some (DO a es)) → L2.Inv X pins σ H s →
    ∃ H', L2.Inv X pins σ H' s ∧ (∀ a ∈ as, ∀ es, H a = some (DO a es) → ∃ ob, H' a = some (.frz ob (DO a es))) ∧ ∀ x, x ∉ as → H' x = H x
  | [], H, _, _, I => ⟨H, I, (fun a h => by cases h), fun _ _ => rfl⟩
  | a :: as, H, nd, h, I => by
    obtain ⟨es, he⟩ := h a List.mem_cons_self
    obtain ⟨ob, I2⟩ := I.lock he True.intro
    have na := (List.nodup_cons.mp nd).1
    have ne : ∀ x ∈ as, x ≠ a := fun x hx z => na (z ▸ hx)
    obtain ⟨H', I3, l, o⟩ := lock_all as (List.nodup_cons.mp nd).2 (fun x hx => by
      obtain ⟨es2, h2⟩ := h x (List.mem_cons_of_mem _ hx)
      exact ⟨es2, by rw [upd_ne (ne x hx)]; exact h2⟩) I2
    refine ⟨H', I3, fun x hx es2 h2 => ?_, fun x hx => ?_⟩
    · rcases List.mem_cons.mp hx with rfl | hx
      · rw [he] at h2
        injection h2 with h2
        exact ⟨ob, by rw [o x na, upd_same, h2]⟩
      · exact l x hx es2 (by rw [upd_ne (ne x hx)]; exact h2)
    · rw [o x fun z => hx (List.mem_cons_of_mem _ z), upd_ne fun z => hx (by rw [z]; exact List.mem_cons_self)]
end
end Rk
namespace Rk
open PySem L2 PyProof.Rows
section
variable {F : Fx} {env : List Ent} {ex : XP} {a b e : Expr} {pos p0 p1 : Pos} {body : List Stmt}
end
end Rk
set_option maxHeartbeats 4000000
namespace Rk
open PySem L2 PyProof.Rows
section
variable {κ : Type} [Rp κ] [Ky κ]
def SetAt (G : Gm) (h : Addr → Prop) (H : Hp) (a : Addr) (ks : List κ) : Prop := ∃ es, H a = some (DO a es) ∧ EnsRep G (Hid h H) es (ks.map fun k => (k, true)) ∧ ks.Nodup
theorem SetAt.mono {G : Gm} {h : Addr → Prop} {H H' : Hp} {a : Addr} {ks : List κ} (s : Same H H') (p : SetAt G h H a ks) : SetAt G h H' a ks := by
  obtain ⟨es, h1, h2, h3⟩ := p
  exact ⟨es, s _ _ h1, h2.mono (hid_same s), h3⟩
def addS [DecidableEq κ] (ks : List κ) (k : κ) : List κ := if k ∈ ks then ks else ks ++ [k]
theorem addS_nd [DecidableEq κ] {ks : List κ} {k : κ} (h : ks.Nodup) : (addS ks k).Nodup := by
  unfold addS
  split
  · exact h
  · rename_i n
    exact List.nodup_append.mpr ⟨h, by simp, fun a ha b hb e => by
      rw [List.mem_singleton] at hb
      exact n (by rw [← hb, ← e]; exact ha)⟩
theorem addS_mem [DecidableEq κ] {ks : List κ} {k x : κ} : x ∈ addS ks k ↔ x ∈ ks ∨ x = k := by
  unfold addS
  split
  · rename_i m
    exact ⟨.inl, fun z => z.elim id fun e => e ▸ m⟩
  · rw [List.mem_append, List.mem_singleton]
theorem fst_true (ks : List κ) : (ks.map fun k => (k, true)).map Prod.fst = ks := by rw [List.map_map]; exact List.map_id _
end
section
variable {F : Fx} {env : List Ent} {ex : XP} {a b c e i it ek ev tg hi lo o : Expr} {pos p0 p1 p2 p3 p4 p5 p6 : Pos} {P : Po} {sts body : List Stmt}
def DsAt (F : Fx) (H1 : Hp) (D : Addr) (n : Nat) (H2 : Hp) : Prop :=
  Same H1 (fun x => if x = D then none else H2 x) ∧ ∃ as : List Addr, H2 D = some (.lst (as.map V.ref)) ∧ as.length = n ∧ as.Nodup ∧ ∀ a ∈ as, H1 a = none ∧ a ≠ D ∧ H2 a = some (DO a [])
theorem DsAt.same {H1 H2 : Hp} {D : Addr} {n : Nat} (h : DsAt F H1 D n H2) (hD : H1 D = none) : Same H1 H2 := fun x o e => by
  have ne : x ≠ D := ne_of_none e hD
  have z : (if x = D then none else H2 x) = some o := h.1 x o e
  rw [if_neg ne] at z; exact z
theorem SetAt.frz {κ : Type} [Rp κ] [Ky κ] (hide : ∀ {G : Gm} {h1 h2 : Addr → Prop} {H H' : Hp} {v : V} {k : κ}, (∀ a o, Hid h1 H a = some o → (∃ vs, o = .tup vs) → Hid h2 H' a = some o) → Rp.rep G (Hid h1 H) v k → Rp.rep G (Hid h2 H') v k)
    {G : Gm} {h1 h2 : Addr → Prop} {H H' : Hp} {a : Addr} {ks : List κ} (p : SetAt G h1 H a ks) (f : ∀ es, H a = some (DO a es) → ∃ ob, H' a = some (.frz ob (DO a es))) (nh : ¬ h2 a) (s : ∀ x o, Hid h1 H x = some o → (∃ vs, o = .tup vs) → Hid h2 H' x = some o) :
    Rp.rep G (Hid h2 H') (.ref a) (Dic.mk (ks.map fun k => (k, true)) : Dic κ Bool) := by
  obtain ⟨es, e1, e2, e3⟩ := p
  obtain ⟨ob, e4⟩ := f es e1
  refine ⟨a, ob, es, rfl, by rw [hid_at nh]; exact e4, ?_, by rw [fst_true]; exact e3⟩
  exact Paired.mapP e2 fun e kv z => ⟨z.1, hide s z.2.1, z.2.2⟩
end
end Rk
set_option maxHeartbeats 4000000
namespace Rk
open PySem L2 PyProof.Rows
section
variable {F : Fx} {env : List Ent} {ex : XP} {a b c e it : Expr} {pos p0 p1 p2 : Pos} {P : Po} {body : List Stmt}
end
section
variable {PP : Program} {wd : World} {A : Around} {Ex : Value → Shared → Prop} {s : Shared} {a b : Addr} {oa ob : Obj} {da db : Array DictEntry} {na nb : Nat}
theorem same_empty {nm : String} {Q : Bool → Shared → Prop} (ha : (a == sysModules) = false) (hb : (b == sysModules) = false) (ga : s.heap.get? a = some oa) (ea : oa.data = .dict da na) (gb : s.heap.get? b = some ob) (eb : ob.data = .dict db nb) (hz : db.size = 0)
    (q : Q (decide (da.size = 0)) s) : wpAny (model PP wd) A (Builtin.Dict.samePairs nm a b) Q Ex s := by
  have ta : ¬ (a == sysModules) = true := ne_true_of_eq_false ha
  have tb : ¬ (b == sysModules) = true := ne_true_of_eq_false hb
  unfold Builtin.Dict.samePairs Builtin.Dict.showsAll
  rw [if_neg ta, if_neg tb]
  refine wpAny_bind (wpAny_pure (wpAny_bind (wpAny_pure (wpAny_bind (wpAny_dictEntries ga ea ?_)))))
  dsimp only
  refine wpAny_bind (wpAny_dictEntries gb eb ?_)
  cases Nat.eq_zero_or_pos da.size with
  | inr h =>
    rw [decide_eq_false (Nat.ne_of_gt h)] at q
    have ne : (da.size != db.size) = true := by rw [hz]; exact bne_iff_ne.mpr (Nat.ne_of_gt h)
    rw [if_pos ne]
    exact wpAny_bind (wpAny_rule (wpAny_pure q))
  | inl h =>
    rw [decide_eq_true h] at q
    have ee : ¬ (da.size != db.size) = true := by rw [hz, h]; decide
    rw [if_neg ee]
    refine wpAny_bind (wpAny_dictEpoch ga ea (wpAny_bind ?_))
    rw [Std.Legacy.Range.forIn_eq_forIn_range', show ([:da.size] : Std.Legacy.Range).size = 0 by simp [Std.Legacy.Range.size, h]]
    exact wpAny_forIn_list _ (fun rest q s' => s' = s ∧ q = (none, ()) ∧ rest = []) _ (fun _ _ _ _ z => nomatch z.2.2) (fun r s' z => by obtain ⟨rfl, rfl, _⟩ := z; exact wpAny_pure q) _ _ ⟨rfl, rfl, rfl⟩
theorem ne_empty {Q : Value → Shared → Prop} (ha : (a == sysModules) = false) (hb : (b == sysModules) = false) (ga : s.heap.get? a = some oa) (xa : oa.ExactDict) (ea : oa.data = .dict da na) (gb : s.heap.get? b = some ob) (xb : ob.ExactDict) (eb : ob.data = .dict db nb) (hz : db.size = 0) (hu : A.units < cLine)
    (q : Q (.bool (!decide (da.size = 0))) s) : wpAny (model PP wd) A (compareOp .NotEq (.ref a) (.ref b)) Q Ex s := by
  have ta : s.TypeIs (.ref a) "dict" := ⟨oa, ga, xa.1⟩
  have tb : s.TypeIs (.ref b) "dict" := ⟨ob, gb, xb.1⟩
  have inner : wpAny (model PP wd) A.in1 (Builtin.Dict.dictSlotArgs "__ne__" ⟨[.ref a, .ref b], []⟩) (fun p s' => p = (Value.ref a, Value.ref b) ∧ s' = s) (fun _ _ => False) s := by
    unfold Builtin.Dict.dictSlotArgs
    exact wpAny_bind (wpAny_notOrdered_dict ta (wpAny_pure ⟨rfl, rfl⟩))
  refine wpAny_richCompare_same_room (op := .NotEq) ta tb PySem.F.slot_dict_ne (wpAny_call_entry PySem.F.slot_dict_ne ta PySem.F.entry_dict_ne ?_ (PySem.F.args_dict_ne_2 _ _)) hu
  refine wpAny_bind (wpAny_mono inner ?_ fun _ _ z => z.elim)
  rintro _ _ ⟨rfl, rfl⟩
  refine wpAny_bind (wpAny_isInstance (T := "dict") tb PySem.F.sub_dict_dict ?_)
  rw [if_neg (by decide)]
  exact wpAny_bind (wpAny_pure (wpAny_bind (wpAny_pure (wpAny_bind (same_empty ha hb ga ea gb eb hz (wpAny_pure ⟨_, rfl, (fun x => nomatch x), (by cases hd : decide (da.size = 0) <;> rw [hd] at q <;> exact q)⟩))))))
end
def rNeX0 : R2 := fun x y H Q => ∃ (a b : Addr) (es : List En), x = .ref a ∧ y = .ref b ∧ Rd H a (DO a es) ∧ Rd H b (DO b []) ∧ Q (.bl (!decide (es = []))) H
section
variable {F : Fx} {env : List Ent} {ex : XP} {a : Expr} {pos p1 : Pos}
end
end Rk
set_option maxHeartbeats 4000000
namespace Rk
open PySem L2 PyProof.Rows
def RunAt (PP : Program) (w : World) (K : PySem.W.Frag) (mg : Str → Option Value) (base : Heap) (k : Nat) (A0 : Around) (f : Addr) (fd : FuncData) (ps : List Str) (sp : Sp) : Prop :=
  ∀ (outer : List Env) (s : Shared) (H : Hp) (args : Args) (us : List Value) (vs : List V) (Q : VK) (E : XK), Room k A0 → Env0 PP w K mg base A0 outer s H → BindsTo s fd args (ps.zip us) → Vals vs us → sp vs H Q E →
    codeAny (model PP w) A0 (.call (.ref f) args) (CR (L2.CX PP w) outer PP w H s Q E) s
theorem RunAt.imp {PP : Program} {w : World} {K : PySem.W.Frag} {mg : Str → Option Value} {base : Heap} {k : Nat} {A0 : Around} {f : Addr} {fd : FuncData} {ps : List Str} {sp sp' : Sp} (F : RunAt PP w K mg base k A0 f fd ps sp) (h : ∀ vs H Q E, sp' vs H Q E → sp vs H Q E) : RunAt PP w K mg base k A0 f fd ps sp' :=
  fun outer s H args us vs Q E hr e0 hb hv hs => F outer s H args us vs Q E hr e0 hb hv (h _ _ _ _ hs)
section
variable {PP : Program} {w : World} {K : PySem.W.Frag} {mg : Str → Option Value} {base : Heap} {cls : Nat → Addr}
end
section
variable {F : Fx} {env : List Ent} {ex : XP} {e : Expr} {pos p0 : Pos}
def reprOf {α : Type} [Rp α] [Dt α] (x : α) : Str := (Dt.d x).shown
end
end Rk
set_option maxHeartbeats 4000000
namespace Rk
open PySem L2 PyProof.Rows
theorem nolen_rev : typeLookup (.type "list_reverseiterator") "__len__" = pure none := by rw [typeLookup_type, builtinLookup_eq_fast]; kernel_rfl
theorem hint_rev : typeLookup (.type "list_reverseiterator") "__length_hint__" = pure (some (.builtin "list_reverseiterator.__length_hint__")) := by rw [typeLookup_type, builtinLookup_eq_fast]; kernel_rfl
section
variable {PP : Program} {wd : World} {A : Around} {s : Shared} {R : Result → Shared → Prop} {I : Addr} {fp wr : List Addr} {G : Array GenState → Array GenState → Prop} {n : Nat} {P : Nat → Value → Prop} {St : Nat → Shared → Prop}
abbrev FinR (PP : Program) (wd : World) (A : Around) (R : Result → Shared → Prop) : Fin → Shared → Prop := fun fin s' => match fin with | .done f => R (.ok f) s' | .again c' => c'.quiet = true ∧ codeAny (model PP wd) A c' R s'
theorem extend_rev (W : WalksS PP wd A.in1 I fp wr G n P St) (hT : ∀ i s, St i s → s.TypeIs (.ref I) "list_reverseiterator") (S : Addr) (res : Value) (c0 : Nat) (hst : St 0 s) (hSf : S ∉ fp) (hI : I ∈ fp) (hS : s.heap.get? S = some { cls := .type "list", data := .seq #[] c0 })
    (hR : ∀ s' acc' c', Moved (S :: wr) G s s' → s'.heap.get? S = some { cls := .type "list", dict := none, data := .seq acc' c', slots := #[] } → ItemsOf P acc' n → R (.ok (.ret res)) s') (hn : n ≤ sizeLine) :
    wpAny (model PP wd) A.in1 (Builtin.List.listExtendWith (.ref S) (.ref I) res) (FinR PP wd A R) (fun e s' => R (.error e) s') s := by
  have ne : S ≠ I := fun e => hSf (e ▸ hI)
  have t0 := hT 0 _ hst
  have same : Builtin.List.listSameRef (.ref S) (.ref I) = false := by unfold Builtin.List.listSameRef; exact beq_eq_false_iff_ne.mpr ne
  unfold Builtin.List.listExtendWith
  refine wpAny_bind (wpAny_typeOf t0 ?_)
  rw [if_neg (by rw [same]; decide)]
  refine wpAny_bind (W.self 0 _ _ _ hst (wpAny_bind (wpAny_holding ?_)))
  unfold Builtin.List.listLengthHint
  refine wpAny_bind (wpAny_specialOf t0 nolen_rev ?_)
  show wpAny _ A.in1 (specialOf (.ref I) (Str.ofString "__length_hint__") >>= _) _ _ _
  refine wpAny_bind (wpAny_specialOf t0 hint_rev ?_)
  (generalize hid : ("list_reverseiterator.__length_hint__" : String) = id0; wp_delta; rw [show splitId id0 = some ("list_reverseiterator", "__length_hint__") from by subst hid; decide +kernel]; subst hid)
  refine wpAny_bind (wpAny_isInstance (b := true) t0 (by rw [isSubtype_type]; kernel_rfl) (wpAny_pure ?_))
  rw [if_neg (by decide)]
  exact wpAny_pure ⟨plainId_quiet F.plain_extend_loop _, codeAny_extend_loopS W hn _ hSf _ n 0 _ _ _ rfl (Nat.zero_le _) hst hS (ItemsOf.nil P) hR⟩
theorem init_rev (W : WalksS PP wd A.in1 I fp wr G n P St) (hT : ∀ i s, St i s → s.TypeIs (.ref I) "list_reverseiterator") (S : Addr) (hst : St 0 s) (hSf : S ∉ fp) (hI : I ∈ fp) (hS : s.heap.get? S = some { cls := .type "list", data := .seq #[] })
    (hR : ∀ s' acc' c', Moved (S :: wr) G s s' → s'.heap.get? S = some { cls := .type "list", dict := none, data := .seq acc' c', slots := #[] } → ItemsOf P acc' n → R (.ok (.ret .none)) s') (hn : n ≤ sizeLine) :
    wpAny (model PP wd) A.in1 (Builtin.«list.__init__» ⟨[.ref S, .ref I], []⟩) (FinR PP wd A R) (fun e s' => R (.error e) s') s := by
  have rest : ∀ b o, b ≠ S → s.heap.get? b = some o → (s.heap.update S (Obj.mapSeq (fun _ => (#[] : Array Value)))).get? b = some o := fun b o ne e => (Heap.get?_update_other _ _ (Ne.symm ne)).trans e
  have moved : Moved (S :: wr) G s { s with heap := s.heap.update S (Obj.mapSeq (fun _ => (#[] : Array Value))) } := (Moved.refl W.grefl).then_heap (Nat.le_refl _) fun b o hb e => rest b o (fun z => hb (z ▸ List.mem_cons_self)) e
  have items : wpAny (model PP wd) A.in1 (Builtin.List.listItems (.ref S)) (fun x s' => x = #[] ∧ s' = s) (fun _ _ => False) s := by
    unfold Builtin.List.listItems
    exact wpAny_bind (wpAny_seqItems hS rfl (wpAny_pure ⟨rfl, rfl⟩))
  refine wpAny_bind (wpAny_mono items ?_ fun _ _ z => z.elim)
  rintro _ _ ⟨rfl, rfl⟩
  refine wpAny_bind (m := updateSeq S fun _ => #[]) (wpAny_updateSeq hS rfl (wpAny_bind (wpAny_letGo ?_)))
  exact extend_rev W hT S .none _ (W.frame 0 _ _ _ hst (Nat.le_refl _) fun b hb o e => rest b o (fun z => hSf (z ▸ hb)) e) hSf hI (Heap.get?_update_self _ hS rfl) (fun s' acc' c' hm h1 h2 => hR s' acc' c' (Moved.trans W.gtrans moved hm) h1 h2) hn
theorem call_list_walked {E : Value → Shared → Prop} {Q : Value → Shared → Prop} (W : WalksS PP wd A.in1.in1 I fp wr G n P St) (hT : ∀ i s, St i s → s.TypeIs (.ref I) "list_reverseiterator") (hst : St 0 s) (hfp : ∀ b ∈ fp, b < s.heap.objs.size) (hI : I ∈ fp)
    (hQ : ∀ s' acc' c', Moved (s.heap.objs.size :: wr) G { s with heap := s.heap.push { cls := .type "list", data := .seq #[] } } s' → s'.heap.get? s.heap.objs.size = some { cls := .type "list", dict := none, data := .seq acc' c', slots := #[] } → ItemsOf P acc' n → Q (.ref s.heap.objs.size) s') (hn : n ≤ sizeLine) :
    wpAny (model PP wd) A (call (.type "list") [.ref I]) Q E s := by
  have nf : s.heap.objs.size ∉ fp := fun m => Nat.lt_irrefl _ (hfp _ m)
  refine callType_codes (Q₁ := fun obj t => obj = .ref s.heap.objs.size ∧ t = { s with heap := s.heap.push { cls := .type "list", data := .seq #[] } }) F.called_list (F.typeCall_list_1 _) F.entry_list_init (code_list_new _ ⟨rfl, rfl⟩) ?_
  rintro _ _ ⟨rfl, rfl⟩
  have new : (s.heap.push { cls := .type "list", data := .seq #[] }).get? s.heap.objs.size = some { cls := .type "list", data := .seq #[] } := Heap.get?_push_size _ rfl
  exact ⟨⟨_, new, rfl⟩, F.args_list_init_2 _ _, init_rev W hT _ (W.frame 0 _ _ _ hst (Nat.le_refl _) fun b _ o e => Heap.get?_push_of_some _ e) nf hI new (fun s' acc' c' hm h1 h2 => ⟨rfl, hQ s' acc' c' hm h1 h2⟩) hn⟩
end
end Rk
namespace Rk
open PySem L2 PyProof.Rows
section
variable {X : Cx} {e : Expr} {te : TE} {p p2 pos pos2 : Pos}
end
section
variable {F : Fx} {env : List Ent} {ex : XP} {a b c e it : Expr} {pos p0 p1 p2 p3 : Pos} {x : Str} {P : Po} {body : List Stmt}
theorem rep_rev {G : Gm} {H : Hp} {vs : List V} {ds : List DV} (h : RepAll G H vs ds) : RepAll G H vs.reverse ds.reverse := by
  have key : ∀ {vs : List V} {ds : List DV}, RepAll G H vs ds → RepAll G H vs.reverse ds.reverse := by
    intro vs
    induction vs with
    | nil => intro ds h; cases ds with
      | nil => exact trivial
      | cons => cases h
    | cons v vs ih => intro ds h; cases ds with
      | nil => cases h
      | cons d ds =>
        rw [List.reverse_cons, List.reverse_cons]
        exact RepAll.app (ih h.2) ⟨h.1, trivial⟩
  exact key h
theorem dvs_rev {α : Type} [Rp α] (xs : List α) : (dvs xs).reverse = dvs xs.reverse := by unfold dvs; rw [List.map_reverse]
theorem s_forV {α : Type} [Rp α] {f : α → List Ent → List Ent} {g : TG} {is : List Nat} (tg : Tg F a α g is f) (m : NoGl F.X.mg) (h : KE F env it P.ex fun xs : List α => ∃ I : Nat → List Ent → Prop, I 0 env ∧ (∀ i y env', xs.reverse[i]? = some y → I i env' → KSs F (f y env') body (turn P (I (i + 1)))) ∧ ∀ env', I xs.reverse.length env' → P.nx env')
    (hc : F.X.calm = true := by rfl) (hg : Gl F.X "reversed" := by rfl) (z : Ns F it [] := by rfl) (hs : ∀ x, foldedSetIterable (.Call (.Name "reversed" p0) [it] [] p1) F.X.env x = pure x := by intro _; rfl) : KS F env (.For a (.Call (.Name "reversed" p0) [it] [] p1) body [] pos) P := KS.mk fun own σ H k p => by
  refine tS_of (ps_for p.1 hc (pi_reversed hg (m _ (by simp)) (pa_cons peE pa_nil z) z) tg.pg peSs hs) (tE_mono (fun v H1 ⟨xs, s, ⟨l, vs, e1, e2, e3⟩, I, h0, h1, h2⟩ => ?_) (h own σ H k p))
  have hlen : vs.length = xs.length := by rw [e3.len, dvs_len]
  have e3' := rep_rev e3
  rw [dvs_rev] at e3'
  refine ⟨l, vs, by rw [e1], SqL.of (hid_of e2), RT.for_Itv (K := F.X.K) (a := l) (xs := vs) (fun i σ' H' => ∃ own', Fr F.hs own own' H1 H' ∧ ∃ env', F.Kn own' env' σ' H' ∧ I i env') ⟨own, Fr.refl, env, k.mono s, h0⟩ ?_ ?_ ?_⟩
  · rintro i σ' H' ⟨own', fr, _, _, _⟩
    exact SqL.of (hid_of (fr _ _ e2))
  · rintro i v' σ' H' hi hv ⟨own', fr, env', k', hI⟩
    have hv2 : vs.reverse[i]? = some v' := by rw [List.getElem?_reverse hi]; exact hv
    obtain ⟨d, hd1, hd2⟩ := e3'.get' hv2
    rw [dvs_get] at hd1
    cases hx : xs.reverse[i]? with
    | none => rw [hx] at hd1; cases hd1
    | some y =>
      rw [hx] at hd1
      have ed : dv y = d := Option.some.inj hd1
      subst ed
      have base : Fr F.hs own own H H1 := Fr.of s
      refine tg.sem y _ env' own' σ' H' v' k' (DV.mono (d := dv y) fr hd2) fun own2 σ2 k2 f2 _ _ => ?_
      have tot : Fr F.hs own own2 H H' := (base.trans fr).trans f2
      refine tSs_mono (D := ends F own2 H' (turn P (I (i + 1)))) ?n (fun _ _ z => z) (fun _ _ z => At.more tot z) ?c (h1 i y env' hx hI own2 σ2 H' k2 (p.step tot))
      all_goals
        rintro σ3 H3 ⟨env3, own3, k3, f3, q3⟩
        exact ⟨own3, fr.trans (f2.trans f3), env3, k3, q3⟩
  · rintro σ' H' ⟨own', fr, env', k', hI⟩
    rw [hlen, ← List.length_reverse] at hI
    exact ⟨env', own', k', (Fr.of s).trans fr, h2 env' hI⟩
end
end Rk
set_option maxHeartbeats 4000000
namespace Rk
open PySem L2 PyProof.Rows
section
variable {F : Fx} {env : List Ent} {ex : XP} {a b c e it o : Expr} {es : List Expr} {pos p0 p1 p2 ap : Pos} {n x : Str} {P : Po} {st : Stmt} {sts ss body : List Stmt}
end
end Rk
set_option maxHeartbeats 4000000
namespace Rk
open PySem L2 PyProof.Rows
section
variable {F : Fx} {env : List Ent} {a b e : Expr} {pos p1 p2 : Pos} {n x : Str} {P : Po}
theorem t_inI {ex : XP} {Q : Bool → Prop} (h : KE F env a ex fun x : Int => KE F env b ex fun ys : List Int => Q (decide (x ∈ ys))) (hm : behindInMarks .In b = false := by with_unfolding_all rfl) : KT F env (.Compare a [.In] [b] pos) ex Q :=
  t_cmp op_in_seq h (fun _ _ _ _ v u x y s _ r1 r2 q => by
    have r1 : v = V.int x := r1
    obtain ⟨l, vs, e1, e2, e3⟩ := r2
    subst r1 e1
    have e4 := reps_ints e3
    subst e4
    exact ⟨l, _, rfl, .inl (SqL.of (hid_of e2)), rfl, flat_ints y, _, by show V.bl (inV (V.int x) (y.map V.int)) = _; rw [in_ints], s, q⟩) hm
end
end Rk
set_option maxHeartbeats 4000000
namespace Rk
open PySem L2 PyProof.Rows
structure Hot (F : Fx) (ft : Addr → Prop) : Prop where
  h : ∀ a, ft a → F.hs a
  b : ∀ a, ft a → F.B a = none
def Sep (env : List Ent) (i : Nat) (ft : Addr → Prop) : Prop := ∀ j m, j ≠ i → env[j]? = some (.gh m) → ∀ a, ft a → ¬ m.ft a
theorem butF_upd {ft : Addr → Prop} {H : Hp} {a : Addr} {o : HO} (h : ft a) : Same (Hid ft H) (upd H a o) := fun b u e => by
  have h1 := hid_of e
  have : b ≠ a := fun z => by subst z; unfold Hid at e; rw [if_pos h] at e; cases e
  rw [upd_ne this]; exact h1
section
variable {F : Fx} {env : List Ent} {ex : XP} {own : Nat → Option Addr} {σ : L2.St} {H H' : Hp}
theorem Hot.same {ft : Addr → Prop} (h : Hot F ft) (s : Same (Hid ft H) H') : Same (Hid (hd F.hs own) H) (Hid (hd F.hs own) H') := fun a o e => by
  have h1 := hid_of e
  have nh : ¬ hd F.hs own a := fun z => by unfold Hid at e; rw [if_pos z] at e; cases e
  rw [hid_at nh]
  refine s a o ?_
  rw [hid_at fun z => nh (.inl (h.h a z))]; exact h1
theorem Kn.hot {i : Nat} {m m' : MV} {v : V} (k : F.Kn own env σ H) (he : env[i]? = some (.gh m)) (hot : Hot F m.ft) (hσ : σ[i]? = some (some v)) (sep : Sep env i m.ft) (s : Same (Hid m.ft H) H') (nn : ∀ a, m.ft a → H' a ≠ none) (ok : m'.ok F.G (Hid (hd F.hs own) H') H' v) (fe : ∀ a, m'.ft a → m.ft a) : F.Kn own (env.set i (.gh m')) σ H' := by
  have hi : i < env.length := (List.getElem?_eq_some_iff.mp he).1
  have at_ : ∀ a o, ¬ m.ft a → H a = some o → H' a = some o := fun a o n e => s a o (by rw [hid_at n]; exact e)
  have no : ∀ {j q}, own j = some q → ¬ m.ft q := fun h z => k.dis _ _ h (hot.h _ z)
  have sm : Same (Hid (hd F.hs own) H) (Hid (hd F.hs own) H') := hot.same s
  exact {
    ex := fun a o e => at_ a o (fun z => by rw [hot.b a z] at e; cases e) (k.ex a o e)
    hsB := fun a h => by
      by_cases z : m.ft a
      · exact nn a z
      · cases q : H a with
        | none => exact absurd q (k.hsB a h)
        | some o => rw [at_ a o z q]; exact nofun
    dis := k.dis
    len := by rw [List.length_set]; exact k.len
    inj := k.inj
    new := fun j q h => ⟨(k.new j q h).1, by
      cases z : H q with
      | none => exact absurd z (k.new j q h).2
      | some o => rw [at_ q o (no h) z]; exact nofun⟩
    out := fun j q h => by
      obtain ⟨o, ho⟩ := k.out j q h
      by_cases e : i = j
      · subst e; rw [he] at ho; cases ho
      · exact ⟨o, by rw [List.getElem?_set_ne e]; exact ho⟩
    ent := fun j e h => by
      by_cases q : i = j
      · subst q
        rw [List.getElem?_set_self hi] at h
        cases h
        refine ⟨v, hσ, m'.mono (Same.refl _) (fun a o z e => ?_) ok⟩
        unfold lessOwn
        rw [hid_at fun ⟨j, y⟩ => no y (fe a z)]; exact e
      · rw [List.getElem?_set_ne q] at h
        have z := k.ent j e h
        cases e with
        | no => trivial
        | sh d => obtain ⟨w, h1, h2⟩ := z; exact ⟨w, h1, DV.mono sm h2⟩
        | ow o => obtain ⟨p, ho, h0, h1, h2, h3⟩ := z; exact ⟨p, ho, h0, h1, at_ p ho (no h0) h2, o.mono sm h3⟩
        | gh m2 =>
          obtain ⟨w, h1, h2⟩ := z
          refine ⟨w, h1, m2.mono sm (fun a o z e => ?_) h2⟩
          have e1 := hid_of e
          have n1 : ¬ ∃ i, own i = some a := fun y => by unfold lessOwn Hid at e; rw [if_pos y] at e; cases e
          unfold lessOwn
          rw [hid_at n1]
          exact at_ a o (fun y => sep j m2 (Ne.symm q) h a y z) e1 }
theorem Fr.hot {ft : Addr → Prop} (h : Hot F ft) (s : Same (Hid ft H) H') : Fr F.hs own own H H' := h.same s
def KEM (F : Fx) (env : List Ent) (e : Expr) (ex : XP) {α : Type} [Rp α] (Q : List Ent → α → Prop) : Prop :=
  ∀ own σ H, F.Kn own env σ H → Port F own H ex → tE F.X e σ H fun v H' => ∃ (env' : List Ent) (a : α), F.Kn own env' σ H' ∧ Fr F.hs own own H H' ∧ Rp.rep F.G (Hid (hd F.hs own) H') v a ∧ Q env' a
def KTM (F : Fx) (env : List Ent) (e : Expr) (ex : XP) (Q : List Ent → Bool → Prop) : Prop :=
  ∀ own σ H, F.Kn own env σ H → Port F own H ex → tT F.X e σ H fun b H' => ∃ env', F.Kn own env' σ H' ∧ Fr F.hs own own H H' ∧ Q env' b
variable {a b c e o : Expr} {es : List Expr} {pos p0 p1 p2 ap : Pos} {n x f : Str} {P : Po} {st : Stmt} {sts ss body : List Stmt}
end
end Rk
set_option maxHeartbeats 4000000
namespace Rk
open PySem L2 PyProof.Rows
def ses (num : Nat) (p pl ll : Addr) (fs : List (Str × DV)) (xs ys : List DV) : MV where
  ft := fun a => a = p ∨ a = pl ∨ a = ll
  ok := fun G S H v => v = .ref p ∧ (p ≠ pl ∧ p ≠ ll ∧ pl ≠ ll) ∧ (∃ dx kvs, H p = some (.ins (G.cls num) dx kvs) ∧ RepF G S kvs fs) ∧ (∃ vs, H pl = some (.lst vs) ∧ RepAll G S vs xs) ∧ ∃ vs, H ll = some (.lst vs) ∧ RepAll G S vs ys
  mono := fun s t ⟨h0, h1, ⟨dx, kvs, a1, a2⟩, ⟨vs, b1, b2⟩, ws, c1, c2⟩ => ⟨h0, h1, ⟨dx, kvs, t _ _ (.inl rfl) a1, a2.mono s⟩, ⟨vs, t _ _ (.inr (.inl rfl)) b1, b2.mono s⟩, ws, t _ _ (.inr (.inr rfl)) c1, c2.mono s⟩
def led (l : Addr) (xs : List DV) : MV where
  ft := fun a => a = l
  ok := fun G S H v => v = .ref l ∧ ∃ vs, H l = some (.lst vs) ∧ RepAll G S vs xs
  mono := fun s t ⟨h0, vs, b1, b2⟩ => ⟨h0, vs, t _ _ rfl b1, b2.mono s⟩
structure Kd (δ : Type) : Type 1 where
  ι : Type
  mv : ι → δ → MV
  hd : ι → Addr
  ft : ι → Addr → Prop
  hft : ∀ i d, (mv i d).ft = ft i
  hv : ∀ {i d G S H v}, (mv i d).ok G S H v → v = .ref (hd i)
  nn : ∀ {i d G S H v}, (mv i d).ok G S H v → ∀ a, ft i a → H a ≠ none
inductive Rm (δ : Type) : Type 1 where
  | ok (d : DV) (s : δ)
  | err (c : Nat)
def spM {δ : Type} (T : Kd δ) (j : Nat) (tr : Hp → DV → DV) (K : PySem.W.Frag) (cls : Nat → Addr) (S : δ → List DV → Rm δ → Prop) : Sp := fun vs H Q E => ∃ (hs : Addr → Prop) (i : T.ι) (s : δ) (ds : List DV) (r : Rm δ), (∀ x, hs x → H x ≠ none) ∧ (∀ a, T.ft i a → hs a) ∧ RepAll ⟨K, cls⟩ (Hid hs H) vs ds ∧ ds[j]? = some (dv (V.ref (T.hd i))) ∧
  (T.mv i s).ok ⟨K, cls⟩ (Hid hs H) H (.ref (T.hd i)) ∧ S s ds r ∧
  match r with
  | .ok d s' => ∀ v H', Same (Hid (T.ft i) H) H' → (T.mv i s').ok ⟨K, cls⟩ (Hid hs H') H' (.ref (T.hd i)) → (tr (Hid (T.ft i) H) d).rep ⟨K, cls⟩ (Hid hs H') v → Q v H'
  | .err c => ∀ dd H', Same (Hid (T.ft i) H) H' → (T.mv i s).ok ⟨K, cls⟩ (Hid hs H') H' (.ref (T.hd i)) → Xd c dd (Hid hs H') → E (.ref (cls c)) dd H'
def spG {δ : Type} (T : Kd δ) (j : Nat) (K : PySem.W.Frag) (cls : Nat → Addr) (S : δ → List DV → Rz → Prop) : Sp := fun vs H Q E => ∃ (hs : Addr → Prop) (i : T.ι) (s : δ) (ds : List DV) (r : Rz), (∀ x, hs x → H x ≠ none) ∧ (∀ a, T.ft i a → hs a) ∧ RepAll ⟨K, cls⟩ (Hid hs H) vs ds ∧ ds[j]? = some (dv (V.ref (T.hd i))) ∧
  (T.mv i s).ok ⟨K, cls⟩ (Hid hs H) H (.ref (T.hd i)) ∧ S s ds r ∧
  match r with
  | .ok d => ∀ v H', Same H H' → d.rep ⟨K, cls⟩ (Hid hs H') v → Q v H'
  | .err c => ∀ dd H', Same H H' → Xd c dd (Hid hs H') → E (.ref (cls c)) dd H'
def bodyM {δ : Type} (T : Kd δ) (j : Nat) (tr : Hp → DV → DV) (B : Hp) (i : T.ι) (d : δ) (r : Rm δ) : Po :=
  { nx := fun env => ∃ x0 d', r = .ok x0 d' ∧ tr B x0 = dv () ∧ env[j]? = some (.gh (T.mv i d')), rt := fun x => ∃ x0 d', r = .ok x0 d' ∧ x = tr B x0, re := fun env => ∀ x0 d', r = .ok x0 d' → env[j]? = some (.gh (T.mv i d')), ex := fun env C => r = .err C ∧ env[j]? = some (.gh (T.mv i d)) }
section
variable {PP : Program} {w : World} {K : PySem.W.Frag} {mg : Str → Option Value} {base : Heap} {cls : Nat → Addr} {δ : Type} {T : Kd δ} {j : Nat}
abbrev fxB (PP : Program) (w : World) (K : PySem.W.Frag) (mg : Str → Option Value) (base : Heap) (cls : Nat → Addr) (N : List Str) (qual : Str) (sc : Scope) (f : Addr) (cd : Value) (A : Around) (outer : List Env) (s : Shared) (H : Hp) (E : XK) (hs : Addr → Prop) (B : Hp) : Fx :=
  ⟨cxOf (L2.CX PP w) PP w K mg base N qual sc f cd A outer s H E, cls, hs, B⟩
end
section
variable {F : Fx} {env : List Ent} {ex : XP} {a b c e o : Expr} {es : List Expr} {pos p0 p1 p2 p3 q1 apos : Pos} {n x f : Str} {P : Po} {own : Nat → Option Addr} {σ : L2.St} {H0 H : Hp}
theorem set_same {i : Nat} {e : Ent} (h : env[i]? = some e) : env.set i e = env := by
  apply List.ext_getElem?
  intro j
  by_cases q : i = j
  · subst q; rw [List.getElem?_set_self (List.getElem?_eq_some_iff.mp h).1, h]
  · rw [List.getElem?_set_ne q]
def GotM {δ : Type} (T : Kd δ) (F : Fx) (tr : Hp → DV → DV) (jn : Nat) (i : T.ι) {α : Type} [Rp α] (env : List Ent) (ex : XP) (Q : List Ent → α → Prop) : Rm δ → Prop
  | .ok x d' => ∃ y : α, (∀ B v H', Same F.B B → (tr B x).rep F.G H' v → Rp.rep F.G H' v y) ∧ Q (env.set jn (.gh (T.mv i d'))) y
  | .err c => ex env c
abbrev trI : Hp → DV → DV := fun _ d => d
abbrev trN : Hp → DV → DV := fun B d => d.new B
theorem GotM.ok {δ : Type} {T : Kd δ} {jn : Nat} {i : T.ι} {α : Type} [Rp α] {Q : List Ent → α → Prop} {y : α} {d' : δ} (q : Q (env.set jn (.gh (T.mv i d'))) y) : GotM T F trI jn i env ex Q (.ok (dv y) d') := ⟨y, fun _ _ _ _ r => r, q⟩
theorem GotM.eq {δ : Type} {T : Kd δ} {tr : Hp → DV → DV} {jn : Nat} {i : T.ι} {α : Type} [ia : Rp α] {Q : List Ent → α → Prop} {r r' : Rm δ} (e : r = r') (h : GotM T F tr jn i env ex Q r') : GotM T F tr jn i env ex Q r := e ▸ h
theorem k_varG {m : MV} {p : Addr} {Q : V → Prop} (i : Nat) (hN : F.X.N[i]? = some x) (he : env[i]? = some (.gh m)) (hv : ∀ G S H v, m.ok G S H v → v = .ref p) (q : Q (.ref p))
    (hvs : Vis F.X.env.scope x := by first | exact Or.inl rfl | exact Or.inr (Or.inl rfl) | exact Or.inr (Or.inr rfl)) (hdb : (x == ("__debug__" : Str)) = false := by decide) (hcd : (x == ("__classdict__" : Str)) = false := by decide) : KE F env (.Name x pos) ex Q := fun own σ H k pt => by
  obtain ⟨v, g1, g2⟩ := (show EntOk F.G F.hs own σ H i (.gh m) from k.ent i _ he)
  have ev := hv _ _ _ _ g2
  subst ev
  exact tE_of (pe_var hN hvs hdb hcd) ⟨_, g1, .ref p, Same.refl _, rfl, q⟩
structure InM {δ : Type} (T : Kd δ) (num : Nat) (m : Str) : Prop where
  h : ∀ i d G S H v, (T.mv i d).ok G S H v → ∃ dx kvs, H (T.hd i) = some (.ins (G.cls num) dx kvs) ∧ kvs.lookup m = none
end
end Rk
set_option maxHeartbeats 4000000
namespace Sk
open PySem L2 PyProof.Rows Rk
structure Wk where
  wall : Int
  flow : Int
  pump : Int
  rest : Int
  deep : Int
  deriving DecidableEq
structure Hr where
  sl : Int
  sh : Int
  rl : Int
  rh : Int
  ship : Bool
  deriving DecidableEq
structure Stt where
  level : Int
  shut : Bool
  since : Int
  deriving DecidableEq
structure Crs where
  hours : List Hr
  deriving DecidableEq
def Wk.l (w : Wk) : List Int := [w.wall, w.flow, w.pump, w.rest, w.deep]
abbrev Hr.ds (h : Hr) : List DV := [dv h.sl, dv h.sh, dv h.rl, dv h.rh, dv h.ship]
abbrev Stt.ds (s : Stt) : List DV := [dv s.level, dv s.shut, dv s.since]
abbrev Tv.ds (t : Tv) : List DV := dvs t.vs
abbrev ds2 {α β : Type} [Rp α] [Rp β] (p : α × β) : List DV := [dv p.1, dv p.2]
instance : Rp Hr := tpRp Hr.ds
instance : Rp Stt := tpRp Stt.ds
def Wk.fs (w : Wk) : List (Str × DV) := [("wall", dv w.wall), ("flow", dv w.flow), ("pump", dv w.pump), ("rest", dv w.rest), ("deep", dv w.deep)]
def Crs.fs (c : Crs) : List (Str × DV) := [("hours", dv c.hours)]
instance : Rp Wk := obRp 0 Wk.fs
instance : Rp Crs := obRp 1 Crs.fs
theorem Wk.lk_wall (w : Wk) : w.fs.lookup ("wall" : Str) = some (dv w.wall) := by rfl
theorem Wk.lk_flow (w : Wk) : w.fs.lookup ("flow" : Str) = some (dv w.flow) := by rfl
theorem Wk.lk_pump (w : Wk) : w.fs.lookup ("pump" : Str) = some (dv w.pump) := by rfl
theorem Wk.lk_rest (w : Wk) : w.fs.lookup ("rest" : Str) = some (dv w.rest) := by rfl
theorem Wk.lk_deep (w : Wk) : w.fs.lookup ("deep" : Str) = some (dv w.deep) := by rfl
theorem Crs.lk_hours (c : Crs) : c.fs.lookup ("hours" : Str) = some (dv c.hours) := by rfl
theorem Wk.no_check_state (w : Wk) : w.fs.lookup ("check_state" : Str) = none := by rfl
theorem Wk.no_may_move (w : Wk) : w.fs.lookup ("may_move" : Str) = none := by rfl
theorem Wk.no_moved (w : Wk) : w.fs.lookup ("moved" : Str) = none := by rfl
theorem Wk.no_next_level (w : Wk) : w.fs.lookup ("next_level" : Str) = none := by rfl
theorem Crs.no_count (c : Crs) : c.fs.lookup ("count" : Str) = none := by rfl
theorem Crs.no_hour (c : Crs) : c.fs.lookup ("hour" : Str) = none := by rfl
def Hr.tv (h : Hr) : Tv := ⟨[.int h.sl, .int h.sh, .int h.rl, .int h.rh, .bl h.ship]⟩
def Stt.tv (s : Stt) : Tv := ⟨[.int s.level, .bl s.shut, .int s.since]⟩
theorem cv_of {α β : Type} {d1 : α → List DV} {d2 : β → List DV} {x : α} {y : β} (h : ∀ G H vs, RepAll G H vs (d1 x) → RepAll G H vs (d2 y)) : @Cv α β (tpRp d1) (tpRp d2) x y := fun G H v ⟨p, vs, e1, e2, e3⟩ => ⟨p, vs, e1, e2, h _ _ _ e3⟩
theorem cv_hr (h : Hr) : Cv h h.tv := cv_of fun G H vs r => match vs, r with | [_, _, _, _, _], r => r
theorem cv_hr' (h : Hr) : Cv h.tv h := cv_of fun G H vs r => match vs, r with | [_, _, _, _, _], r => r
theorem cv_st (h : Stt) : Cv h h.tv := cv_of fun G H vs r => match vs, r with | [_, _, _], r => r
theorem cv_st' (h : Stt) : Cv h.tv h := cv_of fun G H vs r => match vs, r with | [_, _, _], r => r
instance : Dt Hr := ⟨fun h => .tuple [.int h.sl, .int h.sh, .int h.rl, .int h.rh, .bool h.ship], 1, fun {G H v x} ⟨p, vs, e1, e2, e3⟩ => by
    subst e1
    match vs, e3 with
    | [_, _, _, _, _], e3 => exact .tup (SqT.of e2) (.cons (Dt.rp (x := x.sl) e3.1) (.cons (Dt.rp (x := x.sh) e3.2.1) (.cons (Dt.rp (x := x.rl) e3.2.2.1) (.cons (Dt.rp (x := x.rh) e3.2.2.2.1) (.cons (Dt.rp (x := x.ship) e3.2.2.2.2.1) .nil))))),
  fun _ => rfl, fun _ => Nat.le_refl _, fun x y => by
    show (x.sl == y.sl && (x.sh == y.sh && (x.rl == y.rl && (x.rh == y.rh && (x.ship == y.ship && true))))) = true ↔ _
    cases x; cases y; simp⟩
instance : Dt Stt := ⟨fun h => .tuple [.int h.level, .bool h.shut, .int h.since], 1, fun {G H v x} ⟨p, vs, e1, e2, e3⟩ => by
    subst e1
    match vs, e3 with
    | [_, _, _], e3 => exact .tup (SqT.of e2) (.cons (Dt.rp (x := x.level) e3.1) (.cons (Dt.rp (x := x.shut) e3.2.1) (.cons (Dt.rp (x := x.since) e3.2.2.1) .nil))),
  fun _ => rfl, fun _ => Nat.le_refl _, fun x y => by
    show (x.level == y.level && (x.shut == y.shut && (x.since == y.since && true))) = true ↔ _
    cases x; cases y; simp⟩
def isWh (v : V) (lo hi : Int) : Bool := match v with
  | .int i => decide (lo ≤ i ∧ i ≤ hi)
  | _ => false
def scl (v : V) : Prop := ∃ t, tyS v = some t
def nextL (w : Wk) (level : Int) (shut : Bool) (sea river : Int) : Int := if shut = true then max 0 (level + river - w.pump) else level + river + max (-w.flow) (min w.flow (sea - level))
def Wk.Ok (w : Wk) : Prop := (1 ≤ w.wall ∧ w.wall ≤ 200) ∧ (1 ≤ w.flow ∧ w.flow ≤ 400) ∧ (0 ≤ w.pump ∧ w.pump ≤ 400) ∧ (1 ≤ w.rest ∧ w.rest ≤ 6) ∧ 0 ≤ w.deep ∧ w.deep ≤ w.wall
instance (w : Wk) : Decidable w.Ok := by unfold Wk.Ok; infer_instance
def Hr.Ok (h : Hr) : Prop := (0 ≤ h.sl ∧ h.sl ≤ h.sh ∧ h.sh ≤ 400) ∧ 0 ≤ h.rl ∧ h.rl ≤ h.rh ∧ h.rh ≤ 400
instance (h : Hr) : Decidable h.Ok := by unfold Hr.Ok; infer_instance
def Stt.Ok (w : Wk) (s : Stt) : Prop := (0 ≤ s.level ∧ s.level ≤ w.wall) ∧ 1 ≤ s.since ∧ s.since ≤ w.rest
instance (w : Wk) (s : Stt) : Decidable (s.Ok w) := by unfold Stt.Ok; infer_instance
def Crs.Ok (c : Crs) : Prop := 1 ≤ c.hours.length ∧ c.hours.length ≤ 72 ∧ ∀ h ∈ c.hours, h.Ok
def mkSt (w : Wk) (t : Tv) : Option Stt := match t.vs with
  | [.int l, .bl s, .int n] => if (Stt.mk l s n).Ok w then some ⟨l, s, n⟩ else none
  | _ => none
theorem mkSt_ok {w : Wk} {s : Stt} (h : s.Ok w) : mkSt w s.tv = some s := by
  unfold mkSt Stt.tv
  simp only
  rw [if_pos h]
theorem mkSt_some {w : Wk} {t : Tv} {s : Stt} (h : mkSt w t = some s) : t = s.tv ∧ s.Ok w := by
  unfold mkSt at h
  split at h
  · split at h
    · cases h
      refine ⟨?_, by assumption⟩
      cases t; simp_all [Stt.tv]
    · cases h
  · cases h
def mkHr (t : Tv) : Option Hr := match t.vs with
  | [.int a, .int b, .int c, .int d, .bl s] => if (Hr.mk a b c d s).Ok then some ⟨a, b, c, d, s⟩ else none
  | _ => none
theorem mkHr_ok {h : Hr} (k : h.Ok) : mkHr h.tv = some h := by
  unfold mkHr Hr.tv
  simp only
  rw [if_pos k]
theorem mkHr_not {h : Hr} (k : ¬ h.Ok) : mkHr h.tv = none := by
  unfold mkHr Hr.tv
  simp only
  rw [if_neg k]
theorem mkHr_some {t : Tv} {h : Hr} (k : mkHr t = some h) : t = h.tv ∧ h.Ok := by
  unfold mkHr at k
  split at k
  · split at k
    · cases k
      refine ⟨?_, by assumption⟩
      cases t; simp_all [Hr.tv]
    · cases k
  · cases k
def movedR (w : Wk) (s : Stt) (shut : Bool) : Rz := if shut = s.shut then .ok (dv (min (s.since + 1) w.rest)) else if s.since = w.rest then .ok (dv (1 : Int)) else .err 13
def goodL (w : Wk) (h : Hr) (shut : Bool) (level : Int) : Bool := decide (level ≤ w.wall) && (!h.ship || (!shut && decide (w.deep ≤ level)))
structure T3v where
  a : V
  b : V
  c : V
structure T5v where
  a : V
  b : V
  c : V
  d : V
  e : V
abbrev T3v.ds (t : T3v) : List DV := [dv t.a, dv t.b, dv t.c]
abbrev T5v.ds (t : T5v) : List DV := [dv t.a, dv t.b, dv t.c, dv t.d, dv t.e]
instance : Rp T3v := tpRp T3v.ds
instance : Rp T5v := tpRp T5v.ds
theorem cv_t3 (a b c : V) : Cv (Tv.mk [a, b, c]) (T3v.mk a b c) := cv_of fun G H vs r => match vs, r with | [_, _, _], r => r
theorem cv_t5 (a b c d e : V) : Cv (Tv.mk [a, b, c, d, e]) (T5v.mk a b c d e) := cv_of fun G H vs r => match vs, r with | [_, _, _, _, _], r => r
theorem tv3 {t : Tv} (h : (!true || !decide (((dvs t.vs).length : Int) = 3)) = false) : ∃ a b c, t = ⟨[a, b, c]⟩ := by
  obtain ⟨vs⟩ := t
  simp [dvs_len] at h
  match vs, h with
  | [a, b, c], _ => exact ⟨a, b, c, rfl⟩
  | [], h => simp at h
  | [_], h => simp at h
  | [_, _], h => simp at h
  | _ :: _ :: _ :: _ :: _, h => simp at h; omega
theorem tv5 {t : Tv} (h : (!true || !decide (((dvs t.vs).length : Int) = 5)) = false) : ∃ a b c d e, t = ⟨[a, b, c, d, e]⟩ := by
  obtain ⟨vs⟩ := t
  simp [dvs_len] at h
  match vs, h with
  | [a, b, c, d, e], _ => exact ⟨a, b, c, d, e, rfl⟩
  | [], h => simp at h
  | [_], h => simp at h
  | [_, _], h => simp at h
  | [_, _, _], h => simp at h
  | [_, _, _, _], h => simp at h
  | _ :: _ :: _ :: _ :: _ :: _ :: _, h => simp at h; omega
theorem no3 {w : Wk} {t : Tv} (h : (!true || !decide (((dvs t.vs).length : Int) = 3)) = true) : mkSt w t = none := by
  obtain ⟨vs⟩ := t
  unfold mkSt
  simp [dvs_len] at h
  split
  · rename_i e; simp only at e; subst e; simp at h
  · rfl
theorem no5 {t : Tv} (h : (!true || !decide (((dvs t.vs).length : Int) = 5)) = true) : mkHr t = none := by
  obtain ⟨vs⟩ := t
  unfold mkHr
  simp [dvs_len] at h
  split
  · rename_i e; simp only at e; subst e; simp at h
  · rfl
def isBl (v : V) : Bool := match v with
  | .bl _ => true
  | _ => false
theorem kb {v : V} (h : scl v) : ∃ k, tyS v = some k ∧ kitB k "bool" = some (isBl v) := by
  obtain ⟨t, ht⟩ := h
  cases v with
  | non => exact ⟨_, rfl, by decide +kernel⟩
  | bl b => exact ⟨_, rfl, by show kitB "bool" "bool" = some true; decide +kernel⟩
  | int i => exact ⟨_, rfl, by show kitB "int" "bool" = some false; decide +kernel⟩
  | str x => exact ⟨_, rfl, by show kitB "str" "bool" = some false; decide +kernel⟩
  | byt x => cases ht
  | flt x => cases ht
  | ref x => cases ht
  | ty x => cases ht
theorem isWh_int {v : V} {lo hi : Int} (h : isWh v lo hi = true) : ∃ i, v = .int i ∧ lo ≤ i ∧ i ≤ hi := by
  cases v with
  | int i => exact ⟨i, rfl, by simpa [isWh] using h⟩
  | _ => cases h
theorem cv_vi {v : V} {i : Int} (h : v = .int i) : Cv v i := fun G H u r => by
  have r : u = v := r
  rw [r, h]; exact rfl
theorem cv_vb {v : V} {i : Bool} (h : v = .bl i) : Cv v i := fun G H u r => by
  have r : u = v := r
  rw [r, h]; exact rfl
def bndOk (lo hi : V) : Bool := match hi with
  | .int h => decide (0 ≤ h ∧ h ≤ 400) && isWh lo 0 h
  | _ => false
theorem mkSt_isSome (w : Wk) (a b c : V) : (mkSt w ⟨[a, b, c]⟩).isSome = (isWh a 0 w.wall && isBl b && isWh c 1 w.rest) := by
  unfold mkSt
  split
  · rename_i l s n e
    simp only [List.cons.injEq, and_true] at e
    obtain ⟨rfl, rfl, rfl⟩ := e
    by_cases h : (Stt.mk l s n).Ok w
    · rw [if_pos h]
      unfold Stt.Ok at h
      simp only [isWh, isBl, Option.isSome]
      simp only [Bool.true_eq, Bool.and_eq_true, decide_eq_true_eq]
      exact ⟨⟨⟨h.1.1, h.1.2⟩, trivial⟩, h.2.1, h.2.2⟩
    · rw [if_neg h]
      unfold Stt.Ok at h
      simp only [isWh, isBl, Option.isSome]
      symm
      simp only [Bool.and_true, Bool.and_eq_false_iff, decide_eq_false_iff_not]
      simp only at h
      by_cases h1 : 0 ≤ l ∧ l ≤ w.wall
      · exact .inr fun h2 => h ⟨h1, h2⟩
      · exact .inl h1
  · rename_i ne
    simp only [Option.isSome]
    symm
    cases a with
    | int l =>
      cases b with
      | bl s =>
        cases c with
        | int n => exact absurd rfl (ne l s n)
        | _ => simp [isWh, isBl]
      | _ => simp [isBl]
    | _ => simp [isWh]
theorem mkHr_isSome (a b c d e : V) : (mkHr ⟨[a, b, c, d, e]⟩).isSome = (bndOk a b && bndOk c d && isBl e) := by
  unfold mkHr
  split
  · rename_i a b c d s e
    simp only [List.cons.injEq, and_true] at e
    obtain ⟨rfl, rfl, rfl, rfl, rfl⟩ := e
    by_cases h : (Hr.mk a b c d s).Ok
    · rw [if_pos h]
      unfold Hr.Ok at h
      simp only at h
      simp only [bndOk, isWh, isBl, Option.isSome]
      simp only [Bool.true_eq, Bool.and_eq_true, decide_eq_true_eq, and_true]
      omega
    · rw [if_neg h]
      unfold Hr.Ok at h
      simp only at h
      simp only [bndOk, isWh, isBl, Option.isSome]
      symm
      simp only [Bool.and_true, Bool.and_eq_false_iff, decide_eq_false_iff_not]
      omega
  · rename_i ne
    simp only [Option.isSome]
    symm
    cases b with
    | int b =>
      cases a with
      | int a =>
        cases d with
        | int d =>
          cases c with
          | int c =>
            cases e with
            | bl s => exact absurd rfl (ne a b c d s)
            | _ => simp [isBl]
          | _ => simp [bndOk, isWh]
        | _ => simp [bndOk]
      | _ => simp [bndOk, isWh]
    | _ => simp [bndOk]
theorem scl_i (i : Int) : scl (.int i) := ⟨_, rfl⟩
theorem scl_b (b : Bool) : scl (.bl b) := ⟨_, rfl⟩
theorem scl_st (s : Stt) : ∀ v ∈ s.tv.vs, scl v := by
  intro v hv
  simp only [Stt.tv, List.mem_cons, List.not_mem_nil, or_false] at hv
  rcases hv with rfl | rfl | rfl
  · exact scl_i _
  · exact scl_b _
  · exact scl_i _
theorem scl_hr (s : Hr) : ∀ v ∈ s.tv.vs, scl v := by
  intro v hv
  simp only [Hr.tv, List.mem_cons, List.not_mem_nil, or_false] at hv
  rcases hv with rfl | rfl | rfl | rfl | rfl
  · exact scl_i _
  · exact scl_i _
  · exact scl_i _
  · exact scl_i _
  · exact scl_b _
def initWk (a b c d e : V) : Ri :=
  if isWh a 1 200 = true then (if isWh b 1 400 = true then (if isWh c 0 400 = true then (if isWh d 1 6 = true then
    (match a, b, c, d, e with
    | .int a, .int b, .int c, .int d, .int e => if 0 ≤ e ∧ e ≤ a then .ok (Wk.fs ⟨a, b, c, d, e⟩) else .err 10
    | _, _, _, _, _ => .err 10) else .err 10) else .err 10) else .err 10) else .err 10
theorem initWk_ok {w : Wk} (h : w.Ok) : initWk (.int w.wall) (.int w.flow) (.int w.pump) (.int w.rest) (.int w.deep) = .ok w.fs := by
  unfold Wk.Ok at h
  unfold initWk
  rw [if_pos (by simp [isWh, h]), if_pos (by simp [isWh, h]), if_pos (by simp [isWh, h]), if_pos (by simp [isWh, h])]
  simp only
  rw [if_pos ⟨h.2.2.2.2.1, h.2.2.2.2.2⟩]
def mayR (w : Wk) (t : Tv) : Rz := match mkSt w t with
  | some s => .ok (dv (decide (s.since = w.rest)))
  | none => .err 12
theorem mayR_ok {w : Wk} {s : Stt} (h : s.Ok w) : mayR w s.tv = .ok (dv (decide (s.since = w.rest))) := by
  unfold mayR; rw [mkSt_ok h]
def movR (w : Wk) (t : Tv) (shut : Bool) : Rz := match mkSt w t with
  | some s => movedR w s shut
  | none => .err 12
theorem movR_ok {w : Wk} {s : Stt} {b : Bool} (h : s.Ok w) : movR w s.tv b = movedR w s b := by
  unfold movR; rw [mkSt_ok h]
def Crs.at_ (c : Crs) (n : V) : Option Hr := match n with
  | .int i => if 0 ≤ i then c.hours[i.toNat]? else none
  | _ => none
def hourR (c : Crs) (n : V) : Rz := match c.at_ n with
  | some h => .ok (dv h)
  | none => .err 12
theorem at_some {c : Crs} {i : Int} {h : Hr} (h0 : 0 ≤ i) (hi : c.hours[i.toNat]? = some h) : c.at_ (.int i) = some h := by
  unfold Crs.at_; simp only; rw [if_pos h0]; exact hi
theorem hourR_ok {c : Crs} {i : Int} {h : Hr} (h0 : 0 ≤ i) (hi : c.hours[i.toNat]? = some h) : hourR c (.int i) = .ok (dv h) := by
  unfold hourR; rw [at_some h0 hi]
def Hr.has (h : Hr) (sea river : Int) : Bool := decide (h.sl ≤ sea ∧ sea ≤ h.sh) && decide (h.rl ≤ river ∧ river ≤ h.rh)
def hasR (c : Crs) (n : V) (sea river : Int) : Rz := match c.at_ n with
  | some h => .ok (dv (h.has sea river))
  | none => .err 12
def spanL (w : Wk) (h : Hr) (level : Int) (shut : Bool) : Int × Int := (nextL w level shut h.sl h.rl, nextL w level shut h.sh h.rh)
def spanR (w : Wk) (c : Crs) (n : V) (level : Int) (shut : Bool) : Rz := match c.at_ n with
  | some h => .ok (dv (spanL w h level shut))
  | none => .err 12
def goodR (w : Wk) (c : Crs) (n : V) (shut : Bool) (level : Int) : Rz := match c.at_ n with
  | some h => .ok (dv (goodL w h shut level))
  | none => .err 12
def initCrs (hs : List Tv) : Ri := if 1 ≤ hs.length ∧ hs.length ≤ 72 ∧ hs.all (fun t => (mkHr t).isSome) = true then .ok (Crs.fs ⟨hs.filterMap mkHr⟩) else .err 11
theorem tvs_hr {hs : List Tv} (h : ∀ t ∈ hs, (mkHr t).isSome = true) : hs = (hs.filterMap mkHr).map Hr.tv := by
  induction hs with
  | nil => rfl
  | cons t ts ih =>
    have h1 := h t List.mem_cons_self
    cases e : mkHr t with
    | none => rw [e] at h1; cases h1
    | some x =>
      rw [List.filterMap_cons_some e, List.map_cons, ← ih fun u hu => h u (List.mem_cons_of_mem _ hu), ← (mkHr_some e).1]
theorem cv_hrs {hs : List Tv} (h : ∀ t ∈ hs, (mkHr t).isSome = true) : Cv hs (hs.filterMap mkHr) := by
  have e := tvs_hr h
  have c : Cv ((hs.filterMap mkHr).map Hr.tv) (hs.filterMap mkHr) := cv_list' cv_hr' _
  rw [← e] at c
  exact c
theorem hrs_back {hs : List Hr} (h : ∀ x ∈ hs, x.Ok) : (hs.map Hr.tv).filterMap mkHr = hs := by
  induction hs with
  | nil => rfl
  | cons x xs ih =>
    rw [List.map_cons, List.filterMap_cons_some (mkHr_ok (h x List.mem_cons_self)), ih fun y hy => h y (List.mem_cons_of_mem _ hy)]
theorem initCrs_ok {c : Crs} (h : c.Ok) : initCrs (c.hours.map Hr.tv) = .ok c.fs := by
  have hall : (c.hours.map Hr.tv).all (fun t => (mkHr t).isSome) = true := by
    rw [List.all_eq_true]
    intro t ht
    obtain ⟨x, hx, rfl⟩ := List.mem_map.mp ht
    rw [mkHr_ok (h.2.2 x hx)]; rfl
  unfold initCrs
  rw [List.length_map, if_pos ⟨h.1, h.2.1, hall⟩, hrs_back h.2.2]
def runI {α : Type} (f : Nat → α → α) : Nat → α → α
  | 0, a => a
  | n + 1, a => f n (runI f n a)
theorem foldl_step {α β : Type} {f : β → α → β} {b : β} {xs : List α} {i : Nat} {y : α} (h : xs[i]? = some y) : (xs.take (i + 1)).foldl f b = f ((xs.take i).foldl f b) y := by
  rw [List.take_add_one, h, List.foldl_append]; rfl
theorem initWk_e {b c d e : V} {w : Int} (h1 : isWh (.int w) 1 200 = true) (h2 : isWh b 1 400 = true) (h3 : isWh c 0 400 = true) (h4 : isWh d 1 6 = true) (h5 : ¬ isWh e 0 w = true) : initWk (.int w) b c d e = .err 10 := by
  obtain ⟨b, rfl, _⟩ := isWh_int h2
  obtain ⟨c, rfl, _⟩ := isWh_int h3
  obtain ⟨d, rfl, _⟩ := isWh_int h4
  unfold initWk
  rw [if_pos h1, if_pos h2, if_pos h3, if_pos h4]
  cases e with
  | int e =>
    simp only
    rw [if_neg]
    intro z
    exact h5 (by simp [isWh, z])
  | _ => rfl
theorem initWk_ok' {a b c d e : Int} (h1 : isWh (.int a) 1 200 = true) (h2 : isWh (.int b) 1 400 = true) (h3 : isWh (.int c) 0 400 = true) (h4 : isWh (.int d) 1 6 = true) (h5 : 0 ≤ e ∧ e ≤ a) : initWk (.int a) (.int b) (.int c) (.int d) (.int e) = .ok (Wk.fs ⟨a, b, c, d, e⟩) := by
  unfold initWk
  rw [if_pos h1, if_pos h2, if_pos h3, if_pos h4]
  simp only
  rw [if_pos h5]
theorem bnd_wh {lo hi : V} (h : bndOk lo hi = true) : isWh hi 0 400 = true := by
  cases hi with
  | int i => simp [bndOk] at h; simp [isWh, h.1]
  | _ => cases h
end Sk
namespace Sk
open PySem L2 PyProof.Rows Rk
theorem hour_no {c : Crs} {n : V} (h : isWh n 0 ((c.hours.length : Int) - 1) = false) : hourR c n = .err 12 := by
  unfold hourR Crs.at_
  cases n with
  | int i =>
    simp only [isWh, decide_eq_false_iff_not] at h
    simp only
    by_cases h0 : 0 ≤ i
    · rw [if_pos h0, List.getElem?_eq_none_iff.mpr (by omega)]
    · rw [if_neg h0]
  | _ => rfl
end Sk
set_option maxHeartbeats 4000000
namespace Sk
open PySem L2 PyProof.Rows Rk
def cellOf (ns : List Int) (k : Int) : Int := if k < (ns.length : Int) then (ns[k.toNat]?).getD 0 else 7 * k + 3
def worksOf (c : Int) : Wk := ⟨2 + c % 7, 1 + c / 7 % 4, c / 28 % 4, 1 + c / 112 % 3, c / 336 % (2 + c % 7 + 1) * b2 (decide (c / 5 % 3 = 0))⟩
def hourOf (c : Int) : Hr := ⟨c % 6, c % 6 + c / 18 % 5, c / 6 % 3, c / 6 % 3 + c / 90 % 3, decide (c / 270 % 5 = 0)⟩
def hrsTo (ns : List Int) (m : Int) : List Hr := (span 0 m).map fun k => hourOf (cellOf ns (2 + k))
def hoursOf (ns : List Int) (most : Int) : List Hr := hrsTo ns (1 + cellOf ns 1 % most)
def lSince (w : Wk) (s : Stt) (shut : Bool) : Int := if shut = s.shut then min w.rest (s.since + 1) else 1
def lMay (w : Wk) (s : Stt) (shut : Bool) : Bool := decide (shut = s.shut) || decide (w.rest ≤ s.since)
theorem movedR_may {w : Wk} {s : Stt} (h : s.Ok w) (shut : Bool) : movedR w s shut = if lMay w s shut = true then .ok (dv (lSince w s shut)) else .err 13 := by
  unfold movedR lMay lSince
  by_cases e : shut = s.shut
  · rw [if_pos e, if_pos e, if_pos (by simp [e]), Int.min_comm]
  · rw [if_neg e, if_neg e]
    by_cases g : s.since = w.rest
    · rw [if_pos g, if_pos (by simp [g])]
    · rw [if_neg g, if_neg]
      have := h.2.2
      simp [e]; omega
def stGo (l : Int) (b : Bool) (n : Int) : List Stt := (span 1 n).map fun k => ⟨l, b, k⟩
def stBl (w : Wk) (l : Int) (bs : List Bool) : List Stt := bs.flatMap fun b => stGo l b (w.rest + 1)
def stLv (w : Wk) (m : Int) : List Stt := (span 0 m).flatMap fun l => stBl w l [false, true]
def statesOf (w : Wk) : List Stt := stLv w (w.wall + 1)
theorem mem_span {lo hi y : Int} : y ∈ span lo hi ↔ lo ≤ y ∧ y < hi := by
  unfold span
  rw [List.mem_map]
  constructor
  · rintro ⟨k, hk, rfl⟩
    rw [List.mem_range] at hk
    omega
  · rintro ⟨h1, h2⟩
    exact ⟨(y - lo).toNat, by rw [List.mem_range]; omega, by omega⟩
theorem span_succ {lo : Int} {n : Nat} : span lo (lo + ((n + 1 : Nat) : Int)) = span lo (lo + (n : Int)) ++ [lo + (n : Int)] := by
  unfold span
  have e1 : (lo + ((n + 1 : Nat) : Int) - lo).toNat = n + 1 := by omega
  have e2 : (lo + (n : Int) - lo).toNat = n := by omega
  rw [e1, e2, List.range_succ, List.map_append]; rfl
theorem span_self (lo : Int) : span lo lo = [] := by unfold span; rw [Int.sub_self]; rfl
theorem span_s {lo k : Int} (h : lo ≤ k) : span lo (k + 1) = span lo k ++ [k] := by
  obtain ⟨n, rfl⟩ : ∃ n : Nat, k = lo + n := ⟨(k - lo).toNat, by omega⟩
  have := span_succ (lo := lo) (n := n)
  rw [← this]; congr 1; omega
theorem stLv_s {w : Wk} {m : Int} (h : 0 ≤ m) : stLv w (m + 1) = stLv w m ++ stBl w m [false, true] := by
  unfold stLv; rw [span_s h, List.flatMap_append]; simp
theorem stGo_len (l : Int) (b : Bool) (n : Int) : (stGo l b n).length = (n - 1).toNat := by unfold stGo; rw [List.length_map, span_len]
theorem stBl_len {w : Wk} {l : Int} : ∀ bs : List Bool, (stBl w l bs).length = bs.length * w.rest.toNat
  | [] => by simp [stBl]
  | b :: bs => by
    have e : stBl w l (b :: bs) = stGo l b (w.rest + 1) ++ stBl w l bs := by unfold stBl; rw [List.flatMap_cons]
    rw [e, List.length_append, stBl_len bs, stGo_len, List.length_cons, Nat.add_mul]; omega
theorem stLv_len {w : Wk} : ∀ n : Nat, (stLv w (n : Int)).length = n * (2 * w.rest.toNat)
  | 0 => by unfold stLv; rw [show ((0 : Nat) : Int) = 0 from rfl, span_self]; simp
  | n + 1 => by
    have e : (((n + 1 : Nat) : Int)) = (n : Int) + 1 := by omega
    rw [e, stLv_s (by omega), List.length_append, stLv_len n, stBl_len, Nat.add_mul]; simp
theorem stLv_le {w : Wk} (hw : w.Ok) {m : Int} (h0 : 0 ≤ m) (h1 : m ≤ 201) : (stLv w m).length ≤ 2412 := by
  obtain ⟨n, rfl⟩ : ∃ n : Nat, m = n := ⟨m.toNat, by omega⟩
  rw [stLv_len]
  unfold Wk.Ok at hw
  have h2 : w.rest.toNat ≤ 6 := by omega
  have h3 : n ≤ 201 := by omega
  calc n * (2 * w.rest.toNat) ≤ 201 * 12 := Nat.mul_le_mul h3 (by omega)
    _ = 2412 := rfl
def addL (f : List Int) (y : Int) : List Int := if y ∈ f then f else f ++ [y]
def lvR (w : Wk) (h : Hr) (l : Int) (s : Bool) (sea : Int) (f : List Int) (m : Int) : List Int := (span h.rl m).foldl (fun f river => addL f (nextL w l s sea river)) f
def lvS (w : Wk) (h : Hr) (l : Int) (s : Bool) (m : Int) : List Int := (span h.sl m).foldl (fun f sea => lvR w h l s sea f (h.rh + 1)) []
def levelsOf (w : Wk) (h : Hr) (l : Int) (s : Bool) : List Int := lvS w h l s (h.sh + 1)
theorem addL_mem {f : List Int} {y z : Int} : z ∈ addL f y ↔ z ∈ f ∨ z = y := by
  unfold addL
  by_cases h : y ∈ f
  · rw [if_pos h]
    exact ⟨.inl, fun g => g.elim id fun e => e ▸ h⟩
  · rw [if_neg h, List.mem_append, List.mem_singleton]
theorem addL_nd {f : List Int} {y : Int} (h : f.Nodup) : (addL f y).Nodup := by
  unfold addL
  by_cases g : y ∈ f
  · rw [if_pos g]; exact h
  · rw [if_neg g]
    refine List.nodup_append.mpr ⟨h, by simp, fun a ha b hb e => ?_⟩
    rw [List.mem_singleton] at hb
    exact g (by rw [← hb, ← e]; exact ha)
theorem foldl_mem {α : Type} {g : List Int → α → List Int} {P : α → Int → Prop} (hg : ∀ f x z, z ∈ g f x ↔ z ∈ f ∨ P x z) : ∀ (xs : List α) (f : List Int) (z : Int), z ∈ xs.foldl g f ↔ z ∈ f ∨ ∃ x ∈ xs, P x z
  | [], f, z => by simp
  | x :: xs, f, z => by
    rw [List.foldl_cons, foldl_mem hg xs, hg]
    constructor
    · rintro ((h | h) | ⟨y, hy, h⟩)
      · exact .inl h
      · exact .inr ⟨x, List.mem_cons_self, h⟩
      · exact .inr ⟨y, List.mem_cons_of_mem _ hy, h⟩
    · rintro (h | ⟨y, hy, h⟩)
      · exact .inl (.inl h)
      · rcases List.mem_cons.mp hy with rfl | hy
        · exact .inl (.inr h)
        · exact .inr ⟨y, hy, h⟩
theorem foldl_nd {α : Type} {g : List Int → α → List Int} (hg : ∀ f x, f.Nodup → (g f x).Nodup) : ∀ (xs : List α) (f : List Int), f.Nodup → (xs.foldl g f).Nodup
  | [], f, h => h
  | x :: xs, f, h => foldl_nd hg xs _ (hg f x h)
theorem lvR_mem {w : Wk} {h : Hr} {l : Int} {s : Bool} {sea : Int} {f : List Int} {m z : Int} : z ∈ lvR w h l s sea f m ↔ z ∈ f ∨ ∃ river, (h.rl ≤ river ∧ river < m) ∧ z = nextL w l s sea river := by
  unfold lvR
  rw [foldl_mem (P := fun river z => z = nextL w l s sea river) (fun f x z => addL_mem)]
  simp only [mem_span]
theorem lvS_mem {w : Wk} {h : Hr} {l : Int} {s : Bool} {m z : Int} : z ∈ lvS w h l s m ↔ ∃ sea, (h.sl ≤ sea ∧ sea < m) ∧ ∃ river, (h.rl ≤ river ∧ river < h.rh + 1) ∧ z = nextL w l s sea river := by
  unfold lvS
  rw [foldl_mem (P := fun sea z => ∃ river, (h.rl ≤ river ∧ river < h.rh + 1) ∧ z = nextL w l s sea river) (fun f x z => lvR_mem)]
  simp only [mem_span, List.not_mem_nil, false_or]
theorem lvR_nd {w : Wk} {h : Hr} {l : Int} {s : Bool} {sea : Int} {f : List Int} {m : Int} (n : f.Nodup) : (lvR w h l s sea f m).Nodup := foldl_nd (fun _ _ => addL_nd) _ _ n
theorem lvS_nd {w : Wk} {h : Hr} {l : Int} {s : Bool} {m : Int} : (lvS w h l s m).Nodup := foldl_nd (fun _ _ n => lvR_nd n) _ _ (by simp)
theorem mem_levels {w : Wk} {h : Hr} {l : Int} {s : Bool} {z : Int} : z ∈ levelsOf w h l s ↔ ∃ sea, (h.sl ≤ sea ∧ sea ≤ h.sh) ∧ ∃ river, (h.rl ≤ river ∧ river ≤ h.rh) ∧ z = nextL w l s sea river := by
  unfold levelsOf
  rw [lvS_mem]
  simp only [Int.lt_add_one_iff]
theorem foldl_len {α : Type} {g : List Int → α → List Int} {c : Nat} (hg : ∀ f x, (g f x).length ≤ f.length + c) : ∀ (xs : List α) (f : List Int), (xs.foldl g f).length ≤ f.length + xs.length * c
  | [], f => by simp
  | x :: xs, f => by
    rw [List.foldl_cons, List.length_cons, Nat.add_mul]
    have h1 := foldl_len hg xs (g f x)
    have h2 := hg f x
    omega
theorem walk_meets {g : Nat → Int} (hg : ∀ n, g (n + 1) ≤ g n + 1) : ∀ (n : Nat) (y : Int), g 0 ≤ y → y ≤ g n → ∃ k ≤ n, g k = y
  | 0, y, h0, h1 => ⟨0, Nat.le_refl _, Int.le_antisymm h0 h1⟩
  | n + 1, y, h0, h1 => by
    by_cases h : y ≤ g n
    · obtain ⟨k, hk, e⟩ := walk_meets hg n y h0 h
      exact ⟨k, Nat.le_succ_of_le hk, e⟩
    · have := hg n
      exact ⟨n + 1, Nat.le_refl _, by omega⟩
theorem next_up {w : Wk} (hf : 0 ≤ w.flow) {l : Int} {s : Bool} {a b a' b' : Int} (ha : a ≤ a') (hb : b ≤ b') : nextL w l s a b ≤ nextL w l s a' b' := by
  unfold nextL
  cases s <;> simp only [if_pos, if_neg, Bool.false_eq_true, if_false, if_true] <;> omega
theorem next_step1 {w : Wk} {l : Int} {s : Bool} {a b : Int} : nextL w l s (a + 1) b ≤ nextL w l s a b + 1 := by
  unfold nextL
  cases s <;> simp only [Bool.false_eq_true, if_false, if_true] <;> omega
theorem next_step2 {w : Wk} {l : Int} {s : Bool} {a b : Int} : nextL w l s a (b + 1) ≤ nextL w l s a b + 1 := by
  unfold nextL
  cases s <;> simp only [Bool.false_eq_true, if_false, if_true] <;> omega
theorem levels_span {w : Wk} {h : Hr} (hf : 0 ≤ w.flow) (hh : h.Ok) {l : Int} {s : Bool} {z : Int} : z ∈ levelsOf w h l s ↔ (spanL w h l s).1 ≤ z ∧ z ≤ (spanL w h l s).2 := by
  rw [mem_levels]
  unfold spanL Hr.Ok at *
  simp only
  constructor
  · rintro ⟨a, ha, b, hb, rfl⟩
    exact ⟨next_up hf ha.1 hb.1, next_up hf ha.2 hb.2⟩
  · rintro ⟨h1, h2⟩
    by_cases q : z ≤ nextL w l s h.sh h.rl
    · obtain ⟨k, hk, e⟩ := walk_meets (g := fun n => nextL w l s (h.sl + (n : Int)) h.rl) (fun n => by
        have := next_step1 (w := w) (l := l) (s := s) (a := h.sl + (n : Int)) (b := h.rl)
        have e : h.sl + ((n + 1 : Nat) : Int) = h.sl + (n : Int) + 1 := by omega
        simp only [e]; exact this) (h.sh - h.sl).toNat z (by simpa using h1) (by
          have e : h.sl + ((h.sh - h.sl).toNat : Int) = h.sh := by omega
          simp only [e]; exact q)
      exact ⟨h.sl + (k : Int), by omega, h.rl, by omega, e.symm⟩
    · obtain ⟨k, hk, e⟩ := walk_meets (g := fun n => nextL w l s h.sh (h.rl + (n : Int))) (fun n => by
        have := next_step2 (w := w) (l := l) (s := s) (a := h.sh) (b := h.rl + (n : Int))
        have e : h.rl + ((n + 1 : Nat) : Int) = h.rl + (n : Int) + 1 := by omega
        simp only [e]; exact this) (h.rh - h.rl).toNat z (by simp; omega) (by
          have e : h.rl + ((h.rh - h.rl).toNat : Int) = h.rh := by omega
          simp only [e]; exact h2)
      exact ⟨h.sh, by omega, h.rl + (k : Int), by omega, e.symm⟩
theorem span_nd (lo hi : Int) : (span lo hi).Nodup := by
  unfold span
  refine List.Pairwise.map _ (R := (· ≠ ·)) (fun a b h e => h (by omega)) (List.nodup_range)
theorem sorted_eq {xs ys zs : List Int} (h1 : ys.Perm xs) (h2 : ys.Pairwise (· ≤ ·)) (h3 : xs.Perm zs) (h4 : zs.Pairwise (· ≤ ·)) : ys = zs :=
  List.Perm.eq_of_pairwise (fun _ _ _ _ => Int.le_antisymm) h2 h4 (h1.trans h3)
def gW (c : Int) : Wk := ⟨1 + c % 200, 1 + c / 200 % 400, c / 80000 % 401, 1 + c / 7 % 6, c / 11 % (1 + c % 200 + 1)⟩
def gH (m : Int) : Hr := ⟨m % 401, m % 401 + m / 160801 % (401 - m % 401), m / 401 % 401, m / 401 % 401 + m / 7 % (401 - m / 401 % 401), decide (m % 3 = 0)⟩
theorem scl_hrs (hs : List Hr) : ∀ t ∈ hs.map Hr.tv, ∀ v ∈ t.vs, scl v := by
  intro t ht
  obtain ⟨h, _, rfl⟩ := List.mem_map.mp ht
  exact scl_hr h
theorem spanR_ok {w : Wk} {c : Crs} {i : Int} {h : Hr} {l : Int} {s : Bool} (h0 : 0 ≤ i) (hi : c.hours[i.toNat]? = some h) : spanR w c (.int i) l s = .ok (dv (spanL w h l s)) := by
  unfold spanR; rw [at_some h0 hi]
theorem goodR_ok {w : Wk} {c : Crs} {i : Int} {h : Hr} {l : Int} {s : Bool} (h0 : 0 ≤ i) (hi : c.hours[i.toNat]? = some h) : goodR w c (.int i) s l = .ok (dv (goodL w h s l)) := by
  unfold goodR; rw [at_some h0 hi]
end Sk
set_option maxHeartbeats 4000000
namespace Sk
open PySem L2 PyProof.Rows Rk
instance : NN Crs := nn_ob
instance : NN Hr := nn_tp
instance : NN Stt := nn_tp
def withinH (h o : Hr) : Bool := decide (o.sl ≤ h.sl) && (decide (h.sh ≤ o.sh) && (decide (o.rl ≤ h.rl) && (decide (h.rh ≤ o.rh) && decide (h.ship = o.ship))))
def fitH (h o : Hr) : Bool := decide h.Ok && withinH h o
def ixV (n : V) : Nat := match n with
  | .int i => i.toNat
  | _ => 0
def narrowR (c : Crs) (n : V) (t : Tv) : Rz := match mkHr t with
  | none => .err 11
  | some h => match c.at_ n with
    | none => .err 12
    | some o => if withinH h o = true then .ok (dv (Crs.mk (c.hours.set (ixV n) h))) else .err 11
def Hr.up (h : Hr) (s : Int) : Hr := ⟨h.sl, h.sh + s, h.rl, h.rh, h.ship⟩
def raisedOk (c : Crs) (s : Int) : Bool := c.hours.all fun h => decide (h.up s).Ok
def raisedR (c : Crs) (s : Int) : Rz := if raisedOk c s = true then .ok (dv (Crs.mk (c.hours.map fun h => h.up s))) else .err 11
theorem mkHr_ok? (h : Hr) : (mkHr h.tv).isSome = decide h.Ok := by
  by_cases k : h.Ok
  · rw [mkHr_ok k, decide_eq_true k]; rfl
  · rw [mkHr_not k, decide_eq_false k]; rfl
def hAt (hs : List Hr) (k : Int) : Hr := (hs[k.toNat]?).getD ⟨0, 0, 0, 0, false⟩
theorem filter_yes {α : Type} (xs : List α) : xs.filter (fun _ => true) = xs := List.filter_eq_self.mpr fun _ _ => rfl
def o4 (h : Hr) (k : Int) : Int := if k = 0 then h.sl else if k = 1 then h.sh else if k = 2 then h.rl else h.rh
def c4 (a b c d : Int) (k : Int) : Int := if k = 0 then a else if k = 1 then b else if k = 2 then c else d
end Sk
set_option maxHeartbeats 4000000
namespace Sk
open PySem L2 PyProof.Rows Rk
def lmax : List Int → Int
  | [] => 0
  | x :: xs => xs.foldl max x
def lmin : List Int → Int
  | [] => 0
  | x :: xs => xs.foldl min x
theorem foldl_max_le : ∀ (xs : List Int) (a : Int), a ≤ xs.foldl max a ∧ ∀ x ∈ xs, x ≤ xs.foldl max a
  | [], a => ⟨Int.le_refl a, fun x h => by cases h⟩
  | y :: ys, a => by
    obtain ⟨h1, h2⟩ := foldl_max_le ys (max a y)
    refine ⟨Int.le_trans (Int.le_max_left a y) h1, fun x hx => ?_⟩
    rcases List.mem_cons.mp hx with rfl | hx
    · exact Int.le_trans (Int.le_max_right a x) h1
    · exact h2 x hx
theorem foldl_max_mem : ∀ (xs : List Int) (a : Int), xs.foldl max a = a ∨ xs.foldl max a ∈ xs
  | [], a => .inl rfl
  | y :: ys, a => by
    show ys.foldl max (max a y) = a ∨ _
    rcases foldl_max_mem ys (max a y) with h | h
    · by_cases q : a ≤ y
      · right; show ys.foldl max (max a y) ∈ _; rw [h, Int.max_eq_right q]; exact List.mem_cons_self
      · rw [h, Int.max_eq_left (by omega)]; exact .inl rfl
    · exact .inr (List.mem_cons_of_mem _ h)
theorem foldl_min_le : ∀ (xs : List Int) (a : Int), xs.foldl min a ≤ a ∧ ∀ x ∈ xs, xs.foldl min a ≤ x
  | [], a => ⟨Int.le_refl a, fun x h => by cases h⟩
  | y :: ys, a => by
    obtain ⟨h1, h2⟩ := foldl_min_le ys (min a y)
    refine ⟨Int.le_trans h1 (Int.min_le_left a y), fun x hx => ?_⟩
    rcases List.mem_cons.mp hx with rfl | hx
    · exact Int.le_trans h1 (Int.min_le_right a x)
    · exact h2 x hx
theorem foldl_min_mem : ∀ (xs : List Int) (a : Int), xs.foldl min a = a ∨ xs.foldl min a ∈ xs
  | [], a => .inl rfl
  | y :: ys, a => by
    show ys.foldl min (min a y) = a ∨ _
    rcases foldl_min_mem ys (min a y) with h | h
    · by_cases q : a ≤ y
      · rw [h, Int.min_eq_left q]; exact .inl rfl
      · right; show ys.foldl min (min a y) ∈ _; rw [h, Int.min_eq_right (by omega)]; exact List.mem_cons_self
    · exact .inr (List.mem_cons_of_mem _ h)
theorem le_lmax {xs : List Int} {x : Int} (h : x ∈ xs) : x ≤ lmax xs := by
  cases xs with
  | nil => cases h
  | cons y ys =>
    obtain ⟨h1, h2⟩ := foldl_max_le ys y
    rcases List.mem_cons.mp h with rfl | h
    · exact h1
    · exact h2 x h
theorem lmax_mem {xs : List Int} (h : xs ≠ []) : lmax xs ∈ xs := by
  cases xs with
  | nil => exact absurd rfl h
  | cons y ys =>
    show ys.foldl max y ∈ y :: ys
    rcases foldl_max_mem ys y with q | q
    · rw [q]; exact List.mem_cons_self
    · exact List.mem_cons_of_mem _ q
theorem lmin_le {xs : List Int} {x : Int} (h : x ∈ xs) : lmin xs ≤ x := by
  cases xs with
  | nil => cases h
  | cons y ys =>
    obtain ⟨h1, h2⟩ := foldl_min_le ys y
    rcases List.mem_cons.mp h with rfl | h
    · exact h1
    · exact h2 x h
theorem lmin_mem {xs : List Int} (h : xs ≠ []) : lmin xs ∈ xs := by
  cases xs with
  | nil => exact absurd rfl h
  | cons y ys =>
    show ys.foldl min y ∈ y :: ys
    rcases foldl_min_mem ys y with q | q
    · rw [q]; exact List.mem_cons_self
    · exact List.mem_cons_of_mem _ q
theorem lmax_of {xs : List Int} {y : Int} (h : y ∈ xs) (hl : ∀ z ∈ xs, z ≤ y) : y = lmax xs :=
  Int.le_antisymm (le_lmax h) (hl _ (lmax_mem (List.ne_nil_of_mem h)))
theorem lmin_of {xs : List Int} {y : Int} (h : y ∈ xs) (hl : ∀ z ∈ xs, y ≤ z) : y = lmin xs :=
  Int.le_antisymm (hl _ (lmin_mem (List.ne_nil_of_mem h))) (lmin_le h)
def gatesL (w : Wk) : List (Bool × Int) := out2 (fun _ => 1) (fun _ => w.rest + 1) (fun b k => (b, k)) [false, true]
theorem gatesL_eq (w : Wk) : gatesL w = ((span 1 (w.rest + 1)).map fun k => (false, k)) ++ ((span 1 (w.rest + 1)).map fun k => (true, k)) := by
  unfold gatesL out2; rw [List.flatMap_cons, List.flatMap_cons, List.flatMap_nil, List.append_nil]
theorem mem_gates {w : Wk} {g : Bool × Int} : g ∈ gatesL w ↔ 1 ≤ g.2 ∧ g.2 ≤ w.rest := by
  rw [gatesL_eq, List.mem_append, List.mem_map, List.mem_map]
  obtain ⟨b, k⟩ := g
  constructor
  · rintro (⟨x, hx, e⟩ | ⟨x, hx, e⟩)
    all_goals
      injection e with _ e
      subst e
      have := mem_span.mp hx
      exact ⟨this.1, by show x ≤ w.rest; omega⟩
  · rintro ⟨h1, h2⟩
    have m : k ∈ span 1 (w.rest + 1) := mem_span.mpr ⟨h1, by have : k ≤ w.rest := h2; omega⟩
    cases b
    · exact .inl ⟨k, m, rfl⟩
    · exact .inr ⟨k, m, rfl⟩
theorem gates_nd (w : Wk) : (gatesL w).Nodup := by
  have inj : ∀ b : Bool, ((span 1 (w.rest + 1)).map fun k : Int => (b, k)).Nodup := fun b =>
    List.Pairwise.map _ (fun _ _ n e => n (by injection e)) (span_nd 1 (w.rest + 1))
  rw [gatesL_eq]
  refine List.nodup_append.mpr ⟨inj false, inj true, fun a ha b hb e => ?_⟩
  obtain ⟨x, _, rfl⟩ := List.mem_map.mp ha
  obtain ⟨y, _, rfl⟩ := List.mem_map.mp hb
  injection e with e1 _
  cases e1
theorem gates_len {w : Wk} (hw : w.Ok) : (gatesL w).length ≤ 12 := by
  unfold Wk.Ok at hw
  rw [gatesL_eq, List.length_append, List.length_map, List.length_map, span_len]
  omega
def Tab (w : Wk) (f : Bool → Int → Int → Int) : Dic (Bool × Int) (List Int) := ⟨(gatesL w).map fun g => (g, (span 0 (w.wall + 1)).map (f g.1 g.2))⟩
theorem tab_at {w : Wk} {f : Bool → Int → Int → Int} {b : Bool} {k : Int} (h : 1 ≤ k ∧ k ≤ w.rest) : ((b, k), (span 0 (w.wall + 1)).map (f b k)) ∈ (Tab w f).kvs := List.mem_map.mpr ⟨(b, k), mem_gates.mpr h, rfl⟩
theorem row_at {w : Wk} {f : Int → Int} {l : Int} (h0 : 0 ≤ l) (h1 : l ≤ w.wall) : ((span 0 (w.wall + 1)).map f)[l.toNat]? = some (f l) := by
  rw [List.getElem?_map, span_get (by omega), Option.map_some]
  congr 2; omega
theorem row_len {w : Wk} {f : Int → Int} : ((span 0 (w.wall + 1)).map f).length = (w.wall + 1).toNat := by rw [List.length_map, span_len, Int.sub_zero]
def actsL (w : Wk) (s : Stt) : List (Bool × Int) := dcF (fun b => decide (s.since = w.rest) || decide (b = s.shut)) id (fun b => lSince w s b) [false, true]
def actsR (w : Wk) (t : Tv) : Rz := match mkSt w t with
  | some s => .ok (dv (Dic.mk (actsL w s)))
  | none => .err 12
theorem actsR_ok {w : Wk} {s : Stt} (h : s.Ok w) : actsR w s.tv = .ok (dv (Dic.mk (actsL w s))) := by unfold actsR; rw [mkSt_ok h]
theorem mem_acts {w : Wk} {s : Stt} (h : s.Ok w) {b : Bool} {k : Int} : (b, k) ∈ actsL w s ↔ lMay w s b = true ∧ k = lSince w s b := by
  unfold actsL dcF lMay
  unfold Stt.Ok at h
  rw [List.mem_map]
  constructor
  · rintro ⟨x, hx, e⟩
    injection e with e1 e2
    subst e1
    have hx := (List.mem_filter.mp hx).2
    refine ⟨?_, e2.symm⟩
    simp only [Bool.or_eq_true, decide_eq_true_eq] at hx ⊢
    rcases hx with hx | hx
    · right; omega
    · left; exact hx
  · rintro ⟨h1, rfl⟩
    refine ⟨b, List.mem_filter.mpr ⟨by cases b <;> simp, ?_⟩, rfl⟩
    simp only [Bool.or_eq_true, decide_eq_true_eq] at h1 ⊢
    rcases h1 with h1 | h1
    · right; exact h1
    · left; omega
theorem acts_keys {w : Wk} {s : Stt} (h : s.Ok w) {b : Bool} : b ∈ (actsL w s).map Prod.fst ↔ lMay w s b = true := by
  rw [List.mem_map]
  constructor
  · rintro ⟨⟨x, k⟩, hx, rfl⟩; exact ((mem_acts h).mp hx).1
  · exact fun q => ⟨(b, lSince w s b), (mem_acts h).mpr ⟨q, rfl⟩, rfl⟩
theorem lSince_ok {w : Wk} {s : Stt} (hw : w.Ok) (h : s.Ok w) (b : Bool) : 1 ≤ lSince w s b ∧ lSince w s b ≤ w.rest := by
  unfold Wk.Ok at hw; unfold Stt.Ok at h; unfold lSince
  split <;> omega
theorem acts_two {w : Wk} {s : Stt} : (∃ p, actsL w s = [p]) ∨ ∃ p q, actsL w s = [p, q] := by
  unfold actsL dcF
  by_cases h : s.since = w.rest
  · rw [decide_eq_true h]; exact .inr ⟨_, _, rfl⟩
  · rw [decide_eq_false h]
    cases hs : s.shut
    · exact .inl ⟨_, rfl⟩
    · exact .inl ⟨_, rfl⟩
def gsp (w : Wk) (h : Hr) (s : Bool) (l : Int) : Op (Int × Int) := if (goodL w h s (spanL w h l s).1 && goodL w h s (spanL w h l s).2) = true then ⟨some (spanL w h l s)⟩ else ⟨none⟩
def spansL (w : Wk) (h : Hr) (s : Bool) (m : Int) : List (Op (Int × Int)) := (span 0 m).map (gsp w h s)
theorem spansL_s {w : Wk} {h : Hr} {s : Bool} {m : Int} (g : 0 ≤ m) : spansL w h s (m + 1) = spansL w h s m ++ [gsp w h s m] := by
  unfold spansL; rw [span_s g, List.map_append]; rfl
theorem spanL_le {w : Wk} {h : Hr} (hf : 0 ≤ w.flow) (hh : h.Ok) (l : Int) (s : Bool) : (spanL w h l s).1 ≤ (spanL w h l s).2 := by
  unfold Hr.Ok at hh
  exact next_up hf (by omega) (by omega)
theorem next_pos {w : Wk} {l a b : Int} {s : Bool} (hf : 0 ≤ w.flow) (hl : 0 ≤ l) (ha : 0 ≤ a) (hb : 0 ≤ b) : 0 ≤ nextL w l s a b := by
  unfold nextL
  split
  · omega
  · omega
theorem gsp_some {w : Wk} {h : Hr} {s : Bool} {l : Int} {p : Int × Int} (hw : w.Ok) (hh : h.Ok) (h0 : 0 ≤ l) (e : (gsp w h s l).o = some p) : p = spanL w h l s ∧ 0 ≤ p.1 ∧ p.1 ≤ p.2 ∧ p.2 ≤ w.wall := by
  unfold gsp at e
  split at e
  · rename_i g
    have ep : spanL w h l s = p := Option.some.inj e
    subst ep
    unfold Wk.Ok at hw
    refine ⟨rfl, ?_, spanL_le (by omega) hh l s, ?_⟩
    · unfold Hr.Ok at hh; exact next_pos (by omega) h0 (by omega) (by omega)
    · unfold goodL at g; simp at g; exact g.2.1
  · cases e
def bump (s : Bool) (m : Int) : Int := if m = 1000 then 1000 else if s = true then m + 1 else m
def wcase (g : Op (Int × Int)) (s : Bool) (row : List Int) : Int := match g.o with
  | none => 1000
  | some p => bump s (lmax ((row.drop p.1.toNat).take ((p.2 + 1).toNat - p.1.toNat)))
def costF (w : Wk) (h : Hr) (f : Bool → Int → Int → Int) (s : Bool) (k l : Int) : Int := wcase (gsp w h s l) s ((span 0 (w.wall + 1)).map (f s k))
def worstF (w : Wk) (g : Bool → Int → Int → Int) (s : Bool) (k l : Int) : Int := lmin ((actsL w ⟨0, s, k⟩).map fun p => g p.1 p.2 l)
def planW (w : Wk) : List Hr → Bool → Int → Int → Int
  | [] => fun _ _ _ => 0
  | h :: hs => worstF w (costF w h (planW w hs))
def told (i : Int) : Option Int := if i = 1000 then none else some i
def hAt0 (c : Crs) (k : Nat) : Hr := (c.hours[k]?).getD ⟨0, 0, 0, 0, false⟩
def costAt (w : Wk) (c : Crs) (k : Nat) : Bool → Int → Int → Int := costF w (hAt0 c k) (planW w (c.hours.drop (k + 1)))
def worstAt (w : Wk) (c : Crs) (k : Nat) : Bool → Int → Int → Int := planW w (c.hours.drop k)
structure Pl where
  works : Wk
  course : Crs
  costs : List (Dic (Bool × Int) (List Int))
  worst : List (Dic (Bool × Int) (List Int))
def Pl.fs (p : Pl) : List (Str × DV) := [("works", dv p.works), ("course", dv p.course), ("_costs", dv p.costs), ("_worst", dv p.worst)]
instance : Rp Pl := obRp 2 Pl.fs
theorem Pl.lk_works (p : Pl) : p.fs.lookup ("works" : Str) = some (dv p.works) := by rfl
theorem Pl.lk_course (p : Pl) : p.fs.lookup ("course" : Str) = some (dv p.course) := by rfl
theorem Pl.lk__worst (p : Pl) : p.fs.lookup ("_worst" : Str) = some (dv p.worst) := by rfl
theorem Pl.no_worst (p : Pl) : p.fs.lookup ("worst" : Str) = none := by rfl
theorem Pl.no_is_kept (p : Pl) : p.fs.lookup ("is_kept" : Str) = none := by rfl
theorem Pl.no_levels (p : Pl) : p.fs.lookup ("levels" : Str) = none := by rfl
theorem Pl.no__check (p : Pl) : p.fs.lookup ("_check" : Str) = none := by rfl
def costsFrom (w : Wk) (c : Crs) (n j : Nat) : List (Dic (Bool × Int) (List Int)) := (List.range j).map fun i => Tab w (costAt w c (n - 1 - i))
def worstFrom (w : Wk) (c : Crs) (n j : Nat) : List (Dic (Bool × Int) (List Int)) := (List.range (j + 1)).map fun i => Tab w (worstAt w c (n - i))
def planOf (w : Wk) (c : Crs) : Pl := ⟨w, c, (costsFrom w c c.hours.length c.hours.length).reverse, (worstFrom w c c.hours.length c.hours.length).reverse⟩
theorem worst_at {w : Wk} {c : Crs} {k : Nat} (h : k ≤ c.hours.length) : (planOf w c).worst[k]? = some (Tab w (worstAt w c k)) := by
  show ((worstFrom w c _ _).reverse)[k]? = _
  unfold worstFrom
  rw [List.getElem?_reverse (by rw [List.length_map, List.length_range]; omega), List.length_map, List.length_range, List.getElem?_map, List.getElem?_range (by omega), Option.map_some]
  congr 3; omega
theorem worst_step {w : Wk} {c : Crs} {k : Nat} (h : k < c.hours.length) : worstAt w c k = worstF w (costAt w c k) := by
  unfold worstAt costAt hAt0
  rw [List.drop_eq_getElem_cons h, List.getElem?_eq_getElem h]; rfl
def numC (c : Crs) (n : V) : Option Nat := match n with
  | .int i => if 0 ≤ i ∧ i ≤ (c.hours.length : Int) then some i.toNat else none
  | _ => none
theorem numC_some {c : Crs} {n : V} {k : Nat} (h : numC c n = some k) : n = .int k ∧ k ≤ c.hours.length := by
  unfold numC at h
  split at h
  · split at h
    · cases h; rename_i q; exact ⟨by rw [Int.toNat_of_nonneg q.1], by omega⟩
    · cases h
  · cases h
theorem numC_is {c : Crs} {n : V} : (numC c n).isSome = isWh n 0 (c.hours.length : Int) := by
  cases n with
  | int i =>
    show (if 0 ≤ i ∧ i ≤ (c.hours.length : Int) then some i.toNat else none).isSome = decide (0 ≤ i ∧ i ≤ (c.hours.length : Int))
    by_cases q : 0 ≤ i ∧ i ≤ (c.hours.length : Int)
    · rw [if_pos q, decide_eq_true q]; rfl
    · rw [if_neg q, decide_eq_false q]; rfl
  | _ => rfl
theorem numC_ok {c : Crs} {k : Nat} (h : k ≤ c.hours.length) : numC c (.int k) = some k := by
  unfold numC; simp only; rw [if_pos ⟨by omega, by omega⟩]; simp
end Sk
namespace Sk
open PySem L2 PyProof.Rows Rk
theorem zeros (n : Nat) : (List.replicate n [(0 : Int)]).flatten = List.replicate n 0 := by
  induction n with
  | zero => rfl
  | succ n ih => rw [List.replicate_succ, List.replicate_succ, List.flatten_cons, ih]; rfl
theorem end_tab {w : Wk} (hw : w.Ok) : Rz.ok (dv (Tab w fun _ _ _ => 0)) = Rz.ok (dv (Dic.mk (dcF (fun _ => true) id (fun _ : Bool × Int => (List.replicate (w.wall + 1).toNat [(0 : Int)]).flatten) (gatesL w)))) := by
  unfold Tab dcF
  rw [filter_yes, zeros]
  have e : (span 0 (w.wall + 1)).map (fun _ => (0 : Int)) = List.replicate (w.wall + 1).toNat 0 := by rw [List.map_const', span_len, Int.sub_zero]
  congr 4
  funext g
  show (g, _) = (id g, _)
  rw [e]; rfl
theorem spansL_len {w : Wk} {h : Hr} {s : Bool} {m : Int} : (spansL w h s m).length = m.toNat := by unfold spansL; rw [List.length_map, span_len, Int.sub_zero]
theorem gsp_eq {w : Wk} {h : Hr} {s : Bool} {l : Int} {p : Int × Int} {ends : List Bool} (hp : p = spanL w h l s) (he : ends = List.map (fun x => goodL w h s x) (List.filter (fun _ => true) [p.1, p.2])) : (if ends.all id = true then (⟨some (p.1, p.2)⟩ : Op (Int × Int)) else ⟨none⟩) = gsp w h s l := by
  subst he; subst hp
  unfold gsp
  simp
theorem op_some {g : Op (Int × Int)} (h : Nn.isN g = false) : ∃ p, g.o = some p := by
  obtain ⟨o⟩ := g
  cases o with
  | none => cases h
  | some p => exact ⟨p, rfl⟩
theorem wcase_none {g : Op (Int × Int)} {s : Bool} {r : List Int} (h : Nn.isN g = true) : wcase g s r = 1000 := by
  obtain ⟨o⟩ := g
  cases o with
  | none => rfl
  | some p => cases h
theorem wcase_some {g : Op (Int × Int)} {s : Bool} {r : List Int} {p : Int × Int} (h : g.o = some p) : wcase g s r = bump s (lmax ((r.drop p.1.toNat).take ((p.2 + 1).toNat - p.1.toNat))) := by
  obtain ⟨o⟩ := g
  cases h; rfl
theorem spans_len {w : Wk} {h : Hr} {s : Bool} (hw : w.Ok) : (spansL w h s (w.wall + 1)).length ≤ 40000 := by
  unfold Wk.Ok at hw; rw [spansL_len]; omega
theorem spans_in {w : Wk} {c : Crs} {i : Int} {h : Hr} {s : Bool} {g : Op (Int × Int)} {f : Int → Int} (hw : w.Ok) (hc : c.Ok) (hi : c.hours[i.toNat]? = some h) (m : g ∈ spansL w h s (w.wall + 1)) : ∀ p, g.o = some p → 0 ≤ p.1 ∧ p.1 ≤ p.2 ∧ p.2 < (((span 0 (w.wall + 1)).map f).length : Int) := fun p e => by
  obtain ⟨l, hl, rfl⟩ := List.mem_map.mp m
  have l0 := mem_span.mp hl
  obtain ⟨_, a, b, c⟩ := gsp_some hw (hc.2.2 h (List.mem_of_getElem? hi)) l0.1 e
  unfold Wk.Ok at hw
  rw [row_len]
  exact ⟨a, b, by omega⟩
theorem costs_tab {w : Wk} {h : Hr} {f : Bool → Int → Int → Int} : Dic.mk (dcF (fun _ => true) id (fun g : Bool × Int => (spansL w h g.1 (w.wall + 1)).map fun o => wcase o g.1 ((span 0 (w.wall + 1)).map (f g.1 g.2))) (gatesL w)) = Tab w (costF w h f) := by
  unfold Tab dcF
  rw [filter_yes]
  congr 2
  funext g
  show (g, _) = (g, _)
  congr 1
  show List.map _ (List.map _ _) = _
  rw [List.map_map]; rfl
theorem tv_scl (a c : Int) (b : Bool) : ∀ v ∈ (Tv.mk [.int a, .bl b, .int c]).vs, scl v := scl_st ⟨a, b, c⟩
theorem acts_rows {w : Wk} {s : Stt} {g : Bool → Int → Int → Int} : (((actsL w s).map Prod.fst).map fun a => (span 0 (w.wall + 1)).map (g a (lSince w s a))) = (actsL w s).map fun p => (span 0 (w.wall + 1)).map (g p.1 p.2) := by
  rw [List.map_map]
  refine List.map_congr_left fun p hp => ?_
  unfold actsL dcF at hp
  obtain ⟨x, _, rfl⟩ := List.mem_map.mp hp
  rfl
theorem rows_two {w : Wk} {s : Stt} {g : Bool × Int → Int → Int} (hw : w.Ok) : (∃ r, ((actsL w s).map fun p => (span 0 (w.wall + 1)).map (g p)) = [r] ∧ r.length ≤ 40000) ∨ ∃ r r2, ((actsL w s).map fun p => (span 0 (w.wall + 1)).map (g p)) = [r, r2] ∧ r.length = r2.length ∧ r.length ≤ 40000 := by
  unfold Wk.Ok at hw
  rcases acts_two (w := w) (s := s) with ⟨p, e⟩ | ⟨p, q, e⟩
  · rw [e]; exact .inl ⟨_, rfl, by rw [row_len]; omega⟩
  · rw [e]; exact .inr ⟨_, _, rfl, by rw [row_len, row_len], by rw [row_len]; omega⟩
theorem cols_ne {rows : List (List Int)} {t : Tl Int} (h : t ∈ cols rows) : t.xs ≠ [] := by
  unfold cols at h
  split at h
  · obtain ⟨x, _, rfl⟩ := List.mem_map.mp h; exact nofun
  · obtain ⟨x, _, rfl⟩ := List.mem_map.mp h; exact nofun
  · cases h
theorem worst_row {w : Wk} {b : Bool} {k : Int} {g : Bool → Int → Int → Int} {rows : List (List Int)} (e : rows = (actsL w ⟨0, b, k⟩).map fun p => (span 0 (w.wall + 1)).map (g p.1 p.2)) : ((cols rows).filter fun _ => true).map (fun t => lmin t.xs) = (span 0 (w.wall + 1)).map (worstF w g b k) := by
  rw [filter_yes, e]
  unfold worstF
  rcases acts_two (w := w) (s := ⟨0, b, k⟩) with ⟨p, e⟩ | ⟨p, q, e⟩
  · rw [e]; simp only [List.map_cons, List.map_nil, cols, List.map_map]; rfl
  · rw [e]; simp only [List.map_cons, List.map_nil, cols, List.map_map, List.zip_map', List.map_map]; rfl
theorem worst_new {w : Wk} {m : Nat} {g : Bool × Int} {β : Type} {f : Bool × Int → β} (h : (gatesL w)[m]? = some g) : g ∉ (((gatesL w).take m).map fun x => (x, f x)).map Prod.fst := by
  rw [List.map_map, show (Prod.fst ∘ fun x => (x, f x)) = id from rfl, List.map_id]
  intro hm
  have nd := gates_nd w
  obtain ⟨hl, hg⟩ := List.getElem?_eq_some_iff.mp h
  have e : gatesL w = (gatesL w).take m ++ (gatesL w).drop m := (List.take_append_drop m _).symm
  rw [e] at nd
  exact (List.nodup_append.mp nd).2.2 g hm g (by rw [List.drop_eq_getElem_cons hl, hg]; exact List.mem_cons_self) rfl
end Sk
set_option maxHeartbeats 4000000
namespace Sk
open PySem L2 PyProof.Rows Rk
def hz (hs : Addr → Prop) (p q1 q2 : Addr) : Addr → Prop := fun x => hs x ∨ x = p ∨ x = q1 ∨ x = q2
structure PSt (G : Gm) (hs : Addr → Prop) (H0 : Hp) (p q1 q2 : Addr) (w : Wk) (c : Crs) (xs ys : List (Dic (Bool × Int) (List Int))) (σ : L2.St) (H : Hp) : Prop where
  s0 : σ[0]? = some (some (.ref p))
  s1 : ∃ v, σ[1]? = some (some v) ∧ (dv w).rep G (Hid (hz hs p q1 q2) H) v
  s2 : ∃ v, σ[2]? = some (some v) ∧ (dv c).rep G (Hid (hz hs p q1 q2) H) v
  len : σ.length = 5
  obj : ∃ dx kvs, H p = some (.ins (G.cls 2) dx kvs) ∧ RepF G (Hid (hz hs p q1 q2) H) kvs [("works", dv w), ("course", dv c), ("_costs", dv (V.ref q1)), ("_worst", dv (V.ref q2))]
  l1 : ∃ vs, H q1 = some (.lst vs) ∧ RepAll G (Hid (hz hs p q1 q2) H) vs (dvs xs)
  l2 : ∃ vs, H q2 = some (.lst vs) ∧ RepAll G (Hid (hz hs p q1 q2) H) vs (dvs ys)
  fr : ∀ x o, x ≠ p → H0 x = some o → H x = some o
  n1 : H0 q1 = none
  n2 : H0 q2 = none
  ne1 : p ≠ q1
  ne2 : p ≠ q2
  ne3 : q1 ≠ q2
  hp : ¬ hs p
  hh : ∀ x, hs x → H0 x ≠ none
section
variable {G : Gm} {hs : Addr → Prop} {H0 H H' : Hp} {p q1 q2 : Addr} {w : Wk} {c : Crs} {xs ys : List (Dic (Bool × Int) (List Int))} {σ : L2.St}
theorem PSt.mono (P : PSt G hs H0 p q1 q2 w c xs ys σ H) (s : Same H H') : PSt G hs H0 p q1 q2 w c xs ys σ H' :=
  { P with
    s1 := P.s1.elim fun v ⟨a, b⟩ => ⟨v, a, DV.mono (hid_same s) b⟩
    s2 := P.s2.elim fun v ⟨a, b⟩ => ⟨v, a, DV.mono (hid_same s) b⟩
    obj := by obtain ⟨dx, kvs, a, b⟩ := P.obj; exact ⟨dx, kvs, s _ _ a, b.mono (hid_same s)⟩
    l1 := P.l1.elim fun v ⟨a, b⟩ => ⟨v, s _ _ a, b.mono (hid_same s)⟩
    l2 := P.l2.elim fun v ⟨a, b⟩ => ⟨v, s _ _ a, b.mono (hid_same s)⟩
    fr := fun x o n e => s _ _ (P.fr x o n e) }
theorem PSt.set (P : PSt G hs H0 p q1 q2 w c xs ys σ H) {i : Nat} (hi : 3 ≤ i) (o : Option V) : PSt G hs H0 p q1 q2 w c xs ys (σ.set i o) H :=
  { P with
    s0 := by rw [List.getElem?_set_ne (by omega)]; exact P.s0
    s1 := by rw [List.getElem?_set_ne (by omega)]; exact P.s1
    s2 := by rw [List.getElem?_set_ne (by omega)]; exact P.s2
    len := by rw [List.length_set]; exact P.len }
theorem PSt.hidden (P : PSt G hs H0 p q1 q2 w c xs ys σ H) : ∀ x, hz hs p q1 q2 x → H x ≠ none := fun x z => by
  rcases z with z | rfl | rfl | rfl
  · intro e
    by_cases q : x = p
    · subst q; exact P.hp z
    · cases h : H0 x with
      | none => exact P.hh x z h
      | some o => rw [P.fr x o q h] at e; cases e
  · obtain ⟨_, _, a, _⟩ := P.obj; rw [a]; exact nofun
  · obtain ⟨_, a, _⟩ := P.l1; rw [a]; exact nofun
  · obtain ⟨_, a, _⟩ := P.l2; rw [a]; exact nofun
theorem PSt.put1 (P : PSt G hs H0 p q1 q2 w c xs ys σ H) {vs : List V} {zs : List (Dic (Bool × Int) (List Int))} (r : RepAll G (Hid (hz hs p q1 q2) H) vs (dvs zs)) : PSt G hs H0 p q1 q2 w c zs ys σ (upd H q1 (.lst vs)) := by
  have e : Hid (hz hs p q1 q2) (upd H q1 (.lst vs)) = Hid (hz hs p q1 q2) H := hid_upd (.inr (.inr (.inl rfl)))
  exact { P with
    s1 := by rw [e]; exact P.s1
    s2 := by rw [e]; exact P.s2
    obj := by rw [e, upd_ne P.ne1]; exact P.obj
    l1 := ⟨vs, upd_same, by rw [e]; exact r⟩
    l2 := by rw [e, upd_ne (Ne.symm P.ne3)]; exact P.l2
    fr := fun x o n h => by rw [upd_ne (ne_of_none h P.n1)]; exact P.fr x o n h }
theorem PSt.put2 (P : PSt G hs H0 p q1 q2 w c xs ys σ H) {vs : List V} {zs : List (Dic (Bool × Int) (List Int))} (r : RepAll G (Hid (hz hs p q1 q2) H) vs (dvs zs)) : PSt G hs H0 p q1 q2 w c xs zs σ (upd H q2 (.lst vs)) := by
  have e : Hid (hz hs p q1 q2) (upd H q2 (.lst vs)) = Hid (hz hs p q1 q2) H := hid_upd (.inr (.inr (.inr rfl)))
  exact { P with
    s1 := by rw [e]; exact P.s1
    s2 := by rw [e]; exact P.s2
    obj := by rw [e, upd_ne P.ne2]; exact P.obj
    l1 := by rw [e, upd_ne P.ne3]; exact P.l1
    l2 := ⟨vs, upd_same, by rw [e]; exact r⟩
    fr := fun x o n h => by rw [upd_ne (ne_of_none h P.n2)]; exact P.fr x o n h }
theorem _root_.Rk.RepAll.rev {G : Gm} {H : Hp} : ∀ {vs : List V} {ds : List DV}, RepAll G H vs ds → RepAll G H vs.reverse ds.reverse
  | [], [], _ => trivial
  | _ :: _, _ :: _, h => by
    rw [List.reverse_cons, List.reverse_cons]
    exact (Rk.RepAll.rev h.2).app ⟨h.1, trivial⟩
theorem PSt.whole (P : PSt G hs H0 p q1 q2 w c xs ys σ H) {own : Nat → Option Addr} {B : Hp} {env0 : List Ent} {σ0 : L2.St} (K : Rk.Kn G hs B own env0 σ0 H0) (h0 : own 0 = some p) (ho : ∀ i a, own i = some a → i = 0 ∧ a = p) :
    Rk.Kn G hs B own [.ow (oobj p 2 (Pl.fs ⟨w, c, xs, ys⟩)), .no, .no, .no, .no] σ H ∧ Fr hs own own H0 H := by
  have hdE : Rk.hd hs own = fun x => hs x ∨ x = p := by
    funext x; apply propext; constructor
    · rintro (z | ⟨i, z⟩)
      · exact .inl z
      · exact .inr (ho i x z).2
    · rintro (z | z)
      · exact .inl z
      · exact .inr ⟨0, by rw [z]; exact h0⟩
  have sub : Same (Hid (hz hs p q1 q2) H) (Hid (hd hs own) H) := by
    rw [hdE]
    exact hid_more fun a z => z.elim .inl fun z => .inr (.inl z)
  have nh1 : ¬ hd hs own q1 := by
    rw [hdE]; rintro (z | z)
    · exact P.hh q1 z P.n1
    · exact P.ne1 z.symm
  have nh2 : ¬ hd hs own q2 := by
    rw [hdE]; rintro (z | z)
    · exact P.hh q2 z P.n2
    · exact P.ne2 z.symm
  have Bp : B p = none := (K.new 0 p h0).1
  have fr : Fr hs own own H0 H := fun x o e => by
    have h1 := hid_of e
    have nh : ¬ hd hs own x := fun z => by unfold Hid at e; rw [if_pos z] at e; cases e
    rw [hid_at nh]
    refine P.fr x o (fun z => nh ?_) h1
    rw [hdE]; exact .inr z
  refine ⟨{
    ex := fun x o e => P.fr x o (fun z => by rw [z, Bp] at e; cases e) (K.ex x o e)
    hsB := fun x h => P.hidden x (.inl h)
    dis := K.dis
    len := P.len
    inj := K.inj
    new := fun i a h => by obtain ⟨rfl, rfl⟩ := ho i a h; exact ⟨Bp, P.hidden a (.inr (.inl rfl))⟩
    out := fun i a h => by obtain ⟨rfl, rfl⟩ := ho i a h; exact ⟨_, rfl⟩
    ent := fun i e h => ?_ }, fr⟩
  match i, h with
  | 0, h =>
    cases h
    obtain ⟨dx, kvs, a, b⟩ := P.obj
    refine ⟨p, _, h0, P.s0, a, rfl, dx, kvs, rfl, ?_⟩
    have b2 := b.mono sub
    match kvs, b2 with
    | [(a1, v1), (a2, v2), (a3, v3), (a4, v4)], ⟨e1, r1, e2, r2, e3, r3, e4, r4, _⟩ =>
      have r3 : v3 = V.ref q1 := r3
      have r4 : v4 = V.ref q2 := r4
      obtain ⟨vs, l1, m1⟩ := P.l1
      obtain ⟨us, l2, m2⟩ := P.l2
      exact ⟨e1, r1, e2, r2, e3, ⟨q1, vs, r3, by rw [hid_at nh1]; exact l1, m1.mono sub⟩, e4, ⟨q2, us, r4, by rw [hid_at nh2]; exact l2, m2.mono sub⟩, trivial⟩
  | 1, h => cases h; trivial
  | 2, h => cases h; trivial
  | 3, h => cases h; trivial
  | 4, h => cases h; trivial
theorem hd_none {hs : Addr → Prop} : Rk.hd hs (fun _ => (none : Option Addr)) = hs := by
  funext a; apply propext; constructor
  · rintro (z | ⟨_, z⟩)
    · exact z
    · cases z
  · exact .inl
theorem PSt.kn (P : PSt G hs H0 p q1 q2 w c xs ys σ H) {B : Hp} (sB : Same B H) : Rk.Kn G (hz hs p q1 q2) B (fun _ => none) [.no, .sh (dv w), .sh (dv c), .no, .no] σ H where
  ex := sB
  hsB := P.hidden
  dis := fun _ _ h => nomatch h
  len := P.len
  inj := fun _ _ _ h => nomatch h
  new := fun _ _ h => nomatch h
  out := fun _ _ h => nomatch h
  ent := fun i e h => by
    match i, h with
    | 0, h => cases h; trivial
    | 1, h => cases h; obtain ⟨v, a, b⟩ := P.s1; exact ⟨v, a, by rw [hd_none]; exact b⟩
    | 2, h => cases h; obtain ⟨v, a, b⟩ := P.s2; exact ⟨v, a, by rw [hd_none]; exact b⟩
    | 3, h => cases h; trivial
    | 4, h => cases h; trivial
theorem PSt.same (P : PSt G hs H0 p q1 q2 w c xs ys σ H) {B : Hp} (sB : Same B H0) (hB : B p = none) : Same B H := fun x o e => P.fr x o (fun z => by rw [z, hB] at e; cases e) (sB x o e)
theorem PSt.attr1 (P : PSt G hs H0 p q1 q2 w c xs ys σ H) : ∃ dx kvs, H p = some (.ins (G.cls 2) dx kvs) ∧ kvs.lookup ("_costs" : Str) = some (V.ref q1) ∧ kvs.lookup ("_worst" : Str) = some (V.ref q2) := by
  obtain ⟨dx, kvs, a, b⟩ := P.obj
  obtain ⟨u1, e1, r1⟩ := b.get (f := "_costs") (d := dv (V.ref q1)) rfl
  obtain ⟨u2, e2, r2⟩ := b.get (f := "_worst") (d := dv (V.ref q2)) rfl
  have r1 : u1 = V.ref q1 := r1
  have r2 : u2 = V.ref q2 := r2
  subst r1; subst r2
  exact ⟨dx, kvs, a, e1, e2⟩
theorem costs_more {w : Wk} {c : Crs} {n j : Nat} : costsFrom w c n (j + 1) = costsFrom w c n j ++ [Tab w (costAt w c (n - 1 - j))] := by
  unfold costsFrom; rw [List.range_succ, List.map_append]; rfl
theorem worst_more {w : Wk} {c : Crs} {n j : Nat} : worstFrom w c n (j + 1) = worstFrom w c n j ++ [Tab w (worstAt w c (n - (j + 1)))] := by
  unfold worstFrom; rw [List.range_succ, List.map_append]; rfl
theorem worst_zero {w : Wk} {c : Crs} : worstFrom w c c.hours.length 0 = [Tab w fun _ _ _ => 0] := by
  unfold worstFrom worstAt
  show [Tab w (planW w (c.hours.drop (c.hours.length - 0)))] = _
  rw [Nat.sub_zero, List.drop_length]; rfl
theorem hdE {own : Nat → Option Addr} {hs : Addr → Prop} {p : Addr} (h0 : own 0 = some p) (ho : ∀ i a, own i = some a → i = 0 ∧ a = p) : Rk.hd hs own = fun x => hs x ∨ x = p := by
  funext x; apply propext; constructor
  · rintro (z | ⟨i, z⟩)
    · exact .inl z
    · exact .inr (ho i x z).2
  · rintro (z | z)
    · exact .inl z
    · exact .inr ⟨0, by rw [z]; exact h0⟩
theorem first_same {own : Nat → Option Addr} {hs : Addr → Prop} {p q1 : Addr} {H2 : Hp} {o : HO} (h0 : own 0 = some p) (ho : ∀ i a, own i = some a → i = 0 ∧ a = p) (nq1 : H2 q1 = none) :
    Same (Hid (Rk.hd hs own) H2) (Hid (fun x => hs x ∨ x = p ∨ x = q1) (upd (upd H2 q1 (.lst [])) p o)) := fun x u e => by
  have h1 := hid_of e
  have nh : ¬ Rk.hd hs own x := fun z => by unfold Hid at e; rw [if_pos z] at e; cases e
  rw [hdE h0 ho] at nh
  have n1 : x ≠ p := fun z => nh (.inr z)
  have n2 : x ≠ q1 := ne_of_none h1 nq1
  have nz : ¬ (hs x ∨ x = p ∨ x = q1) := fun z => by
    rcases z with z | z | z
    · exact nh (.inl z)
    · exact n1 z
    · exact n2 z
  rw [hid_at (hs := fun x => hs x ∨ x = p ∨ x = q1) nz, upd_ne n1, upd_ne n2]
  exact h1
theorem PSt.start {own : Nat → Option Addr} {B H2 H3 : Hp} {env : List Ent} {v1 v2 v3 : V} {dx : Addr} {kvs : List (Str × V)} {d : Dic (Bool × Int) (List Int)} (K : Rk.Kn G hs B own env σ H2) (h0 : own 0 = some p) (ho : ∀ i a, own i = some a → i = 0 ∧ a = p)
    (s0 : σ[0]? = some (some (.ref p))) (s1 : σ[1]? = some (some v1)) (r1 : (dv w).rep G (Hid (Rk.hd hs own) H2) v1) (s2 : σ[2]? = some (some v2)) (r2 : (dv c).rep G (Hid (Rk.hd hs own) H2) v2) (hl : σ.length = 5)
    (rf : RepF G (Hid (Rk.hd hs own) H2) kvs [("works", dv w), ("course", dv c)]) (g1 : H2 p = some (.ins (G.cls 2) dx kvs)) (nq1 : H2 q1 = none)
    (sm : Same (upd (upd H2 q1 (.lst [])) p (.ins (G.cls 2) dx (putF "_costs" (V.ref q1) kvs))) H3) (nq2 : H3 q2 = none) (r3 : (dv d).rep G (Hid (fun x => hs x ∨ x = p ∨ x = q1) H3) v3) :
    PSt G hs H2 p q1 q2 w c [] [d] σ (upd (upd H3 q2 (.lst [v3])) p (.ins (G.cls 2) dx (putF "_worst" (V.ref q2) (putF "_costs" (V.ref q1) kvs)))) := by
  have ne1 : p ≠ q1 := ne_of_none g1 nq1
  have e1 : H3 p = some (.ins (G.cls 2) dx (putF "_costs" (V.ref q1) kvs)) := sm _ _ upd_same
  have e2 : H3 q1 = some (.lst []) := sm _ _ (by rw [upd_ne (Ne.symm ne1), upd_same])
  have ne2 : p ≠ q2 := ne_of_none e1 nq2
  have ne3 : q1 ≠ q2 := ne_of_none e2 nq2
  have fr : ∀ x o, x ≠ p → H2 x = some o → H3 x = some o := fun x o n e => sm _ _ (by rw [upd_ne n, upd_ne (ne_of_none e nq1)]; exact e)
  have n2 : H2 q2 = none := by
    cases h : H2 q2 with
    | none => rfl
    | some o => rw [fr q2 o (Ne.symm ne2) h] at nq2; cases nq2
  have up : Same (Hid (Rk.hd hs own) H2) (Hid (hz hs p q1 q2) (upd (upd H3 q2 (.lst [v3])) p (.ins (G.cls 2) dx (putF "_worst" (V.ref q2) (putF "_costs" (V.ref q1) kvs))))) := fun x u e => by
    have h1 := hid_of e
    have nh : ¬ Rk.hd hs own x := fun z => by unfold Hid at e; rw [if_pos z] at e; cases e
    rw [hdE h0 ho] at nh
    have m1 : x ≠ p := fun z => nh (.inr z)
    have m2 : x ≠ q1 := ne_of_none h1 nq1
    have m3 : x ≠ q2 := ne_of_none h1 n2
    rw [hid_at (by
      rintro (z | z | z | z)
      · exact nh (.inl z)
      · exact m1 z
      · exact m2 z
      · exact m3 z), upd_ne m1, upd_ne m3]
    exact fr x u m1 h1
  have up3 : Same (Hid (fun x => hs x ∨ x = p ∨ x = q1) H3) (Hid (hz hs p q1 q2) (upd (upd H3 q2 (.lst [v3])) p (.ins (G.cls 2) dx (putF "_worst" (V.ref q2) (putF "_costs" (V.ref q1) kvs))))) := fun x u e => by
    have h1 := hid_of e
    have nh : ¬ (hs x ∨ x = p ∨ x = q1) := fun z => by
      rw [show Hid (fun x => hs x ∨ x = p ∨ x = q1) H3 x = none from by unfold Hid; rw [if_pos z]] at e; cases e
    have m1 : x ≠ p := fun z => nh (.inr (.inl z))
    have m2 : x ≠ q1 := fun z => nh (.inr (.inr z))
    have m3 : x ≠ q2 := ne_of_none h1 nq2
    rw [hid_at (by
      rintro (z | z | z | z)
      · exact nh (.inl z)
      · exact m1 z
      · exact m2 z
      · exact m3 z), upd_ne m1, upd_ne m3]
    exact h1
  exact {
    s0 := s0
    s1 := ⟨v1, s1, DV.mono up r1⟩
    s2 := ⟨v2, s2, DV.mono up r2⟩
    len := hl
    obj := by
      refine ⟨dx, _, upd_same, ?_⟩
      have rf2 := rf.mono up
      match kvs, rf2 with
      | [(a1, u1), (a2, u2)], ⟨e1, q1', e2, q2', _⟩ =>
        subst e1; subst e2
        exact ⟨rfl, q1', rfl, q2', rfl, rfl, rfl, rfl, trivial⟩
    l1 := ⟨[], by rw [upd_ne (Ne.symm ne1), upd_ne ne3]; exact e2, trivial⟩
    l2 := ⟨[v3], by rw [upd_ne (Ne.symm ne2), upd_same], DV.mono up3 r3, trivial⟩
    fr := fun x o n e => by rw [upd_ne n, upd_ne (ne_of_none e n2)]; exact fr x o n e
    n1 := nq1
    n2 := n2
    ne1 := ne1
    ne2 := ne2
    ne3 := ne3
    hp := K.dis 0 p h0
    hh := K.hsB }
end
end Sk
namespace Sk
open PySem L2 PyProof.Rows Rk
theorem putF_le (f : Str) (d : V) : ∀ fs : List (Str × V), (putF f d fs).length ≤ fs.length + 1
  | [] => Nat.le_refl _
  | (n, x) :: r => by
    show (if n = f then (n, d) :: r else (n, x) :: putF f d r).length ≤ _
    split
    · exact Nat.le_succ _
    · exact Nat.succ_le_succ (putF_le f d r)
def rgArg (st : Stmt) (k : Nat) : Expr := match (defBody st)[k]? with
  | some (.For _ (.Call _ (e :: _) _ _) _ _ _) => e
  | _ => .Constant .none 0 ⟨0, 0, 0, 0⟩
end Sk
set_option maxHeartbeats 4000000
namespace Sk
open PySem L2 PyProof.Rows Rk
def numH (c : Crs) (n : V) : Option Nat := match n with
  | .int i => if 0 ≤ i ∧ i < (c.hours.length : Int) then some i.toNat else none
  | _ => none
def worstR (w : Wk) (c : Crs) (n : V) (t : Tv) : Rz := match numC c n, mkSt w t with
  | some k, some s => .ok (dv (told (worstAt w c k s.shut s.since s.level)))
  | _, _ => .err 12
def keptR (w : Wk) (c : Crs) (n : V) (t : Tv) : Rz := match numC c n, mkSt w t with
  | some k, some s => .ok (dv (!(told (worstAt w c k s.shut s.since s.level)).isNone))
  | _, _ => .err 12
def keptL (w : Wk) (c : Crs) (k : Nat) (b : Bool) (s : Int) : List Int := (span 0 (w.wall + 1)).filter fun l => !decide (worstAt w c k b s l = 1000)
def levelsR (w : Wk) (c : Crs) (n b s : V) : Rz := match numC c n, mkSt w ⟨[.int 0, b, s]⟩ with
  | some k, some s => .ok (dv (keptL w c k s.shut s.since))
  | _, _ => .err 12
def blOf (v : V) : Bool := match v with
  | .bl b => b
  | _ => false
def costI (w : Wk) (c : Crs) (k : Nat) (s : Stt) (b : Bool) : Int := if lMay w s b = true then costAt w c k b (lSince w s b) s.level else 1000
def costIR (w : Wk) (c : Crs) (n : V) (t : Tv) (b : V) : Rz := match numH c n, mkSt w t with
  | some k, some s => .ok (dv (costI w c k s (blOf b)))
  | _, _ => .err 12
def costR (w : Wk) (c : Crs) (n : V) (t : Tv) (b : V) : Rz := match numH c n, mkSt w t with
  | some k, some s => .ok (dv (told (costI w c k s (blOf b))))
  | _, _ => .err 12
def actO (w : Wk) (c : Crs) (k : Nat) (s : Stt) : Option Bool := if min (costI w c k s false) (costI w c k s true) = 1000 then none else some (decide (costI w c k s true < costI w c k s false))
def actionR (w : Wk) (c : Crs) (n : V) (t : Tv) : Rz := match numH c n, mkSt w t with
  | some k, some s => .ok (dv (actO w c k s))
  | _, _ => .err 12
def downL (H : Int → Bool) : Nat → Int → Int
  | 0, x => x
  | n + 1, x => if H x = true then downL H n (x - 1) else x
def upL (H : Int → Bool) : Nat → Int → Int
  | 0, x => x
  | n + 1, x => if H x = true then upL H n (x + 1) else x
def holdsB (w : Wk) (c : Crs) (k : Nat) (b : Bool) (si x : Int) : Bool := goodL w (hAt0 c k) b x && !decide (worstAt w c (k + 1) b si x = 1000)
def beatL (w : Wk) (c : Crs) (k : Nat) (s : Stt) (b : Bool) : Int := downL (holdsB w c k b (lSince w s b)) ((spanL w (hAt0 c k) s.level b).2 - (spanL w (hAt0 c k) s.level b).1).toNat (spanL w (hAt0 c k) s.level b).2
def seaL (w : Wk) (h : Hr) (l : Int) (s : Bool) (x : Int) : Int := upL (fun a => decide (nextL w l s a h.rh < x)) (h.sh - h.sl).toNat h.sl
def leastP (w : Wk) (h : Hr) (l : Int) (s : Bool) (x : Int) : Int × Int := (seaL w h l s x, upL (fun a => decide (nextL w l s (seaL w h l s x) a < x)) (h.rh - h.rl).toNat h.rl)
def beatP (w : Wk) (c : Crs) (k : Nat) (s : Stt) (b : Bool) : Int × Int := leastP w (hAt0 c k) s.level b (beatL w c k s b)
def beatR (w : Wk) (c : Crs) (n : V) (t : Tv) (b : V) : Rz := match numH c n, mkSt w t with
  | some k, some s => if costI w c k s (blOf b) = 1000 then (if lMay w s (blOf b) = true then .ok (dv (Op.mk (some (beatP w c k s (blOf b))))) else .err 13) else .ok (dv (Op.mk (none : Option (Int × Int))))
  | _, _ => .err 12
theorem downL_stop {H : Int → Bool} {n : Nat} {x : Int} (h : H x = false) : downL H n x = x := by
  cases n with
  | zero => rfl
  | succ n => show (if H x = true then _ else x) = x; rw [h, if_neg Bool.false_ne_true]
theorem downL_go {H : Int → Bool} {n : Nat} {x : Int} (h : H x = true) : downL H (n + 1) x = downL H n (x - 1) := by
  show (if H x = true then _ else x) = _; rw [if_pos h]
theorem upL_stop {H : Int → Bool} {n : Nat} {x : Int} (h : H x = false) : upL H n x = x := by
  cases n with
  | zero => rfl
  | succ n => show (if H x = true then _ else x) = x; rw [h, if_neg Bool.false_ne_true]
theorem upL_go {H : Int → Bool} {n : Nat} {x : Int} (h : H x = true) : upL H (n + 1) x = upL H n (x + 1) := by
  show (if H x = true then _ else x) = _; rw [if_pos h]
theorem upL_is {H : Int → Bool} : ∀ (n : Nat) (x : Int), (∃ y, x ≤ y ∧ y ≤ x + n ∧ H y = false) → H (upL H n x) = false ∧ x ≤ upL H n x ∧ upL H n x ≤ x + n ∧ ∀ y, x ≤ y → y < upL H n x → H y = true
  | 0, x, ⟨y, h1, h2, h3⟩ => by
    have e : y = x := by omega
    subst e
    exact ⟨h3, Int.le_refl _, by simp [upL], fun z a b => absurd b (by show ¬ z < y; omega)⟩
  | n + 1, x, ⟨y, h1, h2, h3⟩ => by
    cases hx : H x with
    | false => rw [upL_stop hx]; exact ⟨hx, Int.le_refl _, by omega, fun z a b => by omega⟩
    | true =>
      rw [upL_go hx]
      have ne : y ≠ x := fun e => by rw [e, hx] at h3; cases h3
      obtain ⟨a, b, c, d⟩ := upL_is n (x + 1) ⟨y, by omega, by omega, h3⟩
      refine ⟨a, by omega, by omega, fun z z1 z2 => ?_⟩
      by_cases q : z = x
      · rw [q]; exact hx
      · exact d z (by omega) z2
theorem downL_is {H : Int → Bool} : ∀ (n : Nat) (x : Int), (∃ y, x - n ≤ y ∧ y ≤ x ∧ H y = false) → H (downL H n x) = false ∧ x - n ≤ downL H n x ∧ downL H n x ≤ x ∧ ∀ y, downL H n x < y → y ≤ x → H y = true
  | 0, x, ⟨y, h1, h2, h3⟩ => by
    have e : y = x := by omega
    subst e
    exact ⟨h3, by simp [downL], Int.le_refl _, fun z a b => absurd a (by show ¬ y < z; omega)⟩
  | n + 1, x, ⟨y, h1, h2, h3⟩ => by
    cases hx : H x with
    | false => rw [downL_stop hx]; exact ⟨hx, by omega, Int.le_refl _, fun z a b => by omega⟩
    | true =>
      rw [downL_go hx]
      have ne : y ≠ x := fun e => by rw [e, hx] at h3; cases h3
      obtain ⟨a, b, c, d⟩ := downL_is n (x - 1) ⟨y, by omega, by omega, h3⟩
      refine ⟨a, by omega, by omega, fun z z1 z2 => ?_⟩
      by_cases q : z = x
      · rw [q]; exact hx
      · exact d z z1 (by omega)
theorem wcase_bnd {g : Op (Int × Int)} {s : Bool} {row : List Int} {m : Int} (hm : 0 ≤ m) (hm2 : m < 999) (h : ∀ x ∈ row, x = 1000 ∨ 0 ≤ x ∧ x ≤ m) : wcase g s row = 1000 ∨ 0 ≤ wcase g s row ∧ wcase g s row ≤ m + 1 := by
  obtain ⟨o⟩ := g
  cases o with
  | none => exact .inl rfl
  | some p =>
    show bump s (lmax _) = 1000 ∨ 0 ≤ bump s (lmax _) ∧ bump s (lmax _) ≤ m + 1
    have key : ∀ xs : List Int, (∀ x ∈ xs, x ∈ row) → lmax xs = 1000 ∨ 0 ≤ lmax xs ∧ lmax xs ≤ m := fun xs hx => by
      cases xs with
      | nil => exact .inr ⟨Int.le_refl 0, hm⟩
      | cons y ys => exact h _ (hx _ (lmax_mem (by simp)))
    unfold bump
    rcases key ((row.drop p.1.toNat).take ((p.2 + 1).toNat - p.1.toNat)) (fun x q => List.mem_of_mem_drop (List.mem_of_mem_take q)) with e | e
    · rw [e]; exact .inl rfl
    · by_cases q : lmax ((row.drop p.1.toNat).take ((p.2 + 1).toNat - p.1.toNat)) = 1000
      · rw [if_pos q]; exact .inl rfl
      · rw [if_neg q]; split <;> omega
theorem plan_bnd (w : Wk) : ∀ hs : List Hr, hs.length ≤ 72 → ∀ b k l, planW w hs b k l = 1000 ∨ 0 ≤ planW w hs b k l ∧ planW w hs b k l ≤ (hs.length : Int)
  | [], _, _, _, _ => .inr ⟨Int.le_refl 0, Int.le_refl 0⟩
  | h :: hs, hl, b, k, l => by
    rw [List.length_cons] at hl
    have ih := plan_bnd w hs (by omega)
    show lmin ((actsL w ⟨0, b, k⟩).map fun p => costF w h (planW w hs) p.1 p.2 l) = 1000 ∨ _
    have hne : ((actsL w ⟨0, b, k⟩).map fun p => costF w h (planW w hs) p.1 p.2 l) ≠ [] := by
      rcases acts_two (w := w) (s := ⟨0, b, k⟩) with ⟨p, e⟩ | ⟨p, q, e⟩ <;> rw [e] <;> exact nofun
    obtain ⟨p, _, e⟩ := List.mem_map.mp (lmin_mem hne)
    show lmin ((actsL w ⟨0, b, k⟩).map fun p => costF w h (planW w hs) p.1 p.2 l) = 1000 ∨ 0 ≤ lmin ((actsL w ⟨0, b, k⟩).map fun p => costF w h (planW w hs) p.1 p.2 l) ∧ lmin ((actsL w ⟨0, b, k⟩).map fun p => costF w h (planW w hs) p.1 p.2 l) ≤ ((hs.length + 1 : Nat) : Int)
    rw [← e]
    have z := wcase_bnd (g := gsp w h p.1 l) (s := p.1) (row := (span 0 (w.wall + 1)).map (planW w hs p.1 p.2)) (m := (hs.length : Int)) (by omega) (by omega) (fun x hx => by
      obtain ⟨y, _, rfl⟩ := List.mem_map.mp hx
      exact ih p.1 p.2 y)
    unfold costF
    rcases z with z | z
    · exact .inl z
    · exact .inr ⟨z.1, by rw [Int.natCast_add]; exact z.2⟩
theorem worst_bnd {w : Wk} {c : Crs} (hc : c.Ok) (k : Nat) (b : Bool) (s l : Int) : worstAt w c k b s l = 1000 ∨ 0 ≤ worstAt w c k b s l ∧ worstAt w c k b s l ≤ 72 := by
  have h1 := hc.2.1
  have hl : (c.hours.drop k).length ≤ 72 := by rw [List.length_drop]; omega
  unfold worstAt
  rcases plan_bnd w (c.hours.drop k) hl b s l with z | z
  · exact .inl z
  · exact .inr ⟨z.1, by omega⟩
theorem row_cut {w : Wk} {f : Int → Int} {a b : Int} (h0 : 0 ≤ a) (h1 : a ≤ b) (h2 : b ≤ w.wall) : (((span 0 (w.wall + 1)).map f).drop a.toNat).take ((b + 1).toNat - a.toNat) = (span a (b + 1)).map f := by
  rw [← List.map_drop, ← List.map_take]
  congr 1
  apply List.ext_getElem?
  intro i
  rw [List.getElem?_take]
  by_cases hi : i < (b + 1).toNat - a.toNat
  · rw [if_pos hi, List.getElem?_drop, span_get (by omega), span_get (by omega)]
    congr 1; omega
  · rw [if_neg hi, List.getElem?_eq_none_iff.mpr (by rw [span_len]; omega)]
theorem costF_eq {w : Wk} {h : Hr} {f : Bool → Int → Int → Int} {s : Bool} {k l : Int} (hw : w.Ok) (hh : h.Ok) (h0 : 0 ≤ l) : costF w h f s k l = if (goodL w h s (spanL w h l s).1 && goodL w h s (spanL w h l s).2) = true then bump s (lmax ((span (spanL w h l s).1 ((spanL w h l s).2 + 1)).map (f s k))) else 1000 := by
  unfold costF
  by_cases g : (goodL w h s (spanL w h l s).1 && goodL w h s (spanL w h l s).2) = true
  · rw [if_pos g]
    have e : gsp w h s l = ⟨some (spanL w h l s)⟩ := by unfold gsp; rw [if_pos g]
    obtain ⟨_, a, b, c⟩ := gsp_some (p := spanL w h l s) hw hh h0 (by rw [e])
    rw [e, wcase_some (p := spanL w h l s) rfl, row_cut a b c]
  · rw [if_neg g]
    have e : gsp w h s l = ⟨none⟩ := by unfold gsp; rw [if_neg g]
    rw [e]; rfl
theorem hAt0_ok {c : Crs} (hc : c.Ok) {k : Nat} (h : k < c.hours.length) : (hAt0 c k).Ok ∧ c.hours[k]? = some (hAt0 c k) := by
  unfold hAt0
  rw [List.getElem?_eq_getElem h]
  exact ⟨hc.2.2 _ (List.getElem_mem h), rfl⟩
theorem not_all {w : Wk} {c : Crs} {k : Nat} {s : Stt} {b : Bool} (hw : w.Ok) (hc : c.Ok) (hk : k < c.hours.length) (ok : s.Ok w) (hm : lMay w s b = true) (h : costI w c k s b = 1000) :
    ∃ y, (spanL w (hAt0 c k) s.level b).1 ≤ y ∧ y ≤ (spanL w (hAt0 c k) s.level b).2 ∧ holdsB w c k b (lSince w s b) y = false := by
  unfold costI at h
  rw [if_pos hm] at h
  obtain ⟨hh, _⟩ := hAt0_ok hc hk
  have le := spanL_le (w := w) (h := hAt0 c k) (by unfold Wk.Ok at hw; omega) hh s.level b
  unfold costAt at h
  rw [costF_eq hw hh ok.1.1] at h
  split at h
  · rename_i g
    have hne : ((span (spanL w (hAt0 c k) s.level b).1 ((spanL w (hAt0 c k) s.level b).2 + 1)).map (planW w (c.hours.drop (k + 1)) b (lSince w s b))) ≠ [] := by
      intro z; have := congrArg List.length z; rw [List.length_map, span_len] at this; simp only [List.length_nil] at this; omega
    obtain ⟨y, hy, ey⟩ := List.mem_map.mp (lmax_mem hne)
    have hb := worst_bnd (w := w) hc (k + 1) b (lSince w s b) y
    unfold worstAt at hb
    rw [ey] at hb
    have e1000 : lmax ((span (spanL w (hAt0 c k) s.level b).1 ((spanL w (hAt0 c k) s.level b).2 + 1)).map (planW w (c.hours.drop (k + 1)) b (lSince w s b))) = 1000 := by
      unfold bump at h
      split at h
      · assumption
      · split at h <;> omega
    have my := mem_span.mp hy
    refine ⟨y, my.1, by omega, ?_⟩
    unfold holdsB worstAt
    rw [ey, e1000]; simp
  · rename_i g
    have g := Bool.eq_false_iff.mpr g
    rw [Bool.and_eq_false_iff] at g
    rcases g with g | g
    · exact ⟨_, Int.le_refl _, le, by unfold holdsB; rw [g]; rfl⟩
    · exact ⟨_, le, Int.le_refl _, by unfold holdsB; rw [g]; rfl⟩
end Sk
namespace Sk
open PySem L2 PyProof.Rows Rk
theorem kept_enum {f : Int → Int} {n : Int} (hn : 0 ≤ n) : ((enumL ((span 0 n).map f)).filter fun x => !decide (x.2 = 1000)).map (fun x => x.1) = (span 0 n).filter fun l => !decide (f l = 1000) := by
  have e : enumL ((span 0 n).map f) = (span 0 n).map fun l => (l, f l) := by
    apply List.ext_getElem?
    intro i
    rw [enumL_get, List.getElem?_map, List.getElem?_map]
    by_cases hi : i < n.toNat
    · rw [span_get (by omega)]; simp
    · rw [List.getElem?_eq_none_iff.mpr (by rw [span_len]; omega)]; rfl
  rw [e, List.filter_map, List.map_map]
  exact List.map_id _
end Sk
namespace Sk
open PySem L2 PyProof.Rows Rk
section
variable {w : Wk} {c : Crs} {n : V} {t : Tv} {k : Nat} {s : Stt} {a b : Bool}
theorem costI_yes (h : lMay w s b = true) : costI w c k s b = costAt w c k b (lSince w s b) s.level := if_pos h
theorem keptR_ok (hk : numC c n = some k) (hs : mkSt w t = some s) : keptR w c n t = .ok (dv (!(told (worstAt w c k s.shut s.since s.level)).isNone)) := by unfold keptR; rw [hk, hs]
end
end Sk
set_option maxHeartbeats 4000000
namespace Sk
open PySem L2 PyProof.Rows Rk
instance : Ky Stt := ⟨fun s => .t [s.level, b2 s.shut, s.since], .inr ⟨_, fun _ => rfl⟩, fun {a b} h => by
    injection h with h
    injection h with h1 h2
    injection h2 with h2 h3
    injection h3 with h3 _
    cases a; cases b
    simp only at h1 h2 h3
    rw [h1, b2_inj h2, h3], fun {G H v k} ⟨p, vs, e1, e2, e3⟩ => by
    match vs, e3 with
    | [x, y, z], e3 =>
      have h1 : x = V.int k.level := e3.1
      have h2 : y = V.bl k.shut := e3.2.1
      have h3 : z = V.int k.since := e3.2.2.1
      exact ⟨p, _, e1, e2, by rw [h1, h2, h3]; rfl⟩⟩
def LTab (w : Wk) (f : Stt → Option Int) : Dic Stt (Option Int) := ⟨(statesOf w).map fun s => (s, f s)⟩
def actF (g : Int → Bool) (f : Int → Option Int) : List Int → Int → Option Int
  | [], m => some m
  | x :: xs, m => if g x = true then (match f x with
    | none => none
    | some c => actF g f xs (max m c)) else none
def lawA (w : Wk) (h : Hr) (f : Stt → Option Int) (s : Stt) (b : Bool) : Option Int :=
  if lMay w s b = true then (actF (goodL w h b) (fun l => f ⟨l, b, lSince w s b⟩) (levelsOf w h s.level b) 0).map (· + b2 b) else none
theorem actF_bad {g : Int → Bool} {f : Int → Option Int} {x : Int} {xs : List Int} {m : Int} (h : g x = false) : actF g f (x :: xs) m = none := by
  show (if g x = true then _ else none) = none; rw [h, if_neg Bool.false_ne_true]
theorem actF_non {g : Int → Bool} {f : Int → Option Int} {x : Int} {xs : List Int} {m : Int} (h : f x = none) : actF g f (x :: xs) m = none := by
  show (if g x = true then (match f x with | none => none | some c => actF g f xs (max m c)) else none) = none
  rw [h]; split <;> rfl
theorem actF_go {g : Int → Bool} {f : Int → Option Int} {x c : Int} {xs : List Int} {m : Int} (h : g x = true) (e : f x = some c) : actF g f (x :: xs) m = actF g f xs (max m c) := by
  show (if g x = true then (match f x with | none => none | some c => actF g f xs (max m c)) else none) = _
  rw [if_pos h, e]
theorem actF_none {g : Int → Bool} {f : Int → Option Int} : ∀ {xs : List Int} {m : Int}, actF g f xs m = none → ∃ x ∈ xs, g x = false ∨ f x = none
  | [], m, h => by cases h
  | x :: xs, m, h => by
    cases hg : g x with
    | false => exact ⟨x, List.mem_cons_self, .inl hg⟩
    | true =>
      cases hf : f x with
      | none => exact ⟨x, List.mem_cons_self, .inr hf⟩
      | some c =>
        rw [actF_go hg hf] at h
        obtain ⟨y, hy, q⟩ := actF_none h
        exact ⟨y, List.mem_cons_of_mem _ hy, q⟩
theorem actF_some {g : Int → Bool} {f : Int → Option Int} : ∀ {xs : List Int} {m r : Int}, actF g f xs m = some r → (∀ x ∈ xs, g x = true ∧ ∃ c, f x = some c ∧ c ≤ r) ∧ m ≤ r ∧ (r = m ∨ ∃ x ∈ xs, f x = some r)
  | [], m, r, h => by
    have e : m = r := by simpa [actF] using h
    subst e
    exact ⟨fun x hx => (by cases hx), Int.le_refl _, .inl rfl⟩
  | x :: xs, m, r, h => by
    cases hg : g x with
    | false => rw [actF_bad hg] at h; cases h
    | true =>
      cases hf : f x with
      | none => rw [actF_non hf] at h; cases h
      | some c =>
        rw [actF_go hg hf] at h
        obtain ⟨a, b, d⟩ := actF_some h
        refine ⟨fun y hy => ?_, by omega, ?_⟩
        · rcases List.mem_cons.mp hy with rfl | hy
          · exact ⟨hg, c, hf, by omega⟩
          · exact a y hy
        · rcases d with d | ⟨y, hy, e⟩
          · by_cases q : m ≤ c
            · right; exact ⟨x, List.mem_cons_self, by rw [hf]; congr 1; omega⟩
            · left; omega
          · right; exact ⟨y, List.mem_cons_of_mem _ hy, e⟩
theorem good_mid {w : Wk} {h : Hr} {b : Bool} {lo hi x : Int} (g1 : goodL w h b lo = true) (g2 : goodL w h b hi = true) (h1 : lo ≤ x) (h2 : x ≤ hi) : goodL w h b x = true := by
  unfold goodL at g1 g2 ⊢
  simp only [Bool.and_eq_true, Bool.or_eq_true, decide_eq_true_eq, Bool.not_eq_true'] at g1 g2 ⊢
  refine ⟨by omega, ?_⟩
  rcases g1.2 with z | z
  · exact .inl z
  · exact .inr ⟨z.1, by omega⟩
theorem act_cost {w : Wk} {h : Hr} {F : Bool → Int → Int → Int} {f : Stt → Option Int} {b : Bool} {k l : Int} (hw : w.Ok) (hh : h.Ok) (h0 : 0 ≤ l) (hb : ∀ x, F b k x = 1000 ∨ 0 ≤ F b k x ∧ F b k x ≤ 900) (hf : ∀ x, 0 ≤ x → x ≤ w.wall → f ⟨x, b, k⟩ = told (F b k x)) :
    (actF (goodL w h b) (fun l => f ⟨l, b, k⟩) (levelsOf w h l b) 0).map (· + b2 b) = told (costF w h F b k l) := by
  have hw' := hw
  unfold Wk.Ok at hw'
  have hfl : 0 ≤ w.flow := by omega
  have mem := fun z => levels_span (w := w) (h := h) hfl hh (l := l) (s := b) (z := z)
  have le := spanL_le hfl hh l b
  rw [costF_eq hw hh h0]
  have pos : ∀ z, z ∈ levelsOf w h l b → 0 ≤ z := fun z hz => by
    have := (mem z).mp hz
    have p : 0 ≤ (spanL w h l b).1 := by unfold Hr.Ok at hh; exact next_pos hfl h0 (by omega) (by omega)
    omega
  have wall : ∀ z, goodL w h b z = true → z ≤ w.wall := fun z g => by unfold goodL at g; simp at g; exact g.1
  have tn : ∀ z, 0 ≤ z → z ≤ w.wall → (f ⟨z, b, k⟩ = none ↔ F b k z = 1000) := fun z z0 z1 => by
    rw [hf z z0 z1]; unfold told; split <;> simp_all
  cases ha : actF (goodL w h b) (fun l => f ⟨l, b, k⟩) (levelsOf w h l b) 0 with
  | none =>
    obtain ⟨x, hx, q⟩ := actF_none ha
    have mx := (mem x).mp hx
    show none = told _
    split
    · rename_i g
      rw [Bool.and_eq_true] at g
      have gx := good_mid g.1 g.2 mx.1 mx.2
      have fx : F b k x = 1000 := by
        rcases q with q | q
        · rw [gx] at q; cases q
        · exact (tn x (pos x hx) (wall x gx)).mp q
      have m2 : F b k x ∈ (span (spanL w h l b).1 ((spanL w h l b).2 + 1)).map (F b k) := List.mem_map.mpr ⟨x, mem_span.mpr ⟨mx.1, by omega⟩, rfl⟩
      have up := le_lmax m2
      obtain ⟨y, _, ey⟩ := List.mem_map.mp (lmax_mem (List.ne_nil_of_mem m2))
      have by_ := hb y
      rw [ey] at by_
      have e : lmax ((span (spanL w h l b).1 ((spanL w h l b).2 + 1)).map (F b k)) = 1000 := by omega
      rw [e]; rfl
    · rfl
  | some r =>
    obtain ⟨a1, a2, a3⟩ := actF_some ha
    have g1 := (a1 _ ((mem _).mpr ⟨Int.le_refl _, le⟩)).1
    have g2 := (a1 _ ((mem _).mpr ⟨le, Int.le_refl _⟩)).1
    rw [if_pos (by rw [g1, g2]; rfl)]
    have val : ∀ z, z ∈ levelsOf w h l b → F b k z ≠ 1000 ∧ F b k z ≤ r := fun z hz => by
      obtain ⟨gz, c, e, lc⟩ := a1 z hz
      have e2 := hf z (pos z hz) (wall z gz)
      rw [show f ⟨z, b, k⟩ = some c from e] at e2
      unfold told at e2
      split at e2
      · cases e2
      · injection e2 with e2; exact ⟨by assumption, by omega⟩
    have hne : (span (spanL w h l b).1 ((spanL w h l b).2 + 1)).map (F b k) ≠ [] := by
      intro z; have := congrArg List.length z; rw [List.length_map, span_len] at this; simp only [List.length_nil] at this; omega
    obtain ⟨y, hy, ey⟩ := List.mem_map.mp (lmax_mem hne)
    have my := mem_span.mp hy
    have vy := val y ((mem y).mpr ⟨my.1, by omega⟩)
    have by_ := hb y
    have e : lmax ((span (spanL w h l b).1 ((spanL w h l b).2 + 1)).map (F b k)) = r := by
      rw [← ey]
      refine Int.le_antisymm vy.2 ?_
      rcases a3 with a3 | ⟨x, hx, e⟩
      · rw [a3]; omega
      · have vx := val x hx
        obtain ⟨gx, _, _, _⟩ := a1 x hx
        have e2 := hf x (pos x hx) (wall x gx)
        rw [show f ⟨x, b, k⟩ = some r from e] at e2
        unfold told at e2
        rw [if_neg vx.1] at e2
        injection e2 with e2
        rw [e2, ey]
        have mx := (mem x).mp hx
        exact le_lmax (List.mem_map.mpr ⟨x, mem_span.mpr ⟨mx.1, by omega⟩, rfl⟩)
    rw [e]
    have r9 : r ≤ 900 := by rw [← e, ← ey]; omega
    show some (r + b2 b) = told (bump b r)
    unfold bump told
    rw [if_neg (by omega)]
    cases b
    · rw [if_neg Bool.false_ne_true, if_neg (by omega)]; show some (r + 0) = _; rw [Int.add_zero]
    · rw [if_pos rfl, if_neg (by omega)]; rfl
def optLt (c b : Option Int) : Bool := match c, b with
  | some x, some y => decide (x < y)
  | _, _ => false
def bestS (b c : Option Int) : Option Int := if (c.isSome && (b.isNone || optLt c b)) = true then c else b
def bestF (cs : List (Option Int)) : Option Int := cs.foldl bestS none
theorem best_two {x y : Int} (hx : x ≤ 1000) (hy : y ≤ 1000) : bestF [told x, told y] = told (min x y) := by
  show bestS (bestS none (told x)) (told y) = told (min x y)
  have e1 : bestS none (told x) = told x := by unfold bestS told; by_cases h : x = 1000 <;> simp [h]
  rw [e1]
  unfold bestS told optLt
  by_cases h1 : x = 1000
  · rw [if_pos h1, h1, Int.min_eq_right hy]
    by_cases h2 : y = 1000
    · rw [if_pos h2]; rfl
    · rw [if_neg h2]; rfl
  · rw [if_neg h1]
    by_cases h2 : y = 1000
    · rw [if_pos h2, h2, Int.min_eq_left hx, if_neg h1]; rfl
    · rw [if_neg h2]
      by_cases q : y < x
      · rw [Int.min_eq_right (by omega), if_neg h2]; simp [q]
      · rw [Int.min_eq_left (by omega), if_neg h1]; simp [q]
def lawT (w : Wk) : List Hr → Stt → Option Int
  | [] => fun _ => some 0
  | h :: hs => fun s => bestF [lawA w h (lawT w hs) s false, lawA w h (lawT w hs) s true]
theorem acts_min {w : Wk} {s : Stt} {g : Bool → Int} (h : s.Ok w) (hg : ∀ b, g b ≤ 1000) : lmin ((actsL w s).map fun p => g p.1) = min (if lMay w s false = true then g false else 1000) (if lMay w s true = true then g true else 1000) := by
  have key : ∀ b, b ∈ (actsL w s).map Prod.fst ↔ lMay w s b = true := fun b => acts_keys h
  have e : ((actsL w s).map fun p => g p.1) = ((actsL w s).map Prod.fst).map g := by rw [List.map_map]; rfl
  rw [e]
  have hne : ((actsL w s).map Prod.fst).map g ≠ [] := by
    rcases acts_two (w := w) (s := s) with ⟨p, q⟩ | ⟨p, q, r⟩
    · rw [q]; exact nofun
    · rw [r]; exact nofun
  refine (lmin_of (xs := ((actsL w s).map Prod.fst).map g) ?_ ?_).symm
  · have one : ∀ b, lMay w s b = true → g b ∈ ((actsL w s).map Prod.fst).map g := fun b hb => List.mem_map.mpr ⟨b, (key b).mpr hb, rfl⟩
    obtain ⟨b0, hb0⟩ : ∃ b, lMay w s b = true := by
      obtain ⟨z, hz⟩ := List.exists_mem_of_ne_nil _ hne
      obtain ⟨b, hb, _⟩ := List.mem_map.mp hz
      exact ⟨b, (key b).mp hb⟩
    have gf := hg false
    have gt := hg true
    by_cases h1 : lMay w s false = true
    · by_cases h2 : lMay w s true = true
      · rw [if_pos h1, if_pos h2]
        by_cases q : g false ≤ g true
        · rw [Int.min_eq_left q]; exact one _ h1
        · rw [Int.min_eq_right (by omega)]; exact one _ h2
      · rw [if_pos h1, if_neg h2, Int.min_eq_left gf]; exact one _ h1
    · rw [if_neg h1]
      have h2 : lMay w s true = true := by cases b0 with
        | false => exact absurd hb0 h1
        | true => exact hb0
      rw [if_pos h2, Int.min_eq_right gt]; exact one _ h2
  · intro z hz
    obtain ⟨b, hb, rfl⟩ := List.mem_map.mp hz
    have hb := (key b).mp hb
    cases b
    · rw [if_pos hb]; exact Int.min_le_left _ _
    · rw [if_pos hb]; exact Int.min_le_right _ _
theorem costF_bnd {w : Wk} {h : Hr} {hs : List Hr} (hl : hs.length ≤ 72) (b : Bool) (k l : Int) : costF w h (planW w hs) b k l = 1000 ∨ 0 ≤ costF w h (planW w hs) b k l ∧ costF w h (planW w hs) b k l ≤ 73 := by
  have z := wcase_bnd (g := gsp w h b l) (s := b) (row := (span 0 (w.wall + 1)).map (planW w hs b k)) (m := 72) (by decide) (by decide) (fun x hx => by
    obtain ⟨y, _, rfl⟩ := List.mem_map.mp hx
    rcases plan_bnd w hs hl b k y with q | q
    · exact .inl q
    · exact .inr ⟨q.1, by omega⟩)
  exact z
theorem lawT_plan {w : Wk} (hw : w.Ok) : ∀ {hs : List Hr}, hs.length ≤ 72 → (∀ h ∈ hs, h.Ok) → ∀ {s : Stt}, s.Ok w → lawT w hs s = told (planW w hs s.shut s.since s.level)
  | [], _, _, _, _ => rfl
  | h :: hs, hl, hh, s, ok => by
    rw [List.length_cons] at hl
    have ih := fun {s : Stt} (q : s.Ok w) => lawT_plan hw (hs := hs) (by omega) (fun x hx => hh x (List.mem_cons_of_mem _ hx)) q
    have cost : ∀ b, lawA w h (lawT w hs) s b = told (if lMay w s b = true then costF w h (planW w hs) b (lSince w s b) s.level else 1000) := fun b => by
      unfold lawA
      by_cases m : lMay w s b = true
      · rw [if_pos m, if_pos m]
        refine act_cost hw (hh h List.mem_cons_self) ok.1.1 (fun x => ?_) fun x x0 x1 => ?_
        · rcases plan_bnd w hs (by omega) b (lSince w s b) x with q | q
          · exact .inl q
          · exact .inr ⟨q.1, by omega⟩
        · exact ih (s := ⟨x, b, lSince w s b⟩) ⟨⟨x0, x1⟩, lSince_ok hw ok b⟩
      · rw [if_neg m, if_neg m]; rfl
    have cb : ∀ b, (if lMay w s b = true then costF w h (planW w hs) b (lSince w s b) s.level else 1000) ≤ 1000 := fun b => by
      split
      · rcases costF_bnd (w := w) (h := h) (hs := hs) (by omega) b (lSince w s b) s.level with q | q <;> omega
      · exact Int.le_refl _
    show bestF [lawA w h (lawT w hs) s false, lawA w h (lawT w hs) s true] = told (worstF w (costF w h (planW w hs)) s.shut s.since s.level)
    rw [cost, cost, best_two (cb false) (cb true)]
    congr 1
    unfold worstF
    have ok0 : (Stt.mk 0 s.shut s.since).Ok w := ⟨⟨Int.le_refl 0, by unfold Wk.Ok at hw; show (0 : Int) ≤ w.wall; omega⟩, ok.2⟩
    have lm : ∀ b, lMay w ⟨0, s.shut, s.since⟩ b = lMay w s b := fun _ => rfl
    have ls : ∀ b, lSince w ⟨0, s.shut, s.since⟩ b = lSince w s b := fun _ => rfl
    have e : ((actsL w ⟨0, s.shut, s.since⟩).map fun p => costF w h (planW w hs) p.1 p.2 s.level) = ((actsL w ⟨0, s.shut, s.since⟩).map fun p => costF w h (planW w hs) p.1 (lSince w s p.1) s.level) := by
      refine List.map_congr_left fun p hp => ?_
      obtain ⟨b, k⟩ := p
      have := ((mem_acts ok0).mp hp).2
      rw [this]; rfl
    rw [e, acts_min (g := fun b => costF w h (planW w hs) b (lSince w s b) s.level) ok0 (fun b => by
      rcases costF_bnd (w := w) (h := h) (hs := hs) (by omega) b (lSince w s b) s.level with q | q <;> omega)]
    rw [lm, lm]
end Sk
set_option maxHeartbeats 4000000
namespace Sk
open PySem L2 PyProof.Rows Rk
theorem drop_at {α : Type} {xs : List α} {i : Nat} {x : α} (h : xs[i]? = some x) : xs.drop i = x :: xs.drop (i + 1) := by
  obtain ⟨hl, e⟩ := List.getElem?_eq_some_iff.mp h
  rw [← e]; exact List.drop_eq_getElem_cons hl
theorem take_at {α : Type} {xs : List α} {i : Nat} {x : α} (h : xs[i]? = some x) : xs.take (i + 1) = xs.take i ++ [x] := by
  rw [List.take_add_one, h]; rfl
def lawTabs (w : Wk) : List Hr → List (Dic Stt (Option Int))
  | [] => [LTab w (lawT w [])]
  | h :: hs => LTab w (lawT w (h :: hs)) :: lawTabs w hs
def tabsM (w : Wk) (hs : List Hr) (i : Nat) : List (Dic Stt (Option Int)) := lawTabs w (hs.drop (hs.length - i))
theorem lawTabs_first {w : Wk} : ∀ {hs : List Hr}, (lawTabs w hs)[0]? = some (LTab w (lawT w hs))
  | [] => rfl
  | _ :: _ => rfl
theorem lawTabs_len {w : Wk} : ∀ {hs : List Hr}, (lawTabs w hs).length = hs.length + 1
  | [] => rfl
  | _ :: hs => congrArg (· + 1) (lawTabs_len (hs := hs))
theorem tabs_at {w : Wk} : ∀ {hs : List Hr} {k : Nat}, k ≤ hs.length → (lawTabs w hs)[k]? = some (LTab w (lawT w (hs.drop k)))
  | hs, 0, _ => lawTabs_first
  | h :: hs, k + 1, e => by
    have e : k ≤ hs.length := by simpa using e
    exact tabs_at (hs := hs) e
  | [], _ + 1, e => by simp at e
def optLe (x y : Option Int) : Bool := match x, y with
  | some a, some b => decide (a ≤ b)
  | _, _ => false
def dueO (x y : Option Int) : Option Bool := if (!Nn.isN x && (Nn.isN y || optLe x y)) = true then some false else if (!Nn.isN y) = true then some true else none
theorem due1 {x y : Option Int} (h : (!Nn.isN x && (Nn.isN y || optLe x y)) = true) : dueO x y = some false := if_pos h
theorem due2 {x y : Option Int} (h : (!Nn.isN x && (Nn.isN y || optLe x y)) = false) (h2 : (!Nn.isN y) = true) : dueO x y = some true := by
  unfold dueO; rw [if_neg (by rw [h]; decide), if_pos h2]
theorem costI_le {w : Wk} {c : Crs} {k : Nat} {s : Stt} {b : Bool} (hc : c.Ok) : costI w c k s b ≤ 1000 := by
  unfold costI
  split
  · unfold costAt
    have hl : (c.hours.drop (k + 1)).length ≤ 72 := by rw [List.length_drop]; have := hc.2.1; omega
    rcases costF_bnd (w := w) (h := hAt0 c k) hl b (lSince w s b) s.level with z | z <;> omega
  · exact Int.le_refl _
theorem isN_told {i : Int} : Nn.isN (told i) = decide (i = 1000) := by
  unfold told
  by_cases h : i = 1000
  · rw [if_pos h, decide_eq_true h]; rfl
  · rw [if_neg h, decide_eq_false h]; rfl
theorem levelsR_ok {w : Wk} {c : Crs} {k : Nat} {b : Bool} {s : Int} (hw : w.Ok) (hk : k ≤ c.hours.length) (h1 : 1 ≤ s) (h2 : s ≤ w.rest) : levelsR w c (.int k) (.bl b) (.int s) = .ok (dv (keptL w c k b s)) := by
  have e : mkSt w ⟨[.int 0, .bl b, .int s]⟩ = some ⟨0, b, s⟩ := mkSt_ok (s := ⟨0, b, s⟩) ⟨⟨Int.le_refl 0, by unfold Wk.Ok at hw; show (0 : Int) ≤ w.wall; omega⟩, h1, h2⟩
  unfold levelsR; rw [numC_ok hk, e]
end Sk
set_option maxHeartbeats 4000000
namespace Sk
open PySem L2 PyProof.Rows Rk
section
variable {w : Wk} {c : Crs} {k : Nat} {s : Stt} {b : Bool}
theorem worst_min (hw : w.Ok) (hc : c.Ok) (hk : k < c.hours.length) (ok : s.Ok w) : worstAt w c k s.shut s.since s.level = min (costI w c k s false) (costI w c k s true) := by
  rw [worst_step hk]
  unfold worstF
  have ok0 : (Stt.mk 0 s.shut s.since).Ok w := ⟨⟨Int.le_refl 0, by unfold Wk.Ok at hw; show (0 : Int) ≤ w.wall; omega⟩, ok.2⟩
  have lm : ∀ b, lMay w ⟨0, s.shut, s.since⟩ b = lMay w s b := fun _ => rfl
  have hl : (c.hours.drop (k + 1)).length ≤ 72 := by rw [List.length_drop]; have := hc.2.1; omega
  have e : ((actsL w ⟨0, s.shut, s.since⟩).map fun p => costAt w c k p.1 p.2 s.level) = ((actsL w ⟨0, s.shut, s.since⟩).map fun p => costAt w c k p.1 (lSince w s p.1) s.level) := by
    refine List.map_congr_left fun p hp => ?_
    obtain ⟨b, j⟩ := p
    have := ((mem_acts ok0).mp hp).2
    rw [this]; rfl
  rw [e, acts_min (g := fun b => costAt w c k b (lSince w s b) s.level) ok0 (fun b => by
    show costF w (hAt0 c k) (planW w (c.hours.drop (k + 1))) b (lSince w s b) s.level ≤ 1000
    rcases costF_bnd (w := w) (h := hAt0 c k) hl b (lSince w s b) s.level with q | q <;> omega)]
  rw [lm, lm]; rfl
theorem costI_may (h : costI w c k s b ≠ 1000) : lMay w s b = true := by
  unfold costI at h
  by_cases m : lMay w s b = true
  · exact m
  · rw [if_neg m] at h; exact absurd rfl h
theorem act_kept (hw : w.Ok) (hc : c.Ok) (hk : k < c.hours.length) (ok : s.Ok w) (h : worstAt w c k s.shut s.since s.level ≠ 1000) :
    ∃ b, actO w c k s = some b ∧ lMay w s b = true ∧ costI w c k s b = worstAt w c k s.shut s.since s.level ∧ costI w c k s b ≠ 1000 := by
  have e := worst_min hw hc hk ok
  have h2 := h
  rw [e] at h2
  unfold actO
  rw [if_neg h2]
  refine ⟨_, rfl, ?_⟩
  by_cases q : costI w c k s true < costI w c k s false
  · rw [decide_eq_true q]
    have e2 : costI w c k s true = worstAt w c k s.shut s.since s.level := by rw [e]; omega
    exact ⟨costI_may (by rw [e2]; exact h), e2, by rw [e2]; exact h⟩
  · rw [decide_eq_false q]
    have e2 : costI w c k s false = worstAt w c k s.shut s.since s.level := by rw [e]; omega
    exact ⟨costI_may (by rw [e2]; exact h), e2, by rw [e2]; exact h⟩
theorem act_lost (hw : w.Ok) (hc : c.Ok) (hk : k < c.hours.length) (ok : s.Ok w) (h : worstAt w c k s.shut s.since s.level = 1000) (b : Bool) : costI w c k s b = 1000 := by
  rw [worst_min hw hc hk ok] at h
  have l1 := costI_le (w := w) (k := k) (s := s) (b := false) hc
  have l2 := costI_le (w := w) (k := k) (s := s) (b := true) hc
  cases b <;> omega
theorem cost_step (hw : w.Ok) (hc : c.Ok) (hk : k < c.hours.length) (ok : s.Ok w) (h : costI w c k s b ≠ 1000) {y : Int} (h1 : (spanL w (hAt0 c k) s.level b).1 ≤ y) (h2 : y ≤ (spanL w (hAt0 c k) s.level b).2) :
    goodL w (hAt0 c k) b y = true ∧ worstAt w c (k + 1) b (lSince w s b) y ≠ 1000 ∧ worstAt w c (k + 1) b (lSince w s b) y + b2 b ≤ costI w c k s b := by
  have m := costI_may h
  obtain ⟨hh, _⟩ := hAt0_ok hc hk
  rw [costI_yes m] at h ⊢
  unfold costAt at h ⊢
  rw [costF_eq hw hh ok.1.1] at h ⊢
  split at h
  · rename_i g
    rw [if_pos g]
    rw [Bool.and_eq_true] at g
    have mem : planW w (c.hours.drop (k + 1)) b (lSince w s b) y ∈ (span (spanL w (hAt0 c k) s.level b).1 ((spanL w (hAt0 c k) s.level b).2 + 1)).map (planW w (c.hours.drop (k + 1)) b (lSince w s b)) := List.mem_map.mpr ⟨y, mem_span.mpr ⟨h1, by omega⟩, rfl⟩
    have le := le_lmax mem
    obtain ⟨z, _, ez⟩ := List.mem_map.mp (lmax_mem (List.ne_nil_of_mem mem))
    have bz := worst_bnd (w := w) hc (k + 1) b (lSince w s b) z
    have by_ := worst_bnd (w := w) hc (k + 1) b (lSince w s b) y
    unfold worstAt at bz by_ ⊢
    rw [ez] at bz
    unfold bump at h ⊢
    split at h
    · exact absurd rfl h
    · rename_i ne
      rw [if_neg ne]
      refine ⟨good_mid g.1 g.2 h1 h2, by omega, ?_⟩
      cases b
      · rw [if_neg Bool.false_ne_true]; show _ + 0 ≤ _; omega
      · rw [if_pos rfl]; show _ + 1 ≤ _; omega
  · exact absurd rfl h
theorem worst_end (b : Bool) (i l : Int) : worstAt w c c.hours.length b i l = 0 := by unfold worstAt; rw [List.drop_length]; rfl
theorem good_ok {h : Hr} {y : Int} (hy : 0 ≤ y) (g : goodL w h b y = true) (hw : w.Ok) (ok : s.Ok w) : (Stt.mk y b (lSince w s b)).Ok w := by
  unfold goodL at g
  simp only [Bool.and_eq_true, decide_eq_true_eq] at g
  exact ⟨⟨hy, g.1⟩, lSince_ok hw ok b⟩
theorem next_pos' {h : Hr} {l sea river : Int} (hw : w.Ok) (hh : h.Ok) (hl : 0 ≤ l) (h1 : h.sl ≤ sea) (h2 : h.rl ≤ river) : 0 ≤ nextL w l b sea river := by
  unfold Hr.Ok at hh
  unfold Wk.Ok at hw
  exact next_pos (by omega) hl (by omega) (by omega)
end
end Sk
set_option maxHeartbeats 4000000
namespace Sk
open PySem L2 PyProof.Rows Rk
theorem lost_t {i : Int} : (!(!(told i).isNone)) = decide (i = 1000) := by
  rw [show (told i).isNone = Nn.isN (told i) from rfl, isN_told, Bool.not_not]
def lastIs (f : List (Int × Int)) (l : Int) : Bool := match f.getLast? with
  | some p => decide (p.2 = l)
  | none => false
def strS (f : List (Int × Int)) (l : Int) : List (Int × Int) := match f.getLast? with
  | some p => if p.2 = l then f.dropLast ++ [(p.1, l + 1)] else f ++ [(l, l + 1)]
  | none => f ++ [(l, l + 1)]
def stretch (ls : List Int) : List (Int × Int) := ls.foldl strS []
theorem strS_t {f : List (Int × Int)} {l : Int} {p : Int × Int} (h : f.getLast? = some p) (e : p.2 = l) : strS f l = f.dropLast ++ [(p.1, l + 1)] := by
  unfold strS; rw [h]; exact if_pos e
theorem strS_f {f : List (Int × Int)} {l : Int} (h : (!f.isEmpty && lastIs f l) = false) : strS f l = f ++ [(l, l + 1)] := by
  unfold strS
  cases e : f.getLast? with
  | none => rfl
  | some p =>
    simp only
    refine if_neg fun q => ?_
    unfold lastIs at h
    rw [e] at h
    have ne : f.isEmpty = false := by cases f with
      | nil => cases e
      | cons _ _ => rfl
    rw [ne] at h
    have h : (!false && decide (p.2 = l)) = false := h
    rw [decide_eq_true q] at h
    cases h
theorem strS_len (f : List (Int × Int)) (l : Int) : (strS f l).length ≤ f.length + 1 := by
  unfold strS
  split
  · split
    · rw [List.length_append, List.length_dropLast]; simp only [List.length_cons, List.length_nil]; omega
    · rw [List.length_append]; exact Nat.le_refl _
  · rw [List.length_append]; exact Nat.le_refl _
theorem foldl_grow {α β : Type} {g : List β → α → List β} (hg : ∀ f x, (g f x).length ≤ f.length + 1) : ∀ (xs : List α) (f : List β), (xs.foldl g f).length ≤ f.length + xs.length
  | [], f => Nat.le_refl _
  | x :: xs, f => by
    rw [List.foldl_cons, List.length_cons]
    have h1 := foldl_grow hg xs (g f x)
    have h2 := hg f x
    omega
theorem stretch_len (ls : List Int) : (stretch ls).length ≤ ls.length := by
  have := foldl_grow strS_len ls []
  unfold stretch
  simp only [List.length_nil] at this
  omega
theorem stretch_s {ls : List Int} {i : Nat} {l : Int} (h : ls[i]? = some l) : stretch (ls.take (i + 1)) = strS (stretch (ls.take i)) l := by
  unfold stretch; exact foldl_step h
structure Row where
  hour : Int
  shut : Bool
  since : Int
  sp : List (Int × Int)
  deriving DecidableEq
abbrev Row.ds (r : Row) : List DV := [dv r.hour, dv r.shut, dv r.since, dv r.sp]
instance : Rp Row := tpRp Row.ds
def hasSp (r : Row) : Bool := !r.sp.isEmpty
def keptRow (w : Wk) (c : Crs) (k : Nat) (g : Bool × Int) : Row := ⟨k, g.1, g.2, stretch (keptL w c k g.1 g.2)⟩
def lostL (w : Wk) (c : Crs) (k : Nat) (b : Bool) (s : Int) : List Int := (span 0 (w.wall + 1)).filter fun l => decide (worstAt w c k b s l = 1000)
def lostRow (w : Wk) (c : Crs) (k : Nat) (g : Bool × Int) : Row := ⟨k, g.1, g.2, stretch (lostL w c k g.1 g.2)⟩
def rowsTo (f : Nat → Bool × Int → Row) (w : Wk) (m : Nat) : List Row := (List.range m).flatMap fun k => (gatesL w).map (f k)
theorem rowsTo_s {f : Nat → Bool × Int → Row} {w : Wk} {m : Nat} : rowsTo f w (m + 1) = rowsTo f w m ++ (gatesL w).map (f m) := by
  unfold rowsTo; rw [List.range_succ, List.flatMap_append]; simp
theorem rowsTo_len {f : Nat → Bool × Int → Row} {w : Wk} (hw : w.Ok) : ∀ {m : Nat}, (rowsTo f w m).length ≤ m * 12
  | 0 => Nat.zero_le _
  | m + 1 => by
    have := rowsTo_len (f := f) hw (m := m)
    have := gates_len hw
    rw [rowsTo_s, List.length_append, List.length_map]
    omega
def keptP (w : Wk) (c : Crs) : List Row := (rowsTo (keptRow w c) w (c.hours.length + 1)).filter hasSp
def lostP (w : Wk) (c : Crs) : List Row := (rowsTo (lostRow w c) w c.hours.length).filter hasSp
theorem lostL_len {w : Wk} {c : Crs} {k : Nat} {b : Bool} {s : Int} (hw : w.Ok) : (lostL w c k b s).length ≤ 90000 := by
  unfold lostL
  refine Nat.le_trans (List.length_filter_le _ _) ?_
  rw [span_len]; unfold Wk.Ok at hw; omega
theorem keptL_len' {w : Wk} {c : Crs} {k : Nat} {b : Bool} {s : Int} (hw : w.Ok) : (keptL w c k b s).length ≤ 90000 := by
  unfold keptL
  refine Nat.le_trans (List.length_filter_le _ _) ?_
  rw [span_len]; unfold Wk.Ok at hw; omega
end Sk
set_option maxHeartbeats 4000000
namespace Sk
open PySem L2 PyProof.Rows Rk
def cov (sp : List (Int × Int)) (y : Int) : Bool := sp.any fun p => decide (p.1 ≤ y ∧ y < p.2)
theorem cov_is {sp : List (Int × Int)} {y : Int} : cov sp y = true ↔ ∃ p ∈ sp, p.1 ≤ y ∧ y < p.2 := by
  unfold cov; rw [List.any_eq_true]; simp only [decide_eq_true_eq]
def Wf (sp : List (Int × Int)) : Prop := ∀ p ∈ sp, p.1 < p.2
theorem strS_wf {f : List (Int × Int)} {l : Int} (h : Wf f) : Wf (strS f l) := by
  unfold strS
  have app : Wf (f ++ [(l, l + 1)]) := fun p hp => by
    rcases List.mem_append.mp hp with q | q
    · exact h p q
    · rw [List.mem_singleton.mp q]; show l < l + 1; omega
  split
  · rename_i p e
    split
    · rename_i q
      intro z hz
      rcases List.mem_append.mp hz with r | r
      · exact h z (List.dropLast_subset _ r)
      · rw [List.mem_singleton.mp r]
        have := h p (List.mem_of_getLast? e)
        show p.1 < l + 1; omega
    · exact app
  · exact app
theorem strS_cov {f : List (Int × Int)} {l y : Int} (h : Wf f) : cov (strS f l) y = true ↔ cov f y = true ∨ y = l := by
  have app : cov (f ++ [(l, l + 1)]) y = true ↔ cov f y = true ∨ y = l := by
    rw [cov_is, cov_is]
    constructor
    · rintro ⟨p, hp, a, b⟩
      rcases List.mem_append.mp hp with q | q
      · exact .inl ⟨p, q, a, b⟩
      · rw [List.mem_singleton.mp q] at a b
        right; show y = l; simp only at a b; omega
    · rintro (⟨p, hp, a⟩ | e)
      · exact ⟨p, List.mem_append_left _ hp, a⟩
      · exact ⟨(l, l + 1), List.mem_append_right _ List.mem_cons_self, by show l ≤ y; omega, by show y < l + 1; omega⟩
  unfold strS
  split
  · rename_i p e
    split
    · rename_i q
      have pm := List.mem_of_getLast? e
      have pw := h p pm
      have fe : f = f.dropLast ++ [p] := by
        have ne : f ≠ [] := by intro z; rw [z] at e; cases e
        rw [List.getLast?_eq_some_getLast ne] at e
        injection e with e
        have := List.dropLast_concat_getLast ne
        rw [e] at this; exact this.symm
      rw [cov_is, cov_is]
      constructor
      · rintro ⟨z, hz, a, b⟩
        rcases List.mem_append.mp hz with r | r
        · exact .inl ⟨z, List.dropLast_subset _ r, a, b⟩
        · rw [List.mem_singleton.mp r] at a b
          simp only at a b
          by_cases yl : y = l
          · exact .inr yl
          · exact .inl ⟨p, pm, a, by omega⟩
      · rintro (⟨z, hz, a, b⟩ | e2)
        · rw [fe] at hz
          rcases List.mem_append.mp hz with r | r
          · exact ⟨z, List.mem_append_left _ r, a, b⟩
          · rw [List.mem_singleton.mp r] at a b
            exact ⟨(p.1, l + 1), List.mem_append_right _ List.mem_cons_self, a, by show y < l + 1; omega⟩
        · exact ⟨(p.1, l + 1), List.mem_append_right _ List.mem_cons_self, by show p.1 ≤ y; omega, by show y < l + 1; omega⟩
    · exact app
  · exact app
theorem foldl_cov : ∀ {ls : List Int} {f : List (Int × Int)} {y : Int}, Wf f → (cov (ls.foldl strS f) y = true ↔ cov f y = true ∨ y ∈ ls) ∧ Wf (ls.foldl strS f)
  | [], f, y, h => ⟨by simp, h⟩
  | l :: ls, f, y, h => by
    obtain ⟨a, b⟩ := foldl_cov (ls := ls) (f := strS f l) (y := y) (strS_wf h)
    rw [List.foldl_cons]
    refine ⟨?_, b⟩
    rw [a, strS_cov h, List.mem_cons, or_assoc]
theorem stretch_cov {ls : List Int} {y : Int} : cov (stretch ls) y = true ↔ y ∈ ls := by
  unfold stretch
  rw [(foldl_cov (f := []) (fun p hp => by cases hp)).1]
  simp [cov]
def toldP (rows : List Row) (k : Nat) (b : Bool) (s l : Int) : Bool := rows.any fun r => decide (r.hour = (k : Int) ∧ r.shut = b ∧ r.since = s) && cov r.sp l
theorem toldP_is {rows : List Row} {k : Nat} {b : Bool} {s l : Int} : toldP rows k b s l = true ↔ ∃ r ∈ rows, (r.hour = (k : Int) ∧ r.shut = b ∧ r.since = s) ∧ cov r.sp l = true := by
  unfold toldP; rw [List.any_eq_true]; simp only [Bool.and_eq_true, decide_eq_true_eq]
def rowOk (w : Wk) (c : Crs) (r : Row) : Bool := decide (0 ≤ r.hour ∧ r.hour ≤ (c.hours.length : Int)) && decide (1 ≤ r.since ∧ r.since ≤ w.rest) && r.sp.all fun p => decide (0 ≤ p.1 ∧ p.1 ≤ w.wall) && decide (p.1 + 1 ≤ p.2 ∧ p.2 ≤ w.wall + 1)
theorem mem_rowsTo {f : Nat → Bool × Int → Row} {w : Wk} {m : Nat} {r : Row} : r ∈ rowsTo f w m ↔ ∃ k, k < m ∧ ∃ g ∈ gatesL w, r = f k g := by
  unfold rowsTo
  rw [List.mem_flatMap]
  constructor
  · rintro ⟨k, hk, hr⟩
    obtain ⟨g, hg, rfl⟩ := List.mem_map.mp hr
    exact ⟨k, List.mem_range.mp hk, g, hg, rfl⟩
  · rintro ⟨k, hk, g, hg, rfl⟩
    exact ⟨k, List.mem_range.mpr hk, List.mem_map.mpr ⟨g, hg, rfl⟩⟩
section
variable {w : Wk} {c : Crs}
theorem toldP_rows {f : Nat → Bool × Int → Row} {L : Nat → Bool → Int → List Int} (hf : ∀ k g, f k g = ⟨k, g.1, g.2, stretch (L k g.1 g.2)⟩) {m k : Nat} {b : Bool} {s l : Int} (hs : 1 ≤ s ∧ s ≤ w.rest) :
    toldP ((rowsTo f w m).filter hasSp) k b s l = true ↔ k < m ∧ l ∈ L k b s := by
  rw [toldP_is]
  constructor
  · rintro ⟨r, hr, ⟨e1, e2, e3⟩, cv⟩
    obtain ⟨k', hk, g, hg, rfl⟩ := mem_rowsTo.mp (List.mem_filter.mp hr).1
    rw [hf] at e1 e2 e3 cv
    simp only at e1 e2 e3 cv
    have ek : k' = k := by omega
    subst ek e2 e3
    exact ⟨hk, stretch_cov.mp cv⟩
  · rintro ⟨hk, hl⟩
    have cv := stretch_cov.mpr hl
    refine ⟨f k (b, s), List.mem_filter.mpr ⟨mem_rowsTo.mpr ⟨k, hk, (b, s), mem_gates.mpr hs, rfl⟩, ?_⟩, by rw [hf]; exact ⟨rfl, rfl, rfl⟩, by rw [hf]; exact cv⟩
    rw [hf]
    unfold hasSp
    obtain ⟨p, hp, _⟩ := cov_is.mp cv
    cases e : stretch (L k b s) with
    | nil => rw [e] at hp; cases hp
    | cons _ _ => rfl
theorem told_kept {k : Nat} {b : Bool} {s l : Int} (hs : 1 ≤ s ∧ s ≤ w.rest) : toldP (keptP w c) k b s l = true ↔ k ≤ c.hours.length ∧ (0 ≤ l ∧ l ≤ w.wall) ∧ worstAt w c k b s l ≠ 1000 := by
  unfold keptP
  rw [toldP_rows (f := keptRow w c) (L := fun k b s => keptL w c k b s) (fun _ _ => rfl) hs, Nat.lt_succ_iff]
  unfold keptL
  rw [List.mem_filter, mem_span]
  simp only [Bool.not_eq_true', decide_eq_false_iff_not, Int.lt_add_one_iff, ne_eq]
theorem told_lost {k : Nat} {b : Bool} {s l : Int} (hs : 1 ≤ s ∧ s ≤ w.rest) : toldP (lostP w c) k b s l = true ↔ k < c.hours.length ∧ (0 ≤ l ∧ l ≤ w.wall) ∧ worstAt w c k b s l = 1000 := by
  unfold lostP
  rw [toldP_rows (f := lostRow w c) (L := fun k b s => lostL w c k b s) (fun _ _ => rfl) hs]
  unfold lostL
  rw [List.mem_filter, mem_span]
  simp only [decide_eq_true_eq, Int.lt_add_one_iff]
def alwaysT (g : Op (Int × Int)) (f : Int → Bool) : Prop := ∃ p, g.o = some p ∧ ∀ y, p.1 ≤ y → y ≤ p.2 → f y = true
def mayB (g : Op (Int × Int)) (f : Int → Bool) : Prop := ∀ p, g.o = some p → ∃ y, p.1 ≤ y ∧ y ≤ p.2 ∧ f y = true
def ClosedK (w : Wk) (c : Crs) (T : Nat → Bool → Int → Int → Bool) : Prop := ∀ k, k < c.hours.length → ∀ s : Stt, s.Ok w → T k s.shut s.since s.level = true → ∃ a, lMay w s a = true ∧ alwaysT (gsp w (hAt0 c k) a s.level) (T (k + 1) a (lSince w s a))
def ClosedL (w : Wk) (c : Crs) (T : Nat → Bool → Int → Int → Bool) : Prop := (∀ s : Stt, s.Ok w → T c.hours.length s.shut s.since s.level = false) ∧ ∀ k, k < c.hours.length → ∀ s : Stt, s.Ok w → T k s.shut s.since s.level = true → ∀ a, lMay w s a = true → mayB (gsp w (hAt0 c k) a s.level) (T (k + 1) a (lSince w s a))
theorem worst_kept {k : Nat} {s : Stt} {a : Bool} (hw : w.Ok) (hc : c.Ok) (hk : k < c.hours.length) (ok : s.Ok w) (h : costI w c k s a ≠ 1000) : worstAt w c k s.shut s.since s.level ≠ 1000 := by
  rw [worst_min hw hc hk ok]
  have l1 := costI_le (w := w) (k := k) (s := s) (b := false) hc
  have l2 := costI_le (w := w) (k := k) (s := s) (b := true) hc
  cases a <;> omega
theorem gsp_is {h : Hr} {b : Bool} {l : Int} {p : Int × Int} (e : (gsp w h b l).o = some p) : p = spanL w h l b ∧ goodL w h b (spanL w h l b).1 = true ∧ goodL w h b (spanL w h l b).2 = true := by
  unfold gsp at e
  split at e
  · rename_i g
    rw [Bool.and_eq_true] at g
    injection e with e
    exact ⟨e.symm, g.1, g.2⟩
  · cases e
theorem gsp_good {h : Hr} {b : Bool} {l : Int} (g1 : goodL w h b (spanL w h l b).1 = true) (g2 : goodL w h b (spanL w h l b).2 = true) : (gsp w h b l).o = some (spanL w h l b) := by
  unfold gsp; rw [if_pos (by rw [g1, g2]; rfl)]
theorem soundK (hw : w.Ok) (hc : c.Ok) {T : Nat → Bool → Int → Int → Bool} (hT : ClosedK w c T) : ∀ (m k : Nat), k + m = c.hours.length → ∀ s : Stt, s.Ok w → T k s.shut s.since s.level = true → worstAt w c k s.shut s.since s.level ≠ 1000
  | 0, k, e, s, ok, _ => by
    have ek : k = c.hours.length := by omega
    rw [ek, worst_end]; decide
  | m + 1, k, e, s, ok, t => by
    have hk : k < c.hours.length := by omega
    obtain ⟨a, ma, p, ep, al⟩ := hT k hk s ok t
    obtain ⟨rfl, g1, g2⟩ := gsp_is ep
    have hh := (hAt0_ok hc hk).1
    refine worst_kept (a := a) hw hc hk ok fun z => ?_
    obtain ⟨y, y1, y2, y3⟩ := not_all hw hc hk ok ma z
    have gy := good_mid g1 g2 y1 y2
    have y0 : 0 ≤ y := by
      have := next_pos' (b := a) hw hh ok.1.1 (Int.le_refl _) (Int.le_refl _)
      unfold spanL at y1; simp only at y1; omega
    have so := good_ok (s := s) y0 gy hw ok
    have kp := soundK hw hc hT m (k + 1) (by omega) _ so (al y y1 y2)
    unfold holdsB at y3
    rw [gy, decide_eq_false kp] at y3
    cases y3
theorem soundL (hw : w.Ok) (hc : c.Ok) {T : Nat → Bool → Int → Int → Bool} (hT : ClosedL w c T) : ∀ (m k : Nat), k + m = c.hours.length → ∀ s : Stt, s.Ok w → T k s.shut s.since s.level = true → worstAt w c k s.shut s.since s.level = 1000
  | 0, k, e, s, ok, t => by
    have ek : k = c.hours.length := by omega
    rw [ek, hT.1 s ok] at t; cases t
  | m + 1, k, e, s, ok, t => by
    have hk : k < c.hours.length := by omega
    have hh := (hAt0_ok hc hk).1
    have one : ∀ a, costI w c k s a = 1000 := fun a => by
      refine Classical.byContradiction fun ne => ?_
      have ma := costI_may ne
      have le := spanL_le (w := w) (by unfold Wk.Ok at hw; omega) hh s.level a
      obtain ⟨g1, _, _⟩ := cost_step hw hc hk ok ne (Int.le_refl _) le
      obtain ⟨g2, _, _⟩ := cost_step hw hc hk ok ne le (Int.le_refl _)
      obtain ⟨y, y1, y2, y3⟩ := hT.2 k hk s ok t a ma _ (gsp_good g1 g2)
      obtain ⟨gy, ky, _⟩ := cost_step hw hc hk ok ne y1 y2
      have y0 : 0 ≤ y := by
        have := next_pos' (b := a) hw hh ok.1.1 (Int.le_refl _) (Int.le_refl _)
        unfold spanL at y1; simp only at y1; omega
      exact ky (soundL hw hc hT m (k + 1) (by omega) _ (good_ok (s := s) y0 gy hw ok) y3)
    rw [worst_min hw hc hk ok, one, one]; rfl
end
end Sk
set_option maxHeartbeats 4000000
namespace Sk
open PySem L2 PyProof.Rows Rk
abbrev kS (i : Int) (g : Bool × Int) : Stt := ⟨i, g.1, g.2⟩
abbrev keysT (w : Wk) (c : Crs) : List Stt := ksTo kS (gatesL w) (c.hours.length + 1)
theorem mem_ksTo {α κ : Type} {kf : Int → α → κ} {xs : List α} {m : Nat} {k : κ} : k ∈ ksTo kf xs m ↔ ∃ i : Nat, i < m ∧ ∃ x ∈ xs, k = kf i x := by
  unfold ksTo
  rw [List.mem_flatMap]
  constructor
  · rintro ⟨i, hi, h⟩
    obtain ⟨x, hx, rfl⟩ := List.mem_map.mp h
    exact ⟨i, List.mem_range.mp hi, x, hx, rfl⟩
  · rintro ⟨i, hi, x, hx, rfl⟩
    exact ⟨i, List.mem_range.mpr hi, List.mem_map.mpr ⟨x, hx, rfl⟩⟩
theorem ksTo_nd {w : Wk} : ∀ m : Nat, (ksTo kS (gatesL w) m).Nodup
  | 0 => List.nodup_nil
  | m + 1 => by
    rw [ksTo_s, List.nodup_append]
    refine ⟨ksTo_nd m, ?_, ?_⟩
    · refine List.Pairwise.map _ (fun a b n e => n ?_) (gates_nd w)
      obtain ⟨a1, a2⟩ := a; obtain ⟨b1, b2⟩ := b
      simp only [Stt.mk.injEq] at e
      exact Prod.ext e.2.1 e.2.2
    · rintro x hx y hy rfl
      obtain ⟨i, hi, g, hg, rfl⟩ := mem_ksTo.mp hx
      obtain ⟨g2, hg2, e⟩ := List.mem_map.mp hy
      simp only [Stt.mk.injEq] at e
      omega
theorem keysT_nd {w : Wk} {c : Crs} : (keysT w c).Nodup := ksTo_nd _
theorem ksTo_len {w : Wk} (hw : w.Ok) : ∀ m : Nat, (ksTo kS (gatesL w) m).length ≤ 12 * m
  | 0 => Nat.zero_le _
  | m + 1 => by rw [ksTo_s, List.length_append, List.length_map]; have := ksTo_len hw m; have := gates_len hw; omega
def rowAt (r : Row) (k : Stt) : Bool := decide (r.hour = k.level ∧ r.shut = k.shut ∧ r.since = k.since)
def tpI (rows : List Row) (k : Stt) (l : Int) : Bool := rows.any fun r => rowAt r k && cov r.sp l
theorem tpI_told {rows : List Row} {k : Nat} {b : Bool} {s l : Int} : tpI rows ⟨k, b, s⟩ l = toldP rows k b s l := rfl
theorem tpI_one {rows : List Row} {r : Row} {k : Stt} {l : Int} : tpI (rows ++ [r]) k l = (tpI rows k l || (rowAt r k && cov r.sp l)) := by
  unfold tpI; rw [List.any_append]; simp
def tpJ (rows : List Row) (r : Row) (sp : List (Int × Int)) (k : Stt) (l : Int) : Bool := tpI rows k l || (rowAt r k && cov sp l)
def partOk (w : Wk) (p : Int × Int) : Bool := decide (0 ≤ p.1 ∧ p.1 ≤ w.wall) && decide (p.1 + 1 ≤ p.2 ∧ p.2 ≤ w.wall + 1)
def headOk (w : Wk) (c : Crs) (r : Row) : Bool := decide (0 ≤ r.hour ∧ r.hour ≤ (c.hours.length : Int)) && decide (1 ≤ r.since ∧ r.since ≤ w.rest)
theorem rowOk_is {w : Wk} {c : Crs} {r : Row} : rowOk w c r = (headOk w c r && r.sp.all (partOk w)) := rfl
abbrev line (w : Wk) (f : Int → Bool) : List Bool := (span 0 (w.wall + 1)).map f
theorem of_bls {G : Gm} {H : Hp} : ∀ bs : List Bool, RepAll G H (bs.map V.bl) (dvs bs)
  | [] => trivial
  | _ :: bs => ⟨rfl, of_bls bs⟩
def Cells (as : List Addr) (ks : List Stt) (T : Stt → List Bool) (H : Hp) : Prop := ∀ (i : Nat) k a, ks[i]? = some k → as[i]? = some a → H a = some (.lst ((T k).map V.bl))
theorem Cells.mono {as : List Addr} {ks : List Stt} {T : Stt → List Bool} {H H' : Hp} (c : Cells as ks T H) (s : Same H H') : Cells as ks T H' := fun i k a h1 h2 => s _ _ (c i k a h1 h2)
theorem Cells.eq {as : List Addr} {ks : List Stt} {T T' : Stt → List Bool} {H : Hp} (c : Cells as ks T H) (e : ∀ k, T k = T' k) : Cells as ks T' H := fun i k a h1 h2 => by rw [← e k]; exact c i k a h1 h2
theorem Cells.put {as : List Addr} {ks : List Stt} {T T' : Stt → List Bool} {H H' : Hp} {i0 : Nat} {key : Stt} {l : Addr} (c : Cells as ks T H) (nda : as.Nodup) (ndk : ks.Nodup) (hk : ks[i0]? = some key) (hl : as[i0]? = some l)
    (s : Same (fun x => if x = l then none else H x) H') (h : H' l = some (.lst ((T' key).map V.bl))) (o : ∀ k, k ≠ key → T' k = T k) : Cells as ks T' H' := fun i k a h1 h2 => by
  by_cases q : i = i0
  · subst q
    rw [hk] at h1; rw [hl] at h2
    cases h1; cases h2; exact h
  · have ka : k ≠ key := fun z => q ((List.getElem?_inj (List.getElem?_eq_some_iff.mp h1).1 ndk).mp (by rw [h1, hk, z]))
    have na : a ≠ l := fun z => q ((List.getElem?_inj (List.getElem?_eq_some_iff.mp h2).1 nda).mp (by rw [h2, hl, z]))
    rw [o k ka]
    refine s a _ ?_
    show (if a = l then none else H a) = _
    rw [if_neg na]; exact c i k a h1 h2
def toldT (w : Wk) (c : Crs) (rows : List Row) : Dic Stt (List Bool) := ⟨(keysT w c).map fun k => (k, line w (tpI rows k))⟩
def toldO (w : Wk) (c : Crs) (rows : List Row) : Op (Dic Stt (List Bool)) := if rows.all (rowOk w c) = true then ⟨some (toldT w c rows)⟩ else ⟨none⟩
theorem Cells.whole {G : Gm} {hs : Addr → Prop} {as : List Addr} {w : Wk} {c : Crs} {rows : List Row} {H : Hp} {v : V} (hl : as.length = (keysT w c).length) (cl : Cells as (keysT w c) (fun k => line w (tpI rows k)) H) (nh : ∀ a ∈ as, ¬ hs a)
    (r : Rp.rep G (Hid (hd (fun x => hs x ∨ x ∈ as) no_) H) v (Dic.mk ((keysT w c).zip (as.map V.ref)) : Dic Stt V)) : Rp.rep G (Hid hs H) v (toldT w c rows) := by
  have sm : Same (Hid (hd (fun x => hs x ∨ x ∈ as) no_) H) (Hid hs H) := hid_more fun a z => .inl (.inl z)
  obtain ⟨p, o, es, e1, e2, e3, e4⟩ := r
  refine ⟨p, o, es, e1, sm _ _ e2, ?_, ?_⟩
  · have e3 : EnsRep G (Hid hs H) es ((keysT w c).zip (as.map V.ref)) := e3.mono sm
    have key : ∀ (ks : List Stt) (as : List Addr) (es : List En), as.length = ks.length → Cells as ks (fun k => line w (tpI rows k)) H → (∀ a ∈ as, ¬ hs a) → EnsRep G (Hid hs H) es (ks.zip (as.map V.ref)) → EnsRep G (Hid hs H) es (ks.map fun k => (k, line w (tpI rows k))) := by
      intro ks
      induction ks with
      | nil => intro as es _ _ _ e; rw [List.zip_nil_left] at e; rw [List.map_nil]; cases e; exact .nil
      | cons k ks ih =>
        intro as es hl cl nh e
        cases as with
        | nil => cases hl
        | cons a as =>
          rw [List.map_cons, List.zip_cons_cons] at e
          cases e with
          | cons h t =>
            refine .cons ⟨h.1, h.2.1, ?_⟩ (ih as _ (by simpa using hl) (fun i k2 a2 q1 q2 => cl (i + 1) k2 a2 (by simpa using q1) (by simpa using q2)) (fun a2 m => nh a2 (List.mem_cons_of_mem _ m)) t)
            refine ⟨a, _, h.2.2, by rw [hid_at (nh a List.mem_cons_self)]; exact cl 0 k a rfl rfl, ?_⟩
            exact of_bls _
    exact key _ _ _ hl cl nh e3
  · have z : ((toldT w c rows).kvs.map Prod.fst) = keysT w c := by unfold toldT; rw [List.map_map]; exact List.map_id _
    rw [z]; exact keysT_nd
end Sk
set_option maxHeartbeats 4000000
namespace Sk
open PySem L2 PyProof.Rows Rk
def alwaysB (o : Op (Int × Int)) (r : List Bool) : Bool := match o.o with
  | none => false
  | some p => ((r.drop p.1.toNat).take ((p.2 + 1).toNat - p.1.toNat)).all id
def mayBB (o : Op (Int × Int)) (r : List Bool) : Bool := match o.o with
  | none => true
  | some p => ((r.drop p.1.toNat).take ((p.2 + 1).toNat - p.1.toNat)).any id
theorem alwaysB_some {o : Op (Int × Int)} {r : List Bool} {p : Int × Int} (h : o.o = some p) : alwaysB o r = ((r.drop p.1.toNat).take ((p.2 + 1).toNat - p.1.toNat)).all id := by unfold alwaysB; rw [h]
theorem mayBB_some {o : Op (Int × Int)} {r : List Bool} {p : Int × Int} (h : o.o = some p) : mayBB o r = ((r.drop p.1.toNat).take ((p.2 + 1).toNat - p.1.toNat)).any id := by unfold mayBB; rw [h]
theorem cut_mem {w : Wk} {f : Int → Bool} {a b : Int} (ha : 0 ≤ a) (hb : b ≤ w.wall) {x : Bool} : x ∈ ((line w f).drop a.toNat).take ((b + 1).toNat - a.toNat) ↔ ∃ y, a ≤ y ∧ y ≤ b ∧ f y = x := by
  rw [List.mem_iff_getElem?]
  constructor
  · rintro ⟨i, h⟩
    have hi := (List.getElem?_eq_some_iff.mp h).1
    rw [List.length_take, List.length_drop] at hi
    rw [List.getElem?_take_of_lt (by omega), List.getElem?_drop, List.getElem?_map, span_get (by omega)] at h
    exact ⟨0 + ((a.toNat + i : Nat) : Int), by omega, by omega, Option.some.inj h⟩
  · rintro ⟨y, h1, h2, e⟩
    refine ⟨y.toNat - a.toNat, ?_⟩
    rw [List.getElem?_take_of_lt (by omega), List.getElem?_drop, List.getElem?_map, span_get (by omega)]
    rw [show 0 + ((a.toNat + (y.toNat - a.toNat) : Nat) : Int) = y from by omega, ← e]; rfl
def endT (w : Wk) (c : Crs) (rows : List Row) : Bool := (gatesL w).any fun g => (line w (tpI rows ⟨c.hours.length, g.1, g.2⟩)).contains true
theorem endT_is {w : Wk} {c : Crs} {rows : List Row} : endT w c rows = true ↔ ∃ s : Stt, s.Ok w ∧ tpI rows ⟨c.hours.length, s.shut, s.since⟩ s.level = true := by
  unfold endT
  rw [List.any_eq_true]
  constructor
  · rintro ⟨g, hg, h⟩
    rw [List.contains_iff_mem, List.mem_map] at h
    obtain ⟨l, hl, e⟩ := h
    have b := mem_span.mp hl
    exact ⟨⟨l, g.1, g.2⟩, ⟨⟨b.1, by show l ≤ w.wall; omega⟩, mem_gates.mp hg⟩, e⟩
  · rintro ⟨s, ok, e⟩
    refine ⟨(s.shut, s.since), mem_gates.mpr ok.2, ?_⟩
    rw [List.contains_iff_mem, List.mem_map]
    have := ok.1
    exact ⟨s.level, mem_span.mpr ⟨this.1, by omega⟩, e⟩
abbrev Out : Type := Op (Int × Int) × List Bool
def outA (w : Wk) (c : Crs) (rows : List Row) (k : Nat) (s : Stt) : List Out := (actsL w s).map fun p => (gsp w (hAt0 c k) p.1 s.level, line w (tpI rows ⟨(k : Int) + 1, p.1, p.2⟩))
def outG (w : Wk) (c : Crs) (rows : List Row) (k : Nat) (g : Bool × Int) (m : Nat) : List (List Out) := ((span 0 (m : Int)).filter (tpI rows ⟨k, g.1, g.2⟩)).map fun l => outA w c rows k ⟨l, g.1, g.2⟩
def outT (w : Wk) (c : Crs) (rows : List Row) (k m : Nat) : List (List Out) := ((gatesL w).take m).flatMap fun g => outG w c rows k g (w.wall + 1).toNat
theorem outT_s {w : Wk} {c : Crs} {rows : List Row} {k m : Nat} {g : Bool × Int} (h : (gatesL w)[m]? = some g) : outT w c rows k (m + 1) = outT w c rows k m ++ outG w c rows k g (w.wall + 1).toNat := by
  unfold outT; rw [List.take_add_one, h, List.flatMap_append]; simp
theorem outG_len {w : Wk} {c : Crs} {rows : List Row} {k : Nat} {g : Bool × Int} {m : Nat} : (outG w c rows k g m).length ≤ m := by
  unfold outG
  rw [List.length_map]
  exact Nat.le_trans (List.length_filter_le _ _) (by rw [span_len]; omega)
theorem outT_len {w : Wk} {c : Crs} {rows : List Row} {k : Nat} (hw : w.Ok) : ∀ m : Nat, (outT w c rows k m).length ≤ m * 201
  | 0 => Nat.zero_le _
  | m + 1 => by
    have b : (w.wall + 1).toNat ≤ 201 := by unfold Wk.Ok at hw; omega
    have ih := outT_len (c := c) (rows := rows) (k := k) hw m
    cases h : (gatesL w)[m]? with
    | some g =>
      rw [outT_s h, List.length_append]
      have := outG_len (w := w) (c := c) (rows := rows) (k := k) (g := g) (m := (w.wall + 1).toNat)
      omega
    | none =>
      have e : outT w c rows k (m + 1) = outT w c rows k m := by unfold outT; rw [List.take_add_one, h]; simp
      rw [e]; omega
end Sk
namespace Sk
open PySem L2 PyProof.Rows Rk
instance : NN (Dic Stt (List Bool)) := ⟨fun {G H v x} ⟨p, _, _, e, _⟩ z => by rw [e] at z; cases z⟩
def judgeG (good : List Out → Bool) (extra : Bool) (w : Wk) (c : Crs) (s : Stt) (rows : List Row) : Bool :=
  rows.all (rowOk w c) && (tpI rows ⟨0, s.shut, s.since⟩ s.level && (extra && (List.range c.hours.length).all fun k => (outT w c rows k (gatesL w).length).all good))
def goodK (os : List Out) : Bool := os.any fun o => alwaysB o.1 o.2
def goodL' (os : List Out) : Bool := os.all fun o => mayBB o.1 o.2
def judgeK (w : Wk) (c : Crs) (s : Stt) (rows : List Row) : Bool := judgeG goodK true w c s rows
def judgeL (w : Wk) (c : Crs) (s : Stt) (rows : List Row) : Bool := judgeG goodL' (!endT w c rows) w c s rows
def judgeKR (w : Wk) (c : Crs) (t : Tv) (rows : List Row) : Rz := match mkSt w t with
  | some s => .ok (dv (judgeK w c s rows))
  | none => .err 12
def judgeLR (w : Wk) (c : Crs) (t : Tv) (rows : List Row) : Rz := match mkSt w t with
  | some s => .ok (dv (judgeL w c s rows))
  | none => .err 12
section
variable {w : Wk} {c : Crs} {s : Stt} {rows : List Row} {good : List Out → Bool} {extra : Bool} {t : Op (Dic Stt (List Bool))}
theorem mem_outT {k : Nat} {os : List Out} : os ∈ outT w c rows k (gatesL w).length ↔ ∃ s : Stt, s.Ok w ∧ tpI rows ⟨k, s.shut, s.since⟩ s.level = true ∧ os = outA w c rows k s := by
  unfold outT outG
  rw [List.take_length, List.mem_flatMap]
  constructor
  · rintro ⟨g, hg, h⟩
    obtain ⟨l, hl, rfl⟩ := List.mem_map.mp h
    obtain ⟨b1, b2⟩ := List.mem_filter.mp hl
    have b3 := mem_span.mp b1
    exact ⟨⟨l, g.1, g.2⟩, ⟨⟨b3.1, by show l ≤ w.wall; omega⟩, mem_gates.mp hg⟩, b2, rfl⟩
  · rintro ⟨s, ok, h, rfl⟩
    have := ok.1
    exact ⟨(s.shut, s.since), mem_gates.mpr ok.2, List.mem_map.mpr ⟨s.level, List.mem_filter.mpr ⟨mem_span.mpr ⟨this.1, by omega⟩, h⟩, rfl⟩⟩
end
end Sk
namespace Sk
open PySem L2 PyProof.Rows Rk
section
variable {w : Wk} {c : Crs} {s : Stt} {rows : List Row} {t : Op (Dic Stt (List Bool))}
end
end Sk
set_option maxHeartbeats 4000000
namespace Sk
open PySem L2 PyProof.Rows Rk
section
variable {w : Wk} {c : Crs} {s : Stt} {rows : List Row}
theorem alwaysB_is {k : Nat} {h : Hr} {a : Bool} {l : Int} {f : Int → Bool} (hw : w.Ok) (hh : h.Ok) (hl : 0 ≤ l) : alwaysB (gsp w h a l) (line w f) = true ↔ alwaysT (gsp w h a l) f := by
  unfold alwaysT
  cases e : (gsp w h a l).o with
  | none =>
    have z : alwaysB (gsp w h a l) (line w f) = false := by unfold alwaysB; rw [e]
    rw [z]
    exact ⟨fun q => (by cases q), fun ⟨p, q, _⟩ => (by cases q)⟩
  | some p =>
    have b := gsp_some hw hh hl e
    rw [alwaysB_some e, List.all_eq_true]
    constructor
    · intro q
      exact ⟨p, rfl, fun y y1 y2 => q _ ((cut_mem b.2.1 b.2.2.2).mpr ⟨y, y1, y2, rfl⟩)⟩
    · rintro ⟨p2, e2, q⟩ x hx
      cases e2
      obtain ⟨y, y1, y2, rfl⟩ := (cut_mem b.2.1 b.2.2.2).mp hx
      exact q y y1 y2
theorem mayBB_is {h : Hr} {a : Bool} {l : Int} {f : Int → Bool} (hw : w.Ok) (hh : h.Ok) (hl : 0 ≤ l) : mayBB (gsp w h a l) (line w f) = true ↔ mayB (gsp w h a l) f := by
  unfold mayB
  cases e : (gsp w h a l).o with
  | none =>
    have z : mayBB (gsp w h a l) (line w f) = true := by unfold mayBB; rw [e]
    rw [z]
    exact ⟨fun _ p q => (by cases q), fun _ => rfl⟩
  | some p =>
    have b := gsp_some hw hh hl e
    rw [mayBB_some e, List.any_eq_true]
    constructor
    · rintro ⟨x, hx, q⟩ p2 e2
      cases e2
      obtain ⟨y, y1, y2, rfl⟩ := (cut_mem b.2.1 b.2.2.2).mp hx
      exact ⟨y, y1, y2, q⟩
    · intro q
      obtain ⟨y, y1, y2, q⟩ := q p rfl
      exact ⟨_, (cut_mem b.2.1 b.2.2.2).mpr ⟨y, y1, y2, rfl⟩, q⟩
theorem goodK_is {k : Nat} (hw : w.Ok) (hc : c.Ok) (hk : k < c.hours.length) (ok : s.Ok w) : goodK (outA w c rows k s) = true ↔ ∃ a, lMay w s a = true ∧ alwaysT (gsp w (hAt0 c k) a s.level) (toldP rows (k + 1) a (lSince w s a)) := by
  have hh := (hAt0_ok hc hk).1
  unfold goodK outA
  rw [List.any_eq_true]
  constructor
  · rintro ⟨o, ho, q⟩
    obtain ⟨p, hp, rfl⟩ := List.mem_map.mp ho
    obtain ⟨m1, m2⟩ := (mem_acts (b := p.1) (k := p.2) ok).mp hp
    refine ⟨p.1, m1, ?_⟩
    have z := (alwaysB_is (k := k) hw hh ok.1.1).mp q
    rw [← m2]; exact z
  · rintro ⟨a, m, q⟩
    exact ⟨_, List.mem_map.mpr ⟨(a, lSince w s a), (mem_acts ok).mpr ⟨m, rfl⟩, rfl⟩, (alwaysB_is (k := k) hw hh ok.1.1).mpr q⟩
theorem goodL_is {k : Nat} (hw : w.Ok) (hc : c.Ok) (hk : k < c.hours.length) (ok : s.Ok w) : goodL' (outA w c rows k s) = true ↔ ∀ a, lMay w s a = true → mayB (gsp w (hAt0 c k) a s.level) (toldP rows (k + 1) a (lSince w s a)) := by
  have hh := (hAt0_ok hc hk).1
  unfold goodL' outA
  rw [List.all_eq_true]
  constructor
  · intro q a m
    exact (mayBB_is hw hh ok.1.1).mp (q _ (List.mem_map.mpr ⟨(a, lSince w s a), (mem_acts ok).mpr ⟨m, rfl⟩, rfl⟩))
  · rintro q o ho
    obtain ⟨p, hp, rfl⟩ := List.mem_map.mp ho
    obtain ⟨m1, m2⟩ := (mem_acts (b := p.1) (k := p.2) ok).mp hp
    have z := (mayBB_is hw hh ok.1.1).mpr (q p.1 m1)
    rw [← m2] at z; exact z
theorem judgeK_is (hw : w.Ok) (hc : c.Ok) : judgeK w c s rows = true ↔ rows.all (rowOk w c) = true ∧ toldP rows 0 s.shut s.since s.level = true ∧ ClosedK w c (toldP rows) := by
  unfold judgeK judgeG
  rw [Bool.and_eq_true, Bool.and_eq_true, Bool.true_and]
  refine and_congr_right fun _ => and_congr_right fun _ => ?_
  constructor
  · intro q k hk s2 ok t
    have z := List.all_eq_true.mp (List.all_eq_true.mp q k (List.mem_range.mpr hk)) _ (mem_outT.mpr ⟨s2, ok, t, rfl⟩)
    exact (goodK_is hw hc hk ok).mp z
  · intro q
    rw [List.all_eq_true]
    intro k hk
    have hk := List.mem_range.mp hk
    rw [List.all_eq_true]
    intro os m
    obtain ⟨s2, ok, t, rfl⟩ := mem_outT.mp m
    exact (goodK_is hw hc hk ok).mpr (q k hk s2 ok t)
theorem judgeL_is (hw : w.Ok) (hc : c.Ok) : judgeL w c s rows = true ↔ rows.all (rowOk w c) = true ∧ toldP rows 0 s.shut s.since s.level = true ∧ ClosedL w c (toldP rows) := by
  unfold judgeL judgeG
  rw [Bool.and_eq_true, Bool.and_eq_true, Bool.and_eq_true]
  refine and_congr_right fun _ => and_congr_right fun _ => ?_
  have e1 : (!endT w c rows) = true ↔ ∀ s : Stt, s.Ok w → toldP rows c.hours.length s.shut s.since s.level = false := by
    rw [Bool.not_eq_true']
    constructor
    · intro q s2 ok
      cases e : toldP rows c.hours.length s2.shut s2.since s2.level with
      | false => rfl
      | true => rw [endT_is.mpr ⟨s2, ok, e⟩] at q; cases q
    · intro q
      cases e : endT w c rows with
      | false => rfl
      | true =>
        obtain ⟨s2, ok, t⟩ := endT_is.mp e
        have z := q s2 ok
        rw [← tpI_told, t] at z; cases z
  rw [e1]
  unfold ClosedL
  refine and_congr_right fun _ => ?_
  constructor
  · intro q k hk s2 ok t
    have z := List.all_eq_true.mp (List.all_eq_true.mp q k (List.mem_range.mpr hk)) _ (mem_outT.mpr ⟨s2, ok, t, rfl⟩)
    exact (goodL_is hw hc hk ok).mp z
  · intro q
    rw [List.all_eq_true]
    intro k hk
    have hk := List.mem_range.mp hk
    rw [List.all_eq_true]
    intro os m
    obtain ⟨s2, ok, t, rfl⟩ := mem_outT.mp m
    exact (goodL_is hw hc hk ok).mpr (q k hk s2 ok t)
theorem stretch_in {P : Int → Prop} : ∀ {ls : List Int} {f : List (Int × Int)}, (∀ l ∈ ls, P l) → (∀ p ∈ f, P p.1 ∧ P (p.2 - 1) ∧ p.1 < p.2) → ∀ p ∈ ls.foldl strS f, P p.1 ∧ P (p.2 - 1) ∧ p.1 < p.2
  | [], f, _, hf => hf
  | l :: ls, f, hl, hf => by
    rw [List.foldl_cons]
    refine stretch_in (fun x hx => hl x (List.mem_cons_of_mem _ hx)) fun p hp => ?_
    have pl := hl l List.mem_cons_self
    have app : p ∈ f ++ [(l, l + 1)] → P p.1 ∧ P (p.2 - 1) ∧ p.1 < p.2 := fun hp => by
      rcases List.mem_append.mp hp with q | q
      · exact hf p q
      · rw [List.mem_singleton.mp q]
        exact ⟨pl, by show P (l + 1 - 1); rw [Int.add_sub_cancel]; exact pl, by show l < l + 1; omega⟩
    unfold strS at hp
    split at hp
    · rename_i p2 e
      split at hp
      · rename_i q
        have m := hf p2 (List.mem_of_getLast? e)
        rcases List.mem_append.mp hp with r | r
        · exact hf p (List.dropLast_subset _ r)
        · rw [List.mem_singleton.mp r]
          exact ⟨m.1, by show P (l + 1 - 1); rw [Int.add_sub_cancel]; exact pl, by show p2.1 < l + 1; omega⟩
      · exact app hp
    · exact app hp
theorem rowsTo_ok {f : Nat → Bool × Int → Row} {L : Nat → Bool → Int → List Int} (hf : ∀ k g, f k g = ⟨k, g.1, g.2, stretch (L k g.1 g.2)⟩) (hL : ∀ k b s, ∀ l ∈ L k b s, 0 ≤ l ∧ l ≤ w.wall) {m : Nat} (hm : m ≤ c.hours.length + 1) : ((rowsTo f w m).filter hasSp).all (rowOk w c) = true := by
  rw [List.all_eq_true]
  intro r hr
  obtain ⟨k, hk, g, hg, rfl⟩ := mem_rowsTo.mp (List.mem_filter.mp hr).1
  rw [hf]
  have mg := mem_gates.mp hg
  have st := stretch_in (P := fun l => 0 ≤ l ∧ l ≤ w.wall) (f := []) (hL k g.1 g.2) (fun p hp => by cases hp)
  unfold rowOk
  simp only [Bool.and_eq_true, decide_eq_true_eq, List.all_eq_true]
  refine ⟨⟨⟨by omega, by omega⟩, mg⟩, fun p hp => ?_⟩
  have z := st p hp
  omega
def kB (w : Wk) (c : Crs) (k : Nat) (s : Stt) : Bool := !(told (worstAt w c k s.shut s.since s.level)).isNone
def stG (w : Wk) (t : Tv) : Stt := (mkSt w t).getD ⟨0, false, 0⟩
end
end Sk
namespace Sk
open PySem L2 PyProof.Rows Rk
def gapOf (p : Int × Int) (n : Int) : Int := p.1 + n / 7 % (p.2 - p.1)
def partsOf (p : Int × Int) (n : Int) : List (Int × Int) := [(p.1, gapOf p n), (gapOf p n + 1, p.2)].filter fun q => decide (q.1 < q.2)
def cutSp (sp : List (Int × Int)) (p : Int × Int) (n : Int) : List (Int × Int) := sp.take (n % (sp.length : Int)).toNat ++ partsOf p n ++ sp.drop (n % (sp.length : Int) + 1).toNat
def cutRows (rows : List Row) (i n : Int) (r : Row) (p : Int × Int) : List Row := rows.take i.toNat ++ [⟨r.hour, r.shut, r.since, cutSp r.sp p n⟩] ++ rows.drop (i + 1).toNat
end Sk
namespace Sk
open PySem L2 PyProof.Rows Rk
section
variable {w : Wk} {c : Crs} {s : Stt} {rows : List Row}
theorem row_sp {f : Nat → Bool × Int → Row} {L : Nat → Bool → Int → List Int} (hf : ∀ k g, f k g = ⟨k, g.1, g.2, stretch (L k g.1 g.2)⟩) (hL : ∀ k b s, ∀ l ∈ L k b s, 0 ≤ l ∧ l ≤ w.wall) {m : Nat} {r : Row} (hr : r ∈ (rowsTo f w m).filter hasSp) : 0 < r.sp.length ∧ ∀ p ∈ r.sp, p.1 < p.2 ∧ p.2 - p.1 ≤ w.wall + 1 := by
  have h2 := (List.mem_filter.mp hr).2
  obtain ⟨k, hk, g, hg, rfl⟩ := mem_rowsTo.mp (List.mem_filter.mp hr).1
  refine ⟨?_, fun p hp => ?_⟩
  · unfold hasSp at h2
    cases e : (f k g).sp with
    | nil => rw [e] at h2; cases h2
    | cons a b => exact Nat.zero_lt_succ _
  · rw [hf] at hp
    have z := stretch_in (P := fun l => 0 ≤ l ∧ l ≤ w.wall) (f := []) (hL k g.1 g.2) (fun p hp => by cases hp) p hp
    omega
end
end Sk
namespace Sk
open PySem L2 PyProof.Rows Rk
instance : Dt Row := ⟨fun r => .tuple [Dt.d r.hour, Dt.d r.shut, Dt.d r.since, Dt.d r.sp], 3, fun {G H v x} ⟨p, vs, e1, e2, e3⟩ => by
    subst e1
    match vs, e3 with
    | [a, b, c, e], e3 => exact .tup (SqT.of e2) (.cons (Dt.rp e3.1) (.cons (Dt.rp e3.2.1) (.cons (Dt.rp e3.2.2.1) (.cons (Dt.rp e3.2.2.2.1) .nil)))), fun x => by
    show ((Dt.d x.hour).canLay0 && ((Dt.d x.shut).canLay0 && ((Dt.d x.since).canLay0 && ((Dt.d x.sp).canLay0 && true)))) = true
    rw [Dt.lay, Dt.lay, Dt.lay, Dt.lay] <;> rfl, fun x => Nat.succ_le_succ (Nat.max_le.mpr ⟨Nat.zero_le _, Nat.max_le.mpr ⟨Nat.zero_le _, Nat.max_le.mpr ⟨Nat.zero_le _, Nat.max_le.mpr ⟨Dt.deep x.sp, Nat.zero_le _⟩⟩⟩⟩), fun x y => by
    show (PyData.eqv (Dt.d x.hour) (Dt.d y.hour) && (PyData.eqv (Dt.d x.shut) (Dt.d y.shut) && (PyData.eqv (Dt.d x.since) (Dt.d y.since) && (PyData.eqv (Dt.d x.sp) (Dt.d y.sp) && true)))) = true ↔ _
    rw [Bool.and_true, Bool.and_eq_true, Bool.and_eq_true, Bool.and_eq_true, Dt.inj, Dt.inj, Dt.inj, Dt.inj]
    obtain ⟨a, b, c, e⟩ := x
    obtain ⟨a', b', c', e'⟩ := y
    simp only [Row.mk.injEq]⟩
end Sk
namespace Sk
open PySem L2 PyProof.Rows Rk
end Sk
namespace Sk
open PySem L2 PyProof.Rows Rk
def w44 (cell c1 wall rest : Int) : Wk := ⟨wall, 1 + cell / 846 % 20, c1 % 30, rest, c1 / 30 % (wall / 2)⟩
def h44 (more low least : Int) : Hr := ⟨low, min 400 (low + more / 1800 % 90), least, least + more / 9 % 10, decide (more / 7 % 5 = 0)⟩
end Sk
namespace Sk
def cell17 (ns : List Int) (k : Int) : Int := if k < (ns.length : Int) then (ns[k.toNat]?).getD 0 else 17 * k + 3
theorem cell17_in {ns : List Int} {k x : Int} (h : k < (ns.length : Int)) (e : ns[k.toNat]? = some x) : cell17 ns k = x := by
  unfold cell17; rw [if_pos h, e]; rfl
theorem cell17_out {ns : List Int} {k : Int} (h : ¬ k < (ns.length : Int)) : cell17 ns k = 17 * k + 3 := by
  unfold cell17; rw [if_neg h]
end Sk
set_option maxHeartbeats 4000000
namespace Sk
open PySem L2 PyProof.Rows Rk
theorem nd_len {α : Type} [DecidableEq α] : ∀ {xs ys : List α}, xs.Nodup → (∀ x ∈ xs, x ∈ ys) → xs.length ≤ ys.length
  | [], _, _, _ => Nat.zero_le _
  | x :: xs, ys, nd, h => by
    have nd' := List.nodup_cons.mp nd
    have mx := h x List.mem_cons_self
    have z := nd_len (ys := ys.erase x) nd'.2 fun y hy => (List.mem_erase_of_ne (fun e : y = x => nd'.1 (by rw [← e]; exact hy))).mpr (h y (List.mem_cons_of_mem _ hy))
    rw [List.length_erase_of_mem mx] at z
    have p := List.length_pos_of_mem mx
    rw [List.length_cons]; omega
def setL (xs : List Stt) : List Stt := xs.foldl addS []
theorem setL_s {xs : List Stt} {s : Stt} : setL (xs ++ [s]) = addS (setL xs) s := by unfold setL; rw [List.foldl_append]; rfl
theorem setL_ok (xs : List Stt) : (setL xs).Nodup ∧ ∀ s, s ∈ setL xs ↔ s ∈ xs := by
  have key : ∀ (xs acc : List Stt), acc.Nodup → (xs.foldl addS acc).Nodup ∧ ∀ s, s ∈ xs.foldl addS acc ↔ s ∈ acc ∨ s ∈ xs := by
    intro xs
    induction xs with
    | nil => intro acc h; exact ⟨h, fun s => ⟨.inl, fun z => z.elim id fun z => by cases z⟩⟩
    | cons x xs ih =>
      intro acc h
      obtain ⟨a, b⟩ := ih (addS acc x) (addS_nd h)
      refine ⟨a, fun s => ?_⟩
      rw [List.foldl_cons, b, addS_mem, List.mem_cons, or_assoc]
  obtain ⟨a, b⟩ := key xs [] List.nodup_nil
  exact ⟨a, fun s => by unfold setL; rw [b]; exact ⟨fun z => z.elim (fun z => by cases z) id, .inr⟩⟩
def rowSts (r : Row) (sp : List (Int × Int)) : List Stt := sp.flatMap fun p => (span p.1 p.2).map fun l => ⟨l, r.shut, r.since⟩
def rowsSts (rs : List Row) (n : Int) : List Stt := (rs.filter fun r => decide (r.hour = n)).flatMap fun r => rowSts r r.sp
theorem mem_rowSts {r : Row} {sp : List (Int × Int)} {s : Stt} : s ∈ rowSts r sp ↔ (r.shut = s.shut ∧ r.since = s.since) ∧ cov sp s.level = true := by
  unfold rowSts
  rw [List.mem_flatMap, cov_is]
  constructor
  · rintro ⟨p, hp, hs⟩
    obtain ⟨l, hl, rfl⟩ := List.mem_map.mp hs
    exact ⟨⟨rfl, rfl⟩, p, hp, mem_span.mp hl⟩
  · rintro ⟨⟨e1, e2⟩, p, hp, h⟩
    exact ⟨p, hp, List.mem_map.mpr ⟨s.level, mem_span.mpr h, by rw [e1, e2]⟩⟩
theorem mem_rowsSts {rs : List Row} {n : Int} {s : Stt} : s ∈ rowsSts rs n ↔ tpI rs ⟨n, s.shut, s.since⟩ s.level = true := by
  unfold rowsSts tpI rowAt
  rw [List.mem_flatMap, List.any_eq_true]
  constructor
  · rintro ⟨r, hr, hs⟩
    rw [List.mem_filter, decide_eq_true_eq] at hr
    obtain ⟨⟨e1, e2⟩, c⟩ := mem_rowSts.mp hs
    exact ⟨r, hr.1, by rw [Bool.and_eq_true, decide_eq_true_eq]; exact ⟨⟨hr.2, e1, e2⟩, c⟩⟩
  · rintro ⟨r, hr, h⟩
    rw [Bool.and_eq_true, decide_eq_true_eq] at h
    exact ⟨r, List.mem_filter.mpr ⟨hr, decide_eq_true h.1.1⟩, mem_rowSts.mpr ⟨h.1.2, h.2⟩⟩
def cur (rs : List Row) (r : Row) (xs : List Stt) (n : Int) : List Stt := setL (rowsSts rs n ++ if r.hour = n then xs else [])
theorem cur_s {rs : List Row} {r : Row} {xs : List Stt} {s : Stt} {n : Int} : cur rs r (xs ++ [s]) n = if r.hour = n then addS (cur rs r xs n) s else cur rs r xs n := by
  unfold cur
  by_cases h : r.hour = n
  · rw [if_pos h, if_pos h, if_pos h, ← List.append_assoc, setL_s]
  · rw [if_neg h, if_neg h, if_neg h]
theorem row_sts_ok {w : Wk} {c : Crs} {rs : List Row} (h : ∀ r ∈ rs, rowOk w c r = true) {n : Int} {s : Stt} (m : s ∈ rowsSts rs n) : s.Ok w := by
  rw [mem_rowsSts] at m
  unfold tpI rowAt at m
  rw [List.any_eq_true] at m
  obtain ⟨r, hr, z⟩ := m
  rw [Bool.and_eq_true, decide_eq_true_eq] at z
  have ok := h r hr
  rw [rowOk_is, Bool.and_eq_true] at ok
  obtain ⟨p, hp, h1, h2⟩ := cov_is.mp z.2
  have pk := List.all_eq_true.mp ok.2 p hp
  have hk := ok.1
  unfold headOk at hk
  unfold partOk at pk
  simp only [Bool.and_eq_true, decide_eq_true_eq] at hk pk
  have e := z.1.2.2
  simp only at e
  exact ⟨⟨by omega, by omega⟩, by omega, by omega⟩
def setD (xs : List Stt) : Dic Stt Bool := ⟨xs.map fun k => (k, true)⟩
theorem setD_fst (xs : List Stt) : (setD xs).kvs.map Prod.fst = xs := fst_true xs
def setAt (rs : List Row) (n : Int) : List Stt := setL (rowsSts rs n)
theorem setAt_mem {rs : List Row} {k : Nat} {s : Stt} : s ∈ setAt rs k ↔ toldP rs k s.shut s.since s.level = true := by
  unfold setAt; rw [(setL_ok _).2, mem_rowsSts]; rfl
def setsT (c : Crs) (rs : List Row) : List (Dic Stt Bool) := (List.range (c.hours.length + 1)).map fun k : Nat => setD (setAt rs k)
def setsO (w : Wk) (c : Crs) (rs : List Row) : Op (List (Dic Stt Bool)) := if rs.all (rowOk w c) = true then ⟨some (setsT c rs)⟩ else ⟨none⟩
def SetsAt (G : Gm) (h : Addr → Prop) (as : List Addr) (KS : Int → List Stt) (H : Hp) : Prop := ∀ (n : Nat) a, as[n]? = some a → SetAt G h H a (KS (n : Int))
theorem SetsAt.mono {G : Gm} {h : Addr → Prop} {as : List Addr} {KS : Int → List Stt} {H H' : Hp} (c : SetsAt G h as KS H) (s : Same H H') : SetsAt G h as KS H' := fun n a e => (c n a e).mono s
theorem SetsAt.eq {G : Gm} {h : Addr → Prop} {as : List Addr} {KS KS' : Int → List Stt} {H : Hp} (c : SetsAt G h as KS H) (e : ∀ n, KS n = KS' n) : SetsAt G h as KS' H := fun n a q => by rw [← e n]; exact c n a q
theorem SetsAt.put {G : Gm} {hs : Addr → Prop} {as : List Addr} {rs : List Row} {r : Row} {xs : List Stt} {s : Stt} {H H' : Hp} {i0 : Nat} {l : Addr} (nda : as.Nodup) (hl : as[i0]? = some l) (eh : r.hour = (i0 : Int)) (c : SetsAt G (hd hs no_) as (cur rs r xs) H) (lh : hs l)
    (sB : Same (fun x => if x = l then none else H x) H') (p : SetAt G (hd hs no_) H' l (addS (cur rs r xs i0) s)) : SetsAt G (hd hs no_) as (cur rs r (xs ++ [s])) H' := fun n a e => by
  rw [cur_s]
  by_cases q : a = l
  · subst q
    have en : n = i0 := (List.getElem?_inj (List.getElem?_eq_some_iff.mp e).1 nda).mp (e.trans hl.symm)
    rw [if_pos (by rw [eh, en]), en]; exact p
  · have ne : ¬ r.hour = (n : Int) := fun z => by
      have en : n = i0 := by omega
      rw [en, hl] at e
      exact q (Option.some.inj e).symm
    rw [if_neg ne]
    obtain ⟨es, h1, h2, h3⟩ := c n a e
    exact ⟨es, sB a _ (by show (if a = l then none else H a) = _; rw [if_neg q]; exact h1), h2.mono (but_same lh sB), h3⟩
end Sk
namespace Sk
open PySem L2 PyProof.Rows Rk
theorem sets_vals {G : Gm} {H : Hp} : ∀ {vs ws : List V}, RepAll G H vs (dvs ws) → vs = ws
  | [], [], _ => rfl
  | v :: vs, w :: ws, h => by
    have e : v = w := h.1
    rw [e, sets_vals (vs := vs) (ws := ws) h.2]
end Sk
set_option maxHeartbeats 4000000
namespace Sk
open PySem L2 PyProof.Rows Rk
def works40 (c : Int) : Wk := ⟨2 + c % 9, 1 + c / 9 % 4, c / 36 % 4, 1 + c / 144 % 3, c / 432 % (2 + c % 9 + 1)⟩
theorem works40_ok (c : Int) : (works40 c).Ok ∧ (works40 c).wall ≤ 10 ∧ (works40 c).rest ≤ 3 := by
  have h1 := Int.emod_nonneg (c / 432) (show 2 + c % 9 + 1 ≠ 0 by omega)
  have h2 := Int.emod_lt_of_pos (c / 432) (show 0 < 2 + c % 9 + 1 by omega)
  unfold Wk.Ok works40
  simp only
  refine ⟨⟨?_, ?_, ?_, ?_, ?_⟩, ?_, ?_⟩ <;> omega
def hour40 (c : Int) : Hr := ⟨c % 8, c % 8 + c / 24 % 6, c / 8 % 3, c / 8 % 3 + c / 144 % 3, decide (c / 432 % 4 = 1)⟩
theorem hour40_ok (c : Int) : (hour40 c).Ok ∧ (hour40 c).sh ≤ 100 ∧ (hour40 c).rh ≤ 100 := by
  unfold Hr.Ok hour40
  simp only
  omega
def hrs40 (ns : List Int) (m : Int) : List Hr := (span 0 m).map fun k => hour40 (cell17 ns (2 + k))
theorem hrs40_s {ns : List Int} {m : Int} (h : 0 ≤ m) : hrs40 ns (m + 1) = hrs40 ns m ++ [hour40 (cell17 ns (2 + m))] := by unfold hrs40; rw [span_s h, List.map_append]; rfl
theorem hrs40_len (ns : List Int) (k : Int) : (hrs40 ns k).length = k.toNat := by unfold hrs40; rw [List.length_map, span_len, Int.sub_zero]
theorem hrs40_ok (ns : List Int) (m : Int) : ∀ h ∈ hrs40 ns m, h.Ok ∧ h.sh ≤ 100 ∧ h.rh ≤ 100 := by
  intro h hh
  obtain ⟨k, _, rfl⟩ := List.mem_map.mp hh
  exact hour40_ok _
def hours40 (ns : List Int) (most : Int) : List Hr := hrs40 ns (1 + cell17 ns 1 % most)
theorem hours40_len (ns : List Int) {most : Int} (h : 0 < most) : 1 ≤ (hours40 ns most).length ∧ ((hours40 ns most).length : Int) ≤ most := by
  have h1 := Int.emod_nonneg (cell17 ns 1) (show most ≠ 0 by omega)
  have h2 := Int.emod_lt_of_pos (cell17 ns 1) h
  unfold hours40
  rw [hrs40_len]; omega
theorem hours40_ok (ns : List Int) {most : Int} (h : 0 < most) (h2 : most ≤ 72) : (Crs.mk (hours40 ns most)).Ok := by
  have z := hours40_len ns h
  exact ⟨z.1, by show (hours40 ns most).length ≤ 72; omega, fun x hx => (hrs40_ok ns _ x hx).1⟩
theorem next40 {w : Wk} {l a b : Int} : l + b + max (0 - w.flow) (min w.flow (a - l)) = nextL w l false a b := by unfold nextL; rw [Int.zero_sub]; rfl
def stL (b : Bool) (k : Int) (m : Int) : List Stt := (span 0 m).map fun l => ⟨l, b, k⟩
def stK (w : Wk) (b : Bool) (m : Int) : List Stt := (span 1 m).flatMap fun k => stL b k (w.wall + 1)
def stB (w : Wk) (bs : List Bool) : List Stt := bs.flatMap fun b => stK w b (w.rest + 1)
def states40 (w : Wk) : List Stt := stB w [false, true]
theorem stL_s {b : Bool} {k m : Int} (h : 0 ≤ m) : stL b k (m + 1) = stL b k m ++ [⟨m, b, k⟩] := by unfold stL; rw [span_s h, List.map_append]; rfl
theorem stK_s {w : Wk} {b : Bool} {m : Int} (h : 1 ≤ m) : stK w b (m + 1) = stK w b m ++ stL b m (w.wall + 1) := by unfold stK; rw [span_s h, List.flatMap_append]; simp
theorem stB_s {w : Wk} {bs : List Bool} {b : Bool} : stB w (bs ++ [b]) = stB w bs ++ stK w b (w.rest + 1) := by unfold stB; rw [List.flatMap_append]; simp
theorem mem_states40 {w : Wk} {s : Stt} : s ∈ states40 w ↔ s.Ok w := by
  unfold states40 stB stK stL
  simp only [List.mem_flatMap, List.mem_map, mem_span]
  constructor
  · rintro ⟨b, _, k, hk, l, hl, rfl⟩
    exact ⟨⟨hl.1, by show l ≤ w.wall; omega⟩, hk.1, by show k ≤ w.rest; omega⟩
  · intro h
    exact ⟨s.shut, by cases s.shut <;> simp, s.since, ⟨h.2.1, by have := h.2.2; omega⟩, s.level, ⟨h.1.1, by have := h.1.2; omega⟩, rfl⟩
theorem flat_len {α β : Type} {f : α → List β} {n : Nat} (h : ∀ x, (f x).length ≤ n) : ∀ xs : List α, (xs.flatMap f).length ≤ xs.length * n
  | [] => Nat.zero_le _
  | x :: xs => by
    rw [List.flatMap_cons, List.length_append, List.length_cons, Nat.succ_mul]
    have := flat_len h xs
    have := h x
    omega
theorem stL_len {b : Bool} {k m : Int} : (stL b k m).length = m.toNat := by unfold stL; rw [List.length_map, span_len, Int.sub_zero]
theorem stK_len {w : Wk} (hw : w.Ok) {b : Bool} {m : Int} (h : m ≤ 7) : (stK w b m).length ≤ 1206 := by
  have z := flat_len (f := fun k => stL b k (w.wall + 1)) (n := 201) (fun x => by unfold Wk.Ok at hw; rw [stL_len]; omega) (span 1 m)
  rw [span_len] at z
  have y : (m - 1).toNat * 201 ≤ 6 * 201 := Nat.mul_le_mul (by omega) (Nat.le_refl _)
  exact Nat.le_trans z y
theorem stB_len {w : Wk} (hw : w.Ok) {bs : List Bool} (h : bs.length ≤ 2) : (stB w bs).length ≤ 2412 := by
  have z := flat_len (f := fun b => stK w b (w.rest + 1)) (n := 1206) (fun x => stK_len hw (by unfold Wk.Ok at hw; omega)) bs
  exact Nat.le_trans z (Nat.mul_le_mul h (Nat.le_refl _))
theorem states40_len {w : Wk} (hw : w.Ok) : (states40 w).length ≤ 2412 := stB_len hw (Nat.le_refl _)
def actL (w : Wk) (s : Stt) : List Bool := [false, true].filter fun b => decide (b = s.shut) || decide (s.since = w.rest)
theorem mem_actL {w : Wk} {s : Stt} {b : Bool} (ok : s.Ok w) : b ∈ actL w s ↔ lMay w s b = true := by
  unfold actL lMay
  rw [List.mem_filter]
  have h : decide (s.since = w.rest) = decide (w.rest ≤ s.since) := decide_eq_decide.mpr ⟨fun e => by omega, fun e => by have := ok.2.2; omega⟩
  rw [h]
  exact ⟨fun z => z.2, fun z => ⟨by cases b <;> simp, z⟩⟩
def lvls (w : Wk) (h : Hr) (s : Stt) (b : Bool) : List Int := span (spanL w h s.level b).1 ((spanL w h s.level b).2 + 1)
theorem mem_lvls {w : Wk} {h : Hr} {s : Stt} {b : Bool} {l : Int} : l ∈ lvls w h s b ↔ (spanL w h s.level b).1 ≤ l ∧ l ≤ (spanL w h s.level b).2 := by
  unfold lvls; rw [mem_span]; omega
def keepsB (w : Wk) (h : Hr) (s : Stt) (b : Bool) (S : List Stt) : Bool := (lvls w h s b).all fun l => goodL w h b l && decide ((⟨l, b, lSince w s b⟩ : Stt) ∈ S)
def mayL (w : Wk) (h : Hr) (s : Stt) (b : Bool) (S : List Stt) : Bool := (lvls w h s b).any fun l => !goodL w h b l || decide ((⟨l, b, lSince w s b⟩ : Stt) ∈ S)
theorem keepsB_is {w : Wk} {h : Hr} {s : Stt} {b : Bool} {rs : List Row} {k : Nat} (hw : w.Ok) (hh : h.Ok) : keepsB w h s b (setAt rs ((k + 1 : Nat) : Int)) = true ↔ alwaysT (gsp w h b s.level) (toldP rs (k + 1) b (lSince w s b)) := by
  have le := spanL_le (w := w) (h := h) (by unfold Wk.Ok at hw; omega) hh s.level b
  unfold keepsB alwaysT
  rw [List.all_eq_true]
  constructor
  · intro z
    have g1 := z _ (mem_lvls.mpr ⟨Int.le_refl _, le⟩)
    have g2 := z _ (mem_lvls.mpr ⟨le, Int.le_refl _⟩)
    rw [Bool.and_eq_true] at g1 g2
    refine ⟨_, gsp_good g1.1 g2.1, fun y y1 y2 => ?_⟩
    have g := z y (mem_lvls.mpr ⟨y1, y2⟩)
    rw [Bool.and_eq_true, decide_eq_true_eq, setAt_mem] at g
    exact g.2
  · rintro ⟨p, e, f⟩ l hl
    obtain ⟨rfl, g1, g2⟩ := gsp_is e
    obtain ⟨l1, l2⟩ := mem_lvls.mp hl
    rw [Bool.and_eq_true, decide_eq_true_eq, setAt_mem]
    exact ⟨good_mid g1 g2 l1 l2, f l l1 l2⟩
theorem mayL_is {w : Wk} {h : Hr} {s : Stt} {b : Bool} {rs : List Row} {k : Nat} (hw : w.Ok) (hh : h.Ok) : mayL w h s b (setAt rs ((k + 1 : Nat) : Int)) = true ↔ mayB (gsp w h b s.level) (toldP rs (k + 1) b (lSince w s b)) := by
  have le := spanL_le (w := w) (h := h) (by unfold Wk.Ok at hw; omega) hh s.level b
  unfold mayL mayB
  rw [List.any_eq_true]
  constructor
  · rintro ⟨l, hl, z⟩ p e
    obtain ⟨rfl, g1, g2⟩ := gsp_is e
    obtain ⟨l1, l2⟩ := mem_lvls.mp hl
    rw [good_mid g1 g2 l1 l2, Bool.not_true, Bool.false_or, decide_eq_true_eq, setAt_mem] at z
    exact ⟨l, l1, l2, z⟩
  · intro f
    cases g1 : goodL w h b (spanL w h s.level b).1 with
    | false => exact ⟨_, mem_lvls.mpr ⟨Int.le_refl _, le⟩, by rw [g1]; rfl⟩
    | true =>
      cases g2 : goodL w h b (spanL w h s.level b).2 with
      | false => exact ⟨_, mem_lvls.mpr ⟨le, Int.le_refl _⟩, by rw [g2]; rfl⟩
      | true =>
        obtain ⟨y, y1, y2, z⟩ := f _ (gsp_good g1 g2)
        refine ⟨y, mem_lvls.mpr ⟨y1, y2⟩, ?_⟩
        rw [Bool.or_eq_true, decide_eq_true_eq, setAt_mem]
        exact .inr z
def okK (w : Wk) (c : Crs) (rs : List Row) (k : Nat) (s : Stt) : Bool := !((actL w s).filter fun b => keepsB w (hAt0 c k) s b (setAt rs ((k + 1 : Nat) : Int))).isEmpty
def okL (w : Wk) (c : Crs) (rs : List Row) (k : Nat) (s : Stt) : Bool := ((actL w s).filter fun b => !mayL w (hAt0 c k) s b (setAt rs ((k + 1 : Nat) : Int))).isEmpty
def closK (w : Wk) (c : Crs) (rs : List Row) : Bool := (List.range c.hours.length).all fun k => (setAt rs (k : Nat)).all (okK w c rs k)
def closL (w : Wk) (c : Crs) (rs : List Row) : Bool := (setAt rs (c.hours.length : Nat)).isEmpty && (List.range c.hours.length).all fun k => (setAt rs (k : Nat)).all (okL w c rs k)
theorem set_ok {w : Wk} {c : Crs} {rs : List Row} (h : rs.all (rowOk w c) = true) {k : Nat} {s : Stt} (m : s ∈ setAt rs k) : s.Ok w := row_sts_ok (fun r hr => List.all_eq_true.mp h r hr) (((setL_ok _).2 s).mp m)
end Sk
namespace Sk
open PySem L2 PyProof.Rows Rk
theorem lvls_bnd {w : Wk} {h : Hr} {s : Stt} {b : Bool} {lo hi : Int} (hw : w.Ok) (hh : h.Ok) (ok : s.Ok w) (e1 : lo = nextL w s.level b h.sl h.rl) (e2 : hi = nextL w s.level b h.sh h.rh) : -1000000 < lo ∧ lo < 1000000 ∧ -1000000 < hi + 1 ∧ hi + 1 < 1000000 := by
  have key : ∀ x y : Int, 0 ≤ x → x ≤ 400 → 0 ≤ y → y ≤ 400 → -1000 < nextL w s.level b x y ∧ nextL w s.level b x y < 10000 := by
    intro x y h1 h2 h3 h4
    have a := ok.1
    unfold Wk.Ok at hw
    unfold nextL
    split <;> omega
  have hh' := hh
  unfold Hr.Ok at hh'
  have a := key h.sl h.rl (by omega) (by omega) (by omega) (by omega)
  have b' := key h.sh h.rh (by omega) (by omega) (by omega) (by omega)
  rw [e1, e2]
  omega
theorem keep_yes {g m : Bool} (h : (!g || !m) = false) : (g && m) = true := by cases g <;> cases m <;> first | rfl | cases h
theorem keep_no {xs : List Int} {f g : Int → Bool} {x : Int} (hx : x ∈ xs) (h : (!f x || !g x) = true) : (xs.all fun l => f l && g l) = false := by
  rw [List.all_eq_false]
  refine ⟨x, hx, fun z => ?_⟩
  rw [Bool.and_eq_true] at z
  rw [z.1, z.2] at h; cases h
section
variable {w : Wk} {c : Crs} {rs : List Row} {k : Nat} {s : Stt}
end
end Sk
namespace Sk
open PySem L2 PyProof.Rows Rk
end Sk
set_option maxHeartbeats 4000000
namespace Sk
open PySem L2 PyProof.Rows Rk
theorem states40_nd (w : Wk) : (states40 w).Nodup := by
  have span_nd : ∀ lo hi : Int, (span lo hi).Nodup := fun lo hi => by
    unfold span
    rw [List.nodup_iff_pairwise_ne, List.pairwise_map]
    exact (List.nodup_iff_pairwise_ne.mp List.nodup_range).imp fun n z => n (by omega)
  have flat_nd : ∀ {α β : Type} {f : α → List β} {xs : List α}, xs.Nodup → (∀ x, (f x).Nodup) → (∀ x y b, b ∈ f x → b ∈ f y → x = y) → (xs.flatMap f).Nodup := by
    intro α β f xs h1 h2 h3
    induction xs with
    | nil => exact List.nodup_nil
    | cons x xs ih =>
      rw [List.flatMap_cons, List.nodup_append]
      have h := List.nodup_cons.mp h1
      refine ⟨h2 x, ih h.2, fun a ha b hb e => ?_⟩
      subst e
      obtain ⟨y, hy, m⟩ := List.mem_flatMap.mp hb
      exact h.1 (h3 x y a ha m ▸ hy)
  unfold states40 stB
  refine flat_nd (by decide) (fun b => flat_nd (span_nd _ _) (fun k => ?_) ?_) ?_
  · unfold stL
    rw [List.nodup_iff_pairwise_ne, List.pairwise_map]
    exact (List.nodup_iff_pairwise_ne.mp (span_nd _ _)).imp fun n z => n (by injection z)
  · intro x y s h1 h2
    obtain ⟨_, _, rfl⟩ := List.mem_map.mp h1
    obtain ⟨_, _, e⟩ := List.mem_map.mp h2
    injection e with _ _ e; exact e.symm
  · intro x y s h1 h2
    obtain ⟨_, _, h1⟩ := List.mem_flatMap.mp h1
    obtain ⟨_, _, h2⟩ := List.mem_flatMap.mp h2
    obtain ⟨_, _, rfl⟩ := List.mem_map.mp h1
    obtain ⟨_, _, e⟩ := List.mem_map.mp h2
    injection e with _ e _; exact e.symm
def keepT (w : Wk) (h : Hr) (S : List Stt) (s : Stt) : Bool := !((actL w s).filter fun b => keepsB w h s b S).isEmpty
def keptS (w : Wk) : List Hr → List Stt
  | [] => states40 w
  | h :: hs => (states40 w).filter (keepT w h (keptS w hs))
def keptTabs (w : Wk) : List Hr → List (Dic Stt Bool)
  | [] => [setD (keptS w [])]
  | h :: hs => setD (keptS w (h :: hs)) :: keptTabs w hs
theorem keptTabs_first {w : Wk} : ∀ {hs : List Hr}, (keptTabs w hs)[0]? = some (setD (keptS w hs))
  | [] => rfl
  | _ :: _ => rfl
theorem keptTabs_len {w : Wk} : ∀ {hs : List Hr}, (keptTabs w hs).length = hs.length + 1
  | [] => rfl
  | _ :: hs => congrArg (· + 1) (keptTabs_len (hs := hs))
theorem keepsB_eq {w : Wk} {h : Hr} {s : Stt} {b : Bool} {S : List Stt} : keepsB w h s b S = true ↔ ∀ l, (spanL w h s.level b).1 ≤ l → l ≤ (spanL w h s.level b).2 → goodL w h b l = true ∧ (⟨l, b, lSince w s b⟩ : Stt) ∈ S := by
  unfold keepsB
  rw [List.all_eq_true]
  exact ⟨fun z l h1 h2 => by have y := z l (mem_lvls.mpr ⟨h1, h2⟩); rw [Bool.and_eq_true, decide_eq_true_eq] at y; exact y, fun z l hl => by rw [Bool.and_eq_true, decide_eq_true_eq]; obtain ⟨h1, h2⟩ := mem_lvls.mp hl; exact z l h1 h2⟩
section
variable {w : Wk} {c : Crs}
theorem keptS_is (hw : w.Ok) (hc : c.Ok) : ∀ (m k : Nat), k + m = c.hours.length → ∀ s : Stt, s ∈ keptS w (c.hours.drop k) ↔ s.Ok w ∧ worstAt w c k s.shut s.since s.level ≠ 1000
  | 0, k, e, s => by
    have ek : k = c.hours.length := by omega
    rw [ek, List.drop_length]
    unfold keptS
    rw [mem_states40, worst_end]
    exact ⟨fun z => ⟨z, by decide⟩, fun z => z.1⟩
  | m + 1, k, e, s => by
    have lt : k < c.hours.length := by omega
    obtain ⟨hh, gk⟩ := hAt0_ok hc lt
    rw [drop_at gk]
    unfold keptS
    rw [List.mem_filter, mem_states40]
    refine and_congr_right fun ok => ?_
    unfold keepT
    rw [Bool.not_eq_true', List.isEmpty_eq_false_iff_exists_mem, worst_min hw hc lt ok]
    have ih := keptS_is hw hc m (k + 1) (by omega)
    have one : ∀ b, (b ∈ (actL w s).filter fun b => keepsB w (hAt0 c k) s b (keptS w (c.hours.drop (k + 1)))) ↔ costI w c k s b ≠ 1000 := by
      intro b
      rw [List.mem_filter, mem_actL ok, keepsB_eq]
      constructor
      · rintro ⟨may, z⟩ e0
        obtain ⟨y, y1, y2, q⟩ := not_all hw hc lt ok may e0
        obtain ⟨g, mm⟩ := z y y1 y2
        have v := ((ih _).mp mm).2
        unfold holdsB at q
        rw [g] at q
        simp only [Bool.true_and] at q
        exact v (by simpa using q)
      · intro ne
        have may := costI_may ne
        refine ⟨may, fun y y1 y2 => ?_⟩
        obtain ⟨g, v, _⟩ := cost_step hw hc lt ok ne y1 y2
        have p0 : 0 ≤ y := Int.le_trans (next_pos' hw hh ok.1.1 (Int.le_refl _) (Int.le_refl _)) y1
        exact ⟨g, (ih _).mpr ⟨good_ok p0 g hw ok, v⟩⟩
    have l1 := costI_le (w := w) (k := k) (s := s) (b := false) hc
    have l2 := costI_le (w := w) (k := k) (s := s) (b := true) hc
    constructor
    · rintro ⟨b, hb⟩
      have z := (one b).mp hb
      cases b <;> omega
    · intro z
      by_cases q : costI w c k s false = 1000
      · exact ⟨true, (one true).mpr (by omega)⟩
      · exact ⟨false, (one false).mpr q⟩
end
def small (x : Int) : Prop := -3000 ≤ x ∧ x ≤ 3000
structure Fit (m : Nat) (rs : List Row) : Prop where
  len : rs.length ≤ 890 + m
  row : ∀ r ∈ rs, (small r.hour ∧ small r.since) ∧ r.sp.length ≤ 210 + m ∧ ∀ p ∈ r.sp, small p.1 ∧ small p.2
theorem Fit.mono {m n : Nat} {rs : List Row} (f : Fit m rs) (h : m ≤ n) : Fit n rs := ⟨by have := f.len; omega, fun r hr => ⟨(f.row r hr).1, by have := (f.row r hr).2.1; omega, (f.row r hr).2.2⟩⟩
theorem bulk_list {α : Type} [Rp α] [Dt α] {B : Nat} : ∀ {xs : List α}, (∀ x ∈ xs, (Dt.d x).bulk ≤ B) → PyData.bulkAll (xs.map Dt.d) ≤ xs.length * (B + 1)
  | [], _ => Nat.zero_le _
  | x :: xs, h => by
    have a := h x List.mem_cons_self
    have b := bulk_list (xs := xs) fun y hy => h y (List.mem_cons_of_mem _ hy)
    rw [List.map_cons, List.length_cons, Nat.succ_mul]
    simp only [PyData.bulkAll]
    omega
theorem short_list {α : Type} [Rp α] [Dt α] : ∀ {xs : List α}, (∀ x ∈ xs, PyData.leavesShort 13 (Dt.d x) = true) → PyData.leavesShortAll 13 (xs.map Dt.d) = true
  | [], _ => rfl
  | x :: xs, h => by
    rw [List.map_cons]
    simp only [PyData.leavesShortAll]
    rw [h x List.mem_cons_self, short_list (xs := xs) fun y hy => h y (List.mem_cons_of_mem _ hy)]; rfl
theorem sh_list {α : Type} [Rp α] [Dt α] : ∀ {xs : List α}, (∀ x ∈ xs, (Dt.d x).showable = true ∧ (Dt.d x).hasDict = false) → PyData.showableAll (xs.map Dt.d) = true ∧ PyData.hasDictAll (xs.map Dt.d) = false
  | [], _ => ⟨rfl, rfl⟩
  | x :: xs, h => by
    have a := sh_list (xs := xs) fun y hy => h y (List.mem_cons_of_mem _ hy)
    have b := h x List.mem_cons_self
    rw [List.map_cons]
    simp only [PyData.showableAll, PyData.hasDictAll]
    rw [b.1, b.2, a.1, a.2]; exact ⟨rfl, rfl⟩
theorem small_log {x : Int} (h : small x) : decide (x.natAbs.log2 < 1920) = true := by
  refine decide_eq_true ?_
  unfold small at h
  by_cases z : x.natAbs = 0
  · rw [z]; decide
  · have y : x.natAbs.log2 < 12 := (Nat.log2_lt z).mpr (by have : (2 : Nat) ^ 12 = 4096 := by decide
                                                           omega)
    omega
theorem rows_fit {w : Wk} {c : Crs} (hw : w.Ok) (hc : c.Ok) {f : Nat → Bool × Int → Row} {L : Nat → Bool → Int → List Int} (hf : ∀ k g, f k g = ⟨k, g.1, g.2, stretch (L k g.1 g.2)⟩) (hL : ∀ k b s, ∀ l ∈ L k b s, 0 ≤ l ∧ l ≤ w.wall) (hl : ∀ k b s, (L k b s).length ≤ 201) {m : Nat} (hm : m ≤ 73) : Fit 0 ((rowsTo f w m).filter hasSp) := by
  have hw' := hw
  unfold Wk.Ok at hw'
  constructor
  · have a := rowsTo_len (f := f) hw (m := m)
    have b := List.length_filter_le hasSp (rowsTo f w m)
    omega
  · intro r hr
    obtain ⟨k, hk, g, hg, rfl⟩ := mem_rowsTo.mp (List.mem_filter.mp hr).1
    have hg := mem_gates.mp hg
    have sp := (row_sp hf hL hr).2
    rw [hf] at sp ⊢
    simp only at sp ⊢
    refine ⟨⟨⟨by omega, by omega⟩, by omega, by omega⟩, Nat.le_trans (stretch_len _) (by have := hl k g.1 g.2; omega), fun p hp => ?_⟩
    have z := stretch_in (P := fun x => 0 ≤ x ∧ x ≤ w.wall) (ls := L k g.1 g.2) (f := []) (hL k g.1 g.2) (fun p hp => by cases hp) p hp
    exact ⟨⟨by omega, by omega⟩, by omega, by omega⟩
theorem filt_len {f : Int → Bool} {n : Int} (h : n ≤ 201) : ((span 0 n).filter f).length ≤ 201 := by
  refine Nat.le_trans (List.length_filter_le _ _) ?_
  rw [span_len]; omega
end Sk
set_option maxHeartbeats 4000000
namespace Sk
open PySem L2 PyProof.Rows Rk
def newRow (w : Wk) (n cell : Int) : Row := ⟨cell / 8 % (n + 1), decide (cell / 48 % 2 = 1), 1 + cell / 96 % w.rest, [(cell / 300 % w.wall, w.wall)]⟩
def wrongs (w : Wk) (far : Int) : List (Int × Int) := [(0, w.wall + 2), (1, 1), (0 - 1 - far, 1), (2, 1), (w.wall + 1, w.wall + 2), (w.wall + 2 + far, w.wall + 90)]
def bads4 (w : Wk) (n far : Int) (r : Row) : List Row := [⟨0 - 1 - far, r.shut, r.since, r.sp⟩, ⟨n + 1 + far, r.shut, r.since, r.sp⟩, ⟨r.hour, r.shut, w.rest + 1 + far, r.sp⟩] ++ [⟨r.hour, r.shut, 0 - far, r.sp⟩]
def badSt (r : Row) (place : Int) (st : Int × Int) : Row := ⟨r.hour, r.shut, r.since, r.sp.take place.toNat ++ [st] ++ r.sp.drop place.toNat⟩
def bads (w : Wk) (n far place : Int) (r : Row) (m : Nat) : List Row := bads4 w n far r ++ ((wrongs w far).take m).map (badSt r place)
def put (rs : List Row) (at_ : Int) (mid : List Row) (from_ : Int) : List Row := rs.take at_.toNat ++ mid ++ rs.drop from_.toNat
def changedF (w : Wk) (n cell : Int) (rs : List Row) (r : Row) (p : Int × Int) : List Row :=
  if cell % 8 = 0 ∨ rs = [] then rs ++ [newRow w n cell]
  else if cell % 8 = 1 then rs.take (cell / 8 % (rs.length : Int)).toNat ++ rs.drop (cell / 8 % (rs.length : Int) + 1).toNat
  else if cell % 8 = 2 ∧ r.sp ≠ [] then
    (if 1 < p.2 - p.1 then put rs (cell / 8 % (rs.length : Int)) [⟨r.hour, r.shut, r.since, [(p.1 + 1, p.2)] ++ r.sp.drop 1⟩] (cell / 8 % (rs.length : Int) + 1)
     else put rs (cell / 8 % (rs.length : Int)) [⟨r.hour, r.shut, r.since, r.sp.drop 1⟩] (cell / 8 % (rs.length : Int) + 1))
  else if cell % 8 = 3 then put rs (cell / 8 % (rs.length : Int)) [⟨r.hour, !r.shut, r.since, r.sp⟩] (cell / 8 % (rs.length : Int) + 1)
  else if cell % 8 = 4 then put rs (cell / 8 % (rs.length : Int)) [⟨r.hour, r.shut, r.since, [(cell / 100 % (w.wall + 1), cell / 100 % (w.wall + 1) + 1)] ++ r.sp⟩] (cell / 8 % (rs.length : Int) + 1)
  else if cell % 8 = 5 then put rs (cell / 8 % (rs.length : Int)) [((bads w n (cell / 1000 % 60) (cell / 90 % ((r.sp.length : Int) + 1)) r 6)[(cell / 100 % 10).toNat]?).getD r] (cell / 8 % (rs.length : Int))
  else if cell % 8 = 6 then rs.reverse
  else rs
end Sk
namespace Sk
open PySem L2 PyProof.Rows Rk
theorem take_new {α : Type} {xs : List α} (h : xs.Nodup) {i : Nat} {x : α} (e : xs[i]? = some x) : x ∉ xs.take i := fun m => by
  have tk : xs.take (i + 1) = xs.take i ++ [x] := take_at e
  have nd := h.sublist (List.take_sublist (i + 1) xs)
  rw [tk] at nd
  exact (List.nodup_append.mp nd).2.2 x m x (List.mem_singleton.mpr rfl) rfl
theorem keepT_yes {w : Wk} {h : Hr} {S : List Stt} {s : Stt} (q : ¬ ((actL w s).filter fun b => keepsB w h s b S).map (fun b => b) = []) : keepT w h S s = true := by
  rw [List.map_id''] at q
  · unfold keepT
    rw [Bool.not_eq_true', List.isEmpty_eq_false_iff]; exact q
  · intro x; rfl
theorem keepT_no {w : Wk} {h : Hr} {S : List Stt} {s : Stt} (q : ((actL w s).filter fun b => keepsB w h s b S).map (fun b => b) = []) : keepT w h S s = false := by
  rw [List.map_id''] at q
  · unfold keepT
    rw [Bool.not_eq_false', List.isEmpty_iff]; exact q
  · intro x; rfl
theorem kept_step {w : Wk} {hs : List Hr} {h : Hr} {i : Nat} (e : hs[hs.length - 1 - i]? = some h) (li : i < hs.length) : keptTabs w (hs.drop (hs.length - (i + 1))) = setD ((states40 w).filter (keepT w h (keptS w (hs.drop (hs.length - i))))) :: keptTabs w (hs.drop (hs.length - i)) := by
  have a : hs.length - (i + 1) = hs.length - 1 - i := by omega
  have b : hs.length - 1 - i + 1 = hs.length - i := by omega
  rw [a, drop_at e, b]; rfl
end Sk
namespace Sk
open PySem L2 PyProof.Rows Rk
end Sk
namespace Sk
open PySem L2 PyProof.Rows Rk
section
variable {w : Wk} {c : Crs} {s : Stt} {rs : List Row}
end
end Sk
set_option maxHeartbeats 4000000
namespace Rk
open PySem L2 PyProof.Rows
@[reducible] def Fx.more (F : Fx) (ft : Addr → Prop) : Fx := ⟨F.X, F.cls, fun a => F.hs a ∨ ft a, F.B⟩
section
variable {G : Gm} {hs : Addr → Prop} {B : Hp} {own : Nat → Option Addr} {env : List Ent} {σ : L2.St} {H H1 H2 : Hp}
theorem hd_more {hs hs' : Addr → Prop} (h : ∀ a, hs a → hs' a) {a : Addr} (z : hd hs own a) : hd hs' own a := z.imp (h a) id
theorem same_begin {ft : Addr → Prop} (s : Same H1 H2) (new : ∀ a, ft a → H1 a = none) : Same (Hid (hd hs own) H1) (Hid (hd (fun a => hs a ∨ ft a) own) H2) := fun a o e => by
  have h1 := hid_of e
  have nh : ¬ hd hs own a := fun z => by unfold Hid at e; rw [if_pos z] at e; cases e
  rw [hid_at fun z => by
    rcases z with (z | z) | z
    · exact nh (.inl z)
    · rw [new a z] at h1; cases h1
    · exact nh (.inr z)]
  exact s a o h1
theorem Kn.begin {ft : Addr → Prop} (k : Kn G hs B own env σ H1) (s : Same H1 H2) (new : ∀ a, ft a → H1 a = none) (nn : ∀ a, ft a → H2 a ≠ none) : Kn G (fun a => hs a ∨ ft a) B own env σ H2 where
  ex := k.ex.trans s
  hsB := fun a h => h.elim (fun h => stays s (k.hsB a h)) (nn a)
  dis := fun i p h z => z.elim (k.dis i p h) fun z => (k.new i p h).2 (new p z)
  len := k.len
  inj := k.inj
  new := fun i p h => ⟨(k.new i p h).1, stays s (k.new i p h).2⟩
  out := k.out
  ent := fun i e h => by
    have sm : Same (Hid (hd hs own) H1) (Hid (hd (fun a => hs a ∨ ft a) own) H2) := same_begin s new
    have z := k.ent i e h
    cases e with
    | no => trivial
    | sh d => obtain ⟨v, h1, h2⟩ := z; exact ⟨v, h1, DV.mono sm h2⟩
    | ow o => obtain ⟨p, ho, h0, h1, h2, h3⟩ := z; exact ⟨p, ho, h0, h1, s _ _ h2, o.mono sm h3⟩
    | gh m => obtain ⟨v, h1, h2⟩ := z; exact ⟨v, h1, m.mono sm (fun a o _ => less_mono s a o) h2⟩
theorem Kn.less {hs' : Addr → Prop} (k : Kn G hs' B own env σ H) (h : ∀ a, hs a → hs' a) : Kn G hs B own env σ H where
  ex := k.ex
  hsB := fun a z => k.hsB a (h a z)
  dis := fun i p e z => k.dis i p e (h p z)
  len := k.len
  inj := k.inj
  new := k.new
  out := k.out
  ent := fun i e q => by
    have sm : Same (Hid (hd hs' own) H) (Hid (hd hs own) H) := hid_more fun a z => hd_more h z
    have z := k.ent i e q
    cases e with
    | no => trivial
    | sh d => obtain ⟨v, h1, h2⟩ := z; exact ⟨v, h1, DV.mono sm h2⟩
    | ow o => obtain ⟨p, ho, h0, h1, h2, h3⟩ := z; exact ⟨p, ho, h0, h1, h2, o.mono sm h3⟩
    | gh m => obtain ⟨v, h1, h2⟩ := z; exact ⟨v, h1, m.mono sm (fun a o _ e => e) h2⟩
theorem Kn.toG {i : Nat} {m : MV} {d : DV} {v : V} (k : Kn G hs B own env σ H) (he : env[i]? = some (.sh d)) (hσ : σ[i]? = some (some v)) (ok : m.ok G (Hid (hd hs own) H) (lessOwn own H) v) : Kn G hs B own (env.set i (.gh m)) σ H := by
  have hi : i < env.length := (List.getElem?_eq_some_iff.mp he).1
  exact { k with
    len := by rw [List.length_set]; exact k.len
    out := fun j q hj => by
      obtain ⟨o, ho⟩ := k.out j q hj
      by_cases e : i = j
      · subst e; rw [he] at ho; cases ho
      · exact ⟨o, by rw [List.getElem?_set_ne e]; exact ho⟩
    ent := fun j e hj => by
      by_cases q : i = j
      · subst q
        rw [List.getElem?_set_self hi] at hj
        cases hj
        exact ⟨v, hσ, ok⟩
      · rw [List.getElem?_set_ne q] at hj
        exact k.ent j e hj }
end
section
variable {F : Fx} {env : List Ent} {P : Po} {own own' : Nat → Option Addr} {σ : L2.St} {H H2 : Hp} {sts : List Stmt} {ft : Addr → Prop}
theorem Port.more {ex : XP} (p : Port F own H ex) (f : Same (Hid (hd F.hs own) H) (Hid (hd (F.more ft).hs own') H2)) : Port (F.more ft) own' H2 ex := by
  have le : ∀ a, F.hs a → (F.more ft).hs a := fun _ z => .inl z
  exact ⟨p.1, p.2.elim fun W ⟨t, w⟩ => ⟨W, t, fun env o C dd σ H' k g q x => w env o C dd σ H' (k.less le) ((Same.trans f g).trans (hid_more fun a z => hd_more le z)) q (x.mono (hid_more fun a z => hd_more le z))⟩⟩
end
section
variable {F : Fx} {env : List Ent} {ex : XP} {a b c e : Expr} {es : List Expr} {pos p0 p1 p2 p3 : Pos} {n x f : Str} {P : Po} {sts : List Stmt}
end
@[reducible] def gRp {δ : Type} (T : Kd δ) (B : Hp) : Rp δ where
  rep := fun G H v d => ∃ ix, v = .ref (T.hd ix) ∧ (∀ a, T.ft ix a → B a = none) ∧ (T.mv ix d).ok G (Hid (T.ft ix) H) H v
  mono := fun s ⟨ix, e, n, ok⟩ => ⟨ix, e, n, (T.mv ix _).mono (hid_same s) (fun a o _ z => s a o z) ok⟩
def spF {α : Type} (I : Hp → Rp α) (K : PySem.W.Frag) (cls : Nat → Addr) (S : List DV → Except Nat α → Prop) : Sp := fun vs H Q E => ∃ (hs : Addr → Prop) (ds : List DV) (r : Except Nat α), (∀ x, hs x → H x ≠ none) ∧ RepAll ⟨K, cls⟩ (Hid hs H) vs ds ∧ S ds r ∧
  match r with
  | .ok a => ∀ v H', Same H H' → (I H).rep ⟨K, cls⟩ (Hid hs H') v a → Q v H'
  | .error c => ∀ dd H', Same H H' → Xd c dd (Hid hs H') → E (.ref (cls c)) dd H'
def bodyF {α : Type} (I : Hp → Rp α) (B : Hp) (r : Except Nat α) : Po := { nx := fun _ => False, rt := fun d => ∃ a, r = .ok a ∧ d = ⟨α, I B, a⟩, ex := fun _ C => r = .error C }
section
variable {PP : Program} {w : World} {K : PySem.W.Frag} {mg : Str → Option Value} {base : Heap} {cls : Nat → Addr}
theorem fn_okF {α : Type} {I : Hp → Rp α} {name qual : Str} {st : Stmt} {f : Addr} {fd : FuncData} {N ps : List Str} {k : Nat} {S : List DV → Except Nat α → Prop} (Fn : Fun K name qual st f fd) (sc : FnScope N ps (defScope st)) (len : ∀ ds r, S ds r → ds.length = ps.length)
    (hb : ∀ (cd : Value) (A : Around) (outer : List Env) (s : Shared) (H : Hp) (E : XK) (hs : Addr → Prop) (ds : List DV) (r : Except Nat α), Room k (A.deeper (envOfC qual (defScope st) s.heap.objs.size f cd)) → S ds r →
      KSs (fx PP w K mg base cls N qual (defScope st) f cd A outer s H E hs) (env0 ds N.length) (defBody st) (bodyF I H r)) : FnOk PP w K mg base (L2.CX PP w) (k + 1) f fd ps (spF I K cls S) := by
  refine Fn.okX sc (fun vs H Q E ⟨hs, ds, r, _, rv, hS, _⟩ => by rw [rv.len]; exact len ds r hS) (fun cd A outer s H vs Q E hr ⟨hs, ds, r, hh, rv, hS, q⟩ => ⟨_, peSs, ?_⟩)
  have kn := kn_start (N := N) hh rv
  have pt : Port (fx PP w K mg base cls N qual (defScope st) f cd A outer s H E hs) (fun _ => none) H (bodyF I H r).ex := by
    refine ⟨passes_of rfl, _, takes_of (E := E) rfl rfl rfl rfl, fun env own' C dd σ H' k' fr e xd => ?_⟩
    have e : r = .error C := e
    subst e
    exact q dd H' k'.ex (xd.mono (hid_more fun _ z => .inl z))
  refine tSs_mono (D := ends (fx PP w K mg base cls N qual (defScope st) f cd A outer s H E hs) (fun _ => none) H (bodyF I H r)) ?_ ?_ ?_ ?_ (hb cd A outer s H E hs ds r hr hS _ _ H kn pt)
  · rintro σ' H' ⟨env', own', k', fr, e⟩
    exact e.elim
  · rintro v H' ⟨d, sm, rd, ⟨a, e, ed⟩, _⟩
    subst e
    subst ed
    exact q v H' sm rd
  · rintro σ' H' ⟨env', own', k', fr, e⟩
    exact e.elim
  · rintro σ' H' ⟨env', own', k', fr, e⟩
    exact e.elim
end
def GotF {α : Type} (env : List Ent) (ex : XP) (Q : α → Prop) : Except Nat α → Prop
  | .ok a => Q a
  | .error c => ex env c
section
variable {F : Fx} {env : List Ent} {ex : XP} {e : Expr} {es : List Expr} {pos p0 p1 p2 : Pos} {n x f : Str} {P : Po} {sts : List Stmt}
section
variable {kk : Nat} {fa : Addr} {fd : FuncData} {ps : List Str}
def GotL {δ : Type} (T : Kd δ) (F : Fx) (env : List Ent) (i : Nat) (sts : List Stmt) (P : Po) (P' : T.ι → Po) : Except Nat δ → Prop
  | .ok d => ∀ ix : T.ι, Hot (F.more (T.ft ix)) (T.ft ix) → (∀ a, T.ft ix a → ¬ F.hs a) → KSs (F.more (T.ft ix)) (env.set i (.gh (T.mv ix d))) sts (P' ix)
  | .error c => P.ex env c
structure Less {δ : Type} (T : Kd δ) (F : Fx) (P : Po) (P' : T.ι → Po) : Prop where
  ex : ∀ ix env C, (P' ix).ex env C → P.ex env C
  nx : ∀ ix env, (P' ix).nx env → P.nx env
  bk : ∀ ix env, (P' ix).bk env → P.bk env
  ct : ∀ ix env, (P' ix).ct env → P.ct env
  rt : ∀ ix v H, Hot (F.more (T.ft ix)) (T.ft ix) → (∀ a, T.ft ix a → ¬ F.hs a) → Rt (F.more (T.ft ix)) (P' ix).rt (P' ix).re v H → Rt F P.rt P.re v H
theorem Less.same {δ : Type} {T : Kd δ} : Less T F P fun _ => P where
  ex := fun _ _ _ h => h
  nx := fun _ _ h => h
  bk := fun _ _ h => h
  ct := fun _ _ h => h
  rt := fun ix v H _ _ ⟨d, s, rd, q, env', o, σ', k, e⟩ => ⟨d, s, DV.mono (hid_more fun _ z => .inl z) rd, q, env', o, σ', k.less fun _ z => .inl z, e⟩
theorem ks_beginF {δ : Type} {T : Kd δ} {S : List DV → Except Nat δ → Prop} {P' : T.ι → Po} (i : Nat) (nd : F.X.N.Nodup) (hi : F.X.N[i]? = some x) (ls : Less T F P P') (G : FnOk F.X.prog F.X.w F.X.K F.X.mg F.X.base (L2.CX F.X.prog F.X.w) kk fa fd ps (spF (gRp T) F.X.K F.cls S)) (hr : Room kk F.X.A) (hm : F.X.mg n = some (.ref fa)) (hk : PySem.W.keepIn F.X.K (.ref fa) = true) (hb : Binds F.X.K fd ps [])
    (h : KA F env (e :: es) P.ex fun ds => ∃ r, S ds r ∧ GotL T F env i sts P P' r) (hil : i < env.length := by exact Nat.le_of_ble_eq_true rfl) (hg : Gl F.X n := by rfl) (hdb : (n == ("__debug__" : Str)) = false := by decide)
    (hz : starEach (e :: es) F.X.env = (false, eval e F.X.env) :: starEach es F.X.env := by rfl) (hpl : (backTo p2 (starEach es F.X.env)).any (·.1) = false := by rfl)
    (hx : Loc F.X.env.scope x := by first | exact Or.inl rfl | exact Or.inr rfl) (hs : swapsWith (.Call (.Name n p0) (e :: es) [] p2) (some (.Name x p1)) pos.line F.X.env = pure false := by rfl)
    (hf : F.X.fn x = true ∨ F.X.env.scope.names.lookup x = some .local := by exact Or.inl rfl) : KSs F env (.Assign [.Name x p1] (.Call (.Name n p0) (e :: es) [] p2) pos :: sts) P := KSs.mk fun own σ H k p => by
  obtain ⟨pa, W, tk, hw⟩ := id p
  refine tSs_of (pss_cons peS peSs) (tS_of (ps_set nd hi hx peE hs hf) ?_)
  refine tE_of (pe_callS G hr hg hm hk hb (fun σ => passAt tk σ) peA hdb hz hpl) (tA_mono (fun vs H1 ⟨ds, sm, rr, r, hS, q⟩ => ?_) (h own σ H k p))
  have kn := k.mono sm
  refine ⟨hd F.hs own, ds, r, Kn.hidden kn, rr, hS, ?_⟩
  cases r with
  | ok d =>
    rintro v H' s' ⟨ix, rfl, new, ok⟩
    have nn : ∀ a, T.ft ix a → H' a ≠ none := fun a z e => T.nn ok a z (by unfold Hid; split <;> first | rfl | exact e)
    have nh : ∀ a, T.ft ix a → ¬ hd F.hs own a := fun a z u => T.nn ok a z (by unfold Hid; rw [if_pos u])
    have hot : Hot (F.more (T.ft ix)) (T.ft ix) := ⟨fun a z => .inr z, fun a z => same_none kn.ex (new a z)⟩
    have k2 : Kn F.G (fun a => F.hs a ∨ T.ft ix a) F.B own env σ H' := kn.begin s' new nn
    have k3 := k2.set (i := i) (v := .ref (T.hd ix)) (d := dv (V.ref (T.hd ix))) rfl
    have hl : i < σ.length := by rw [k.len]; exact hil
    have k4 := k3.toG (i := i) (m := T.mv ix d) (List.getElem?_set_self hil) (List.getElem?_set_self hl) ((T.mv ix d).mono (fun a o z => by
      have z1 := hid_of z
      have z3 : ¬ T.ft ix a := fun u => by unfold Hid at z; rw [if_pos u] at z; cases z
      have z2 : ¬ hd F.hs own a := fun u => by unfold Hid at z1; rw [if_pos u] at z1; cases z1
      rw [hid_at fun u => by
        rcases u with (u | u) | ⟨j, u⟩
        · exact z2 (.inl u)
        · exact z3 u
        · exact z2 (.inr ⟨j, (drop_sub u).1⟩)]
      exact hid_of z1) (fun a o z e => by
      rw [T.hft] at z
      unfold lessOwn
      rw [hid_at fun ⟨j, u⟩ => nh a z (.inr ⟨j, (drop_sub u).1⟩)]; exact hid_of e) ok)
    rw [List.set_set] at k4
    have f : Same (Hid (hd F.hs own) H) (Hid (hd (F.more (T.ft ix)).hs (drop own i)) H') := (hid_same sm).trans ((same_begin (ft := T.ft ix) s' new).trans (hid_more fun a z => drop_hd z))
    have le : ∀ a, F.hs a → (F.more (T.ft ix)).hs a := fun _ z => .inl z
    have at_ : ∀ {p q : List Ent → Prop} {σ' : L2.St} {H2 : Hp}, (∀ env, p env → q env) → At (F.more (T.ft ix)) (drop own i) H' p σ' H2 → At F own H q σ' H2 := fun pq ⟨env', o, k, fr, q⟩ =>
      ⟨env', o, k.less le, (Same.trans f fr).trans (hid_more fun a z => hd_more le z), pq _ q⟩
    exact tSs_mono (D := ends (F.more (T.ft ix)) (drop own i) H' (P' ix)) (D' := ends F own H P) (fun _ _ z => at_ (ls.nx ix) z) (fun v H' z => ls.rt ix v H' hot (fun a z u => nh a z (.inl u)) z) (fun _ _ z => at_ (ls.bk ix) z) (fun _ _ z => at_ (ls.ct ix) z)
      ((q ix hot (fun a z u => nh a z (.inl u))) (drop own i) (σ.set i (some (.ref (T.hd ix)))) H' k4 ((p.more f).imp (ls.ex ix)))
  | error cc => exact fun dd H' s' x => hw env own cc dd σ H' (kn.mono s') (Fr.of (sm.trans s')) q x
end
end
end Rk
set_option maxHeartbeats 4000000
namespace Rk
open PySem L2 PyProof.Rows Sk
variable {B : Hp}
structure NewL (B : Hp) where
  xs : List (Int × Int)
instance : Rp (NewL B) where
  rep := fun G H v x => (fsh B (inferInstance : Rp (List (Int × Int)))).rep G H v x.xs
  mono := fun s h => (fsh B (inferInstance : Rp (List (Int × Int)))).mono s h
structure RowB (B : Hp) where
  r : Row
def RowB.ds (x : RowB B) : List DV := [dv x.r.hour, dv x.r.shut, dv x.r.since, dv (NewL.mk x.r.sp : NewL B)]
instance : Rp (RowB B) := tpRp RowB.ds
theorem cv_newL (x : NewL B) : Cv x x.xs := fun G H v r => r.1
@[reducible] def rowsI (B : Hp) : Rp (List Row) where
  rep := fun G H v a => Rp.rep G H v (a.map (RowB.mk (B := B))) ∧ ∃ p, v = .ref p ∧ B p = none
  mono := fun e h => ⟨Rp.mono e h.1, h.2⟩
section
variable {F : Fx} {env : List Ent} {ex : XP} {e c : Expr} {pos p0 p1 p2 p3 q1 : Pos} {x n : Str} {P : Po} {sts body : List Stmt}
theorem k_newL {Q : NewL F.B → Prop} (h : KEN F env e ex fun xs : List (Int × Int) => Q ⟨xs⟩) : KE F env e ex Q := fun own σ H k p =>
  tE_mono (fun v H' ⟨y, s, ⟨r, q, eq, z⟩, hq⟩ => ⟨⟨y⟩, s, ⟨r, q, eq, same_none k.ex z⟩, hq⟩) (h own σ H k p)
theorem s_retRows (h : KEN F env e P.ex fun xs : List (RowB F.B) => ∃ a : List Row, xs = a.map RowB.mk ∧ P.rt ⟨List Row, rowsI F.B, a⟩) (hre : P.re env := by exact True.intro) : KS F env (.Return (some e) pos) P := KS.mk fun own σ H k p =>
  tS_of (ps_ret peE) (tE_mono (fun v H' ⟨y, s, ⟨r, q, eq, z⟩, a, ea, hq⟩ => ⟨⟨List Row, rowsI F.B, a⟩, k.ex.trans s, ⟨by rw [← ea]; exact Rp.mono (hid_more fun _ z => .inl z) r, q, eq, same_none k.ex z⟩, hq, env, own, σ, k.mono s, hre⟩) (h own σ H k p))
end
def RowsAt (G : Gm) (S H : Hp) : List V → List Addr → List Row → Prop
  | [], [], [] => True
  | v :: vs, a :: as, r :: rs => (∃ p, v = .ref p ∧ S p = some (.tup [.int r.hour, .bl r.shut, .int r.since, .ref a]) ∧ ∃ ws, H a = some (.lst ws) ∧ RepAll G S ws (dvs r.sp)) ∧ RowsAt G S H vs as rs
  | _, _, _ => False
theorem pairs_mv {G : Gm} {S S' : Hp} (t : ∀ a vs, S a = some (.tup vs) → S' a = some (.tup vs)) : ∀ {ws : List V} {xs : List (Int × Int)}, RepAll G S ws (dvs xs) → RepAll G S' ws (dvs xs)
  | [], [], _ => trivial
  | [], _ :: _, h => h.elim
  | _ :: _, [], h => h.elim
  | _ :: _, _ :: _, ⟨⟨p, vs, e, a, b⟩, r⟩ => ⟨⟨p, vs, e, t _ _ a, match vs, b with | [_, _], b => b⟩, pairs_mv t r⟩
theorem RowsAt.mv {G : Gm} {S S' H H' : Hp} (t : ∀ a vs, S a = some (.tup vs) → S' a = some (.tup vs)) : ∀ {vs : List V} {as : List Addr} {rs : List Row}, (∀ a ∈ as, ∀ o, H a = some o → H' a = some o) → RowsAt G S H vs as rs → RowsAt G S' H' vs as rs
  | [], [], [], _, _ => trivial
  | [], [], _ :: _, _, h => h.elim
  | [], _ :: _, _, _, h => h.elim
  | _ :: _, [], _, _, h => h.elim
  | _ :: _, _ :: _, [], _, h => h.elim
  | _ :: _, a :: as, _ :: _, l, ⟨⟨p, e, q, ws, h1, h2⟩, r⟩ => ⟨⟨p, e, t _ _ q, ws, l a List.mem_cons_self _ h1, pairs_mv t h2⟩, RowsAt.mv t (fun b m => l b (List.mem_cons_of_mem _ m)) r⟩
theorem RowsAt.lst {G : Gm} {S H : Hp} : ∀ {vs : List V} {as : List Addr} {rs : List Row} {a : Addr}, RowsAt G S H vs as rs → a ∈ as → ∃ r ws, r ∈ rs ∧ H a = some (.lst ws) ∧ RepAll G S ws (dvs r.sp)
  | [], [], [], _, _, m => nomatch m
  | [], [], _ :: _, _, h, _ => h.elim
  | [], _ :: _, _, _, h, _ => h.elim
  | _ :: _, [], _, _, h, _ => h.elim
  | _ :: _, _ :: _, [], _, h, _ => h.elim
  | _ :: _, b :: as, r :: _, a, ⟨⟨p, e, q, ws, h1, h2⟩, t⟩, m => by
    rcases List.mem_cons.mp m with z | z
    · subst z; exact ⟨r, ws, List.mem_cons_self, h1, h2⟩
    · obtain ⟨r2, ws2, m2, z2⟩ := t.lst z
      exact ⟨r2, ws2, List.mem_cons_of_mem _ m2, z2⟩
theorem RowsAt.row {G : Gm} {S H : Hp} : ∀ {vs : List V} {as : List Addr} {rs : List Row} {v : V}, RowsAt G S H vs as rs → v ∈ vs → ∃ p h b s a, v = .ref p ∧ S p = some (.tup [h, b, s, .ref a]) ∧ a ∈ as
  | [], _, _, _, _, m => nomatch m
  | _ :: _, [], _, _, h, _ => h.elim
  | _ :: _, _ :: _, [], _, h, _ => h.elim
  | _ :: _, b :: as, r :: _, v, ⟨⟨p, e, q, ws, h1, h2⟩, t⟩, m => by
    rcases List.mem_cons.mp m with z | z
    · subst z; exact ⟨p, _, _, _, b, e, q, List.mem_cons_self⟩
    · obtain ⟨p2, h, b2, s, a, e2, z2, m2⟩ := t.row z
      exact ⟨p2, h, b2, s, a, e2, z2, List.mem_cons_of_mem _ m2⟩
theorem RowsAt.len {G : Gm} {S H : Hp} : ∀ {vs : List V} {as : List Addr} {rs : List Row}, RowsAt G S H vs as rs → vs.length = rs.length ∧ as.length = rs.length
  | [], [], [], _ => ⟨rfl, rfl⟩
  | _ :: _, _ :: _, _ :: _, ⟨_, t⟩ => ⟨congrArg (· + 1) t.len.1, congrArg (· + 1) t.len.2⟩
theorem RowsAt.rep {G : Gm} {S H : Hp} {S' : Hp} (t : ∀ a vs, S a = some (.tup vs) → S' a = some (.tup vs)) : ∀ {vs : List V} {as : List Addr} {rs : List Row}, (∀ a ∈ as, ∀ o, H a = some o → S' a = some o) → RowsAt G S H vs as rs → RepAll G S' vs (dvs rs)
  | [], [], [], _, _ => trivial
  | [], [], _ :: _, _, h => h.elim
  | [], _ :: _, _, _, h => h.elim
  | _ :: _, [], _, _, h => h.elim
  | _ :: _, _ :: _, [], _, h => h.elim
  | _ :: _, a :: as, _ :: _, l, ⟨⟨p, e, q, ws, h1, h2⟩, r⟩ => ⟨⟨p, _, e, t _ _ q, rfl, rfl, rfl, ⟨a, ws, rfl, l a List.mem_cons_self _ h1, pairs_mv t h2⟩, trivial⟩, RowsAt.rep t (fun b m => l b (List.mem_cons_of_mem _ m)) r⟩
def mvRows (o : Addr) (as : List Addr) (rows : List Row) : MV where
  ft := fun a => a = o ∨ a ∈ as
  ok := fun G S H v => v = .ref o ∧ o ∉ as ∧ ∃ vs, H o = some (.lst vs) ∧ RowsAt G S H vs as rows
  mono := fun s t ⟨e, n, vs, h1, h2⟩ => ⟨e, n, vs, t _ _ (.inl rfl) h1, h2.mv (fun a vs z => s _ _ z) fun a m o z => t _ _ (.inr m) z⟩
@[reducible] def KRw : Kd (List Row) where
  ι := Addr × List Addr
  mv := fun i rows => mvRows i.1 i.2 rows
  hd := fun i => i.1
  ft := fun i a => a = i.1 ∨ a ∈ i.2
  hft := fun _ _ => rfl
  hv := fun h => h.1
  nn := fun ⟨_, _, vs, h1, h2⟩ a z => by
    rcases z with z | z
    · rw [z, h1]; exact nofun
    · obtain ⟨_, ws, _, h3, _⟩ := h2.lst z; rw [h3]; exact nofun
theorem rows_out {G : Gm} {Hx : Hp} : ∀ {vs : List V} {rows : List Row}, RepAll G Hx vs (dvs (rows.map (RowB.mk (B := B)))) → ∃ as, RowsAt G Hx Hx vs as rows ∧ ∀ a ∈ as, B a = none
  | [], [], _ => ⟨[], trivial, fun _ h => nomatch h⟩
  | [], _ :: _, h => h.elim
  | _ :: _, [], h => h.elim
  | v :: vs, r :: rs, ⟨⟨p, us, e, a, b⟩, t⟩ => by
    obtain ⟨as, h1, h2⟩ := rows_out (rows := rs) t
    match us, b with
    | [u1, u2, u3, u4], b =>
      have e1 : u1 = V.int r.hour := b.1
      have e2 : u2 = V.bl r.shut := b.2.1
      have e3 : u3 = V.int r.since := b.2.2.1
      obtain ⟨⟨q, ws, e4, h3, h4⟩, q', e5, h5⟩ := b.2.2.2.1
      subst e1 e2 e3 e4
      injection e5 with e5
      subst e5
      refine ⟨q :: as, ⟨⟨p, e, a, ws, h3, h4⟩, h1⟩, fun a' m => ?_⟩
      rcases List.mem_cons.mp m with z | z
      · rw [z]; exact h5
      · exact h2 a' z
theorem rows_led {G : Gm} {Hx : Hp} {v : V} {rows : List Row} (ne : ∀ r ∈ rows, r.sp ≠ []) (h : (rowsI B).rep G Hx v rows) : (gRp KRw B).rep G Hx v rows := by
  obtain ⟨⟨o, vs, e, h1, h2⟩, o', eo, hB⟩ := h
  rw [e] at eo
  injection eo with eo
  subst eo
  obtain ⟨as, h3, h4⟩ := rows_out h2
  have no : o ∉ as := fun m => by
    -- the first row is a tuple of four, the first stretch one of two
    obtain ⟨r, ws, mr, z1, z2⟩ := h3.lst m
    rw [h1] at z1
    injection z1 with z1
    injection z1 with z1
    subst z1
    cases hs : r.sp with
    | nil => exact ne r mr hs
    | cons y ys =>
      rw [hs] at z2
      cases vs with
      | nil => exact z2.elim
      | cons v0 vs =>
        obtain ⟨p, us, e1, q1, q2⟩ := z2.1
        obtain ⟨p2, _, _, _, _, e2, q3, _⟩ := h3.row (List.mem_cons_self (a := v0))
        rw [e1] at e2
        injection e2 with e2
        subst e2
        rw [q1] at q3
        injection q3 with q3
        injection q3 with q3
        have l := q2.len
        rw [q3] at l
        cases l
  refine ⟨(o, as), e, fun a z => ?_, e, no, vs, h1, h3.mv (fun a us z => ?_) fun a m o z => z⟩
  · rcases z with z | z
    · rw [z]; exact hB
    · exact h4 a z
  · rw [hid_at fun y => ?_]
    · exact z
    · rcases y with y | y
      · rw [y] at z; rw [h1] at z; cases z
      · obtain ⟨_, ws, _, y2, _⟩ := h3.lst y
        rw [y2] at z; cases z
theorem led_of {K : PySem.W.Frag} {cls : Nat → Addr} {S : List DV → Except Nat (List Row) → Prop} (ne : ∀ ds a, S ds (.ok a) → ∀ r ∈ a, r.sp ≠ []) (vs : List V) (H : Hp) (Q : VK) (E : XK) (h : spF (gRp KRw) K cls S vs H Q E) : spF rowsI K cls S vs H Q E := by
  obtain ⟨hs, ds, r, hh, rv, hS, q⟩ := h
  refine ⟨hs, ds, r, hh, rv, hS, ?_⟩
  cases r with
  | ok a => exact fun v H' s rd => q v H' s (rows_led (ne ds a hS) rd)
  | error c => exact q
@[reducible] def Fx.shown (F : Fx) (ft : Addr → Prop) : Fx := ⟨F.X, F.cls, fun a => F.hs a ∧ ¬ ft a, F.B⟩
section
variable {F : Fx} {env : List Ent} {ex : XP} {e c : Expr} {pos p0 p1 p2 p3 q1 : Pos} {x n : Str} {P : Po} {sts body : List Stmt}
theorem kt_view {ix : Addr × List Addr} {rows : List Row} {Q : Bool → Prop} (i : Nat) (he : env[i]? = some (.gh (KRw.mv ix rows))) (h : KT (F.shown (KRw.ft ix)) (env.set i (.sh (dv rows))) c (fun _ _ => False) Q) : KT F env c ex Q := fun own σ H k p => by
  have hi : i < env.length := (List.getElem?_eq_some_iff.mp he).1
  have k1 : Kn F.G (fun a => F.hs a ∧ ¬ KRw.ft ix a) F.B own env σ H := Kn.less k fun a z => z.1
  obtain ⟨v, hσ, ev, no, vs, h1, h2⟩ := (show EntOk F.G F.hs own σ H i (.gh (KRw.mv ix rows)) from k.ent i _ he)
  have un : ∀ a, KRw.ft ix a → ∀ o, lessOwn own H a = some o → Hid (hd (fun a => F.hs a ∧ ¬ KRw.ft ix a) own) H a = some o := fun a z o q => by
    have q1 := less_same _ _ q
    rw [hid_at fun y => by
      rcases y with y | y
      · exact y.2 z
      · unfold lessOwn Hid at q; rw [if_pos y] at q; cases q]
    exact q1
  have sm : Same (Hid (hd F.hs own) H) (Hid (hd (fun a => F.hs a ∧ ¬ KRw.ft ix a) own) H) := hid_more fun a z => z.imp And.left id
  have rp : Rp.rep F.G (Hid (hd (fun a => F.hs a ∧ ¬ KRw.ft ix a) own) H) v rows := ⟨ix.1, vs, ev, un _ (.inl rfl) _ h1, h2.rep (fun a us z => sm _ _ z) fun a m o z => un a (.inr m) o z⟩
  have k2 : Kn F.G (fun a => F.hs a ∧ ¬ KRw.ft ix a) F.B own (env.set i (.sh (dv rows))) σ H := { k1 with
    len := by rw [List.length_set]; exact k1.len
    out := fun j q hj => by
      obtain ⟨o, ho⟩ := k1.out j q hj
      by_cases z : i = j
      · subst z; rw [he] at ho; cases ho
      · exact ⟨o, by rw [List.getElem?_set_ne z]; exact ho⟩
    ent := fun j e2 hj => by
      by_cases z : i = j
      · subst z
        rw [List.getElem?_set_self hi] at hj
        cases hj
        exact ⟨v, hσ, rp⟩
      · rw [List.getElem?_set_ne z] at hj
        exact k1.ent j e2 hj }
  exact h own σ H k2 ⟨p.1, p.2.elim fun W ⟨t, _⟩ => ⟨W, t, fun _ _ _ _ _ _ _ _ z _ => z.elim⟩⟩
theorem Kn.exG {ι : Sort _} {i : Nat} {m : MV} {m' : ι → MV} {own : Nat → Option Addr} {σ : L2.St} {H : Hp} (k : F.Kn own env σ H) (he : env[i]? = some (.gh m)) (h : ∀ (G : Gm) (S H : Hp) (v : V), m.ok G S H v → ∃ x, (m' x).ok G S H v) : ∃ x, F.Kn own (env.set i (.gh (m' x))) σ H := by
  have hi : i < env.length := (List.getElem?_eq_some_iff.mp he).1
  obtain ⟨v, hσ, ok⟩ := (show EntOk F.G F.hs own σ H i (.gh m) from k.ent i _ he)
  obtain ⟨y, ok'⟩ := h _ _ _ _ ok
  exact ⟨y, { k with
    len := by rw [List.length_set]; exact k.len
    out := fun j q hj => by
      obtain ⟨o, ho⟩ := k.out j q hj
      by_cases z : i = j
      · subst z; rw [he] at ho; cases ho
      · exact ⟨o, by rw [List.getElem?_set_ne z]; exact ho⟩
    ent := fun j e2 hj => by
      by_cases z : i = j
      · subst z
        rw [List.getElem?_set_self hi] at hj
        cases hj
        exact ⟨v, hσ, ok'⟩
      · rw [List.getElem?_set_ne z] at hj
        exact k.ent j e2 hj }⟩
theorem ks_exG {ι : Sort _} (i : Nat) {m : MV} (m' : ι → MV) (he : env[i]? = some (.gh m)) (h : ∀ (G : Gm) (S H : Hp) (v : V), m.ok G S H v → ∃ x, (m' x).ok G S H v) (q : ∀ y, KSs F (env.set i (.gh (m' y))) sts P) : KSs F env sts P := KSs.mk fun own σ H k p =>
  (k.exG he h).elim fun y k' => q y own σ H k' p
end
def mvJ (o : Addr) (as : List Addr) (n : Nat) (vs : List V) : MV where
  ft := fun a => a = o ∨ a ∈ as
  ok := fun G S H v => v = .ref o ∧ o ∉ as ∧ H o = some (.lst vs) ∧ vs.length ≤ 1000 ∧ (∀ u ∈ vs, ∃ p h b s a, u = .ref p ∧ S p = some (.tup [h, b, s, .ref a]) ∧ a ∈ as) ∧ ∀ a ∈ as, ∃ ws, H a = some (.lst ws) ∧ ws.length ≤ n
  mono := fun s t ⟨e, n, h1, h0, h2, h3⟩ => ⟨e, n, t _ _ (.inl rfl) h1, h0, fun u m => by
    obtain ⟨p, h, b, c, a, e1, e2, e3⟩ := h2 u m
    exact ⟨p, h, b, c, a, e1, s _ _ e2, e3⟩, fun a m => by
    obtain ⟨ws, w1, w2⟩ := h3 a m
    exact ⟨ws, t _ _ (.inr m) w1, w2⟩⟩
def mvL (o : Addr) (as : List Addr) (n : Nat) : MV where
  ft := fun a => a = o ∨ a ∈ as
  ok := fun G S H v => v = .ref o ∧ ∀ a, (a = o ∨ a ∈ as) → ∃ ws, H a = some (.lst ws) ∧ ws.length ≤ n
  mono := fun s t ⟨e, h3⟩ => ⟨e, fun a m => by
    obtain ⟨ws, w1, w2⟩ := h3 a m
    exact ⟨ws, t _ _ m w1, w2⟩⟩
theorem rows_J {o : Addr} {as : List Addr} {rows : List Row} (n : rows.length ≤ 1000) (l : ∀ r ∈ rows, r.sp.length ≤ 1000) (G : Gm) (S H : Hp) (v : V) (h : (mvRows o as rows).ok G S H v) : ∃ vs, (mvJ o as 1000 vs).ok G S H v := by
  obtain ⟨e, no, vs, h1, h2⟩ := h
  refine ⟨vs, e, no, h1, by rw [h2.len.1]; exact n, fun u m => h2.row m, fun a m => ?_⟩
  obtain ⟨r, ws, mr, z1, z2⟩ := h2.lst m
  exact ⟨ws, z1, by rw [z2.len, dvs_len]; exact l r mr⟩
theorem J_L {o : Addr} {as : List Addr} {n : Nat} {vs : List V} (hn : 1000 ≤ n) (G : Gm) (S H : Hp) (v : V) (h : (mvJ o as n vs).ok G S H v) : (mvL o as n).ok G S H v := by
  obtain ⟨e, no, h1, h0, h2, h3⟩ := h
  refine ⟨e, fun a m => ?_⟩
  rcases m with m | m
  · rw [m]; exact ⟨vs, h1, Nat.le_trans h0 hn⟩
  · exact h3 a m
theorem L_le {o : Addr} {as : List Addr} {n m : Nat} (hn : n ≤ m) (G : Gm) (S H : Hp) (v : V) (h : (mvL o as n).ok G S H v) : (mvL o as m).ok G S H v := ⟨h.1, fun a z => by
  obtain ⟨ws, w1, w2⟩ := h.2 a z
  exact ⟨ws, w1, Nat.le_trans w2 hn⟩⟩
structure Chg (m m' : MV) (a : Addr) (f : List V → List V → Prop) : Prop where
  ft : m.ft a
  ft2 : ∀ b, m'.ft b → m.ft b
  nn : ∀ {G S H v}, m.ok G S H v → ∀ b, m.ft b → H b ≠ none
  at_ : ∀ {G S H v}, m.ok G S H v → ∃ ws, H a = some (.lst ws) ∧ ws.length < 100000
  go : ∀ {G S H v ws zs}, m.ok G S H v → H a = some (.lst ws) → f ws zs → m'.ok G S (upd H a (.lst zs)) v
section
variable {F : Fx} {env : List Ent} {ex : XP} {e c : Expr} {pos p0 p1 p2 p3 q1 : Pos} {x n : Str} {P : Po} {sts body : List Stmt} {own : Nat → Option Addr} {σ : L2.St} {H : Hp}
theorem Kn.chgL {m m' : MV} {a : Addr} {f : List V → List V → Prop} {i : Nat} (k : F.Kn own env σ H) (he : env[i]? = some (.gh m)) (hot : Hot F m.ft) (sep : Sep env i m.ft) (c : Chg m m' a f) :
    ∃ ws, H a = some (.lst ws) ∧ ws.length < 100000 ∧ ∀ zs, f ws zs → F.Kn own (env.set i (.gh m')) σ (upd H a (.lst zs)) ∧ Fr F.hs own own H (upd H a (.lst zs)) := by
  obtain ⟨v, hσ, ok0⟩ := (show EntOk F.G F.hs own σ H i (.gh m) from k.ent i _ he)
  have ok : m.ok F.G (Hid (hd F.hs own) H) H v := m.mono (Same.refl _) (fun b o _ z => less_same _ _ z) ok0
  obtain ⟨ws, h1, h2⟩ := c.at_ ok
  refine ⟨ws, h1, h2, fun zs hf => ?_⟩
  have sp : Same (Hid m.ft H) (upd H a (.lst zs)) := butF_upd c.ft
  have hh : Hid (hd F.hs own) (upd H a (.lst zs)) = Hid (hd F.hs own) H := hid_upd (.inl (hot.h a c.ft))
  refine ⟨Kn.hot k he hot hσ sep sp (fun b z => ?_) (by rw [hh]; exact c.go ok h1 hf) c.ft2, Fr.hot hot sp⟩
  by_cases q : b = a
  · rw [q, upd_same]; exact nofun
  · rw [upd_ne q]; exact c.nn ok b z
theorem s_gvApp {α : Type} [Rp α] {m m' : MV} {a : Addr} (ix i : Nat) (hN : F.X.N[ix]? = some x) (hx : env[ix]? = some (.sh (dv (V.ref a)))) (he : env[i]? = some (.gh m)) (hot : Hot F m.ft) (c : Chg m m' a fun ws zs => ∃ u, zs = ws ++ [u]) (sep : Sep env i m.ft)
    (h : KE F env e P.ex fun _ : α => P.nx (env.set i (.gh m'))) (z : Ns F e [] := by rfl)
    (hv : Vis F.X.env.scope x := by first | exact Or.inl rfl | exact Or.inr (Or.inl rfl) | exact Or.inr (Or.inr rfl)) (hdb : (x == ("__debug__" : Str)) = false := by decide) (hcd : (x == ("__classdict__" : Str)) = false := by decide)
    (hbase : attributeBase (.Name x p1) "append" F.X.env (eval (.Name x p1) F.X.env) = eval (.Name x p1) F.X.env := by rfl)
    (hfew : ((backTo p0 (starEach (e :: []) F.X.env)).all (fun x => !x.1) && (backToKw p0 (keywordEach [] F.X.env)).all (fun x => x.1.isSome)
      && decide ((e :: ([] : List Expr)).length + ([] : List Keyword).length + (if ([] : List Keyword).isEmpty then 0 else 1) < 30)) = true := by rfl)
    (hline : (q1.endLine == p0.line) = true := by rfl) (hplain : (backTo p0 (starEach ([] : List Expr) F.X.env)).any (·.1) = false := by rfl)
    (hs : swapsWith (.Call (.Attribute (.Name x p1) "append" q1) [e] [] p0) none pos.line F.X.env = pure false := by rfl) :
    KS F env (.Expr (.Call (.Attribute (.Name x p1) "append" q1) [e] [] p0) pos) P := KS.mk fun own σ H k pt => by
  obtain ⟨v, g1, g2⟩ := k.sh hx
  have g2 : v = V.ref a := g2
  subst g2
  obtain ⟨ws, h1, _, _⟩ := k.chgL he hot sep c
  refine tS_of (ps_expr (pe_bm PySem.F.plainAttrs_list PySem.F.slot_list_append PySem.F.type_list_append mt_append (pe_var hN hv hdb hcd) (pa_cons peE pa_nil z) hbase hfew hline z hplain) hs) ⟨.ref a, g1, .inl ⟨rfl, _, SqL.of h1⟩, ?_⟩
  refine tE_mono (fun u H' ⟨y, s, r, q⟩ => ?_) (h own σ H k pt)
  obtain ⟨ws, h1, h2, h3⟩ := (k.mono s).chgL he hot sep c
  obtain ⟨k2, f2⟩ := h3 _ ⟨u, rfl⟩
  exact ⟨a, ws, u, rfl, rfl, h1, Nat.lt_of_lt_of_le h2 (by decide : 100000 ≤ sizeLine), _, own, k2, (Fr.of s).trans f2, q⟩
theorem s_gvRev {m m' : MV} {a : Addr} (ix i : Nat) (hN : F.X.N[ix]? = some x) (hx : env[ix]? = some (.sh (dv (V.ref a)))) (he : env[i]? = some (.gh m)) (hot : Hot F m.ft) (c : Chg m m' a fun ws zs => zs = ws.reverse) (sep : Sep env i m.ft)
    (h : P.nx (env.set i (.gh m')))
    (hv : Vis F.X.env.scope x := by first | exact Or.inl rfl | exact Or.inr (Or.inl rfl) | exact Or.inr (Or.inr rfl)) (hdb : (x == ("__debug__" : Str)) = false := by decide) (hcd : (x == ("__classdict__" : Str)) = false := by decide)
    (hbase : attributeBase (.Name x p1) "reverse" F.X.env (eval (.Name x p1) F.X.env) = eval (.Name x p1) F.X.env := by rfl) (hline : (q1.endLine == p0.line) = true := by rfl)
    (hs : swapsWith (.Call (.Attribute (.Name x p1) "reverse" q1) [] [] p0) none pos.line F.X.env = pure false := by rfl) :
    KS F env (.Expr (.Call (.Attribute (.Name x p1) "reverse" q1) [] [] p0) pos) P := KS.mk fun own σ H k pt => by
  obtain ⟨v, g1, g2⟩ := k.sh hx
  have g2 : v = V.ref a := g2
  subst g2
  obtain ⟨ws, h1, h2, h3⟩ := k.chgL he hot sep c
  obtain ⟨k2, f2⟩ := h3 _ rfl
  exact tS_of (ps_expr (pe_bm0 PySem.F.plainAttrs_list PySem.F.slot_list_reverse PySem.F.type_list_reverse mt_reverse (pe_var hN hv hdb hcd) hbase hline) hs) ⟨.ref a, g1, .inl ⟨rfl, _, SqL.of h1⟩, a, ws, rfl, rfl, h1, _, own, k2, f2, h⟩
structure Q4 where
  a : V
  b : V
  c : V
  d : V
def Q4.ds (q : Q4) : List DV := [dv q.a, dv q.b, dv q.c, dv q.d]
instance : Rp Q4 := tpRp Q4.ds
theorem s_forJ4 {tgt : Expr} {o : Addr} {as : List Addr} {n0 : Nat} {vs : List V} {f : Q4 → List Ent → List Ent} {g : TG} {is : List Nat} (tg : Tg F tgt Q4 g is f) (ix i : Nat) (hN : F.X.N[ix]? = some x) (hx : env[ix]? = some (.sh (dv (V.ref o)))) (he : env[i]? = some (.gh (mvJ o as n0 vs)))
    (h : ∃ I : Nat → List Ent → Prop, I 0 env ∧ (∀ j env', I j env' → ∃ n, env'[i]? = some (.gh (mvJ o as n vs))) ∧ (∀ j y env', j < vs.length → (∃ a, a ∈ as ∧ y.d = V.ref a) → I j env' → KSs F (f y env') body (turn P (I (j + 1)))) ∧ ∀ env', I vs.length env' → P.nx env')
    (hc : F.X.calm = true := by rfl) (hs : ∀ y, foldedSetIterable (.Name x p1) F.X.env y = pure y := by intro _; rfl)
    (hv : Vis F.X.env.scope x := by first | exact Or.inl rfl | exact Or.inr (Or.inl rfl) | exact Or.inr (Or.inr rfl)) (hdb : (x == ("__debug__" : Str)) = false := by decide) (hcd : (x == ("__classdict__" : Str)) = false := by decide) : KS F env (.For tgt (.Name x p1) body [] pos) P := KS.mk fun own σ H k p => by
  obtain ⟨v, g1, g2⟩ := k.sh hx
  have g2 : v = V.ref o := g2
  subst g2
  obtain ⟨I, h0, hI, h1, h2⟩ := h
  have rd : ∀ {own' env' σ' H' n}, F.Kn own' env' σ' H' → env'[i]? = some (.gh (mvJ o as n vs)) → H' o = some (.lst vs) ∧ ∀ u ∈ vs, ∃ p h b s a, u = V.ref p ∧ Hid (hd F.hs own') H' p = some (.tup [h, b, s, .ref a]) ∧ a ∈ as := fun {own' env' σ' H' n} k' z => by
    obtain ⟨_, _, _, _, q1, _, q2, _⟩ := (show EntOk F.G F.hs own' σ' H' i (.gh (mvJ o as n vs)) from k'.ent i _ z)
    exact ⟨less_same _ _ q1, q2⟩
  obtain ⟨e1, e2⟩ := rd k he
  refine tS_of (ps_for p.1 hc (pi_list (pe_var hN hv hdb hcd)) tg.pg peSs hs) ⟨_, g1, o, rfl, ⟨vs, SqL.of e1⟩, ?_⟩
  refine for_list (K := F.X.K) (a := o) (xs := vs) (fun j σ' H' => ∃ own', Fr F.hs own own' H H' ∧ ∃ env', F.Kn own' env' σ' H' ∧ I j env') ⟨own, Fr.refl, env, k, h0⟩ ?_ ?_ ?_
  · rintro j σ' H' _ ⟨own', fr, env', k', hj⟩
    obtain ⟨n, z⟩ := hI j env' hj
    exact SqL.of (rd k' z).1
  · rintro j v' σ' H' hv' ⟨own', fr, env', k', hj⟩
    obtain ⟨n, z⟩ := hI j env' hj
    obtain ⟨q, a1, a2, a3, a4, eu, hq, m⟩ := (rd k' z).2 v' (List.mem_of_getElem? hv')
    refine tg.sem ⟨a1, a2, a3, .ref a4⟩ _ env' own' σ' H' v' k' ⟨q, _, eu, hq, rfl, rfl, rfl, rfl, trivial⟩ fun own2 σ2 k2 f2 _ _ => ?_
    have tot : Fr F.hs own own2 H H' := fr.trans f2
    refine tSs_mono (D := ends F own2 H' (turn P (I (j + 1)))) ?n (fun _ _ z => z) (fun _ _ z => At.more tot z) ?c (h1 j ⟨a1, a2, a3, .ref a4⟩ env' (List.getElem?_eq_some_iff.mp hv').1 ⟨a4, m, rfl⟩ hj own2 σ2 H' k2 (p.step tot))
    all_goals
      rintro σ3 H3 ⟨env3, own3, k3, f3, q3⟩
      exact ⟨own3, fr.trans (f2.trans f3), env3, k3, q3⟩
  · rintro σ' H' ⟨own', fr, env', k', hj⟩
    exact ⟨env', own', k', fr, h2 env' hj⟩
end
theorem chg_J {o : Addr} {as : List Addr} {n : Nat} {vs : List V} {a : Addr} {f : List V → List V → Prop} (m : a ∈ as) (hn : n < 90000) (d : Nat) (hf : ∀ ws zs, f ws zs → zs.length ≤ ws.length + d) : Chg (mvJ o as n vs) (mvJ o as (n + d) vs) a f where
  ft := .inr m
  ft2 := fun _ z => z
  nn := fun ⟨_, _, h1, _, _, h3⟩ b z => by
    rcases z with z | z
    · rw [z, h1]; exact nofun
    · obtain ⟨ws, w1, _⟩ := h3 b z; rw [w1]; exact nofun
  at_ := fun ⟨_, _, _, _, _, h3⟩ => by
    obtain ⟨ws, w1, w2⟩ := h3 a m
    exact ⟨ws, w1, by omega⟩
  go := fun {G S H v ws zs} ⟨e, no, h1, h0, h2, h3⟩ ha hz => by
    have ne : o ≠ a := fun z => no (by rw [z]; exact m)
    refine ⟨e, no, by rw [upd_ne ne]; exact h1, h0, h2, fun b mb => ?_⟩
    by_cases q : b = a
    · rw [q, upd_same]
      obtain ⟨ws', w1, w2⟩ := h3 a m
      rw [ha] at w1
      injection w1 with w1
      injection w1 with w1
      subst w1
      have := hf _ _ hz
      exact ⟨zs, rfl, by omega⟩
    · rw [upd_ne q]
      obtain ⟨ws', w1, w2⟩ := h3 b mb
      exact ⟨ws', w1, by omega⟩
theorem chg_L {o : Addr} {as : List Addr} {n : Nat} {a : Addr} {f : List V → List V → Prop} (m : a = o ∨ a ∈ as) (hn : n < 90000) (d : Nat) (hf : ∀ ws zs, f ws zs → zs.length ≤ ws.length + d) : Chg (mvL o as n) (mvL o as (n + d)) a f where
  ft := m
  ft2 := fun _ z => z
  nn := fun ⟨_, h3⟩ b z => by obtain ⟨ws, w1, _⟩ := h3 b z; rw [w1]; exact nofun
  at_ := fun ⟨_, h3⟩ => by
    obtain ⟨ws, w1, w2⟩ := h3 a m
    exact ⟨ws, w1, by omega⟩
  go := fun {G S H v ws zs} ⟨e, h3⟩ ha hz => by
    refine ⟨e, fun b mb => ?_⟩
    by_cases q : b = a
    · rw [q, upd_same]
      obtain ⟨ws', w1, w2⟩ := h3 a m
      rw [ha] at w1
      injection w1 with w1
      injection w1 with w1
      subst w1
      have := hf _ _ hz
      exact ⟨zs, rfl, by omega⟩
    · rw [upd_ne q]
      obtain ⟨ws', w1, w2⟩ := h3 b mb
      exact ⟨ws', w1, by omega⟩
theorem len_app1 (ws zs : List V) (h : ∃ u, zs = ws ++ [u]) : zs.length ≤ ws.length + 1 := by
  obtain ⟨u, e⟩ := h
  rw [e, List.length_append]; exact Nat.le_refl _
theorem len_rev0 (ws zs : List V) (h : zs = ws.reverse) : zs.length ≤ ws.length + 0 := by rw [h, List.length_reverse]; exact Nat.le_refl _
end Rk
set_option maxHeartbeats 1000000
namespace Sk
open PySem L2 PyProof.Rows Rk
theorem strS_end (f : List (Int × Int)) (l : Int) : ∃ p, (strS f l).getLast? = some p ∧ p.2 = l + 1 := by
  unfold strS
  split
  · split <;> exact ⟨_, List.getLast?_concat, rfl⟩
  · exact ⟨_, List.getLast?_concat, rfl⟩
theorem lastIs_at {ls : List Int} {i : Nat} {l x : Int} (h : ls[i]? = some x) : lastIs (stretch (ls.take (i + 1))) l = decide (x + 1 = l) := by
  obtain ⟨p, e, e2⟩ := strS_end (stretch (ls.take i)) x
  unfold lastIs
  rw [stretch_s h, e]
  simp only
  rw [e2]
theorem asc_at {ls : List Int} (a : ls.Pairwise (· < ·)) {i j : Nat} {x y : Int} (h : ls[i]? = some x) (g : ls[j]? = some y) (l : i < j) : x < y := by
  obtain ⟨h1, h2⟩ := List.getElem?_eq_some_iff.mp h
  obtain ⟨g1, g2⟩ := List.getElem?_eq_some_iff.mp g
  have := List.pairwise_iff_getElem.mp a i j h1 g1 l
  rw [h2, g2] at this
  exact this
theorem asc_last {ls : List Int} (a : ls.Pairwise (· < ·)) {i : Nat} {l : Int} (h : ls[i]? = some l) : decide (l - 1 ∈ ls) = lastIs (stretch (ls.take i)) l := by
  cases i with
  | zero =>
    have e : lastIs (stretch (ls.take 0)) l = false := by rfl
    rw [e, decide_eq_false_iff_not]
    intro m
    obtain ⟨j, hj⟩ := List.mem_iff_getElem?.mp m
    cases j with
    | zero => rw [hj] at h; injection h with h; omega
    | succ j => have := asc_at a h hj (Nat.succ_pos _); omega
  | succ i =>
    have hl := (List.getElem?_eq_some_iff.mp h).1
    have hx : ls[i]? = some ls[i] := List.getElem?_eq_getElem (by omega)
    rw [lastIs_at hx, decide_eq_decide]
    have lt := asc_at a hx h (Nat.lt_succ_self i)
    constructor
    · intro m
      obtain ⟨j, hj⟩ := List.mem_iff_getElem?.mp m
      rcases Nat.lt_trichotomy j i with q | q | q
      · have := asc_at a hj hx q; omega
      · subst q; rw [hx] at hj; injection hj with hj; omega
      · by_cases z : j = i + 1
        · subst z; rw [h] at hj; injection hj with hj; omega
        · have := asc_at a h hj (by omega); omega
    · intro e
      have : l - 1 = ls[i] := by omega
      rw [this]; exact List.getElem_mem _
theorem sort_asc {ys ls : List Int} (p : ys.Perm ls) (s : ys.Pairwise (· ≤ ·)) (a : ls.Pairwise (· < ·)) : ys = ls := sorted_eq p s (List.Perm.refl _) (a.imp fun h => Int.le_of_lt h)
theorem asc_span (lo hi : Int) : (span lo hi).Pairwise (· < ·) := by
  unfold span
  rw [List.pairwise_map]
  exact List.pairwise_lt_range.imp fun h => by omega
def lawL (w : Wk) (hs : List Hr) (b : Bool) (k : Nat) (x : Bool) (s : Int) : List Int := (span 0 (w.wall + 1)).filter fun l => decide (decide ((⟨l, x, s⟩ : Stt) ∈ keptS w (hs.drop k)) = b)
def lawRow (w : Wk) (hs : List Hr) (b : Bool) (k : Nat) (g : Bool × Int) : Row := ⟨k, g.1, g.2, stretch (lawL w hs b k g.1 g.2)⟩
theorem lawL_asc {w : Wk} {hs : List Hr} {b : Bool} {k : Nat} {x : Bool} {s : Int} : (lawL w hs b k x s).Pairwise (· < ·) := (asc_span _ _).filter _
theorem lawL_len {w : Wk} {hs : List Hr} {b : Bool} {k : Nat} {x : Bool} {s : Int} (hw : w.Ok) : (lawL w hs b k x s).length ≤ 201 := by
  unfold lawL
  refine Nat.le_trans (List.length_filter_le _ _) ?_
  rw [span_len]; unfold Wk.Ok at hw; omega
section
variable {w : Wk} {c : Crs}
theorem law_mem (hw : w.Ok) (hc : c.Ok) {k : Nat} (hk : k ≤ c.hours.length) {x : Bool} {s : Int} (hs : 1 ≤ s ∧ s ≤ w.rest) {l : Int} (m : l ∈ span 0 (w.wall + 1)) : decide ((⟨l, x, s⟩ : Stt) ∈ keptS w (c.hours.drop k)) = !decide (worstAt w c k x s l = 1000) := by
  have ok : (⟨l, x, s⟩ : Stt).Ok w := by
    have := mem_span.mp m
    refine ⟨⟨this.1, ?_⟩, hs⟩
    show l ≤ w.wall
    omega
  have z := keptS_is hw hc (c.hours.length - k) k (by omega) ⟨l, x, s⟩
  by_cases q : worstAt w c k x s l = 1000
  · rw [decide_eq_true q]
    rw [decide_eq_false fun y => (z.mp y).2 q]; rfl
  · rw [decide_eq_false q]
    rw [decide_eq_true (z.mpr ⟨ok, q⟩)]; rfl
theorem lawL_kept (hw : w.Ok) (hc : c.Ok) {k : Nat} (hk : k ≤ c.hours.length) {x : Bool} {s : Int} (hs : 1 ≤ s ∧ s ≤ w.rest) : lawL w c.hours true k x s = keptL w c k x s := by
  unfold lawL keptL
  refine List.filter_congr fun l m => ?_
  rw [law_mem hw hc hk hs m]
  cases decide (worstAt w c k x s l = 1000) <;> rfl
theorem lawL_lost (hw : w.Ok) (hc : c.Ok) {k : Nat} (hk : k ≤ c.hours.length) {x : Bool} {s : Int} (hs : 1 ≤ s ∧ s ≤ w.rest) : lawL w c.hours false k x s = lostL w c k x s := by
  unfold lawL lostL
  refine List.filter_congr fun l m => ?_
  rw [law_mem hw hc hk hs m]
  cases decide (worstAt w c k x s l = 1000) <;> rfl
theorem rowsTo_congr {f g : Nat → Bool × Int → Row} {m : Nat} (h : ∀ k, k < m → ∀ y ∈ gatesL w, f k y = g k y) : rowsTo f w m = rowsTo g w m := by
  induction m with
  | zero => rfl
  | succ m ih =>
    rw [rowsTo_s, rowsTo_s, ih fun k hk => h k (Nat.lt_succ_of_lt hk)]
    congr 1
    exact List.map_congr_left fun y hy => h m (Nat.lt_succ_self m) y hy
theorem law_keptP (hw : w.Ok) (hc : c.Ok) : (rowsTo (lawRow w c.hours true) w (c.hours.length + 1)).filter hasSp = keptP w c := by
  unfold keptP
  rw [rowsTo_congr (f := lawRow w c.hours true) (g := keptRow w c) fun k hk y hy => by
    have := mem_gates.mp (show (y.1, y.2) ∈ gatesL w from hy)
    unfold lawRow keptRow
    rw [lawL_kept hw hc (by omega) this]]
theorem law_lostP (hw : w.Ok) (hc : c.Ok) : (rowsTo (lawRow w c.hours false) w c.hours.length).filter hasSp = lostP w c := by
  unfold lostP
  rw [rowsTo_congr (f := lawRow w c.hours false) (g := lostRow w c) fun k hk y hy => by
    have := mem_gates.mp (show (y.1, y.2) ∈ gatesL w from hy)
    unfold lawRow lostRow
    rw [lawL_lost hw hc (by omega) this]]
end
theorem stretch_none {ls : List Int} : (stretch ls).isEmpty = ls.isEmpty := by
  rcases List.eq_nil_or_concat ls with h | ⟨a, b, h⟩
  · rw [h]; rfl
  · rw [List.concat_eq_append] at h
    rw [h]
    have e : stretch (a ++ [b]) = strS (stretch a) b := by unfold stretch; rw [List.foldl_append]; rfl
    rw [e]
    obtain ⟨p, q, _⟩ := strS_end (stretch a) b
    cases z : strS (stretch a) b with
    | nil => rw [z] at q; cases q
    | cons x y => simp
theorem paper_sp {rows : List Row} {r : Row} (h : r ∈ rows.filter hasSp) : r.sp ≠ [] := fun e => by
  have := (List.mem_filter.mp h).2
  unfold hasSp at this
  rw [e] at this
  cases this
theorem kept_small {w : Wk} {c : Crs} (hw : w.Ok) (hc : c.Ok) : (keptP w c).length ≤ 1000 ∧ ∀ r ∈ keptP w c, r.sp.length ≤ 1000 := by
  have hl := hc.2.1
  refine ⟨Nat.le_trans (List.length_filter_le _ _) (Nat.le_trans (rowsTo_len hw) (by omega)), fun r m => ?_⟩
  have m := (List.mem_filter.mp m).1
  unfold rowsTo at m
  obtain ⟨k, _, m2⟩ := List.mem_flatMap.mp m
  obtain ⟨g, _, e⟩ := List.mem_map.mp m2
  subst e
  refine Nat.le_trans (stretch_len _) ?_
  unfold keptL
  refine Nat.le_trans (List.length_filter_le _ _) ?_
  rw [span_len]; unfold Wk.Ok at hw; omega
theorem lost_small {w : Wk} {c : Crs} (hw : w.Ok) (hc : c.Ok) : (lostP w c).length ≤ 1000 ∧ ∀ r ∈ lostP w c, r.sp.length ≤ 1000 := by
  have hl := hc.2.1
  refine ⟨Nat.le_trans (List.length_filter_le _ _) (Nat.le_trans (rowsTo_len hw) (by omega)), fun r m => ?_⟩
  have m := (List.mem_filter.mp m).1
  unfold rowsTo at m
  obtain ⟨k, _, m2⟩ := List.mem_flatMap.mp m
  obtain ⟨g, _, e⟩ := List.mem_map.mp m2
  subst e
  refine Nat.le_trans (stretch_len _) ?_
  unfold lostL
  refine Nat.le_trans (List.length_filter_le _ _) ?_
  rw [span_len]; unfold Wk.Ok at hw; omega
theorem map_keep {B : Hp} (rows : List Row) : ((rows.map (RowB.mk (B := B))).filter fun x => hasSp x.r) = (rows.filter hasSp).map (RowB.mk (B := B)) := by
  rw [List.filter_map]; rfl
end Sk
namespace Rk
open PySem L2 PyProof.Rows
theorem Hot.more {F : Fx} {ft ft' : Addr → Prop} (h : Hot F ft) : Hot (F.more ft') ft := ⟨fun a z => .inl (h.h a z), h.b⟩
theorem sep_two {env : List Ent} {i j : Nat} {m : MV} {ft : Addr → Prop} (he : env[j]? = some (.gh m)) (h : NoG ((env.set i .no).set j .no)) (d : ∀ a, ft a → ¬ m.ft a) : Sep env i ft := fun n m2 hn e a z => by
  by_cases q : n = j
  · subst q
    rw [he] at e
    cases e
    exact d a z
  · have : ((env.set i .no).set j .no)[n]? = some (.gh m2) := by rw [List.getElem?_set_ne (Ne.symm q), List.getElem?_set_ne (Ne.symm hn)]; exact e
    exact absurd this (nog_at h)
section
variable {F : Fx} {env : List Ent} {e o : Expr} {pos p0 : Pos} {P : Po}
theorem s_appNewG {α β : Type} [Rp α] [Rp β] {q1 : Pos} (h : KEN F env o P.ex fun xs : List α => xs.length < 100000 ∧ KE F env e P.ex fun _ : β => P.nx env) (z : Ns F e [] := by rfl)
    (hbase : attributeBase o "append" F.X.env (eval o F.X.env) = eval o F.X.env := by rfl)
    (hfew : ((backTo p0 (starEach (e :: []) F.X.env)).all (fun x => !x.1) && (backToKw p0 (keywordEach [] F.X.env)).all (fun x => x.1.isSome)
      && decide ((e :: ([] : List Expr)).length + ([] : List Keyword).length + (if ([] : List Keyword).isEmpty then 0 else 1) < 30)) = true := by rfl)
    (hline : (q1.endLine == p0.line) = true := by rfl) (hplain : (backTo p0 (starEach ([] : List Expr) F.X.env)).any (·.1) = false := by rfl)
    (hs : swapsWith (.Call (.Attribute o "append" q1) [e] [] p0) none pos.line F.X.env = pure false := by rfl) :
    KS F env (.Expr (.Call (.Attribute o "append" q1) [e] [] p0) pos) P := KS.mk fun own σ H k p => by
  refine tS_of (ps_expr (pe_bm PySem.F.plainAttrs_list PySem.F.slot_list_append PySem.F.type_list_append mt_append peE (pa_cons peE pa_nil z) hbase hfew hline z hplain) hs) (tE_mono (fun v H1 ⟨xs, s1, ⟨⟨l, vs, e1, e2, e3⟩, l', el, hl⟩, hz, hy⟩ => ?_) (h own σ H k p))
  subst e1
  cases el
  refine ⟨.inl ⟨rfl, _, SqL.of (hid_of e2)⟩, ?_⟩
  refine tE_mono (fun v H' ⟨y, s, r, q⟩ => ?_) (hy own σ H1 (k.mono s1) (p.mono s1))
  refine ⟨l, vs, v, rfl, rfl, s _ _ (hid_of e2), Nat.lt_of_lt_of_le (by rw [e3.len, dvs_len]; exact hz) (by decide : 100000 ≤ sizeLine), ?_⟩
  have s3 : Same H (upd H' l (.lst (vs ++ [v]))) := fun x u eu => by
    rw [upd_ne (ne_of_none eu hl)]; exact s _ _ (s1 _ _ eu)
  exact ⟨env, own, k.mono s3, Fr.of s3, q⟩
end
end Rk
set_option maxHeartbeats 1000000
namespace Sk
open PySem L2 PyProof.Rows Rk
theorem gates_flat {w : Wk} : (List.take 2 [false, true]).flatMap (fun x : Bool => (span 1 (w.rest + 1)).map fun s => (x, s)) = gatesL w := by
  unfold gatesL
  rfl
theorem gates_s {w : Wk} {j : Nat} {x : Bool} (h : ([false, true] : List Bool)[j]? = some x) : (List.take (j + 1) [false, true]).flatMap (fun x : Bool => (span 1 (w.rest + 1)).map fun s => (x, s)) = (List.take j [false, true]).flatMap (fun x : Bool => (span 1 (w.rest + 1)).map fun s => (x, s)) ++ (span 1 (w.rest + 1)).map fun s => (x, s) := by
  rw [take_at h, List.flatMap_append]
  simp
theorem ktabs_at {w : Wk} : ∀ {hs : List Hr} {k : Nat}, k ≤ hs.length → (keptTabs w hs)[k]? = some (setD (keptS w (hs.drop k)))
  | hs, 0, _ => keptTabs_first
  | [], k + 1, h => absurd h (by simp)
  | x :: hs, k + 1, h => by
    show (keptTabs w hs)[k]? = _
    rw [ktabs_at (hs := hs) (k := k) (by simpa using h)]
    rfl
theorem one_yes {w : Wk} {hs : List Hr} {b : Bool} {i : Nat} {x : Bool} {s : Int} {ls : List Int} (e : ls = lawL w hs b i x s) (h : ¬ ls = []) : ([lawRow w hs b i (x, s)]).filter hasSp = [⟨(i : Int), x, s, stretch ls⟩] := by
  have z : hasSp (lawRow w hs b i (x, s)) = true := by
    unfold hasSp lawRow
    rw [stretch_none, ← e]
    cases ls with
    | nil => exact absurd rfl h
    | cons _ _ => rfl
  rw [List.filter_cons, if_pos z, List.filter_nil, e]
  rfl
theorem one_no {w : Wk} {hs : List Hr} {b : Bool} {i : Nat} {x : Bool} {s : Int} {ls : List Int} (e : ls = lawL w hs b i x s) (h : ls = []) : ([lawRow w hs b i (x, s)]).filter hasSp = [] := by
  have z : ¬ hasSp (lawRow w hs b i (x, s)) = true := by
    unfold hasSp lawRow
    rw [stretch_none, ← e, h]
    decide
  rw [List.filter_cons, if_neg z, List.filter_nil]
end Sk
namespace Sk
open PySem L2 PyProof.Rows Rk
theorem law_rows_sz {w : Wk} {hs : List Hr} {b : Bool} {i j : Nat} {x : Bool} {m : Int} (hw : w.Ok) (hm : m ≤ w.rest) (hi : i ≤ 100) : ((rowsTo (lawRow w hs b) w i).filter hasSp ++ (((List.take j [false, true]).flatMap fun x : Bool => (span 1 (w.rest + 1)).map fun s => (x, s)).map (lawRow w hs b i)).filter hasSp ++ (((span 1 (1 + m)).map fun s => (x, s)).map (lawRow w hs b i)).filter hasSp).length < 100000 := by
  have h1 := Nat.le_trans (List.length_filter_le hasSp (rowsTo (lawRow w hs b) w i)) (rowsTo_len hw)
  have h2 := List.length_filter_le hasSp (((List.take j [false, true]).flatMap fun x : Bool => (span 1 (w.rest + 1)).map fun s => (x, s)).map (lawRow w hs b i))
  have h3 := List.length_filter_le hasSp (((span 1 (1 + m)).map fun s => (x, s)).map (lawRow w hs b i))
  have h4 : ((List.take j [false, true]).flatMap fun x : Bool => (span 1 (w.rest + 1)).map fun s => (x, s)).length ≤ 12 := by
    unfold Wk.Ok at hw
    have e : ∀ x : Bool, ((span 1 (w.rest + 1)).map fun s => (x, s)).length ≤ 6 := fun x => by rw [List.length_map, span_len]; omega
    match j with
    | 0 => simp
    | 1 => have := e false; simp at this ⊢; omega
    | j + 2 => have := e false; have := e true; simp at *; omega
  rw [List.length_map] at h2 h3
  rw [List.length_map, span_len] at h3
  unfold Wk.Ok at hw
  rw [List.length_append, List.length_append]
  omega
end Sk
set_option maxHeartbeats 4000000
namespace Sk
open PySem L2 PyProof.Rows Rk
def top (i : Nat) : Stmt := PySem.Challenge.pw_surgekept_k41_rows_of_the_papers.main.body.getD i (.Pass ⟨0, 0, 0, 0⟩)
abbrev s_is_whole : Stmt := top 14
theorem sc_is_whole : FnScope ["value", "least", "most"] ["value", "least", "most"] (defScope s_is_whole) := ⟨rfl, rfl, rfl, by decide +kernel, rfl, by decide +kernel, by decide +kernel⟩
abbrev s_check_works_number : Stmt := top 22
theorem sc_check_works_number : FnScope ["name", "value", "least", "most"] ["name", "value", "least", "most"] (defScope s_check_works_number) := ⟨rfl, rfl, rfl, by decide +kernel, rfl, by decide +kernel, by decide +kernel⟩
abbrev s_Works_next_level : Stmt := inClass (top 15) 4
theorem sc_Works_next_level : FnScope ["self", "level", "shut", "sea", "river"] ["self", "level", "shut", "sea", "river"] (defScope s_Works_next_level) := ⟨rfl, rfl, rfl, by decide +kernel, rfl, by decide +kernel, by decide +kernel⟩
abbrev s_Works_check_state : Stmt := inClass (top 15) 1
theorem sc_Works_check_state : FnScope ["self", "state", "level", "shut", "since"] ["self", "state"] (defScope s_Works_check_state) := ⟨rfl, rfl, rfl, by decide +kernel, rfl, by decide +kernel, by decide +kernel⟩
abbrev s_Works_may_move : Stmt := inClass (top 15) 2
theorem sc_Works_may_move : FnScope ["self", "state"] ["self", "state"] (defScope s_Works_may_move) := ⟨rfl, rfl, rfl, by decide +kernel, rfl, by decide +kernel, by decide +kernel⟩
abbrev s_Works_moved : Stmt := inClass (top 15) 3
theorem sc_Works_moved : FnScope ["self", "state", "shut", "_", "was_shut", "since"] ["self", "state", "shut"] (defScope s_Works_moved) := ⟨rfl, rfl, rfl, by decide +kernel, rfl, by decide +kernel, by decide +kernel⟩
abbrev s_check_bounds : Stmt := top 24
theorem sc_check_bounds : FnScope ["low", "high"] ["low", "high"] (defScope s_check_bounds) := ⟨rfl, rfl, rfl, by decide +kernel, rfl, by decide +kernel, by decide +kernel⟩
abbrev s_check_hour : Stmt := top 23
theorem sc_check_hour : FnScope ["hour", "sea_low", "sea_high", "river_low", "river_high", "ship"] ["hour"] (defScope s_check_hour) := ⟨rfl, rfl, rfl, by decide +kernel, rfl, by decide +kernel, by decide +kernel⟩
abbrev s_Works__init : Stmt := inClass (top 15) 0
theorem sc_Works__init : FnScope ["self", "wall", "flow", "pump", "rest", "deep"] ["self", "wall", "flow", "pump", "rest", "deep"] (defScope s_Works__init) := ⟨rfl, rfl, rfl, by decide +kernel, rfl, by decide +kernel, by decide +kernel⟩
abbrev s_Course__init : Stmt := inClass (top 16) 0
theorem sc_Course__init : FnScope ["self", "hours", "hour"] ["self", "hours"] (defScope s_Course__init) := ⟨rfl, rfl, rfl, by decide +kernel, rfl, by decide +kernel, by decide +kernel⟩
abbrev s_Course_count : Stmt := inClass (top 16) 1
theorem sc_Course_count : FnScope ["self"] ["self"] (defScope s_Course_count) := ⟨rfl, rfl, rfl, by decide +kernel, rfl, by decide +kernel, by decide +kernel⟩
abbrev s_Course_hour : Stmt := inClass (top 16) 2
theorem sc_Course_hour : FnScope ["self", "number"] ["self", "number"] (defScope s_Course_hour) := ⟨rfl, rfl, rfl, by decide +kernel, rfl, by decide +kernel, by decide +kernel⟩
abbrev s_span : Stmt := top 17
theorem sc_span : FnScope ["works", "course", "number", "level", "shut", "sea_low", "sea_high", "river_low", "river_high", "_", "least", "greatest"] ["works", "course", "number", "level", "shut"] (defScope s_span) := ⟨rfl, rfl, rfl, by decide +kernel, rfl, by decide +kernel, by decide +kernel⟩
abbrev s_is_good : Stmt := top 18
theorem sc_is_good : FnScope ["works", "course", "number", "shut", "level", "ship"] ["works", "course", "number", "shut", "level"] (defScope s_is_good) := ⟨rfl, rfl, rfl, by decide +kernel, rfl, by decide +kernel, by decide +kernel⟩
abbrev s_law_cell : Stmt := top 40
theorem sc_law_cell : FnScope ["script", "k"] ["script", "k"] (defScope s_law_cell) := ⟨rfl, rfl, rfl, by decide +kernel, rfl, by decide +kernel, by decide +kernel⟩
abbrev s_law_works : Stmt := top 41
theorem sc_law_works : FnScope ["script", "cell", "wall"] ["script"] (defScope s_law_works) := ⟨rfl, rfl, rfl, by decide +kernel, rfl, by decide +kernel, by decide +kernel⟩
abbrev s_law_hours : Stmt := top 42
theorem sc_law_hours : FnScope ["script", "hours", "k", "cell", "low", "least"] ["script"] (defScope s_law_hours) := ⟨rfl, rfl, rfl, by decide +kernel, rfl, by decide +kernel, by decide +kernel⟩
abbrev s_law_next : Stmt := top 43
theorem sc_law_next : FnScope ["works", "level", "shut", "sea", "river"] ["works", "level", "shut", "sea", "river"] (defScope s_law_next) := ⟨rfl, rfl, rfl, by decide +kernel, rfl, by decide +kernel, by decide +kernel⟩
abbrev s_law_since : Stmt := top 44
theorem sc_law_since : FnScope ["works", "state", "shut"] ["works", "state", "shut"] (defScope s_law_since) := ⟨rfl, rfl, rfl, by decide +kernel, rfl, by decide +kernel, by decide +kernel⟩
abbrev s_law_good : Stmt := top 45
theorem sc_law_good : FnScope ["works", "hour", "shut", "level"] ["works", "hour", "shut", "level"] (defScope s_law_good) := ⟨rfl, rfl, rfl, by decide +kernel, rfl, by decide +kernel, by decide +kernel⟩
abbrev s_law_states : Stmt := top 48
theorem sc_law_states : FnScope ["works", "states", "shut", "since", "level"] ["works"] (defScope s_law_states) := ⟨rfl, rfl, rfl, by decide +kernel, rfl, by decide +kernel, by decide +kernel⟩
abbrev s_law_levels : Stmt := top 47
theorem sc_law_levels : FnScope ["works", "hour", "state", "shut", "low", "high"] ["works", "hour", "state", "shut"] (defScope s_law_levels) := ⟨rfl, rfl, rfl, by decide +kernel, rfl, by decide +kernel, by decide +kernel⟩
abbrev s_gates : Stmt := top 19
theorem sc_gates : FnScope ["works", "shut", "since"] ["works"] (defScope s_gates) := ⟨rfl, rfl, rfl, by decide +kernel, rfl, by decide +kernel, by decide +kernel⟩
abbrev s_allowed_actions : Stmt := top 20
theorem sc_allowed_actions : FnScope ["works", "state", "may_move", "shut"] ["works", "state"] (defScope s_allowed_actions) := ⟨rfl, rfl, rfl, by decide +kernel, rfl, by decide +kernel, by decide +kernel⟩
abbrev s_good_spans : Stmt := top 21
theorem sc_good_spans : FnScope ["works", "course", "number", "shut", "spans", "level", "least", "greatest", "ends", "end"] ["works", "course", "number", "shut"] (defScope s_good_spans) := ⟨rfl, rfl, rfl, by decide +kernel, rfl, by decide +kernel, by decide +kernel⟩
abbrev s_told : Stmt := top 34
theorem sc_told : FnScope ["shut_hours"] ["shut_hours"] (defScope s_told) := ⟨rfl, rfl, rfl, by decide +kernel, rfl, by decide +kernel, by decide +kernel⟩
abbrev s_end_worst : Stmt := top 35
theorem sc_end_worst : FnScope ["works", "gate"] ["works"] (defScope s_end_worst) := ⟨rfl, rfl, rfl, by decide +kernel, rfl, by decide +kernel, by decide +kernel⟩
abbrev s_worst_case : Stmt := top 38
theorem sc_worst_case : FnScope ["good_span", "shut", "worst_behind", "least", "greatest", "shut_hours"] ["good_span", "shut", "worst_behind"] (defScope s_worst_case) := ⟨rfl, rfl, rfl, by decide +kernel, rfl, by decide +kernel, by decide +kernel⟩
abbrev s_hour_costs : Stmt := top 36
theorem sc_hour_costs : FnScope ["works", "course", "number", "worst_behind", "spans", "shut", "good_span", "gate"] ["works", "course", "number", "worst_behind"] (defScope s_hour_costs) := ⟨rfl, rfl, rfl, by decide +kernel, rfl, by decide +kernel, by decide +kernel⟩
abbrev s_hour_worst : Stmt := top 37
theorem sc_hour_worst : FnScope ["works", "costs", "worst", "shut", "since", "allowed", "by_action", "action", "row"] ["works", "costs"] (defScope s_hour_worst) := ⟨rfl, rfl, rfl, by decide +kernel, rfl, by decide +kernel, by decide +kernel⟩
abbrev s_Plan__init : Stmt := inClass (top 33) 0
theorem sc_Plan__init : FnScope ["self", "works", "course", "number", "costs"] ["self", "works", "course"] (defScope s_Plan__init) := ⟨rfl, rfl, rfl, by decide +kernel, rfl, by decide +kernel, by decide +kernel⟩
abbrev s_Plan_p_check : Stmt := inClass (top 33) 7
theorem sc_Plan_p_check : FnScope ["self", "number", "state"] ["self", "number", "state"] (defScope s_Plan_p_check) := ⟨rfl, rfl, rfl, by decide +kernel, rfl, by decide +kernel, by decide +kernel⟩
abbrev s_Plan_worst : Stmt := inClass (top 33) 1
theorem sc_Plan_worst : FnScope ["self", "number", "state", "level", "shut", "since"] ["self", "number", "state"] (defScope s_Plan_worst) := ⟨rfl, rfl, rfl, by decide +kernel, rfl, by decide +kernel, by decide +kernel⟩
abbrev s_Plan_is_kept : Stmt := inClass (top 33) 2
theorem sc_Plan_is_kept : FnScope ["self", "number", "state"] ["self", "number", "state"] (defScope s_Plan_is_kept) := ⟨rfl, rfl, rfl, by decide +kernel, rfl, by decide +kernel, by decide +kernel⟩
abbrev s_Plan_levels : Stmt := inClass (top 33) 3
theorem sc_Plan_levels : FnScope ["self", "number", "shut", "since", "worst", "level", "shut_hours"] ["self", "number", "shut", "since"] (defScope s_Plan_levels) := ⟨rfl, rfl, rfl, by decide +kernel, rfl, by decide +kernel, by decide +kernel⟩
abbrev s_stretches : Stmt := top 26
theorem sc_stretches : FnScope ["levels", "found", "level"] ["levels"] (defScope s_stretches) := ⟨rfl, rfl, rfl, by decide +kernel, rfl, by decide +kernel, by decide +kernel⟩
abbrev s_with_levels : Stmt := top 29
theorem sc_with_levels : FnScope ["rows", "row"] ["rows"] (defScope s_with_levels) := ⟨rfl, rfl, rfl, by decide +kernel, rfl, by decide +kernel, by decide +kernel⟩
abbrev s_kept_paper : Stmt := top 27
theorem sc_kept_paper : FnScope ["plan", "rows", "number", "shut", "since"] ["plan"] (defScope s_kept_paper) := ⟨rfl, rfl, rfl, by decide +kernel, rfl, by decide +kernel, by decide +kernel⟩
abbrev s_lost_levels : Stmt := top 30
theorem sc_lost_levels : FnScope ["plan", "number", "shut", "since", "levels", "level"] ["plan", "number", "shut", "since"] (defScope s_lost_levels) := ⟨rfl, rfl, rfl, by decide +kernel, rfl, by decide +kernel, by decide +kernel⟩
abbrev s_lost_paper : Stmt := top 28
theorem sc_lost_paper : FnScope ["plan", "rows", "number", "shut", "since"] ["plan"] (defScope s_lost_paper) := ⟨rfl, rfl, rfl, by decide +kernel, rfl, by decide +kernel, by decide +kernel⟩
abbrev s_law_actions : Stmt := top 46
theorem sc_law_actions : FnScope ["works", "state", "shut"] ["works", "state"] (defScope s_law_actions) := ⟨rfl, rfl, rfl, by decide +kernel, rfl, by decide +kernel, by decide +kernel⟩
abbrev s_law_keeps : Stmt := top 49
theorem sc_law_keeps : FnScope ["works", "hour", "state", "shut", "after", "level"] ["works", "hour", "state", "shut", "after"] (defScope s_law_keeps) := ⟨rfl, rfl, rfl, by decide +kernel, rfl, by decide +kernel, by decide +kernel⟩
abbrev s_law_kept : Stmt := top 50
theorem sc_law_kept : FnScope ["works", "hours", "last", "state", "tables", "hour", "row", "shut"] ["works", "hours"] (defScope s_law_kept) := ⟨rfl, rfl, rfl, by decide +kernel, rfl, by decide +kernel, by decide +kernel⟩
abbrev s_law_stretches : Stmt := top 51
theorem sc_law_stretches : FnScope ["levels", "rows", "level"] ["levels"] (defScope s_law_stretches) := ⟨rfl, rfl, rfl, by decide +kernel, rfl, by decide +kernel, by decide +kernel⟩
abbrev s_law_rows : Stmt := top 52
theorem sc_law_rows : FnScope ["works", "tables", "count", "is_kept", "rows", "k", "shut", "since", "levels", "level"] ["works", "tables", "count", "is_kept"] (defScope s_law_rows) := ⟨rfl, rfl, rfl, by decide +kernel, rfl, by decide +kernel, by decide +kernel⟩
abbrev s_law_flags_right : Stmt := top 53
theorem sc_law_flags_right : FnScope ["rows", "row"] ["rows"] (defScope s_law_flags_right) := ⟨rfl, rfl, rfl, by decide +kernel, rfl, by decide +kernel, by decide +kernel⟩
abbrev s_law : Stmt := top 54
theorem sc_law : FnScope ["script", "told", "hours", "plan", "tables", "step", "kept", "lost", "rows", "hour", "shut", "since", "spans", "levels", "level", "handed"] ["script"] (defScope s_law) := ⟨rfl, rfl, rfl, by decide +kernel, rfl, by decide +kernel, by decide +kernel⟩
set_option genInjectivity false in
set_option genSizeOf false in
set_option genSizeOfSpec false in
structure Tx (w : World) (K : PySem.W.Frag) (mg : Str → Option Value) where
  nogl : NoGl mg
  cls : Nat → Addr
  e_InvalidWorks : ExcT K mg "InvalidWorks" (cls 10)
  e_InvalidCourse : ExcT K mg "InvalidCourse" (cls 11)
  e_InvalidState : ExcT K mg "InvalidState" (cls 12)
  e_InvalidMove : ExcT K mg "InvalidMove" (cls 13)
  c_MOST_LEVEL : ∃ t, mg "MOST_LEVEL" = some (.int 200 t)
  c_MOST_FLOW : ∃ t, mg "MOST_FLOW" = some (.int 400 t)
  c_MOST_PUMP : ∃ t, mg "MOST_PUMP" = some (.int 400 t)
  c_MOST_REST : ∃ t, mg "MOST_REST" = some (.int 6 t)
  c_MOST_HOURS : ∃ t, mg "MOST_HOURS" = some (.int 72 t)
  c_MOST_BOUND : ∃ t, mg "MOST_BOUND" = some (.int 400 t)
  c__LOST : ∃ t, mg "_LOST" = some (.int 1000 t)
  cl_0 : Cls K (cls 0)
  g_Works : mg "Works" = some (.ref (cls 0))
  na_wall : NoAttr K (cls 0) "wall"
  na_flow : NoAttr K (cls 0) "flow"
  na_pump : NoAttr K (cls 0) "pump"
  na_rest : NoAttr K (cls 0) "rest"
  na_deep : NoAttr K (cls 0) "deep"
  cl_1 : Cls K (cls 1)
  g_Course : mg "Course" = some (.ref (cls 1))
  na_hours : NoAttr K (cls 1) "hours"
  cl_2 : Cls K (cls 2)
  g_Plan : mg "Plan" = some (.ref (cls 2))
  na_works : NoAttr K (cls 2) "works"
  na_course : NoAttr K (cls 2) "course"
  na__costs : NoAttr K (cls 2) "_costs"
  na__worst : NoAttr K (cls 2) "_worst"
  a_is_whole : Addr
  fd_is_whole : FuncData
  F_is_whole : Fun K "is_whole" "is_whole" s_is_whole a_is_whole fd_is_whole
  k_is_whole : PySem.W.keepIn K (.ref a_is_whole) = true
  b_is_whole : Binds K fd_is_whole ["value", "least", "most"] []
  g_is_whole : mg "is_whole" = some (.ref a_is_whole)
  a_check_works_number : Addr
  fd_check_works_number : FuncData
  F_check_works_number : Fun K "_check_works_number" "_check_works_number" s_check_works_number a_check_works_number fd_check_works_number
  k_check_works_number : PySem.W.keepIn K (.ref a_check_works_number) = true
  b_check_works_number : Binds K fd_check_works_number ["name", "value", "least", "most"] []
  g_check_works_number : mg "_check_works_number" = some (.ref a_check_works_number)
  a_Works_next_level : Addr
  fd_Works_next_level : FuncData
  F_Works_next_level : Fun K "next_level" "Works.next_level" s_Works_next_level a_Works_next_level fd_Works_next_level
  b_Works_next_level : Binds K fd_Works_next_level ["self", "level", "shut", "sea", "river"] []
  m_Works_next_level : Meth K (cls 0) "next_level" a_Works_next_level
  a_Works_check_state : Addr
  fd_Works_check_state : FuncData
  F_Works_check_state : Fun K "check_state" "Works.check_state" s_Works_check_state a_Works_check_state fd_Works_check_state
  b_Works_check_state : Binds K fd_Works_check_state ["self", "state"] []
  m_Works_check_state : Meth K (cls 0) "check_state" a_Works_check_state
  a_Works_may_move : Addr
  fd_Works_may_move : FuncData
  F_Works_may_move : Fun K "may_move" "Works.may_move" s_Works_may_move a_Works_may_move fd_Works_may_move
  b_Works_may_move : Binds K fd_Works_may_move ["self", "state"] []
  m_Works_may_move : Meth K (cls 0) "may_move" a_Works_may_move
  a_Works_moved : Addr
  fd_Works_moved : FuncData
  F_Works_moved : Fun K "moved" "Works.moved" s_Works_moved a_Works_moved fd_Works_moved
  b_Works_moved : Binds K fd_Works_moved ["self", "state", "shut"] []
  m_Works_moved : Meth K (cls 0) "moved" a_Works_moved
  a_check_bounds : Addr
  fd_check_bounds : FuncData
  F_check_bounds : Fun K "_check_bounds" "_check_bounds" s_check_bounds a_check_bounds fd_check_bounds
  k_check_bounds : PySem.W.keepIn K (.ref a_check_bounds) = true
  b_check_bounds : Binds K fd_check_bounds ["low", "high"] []
  g_check_bounds : mg "_check_bounds" = some (.ref a_check_bounds)
  a_check_hour : Addr
  fd_check_hour : FuncData
  F_check_hour : Fun K "_check_hour" "_check_hour" s_check_hour a_check_hour fd_check_hour
  k_check_hour : PySem.W.keepIn K (.ref a_check_hour) = true
  b_check_hour : Binds K fd_check_hour ["hour"] []
  g_check_hour : mg "_check_hour" = some (.ref a_check_hour)
  a_Works__init : Addr
  fd_Works__init : FuncData
  F_Works__init : Fun K "__init__" "Works.__init__" s_Works__init a_Works__init fd_Works__init
  b_Works__init : Binds K fd_Works__init ["self", "wall", "flow", "pump", "rest", "deep"] []
  mk_0 : Mk K (cls 0) a_Works__init
  a_Course__init : Addr
  fd_Course__init : FuncData
  F_Course__init : Fun K "__init__" "Course.__init__" s_Course__init a_Course__init fd_Course__init
  b_Course__init : Binds K fd_Course__init ["self", "hours"] []
  mk_1 : Mk K (cls 1) a_Course__init
  a_Course_count : Addr
  fd_Course_count : FuncData
  F_Course_count : Fun K "count" "Course.count" s_Course_count a_Course_count fd_Course_count
  b_Course_count : Binds K fd_Course_count ["self"] []
  m_Course_count : Meth K (cls 1) "count" a_Course_count
  a_Course_hour : Addr
  fd_Course_hour : FuncData
  F_Course_hour : Fun K "hour" "Course.hour" s_Course_hour a_Course_hour fd_Course_hour
  b_Course_hour : Binds K fd_Course_hour ["self", "number"] []
  m_Course_hour : Meth K (cls 1) "hour" a_Course_hour
  a_span : Addr
  fd_span : FuncData
  F_span : Fun K "span" "span" s_span a_span fd_span
  k_span : PySem.W.keepIn K (.ref a_span) = true
  b_span : Binds K fd_span ["works", "course", "number", "level", "shut"] []
  g_span : mg "span" = some (.ref a_span)
  a_is_good : Addr
  fd_is_good : FuncData
  F_is_good : Fun K "is_good" "is_good" s_is_good a_is_good fd_is_good
  k_is_good : PySem.W.keepIn K (.ref a_is_good) = true
  b_is_good : Binds K fd_is_good ["works", "course", "number", "shut", "level"] []
  g_is_good : mg "is_good" = some (.ref a_is_good)
  a_law_cell : Addr
  fd_law_cell : FuncData
  F_law_cell : Fun K "_law_cell" "_law_cell" s_law_cell a_law_cell fd_law_cell
  k_law_cell : PySem.W.keepIn K (.ref a_law_cell) = true
  b_law_cell : Binds K fd_law_cell ["script", "k"] []
  g_law_cell : mg "_law_cell" = some (.ref a_law_cell)
  a_law_works : Addr
  fd_law_works : FuncData
  F_law_works : Fun K "_law_works" "_law_works" s_law_works a_law_works fd_law_works
  k_law_works : PySem.W.keepIn K (.ref a_law_works) = true
  b_law_works : Binds K fd_law_works ["script"] []
  g_law_works : mg "_law_works" = some (.ref a_law_works)
  a_law_hours : Addr
  fd_law_hours : FuncData
  F_law_hours : Fun K "_law_hours" "_law_hours" s_law_hours a_law_hours fd_law_hours
  k_law_hours : PySem.W.keepIn K (.ref a_law_hours) = true
  b_law_hours : Binds K fd_law_hours ["script"] []
  g_law_hours : mg "_law_hours" = some (.ref a_law_hours)
  a_law_next : Addr
  fd_law_next : FuncData
  F_law_next : Fun K "_law_next" "_law_next" s_law_next a_law_next fd_law_next
  k_law_next : PySem.W.keepIn K (.ref a_law_next) = true
  b_law_next : Binds K fd_law_next ["works", "level", "shut", "sea", "river"] []
  g_law_next : mg "_law_next" = some (.ref a_law_next)
  a_law_since : Addr
  fd_law_since : FuncData
  F_law_since : Fun K "_law_since" "_law_since" s_law_since a_law_since fd_law_since
  k_law_since : PySem.W.keepIn K (.ref a_law_since) = true
  b_law_since : Binds K fd_law_since ["works", "state", "shut"] []
  g_law_since : mg "_law_since" = some (.ref a_law_since)
  a_law_good : Addr
  fd_law_good : FuncData
  F_law_good : Fun K "_law_good" "_law_good" s_law_good a_law_good fd_law_good
  k_law_good : PySem.W.keepIn K (.ref a_law_good) = true
  b_law_good : Binds K fd_law_good ["works", "hour", "shut", "level"] []
  g_law_good : mg "_law_good" = some (.ref a_law_good)
  a_law_states : Addr
  fd_law_states : FuncData
  F_law_states : Fun K "_law_states" "_law_states" s_law_states a_law_states fd_law_states
  k_law_states : PySem.W.keepIn K (.ref a_law_states) = true
  b_law_states : Binds K fd_law_states ["works"] []
  g_law_states : mg "_law_states" = some (.ref a_law_states)
  a_law_levels : Addr
  fd_law_levels : FuncData
  F_law_levels : Fun K "_law_levels" "_law_levels" s_law_levels a_law_levels fd_law_levels
  k_law_levels : PySem.W.keepIn K (.ref a_law_levels) = true
  b_law_levels : Binds K fd_law_levels ["works", "hour", "state", "shut"] []
  g_law_levels : mg "_law_levels" = some (.ref a_law_levels)
  a_gates : Addr
  fd_gates : FuncData
  F_gates : Fun K "gates" "gates" s_gates a_gates fd_gates
  k_gates : PySem.W.keepIn K (.ref a_gates) = true
  b_gates : Binds K fd_gates ["works"] []
  g_gates : mg "gates" = some (.ref a_gates)
  a_allowed_actions : Addr
  fd_allowed_actions : FuncData
  F_allowed_actions : Fun K "allowed_actions" "allowed_actions" s_allowed_actions a_allowed_actions fd_allowed_actions
  k_allowed_actions : PySem.W.keepIn K (.ref a_allowed_actions) = true
  b_allowed_actions : Binds K fd_allowed_actions ["works", "state"] []
  g_allowed_actions : mg "allowed_actions" = some (.ref a_allowed_actions)
  a_good_spans : Addr
  fd_good_spans : FuncData
  F_good_spans : Fun K "good_spans" "good_spans" s_good_spans a_good_spans fd_good_spans
  k_good_spans : PySem.W.keepIn K (.ref a_good_spans) = true
  b_good_spans : Binds K fd_good_spans ["works", "course", "number", "shut"] []
  g_good_spans : mg "good_spans" = some (.ref a_good_spans)
  a_told : Addr
  fd_told : FuncData
  F_told : Fun K "_told" "_told" s_told a_told fd_told
  k_told : PySem.W.keepIn K (.ref a_told) = true
  b_told : Binds K fd_told ["shut_hours"] []
  g_told : mg "_told" = some (.ref a_told)
  a_end_worst : Addr
  fd_end_worst : FuncData
  F_end_worst : Fun K "_end_worst" "_end_worst" s_end_worst a_end_worst fd_end_worst
  k_end_worst : PySem.W.keepIn K (.ref a_end_worst) = true
  b_end_worst : Binds K fd_end_worst ["works"] []
  g_end_worst : mg "_end_worst" = some (.ref a_end_worst)
  a_worst_case : Addr
  fd_worst_case : FuncData
  F_worst_case : Fun K "_worst_case" "_worst_case" s_worst_case a_worst_case fd_worst_case
  k_worst_case : PySem.W.keepIn K (.ref a_worst_case) = true
  b_worst_case : Binds K fd_worst_case ["good_span", "shut", "worst_behind"] []
  g_worst_case : mg "_worst_case" = some (.ref a_worst_case)
  a_hour_costs : Addr
  fd_hour_costs : FuncData
  F_hour_costs : Fun K "_hour_costs" "_hour_costs" s_hour_costs a_hour_costs fd_hour_costs
  k_hour_costs : PySem.W.keepIn K (.ref a_hour_costs) = true
  b_hour_costs : Binds K fd_hour_costs ["works", "course", "number", "worst_behind"] []
  g_hour_costs : mg "_hour_costs" = some (.ref a_hour_costs)
  a_hour_worst : Addr
  fd_hour_worst : FuncData
  F_hour_worst : Fun K "_hour_worst" "_hour_worst" s_hour_worst a_hour_worst fd_hour_worst
  k_hour_worst : PySem.W.keepIn K (.ref a_hour_worst) = true
  b_hour_worst : Binds K fd_hour_worst ["works", "costs"] []
  g_hour_worst : mg "_hour_worst" = some (.ref a_hour_worst)
  a_Plan__init : Addr
  fd_Plan__init : FuncData
  F_Plan__init : Fun K "__init__" "Plan.__init__" s_Plan__init a_Plan__init fd_Plan__init
  b_Plan__init : Binds K fd_Plan__init ["self", "works", "course"] []
  mk_2 : Mk K (cls 2) a_Plan__init
  a_Plan_p_check : Addr
  fd_Plan_p_check : FuncData
  F_Plan_p_check : Fun K "_check" "Plan._check" s_Plan_p_check a_Plan_p_check fd_Plan_p_check
  b_Plan_p_check : Binds K fd_Plan_p_check ["self", "number", "state"] []
  m_Plan_p_check : Meth K (cls 2) "_check" a_Plan_p_check
  a_Plan_worst : Addr
  fd_Plan_worst : FuncData
  F_Plan_worst : Fun K "worst" "Plan.worst" s_Plan_worst a_Plan_worst fd_Plan_worst
  b_Plan_worst : Binds K fd_Plan_worst ["self", "number", "state"] []
  m_Plan_worst : Meth K (cls 2) "worst" a_Plan_worst
  a_Plan_is_kept : Addr
  fd_Plan_is_kept : FuncData
  F_Plan_is_kept : Fun K "is_kept" "Plan.is_kept" s_Plan_is_kept a_Plan_is_kept fd_Plan_is_kept
  b_Plan_is_kept : Binds K fd_Plan_is_kept ["self", "number", "state"] []
  m_Plan_is_kept : Meth K (cls 2) "is_kept" a_Plan_is_kept
  a_Plan_levels : Addr
  fd_Plan_levels : FuncData
  F_Plan_levels : Fun K "levels" "Plan.levels" s_Plan_levels a_Plan_levels fd_Plan_levels
  b_Plan_levels : Binds K fd_Plan_levels ["self", "number", "shut", "since"] []
  m_Plan_levels : Meth K (cls 2) "levels" a_Plan_levels
  a_stretches : Addr
  fd_stretches : FuncData
  F_stretches : Fun K "stretches" "stretches" s_stretches a_stretches fd_stretches
  k_stretches : PySem.W.keepIn K (.ref a_stretches) = true
  b_stretches : Binds K fd_stretches ["levels"] []
  g_stretches : mg "stretches" = some (.ref a_stretches)
  a_with_levels : Addr
  fd_with_levels : FuncData
  F_with_levels : Fun K "_with_levels" "_with_levels" s_with_levels a_with_levels fd_with_levels
  k_with_levels : PySem.W.keepIn K (.ref a_with_levels) = true
  b_with_levels : Binds K fd_with_levels ["rows"] []
  g_with_levels : mg "_with_levels" = some (.ref a_with_levels)
  a_kept_paper : Addr
  fd_kept_paper : FuncData
  F_kept_paper : Fun K "kept_paper" "kept_paper" s_kept_paper a_kept_paper fd_kept_paper
  k_kept_paper : PySem.W.keepIn K (.ref a_kept_paper) = true
  b_kept_paper : Binds K fd_kept_paper ["plan"] []
  g_kept_paper : mg "kept_paper" = some (.ref a_kept_paper)
  a_lost_levels : Addr
  fd_lost_levels : FuncData
  F_lost_levels : Fun K "_lost_levels" "_lost_levels" s_lost_levels a_lost_levels fd_lost_levels
  k_lost_levels : PySem.W.keepIn K (.ref a_lost_levels) = true
  b_lost_levels : Binds K fd_lost_levels ["plan", "number", "shut", "since"] []
  g_lost_levels : mg "_lost_levels" = some (.ref a_lost_levels)
  a_lost_paper : Addr
  fd_lost_paper : FuncData
  F_lost_paper : Fun K "lost_paper" "lost_paper" s_lost_paper a_lost_paper fd_lost_paper
  k_lost_paper : PySem.W.keepIn K (.ref a_lost_paper) = true
  b_lost_paper : Binds K fd_lost_paper ["plan"] []
  g_lost_paper : mg "lost_paper" = some (.ref a_lost_paper)
  a_law_actions : Addr
  fd_law_actions : FuncData
  F_law_actions : Fun K "_law_actions" "_law_actions" s_law_actions a_law_actions fd_law_actions
  k_law_actions : PySem.W.keepIn K (.ref a_law_actions) = true
  b_law_actions : Binds K fd_law_actions ["works", "state"] []
  g_law_actions : mg "_law_actions" = some (.ref a_law_actions)
  a_law_keeps : Addr
  fd_law_keeps : FuncData
  F_law_keeps : Fun K "_law_keeps" "_law_keeps" s_law_keeps a_law_keeps fd_law_keeps
  k_law_keeps : PySem.W.keepIn K (.ref a_law_keeps) = true
  b_law_keeps : Binds K fd_law_keeps ["works", "hour", "state", "shut", "after"] []
  g_law_keeps : mg "_law_keeps" = some (.ref a_law_keeps)
  a_law_kept : Addr
  fd_law_kept : FuncData
  F_law_kept : Fun K "_law_kept" "_law_kept" s_law_kept a_law_kept fd_law_kept
  k_law_kept : PySem.W.keepIn K (.ref a_law_kept) = true
  b_law_kept : Binds K fd_law_kept ["works", "hours"] []
  g_law_kept : mg "_law_kept" = some (.ref a_law_kept)
  a_law_stretches : Addr
  fd_law_stretches : FuncData
  F_law_stretches : Fun K "_law_stretches" "_law_stretches" s_law_stretches a_law_stretches fd_law_stretches
  k_law_stretches : PySem.W.keepIn K (.ref a_law_stretches) = true
  b_law_stretches : Binds K fd_law_stretches ["levels"] []
  g_law_stretches : mg "_law_stretches" = some (.ref a_law_stretches)
  a_law_rows : Addr
  fd_law_rows : FuncData
  F_law_rows : Fun K "_law_rows" "_law_rows" s_law_rows a_law_rows fd_law_rows
  k_law_rows : PySem.W.keepIn K (.ref a_law_rows) = true
  b_law_rows : Binds K fd_law_rows ["works", "tables", "count", "is_kept"] []
  g_law_rows : mg "_law_rows" = some (.ref a_law_rows)
  a_law_flags_right : Addr
  fd_law_flags_right : FuncData
  F_law_flags_right : Fun K "_law_flags_right" "_law_flags_right" s_law_flags_right a_law_flags_right fd_law_flags_right
  k_law_flags_right : PySem.W.keepIn K (.ref a_law_flags_right) = true
  b_law_flags_right : Binds K fd_law_flags_right ["rows"] []
  g_law_flags_right : mg "_law_flags_right" = some (.ref a_law_flags_right)
  a_law : Addr
  fd_law : FuncData
  F_law : Fun K "law" "law" s_law a_law fd_law
section
variable {PP : Program} {w : World} {K : PySem.W.Frag} {mg : Str → Option Value} {base : Heap}
def S_is_whole : Pm := fun ds r => ∃ (v_ : V) (lo_ hi_ : Int), ds = [dv v_, dv lo_, dv hi_] ∧ (scl v_) ∧ r = .ok (dv (isWh v_ lo_ hi_))
theorem ok_is_whole (T : Tx w K mg) : FnOk PP w K mg base (L2.CX PP w) 1 T.a_is_whole T.fd_is_whole ["value", "least", "most"] (spOf K T.cls S_is_whole) := by
  refine fn_ok T.F_is_whole sc_is_whole (fun ds r h => by obtain ⟨v_, lo_, hi_, rfl, _⟩ := h; rfl) fun cd A outer s H E hs ds r hr h => ?_
  obtain ⟨v_, lo_, hi_, rfl, p1, rfl⟩ := h
  obtain ⟨t_, ht_⟩ := p1
  have cases_ : (∃ i, v_ = V.int i) ∨ (∃ k r1, tyS v_ = some k ∧ kitB k "int" = some r1 ∧ isWh v_ lo_ hi_ = false ∧ (r1 = true → ∃ b, v_ = V.bl b)) := by
    cases v_ with
    | int i => exact .inl ⟨i, rfl⟩
    | bl b => exact .inr ⟨_, true, rfl, by decide +kernel, rfl, fun _ => ⟨b, rfl⟩⟩
    | non => exact .inr ⟨_, false, rfl, by decide +kernel, rfl, fun h => (by cases h)⟩
    | str x => exact .inr ⟨_, false, rfl, by decide +kernel, rfl, fun h => (by cases h)⟩
    | byt x => cases ht_
    | flt x => cases ht_
    | ref x => cases ht_
    | ty x => cases ht_
  rcases cases_ with ⟨i, rfl⟩ | ⟨k, r1, e1, e2, e3, e4⟩
  · refine ks_one (s_ret (α := Bool) ?_)
    refine' k_andD _ ?_; rotate_left
    refine k_isV (T := "int") T.nogl (T.nogl _ (by simp)) (by decide +kernel) ?_
    refine k_var 0 rfl rfl ?_
    refine ⟨_, true, rfl, by decide +kernel, ?_⟩
    refine ⟨fun _ => ?_, ?_⟩
    · refine' k_andD _ ?_; rotate_left
      refine k_not ?_
      refine k_isV (T := "bool") T.nogl (T.nogl _ (by simp)) (by decide +kernel) ?_
      refine k_var 0 rfl rfl ?_
      refine ⟨_, false, rfl, by decide +kernel, ?_⟩
      refine ⟨fun _ => ?_, ?_⟩
      · refine k_one ?_
        refine' k_leleD _ ?_; rotate_left
        refine k_var 1 rfl rfl ?_
        refine k_cv (α := V) ?_
        refine k_var 0 rfl rfl ?_
        refine ⟨i, fun _ _ _ r => r, ?_⟩
        refine ⟨?_, ?_⟩
        · refine k_var 2 rfl rfl ?_
          exact rfl
        exact rfl
      exact rfl
    exact congrArg (fun b => Rz.ok (dv b)) (by show decide _ = (true && (!false && decide _)); simp)
  · refine ks_one (s_ret (α := Bool) ?_)
    refine' k_andD false ?_
    refine k_isV (T := "int") T.nogl (T.nogl _ (by simp)) (by decide +kernel) ?_
    refine k_var 0 rfl rfl ?_
    refine ⟨_, _, e1, e2, ?_⟩
    refine ⟨fun h => ?_, ?_⟩
    · obtain ⟨b, rfl⟩ := e4 h
      refine' k_andD false ?_
      refine k_not ?_
      refine k_isV (T := "bool") T.nogl (T.nogl _ (by simp)) (by decide +kernel) ?_
      refine k_var 0 rfl rfl ?_
      refine ⟨_, true, rfl, by decide +kernel, ?_⟩
      exact ⟨fun h => (by cases h), rfl⟩
    exact congrArg (fun b => Rz.ok (dv b)) (by rw [e3]; simp)
def S_check_works_number : Pm := fun ds r => ∃ (n_ : Str) (v_ : V) (lo_ hi_ : Int), ds = [dv n_, dv v_, dv lo_, dv hi_] ∧ (n_.length ≤ 100) ∧ (scl v_) ∧ (lo_.natAbs < 1000000) ∧ (hi_.natAbs < 1000000) ∧ r = (if isWh v_ lo_ hi_ = true then .ok (dv ()) else .err 10)
theorem ok_check_works_number (T : Tx w K mg) : FnOk PP w K mg base (L2.CX PP w) 2 T.a_check_works_number T.fd_check_works_number ["name", "value", "least", "most"] (spOf K T.cls S_check_works_number) := by
  refine fn_ok T.F_check_works_number sc_check_works_number (fun ds r h => by obtain ⟨n_, v_, lo_, hi_, rfl, _⟩ := h; rfl) fun cd A outer s H E hs ds r hr h => ?_
  obtain ⟨n_, v_, lo_, hi_, rfl, p1, p2, p3, p4, rfl⟩ := h
  show KSs _ ([.sh (dv n_), .sh (dv v_), .sh (dv lo_), .sh (dv hi_)] : List Ent) _ _
  refine ks_one (s_if ?_)
  refine t_not ?_
  refine t_val ?_
  refine k_call (ok_is_whole T) (hr.mono (by decide)) T.g_is_whole T.k_is_whole T.b_is_whole ?_
  refine a_cons (α := V) ?_
  refine k_var 1 rfl rfl ?_
  refine a_cons (α := Int) ?_
  refine k_var 2 rfl rfl ?_
  refine a_cons (α := Int) ?_
  refine k_var 3 rfl rfl ?_
  refine a_nil ?_
  refine ⟨_, ⟨_, _, _, rfl, p2, rfl⟩, Got.ok ?_⟩
  refine ifNB (fun h1 => ?_) (fun h1 => ?_)
  · skip
    refine ks_one (s_raise (cn := 10) T.e_InvalidWorks ?_)
    refine k_join ?_ (by decide)
    refine k_lit (by decide) ?_
    refine k_fmtS ?_
    refine k_var 0 rfl rfl ?_
    refine ⟨by assumption, ?_⟩
    refine k_lit (by decide) ?_
    refine k_fmtI ?_
    refine k_var 2 rfl rfl ?_
    refine ⟨p3, ?_⟩
    refine k_lit (by decide) ?_
    refine k_fmtI ?_
    refine k_var 3 rfl rfl ?_
    refine ⟨p4, ?_⟩
    show (_ : Rz) = _
    exact if_neg (by rw [h1]; decide)
  · skip
    refine ks_nil ?_
    show (_ : Rz) = _
    exact if_pos h1
def S_Works_next_level : Pm := fun ds r => ∃ (w_ : Wk) (l_ : Int) (s_ : Bool) (se_ ri_ : Int), ds = [dv w_, dv l_, dv s_, dv se_, dv ri_] ∧ r = .ok (dv (nextL w_ l_ s_ se_ ri_))
theorem ok_Works_next_level (T : Tx w K mg) : FnOk PP w K mg base (L2.CX PP w) 1 T.a_Works_next_level T.fd_Works_next_level ["self", "level", "shut", "sea", "river"] (spOf K T.cls S_Works_next_level) := by
  refine fn_ok T.F_Works_next_level sc_Works_next_level (fun ds r h => by obtain ⟨w_, l_, s_, se_, ri_, rfl, _⟩ := h; rfl) fun cd A outer s H E hs ds r hr h => ?_
  obtain ⟨w_, l_, s_, se_, ri_, rfl, rfl⟩ := h
  show KSs _ ([.sh (dv w_), .sh (dv l_), .sh (dv s_), .sh (dv se_), .sh (dv ri_)] : List Ent) _ _
  refine ks_cons (s_if ?_)
  refine t_val ?_
  refine k_var 2 rfl rfl ?_
  refine ifB (fun h1 => ?_) (fun h1 => ?_)
  · skip
    refine ks_one (s_ret (α := Int) ?_)
    refine k_max2 T.nogl ?_
    refine k_int ?_
    refine k_sub ?_
    refine k_add ?_
    refine k_var 1 rfl rfl ?_
    refine k_var 4 rfl rfl ?_
    refine k_fld (n := 0) Wk.pump Wk.lk_pump T.cl_0 T.na_pump ?_
    refine k_var 0 rfl rfl ?_
    show (_ : Rz) = _
    exact congrArg (fun x => Rz.ok (dv x)) (if_pos h1)
  · skip
    refine ks_nil ?_
    show KSs _ ([.sh (dv w_), .sh (dv l_), .sh (dv s_), .sh (dv se_), .sh (dv ri_)] : List Ent) _ _
    refine ks_one (s_ret (α := Int) ?_)
    refine k_add ?_
    refine k_add ?_
    refine k_var 1 rfl rfl ?_
    refine k_var 4 rfl rfl ?_
    refine k_max2 T.nogl ?_
    refine k_neg ?_
    refine k_fld (n := 0) Wk.flow Wk.lk_flow T.cl_0 T.na_flow ?_
    refine k_var 0 rfl rfl ?_
    refine k_min2 T.nogl ?_
    refine k_fld (n := 0) Wk.flow Wk.lk_flow T.cl_0 T.na_flow ?_
    refine k_var 0 rfl rfl ?_
    refine k_sub ?_
    refine k_var 3 rfl rfl ?_
    refine k_var 1 rfl rfl ?_
    show (_ : Rz) = _
    exact congrArg (fun x => Rz.ok (dv x)) (if_neg (by rw [h1]; decide))
def S_Works_check_state : Pm := fun ds r => ∃ (w_ : Wk) (t_ : Tv), ds = [dv w_, dv t_] ∧ (∀ v ∈ t_.vs, scl v) ∧ (w_.Ok) ∧ r = (if (mkSt w_ t_).isSome = true then .ok (dv ()) else .err 12)
theorem ok_Works_check_state (T : Tx w K mg) : FnOk PP w K mg base (L2.CX PP w) 2 T.a_Works_check_state T.fd_Works_check_state ["self", "state"] (spOf K T.cls S_Works_check_state) := by
  refine fn_ok T.F_Works_check_state sc_Works_check_state (fun ds r h => by obtain ⟨w_, t_, rfl, _⟩ := h; rfl) fun cd A outer s H E hs ds r hr h => ?_
  obtain ⟨w_, t_, rfl, p1, p2, rfl⟩ := h
  show KSs _ ([.sh (dv w_), .sh (dv t_), .no, .no, .no] : List Ent) _ _
  refine ks_cons (s_if ?_)
  refine t_w ?_
  refine' w_orD _ ?_; rotate_left
  refine t_not ?_
  refine t_val ?_
  refine k_isTup (α := Tv) (ds := Tv.ds) T.nogl ?_
  refine k_var 1 rfl rfl ?_
  refine ⟨fun hb1 => ?_, ?_⟩
  · skip
    refine w_or1 ?_
    refine t_ne (α := Int) ?_
    refine k_lenT (α := Tv) (ds := Tv.ds) T.nogl ?_
    refine k_var 1 rfl rfl ?_
    refine k_int ?_
    exact rfl
  refine ifB (fun h1 => ?_) (fun h1 => ?_)
  · skip
    refine ks_one (s_raise (cn := 12) T.e_InvalidState ?_)
    refine k_str ?_
    show (_ : Rz) = _
    exact if_neg (by rw [no3 h1]; decide)
  · skip
    obtain ⟨a_, b_, c_, rfl⟩ := tv3 h1
    have sa_ := p1 a_ (by simp)
    have sb_ := p1 b_ (by simp)
    have sc_ := p1 c_ (by simp)
    refine ks_conv 1 (T3v.mk a_ b_ c_) rfl (cv_t3 a_ b_ c_) ?_
    show KSs _ ([.sh (dv w_), .sh (dv (T3v.mk a_ b_ c_)), .no, .no, .no] : List Ent) _ _
    refine ks_nil ?_
    show KSs _ ([.sh (dv w_), .sh (dv (T3v.mk a_ b_ c_)), .no, .no, .no] : List Ent) _ _
    refine ks_cons (s_lets (α := T3v) (ds := T3v.ds) [2, 3, 4] (pgs_cons (pg_name (i := 2) sc_Works_check_state.nd rfl (by first | exact .inl rfl | exact .inr rfl)) (pgs_cons (pg_name (i := 3) sc_Works_check_state.nd rfl (by first | exact .inl rfl | exact .inr rfl)) (pgs_cons (pg_name (i := 4) sc_Works_check_state.nd rfl (by first | exact .inl rfl | exact .inr rfl)) (pgs_nil)))) (fun _ => rfl) ?_)
    refine k_var 1 rfl rfl ?_
    intro z_ ez_; subst z_
    show KSs _ ([.sh (dv w_), .sh (dv (T3v.mk a_ b_ c_)), .sh (dv a_), .sh (dv b_), .sh (dv c_)] : List Ent) _ _
    refine ks_cons (s_if ?_)
    refine t_not ?_
    refine t_val ?_
    refine k_call (ok_is_whole T) (hr.mono (by decide)) T.g_is_whole T.k_is_whole T.b_is_whole ?_
    refine a_cons (α := V) ?_
    refine k_var 2 rfl rfl ?_
    refine a_cons (α := Int) ?_
    refine k_int ?_
    refine a_cons (α := Int) ?_
    refine k_fld (n := 0) Wk.wall Wk.lk_wall T.cl_0 T.na_wall ?_
    refine k_var 0 rfl rfl ?_
    refine a_nil ?_
    refine ⟨_, ⟨_, _, _, rfl, sa_, rfl⟩, Got.ok ?_⟩
    refine ifNB (fun h2 => ?_) (fun h2 => ?_)
    · skip
      refine ks_one (s_raise (cn := 12) T.e_InvalidState ?_)
      refine k_join ?_ (by decide)
      refine k_lit (by decide) ?_
      refine k_fmtI ?_
      refine k_fld (n := 0) Wk.wall Wk.lk_wall T.cl_0 T.na_wall ?_
      refine k_var 0 rfl rfl ?_
      refine ⟨by have := p2.1; omega, ?_⟩
      show (_ : Rz) = _
      exact if_neg (by rw [mkSt_isSome, h2]; simp)
    · skip
      refine ks_nil ?_
      show KSs _ ([.sh (dv w_), .sh (dv (T3v.mk a_ b_ c_)), .sh (dv a_), .sh (dv b_), .sh (dv c_)] : List Ent) _ _
      refine ks_cons (s_if ?_)
      refine t_not ?_
      refine t_val ?_
      refine k_isV (T := "bool") T.nogl (T.nogl _ (by simp)) (by decide +kernel) ?_
      refine k_var 3 rfl rfl ?_
      obtain ⟨k_, k1_, k2_⟩ := kb sb_
      refine ⟨_, _, k1_, k2_, ?_⟩
      refine ifNB (fun h3 => ?_) (fun h3 => ?_)
      · skip
        refine ks_one (s_raise (cn := 12) T.e_InvalidState ?_)
        refine k_str ?_
        show (_ : Rz) = _
        exact if_neg (by rw [mkSt_isSome, h3]; simp)
      · skip
        refine ks_nil ?_
        show KSs _ ([.sh (dv w_), .sh (dv (T3v.mk a_ b_ c_)), .sh (dv a_), .sh (dv b_), .sh (dv c_)] : List Ent) _ _
        refine ks_one (s_if ?_)
        refine t_not ?_
        refine t_val ?_
        refine k_call (ok_is_whole T) (hr.mono (by decide)) T.g_is_whole T.k_is_whole T.b_is_whole ?_
        refine a_cons (α := V) ?_
        refine k_var 4 rfl rfl ?_
        refine a_cons (α := Int) ?_
        refine k_int ?_
        refine a_cons (α := Int) ?_
        refine k_fld (n := 0) Wk.rest Wk.lk_rest T.cl_0 T.na_rest ?_
        refine k_var 0 rfl rfl ?_
        refine a_nil ?_
        refine ⟨_, ⟨_, _, _, rfl, sc_, rfl⟩, Got.ok ?_⟩
        refine ifNB (fun h4 => ?_) (fun h4 => ?_)
        · skip
          refine ks_one (s_raise (cn := 12) T.e_InvalidState ?_)
          refine k_join ?_ (by decide)
          refine k_lit (by decide) ?_
          refine k_fmtI ?_
          refine k_fld (n := 0) Wk.rest Wk.lk_rest T.cl_0 T.na_rest ?_
          refine k_var 0 rfl rfl ?_
          refine ⟨by have := p2.2.2.2.1; omega, ?_⟩
          refine k_lit (by decide) ?_
          show (_ : Rz) = _
          exact if_neg (by rw [mkSt_isSome, h4]; simp)
        · skip
          refine ks_nil ?_
          show (_ : Rz) = _
          exact if_pos (by rw [mkSt_isSome, h2, h3, h4]; rfl)
def S_Works_may_move : Pm := fun ds r => ∃ (w_ : Wk) (t_ : Tv), ds = [dv w_, dv t_] ∧ (∀ v ∈ t_.vs, scl v) ∧ (w_.Ok) ∧ r = mayR w_ t_
theorem ok_Works_may_move (T : Tx w K mg) : FnOk PP w K mg base (L2.CX PP w) 3 T.a_Works_may_move T.fd_Works_may_move ["self", "state"] (spOf K T.cls S_Works_may_move) := by
  refine fn_ok T.F_Works_may_move sc_Works_may_move (fun ds r h => by obtain ⟨w_, t_, rfl, _⟩ := h; rfl) fun cd A outer s H E hs ds r hr h => ?_
  obtain ⟨w_, t_, rfl, p1, p2, rfl⟩ := h
  show KSs _ ([.sh (dv w_), .sh (dv t_)] : List Ent) _ _
  refine ks_cons (s_expr (α := Unit) ?_)
  refine k_meth (num := 0) Wk.no_check_state T.cl_0 T.m_Works_check_state (ok_Works_check_state T) (hr.mono (by decide)) T.b_Works_check_state ?_
  refine k_var 0 rfl rfl ?_
  refine a_cons (α := Tv) ?_
  refine k_var 1 rfl rfl ?_
  refine a_nil ?_
  refine ⟨_, ⟨_, _, rfl, p1, p2, rfl⟩, ?_⟩
  refine Got.ite (fun c1 => ?_) (fun c1 => ?_)
  rotate_left
  · exact (show mayR w_ t_ = Rz.err 12 from by unfold mayR; simp at c1; rw [c1])
  refine Got.ok ?_
  obtain ⟨s_, hs_⟩ := Option.isSome_iff_exists.mp c1
  obtain ⟨et_, ok_⟩ := mkSt_some hs_
  show KSs _ ([.sh (dv w_), .sh (dv t_)] : List Ent) _ _
  refine ks_conv 1 s_ rfl (by rw [et_]; exact cv_st' s_) ?_
  show KSs _ ([.sh (dv w_), .sh (dv s_)] : List Ent) _ _
  refine ks_one (s_ret (α := Bool) ?_)
  refine k_eq (α := Int) ?_
  refine k_ixT (α := Stt) (ds := Stt.ds) 2 Stt.since (fun _ => rfl) rfl ?_
  refine k_var 1 rfl rfl ?_
  refine k_fld (n := 0) Wk.rest Wk.lk_rest T.cl_0 T.na_rest ?_
  refine k_var 0 rfl rfl ?_
  show (_ : Rz) = _
  exact (by rw [et_]; exact mayR_ok ok_)
def S_Works_moved : Pm := fun ds r => ∃ (w_ : Wk) (t_ : Tv) (b_ : Bool), ds = [dv w_, dv t_, dv b_] ∧ (∀ v ∈ t_.vs, scl v) ∧ (w_.Ok) ∧ r = movR w_ t_ b_
theorem ok_Works_moved (T : Tx w K mg) : FnOk PP w K mg base (L2.CX PP w) 4 T.a_Works_moved T.fd_Works_moved ["self", "state", "shut"] (spOf K T.cls S_Works_moved) := by
  refine fn_ok T.F_Works_moved sc_Works_moved (fun ds r h => by obtain ⟨w_, t_, b_, rfl, _⟩ := h; rfl) fun cd A outer s H E hs ds r hr h => ?_
  obtain ⟨w_, t_, b_, rfl, p1, p2, rfl⟩ := h
  show KSs _ ([.sh (dv w_), .sh (dv t_), .sh (dv b_), .no, .no, .no] : List Ent) _ _
  refine ks_cons (s_expr (α := Unit) ?_)
  refine k_meth (num := 0) Wk.no_check_state T.cl_0 T.m_Works_check_state (ok_Works_check_state T) (hr.mono (by decide)) T.b_Works_check_state ?_
  refine k_var 0 rfl rfl ?_
  refine a_cons (α := Tv) ?_
  refine k_var 1 rfl rfl ?_
  refine a_nil ?_
  refine ⟨_, ⟨_, _, rfl, p1, p2, rfl⟩, ?_⟩
  refine Got.ite (fun c1 => ?_) (fun c1 => ?_)
  rotate_left
  · exact (show movR w_ t_ b_ = Rz.err 12 from by unfold movR; simp at c1; rw [c1])
  refine Got.ok ?_
  obtain ⟨s_, hs_⟩ := Option.isSome_iff_exists.mp c1
  obtain ⟨et_, ok_⟩ := mkSt_some hs_
  show KSs _ ([.sh (dv w_), .sh (dv t_), .sh (dv b_), .no, .no, .no] : List Ent) _ _
  refine ks_conv 1 s_ rfl (by rw [et_]; exact cv_st' s_) ?_
  show KSs _ ([.sh (dv w_), .sh (dv s_), .sh (dv b_), .no, .no, .no] : List Ent) _ _
  refine ks_cons (s_lets (α := Stt) (ds := Stt.ds) [3, 4, 5] (pgs_cons (pg_name (i := 3) sc_Works_moved.nd rfl (by first | exact .inl rfl | exact .inr rfl)) (pgs_cons (pg_name (i := 4) sc_Works_moved.nd rfl (by first | exact .inl rfl | exact .inr rfl)) (pgs_cons (pg_name (i := 5) sc_Works_moved.nd rfl (by first | exact .inl rfl | exact .inr rfl)) (pgs_nil)))) (fun _ => rfl) ?_)
  refine k_var 1 rfl rfl ?_
  intro z_ ez_; subst z_
  show KSs _ ([.sh (dv w_), .sh (dv s_), .sh (dv b_), .sh (dv s_.level), .sh (dv s_.shut), .sh (dv s_.since)] : List Ent) _ _
  refine ks_cons (s_if ?_)
  refine t_eq (α := Bool) ?_
  refine k_var 2 rfl rfl ?_
  refine k_var 4 rfl rfl ?_
  refine ifD (fun h1 => ?_) (fun h1 => ?_)
  · skip
    refine ks_one (s_ret (α := Int) ?_)
    refine k_min2 T.nogl ?_
    refine k_add ?_
    refine k_var 5 rfl rfl ?_
    refine k_int ?_
    refine k_fld (n := 0) Wk.rest Wk.lk_rest T.cl_0 T.na_rest ?_
    refine k_var 0 rfl rfl ?_
    show (_ : Rz) = _
    exact (by rw [et_, movR_ok ok_]; unfold movedR; rw [if_pos h1])
  · skip
    refine ks_nil ?_
    show KSs _ ([.sh (dv w_), .sh (dv s_), .sh (dv b_), .sh (dv s_.level), .sh (dv s_.shut), .sh (dv s_.since)] : List Ent) _ _
    refine ks_cons (s_if ?_)
    refine t_not ?_
    refine t_val ?_
    refine k_meth (num := 0) Wk.no_may_move T.cl_0 T.m_Works_may_move (ok_Works_may_move T) (hr.mono (by decide)) T.b_Works_may_move ?_
    refine k_var 0 rfl rfl ?_
    refine a_cons (α := Tv) ?_
    refine k_cv (α := Stt) ?_
    refine k_var 1 rfl rfl ?_
    refine ⟨_, cv_st _, ?_⟩
    refine a_nil ?_
    refine ⟨_, ⟨_, _, rfl, scl_st _, by assumption, rfl⟩, ?_⟩
    rw [mayR_ok (by assumption)]
    refine Got.ok ?_
    refine ifNB (fun h2 => ?_) (fun h2 => ?_)
    · skip
      refine ks_one (s_raise (cn := 13) T.e_InvalidMove ?_)
      refine k_join ?_ (by decide)
      refine k_lit (by decide) ?_
      refine k_fmtI ?_
      refine k_var 5 rfl rfl ?_
      refine ⟨by have := ok_.2; have := p2.2.2.2.1; omega, ?_⟩
      refine k_lit (by decide) ?_
      refine k_fmtI ?_
      refine k_fld (n := 0) Wk.rest Wk.lk_rest T.cl_0 T.na_rest ?_
      refine k_var 0 rfl rfl ?_
      refine ⟨by have := p2.2.2.2.1; omega, ?_⟩
      refine k_lit (by decide) ?_
      show (_ : Rz) = _
      exact (by rw [et_, movR_ok ok_]; unfold movedR; rw [if_neg h1, if_neg (by simpa using h2)])
    · skip
      refine ks_nil ?_
      show KSs _ ([.sh (dv w_), .sh (dv s_), .sh (dv b_), .sh (dv s_.level), .sh (dv s_.shut), .sh (dv s_.since)] : List Ent) _ _
      refine ks_one (s_ret (α := Int) ?_)
      refine k_int ?_
      show (_ : Rz) = _
      exact (by rw [et_, movR_ok ok_]; unfold movedR; rw [if_neg h1, if_pos (by simpa using h2)])
def S_check_bounds : Pm := fun ds r => ∃ (lo_ hi_ : V), ds = [dv lo_, dv hi_] ∧ (scl lo_) ∧ (scl hi_) ∧ r = (if bndOk lo_ hi_ = true then .ok (dv ()) else .err 11)
theorem ok_check_bounds (T : Tx w K mg) : FnOk PP w K mg base (L2.CX PP w) 2 T.a_check_bounds T.fd_check_bounds ["low", "high"] (spOf K T.cls S_check_bounds) := by
  refine fn_ok T.F_check_bounds sc_check_bounds (fun ds r h => by obtain ⟨lo_, hi_, rfl, _⟩ := h; rfl) fun cd A outer s H E hs ds r hr h => ?_
  obtain ⟨lo_, hi_, rfl, p1, p2, rfl⟩ := h
  show KSs _ ([.sh (dv lo_), .sh (dv hi_)] : List Ent) _ _
  refine ks_one (s_if ?_)
  refine t_w ?_
  refine w_orD (!bndOk lo_ hi_) ?_
  refine t_not ?_
  refine t_val ?_
  refine k_call (ok_is_whole T) (hr.mono (by decide)) T.g_is_whole T.k_is_whole T.b_is_whole ?_
  refine a_cons (α := V) ?_
  refine k_var 1 rfl rfl ?_
  refine a_cons (α := Int) ?_
  refine k_int ?_
  refine a_cons (α := Int) ?_
  refine k_gint T.c_MOST_BOUND ?_
  refine a_nil ?_
  refine ⟨_, ⟨_, _, _, rfl, p2, rfl⟩, Got.ok ?_⟩
  refine ⟨fun hb1 => ?_, ?_⟩
  · skip
    obtain ⟨h_, eh_, h0_, h4_⟩ := isWh_int (by simpa using hb1)
    refine w_or1 ?_
    refine t_not ?_
    refine t_val ?_
    refine k_call (ok_is_whole T) (hr.mono (by decide)) T.g_is_whole T.k_is_whole T.b_is_whole ?_
    refine a_cons (α := V) ?_
    refine k_var 0 rfl rfl ?_
    refine a_cons (α := Int) ?_
    refine k_int ?_
    refine a_cons (α := Int) ?_
    refine k_cv (α := V) ?_
    refine k_var 1 rfl rfl ?_
    refine ⟨_, cv_vi (by assumption), ?_⟩
    refine a_nil ?_
    refine ⟨_, ⟨_, _, _, rfl, p1, rfl⟩, Got.ok ?_⟩
    exact (by rw [eh_]; simp [bndOk, h0_, h4_])
  refine ifB (fun h1 => ?_) (fun h1 => ?_)
  · skip
    refine ks_one (s_raise (cn := 11) T.e_InvalidCourse ?_)
    refine k_join ?_ (by decide)
    refine k_lit (by decide) ?_
    refine k_fmtI ?_
    refine k_gint T.c_MOST_BOUND ?_
    refine ⟨by omega, ?_⟩
    refine k_lit (by decide) ?_
    show (_ : Rz) = _
    exact if_neg (fun z => by rw [z, bnd_wh z] at h1; cases h1)
  · skip
    refine ks_nil ?_
    show (_ : Rz) = _
    exact if_pos (by simp at h1; exact h1.2)
def S_check_hour : Pm := fun ds r => ∃ (t_ : Tv), ds = [dv t_] ∧ (∀ v ∈ t_.vs, scl v) ∧ r = (if (mkHr t_).isSome = true then .ok (dv ()) else .err 11)
theorem ok_check_hour (T : Tx w K mg) : FnOk PP w K mg base (L2.CX PP w) 3 T.a_check_hour T.fd_check_hour ["hour"] (spOf K T.cls S_check_hour) := by
  refine fn_ok T.F_check_hour sc_check_hour (fun ds r h => by obtain ⟨t_, rfl, _⟩ := h; rfl) fun cd A outer s H E hs ds r hr h => ?_
  obtain ⟨t_, rfl, p1, rfl⟩ := h
  show KSs _ ([.sh (dv t_), .no, .no, .no, .no, .no] : List Ent) _ _
  refine ks_cons (s_if ?_)
  refine t_w ?_
  refine' w_orD _ ?_; rotate_left
  refine t_not ?_
  refine t_val ?_
  refine k_isTup (α := Tv) (ds := Tv.ds) T.nogl ?_
  refine k_var 0 rfl rfl ?_
  refine ⟨fun hb1 => ?_, ?_⟩
  · skip
    refine w_or1 ?_
    refine t_ne (α := Int) ?_
    refine k_lenT (α := Tv) (ds := Tv.ds) T.nogl ?_
    refine k_var 0 rfl rfl ?_
    refine k_int ?_
    exact rfl
  refine ifB (fun h1 => ?_) (fun h1 => ?_)
  · skip
    refine ks_one (s_raise (cn := 11) T.e_InvalidCourse ?_)
    refine k_str ?_
    show (_ : Rz) = _
    exact if_neg (by rw [no5 h1]; decide)
  · skip
    obtain ⟨a_, b_, c_, d_, e_, rfl⟩ := tv5 h1
    have sa_ := p1 a_ (by simp)
    have sb_ := p1 b_ (by simp)
    have sc_ := p1 c_ (by simp)
    have sd_ := p1 d_ (by simp)
    have se_ := p1 e_ (by simp)
    refine ks_conv 0 (T5v.mk a_ b_ c_ d_ e_) rfl (cv_t5 a_ b_ c_ d_ e_) ?_
    show KSs _ ([.sh (dv (T5v.mk a_ b_ c_ d_ e_)), .no, .no, .no, .no, .no] : List Ent) _ _
    refine ks_nil ?_
    show KSs _ ([.sh (dv (T5v.mk a_ b_ c_ d_ e_)), .no, .no, .no, .no, .no] : List Ent) _ _
    refine ks_cons (s_lets (α := T5v) (ds := T5v.ds) [1, 2, 3, 4, 5] (pgs_cons (pg_name (i := 1) sc_check_hour.nd rfl (by first | exact .inl rfl | exact .inr rfl)) (pgs_cons (pg_name (i := 2) sc_check_hour.nd rfl (by first | exact .inl rfl | exact .inr rfl)) (pgs_cons (pg_name (i := 3) sc_check_hour.nd rfl (by first | exact .inl rfl | exact .inr rfl)) (pgs_cons (pg_name (i := 4) sc_check_hour.nd rfl (by first | exact .inl rfl | exact .inr rfl)) (pgs_cons (pg_name (i := 5) sc_check_hour.nd rfl (by first | exact .inl rfl | exact .inr rfl)) (pgs_nil)))))) (fun _ => rfl) ?_)
    refine k_var 0 rfl rfl ?_
    intro z_ ez_; subst z_
    show KSs _ ([.sh (dv (T5v.mk a_ b_ c_ d_ e_)), .sh (dv a_), .sh (dv b_), .sh (dv c_), .sh (dv d_), .sh (dv e_)] : List Ent) _ _
    refine ks_cons (s_expr (α := Unit) ?_)
    refine k_call (ok_check_bounds T) (hr.mono (by decide)) T.g_check_bounds T.k_check_bounds T.b_check_bounds ?_
    refine a_cons (α := V) ?_
    refine k_var 1 rfl rfl ?_
    refine a_cons (α := V) ?_
    refine k_var 2 rfl rfl ?_
    refine a_nil ?_
    refine ⟨_, ⟨_, _, rfl, sa_, sb_, rfl⟩, ?_⟩
    refine Got.ite (fun c1 => ?_) (fun c1 => ?_)
    rotate_left
    · exact (show (if (mkHr ⟨[a_, b_, c_, d_, e_]⟩).isSome = true then Rz.ok (dv ()) else Rz.err 11) = Rz.err 11 from if_neg (by rw [mkHr_isSome]; simp at c1; simp [c1]))
    refine Got.ok ?_
    show KSs _ ([.sh (dv (T5v.mk a_ b_ c_ d_ e_)), .sh (dv a_), .sh (dv b_), .sh (dv c_), .sh (dv d_), .sh (dv e_)] : List Ent) _ _
    refine ks_cons (s_expr (α := Unit) ?_)
    refine k_call (ok_check_bounds T) (hr.mono (by decide)) T.g_check_bounds T.k_check_bounds T.b_check_bounds ?_
    refine a_cons (α := V) ?_
    refine k_var 3 rfl rfl ?_
    refine a_cons (α := V) ?_
    refine k_var 4 rfl rfl ?_
    refine a_nil ?_
    refine ⟨_, ⟨_, _, rfl, sc_, sd_, rfl⟩, ?_⟩
    refine Got.ite (fun c2 => ?_) (fun c2 => ?_)
    rotate_left
    · exact (show (if (mkHr ⟨[a_, b_, c_, d_, e_]⟩).isSome = true then Rz.ok (dv ()) else Rz.err 11) = Rz.err 11 from if_neg (by rw [mkHr_isSome]; simp at c2; simp [c2]))
    refine Got.ok ?_
    show KSs _ ([.sh (dv (T5v.mk a_ b_ c_ d_ e_)), .sh (dv a_), .sh (dv b_), .sh (dv c_), .sh (dv d_), .sh (dv e_)] : List Ent) _ _
    refine ks_one (s_if ?_)
    refine t_not ?_
    refine t_val ?_
    refine k_isV (T := "bool") T.nogl (T.nogl _ (by simp)) (by decide +kernel) ?_
    refine k_var 5 rfl rfl ?_
    obtain ⟨k_, k1_, k2_⟩ := kb se_
    refine ⟨_, _, k1_, k2_, ?_⟩
    refine ifNB (fun h2 => ?_) (fun h2 => ?_)
    · skip
      refine ks_one (s_raise (cn := 11) T.e_InvalidCourse ?_)
      refine k_str ?_
      show (_ : Rz) = _
      exact if_neg (by rw [mkHr_isSome, h2]; simp)
    · skip
      refine ks_nil ?_
      show (_ : Rz) = _
      exact if_pos (by rw [mkHr_isSome, c1, c2, h2]; rfl)
def S_Works__init : List DV → Ri → Prop := fun ds r => ∃ (a_ b_ c_ d_ e_ : V), ds = [dv a_, dv b_, dv c_, dv d_, dv e_] ∧ (scl a_) ∧ (scl b_) ∧ (scl c_) ∧ (scl d_) ∧ (scl e_) ∧ r = initWk a_ b_ c_ d_ e_
theorem ok_Works__init (T : Tx w K mg) : FnOk PP w K mg base (L2.CX PP w) 3 T.a_Works__init T.fd_Works__init ["self", "wall", "flow", "pump", "rest", "deep"] (spInit K T.cls 0 S_Works__init) := by
  refine init_ok T.F_Works__init sc_Works__init (fun ds r h => by obtain ⟨a_, b_, c_, d_, e_, rfl, _⟩ := h; rfl) fun cd A outer s H B E hs p_ ds r hr h => ?_
  obtain ⟨a_, b_, c_, d_, e_, rfl, p1, p2, p3, p4, p5, rfl⟩ := h
  show KSs _ ([(.ow (oobj p_ 0 [])), .sh (dv a_), .sh (dv b_), .sh (dv c_), .sh (dv d_), .sh (dv e_)] : List Ent) _ _
  refine ks_cons (s_expr (α := Unit) ?_)
  refine k_call (ok_check_works_number T) (hr.mono (by decide)) T.g_check_works_number T.k_check_works_number T.b_check_works_number ?_
  refine a_cons (α := Str) ?_
  refine k_str ?_
  refine a_cons (α := V) ?_
  refine k_var 1 rfl rfl ?_
  refine a_cons (α := Int) ?_
  refine k_int ?_
  refine a_cons (α := Int) ?_
  refine k_gint T.c_MOST_LEVEL ?_
  refine a_nil ?_
  refine ⟨_, ⟨_, _, _, _, rfl, by decide, p1, by decide, by decide, rfl⟩, ?_⟩
  refine Got.ite (fun c1 => ?_) (fun c1 => ?_)
  rotate_left
  · exact (show initWk a_ b_ c_ d_ e_ = Ri.err 10 from by unfold initWk; simp [c1])
  refine Got.ok ?_
  show KSs _ ([(.ow (oobj p_ 0 [])), .sh (dv a_), .sh (dv b_), .sh (dv c_), .sh (dv d_), .sh (dv e_)] : List Ent) _ _
  refine ks_cons (s_expr (α := Unit) ?_)
  refine k_call (ok_check_works_number T) (hr.mono (by decide)) T.g_check_works_number T.k_check_works_number T.b_check_works_number ?_
  refine a_cons (α := Str) ?_
  refine k_str ?_
  refine a_cons (α := V) ?_
  refine k_var 2 rfl rfl ?_
  refine a_cons (α := Int) ?_
  refine k_int ?_
  refine a_cons (α := Int) ?_
  refine k_gint T.c_MOST_FLOW ?_
  refine a_nil ?_
  refine ⟨_, ⟨_, _, _, _, rfl, by decide, p2, by decide, by decide, rfl⟩, ?_⟩
  refine Got.ite (fun c2 => ?_) (fun c2 => ?_)
  rotate_left
  · exact (show initWk a_ b_ c_ d_ e_ = Ri.err 10 from by unfold initWk; simp [c1, c2])
  refine Got.ok ?_
  show KSs _ ([(.ow (oobj p_ 0 [])), .sh (dv a_), .sh (dv b_), .sh (dv c_), .sh (dv d_), .sh (dv e_)] : List Ent) _ _
  refine ks_cons (s_expr (α := Unit) ?_)
  refine k_call (ok_check_works_number T) (hr.mono (by decide)) T.g_check_works_number T.k_check_works_number T.b_check_works_number ?_
  refine a_cons (α := Str) ?_
  refine k_str ?_
  refine a_cons (α := V) ?_
  refine k_var 3 rfl rfl ?_
  refine a_cons (α := Int) ?_
  refine k_int ?_
  refine a_cons (α := Int) ?_
  refine k_gint T.c_MOST_PUMP ?_
  refine a_nil ?_
  refine ⟨_, ⟨_, _, _, _, rfl, by decide, p3, by decide, by decide, rfl⟩, ?_⟩
  refine Got.ite (fun c3 => ?_) (fun c3 => ?_)
  rotate_left
  · exact (show initWk a_ b_ c_ d_ e_ = Ri.err 10 from by unfold initWk; simp [c1, c2, c3])
  refine Got.ok ?_
  show KSs _ ([(.ow (oobj p_ 0 [])), .sh (dv a_), .sh (dv b_), .sh (dv c_), .sh (dv d_), .sh (dv e_)] : List Ent) _ _
  refine ks_cons (s_expr (α := Unit) ?_)
  refine k_call (ok_check_works_number T) (hr.mono (by decide)) T.g_check_works_number T.k_check_works_number T.b_check_works_number ?_
  refine a_cons (α := Str) ?_
  refine k_str ?_
  refine a_cons (α := V) ?_
  refine k_var 4 rfl rfl ?_
  refine a_cons (α := Int) ?_
  refine k_int ?_
  refine a_cons (α := Int) ?_
  refine k_gint T.c_MOST_REST ?_
  refine a_nil ?_
  refine ⟨_, ⟨_, _, _, _, rfl, by decide, p4, by decide, by decide, rfl⟩, ?_⟩
  refine Got.ite (fun c4 => ?_) (fun c4 => ?_)
  rotate_left
  · exact (show initWk a_ b_ c_ d_ e_ = Ri.err 10 from by unfold initWk; simp [c1, c2, c3, c4])
  refine Got.ok ?_
  show KSs _ ([(.ow (oobj p_ 0 [])), .sh (dv a_), .sh (dv b_), .sh (dv c_), .sh (dv d_), .sh (dv e_)] : List Ent) _ _
  obtain ⟨a, ea_, iwall⟩ := isWh_int c1
  obtain ⟨b, eb_, iflow⟩ := isWh_int c2
  obtain ⟨c, ec_, ipump⟩ := isWh_int c3
  obtain ⟨d, ed_, irest⟩ := isWh_int c4
  refine ks_conv 1 a rfl (cv_vi ea_) ?_
  show KSs _ ([(.ow (oobj p_ 0 [])), .sh (dv a), .sh (dv b_), .sh (dv c_), .sh (dv d_), .sh (dv e_)] : List Ent) _ _
  refine ks_conv 2 b rfl (cv_vi eb_) ?_
  show KSs _ ([(.ow (oobj p_ 0 [])), .sh (dv a), .sh (dv b), .sh (dv c_), .sh (dv d_), .sh (dv e_)] : List Ent) _ _
  refine ks_conv 3 c rfl (cv_vi ec_) ?_
  show KSs _ ([(.ow (oobj p_ 0 [])), .sh (dv a), .sh (dv b), .sh (dv c), .sh (dv d_), .sh (dv e_)] : List Ent) _ _
  refine ks_conv 4 d rfl (cv_vi ed_) ?_
  show KSs _ ([(.ow (oobj p_ 0 [])), .sh (dv a), .sh (dv b), .sh (dv c), .sh (dv d), .sh (dv e_)] : List Ent) _ _
  refine ks_cons (s_expr (α := Unit) ?_)
  refine k_call (ok_check_works_number T) (hr.mono (by decide)) T.g_check_works_number T.k_check_works_number T.b_check_works_number ?_
  refine a_cons (α := Str) ?_
  refine k_str ?_
  refine a_cons (α := V) ?_
  refine k_var 5 rfl rfl ?_
  refine a_cons (α := Int) ?_
  refine k_int ?_
  refine a_cons (α := Int) ?_
  refine k_var 1 rfl rfl ?_
  refine a_nil ?_
  refine ⟨_, ⟨_, _, _, _, rfl, by decide, p5, by decide, by have := iwall; omega, rfl⟩, ?_⟩
  refine Got.ite (fun c5 => ?_) (fun c5 => ?_)
  rotate_left
  · exact (show initWk _ _ _ _ _ = Ri.err 10 from by rw [ea_]; exact initWk_e (by rw [← ea_]; exact c1) c2 c3 c4 c5)
  refine Got.ok ?_
  obtain ⟨e, ee_, ie⟩ := isWh_int c5
  show KSs _ ([(.ow (oobj p_ 0 [])), .sh (dv a), .sh (dv b), .sh (dv c), .sh (dv d), .sh (dv e_)] : List Ent) _ _
  refine ks_conv 5 e rfl (cv_vi ee_) ?_
  show KSs _ ([(.ow (oobj p_ 0 [])), .sh (dv a), .sh (dv b), .sh (dv c), .sh (dv d), .sh (dv e)] : List Ent) _ _
  refine ks_cons (s_setF (α := Int) (num := 0) 0 rfl rfl (by decide) T.cl_0 T.na_wall ?_)
  refine k_var 1 rfl rfl ?_
  refine fun set1 set1_e => ?_
  have set1_l : set1.length ≤ 1 := by rw [set1_e]; exact Nat.le_trans (putD_le _ _ _) (Nat.le_refl 1)
  show KSs _ ([.ow (oobj p_ 0 set1), .sh (dv a), .sh (dv b), .sh (dv c), .sh (dv d), .sh (dv e)] : List Ent) _ _
  refine ks_cons (s_setF (α := Int) (num := 0) 0 rfl rfl (by have := set1_l; omega) T.cl_0 T.na_flow ?_)
  refine k_var 2 rfl rfl ?_
  refine fun set2 set2_e => ?_
  have set2_l : set2.length ≤ 2 := by rw [set2_e]; exact Nat.le_trans (putD_le _ _ _) (Nat.succ_le_succ set1_l)
  show KSs _ ([.ow (oobj p_ 0 set2), .sh (dv a), .sh (dv b), .sh (dv c), .sh (dv d), .sh (dv e)] : List Ent) _ _
  refine ks_cons (s_setF (α := Int) (num := 0) 0 rfl rfl (by have := set2_l; omega) T.cl_0 T.na_pump ?_)
  refine k_var 3 rfl rfl ?_
  refine fun set3 set3_e => ?_
  have set3_l : set3.length ≤ 3 := by rw [set3_e]; exact Nat.le_trans (putD_le _ _ _) (Nat.succ_le_succ set2_l)
  show KSs _ ([.ow (oobj p_ 0 set3), .sh (dv a), .sh (dv b), .sh (dv c), .sh (dv d), .sh (dv e)] : List Ent) _ _
  refine ks_cons (s_setF (α := Int) (num := 0) 0 rfl rfl (by have := set3_l; omega) T.cl_0 T.na_rest ?_)
  refine k_var 4 rfl rfl ?_
  refine fun set4 set4_e => ?_
  have set4_l : set4.length ≤ 4 := by rw [set4_e]; exact Nat.le_trans (putD_le _ _ _) (Nat.succ_le_succ set3_l)
  show KSs _ ([.ow (oobj p_ 0 set4), .sh (dv a), .sh (dv b), .sh (dv c), .sh (dv d), .sh (dv e)] : List Ent) _ _
  refine ks_one (s_setF (α := Int) (num := 0) 0 rfl rfl (by have := set4_l; omega) T.cl_0 T.na_deep ?_)
  refine k_var 5 rfl rfl ?_
  refine fun set5 set5_e => ?_
  have set5_l : set5.length ≤ 5 := by rw [set5_e]; exact Nat.le_trans (putD_le _ _ _) (Nat.succ_le_succ set4_l)
  subst set1_e; subst set2_e; subst set3_e; subst set4_e; subst set5_e
  subst ea_ eb_ ec_ ed_ ee_
  exact ⟨_, rfl, initWk_ok' c1 c2 c3 c4 ie⟩
def S_Course__init : List DV → Ri → Prop := fun ds r => ∃ (hs_ : List Tv), ds = [dv hs_] ∧ (∀ t ∈ hs_, ∀ v ∈ t.vs, scl v) ∧ r = initCrs hs_
theorem ok_Course__init (T : Tx w K mg) : FnOk PP w K mg base (L2.CX PP w) 4 T.a_Course__init T.fd_Course__init ["self", "hours"] (spInit K T.cls 1 S_Course__init) := by
  refine init_ok T.F_Course__init sc_Course__init (fun ds r h => by obtain ⟨hs_, rfl, _⟩ := h; rfl) fun cd A outer s H B E hs p_ ds r hr h => ?_
  obtain ⟨hs_, rfl, p1, rfl⟩ := h
  show KSs _ ([(.ow (oobj p_ 1 [])), .sh (dv hs_), .no] : List Ent) _ _
  refine ks_cons (s_if ?_)
  refine t_w ?_
  refine w_orD (!isWh (.int (hs_.length : Int)) 1 72) ?_
  refine t_not ?_
  refine t_val ?_
  refine k_isLst (α := Tv) T.nogl ?_
  refine k_var 1 rfl rfl ?_
  refine ⟨fun hb1 => ?_, ?_⟩
  · skip
    refine w_or1 ?_
    refine t_not ?_
    refine t_val ?_
    refine k_call (ok_is_whole T) (hr.mono (by decide)) T.g_is_whole T.k_is_whole T.b_is_whole ?_
    refine a_cons (α := V) ?_
    refine k_toV (α := Int) ?_
    refine k_lenL (α := Tv) T.nogl ?_
    refine k_var 1 rfl rfl ?_
    refine a_cons (α := Int) ?_
    refine k_int ?_
    refine a_cons (α := Int) ?_
    refine k_gint T.c_MOST_HOURS ?_
    refine a_nil ?_
    refine ⟨_, ⟨_, _, _, rfl, scl_i _, rfl⟩, Got.ok ?_⟩
    exact rfl
  refine ifB (fun h1 => ?_) (fun h1 => ?_)
  · skip
    refine ks_one (s_raise (cn := 11) T.e_InvalidCourse ?_)
    refine k_join ?_ (by decide)
    refine k_lit (by decide) ?_
    refine k_fmtI ?_
    refine k_gint T.c_MOST_HOURS ?_
    refine ⟨by omega, ?_⟩
    refine k_lit (by decide) ?_
    show (_ : Ri) = _
    exact if_neg (by simp [isWh] at h1; omega)
  · skip
    have hl_ : 1 ≤ hs_.length ∧ hs_.length ≤ 72 := by simp [isWh] at h1; omega
    refine ks_nil ?_
    show KSs _ ([(.ow (oobj p_ 1 [])), .sh (dv hs_), .no] : List Ent) _ _
    refine ks_cons (s_for (α := Tv) (g_name (α := Tv) 2 sc_Course__init.nd rfl) ?_)
    refine k_var 1 rfl rfl ?_
    refine ⟨fun (i_for1 : Nat) e_ => e_ = ([(.ow (oobj p_ 1 [])), .sh (dv hs_), .no] : List Ent) ∧ (∀ (j_ : Nat) t_, j_ < i_for1 → hs_[j_]? = some t_ → (mkHr t_).isSome = true), ?_, ?_, ?_⟩
    · exact ⟨rfl, fun _ _ h_ => absurd h_ (Nat.not_lt_zero _)⟩
    · rintro i_for1 hour _ for1_at ⟨rfl, for1_i⟩
      refine turn_fgt ?_
      show KSs _ ([(.ow (oobj p_ 1 [])), .sh (dv hs_), .sh (dv hour)] : List Ent) _ _
      refine ks_one (s_expr (α := Unit) ?_)
      refine k_call (ok_check_hour T) (hr.mono (by decide)) T.g_check_hour T.k_check_hour T.b_check_hour ?_
      refine a_cons (α := Tv) ?_
      refine k_var 2 rfl rfl ?_
      refine a_nil ?_
      refine ⟨_, ⟨_, rfl, p1 _ (List.mem_of_getElem? for1_at), rfl⟩, ?_⟩
      refine Got.ite (fun c1 => ?_) (fun c1 => ?_)
      rotate_left
      · exact (show initCrs hs_ = Ri.err 11 from if_neg (fun z => c1 (by have z2 := z.2.2; rw [List.all_eq_true] at z2; exact z2 _ (List.mem_of_getElem? for1_at))))
      refine Got.ok ?_
      exact ⟨[2], rfl, fun j_ t_ hj_ ht_ => by
        rcases Nat.lt_succ_iff_lt_or_eq.mp hj_ with h_ | h_
        · exact for1_i j_ t_ h_ ht_
        · subst h_; rw [for1_at] at ht_; cases ht_; exact c1⟩
    · rintro _ ⟨rfl, for1_d⟩
      have hall : ∀ t_ ∈ hs_, (mkHr t_).isSome = true := fun t_ ht_ => by
        obtain ⟨j_, hj_, e_⟩ := List.mem_iff_getElem.mp ht_
        exact for1_d j_ t_ hj_ (by rw [List.getElem?_eq_getElem hj_, e_])
      show KSs _ ([(.ow (oobj p_ 1 [])), .sh (dv hs_), .no] : List Ent) _ _
      refine ks_one (s_setF (α := List Hr) (num := 1) 0 rfl rfl (by decide) T.cl_1 T.na_hours ?_)
      refine k_cv (α := List Tv) ?_
      refine k_list T.nogl ?_
      refine k_var 1 rfl rfl ?_
      refine ⟨_, cv_hrs (by assumption), ?_⟩
      refine fun set1 set1_e => ?_
      have set1_l : set1.length ≤ 1 := by rw [set1_e]; exact Nat.le_trans (putD_le _ _ _) (Nat.le_refl 1)
      subst set1_e
      exact ⟨_, rfl, if_pos ⟨hl_.1, hl_.2, List.all_eq_true.mpr hall⟩⟩
def S_Course_count : Pm := fun ds r => ∃ (c_ : Crs), ds = [dv c_] ∧ r = .ok (dv (c_.hours.length : Int))
theorem ok_Course_count (T : Tx w K mg) : FnOk PP w K mg base (L2.CX PP w) 1 T.a_Course_count T.fd_Course_count ["self"] (spOf K T.cls S_Course_count) := by
  refine fn_ok T.F_Course_count sc_Course_count (fun ds r h => by obtain ⟨c_, rfl, _⟩ := h; rfl) fun cd A outer s H E hs ds r hr h => ?_
  obtain ⟨c_, rfl, rfl⟩ := h
  show KSs _ ([.sh (dv c_)] : List Ent) _ _
  refine ks_one (s_ret (α := Int) ?_)
  refine k_lenL (α := Hr) T.nogl ?_
  refine k_fld (n := 1) Crs.hours Crs.lk_hours T.cl_1 T.na_hours ?_
  refine k_var 0 rfl rfl ?_
  show (_ : Rz) = _
  first | rfl | assumption | (simp_all; done)
def S_Course_hour : Pm := fun ds r => ∃ (c_ : Crs) (n_ : V), ds = [dv c_, dv n_] ∧ (c_.hours.length ≤ 100000) ∧ (scl n_) ∧ r = hourR c_ n_
theorem ok_Course_hour (T : Tx w K mg) : FnOk PP w K mg base (L2.CX PP w) 2 T.a_Course_hour T.fd_Course_hour ["self", "number"] (spOf K T.cls S_Course_hour) := by
  refine fn_ok T.F_Course_hour sc_Course_hour (fun ds r h => by obtain ⟨c_, n_, rfl, _⟩ := h; rfl) fun cd A outer s H E hs ds r hr h => ?_
  obtain ⟨c_, n_, rfl, p1, p2, rfl⟩ := h
  show KSs _ ([.sh (dv c_), .sh (dv n_)] : List Ent) _ _
  refine ks_cons (s_if ?_)
  refine t_not ?_
  refine t_val ?_
  refine k_call (ok_is_whole T) (hr.mono (by decide)) T.g_is_whole T.k_is_whole T.b_is_whole ?_
  refine a_cons (α := V) ?_
  refine k_var 1 rfl rfl ?_
  refine a_cons (α := Int) ?_
  refine k_int ?_
  refine a_cons (α := Int) ?_
  refine k_sub ?_
  refine k_meth0 (num := 1) Crs.no_count T.cl_1 T.m_Course_count (ok_Course_count T) (hr.mono (by decide)) T.b_Course_count ?_
  refine k_var 0 rfl rfl ?_
  refine ⟨_, ⟨_, rfl, rfl⟩, Got.ok ?_⟩
  refine k_int ?_
  refine a_nil ?_
  refine ⟨_, ⟨_, _, _, rfl, p2, rfl⟩, Got.ok ?_⟩
  refine ifNB (fun h1 => ?_) (fun h1 => ?_)
  · skip
    refine ks_one (s_raise (cn := 12) T.e_InvalidState ?_)
    refine k_join ?_ (by decide)
    refine k_lit (by decide) ?_
    refine k_fmtI ?_
    refine k_sub ?_
    refine k_meth0 (num := 1) Crs.no_count T.cl_1 T.m_Course_count (ok_Course_count T) (hr.mono (by decide)) T.b_Course_count ?_
    refine k_var 0 rfl rfl ?_
    refine ⟨_, ⟨_, rfl, rfl⟩, Got.ok ?_⟩
    refine k_int ?_
    refine ⟨by omega, ?_⟩
    show (_ : Rz) = _
    exact hour_no (by simpa using h1)
  · skip
    obtain ⟨k_, ek_, k0_, k1_⟩ := isWh_int (by simpa using h1)
    obtain ⟨x_, hx_⟩ : ∃ x, c_.hours[k_.toNat]? = some x := ⟨_, List.getElem?_eq_getElem (by omega)⟩
    refine ks_nil ?_
    show KSs _ ([.sh (dv c_), .sh (dv n_)] : List Ent) _ _
    refine ks_one (s_ret (α := Hr) ?_)
    refine k_ixL ?_
    refine k_fld (n := 1) Crs.hours Crs.lk_hours T.cl_1 T.na_hours ?_
    refine k_var 0 rfl rfl ?_
    refine k_cv (α := V) ?_
    refine k_var 1 rfl rfl ?_
    refine ⟨_, cv_vi (by assumption), ?_⟩
    refine ⟨x_, ⟨k0_, hx_⟩, ?_⟩
    show (_ : Rz) = _
    exact (by rw [ek_]; exact hourR_ok k0_ hx_)
def S_span : Pm := fun ds r => ∃ (w_ : Wk) (c_ : Crs) (n_ : V) (l_ : Int) (s_ : Bool), ds = [dv w_, dv c_, dv n_, dv l_, dv s_] ∧ (c_.hours.length ≤ 100000) ∧ (scl n_) ∧ r = spanR w_ c_ n_ l_ s_
theorem ok_span (T : Tx w K mg) : FnOk PP w K mg base (L2.CX PP w) 3 T.a_span T.fd_span ["works", "course", "number", "level", "shut"] (spOf K T.cls S_span) := by
  refine fn_ok T.F_span sc_span (fun ds r h => by obtain ⟨w_, c_, n_, l_, s_, rfl, _⟩ := h; rfl) fun cd A outer s H E hs ds r hr h => ?_
  obtain ⟨w_, c_, n_, l_, s_, rfl, p1, p2, rfl⟩ := h
  show KSs _ ([.sh (dv w_), .sh (dv c_), .sh (dv n_), .sh (dv l_), .sh (dv s_), .no, .no, .no, .no, .no, .no, .no] : List Ent) _ _
  refine ks_cons (s_lets (α := Hr) (ds := Hr.ds) [5, 6, 7, 8, 9] (pgs_cons (pg_name (i := 5) sc_span.nd rfl (by first | exact .inl rfl | exact .inr rfl)) (pgs_cons (pg_name (i := 6) sc_span.nd rfl (by first | exact .inl rfl | exact .inr rfl)) (pgs_cons (pg_name (i := 7) sc_span.nd rfl (by first | exact .inl rfl | exact .inr rfl)) (pgs_cons (pg_name (i := 8) sc_span.nd rfl (by first | exact .inl rfl | exact .inr rfl)) (pgs_cons (pg_name (i := 9) sc_span.nd rfl (by first | exact .inl rfl | exact .inr rfl)) (pgs_nil)))))) (fun _ => rfl) ?_)
  refine k_meth (num := 1) Crs.no_hour T.cl_1 T.m_Course_hour (ok_Course_hour T) (hr.mono (by decide)) T.b_Course_hour ?_
  refine k_var 1 rfl rfl ?_
  refine a_cons (α := V) ?_
  refine k_var 2 rfl rfl ?_
  refine a_nil ?_
  refine ⟨_, ⟨_, _, rfl, p1, p2, rfl⟩, ?_⟩
  unfold hourR
  cases eh_ : Crs.at_ c_ n_ with
  | none => exact (show spanR w_ c_ n_ l_ s_ = Rz.err 12 from by unfold spanR; rw [eh_])
  | some h_ =>
  refine Got.ok ?_
  refine fun tu1 tu1_e => ?_
  show KSs _ ([.sh (dv w_), .sh (dv c_), .sh (dv n_), .sh (dv l_), .sh (dv s_), .sh (dv (Hr.sl tu1)), .sh (dv (Hr.sh tu1)), .sh (dv (Hr.rl tu1)), .sh (dv (Hr.rh tu1)), .sh (dv (Hr.ship tu1)), .no, .no] : List Ent) _ _
  refine ks_cons (s_let (α := Int) 10 sc_span.nd rfl ?_)
  refine k_meth (num := 0) Wk.no_next_level T.cl_0 T.m_Works_next_level (ok_Works_next_level T) (hr.mono (by decide)) T.b_Works_next_level ?_
  refine k_var 0 rfl rfl ?_
  refine a_cons (α := Int) ?_
  refine k_var 3 rfl rfl ?_
  refine a_cons (α := Bool) ?_
  refine k_var 4 rfl rfl ?_
  refine a_cons (α := Int) ?_
  refine k_var 5 rfl rfl ?_
  refine a_cons (α := Int) ?_
  refine k_var 7 rfl rfl ?_
  refine a_nil ?_
  refine ⟨_, ⟨_, _, _, _, _, rfl, rfl⟩, Got.ok ?_⟩
  refine fun least least_e => ?_
  show KSs _ ([.sh (dv w_), .sh (dv c_), .sh (dv n_), .sh (dv l_), .sh (dv s_), .sh (dv (Hr.sl tu1)), .sh (dv (Hr.sh tu1)), .sh (dv (Hr.rl tu1)), .sh (dv (Hr.rh tu1)), .sh (dv (Hr.ship tu1)), .sh (dv least), .no] : List Ent) _ _
  refine ks_cons (s_let (α := Int) 11 sc_span.nd rfl ?_)
  refine k_meth (num := 0) Wk.no_next_level T.cl_0 T.m_Works_next_level (ok_Works_next_level T) (hr.mono (by decide)) T.b_Works_next_level ?_
  refine k_var 0 rfl rfl ?_
  refine a_cons (α := Int) ?_
  refine k_var 3 rfl rfl ?_
  refine a_cons (α := Bool) ?_
  refine k_var 4 rfl rfl ?_
  refine a_cons (α := Int) ?_
  refine k_var 6 rfl rfl ?_
  refine a_cons (α := Int) ?_
  refine k_var 8 rfl rfl ?_
  refine a_nil ?_
  refine ⟨_, ⟨_, _, _, _, _, rfl, rfl⟩, Got.ok ?_⟩
  refine fun greatest greatest_e => ?_
  show KSs _ ([.sh (dv w_), .sh (dv c_), .sh (dv n_), .sh (dv l_), .sh (dv s_), .sh (dv (Hr.sl tu1)), .sh (dv (Hr.sh tu1)), .sh (dv (Hr.rl tu1)), .sh (dv (Hr.rh tu1)), .sh (dv (Hr.ship tu1)), .sh (dv least), .sh (dv greatest)] : List Ent) _ _
  refine ks_one (s_ret (α := (Int × Int)) ?_)
  refine k_tup (α := (Int × Int)) (ds := ds2) ?_
  refine a_cons (α := Int) ?_
  refine k_var 10 rfl rfl ?_
  refine a_cons (α := Int) ?_
  refine k_var 11 rfl rfl ?_
  refine a_nil ?_
  refine ⟨Nat.le_of_ble_eq_true rfl, ⟨_, _⟩, rfl, ?_⟩
  show (_ : Rz) = _
  exact (by unfold spanR; rw [eh_, least_e, greatest_e, tu1_e]; rfl)
def S_is_good : Pm := fun ds r => ∃ (w_ : Wk) (c_ : Crs) (n_ : V) (s_ : Bool) (l_ : Int), ds = [dv w_, dv c_, dv n_, dv s_, dv l_] ∧ (c_.hours.length ≤ 100000) ∧ (scl n_) ∧ r = goodR w_ c_ n_ s_ l_
theorem ok_is_good (T : Tx w K mg) : FnOk PP w K mg base (L2.CX PP w) 3 T.a_is_good T.fd_is_good ["works", "course", "number", "shut", "level"] (spOf K T.cls S_is_good) := by
  refine fn_ok T.F_is_good sc_is_good (fun ds r h => by obtain ⟨w_, c_, n_, s_, l_, rfl, _⟩ := h; rfl) fun cd A outer s H E hs ds r hr h => ?_
  obtain ⟨w_, c_, n_, s_, l_, rfl, p1, p2, rfl⟩ := h
  show KSs _ ([.sh (dv w_), .sh (dv c_), .sh (dv n_), .sh (dv s_), .sh (dv l_), .no] : List Ent) _ _
  refine ks_cons (s_let (α := Bool) 5 sc_is_good.nd rfl ?_)
  refine k_ixT (α := Hr) (ds := Hr.ds) 4 Hr.ship (fun _ => rfl) rfl ?_
  refine k_meth (num := 1) Crs.no_hour T.cl_1 T.m_Course_hour (ok_Course_hour T) (hr.mono (by decide)) T.b_Course_hour ?_
  refine k_var 1 rfl rfl ?_
  refine a_cons (α := V) ?_
  refine k_var 2 rfl rfl ?_
  refine a_nil ?_
  refine ⟨_, ⟨_, _, rfl, p1, p2, rfl⟩, ?_⟩
  unfold hourR
  cases eh_ : Crs.at_ c_ n_ with
  | none => exact (show goodR w_ c_ n_ s_ l_ = Rz.err 12 from by unfold goodR; rw [eh_])
  | some h_ =>
  refine Got.ok ?_
  refine fun ship ship_e => ?_
  show KSs _ ([.sh (dv w_), .sh (dv c_), .sh (dv n_), .sh (dv s_), .sh (dv l_), .sh (dv ship)] : List Ent) _ _
  refine ks_cons (s_if ?_)
  refine t_gt ?_
  refine k_var 4 rfl rfl ?_
  refine k_fld (n := 0) Wk.wall Wk.lk_wall T.cl_0 T.na_wall ?_
  refine k_var 0 rfl rfl ?_
  refine ifD (fun h1 => ?_) (fun h1 => ?_)
  · skip
    refine ks_one (s_ret (α := Bool) ?_)
    refine k_bl ?_
    show (_ : Rz) = _
    exact (by unfold goodR goodL; rw [eh_]; simp; omega)
  · skip
    refine ks_nil ?_
    show KSs _ ([.sh (dv w_), .sh (dv c_), .sh (dv n_), .sh (dv s_), .sh (dv l_), .sh (dv ship)] : List Ent) _ _
    refine ks_one (s_ret (α := Bool) ?_)
    refine' k_orD _ ?_; rotate_left
    refine k_not ?_
    refine k_var 5 rfl rfl ?_
    refine ⟨fun hb1 => ?_, ?_⟩
    · skip
      refine k_one ?_
      refine' k_andD _ ?_; rotate_left
      refine k_not ?_
      refine k_var 3 rfl rfl ?_
      refine ⟨fun hb2 => ?_, ?_⟩
      · skip
        refine k_one ?_
        refine k_ge ?_
        refine k_var 4 rfl rfl ?_
        refine k_fld (n := 0) Wk.deep Wk.lk_deep T.cl_0 T.na_deep ?_
        refine k_var 0 rfl rfl ?_
        exact rfl
      exact rfl
    show (_ : Rz) = _
    exact (by unfold goodR goodL; rw [eh_, ship_e]; simp; omega)
def S_law_cell : Pm := fun ds r => ∃ (ns_ : List Int) (k_ : Int), ds = [dv (Scr.mk ns_), dv k_] ∧ (0 ≤ k_) ∧ r = .ok (dv (cell17 ns_ k_))
theorem ok_law_cell (T : Tx w K mg) : FnOk PP w K mg base (L2.CX PP w) 1 T.a_law_cell T.fd_law_cell ["script", "k"] (spOf K T.cls S_law_cell) := by
  refine fn_ok T.F_law_cell sc_law_cell (fun ds r h => by obtain ⟨ns_, k_, rfl, _⟩ := h; rfl) fun cd A outer s H E hs ds r hr h => ?_
  obtain ⟨ns_, k_, rfl, p1, rfl⟩ := h
  show KSs _ ([.sh (dv (Scr.mk ns_)), .sh (dv k_)] : List Ent) _ _
  refine ks_cons (s_if ?_)
  refine t_lt ?_
  refine k_var 1 rfl rfl ?_
  refine k_lenS T.nogl ?_
  refine k_var 0 rfl rfl ?_
  refine ifD (fun h1 => ?_) (fun h1 => ?_)
  · skip
    have h1' : k_ < (ns_.length : Int) := h1
    obtain ⟨x_, hx_⟩ : ∃ x, ns_[k_.toNat]? = some x := ⟨_, List.getElem?_eq_getElem (by omega)⟩
    refine ks_one (s_ret (α := Int) ?_)
    refine k_intI T.nogl ?_
    refine k_ixScr ?_
    refine k_var 0 rfl rfl ?_
    refine k_var 1 rfl rfl ?_
    refine ⟨x_, ⟨p1, hx_⟩, ?_⟩
    show (_ : Rz) = _
    exact congrArg (fun x => Rz.ok (dv x)) (cell17_in h1 hx_)
  · skip
    refine ks_nil ?_
    show KSs _ ([.sh (dv (Scr.mk ns_)), .sh (dv k_)] : List Ent) _ _
    refine ks_one (s_ret (α := Int) ?_)
    refine k_add ?_
    refine k_mul ?_
    refine k_int ?_
    refine k_var 1 rfl rfl ?_
    refine ⟨.inl ⟨by decide, by decide⟩, ?_⟩
    refine k_int ?_
    show (_ : Rz) = _
    exact congrArg (fun x => Rz.ok (dv x)) (cell17_out h1)
def S_law_works : Pm := fun ds r => ∃ (ns_ : List Int), ds = [dv (Scr.mk ns_)] ∧ r = .ok (dv (works40 (cell17 ns_ 0)).l)
theorem ok_law_works (T : Tx w K mg) : FnOk PP w K mg base (L2.CX PP w) 2 T.a_law_works T.fd_law_works ["script"] (spOf K T.cls S_law_works) := by
  refine fn_ok T.F_law_works sc_law_works (fun ds r h => by obtain ⟨ns_, rfl, _⟩ := h; rfl) fun cd A outer s H E hs ds r hr h => ?_
  obtain ⟨ns_, rfl, rfl⟩ := h
  show KSs _ ([.sh (dv (Scr.mk ns_)), .no, .no] : List Ent) _ _
  refine ks_cons (s_let (α := Int) 1 sc_law_works.nd rfl ?_)
  refine k_call (ok_law_cell T) (hr.mono (by decide)) T.g_law_cell T.k_law_cell T.b_law_cell ?_
  refine a_cons (α := Scr) ?_
  refine k_var 0 rfl rfl ?_
  refine a_cons (α := Int) ?_
  refine k_int ?_
  refine a_nil ?_
  refine ⟨_, ⟨_, _, rfl, by first | assumption | omega, rfl⟩, Got.ok ?_⟩
  refine fun cell cell_e => ?_
  show KSs _ ([.sh (dv (Scr.mk ns_)), .sh (dv cell), .no] : List Ent) _ _
  refine ks_cons (s_let (α := Int) 2 sc_law_works.nd rfl ?_)
  refine k_add ?_
  refine k_int ?_
  refine k_mod ?_
  refine k_var 1 rfl rfl ?_
  refine k_int ?_
  refine ⟨by omega, ?_⟩
  refine fun wall wall_e => ?_
  show KSs _ ([.sh (dv (Scr.mk ns_)), .sh (dv cell), .sh (dv wall)] : List Ent) _ _
  refine ks_one (s_ret (α := List Int) ?_)
  refine k_lst (α := List Int) (ds := dvs) ?_
  refine a_cons (α := Int) ?_
  refine k_var 2 rfl rfl ?_
  refine a_cons (α := Int) ?_
  refine k_add ?_
  refine k_int ?_
  refine k_mod ?_
  refine k_div ?_
  refine k_var 1 rfl rfl ?_
  refine k_int ?_
  refine ⟨by omega, ?_⟩
  refine k_int ?_
  refine ⟨by omega, ?_⟩
  refine a_cons (α := Int) ?_
  refine k_mod ?_
  refine k_div ?_
  refine k_var 1 rfl rfl ?_
  refine k_int ?_
  refine ⟨by omega, ?_⟩
  refine k_int ?_
  refine ⟨by omega, ?_⟩
  refine a_cons (α := Int) ?_
  refine k_add ?_
  refine k_int ?_
  refine k_mod ?_
  refine k_div ?_
  refine k_var 1 rfl rfl ?_
  refine k_int ?_
  refine ⟨by omega, ?_⟩
  refine k_int ?_
  refine ⟨by omega, ?_⟩
  refine a_cons (α := Int) ?_
  refine k_mod ?_
  refine k_div ?_
  refine k_var 1 rfl rfl ?_
  refine k_int ?_
  refine ⟨by omega, ?_⟩
  refine k_add ?_
  refine k_var 2 rfl rfl ?_
  refine k_int ?_
  refine ⟨by omega, ?_⟩
  refine a_nil ?_
  refine ⟨Nat.le_of_ble_eq_true rfl, [_, _, _, _, _], rfl, ?_⟩
  show (_ : Rz) = _
  exact (by rw [wall_e, cell_e]; rfl)
def S_law_hours : Pm := fun ds r => ∃ (ns_ : List Int), ds = [dv (Scr.mk ns_)] ∧ r = .ok (dv (hours40 ns_ 5))
theorem ok_law_hours (T : Tx w K mg) : FnOk PP w K mg base (L2.CX PP w) 2 T.a_law_hours T.fd_law_hours ["script"] (spOf K T.cls S_law_hours) := by
  refine fn_ok T.F_law_hours sc_law_hours (fun ds r h => by obtain ⟨ns_, rfl, _⟩ := h; rfl) fun cd A outer s H E hs ds r hr h => ?_
  obtain ⟨ns_, rfl, rfl⟩ := h
  show KSs _ ([.sh (dv (Scr.mk ns_)), .no, .no, .no, .no, .no] : List Ent) _ _
  refine ks_cons (s_new (α := Hr) 1 sc_law_hours.nd rfl (Nat.le_of_ble_eq_true rfl) ?_)
  refine a_nil ?_
  refine ⟨Nat.le_of_ble_eq_true rfl, ([] : List Hr), rfl, ?_⟩
  rintro _ rfl
  show KSs _ ([.sh (dv (Scr.mk ns_)), .ow (olist ([] : List Hr)), .no, .no, .no, .no] : List Ent) _ _
  refine ks_cons (s_forR1 (g_name (α := Int) 2 sc_law_hours.nd rfl) T.nogl ?_)
  refine k_add ?_
  refine k_int ?_
  refine k_mod ?_
  refine k_call (ok_law_cell T) (hr.mono (by decide)) T.g_law_cell T.k_law_cell T.b_law_cell ?_
  refine a_cons (α := Scr) ?_
  refine k_var 0 rfl rfl ?_
  refine a_cons (α := Int) ?_
  refine k_int ?_
  refine a_nil ?_
  refine ⟨_, ⟨_, _, rfl, by first | assumption | omega, rfl⟩, Got.ok ?_⟩
  refine k_int ?_
  refine ⟨by omega, ?_⟩
  refine ⟨by omega, by omega, fun (i_ : Nat) e_ => e_ = ([.sh (dv (Scr.mk ns_)), .ow (olist (hrs40 ns_ (i_ : Int))), .no, .no, .no, .no] : List Ent) ∧ (True), ?_, ?_, ?_⟩
  · exact ⟨rfl, by first | trivial | rfl | simp⟩
  · rintro i_ _ for1_lt ⟨rfl, for1_i⟩
    refine turn_fgt ?_
    obtain ⟨k, k_e⟩ : ∃ v_ : Int, v_ = ((i_ : Nat) : Int) := ⟨_, rfl⟩
    refine at_int (i := 2) k_e ?_
    show KSs _ ([.sh (dv (Scr.mk ns_)), .ow (olist (hrs40 ns_ (i_ : Int))), .sh (dv k), .no, .no, .no] : List Ent) _ _
    refine ks_cons (s_let (α := Int) 3 sc_law_hours.nd rfl ?_)
    refine k_call (ok_law_cell T) (hr.mono (by decide)) T.g_law_cell T.k_law_cell T.b_law_cell ?_
    refine a_cons (α := Scr) ?_
    refine k_var 0 rfl rfl ?_
    refine a_cons (α := Int) ?_
    refine k_add ?_
    refine k_int ?_
    refine k_var 2 rfl rfl ?_
    refine a_nil ?_
    refine ⟨_, ⟨_, _, rfl, by first | assumption | omega, rfl⟩, Got.ok ?_⟩
    refine fun cell cell_e => ?_
    show KSs _ ([.sh (dv (Scr.mk ns_)), .ow (olist (hrs40 ns_ (i_ : Int))), .sh (dv k), .sh (dv cell), .no, .no] : List Ent) _ _
    refine ks_cons (s_let (α := Int) 4 sc_law_hours.nd rfl ?_)
    refine k_mod ?_
    refine k_var 3 rfl rfl ?_
    refine k_int ?_
    refine ⟨by omega, ?_⟩
    refine fun low low_e => ?_
    show KSs _ ([.sh (dv (Scr.mk ns_)), .ow (olist (hrs40 ns_ (i_ : Int))), .sh (dv k), .sh (dv cell), .sh (dv low), .no] : List Ent) _ _
    refine ks_cons (s_let (α := Int) 5 sc_law_hours.nd rfl ?_)
    refine k_mod ?_
    refine k_div ?_
    refine k_var 3 rfl rfl ?_
    refine k_int ?_
    refine ⟨by omega, ?_⟩
    refine k_int ?_
    refine ⟨by omega, ?_⟩
    refine fun least least_e => ?_
    show KSs _ ([.sh (dv (Scr.mk ns_)), .ow (olist (hrs40 ns_ (i_ : Int))), .sh (dv k), .sh (dv cell), .sh (dv low), .sh (dv least)] : List Ent) _ _
    refine ks_one (s_app 1 rfl rfl (by rw [hrs40_len]; omega) ?_)
    refine k_tup (α := Hr) (ds := Hr.ds) ?_
    refine a_cons (α := Int) ?_
    refine k_var 4 rfl rfl ?_
    refine a_cons (α := Int) ?_
    refine k_add ?_
    refine k_var 4 rfl rfl ?_
    refine k_mod ?_
    refine k_div ?_
    refine k_var 3 rfl rfl ?_
    refine k_int ?_
    refine ⟨by omega, ?_⟩
    refine k_int ?_
    refine ⟨by omega, ?_⟩
    refine a_cons (α := Int) ?_
    refine k_var 5 rfl rfl ?_
    refine a_cons (α := Int) ?_
    refine k_add ?_
    refine k_var 5 rfl rfl ?_
    refine k_mod ?_
    refine k_div ?_
    refine k_var 3 rfl rfl ?_
    refine k_int ?_
    refine ⟨by omega, ?_⟩
    refine k_int ?_
    refine ⟨by omega, ?_⟩
    refine a_cons (α := Bool) ?_
    refine k_eq (α := Int) ?_
    refine k_mod ?_
    refine k_div ?_
    refine k_var 3 rfl rfl ?_
    refine k_int ?_
    refine ⟨by omega, ?_⟩
    refine k_int ?_
    refine ⟨by omega, ?_⟩
    refine k_int ?_
    refine a_nil ?_
    refine ⟨Nat.le_of_ble_eq_true rfl, ⟨_, _, _, _, _⟩, rfl, ?_⟩
    refine fun hours_app1 hours_app1_e => ?_
    have e_ : hours_app1 = hrs40 ns_ ((i_ + 1 : Nat) : Int) := by
      rw [hours_app1_e, show ((i_ + 1 : Nat) : Int) = (i_ : Int) + 1 from rfl, hrs40_s (by omega), low_e, least_e, cell_e, k_e]; rfl
    rw [e_]
    exact ⟨[3, 4, 5, 2], rfl, trivial⟩
  · rintro _ ⟨rfl, for1_d⟩
    show KSs _ ([.sh (dv (Scr.mk ns_)), .ow (olist (hrs40 ns_ (((1 + cell17 ns_ 1 % 5).toNat) : Int))), .no, .no, .no, .no] : List Ent) _ _
    refine ks_freeze 1 rfl ?_
    show KSs _ ([.sh (dv (Scr.mk ns_)), .sh (dv (hrs40 ns_ (((1 + cell17 ns_ 1 % 5).toNat) : Int))), .no, .no, .no, .no] : List Ent) _ _
    refine ks_one (s_ret (α := List Hr) ?_)
    refine k_var 1 rfl rfl ?_
    show (_ : Rz) = _
    exact (by rw [show (((1 + cell17 ns_ 1 % 5).toNat : Nat) : Int) = 1 + cell17 ns_ 1 % 5 from by omega]; rfl)
def S_law_next : Pm := fun ds r => ∃ (w_ : Wk) (l_ : Int) (s_ : Bool) (a_ b_ : Int), ds = [dv w_.l, dv l_, dv s_, dv a_, dv b_] ∧ r = .ok (dv (nextL w_ l_ s_ a_ b_))
theorem ok_law_next (T : Tx w K mg) : FnOk PP w K mg base (L2.CX PP w) 1 T.a_law_next T.fd_law_next ["works", "level", "shut", "sea", "river"] (spOf K T.cls S_law_next) := by
  refine fn_ok T.F_law_next sc_law_next (fun ds r h => by obtain ⟨w_, l_, s_, a_, b_, rfl, _⟩ := h; rfl) fun cd A outer s H E hs ds r hr h => ?_
  obtain ⟨w_, l_, s_, a_, b_, rfl, rfl⟩ := h
  show KSs _ ([.sh (dv w_.l), .sh (dv l_), .sh (dv s_), .sh (dv a_), .sh (dv b_)] : List Ent) _ _
  refine ks_cons (s_if ?_)
  refine t_val ?_
  refine k_var 2 rfl rfl ?_
  refine ifB (fun h1 => ?_) (fun h1 => ?_)
  · skip
    refine ks_one (s_ret (α := Int) ?_)
    refine k_max2 T.nogl ?_
    refine k_int ?_
    refine k_sub ?_
    refine k_add ?_
    refine k_var 1 rfl rfl ?_
    refine k_var 4 rfl rfl ?_
    refine k_ixL ?_
    refine k_var 0 rfl rfl ?_
    refine k_int ?_
    refine ⟨_, ⟨by decide, rfl⟩, ?_⟩
    show (_ : Rz) = _
    exact congrArg (fun x => Rz.ok (dv x)) (by unfold nextL; rw [if_pos h1])
  · skip
    refine ks_nil ?_
    show KSs _ ([.sh (dv w_.l), .sh (dv l_), .sh (dv s_), .sh (dv a_), .sh (dv b_)] : List Ent) _ _
    refine ks_one (s_ret (α := Int) ?_)
    refine k_add ?_
    refine k_add ?_
    refine k_var 1 rfl rfl ?_
    refine k_var 4 rfl rfl ?_
    refine k_max2 T.nogl ?_
    refine k_sub ?_
    refine k_int ?_
    refine k_ixL ?_
    refine k_var 0 rfl rfl ?_
    refine k_int ?_
    refine ⟨_, ⟨by decide, rfl⟩, ?_⟩
    refine k_min2 T.nogl ?_
    refine k_ixL ?_
    refine k_var 0 rfl rfl ?_
    refine k_int ?_
    refine ⟨_, ⟨by decide, rfl⟩, ?_⟩
    refine k_sub ?_
    refine k_var 3 rfl rfl ?_
    refine k_var 1 rfl rfl ?_
    show (_ : Rz) = _
    exact congrArg (fun x => Rz.ok (dv x)) (by rw [show s_ = false from by simpa using h1]; exact next40.symm)
def S_law_since : Pm := fun ds r => ∃ (w_ : Wk) (s_ : Stt) (b_ : Bool), ds = [dv w_.l, dv s_, dv b_] ∧ r = .ok (dv (lSince w_ s_ b_))
theorem ok_law_since (T : Tx w K mg) : FnOk PP w K mg base (L2.CX PP w) 1 T.a_law_since T.fd_law_since ["works", "state", "shut"] (spOf K T.cls S_law_since) := by
  refine fn_ok T.F_law_since sc_law_since (fun ds r h => by obtain ⟨w_, s_, b_, rfl, _⟩ := h; rfl) fun cd A outer s H E hs ds r hr h => ?_
  obtain ⟨w_, s_, b_, rfl, rfl⟩ := h
  show KSs _ ([.sh (dv w_.l), .sh (dv s_), .sh (dv b_)] : List Ent) _ _
  refine ks_cons (s_if ?_)
  refine t_eq (α := Bool) ?_
  refine k_var 2 rfl rfl ?_
  refine k_ixT (α := Stt) (ds := Stt.ds) 1 Stt.shut (fun _ => rfl) rfl ?_
  refine k_var 1 rfl rfl ?_
  refine ifD (fun h1 => ?_) (fun h1 => ?_)
  · skip
    refine ks_one (s_ret (α := Int) ?_)
    refine k_min2 T.nogl ?_
    refine k_add ?_
    refine k_ixT (α := Stt) (ds := Stt.ds) 2 Stt.since (fun _ => rfl) rfl ?_
    refine k_var 1 rfl rfl ?_
    refine k_int ?_
    refine k_ixL ?_
    refine k_var 0 rfl rfl ?_
    refine k_int ?_
    refine ⟨_, ⟨by decide, rfl⟩, ?_⟩
    show (_ : Rz) = _
    exact (by unfold lSince; rw [if_pos h1, Int.min_comm])
  · skip
    refine ks_nil ?_
    show KSs _ ([.sh (dv w_.l), .sh (dv s_), .sh (dv b_)] : List Ent) _ _
    refine ks_one (s_ret (α := Int) ?_)
    refine k_int ?_
    show (_ : Rz) = _
    exact (by unfold lSince; rw [if_neg h1])
def S_law_good : Pm := fun ds r => ∃ (w_ : Wk) (h_ : Hr) (b_ : Bool) (l_ : Int), ds = [dv w_.l, dv h_, dv b_, dv l_] ∧ r = .ok (dv (goodL w_ h_ b_ l_))
theorem ok_law_good (T : Tx w K mg) : FnOk PP w K mg base (L2.CX PP w) 1 T.a_law_good T.fd_law_good ["works", "hour", "shut", "level"] (spOf K T.cls S_law_good) := by
  refine fn_ok T.F_law_good sc_law_good (fun ds r h => by obtain ⟨w_, h_, b_, l_, rfl, _⟩ := h; rfl) fun cd A outer s H E hs ds r hr h => ?_
  obtain ⟨w_, h_, b_, l_, rfl, rfl⟩ := h
  show KSs _ ([.sh (dv w_.l), .sh (dv h_), .sh (dv b_), .sh (dv l_)] : List Ent) _ _
  refine ks_cons (s_if ?_)
  refine t_gt ?_
  refine k_var 3 rfl rfl ?_
  refine k_ixL ?_
  refine k_var 0 rfl rfl ?_
  refine k_int ?_
  refine ⟨_, ⟨by decide, rfl⟩, ?_⟩
  refine ifD (fun h1 => ?_) (fun h1 => ?_)
  · skip
    refine ks_one (s_ret (α := Bool) ?_)
    refine k_bl ?_
    show (_ : Rz) = _
    exact (by unfold goodL; rw [decide_eq_false (by omega), Bool.false_and])
  · skip
    refine ks_nil ?_
    show KSs _ ([.sh (dv w_.l), .sh (dv h_), .sh (dv b_), .sh (dv l_)] : List Ent) _ _
    refine ks_one (s_ret (α := Bool) ?_)
    refine' k_orD _ ?_; rotate_left
    refine k_not ?_
    refine k_ixT (α := Hr) (ds := Hr.ds) 4 Hr.ship (fun _ => rfl) rfl ?_
    refine k_var 1 rfl rfl ?_
    refine ⟨fun hb1 => ?_, ?_⟩
    · skip
      refine k_one ?_
      refine' k_andD _ ?_; rotate_left
      refine k_not ?_
      refine k_var 2 rfl rfl ?_
      refine ⟨fun hb2 => ?_, ?_⟩
      · skip
        refine k_one ?_
        refine k_ge ?_
        refine k_var 3 rfl rfl ?_
        refine k_ixL ?_
        refine k_var 0 rfl rfl ?_
        refine k_int ?_
        refine ⟨_, ⟨by decide, rfl⟩, ?_⟩
        exact rfl
      exact rfl
    show (_ : Rz) = _
    exact (by unfold goodL; rw [decide_eq_true (by omega), Bool.true_and])
def S_law_states : Pm := fun ds r => ∃ (w_ : Wk), ds = [dv w_.l] ∧ (w_.Ok) ∧ r = .ok (dv (states40 w_))
theorem ok_law_states (T : Tx w K mg) : FnOk PP w K mg base (L2.CX PP w) 1 T.a_law_states T.fd_law_states ["works"] (spOf K T.cls S_law_states) := by
  refine fn_ok T.F_law_states sc_law_states (fun ds r h => by obtain ⟨w_, rfl, _⟩ := h; rfl) fun cd A outer s H E hs ds r hr h => ?_
  obtain ⟨w_, rfl, p1, rfl⟩ := h
  have p1' := p1
  unfold Wk.Ok at p1'
  show KSs _ ([.sh (dv w_.l), .no, .no, .no, .no] : List Ent) _ _
  refine ks_cons (s_new (α := Stt) 1 sc_law_states.nd rfl (Nat.le_of_ble_eq_true rfl) ?_)
  refine a_nil ?_
  refine ⟨Nat.le_of_ble_eq_true rfl, ([] : List Stt), rfl, ?_⟩
  rintro _ rfl
  show KSs _ ([.sh (dv w_.l), .ow (olist ([] : List Stt)), .no, .no, .no] : List Ent) _ _
  refine ks_cons (s_forT (α := Bool) (g_name (α := Bool) 2 sc_law_states.nd rfl) ?_)
  refine k_tup (α := Tl Bool) (ds := fun t => dvs t.xs) ?_
  refine a_cons (α := Bool) ?_
  refine k_bl ?_
  refine a_cons (α := Bool) ?_
  refine k_bl ?_
  refine a_nil ?_
  refine ⟨Nat.le_of_ble_eq_true rfl, ⟨[_, _]⟩, rfl, ?_⟩
  refine ⟨fun (i_ : Nat) e_ => e_ = ([.sh (dv w_.l), .ow (olist (stB w_ ([false, true].take i_))), .no, .no, .no] : List Ent) ∧ (True), ?_, ?_, ?_⟩
  · exact ⟨rfl, by first | trivial | rfl | simp⟩
  · rintro i_ shut _ for1_at ⟨rfl, for1_i⟩
    refine turn_fgt ?_
    show KSs _ ([.sh (dv w_.l), .ow (olist (stB w_ ([false, true].take i_))), .sh (dv shut), .no, .no] : List Ent) _ _
    refine ks_one (s_forR2 (g_name (α := Int) 3 sc_law_states.nd rfl) T.nogl ?_)
    refine k_int ?_
    refine k_add ?_
    refine k_ixL ?_
    refine k_var 0 rfl rfl ?_
    refine k_int ?_
    refine ⟨_, ⟨by decide, rfl⟩, ?_⟩
    refine k_int ?_
    refine ⟨by omega, fun (j_ : Nat) e_ => e_ = ([.sh (dv w_.l), .ow (olist (stB w_ ([false, true].take i_) ++ stK w_ shut (1 + (j_ : Int)))), .sh (dv shut), .no, .no] : List Ent) ∧ (True), ?_, ?_, ?_⟩
    · exact ⟨by rw [show stK w_ shut (1 + ((0 : Nat) : Int)) = [] from rfl, List.append_nil], trivial⟩
    · rintro j_ _ for2_lt ⟨rfl, for2_i⟩
      refine turn_fgt ?_
      obtain ⟨since, since_e⟩ : ∃ v_ : Int, v_ = (1 + ((j_ : Nat) : Int)) := ⟨_, rfl⟩
      refine at_int (i := 3) since_e ?_
      show KSs _ ([.sh (dv w_.l), .ow (olist (stB w_ ([false, true].take i_) ++ stK w_ shut (1 + (j_ : Int)))), .sh (dv shut), .sh (dv since), .no] : List Ent) _ _
      refine ks_one (s_forR1 (g_name (α := Int) 4 sc_law_states.nd rfl) T.nogl ?_)
      refine k_add ?_
      refine k_ixL ?_
      refine k_var 0 rfl rfl ?_
      refine k_int ?_
      refine ⟨_, ⟨by decide, rfl⟩, ?_⟩
      refine k_int ?_
      refine ⟨by omega, by omega, fun (m_ : Nat) e_ => e_ = ([.sh (dv w_.l), .ow (olist (stB w_ ([false, true].take i_) ++ stK w_ shut (1 + (j_ : Int)) ++ stL shut since (m_ : Int))), .sh (dv shut), .sh (dv since), .no] : List Ent) ∧ (True), ?_, ?_, ?_⟩
      · exact ⟨by rw [show stL shut since ((0 : Nat) : Int) = [] from rfl, List.append_nil], trivial⟩
      · rintro m_ _ for3_lt ⟨rfl, for3_i⟩
        refine turn_fgt ?_
        obtain ⟨level, level_e⟩ : ∃ v_ : Int, v_ = ((m_ : Nat) : Int) := ⟨_, rfl⟩
        refine at_int (i := 4) level_e ?_
        show KSs _ ([.sh (dv w_.l), .ow (olist (stB w_ ([false, true].take i_) ++ stK w_ shut (1 + (j_ : Int)) ++ stL shut since (m_ : Int))), .sh (dv shut), .sh (dv since), .sh (dv level)] : List Ent) _ _
        refine ks_one (s_app 1 rfl rfl (by
  have l1_ := stB_len p1 (bs := [false, true].take i_) (List.length_take_le' _ _)
  have l2_ := stK_len p1 (b := shut) (m := 1 + (j_ : Int)) (by omega)
  rw [List.length_append, List.length_append, stL_len]; omega) ?_)
        refine k_tup (α := Stt) (ds := Stt.ds) ?_
        refine a_cons (α := Int) ?_
        refine k_var 4 rfl rfl ?_
        refine a_cons (α := Bool) ?_
        refine k_var 2 rfl rfl ?_
        refine a_cons (α := Int) ?_
        refine k_var 3 rfl rfl ?_
        refine a_nil ?_
        refine ⟨Nat.le_of_ble_eq_true rfl, ⟨_, _, _⟩, rfl, ?_⟩
        refine fun states_app1 states_app1_e => ?_
        have e_ : states_app1 = stB w_ ([false, true].take i_) ++ stK w_ shut (1 + (j_ : Int)) ++ stL shut since ((m_ + 1 : Nat) : Int) := by
          rw [states_app1_e, show ((m_ + 1 : Nat) : Int) = (m_ : Int) + 1 from rfl, stL_s (by omega), ← level_e, ← List.append_assoc]
        rw [e_]
        exact ⟨[4], rfl, trivial⟩
      · rintro _ ⟨rfl, for3_d⟩
        exact ⟨[3], by rw [show (1 : Int) + ((j_ + 1 : Nat) : Int) = (1 + (j_ : Int)) + 1 from by omega, stK_s (by omega), ← since_e, ← List.append_assoc, show (((w_.wall + 1).toNat : Nat) : Int) = w_.wall + 1 from by omega] <;> rfl, trivial⟩
    · rintro _ ⟨rfl, for2_d⟩
      exact ⟨[2], by rw [List.take_add_one, for1_at]; simp only [Option.toList]; rw [stB_s, show (1 : Int) + (((w_.rest + 1 - 1).toNat : Nat) : Int) = w_.rest + 1 from by omega] <;> rfl, trivial⟩
  · rintro _ ⟨rfl, for1_d⟩
    show KSs _ ([.sh (dv w_.l), .ow (olist (stB w_ ([false, true].take (2)))), .no, .no, .no] : List Ent) _ _
    refine ks_freeze 1 rfl ?_
    show KSs _ ([.sh (dv w_.l), .sh (dv (stB w_ ([false, true].take (2)))), .no, .no, .no] : List Ent) _ _
    refine ks_one (s_ret (α := List Stt) ?_)
    refine k_var 1 rfl rfl ?_
    show (_ : Rz) = _
    first | rfl | assumption | (simp_all; done)
def S_law_levels : Pm := fun ds r => ∃ (w_ : Wk) (h_ : Hr) (s_ : Stt) (b_ : Bool), ds = [dv w_.l, dv h_, dv s_, dv b_] ∧ (w_.Ok) ∧ (h_.Ok) ∧ (s_.Ok w_) ∧ r = .ok (dv (lvls w_ h_ s_ b_))
theorem ok_law_levels (T : Tx w K mg) : FnOk PP w K mg base (L2.CX PP w) 2 T.a_law_levels T.fd_law_levels ["works", "hour", "state", "shut"] (spOf K T.cls S_law_levels) := by
  refine fn_ok T.F_law_levels sc_law_levels (fun ds r h => by obtain ⟨w_, h_, s_, b_, rfl, _⟩ := h; rfl) fun cd A outer s H E hs ds r hr h => ?_
  obtain ⟨w_, h_, s_, b_, rfl, p1, p2, p3, rfl⟩ := h
  show KSs _ ([.sh (dv w_.l), .sh (dv h_), .sh (dv s_), .sh (dv b_), .no, .no] : List Ent) _ _
  refine ks_cons (s_let (α := Int) 4 sc_law_levels.nd rfl ?_)
  refine k_call (ok_law_next T) (hr.mono (by decide)) T.g_law_next T.k_law_next T.b_law_next ?_
  refine a_cons (α := List Int) ?_
  refine k_var 0 rfl rfl ?_
  refine a_cons (α := Int) ?_
  refine k_ixT (α := Stt) (ds := Stt.ds) 0 Stt.level (fun _ => rfl) rfl ?_
  refine k_var 2 rfl rfl ?_
  refine a_cons (α := Bool) ?_
  refine k_var 3 rfl rfl ?_
  refine a_cons (α := Int) ?_
  refine k_ixT (α := Hr) (ds := Hr.ds) 0 Hr.sl (fun _ => rfl) rfl ?_
  refine k_var 1 rfl rfl ?_
  refine a_cons (α := Int) ?_
  refine k_ixT (α := Hr) (ds := Hr.ds) 2 Hr.rl (fun _ => rfl) rfl ?_
  refine k_var 1 rfl rfl ?_
  refine a_nil ?_
  refine ⟨_, ⟨_, _, _, _, _, rfl, rfl⟩, Got.ok ?_⟩
  refine fun low low_e => ?_
  show KSs _ ([.sh (dv w_.l), .sh (dv h_), .sh (dv s_), .sh (dv b_), .sh (dv low), .no] : List Ent) _ _
  refine ks_cons (s_let (α := Int) 5 sc_law_levels.nd rfl ?_)
  refine k_call (ok_law_next T) (hr.mono (by decide)) T.g_law_next T.k_law_next T.b_law_next ?_
  refine a_cons (α := List Int) ?_
  refine k_var 0 rfl rfl ?_
  refine a_cons (α := Int) ?_
  refine k_ixT (α := Stt) (ds := Stt.ds) 0 Stt.level (fun _ => rfl) rfl ?_
  refine k_var 2 rfl rfl ?_
  refine a_cons (α := Bool) ?_
  refine k_var 3 rfl rfl ?_
  refine a_cons (α := Int) ?_
  refine k_ixT (α := Hr) (ds := Hr.ds) 1 Hr.sh (fun _ => rfl) rfl ?_
  refine k_var 1 rfl rfl ?_
  refine a_cons (α := Int) ?_
  refine k_ixT (α := Hr) (ds := Hr.ds) 3 Hr.rh (fun _ => rfl) rfl ?_
  refine k_var 1 rfl rfl ?_
  refine a_nil ?_
  refine ⟨_, ⟨_, _, _, _, _, rfl, rfl⟩, Got.ok ?_⟩
  refine fun high high_e => ?_
  show KSs _ ([.sh (dv w_.l), .sh (dv h_), .sh (dv s_), .sh (dv b_), .sh (dv low), .sh (dv high)] : List Ent) _ _
  refine ks_one (s_ret (α := List Int) ?_)
  refine k_listRg2 T.nogl ?_
  refine k_var 4 rfl rfl ?_
  refine k_add ?_
  refine k_var 5 rfl rfl ?_
  refine k_int ?_
  refine ⟨lvls_bnd p1 p2 p3 low_e high_e, ?_⟩
  show (_ : Rz) = _
  exact (by rw [low_e, high_e]; rfl)
def S_gates : Pm := fun ds r => ∃ (w_ : Wk), ds = [dv w_] ∧ (w_.Ok) ∧ r = .ok (dv (gatesL w_))
theorem ok_gates (T : Tx w K mg) : FnOk PP w K mg base (L2.CX PP w) 1 T.a_gates T.fd_gates ["works"] (spOf K T.cls S_gates) := by
  refine fn_ok T.F_gates sc_gates (fun ds r h => by obtain ⟨w_, rfl, _⟩ := h; rfl) fun cd A outer s H E hs ds r hr h => ?_
  obtain ⟨w_, rfl, p1, rfl⟩ := h
  have p1' := p1
  unfold Wk.Ok at p1'
  show KSs _ ([.sh (dv w_), .no, .no] : List Ent) _ _
  refine ks_one (s_ret (α := List (Bool × Int)) ?_)
  refine k_lc2 (α := Bool) (β := (Bool × Int)) [("shut", 1), ("since", 2)] [2] sc_gates.nd T.nogl (blkOk_by rfl) (by decide) (fun F' ⟨s', H', C', cl', fp', hs', e'⟩ => by subst e'; exact g_name (α := Bool) 1 sc_gates.nd rfl) (fun F' ⟨s', H', C', cl', fp', hs', e'⟩ => by subst e'; exact g_name (α := Int) 2 sc_gates.nd rfl) (by decide) (by decide) (by intro i hi o; simp only [List.map_cons, List.map_nil, List.mem_cons, List.not_mem_nil, or_false] at hi; rcases hi with rfl | rfl <;> intro z <;> cases z) (by intro x i hi o; simp only [List.mem_cons, List.not_mem_nil, or_false] at hi; subst hi; intro z; cases z) ?_
  refine k_tup (α := Tl Bool) (ds := fun t => dvs t.xs) ?_
  refine a_cons (α := Bool) ?_
  refine k_bl ?_
  refine a_cons (α := Bool) ?_
  refine k_bl ?_
  refine a_nil ?_
  refine ⟨Nat.le_of_ble_eq_true rfl, ⟨[_, _]⟩, rfl, ?_⟩
  refine ⟨Nat.le_of_ble_eq_true rfl, fun _ => 1, fun _ => w_.rest + 1, fun b k => (b, k), ?_, ?_, ?_⟩
  · rintro F' shut ⟨s', H', C', cl', fp', hs', rfl⟩ comp1_m
    refine ⟨by dsimp only; omega, ?_⟩
    show KE _ [.sh (dv w_), .sh (dv shut), .no] _ _ _
    refine k_int ?_
    refine k_add ?_
    refine k_fld (n := 0) Wk.rest Wk.lk_rest T.cl_0 T.na_rest ?_
    refine k_var 0 rfl rfl ?_
    refine k_int ?_
    exact ⟨rfl, rfl⟩
  · rintro F' shut since ⟨s', H', C', cl', fp', hs', rfl⟩ comp1_m comp1_n
    show KE _ [.sh (dv w_), .sh (dv shut), .sh (dv since)] _ _ _
    refine k_tup (α := (Bool × Int)) (ds := ds2) ?_
    refine a_cons (α := Bool) ?_
    refine k_var 1 rfl rfl ?_
    refine a_cons (α := Int) ?_
    refine k_var 2 rfl rfl ?_
    refine a_nil ?_
    refine ⟨Nat.le_of_ble_eq_true rfl, ⟨_, _⟩, rfl, ?_⟩
    exact rfl
  show (_ : Rz) = _
  first | rfl | assumption | (simp_all; done)
def S_allowed_actions : Pm := fun ds r => ∃ (w_ : Wk) (t_ : Tv), ds = [dv w_, dv t_] ∧ (∀ v ∈ t_.vs, scl v) ∧ (w_.Ok) ∧ r = actsR w_ t_
theorem ok_allowed_actions (T : Tx w K mg) : FnOk PP w K mg base (L2.CX PP w) 5 T.a_allowed_actions T.fd_allowed_actions ["works", "state"] (spOf K T.cls S_allowed_actions) := by
  refine fn_ok T.F_allowed_actions sc_allowed_actions (fun ds r h => by obtain ⟨w_, t_, rfl, _⟩ := h; rfl) fun cd A outer s H E hs ds r hr h => ?_
  obtain ⟨w_, t_, rfl, p1, p2, rfl⟩ := h
  show KSs _ ([.sh (dv w_), .sh (dv t_), .no, .no] : List Ent) _ _
  refine ks_cons (s_let (α := Bool) 2 sc_allowed_actions.nd rfl ?_)
  refine k_meth (num := 0) Wk.no_may_move T.cl_0 T.m_Works_may_move (ok_Works_may_move T) (hr.mono (by decide)) T.b_Works_may_move ?_
  refine k_var 0 rfl rfl ?_
  refine a_cons (α := Tv) ?_
  refine k_var 1 rfl rfl ?_
  refine a_nil ?_
  refine ⟨_, ⟨_, _, rfl, p1, p2, rfl⟩, ?_⟩
  unfold mayR
  cases es_ : mkSt w_ t_ with
  | none => exact (show actsR w_ t_ = Rz.err 12 from by unfold actsR; rw [es_])
  | some s_ =>
  obtain ⟨et_, ok_⟩ := mkSt_some es_
  refine Got.ok ?_
  refine fun may_move may_move_e => ?_
  refine ks_conv 1 s_ rfl (by rw [et_]; exact cv_st' s_) ?_
  show KSs _ ([.sh (dv w_), .sh (dv s_), .sh (dv may_move), .no] : List Ent) _ _
  refine ks_one (s_ret (α := Dic Bool Int) ?_)
  refine k_ofDc (q_dcT (α := Bool) (κ := Bool) (β := Int) [("shut", 3)] hr.units sc_allowed_actions.nd (blkOk_by rfl) (Nat.le_of_ble_eq_true rfl) (fun F' ⟨s', H', C', cl', fp', hs', e'⟩ => by subst e'; exact g_name (α := Bool) 3 sc_allowed_actions.nd rfl) (by decide) (by intro i hi o; simp only [List.map_cons, List.map_nil, List.mem_cons, List.not_mem_nil, or_false] at hi; subst hi <;> intro z <;> cases z) ?_)
  refine k_tup (α := Tl Bool) (ds := fun t => dvs t.xs) ?_
  refine a_cons (α := Bool) ?_
  refine k_bl ?_
  refine a_cons (α := Bool) ?_
  refine k_bl ?_
  refine a_nil ?_
  refine ⟨Nat.le_of_ble_eq_true rfl, ⟨[_, _]⟩, rfl, ?_⟩
  refine ⟨Nat.le_of_ble_eq_true rfl, fun b => decide (s_.since = w_.rest) || decide (b = s_.shut), id, fun b => lSince w_ s_ b, ?_, ?_, ?_, by cases decide (s_.since = w_.rest) <;> cases s_.shut <;> decide, ?_⟩
  · rintro F' shut ⟨s', H', C', cl', fp', hs', rfl⟩ dcomp1_m
    show KT _ [.sh (dv w_), .sh (dv s_), .sh (dv may_move), .sh (dv shut)] _ _ _
    refine t_w ?_
    refine' w_orD _ ?_; rotate_left
    refine t_val ?_
    refine k_var 2 rfl rfl ?_
    refine ⟨fun hb1 => ?_, ?_⟩
    · skip
      refine w_or1 ?_
      refine t_eq (α := Bool) ?_
      refine k_var 3 rfl rfl ?_
      refine k_ixT (α := Stt) (ds := Stt.ds) 1 Stt.shut (fun _ => rfl) rfl ?_
      refine k_var 1 rfl rfl ?_
      exact rfl
    exact (by rw [may_move_e])
  · rintro F' shut ⟨s', H', C', cl', fp', hs', rfl⟩ dcomp1_m dcomp1_t
    show KE _ [.sh (dv w_), .sh (dv s_), .sh (dv may_move), .sh (dv shut)] _ _ _
    refine k_var 3 rfl rfl ?_
    exact rfl
  · rintro F' shut ⟨s', H', C', cl', fp', hs', rfl⟩ dcomp1_m dcomp1_t
    show KE _ [.sh (dv w_), .sh (dv s_), .sh (dv may_move), .sh (dv shut)] _ _ _
    refine k_meth (num := 0) Wk.no_moved T.cl_0 T.m_Works_moved (ok_Works_moved T) (hr.mono (by decide)) T.b_Works_moved ?_
    refine k_var 0 rfl rfl ?_
    refine a_cons (α := Tv) ?_
    refine k_cv (α := Stt) ?_
    refine k_var 1 rfl rfl ?_
    refine ⟨_, cv_st _, ?_⟩
    refine a_cons (α := Bool) ?_
    refine k_var 3 rfl rfl ?_
    refine a_nil ?_
    refine ⟨_, ⟨_, _, _, rfl, scl_st _, p2, rfl⟩, ?_⟩
    refine Got.eq ((movR_ok ok_).trans ((movedR_may ok_ shut).trans (if_pos (by
      simp only [Bool.or_eq_true, decide_eq_true_eq] at dcomp1_t
      unfold lMay; simp only [Bool.or_eq_true, decide_eq_true_eq]
      rcases dcomp1_t with q | q
      · exact .inr (by omega)
      · exact .inl q)))) ?_
    exact rfl
  show (_ : Rz) = _
  exact (by rw [et_]; exact actsR_ok ok_)
def S_good_spans : Pm := fun ds r => ∃ (w_ : Wk) (c_ : Crs) (i_ : Int) (s_ : Bool) (h_ : Hr), ds = [dv w_, dv c_, dv (V.int i_), dv s_] ∧ (w_.Ok) ∧ (c_.Ok) ∧ (0 ≤ i_) ∧ (c_.hours[i_.toNat]? = some h_) ∧ r = .ok (dv (spansL w_ h_ s_ (w_.wall + 1)))
theorem ok_good_spans (T : Tx w K mg) : FnOk PP w K mg base (L2.CX PP w) 4 T.a_good_spans T.fd_good_spans ["works", "course", "number", "shut"] (spOf K T.cls S_good_spans) := by
  refine fn_ok T.F_good_spans sc_good_spans (fun ds r h => by obtain ⟨w_, c_, i_, s_, h_, rfl, _⟩ := h; rfl) fun cd A outer s H E hs ds r hr h => ?_
  obtain ⟨w_, c_, i_, s_, h_, rfl, p1, p2, p3, p4, rfl⟩ := h
  have p1' := p1
  unfold Wk.Ok at p1'
  have hl_ : c_.hours.length ≤ 100000 := by have := p2.2.1; omega
  have hh_ := p2.2.2 _ (List.mem_of_getElem? p4)
  show KSs _ ([.sh (dv w_), .sh (dv c_), .sh (dv (V.int i_)), .sh (dv s_), .no, .no, .no, .no, .no, .no] : List Ent) _ _
  refine ks_cons (s_new (α := Op (Int × Int)) 4 sc_good_spans.nd rfl (Nat.le_of_ble_eq_true rfl) ?_)
  refine a_nil ?_
  refine ⟨Nat.le_of_ble_eq_true rfl, ([] : List (Op (Int × Int))), rfl, ?_⟩
  rintro _ rfl
  show KSs _ ([.sh (dv w_), .sh (dv c_), .sh (dv (V.int i_)), .sh (dv s_), .ow (olist ([] : List (Op (Int × Int)))), .no, .no, .no, .no, .no] : List Ent) _ _
  refine ks_cons (s_forR1 (g_name (α := Int) 5 sc_good_spans.nd rfl) T.nogl ?_)
  refine k_add ?_
  refine k_fld (n := 0) Wk.wall Wk.lk_wall T.cl_0 T.na_wall ?_
  refine k_var 0 rfl rfl ?_
  refine k_int ?_
  refine ⟨by omega, by omega, fun (m_ : Nat) e_ => e_ = ([.sh (dv w_), .sh (dv c_), .sh (dv (V.int i_)), .sh (dv s_), .ow (olist (spansL w_ h_ s_ (m_ : Int))), .no, .no, .no, .no, .no] : List Ent) ∧ (True), ?_, ?_, ?_⟩
  · exact ⟨rfl, trivial⟩
  · rintro m_ _ for1_lt ⟨rfl, for1_i⟩
    refine turn_fgt ?_
    obtain ⟨level, level_e⟩ : ∃ v_ : Int, v_ = ((m_ : Nat) : Int) := ⟨_, rfl⟩
    refine at_int (i := 5) level_e ?_
    show KSs _ ([.sh (dv w_), .sh (dv c_), .sh (dv (V.int i_)), .sh (dv s_), .ow (olist (spansL w_ h_ s_ (m_ : Int))), .sh (dv level), .no, .no, .no, .no] : List Ent) _ _
    refine ks_cons (s_lets (α := (Int × Int)) (ds := ds2) [6, 7] (pgs_cons (pg_name (i := 6) sc_good_spans.nd rfl (by first | exact .inl rfl | exact .inr rfl)) (pgs_cons (pg_name (i := 7) sc_good_spans.nd rfl (by first | exact .inl rfl | exact .inr rfl)) (pgs_nil))) (fun _ => rfl) ?_)
    refine k_call (ok_span T) (hr.mono (by decide)) T.g_span T.k_span T.b_span ?_
    refine a_cons (α := Wk) ?_
    refine k_var 0 rfl rfl ?_
    refine a_cons (α := Crs) ?_
    refine k_var 1 rfl rfl ?_
    refine a_cons (α := V) ?_
    refine k_var 2 rfl rfl ?_
    refine a_cons (α := Int) ?_
    refine k_var 5 rfl rfl ?_
    refine a_cons (α := Bool) ?_
    refine k_var 3 rfl rfl ?_
    refine a_nil ?_
    refine ⟨_, ⟨_, _, _, _, _, rfl, hl_, scl_i _, rfl⟩, ?_⟩
    refine Got.eq (spanR_ok (i := i_) p3 p4) ?_
    refine fun tu1 tu1_e => ?_
    show KSs _ ([.sh (dv w_), .sh (dv c_), .sh (dv (V.int i_)), .sh (dv s_), .ow (olist (spansL w_ h_ s_ (m_ : Int))), .sh (dv level), .sh (dv (Prod.fst tu1)), .sh (dv (Prod.snd tu1)), .no, .no] : List Ent) _ _
    refine ks_cons (s_letLc 8 rfl (q_lcT (α := Int) (β := Bool) [("end", 9)] sc_good_spans.nd (blkOk_by rfl) (Nat.le_of_ble_eq_true rfl) (fun F' ⟨s', H', C', cl', fp', hs', e'⟩ => by subst e'; exact g_name (α := Int) 9 sc_good_spans.nd rfl) (by decide) (by intro i hi o; simp only [List.map_cons, List.map_nil, List.mem_cons, List.not_mem_nil, or_false] at hi; subst hi <;> intro z <;> cases z) ?_))
    refine k_tup (α := Tl Int) (ds := fun t => dvs t.xs) ?_
    refine a_cons (α := Int) ?_
    refine k_var 6 rfl rfl ?_
    refine a_cons (α := Int) ?_
    refine k_var 7 rfl rfl ?_
    refine a_nil ?_
    refine ⟨Nat.le_of_ble_eq_true rfl, ⟨[_, _]⟩, rfl, ?_⟩
    refine ⟨Nat.le_of_ble_eq_true rfl, fun _ => true, fun x => goodL w_ h_ s_ x, ?_, ?_, ?_⟩
    · rintro F' end_ ⟨s', H', C', cl', fp', hs', rfl⟩ comp1_m
      exact rfl
    · rintro F' end_ ⟨s', H', C', cl', fp', hs', rfl⟩ comp1_m comp1_t
      show KE _ [.sh (dv w_), .sh (dv c_), .sh (dv (V.int i_)), .sh (dv s_), .ow (olist (spansL w_ h_ s_ (m_ : Int))), .sh (dv level), .sh (dv (Prod.fst tu1)), .sh (dv (Prod.snd tu1)), .no, .sh (dv end_)] _ _ _
      refine k_call (ok_is_good T) (hr.mono (by decide)) T.g_is_good T.k_is_good T.b_is_good ?_
      refine a_cons (α := Wk) ?_
      refine k_var 0 rfl rfl ?_
      refine a_cons (α := Crs) ?_
      refine k_var 1 rfl rfl ?_
      refine a_cons (α := V) ?_
      refine k_var 2 rfl rfl ?_
      refine a_cons (α := Bool) ?_
      refine k_var 3 rfl rfl ?_
      refine a_cons (α := Int) ?_
      refine k_var 9 rfl rfl ?_
      refine a_nil ?_
      refine ⟨_, ⟨_, _, _, _, _, rfl, hl_, scl_i _, rfl⟩, ?_⟩
      refine Got.eq (goodR_ok (i := i_) p3 p4) ?_
      exact rfl
    refine fun ends ends_e => ?_
    show KSs _ ([.sh (dv w_), .sh (dv c_), .sh (dv (V.int i_)), .sh (dv s_), .ow (olist (spansL w_ h_ s_ (m_ : Int))), .sh (dv level), .sh (dv (Prod.fst tu1)), .sh (dv (Prod.snd tu1)), .sh (dv ends), .no] : List Ent) _ _
    refine ks_one (s_app 4 rfl rfl (by rw [spansL_len]; omega) ?_)
    refine' k_ifD (α := Op (Int × Int)) _ _ ?_
    rotate_left 2
    refine t_val ?_
    refine k_all T.nogl ?_
    refine k_var 8 rfl rfl ?_
    refine ⟨fun ife1_t => ?_, fun ife1_f => ?_, ?_⟩
    · skip
      refine k_someO (α := (Int × Int)) ?_
      refine k_tup (α := (Int × Int)) (ds := ds2) ?_
      refine a_cons (α := Int) ?_
      refine k_var 6 rfl rfl ?_
      refine a_cons (α := Int) ?_
      refine k_var 7 rfl rfl ?_
      refine a_nil ?_
      refine ⟨Nat.le_of_ble_eq_true rfl, ⟨_, _⟩, rfl, ?_⟩
      exact rfl
    · skip
      refine k_nonO ?_
      exact rfl
    refine fun spans_app1 spans_app1_e => ?_
    have e2_ : spans_app1 = spansL w_ h_ s_ ((m_ + 1 : Nat) : Int) := by
      rw [spans_app1_e, Int.natCast_add, Int.natCast_one, spansL_s (by omega), level_e.symm]
      congr 2
      exact gsp_eq tu1_e ends_e
    subst e2_
    exact ⟨[6, 7, 8, 5], rfl, trivial⟩
  · rintro _ ⟨rfl, for1_d⟩
    show KSs _ ([.sh (dv w_), .sh (dv c_), .sh (dv (V.int i_)), .sh (dv s_), .ow (olist (spansL w_ h_ s_ (((w_.wall + 1).toNat) : Int))), .no, .no, .no, .no, .no] : List Ent) _ _
    refine ks_freeze 4 rfl ?_
    show KSs _ ([.sh (dv w_), .sh (dv c_), .sh (dv (V.int i_)), .sh (dv s_), .sh (dv (spansL w_ h_ s_ (((w_.wall + 1).toNat) : Int))), .no, .no, .no, .no, .no] : List Ent) _ _
    refine ks_one (s_ret (α := List (Op (Int × Int))) ?_)
    refine k_var 4 rfl rfl ?_
    show (_ : Rz) = _
    exact (by rw [Int.toNat_of_nonneg (by omega)])
def S_told : Pm := fun ds r => ∃ (i_ : Int), ds = [dv i_] ∧ r = .ok (dv (told i_))
theorem ok_told (T : Tx w K mg) : FnOk PP w K mg base (L2.CX PP w) 1 T.a_told T.fd_told ["shut_hours"] (spOf K T.cls S_told) := by
  refine fn_ok T.F_told sc_told (fun ds r h => by obtain ⟨i_, rfl, _⟩ := h; rfl) fun cd A outer s H E hs ds r hr h => ?_
  obtain ⟨i_, rfl, rfl⟩ := h
  show KSs _ ([.sh (dv i_)] : List Ent) _ _
  refine ks_one (s_ret (α := Option Int) ?_)
  refine k_if ?_
  refine t_eq (α := Int) ?_
  refine k_var 0 rfl rfl ?_
  refine k_gint T.c__LOST ?_
  refine ifD (fun h1 => ?_) (fun h1 => ?_)
  · skip
    refine k_nonI ?_
    show (_ : Rz) = _
    exact congrArg (fun x => Rz.ok (dv x)) (if_pos h1)
  · skip
    refine k_some ?_
    refine k_var 0 rfl rfl ?_
    show (_ : Rz) = _
    exact congrArg (fun x => Rz.ok (dv x)) (if_neg h1)
def S_end_worst : Pm := fun ds r => ∃ (w_ : Wk), ds = [dv w_] ∧ (w_.Ok) ∧ r = .ok (dv (Tab w_ fun _ _ _ => 0))
theorem ok_end_worst (T : Tx w K mg) : FnOk PP w K mg base (L2.CX PP w) 2 T.a_end_worst T.fd_end_worst ["works"] (spOf K T.cls S_end_worst) := by
  refine fn_ok T.F_end_worst sc_end_worst (fun ds r h => by obtain ⟨w_, rfl, _⟩ := h; rfl) fun cd A outer s H E hs ds r hr h => ?_
  obtain ⟨w_, rfl, p1, rfl⟩ := h
  have p1' := p1
  unfold Wk.Ok at p1'
  show KSs _ ([.sh (dv w_), .no] : List Ent) _ _
  refine ks_one (s_ret (α := Dic (Bool × Int) (List Int)) ?_)
  refine k_ofDc (q_dc (α := (Bool × Int)) (κ := (Bool × Int)) (β := List Int) [("gate", 1)] hr.units sc_end_worst.nd (blkOk_by rfl) (Nat.le_of_ble_eq_true rfl) (fun F' ⟨s', H', C', cl', fp', hs', e'⟩ => by subst e'; exact g_name (α := (Bool × Int)) 1 sc_end_worst.nd rfl) (by decide) (by intro i hi o; simp only [List.map_cons, List.map_nil, List.mem_cons, List.not_mem_nil, or_false] at hi; subst hi <;> intro z <;> cases z) ?_)
  refine k_call (ok_gates T) (hr.mono (by decide)) T.g_gates T.k_gates T.b_gates ?_
  refine a_cons (α := Wk) ?_
  refine k_var 0 rfl rfl ?_
  refine a_nil ?_
  refine ⟨_, ⟨_, rfl, by first | assumption | omega, rfl⟩, Got.ok ?_⟩
  refine ⟨Nat.le_trans (gates_len p1) (by decide), fun _ => true, id, fun _ => (List.replicate (w_.wall + 1).toNat [(0 : Int)]).flatten, ?_, ?_, ?_, by rw [filter_yes, List.map_id]; exact gates_nd w_, ?_⟩
  · rintro F' gate ⟨s', H', C', cl', fp', hs', rfl⟩ dcomp1_m
    exact rfl
  · rintro F' gate ⟨s', H', C', cl', fp', hs', rfl⟩ dcomp1_m dcomp1_t
    show KE _ [.sh (dv w_), .sh (dv gate)] _ _ _
    refine k_var 1 rfl rfl ?_
    exact rfl
  · rintro F' gate ⟨s', H', C', cl', fp', hs', rfl⟩ dcomp1_m dcomp1_t
    show KE _ [.sh (dv w_), .sh (dv gate)] _ _ _
    refine k_rep ?_
    refine k_lst (α := List Int) (ds := dvs) ?_
    refine a_cons (α := Int) ?_
    refine k_int ?_
    refine a_nil ?_
    refine ⟨Nat.le_of_ble_eq_true rfl, [_], rfl, ?_⟩
    refine k_add ?_
    refine k_fld (n := 0) Wk.wall Wk.lk_wall T.cl_0 T.na_wall ?_
    refine k_var 0 rfl rfl ?_
    refine k_int ?_
    refine ⟨⟨by omega, by omega, Nat.le_of_ble_eq_true rfl⟩, ?_⟩
    exact rfl
  show (_ : Rz) = _
  exact end_tab p1
def S_worst_case : Pm := fun ds r => ∃ (g_ : Op (Int × Int)) (s_ : Bool) (r_ : List Int), ds = [dv g_, dv s_, dv r_] ∧ (∀ p, g_.o = some p → 0 ≤ p.1 ∧ p.1 ≤ p.2 ∧ p.2 < (r_.length : Int)) ∧ r = .ok (dv (wcase g_ s_ r_))
theorem ok_worst_case (T : Tx w K mg) : FnOk PP w K mg base (L2.CX PP w) 1 T.a_worst_case T.fd_worst_case ["good_span", "shut", "worst_behind"] (spOf K T.cls S_worst_case) := by
  refine fn_ok T.F_worst_case sc_worst_case (fun ds r h => by obtain ⟨g_, s_, r_, rfl, _⟩ := h; rfl) fun cd A outer s H E hs ds r hr h => ?_
  obtain ⟨g_, s_, r_, rfl, p1, rfl⟩ := h
  show KSs _ ([.sh (dv g_), .sh (dv s_), .sh (dv r_), .no, .no, .no] : List Ent) _ _
  refine ks_cons (s_if ?_)
  refine t_isN (α := Op (Int × Int)) ?_
  refine k_var 0 rfl rfl ?_
  refine ifB (fun h1 => ?_) (fun h1 => ?_)
  · skip
    refine ks_one (s_ret (α := Int) ?_)
    refine k_gint T.c__LOST ?_
    show (_ : Rz) = _
    exact (by rw [wcase_none h1])
  · skip
    obtain ⟨p_, ep_⟩ := op_some h1
    have b_ := p1 p_ ep_
    refine ks_conv 0 p_ rfl (cv_op ep_) ?_
    show KSs _ ([.sh (dv p_), .sh (dv s_), .sh (dv r_), .no, .no, .no] : List Ent) _ _
    refine ks_nil ?_
    show KSs _ ([.sh (dv p_), .sh (dv s_), .sh (dv r_), .no, .no, .no] : List Ent) _ _
    refine ks_cons (s_lets (α := (Int × Int)) (ds := ds2) [3, 4] (pgs_cons (pg_name (i := 3) sc_worst_case.nd rfl (by first | exact .inl rfl | exact .inr rfl)) (pgs_cons (pg_name (i := 4) sc_worst_case.nd rfl (by first | exact .inl rfl | exact .inr rfl)) (pgs_nil))) (fun _ => rfl) ?_)
    refine k_var 0 rfl rfl ?_
    intro z_ ez_; subst z_
    show KSs _ ([.sh (dv p_), .sh (dv s_), .sh (dv r_), .sh (dv p_.1), .sh (dv p_.2), .no] : List Ent) _ _
    refine ks_cons (s_let (α := Int) 5 sc_worst_case.nd rfl ?_)
    refine k_maxL T.nogl ?_
    refine k_sl ?_
    refine k_var 2 rfl rfl ?_
    refine k_var 3 rfl rfl ?_
    refine k_add ?_
    refine k_var 4 rfl rfl ?_
    refine k_int ?_
    refine ⟨by omega, ?_⟩
    refine ⟨by intro z; have := congrArg List.length z; simp at this; omega, fun y_ y_m y_l => ?_⟩
    have ey_ := lmax_of y_m y_l
    refine fun shut_hours shut_hours_e => ?_
    have es_ := shut_hours_e.trans ey_
    show KSs _ ([.sh (dv p_), .sh (dv s_), .sh (dv r_), .sh (dv p_.1), .sh (dv p_.2), .sh (dv shut_hours)] : List Ent) _ _
    refine ks_cons (s_if ?_)
    refine t_eq (α := Int) ?_
    refine k_var 5 rfl rfl ?_
    refine k_gint T.c__LOST ?_
    refine ifD (fun h2 => ?_) (fun h2 => ?_)
    · skip
      refine ks_one (s_ret (α := Int) ?_)
      refine k_gint T.c__LOST ?_
      show (_ : Rz) = _
      exact (by rw [wcase_some ep_, ← es_, h2]; rfl)
    · skip
      refine ks_nil ?_
      show KSs _ ([.sh (dv p_), .sh (dv s_), .sh (dv r_), .sh (dv p_.1), .sh (dv p_.2), .sh (dv shut_hours)] : List Ent) _ _
      refine ks_one (s_ret (α := Int) ?_)
      refine k_if ?_
      refine t_val ?_
      refine k_var 1 rfl rfl ?_
      refine ifB (fun h3 => ?_) (fun h3 => ?_)
      · skip
        refine k_add ?_
        refine k_var 5 rfl rfl ?_
        refine k_int ?_
        show (_ : Rz) = _
        exact (by rw [wcase_some ep_, ← es_]; unfold bump; rw [if_neg h2, if_pos h3])
      · skip
        refine k_var 5 rfl rfl ?_
        show (_ : Rz) = _
        exact (by rw [wcase_some ep_, ← es_]; unfold bump; rw [if_neg h2, if_neg (by rw [h3]; decide)])
def S_hour_costs : Pm := fun ds r => ∃ (w_ : Wk) (c_ : Crs) (i_ : Int) (h_ : Hr) (f_ : Bool → Int → Int → Int), ds = [dv w_, dv c_, dv (V.int i_), dv (Tab w_ f_)] ∧ (w_.Ok) ∧ (c_.Ok) ∧ (0 ≤ i_) ∧ (c_.hours[i_.toNat]? = some h_) ∧ r = .ok (dv (Tab w_ (costF w_ h_ f_)))
theorem ok_hour_costs (T : Tx w K mg) : FnOk PP w K mg base (L2.CX PP w) 5 T.a_hour_costs T.fd_hour_costs ["works", "course", "number", "worst_behind"] (spOf K T.cls S_hour_costs) := by
  refine fn_ok T.F_hour_costs sc_hour_costs (fun ds r h => by obtain ⟨w_, c_, i_, h_, f_, rfl, _⟩ := h; rfl) fun cd A outer s H E hs ds r hr h => ?_
  obtain ⟨w_, c_, i_, h_, f_, rfl, p1, p2, p3, p4, rfl⟩ := h
  show KSs _ ([.sh (dv w_), .sh (dv c_), .sh (dv (V.int i_)), .sh (dv (Tab w_ f_)), .no, .no, .no, .no] : List Ent) _ _
  refine ks_cons (s_let (α := Dic Bool (List (Op (Int × Int)))) 4 sc_hour_costs.nd rfl ?_)
  refine k_ofDc (q_dcT (α := Bool) (κ := Bool) (β := List (Op (Int × Int))) [("shut", 5)] hr.units sc_hour_costs.nd (blkOk_by rfl) (Nat.le_of_ble_eq_true rfl) (fun F' ⟨s', H', C', cl', fp', hs', e'⟩ => by subst e'; exact g_name (α := Bool) 5 sc_hour_costs.nd rfl) (by decide) (by intro i hi o; simp only [List.map_cons, List.map_nil, List.mem_cons, List.not_mem_nil, or_false] at hi; subst hi <;> intro z <;> cases z) ?_)
  refine k_tup (α := Tl Bool) (ds := fun t => dvs t.xs) ?_
  refine a_cons (α := Bool) ?_
  refine k_bl ?_
  refine a_cons (α := Bool) ?_
  refine k_bl ?_
  refine a_nil ?_
  refine ⟨Nat.le_of_ble_eq_true rfl, ⟨[_, _]⟩, rfl, ?_⟩
  refine ⟨Nat.le_of_ble_eq_true rfl, fun _ => true, id, fun s => spansL w_ h_ s (w_.wall + 1), ?_, ?_, ?_, by decide, ?_⟩
  · rintro F' shut ⟨s', H', C', cl', fp', hs', rfl⟩ dcomp1_m
    exact rfl
  · rintro F' shut ⟨s', H', C', cl', fp', hs', rfl⟩ dcomp1_m dcomp1_t
    show KE _ [.sh (dv w_), .sh (dv c_), .sh (dv (V.int i_)), .sh (dv (Tab w_ f_)), .no, .sh (dv shut), .no, .no] _ _ _
    refine k_var 5 rfl rfl ?_
    exact rfl
  · rintro F' shut ⟨s', H', C', cl', fp', hs', rfl⟩ dcomp1_m dcomp1_t
    show KE _ [.sh (dv w_), .sh (dv c_), .sh (dv (V.int i_)), .sh (dv (Tab w_ f_)), .no, .sh (dv shut), .no, .no] _ _ _
    refine k_call (ok_good_spans T) (hr.mono (by decide)) T.g_good_spans T.k_good_spans T.b_good_spans ?_
    refine a_cons (α := Wk) ?_
    refine k_var 0 rfl rfl ?_
    refine a_cons (α := Crs) ?_
    refine k_var 1 rfl rfl ?_
    refine a_cons (α := V) ?_
    refine k_var 2 rfl rfl ?_
    refine a_cons (α := Bool) ?_
    refine k_var 5 rfl rfl ?_
    refine a_nil ?_
    refine ⟨_, ⟨_, _, _, _, h_, rfl, p1, p2, p3, p4, rfl⟩, Got.ok ?_⟩
    exact rfl
  refine fun spans spans_e => ?_
  have ss_ : ∀ s, (s, spansL w_ h_ s (w_.wall + 1)) ∈ spans.kvs := fun s => by rw [spans_e]; cases s <;> simp [dcF]
  show KSs _ ([.sh (dv w_), .sh (dv c_), .sh (dv (V.int i_)), .sh (dv (Tab w_ f_)), .sh (dv spans), .no, .no, .no] : List Ent) _ _
  refine ks_one (s_ret (α := Dic (Bool × Int) (List Int)) ?_)
  refine k_ofDc (q_dc (α := (Bool × Int)) (κ := (Bool × Int)) (β := List Int) [("gate", 7)] hr.units sc_hour_costs.nd (blkOk_by rfl) (Nat.le_of_ble_eq_true rfl) (fun F' ⟨s', H', C', cl', fp', hs', e'⟩ => by subst e'; exact g_name (α := (Bool × Int)) 7 sc_hour_costs.nd rfl) (by decide) (by intro i hi o; simp only [List.map_cons, List.map_nil, List.mem_cons, List.not_mem_nil, or_false] at hi; subst hi <;> intro z <;> cases z) ?_)
  refine k_call (ok_gates T) (hr.mono (by decide)) T.g_gates T.k_gates T.b_gates ?_
  refine a_cons (α := Wk) ?_
  refine k_var 0 rfl rfl ?_
  refine a_nil ?_
  refine ⟨_, ⟨_, rfl, by first | assumption | omega, rfl⟩, Got.ok ?_⟩
  refine ⟨Nat.le_trans (gates_len p1) (by decide), fun _ => true, id, fun g => (spansL w_ h_ g.1 (w_.wall + 1)).map fun o => wcase o g.1 ((span 0 (w_.wall + 1)).map (f_ g.1 g.2)), ?_, ?_, ?_, by rw [filter_yes, List.map_id]; exact gates_nd w_, ?_⟩
  · rintro F' gate ⟨s', H', C', cl', fp', hs', rfl⟩ dcomp2_m
    have hg_ := mem_gates.mp dcomp2_m
    exact rfl
  · rintro F' gate ⟨s', H', C', cl', fp', hs', rfl⟩ dcomp2_m dcomp2_t
    have hg_ := mem_gates.mp dcomp2_m
    show KE _ [.sh (dv w_), .sh (dv c_), .sh (dv (V.int i_)), .sh (dv (Tab w_ f_)), .sh (dv spans), .no, .no, .sh (dv gate)] _ _ _
    refine k_var 7 rfl rfl ?_
    exact rfl
  · rintro F' gate ⟨s', H', C', cl', fp', hs', rfl⟩ dcomp2_m dcomp2_t
    have hg_ := mem_gates.mp dcomp2_m
    show KE _ [.sh (dv w_), .sh (dv c_), .sh (dv (V.int i_)), .sh (dv (Tab w_ f_)), .sh (dv spans), .no, .no, .sh (dv gate)] _ _ _
    refine k_ofLc (q_lc (α := Op (Int × Int)) (β := Int) [("good_span", 6)] sc_hour_costs.nd (blkOk_by rfl) (Nat.le_of_ble_eq_true rfl) (fun F' ⟨s', H', C', cl', fp', hs', e'⟩ => by subst e'; exact g_name (α := Op (Int × Int)) 6 sc_hour_costs.nd rfl) (by decide) (by intro i hi o; simp only [List.map_cons, List.map_nil, List.mem_cons, List.not_mem_nil, or_false] at hi; subst hi <;> intro z <;> cases z) ?_)
    refine k_ixD (κ := Bool) (β := List (Op (Int × Int))) hr.units ?_
    refine k_var 4 rfl rfl ?_
    refine k_ixT (α := (Bool × Int)) (ds := ds2) 0 Prod.fst (fun _ => rfl) rfl ?_
    refine k_var 7 rfl rfl ?_
    refine ⟨_, ss_ gate.1, ?_⟩
    refine ⟨spans_len p1, fun _ => true, fun o => wcase o gate.1 ((span 0 (w_.wall + 1)).map (f_ gate.1 gate.2)), ?_, ?_, ?_⟩
    · rintro F' good_span ⟨s', H', C', cl', fp', hs', rfl⟩ comp1_m
      exact rfl
    · rintro F' good_span ⟨s', H', C', cl', fp', hs', rfl⟩ comp1_m comp1_t
      show KE _ [.sh (dv w_), .sh (dv c_), .sh (dv (V.int i_)), .sh (dv (Tab w_ f_)), .sh (dv spans), .no, .sh (dv good_span), .sh (dv gate)] _ _ _
      refine k_call (ok_worst_case T) (hr.mono (by decide)) T.g_worst_case T.k_worst_case T.b_worst_case ?_
      refine a_cons (α := Op (Int × Int)) ?_
      refine k_var 6 rfl rfl ?_
      refine a_cons (α := Bool) ?_
      refine k_ixT (α := (Bool × Int)) (ds := ds2) 0 Prod.fst (fun _ => rfl) rfl ?_
      refine k_var 7 rfl rfl ?_
      refine a_cons (α := List Int) ?_
      refine k_ixD (κ := (Bool × Int)) (β := List Int) hr.units ?_
      refine k_var 3 rfl rfl ?_
      refine k_var 7 rfl rfl ?_
      refine ⟨_, tab_at hg_, ?_⟩
      refine a_nil ?_
      refine ⟨_, ⟨_, _, _, rfl, spans_in p1 p2 p4 comp1_m, rfl⟩, Got.ok ?_⟩
      exact rfl
    rw [filter_yes]
  show (_ : Rz) = _
  exact (by rw [costs_tab])
def S_hour_worst : Pm := fun ds r => ∃ (w_ : Wk) (g_ : Bool → Int → Int → Int), ds = [dv w_, dv (Tab w_ g_)] ∧ (w_.Ok) ∧ r = .ok (dv (Tab w_ (worstF w_ g_)))
theorem ok_hour_worst (T : Tx w K mg) : FnOk PP w K mg base (L2.CX PP w) 6 T.a_hour_worst T.fd_hour_worst ["works", "costs"] (spOf K T.cls S_hour_worst) := by
  refine fn_ok T.F_hour_worst sc_hour_worst (fun ds r h => by obtain ⟨w_, g_, rfl, _⟩ := h; rfl) fun cd A outer s H E hs ds r hr h => ?_
  obtain ⟨w_, g_, rfl, p1, rfl⟩ := h
  have p1' := p1
  unfold Wk.Ok at p1'
  show KSs _ ([.sh (dv w_), .sh (dv (Tab w_ g_)), .no, .no, .no, .no, .no, .no, .no] : List Ent) _ _
  refine ks_cons (s_newD (κ := (Bool × Int)) (β := List Int) 2 sc_hour_worst.nd rfl (Nat.le_of_ble_eq_true rfl) ?_)
  show KSs _ ([.sh (dv w_), .sh (dv (Tab w_ g_)), .ow (odict ([] : List ((Bool × Int) × (List Int)))), .no, .no, .no, .no, .no, .no] : List Ent) _ _
  refine ks_cons (s_for (α := (Bool × Int)) (g_tup (ds := ds2) [3, 4] (pgs_cons (pg_name (i := 3) sc_hour_worst.nd rfl (by first | exact .inl rfl | exact .inr rfl)) (pgs_cons (pg_name (i := 4) sc_hour_worst.nd rfl (by first | exact .inl rfl | exact .inr rfl)) (pgs_nil))) (fun _ => rfl)) ?_)
  refine k_call (ok_gates T) (hr.mono (by decide)) T.g_gates T.k_gates T.b_gates ?_
  refine a_cons (α := Wk) ?_
  refine k_var 0 rfl rfl ?_
  refine a_nil ?_
  refine ⟨_, ⟨_, rfl, by first | assumption | omega, rfl⟩, Got.ok ?_⟩
  refine ⟨fun (m_ : Nat) e_ => e_ = ([.sh (dv w_), .sh (dv (Tab w_ g_)), .ow (odict (((gatesL w_).take m_).map fun g => (g, (fun g => (span 0 (w_.wall + 1)).map (worstF w_ g_ g.1 g.2)) g))), .no, .no, .no, .no, .no, .no] : List Ent) ∧ (True), ?_, ?_, ?_⟩
  · exact ⟨rfl, by first | trivial | rfl | simp⟩
  · rintro m_ it_for1 _ for1_at ⟨rfl, for1_i⟩
    refine turn_fgt ?_
    show KSs _ ([.sh (dv w_), .sh (dv (Tab w_ g_)), .ow (odict (((gatesL w_).take m_).map fun g => (g, (fun g => (span 0 (w_.wall + 1)).map (worstF w_ g_ g.1 g.2)) g))), .sh (dv (Prod.fst it_for1)), .sh (dv (Prod.snd it_for1)), .no, .no, .no, .no] : List Ent) _ _
    have hg_ := mem_gates.mp (List.mem_of_getElem? for1_at)
    have ok_ : (Stt.mk 0 it_for1.1 it_for1.2).Ok w_ := ⟨⟨Int.le_refl 0, by show (0 : Int) ≤ w_.wall; omega⟩, hg_⟩
    refine ks_cons (s_let (α := Dic Bool Int) 5 sc_hour_worst.nd rfl ?_)
    refine k_call (ok_allowed_actions T) (hr.mono (by decide)) T.g_allowed_actions T.k_allowed_actions T.b_allowed_actions ?_
    refine a_cons (α := Wk) ?_
    refine k_var 0 rfl rfl ?_
    refine a_cons (α := Tv) ?_
    refine k_cv (α := Stt) ?_
    refine k_tup (α := Stt) (ds := Stt.ds) ?_
    refine a_cons (α := Int) ?_
    refine k_int ?_
    refine a_cons (α := Bool) ?_
    refine k_var 3 rfl rfl ?_
    refine a_cons (α := Int) ?_
    refine k_var 4 rfl rfl ?_
    refine a_nil ?_
    refine ⟨Nat.le_of_ble_eq_true rfl, ⟨_, _, _⟩, rfl, ?_⟩
    refine ⟨_, cv_st _, ?_⟩
    refine a_nil ?_
    refine ⟨_, ⟨_, _, rfl, tv_scl _ _ _, p1, rfl⟩, ?_⟩
    refine Got.eq (actsR_ok (s := ⟨0, it_for1.1, it_for1.2⟩) ok_) ?_
    refine fun allowed allowed_e => ?_
    show KSs _ ([.sh (dv w_), .sh (dv (Tab w_ g_)), .ow (odict (((gatesL w_).take m_).map fun g => (g, (fun g => (span 0 (w_.wall + 1)).map (worstF w_ g_ g.1 g.2)) g))), .sh (dv (Prod.fst it_for1)), .sh (dv (Prod.snd it_for1)), .sh (dv allowed), .no, .no, .no] : List Ent) _ _
    refine ks_cons (s_letLc 6 rfl (q_lcK (κ := Bool) (β := Int) (γ := List Int) [("action", 7)] sc_hour_worst.nd (blkOk_by rfl) (Nat.le_of_ble_eq_true rfl) (fun F' ⟨s', H', C', cl', fp', hs', e'⟩ => by subst e'; exact g_name (α := Bool) 7 sc_hour_worst.nd rfl) (by decide) (by intro i hi o; simp only [List.map_cons, List.map_nil, List.mem_cons, List.not_mem_nil, or_false] at hi; subst hi <;> intro z <;> cases z) ?_))
    refine k_var 5 rfl rfl ?_
    refine ⟨by rw [allowed_e]; rcases acts_two (w := w_) (s := ⟨0, it_for1.1, it_for1.2⟩) with ⟨p, e⟩ | ⟨p, q, e⟩ <;> rw [e] <;> exact Nat.le_of_ble_eq_true rfl, fun _ => true, fun a => (span 0 (w_.wall + 1)).map (g_ a (lSince w_ ⟨0, it_for1.1, it_for1.2⟩ a)), ?_, ?_, ?_⟩
    · rintro F' action ⟨s', H', C', cl', fp', hs', rfl⟩ comp1_m
      rw [allowed_e] at comp1_m
      have ma_ := (acts_keys ok_).mp comp1_m
      exact rfl
    · rintro F' action ⟨s', H', C', cl', fp', hs', rfl⟩ comp1_m comp1_t
      rw [allowed_e] at comp1_m
      have ma_ := (acts_keys ok_).mp comp1_m
      show KE _ [.sh (dv w_), .sh (dv (Tab w_ g_)), .ow (odict (((gatesL w_).take m_).map fun g => (g, (fun g => (span 0 (w_.wall + 1)).map (worstF w_ g_ g.1 g.2)) g))), .sh (dv (Prod.fst it_for1)), .sh (dv (Prod.snd it_for1)), .sh (dv allowed), .no, .sh (dv action), .no] _ _ _
      refine k_ixD (κ := (Bool × Int)) (β := List Int) hr.units ?_
      refine k_var 1 rfl rfl ?_
      refine k_tup (α := (Bool × Int)) (ds := ds2) ?_
      refine a_cons (α := Bool) ?_
      refine k_var 7 rfl rfl ?_
      refine a_cons (α := Int) ?_
      refine k_ixD (κ := Bool) (β := Int) hr.units ?_
      refine k_var 5 rfl rfl ?_
      refine k_var 7 rfl rfl ?_
      refine ⟨_, (show (action, _) ∈ allowed.kvs from by rw [allowed_e]; exact (mem_acts ok_).mpr ⟨ma_, rfl⟩), ?_⟩
      refine a_nil ?_
      refine ⟨Nat.le_of_ble_eq_true rfl, ⟨_, _⟩, rfl, ?_⟩
      refine ⟨_, tab_at (lSince_ok p1 ok_ action), ?_⟩
      exact rfl
    refine fun by_action by_action_e => ?_
    have eb_ : by_action = (actsL w_ ⟨0, it_for1.1, it_for1.2⟩).map fun p => (span 0 (w_.wall + 1)).map (g_ p.1 p.2) := by rw [by_action_e, filter_yes, allowed_e]; exact acts_rows
    show KSs _ ([.sh (dv w_), .sh (dv (Tab w_ g_)), .ow (odict (((gatesL w_).take m_).map fun g => (g, (fun g => (span 0 (w_.wall + 1)).map (worstF w_ g_ g.1 g.2)) g))), .sh (dv (Prod.fst it_for1)), .sh (dv (Prod.snd it_for1)), .sh (dv allowed), .sh (dv by_action), .no, .no] : List Ent) _ _
    refine ks_one (s_setD (κ := (Bool × Int)) (β := List Int) 2 hr.units rfl rfl ?_)
    refine k_ofLc (q_lcZ (α := Int) (γ := Int) [("row", 8)] sc_hour_worst.nd (T.nogl _ (by simp)) (blkOk_by rfl) (Nat.le_of_ble_eq_true rfl) (fun F' ⟨s', H', C', cl', fp', hs', e'⟩ => by subst e'; exact g_name (α := Tl Int) 8 sc_hour_worst.nd rfl) (by decide) (by intro i hi o; simp only [List.map_cons, List.map_nil, List.mem_cons, List.not_mem_nil, or_false] at hi; subst hi <;> intro z <;> cases z) ?_)
    refine k_var 6 rfl rfl ?_
    refine ⟨by rw [eb_]; exact rows_two p1, fun _ => true, fun t => lmin t.xs, ?_, ?_, ?_⟩
    · rintro F' row ⟨s', H', C', cl', fp', hs', rfl⟩ comp2_m
      exact rfl
    · rintro F' row ⟨s', H', C', cl', fp', hs', rfl⟩ comp2_m comp2_t
      show KE _ [.sh (dv w_), .sh (dv (Tab w_ g_)), .ow (odict (((gatesL w_).take m_).map fun g => (g, (fun g => (span 0 (w_.wall + 1)).map (worstF w_ g_ g.1 g.2)) g))), .sh (dv (Prod.fst it_for1)), .sh (dv (Prod.snd it_for1)), .sh (dv allowed), .sh (dv by_action), .no, .sh (dv row)] _ _ _
      refine k_minT T.nogl ?_
      refine k_var 8 rfl rfl ?_
      refine ⟨cols_ne comp2_m, fun y_ y_m y_l => ?_⟩
      have ey_ := lmin_of y_m y_l
      subst ey_
      exact rfl
    refine k_tup (α := (Bool × Int)) (ds := ds2) ?_
    refine a_cons (α := Bool) ?_
    refine k_var 3 rfl rfl ?_
    refine a_cons (α := Int) ?_
    refine k_var 4 rfl rfl ?_
    refine a_nil ?_
    refine ⟨Nat.le_of_ble_eq_true rfl, ⟨_, _⟩, rfl, ?_⟩
    refine ⟨⟨worst_new for1_at, by rw [List.length_map, List.length_take]; have := gates_len p1; omega⟩, ?_⟩
    refine fun worst_six1 worst_six1_e => ?_
    have e2_ : worst_six1 = ((gatesL w_).take (m_ + 1)).map fun g => (g, (fun g => (span 0 (w_.wall + 1)).map (worstF w_ g_ g.1 g.2)) g) := by
      rw [worst_six1_e, List.take_add_one, for1_at, worst_row eb_, List.map_append]; rfl
    subst e2_
    exact ⟨[5, 6, 3, 4], rfl, trivial⟩
  · rintro _ ⟨rfl, for1_d⟩
    show KSs _ ([.sh (dv w_), .sh (dv (Tab w_ g_)), .ow (odict (((gatesL w_).take ((gatesL w_).length)).map fun g => (g, (fun g => (span 0 (w_.wall + 1)).map (worstF w_ g_ g.1 g.2)) g))), .no, .no, .no, .no, .no, .no] : List Ent) _ _
    refine ks_freezeD 2 rfl ?_
    show KSs _ ([.sh (dv w_), .sh (dv (Tab w_ g_)), .sh (dv (Dic.mk (((gatesL w_).take ((gatesL w_).length)).map fun g => (g, (fun g => (span 0 (w_.wall + 1)).map (worstF w_ g_ g.1 g.2)) g)))), .no, .no, .no, .no, .no, .no] : List Ent) _ _
    refine ks_one (s_ret (α := Dic (Bool × Int) (List Int)) ?_)
    refine k_var 2 rfl rfl ?_
    show (_ : Rz) = _
    exact (by rw [List.take_length]; rfl)
def S_Plan__init : List DV → Ri → Prop := fun ds r => ∃ (w_ : Wk) (c_ : Crs), ds = [dv w_, dv c_] ∧ (w_.Ok) ∧ (c_.Ok) ∧ r = .ok (Pl.fs (planOf w_ c_))
theorem ok_Plan__init (T : Tx w K mg) : FnOk PP w K mg base (L2.CX PP w) 7 T.a_Plan__init T.fd_Plan__init ["self", "works", "course"] (spInit K T.cls 2 S_Plan__init) := by
  refine init_ok T.F_Plan__init sc_Plan__init (fun ds r h => by obtain ⟨w_, c_, rfl, _⟩ := h; rfl) fun cd A outer s H B E hs p_ ds r hr h => ?_
  obtain ⟨w_, c_, rfl, p1, p2, rfl⟩ := h
  have hl_ := p2.2.1
  have hl1_ := p2.1
  show KSs _ ([(.ow (oobj p_ 2 [])), .sh (dv w_), .sh (dv c_), .no, .no] : List Ent) _ _
  refine ks_cons (s_setF (α := Wk) (num := 2) 0 rfl rfl (by decide) T.cl_2 T.na_works ?_)
  refine k_var 1 rfl rfl ?_
  refine fun set1 set1_e => ?_
  show KSs _ ([(.ow (oobj p_ 2 set1)), .sh (dv w_), .sh (dv c_), .no, .no] : List Ent) _ _
  refine ks_cons (s_setF (α := Crs) (num := 2) 0 rfl rfl (by rw [set1_e]; exact Nat.lt_of_le_of_lt (putD_le _ _ _) (by decide)) T.cl_2 T.na_course ?_)
  refine k_var 2 rfl rfl ?_
  refine fun set2 set2_e => ?_
  subst set1_e
  subst set2_e
  show KSs _ ([(.ow (oobj p_ 2 [("works", dv w_), ("course", dv c_)])), .sh (dv w_), .sh (dv c_), .no, .no] : List Ent) _ _
  refine ⟨fun own σ H2 kn pt => ?_⟩
  obtain ⟨pa, W, tk, hw⟩ := id pt
  obtain ⟨pp, ho, h0, g0, g1, epp, dx, kvs, rfl, rf⟩ := (show EntOk _ _ own σ H2 0 (.ow (oobj p_ 2 [("works", dv w_), ("course", dv c_)])) from kn.ent 0 _ rfl)
  have h0' : own 0 = some p_ := by rw [← epp]; exact h0
  rw [epp] at g0 g1
  clear h0 epp pp
  rename _ => h0
  obtain ⟨v1, sv1, rv1⟩ := kn.sh (i := 1) rfl
  obtain ⟨v2, sv2, rv2⟩ := kn.sh (i := 2) rfl
  have hown : ∀ i a, own i = some a → i = 0 ∧ a = p_ := fun i a q => by
    obtain ⟨o, ho⟩ := kn.out i a q
    have i0 : i = 0 := by
      match i, ho with
      | 0, _ => rfl
      | 1, ho => cases ho
      | 2, ho => cases ho
      | 3, ho => cases ho
      | 4, ho => cases ho
    subst i0
    rw [h0] at q
    exact ⟨rfl, (Option.some.inj q).symm⟩
  have hdE : Rk.hd hs own = fun x => hs x ∨ x = p_ := by
    funext x; apply propext; constructor
    · rintro (z | ⟨i, z⟩)
      · exact .inl z
      · exact .inr (hown i x z).2
    · rintro (z | z)
      · exact .inl z
      · exact .inr ⟨0, by rw [z]; exact h0⟩
  have np : ¬ hs p_ := kn.dis 0 p_ h0
  have Bp : B p_ = none := (kn.new 0 p_ h0).1
  have ex2 : PassesOwn _ _ _ _ := pa
  refine tSs_of (pss_cons (ps_fld (pe_var (i := 0) rfl (by first | exact .inl rfl | exact .inr (.inl rfl) | exact .inr (.inr rfl))) (pe_lst pa_nil) rfl) (pss_cons (ps_fld (pe_var (i := 0) rfl (by first | exact .inl rfl | exact .inr (.inl rfl) | exact .inr (.inr rfl))) (pe_lst (pa_cons (pe_callS (ok_end_worst T) (hr.mono (by decide)) rfl T.g_end_worst T.k_end_worst T.b_end_worst (fun σ => passAt tk σ) (pa_cons (pe_var (i := 1) rfl (by first | exact .inl rfl | exact .inr (.inl rfl) | exact .inr (.inr rfl))) pa_nil)) pa_nil)) rfl) (pss_cons (ps_for pa rfl (pi_range3 rfl (T.nogl _ (by simp)) (pa_cons peE (pa_cons (pe_un un_neg pe_int) (pa_cons (pe_un un_neg pe_int) pa_nil)))) (pg_name (i := 3) sc_Plan__init.nd rfl (by first | exact .inl rfl | exact .inr rfl)) (pss_cons (ps_set (i := 4) sc_Plan__init.nd rfl (by first | exact .inl rfl | exact .inr rfl) (pe_callS (ok_hour_costs T) (hr.mono (by decide)) rfl T.g_hour_costs T.k_hour_costs T.b_hour_costs (fun σ => passAt tk σ) (pa_cons (pe_var (i := 1) rfl (by first | exact .inl rfl | exact .inr (.inl rfl) | exact .inr (.inr rfl))) (pa_cons (pe_var (i := 2) rfl (by first | exact .inl rfl | exact .inr (.inl rfl) | exact .inr (.inr rfl))) (pa_cons (pe_var (i := 3) rfl (by first | exact .inl rfl | exact .inr (.inl rfl) | exact .inr (.inr rfl))) (pa_cons (pe_ix ix_list (pe_fld (pe_var (i := 0) rfl (by first | exact .inl rfl | exact .inr (.inl rfl) | exact .inr (.inr rfl))) rfl) (pe_un un_neg pe_int) (fun _ _ => rfl)) pa_nil)))))) (pss_cons (ps_expr (pe_bm PySem.F.plainAttrs_list PySem.F.slot_list_append PySem.F.type_list_append mt_append (pe_fld (pe_var (i := 0) rfl (by first | exact .inl rfl | exact .inr (.inl rfl) | exact .inr (.inr rfl))) rfl) (pa_cons (pe_var (i := 4) rfl (by first | exact .inl rfl | exact .inr (.inl rfl) | exact .inr (.inr rfl))) pa_nil)) rfl) (pss_one (ps_expr (pe_bm PySem.F.plainAttrs_list PySem.F.slot_list_append PySem.F.type_list_append mt_append (pe_fld (pe_var (i := 0) rfl (by first | exact .inl rfl | exact .inr (.inl rfl) | exact .inr (.inr rfl))) rfl) (pa_cons (pe_callS (ok_hour_worst T) (hr.mono (by decide)) rfl T.g_hour_worst T.k_hour_worst T.b_hour_worst (fun σ => passAt tk σ) (pa_cons (pe_var (i := 1) rfl (by first | exact .inl rfl | exact .inr (.inl rfl) | exact .inr (.inr rfl))) (pa_cons (pe_var (i := 4) rfl (by first | exact .inl rfl | exact .inr (.inl rfl) | exact .inr (.inr rfl))) pa_nil))) pa_nil)) rfl))))) (pss_cons (ps_expr (pe_bm0 PySem.F.plainAttrs_list PySem.F.slot_list_reverse PySem.F.type_list_reverse mt_reverse (pe_fld (pe_var (i := 0) rfl (by first | exact .inl rfl | exact .inr (.inl rfl) | exact .inr (.inr rfl))) rfl)) rfl) (pss_one (ps_expr (pe_bm0 PySem.F.plainAttrs_list PySem.F.slot_list_reverse PySem.F.type_list_reverse mt_reverse (pe_fld (pe_var (i := 0) rfl (by first | exact .inl rfl | exact .inr (.inl rfl) | exact .inr (.inr rfl))) rfl)) rfl)))))) ?_
  refine ⟨Nat.zero_le _, fun q1 nq1 => ?_⟩
  have pq1 : p_ ≠ q1 := ne_of_none g1 nq1
  refine ⟨_, g0, p_, _, dx, kvs, rfl, by rw [upd_ne pq1]; exact g1, T.cl_2, T.na__costs, by rw [rf.len]; exact Nat.le_of_ble_eq_true rfl, ?_⟩
  -- _end_worst(works)
  refine ⟨v1, sv1, fun x => hs x ∨ x = p_ ∨ x = q1, [dv w_], _, ?_, ⟨DV.mono (first_same h0 hown nq1) rv1, trivial⟩, ⟨w_, rfl, p1, rfl⟩, fun v3 H3 s3 r3 => ?_⟩
  · rintro x (z | z | z)
    · by_cases q : x = p_
      · rw [q, upd_same]; exact nofun
      · by_cases q2 : x = q1
        · rw [upd_ne q, q2, upd_same]; exact nofun
        · rw [upd_ne q, upd_ne q2]; exact kn.hsB x z
    · rw [z, upd_same]; exact nofun
    · rw [z, upd_ne (Ne.symm pq1), upd_same]; exact nofun
  refine ⟨Nat.le_trans (by decide : 1 ≤ 100000) (by decide), fun q2 nq2 => ?_⟩
  have pq2 : p_ ≠ q2 := ne_of_none (s3 _ _ upd_same) nq2
  refine ⟨_, g0, p_, _, dx, _, rfl, by rw [upd_ne pq2]; exact s3 _ _ upd_same, T.cl_2, T.na__worst, Nat.lt_of_le_of_lt (putF_le _ _ _) (by rw [rf.len]; exact Nat.le_of_ble_eq_true rfl), ?_⟩
  have P0 := PSt.start kn h0 hown g0 sv1 rv1 sv2 rv2 kn.len rf g1 nq1 s3 nq2 r3
  have SB : ∀ {xs ys σ' H'}, PSt ⟨K, T.cls⟩ hs H2 p_ q1 q2 w_ c_ xs ys σ' H' → Same B H' := fun P => P.same kn.ex Bp
  -- range(course.count() - 1, -1, -1)
  have KC : KE ⟨cxOf (L2.CX PP w) PP w K mg base ["self", "works", "course", "number", "costs"] "Plan.__init__" (defScope s_Plan__init) T.a_Plan__init cd A outer s H E, T.cls, hz hs p_ q1 q2, B⟩ [.no, .sh (dv w_), .sh (dv c_), .no, .no] (rgArg s_Plan__init 4) noex fun i : Int => i = (c_.hours.length : Int) - 1 := by
    refine k_sub ?_
    refine k_meth0 (num := 1) Crs.no_count T.cl_1 T.m_Course_count (ok_Course_count T) (hr.mono (by decide)) T.b_Course_count ?_
    refine k_var 2 rfl rfl ?_
    refine ⟨_, ⟨_, rfl, rfl⟩, Got.ok ?_⟩
    refine k_int ?_
    exact rfl
  refine tE_mono (fun vn H4 ⟨n0, s4, r4, en⟩ => ?_) (KC (fun _ => none) σ _ (P0.kn (SB P0)) ⟨pa, W, tk, fun _ _ _ _ _ _ _ _ q _ => q.elim⟩)
  have r4 : vn = V.int n0 := r4
  subst r4
  subst en
  refine ⟨1, rfl, 1, rfl, (c_.hours.length : Int) - 1, -1, -1, c_.hours.length, rfl, ?_, ?_⟩
  · have z := RgC.neg (i := (c_.hours.length : Int) - 1) (j := -1) (by omega) (by omega) (by decide) (by decide)
    rw [show ((c_.hours.length : Int) - 1 - -1).toNat = c_.hours.length from by omega] at z
    exact z
  refine for_rangeC (fun j σ' H' => PSt ⟨K, T.cls⟩ hs H2 p_ q1 q2 w_ c_ (costsFrom w_ c_ c_.hours.length j) (worstFrom w_ c_ c_.hours.length j) σ' H') ?_ ?_ ?_
  · rw [worst_zero]; exact P0.mono s4
  · intro j σ' H' hj P
    have Q := P.set (Nat.le_refl 3) (some (V.int ((c_.hours.length : Int) - 1 + (j : Nat) * -1)))
    obtain ⟨u1, t1, ru1⟩ := Q.s1
    obtain ⟨u2, t2, ru2⟩ := Q.s2
    obtain ⟨dx', kvs', o1, o2, o3⟩ := Q.attr1
    obtain ⟨vs2, l2, m2⟩ := Q.l2
    have lw : vs2.length = j + 1 := by rw [m2.len, dvs_len]; unfold worstFrom; rw [List.length_map, List.length_range]
    obtain ⟨x2, hx2, rx2⟩ := m2.get (i := j) (d := dv (Tab w_ (worstAt w_ c_ (c_.hours.length - j)))) (by rw [dvs_get, show (worstFrom w_ c_ c_.hours.length j)[j]? = some (Tab w_ (worstAt w_ c_ (c_.hours.length - j))) from by unfold worstFrom; rw [List.getElem?_map, List.getElem?_range (by omega)]; rfl]; rfl)
    refine ⟨u1, t1, u2, t2, _, List.getElem?_set_self (by rw [P.len]; decide), _, Q.s0, p_, _, dx', kvs', _, rfl, o1, T.cl_2, T.na__worst, o3, 1, rfl, q2, vs2, -1, x2, rfl, rfl, SqL.of l2, at_last (by rw [List.getLast?_eq_getElem?, lw]; exact hx2), ?_⟩
    obtain ⟨i_, ei_⟩ : ∃ i : Int, i = (c_.hours.length : Int) - 1 + (j : Nat) * -1 := ⟨_, rfl⟩
    have hit : i_.toNat = c_.hours.length - 1 - j := by omega
    have hi0 : 0 ≤ i_ := by omega
    have hget : c_.hours[i_.toNat]? = some (hAt0 c_ (c_.hours.length - 1 - j)) := by
      unfold hAt0; rw [hit, List.getElem?_eq_getElem (by omega)]; rfl
    rw [← ei_] at Q ⊢
    refine ⟨hz hs p_ q1 q2, [dv w_, dv c_, dv (V.int i_), dv (Tab w_ (worstAt w_ c_ (c_.hours.length - j)))], _, Q.hidden, ⟨ru1, ru2, rfl, rx2, trivial⟩, ⟨w_, c_, i_, hAt0 c_ (c_.hours.length - 1 - j), worstAt w_ c_ (c_.hours.length - j), rfl, p1, p2, hi0, hget, rfl⟩, fun v5 H5 s5 r5 => ?_⟩
    have ecost : costF w_ (hAt0 c_ (c_.hours.length - 1 - j)) (worstAt w_ c_ (c_.hours.length - j)) = costAt w_ c_ (c_.hours.length - 1 - j) := by
      unfold costAt worstAt; rw [show c_.hours.length - 1 - j + 1 = c_.hours.length - j from by omega]
    rw [ecost] at r5
    have P5 := (Q.mono s5).set (i := 4) (by decide) (some v5)
    have l5 : (σ'.set 3 (some (V.int i_))).length = 5 := Q.len
    obtain ⟨dx5, kvs5, o51, o52, o53⟩ := P5.attr1
    obtain ⟨vs1, l1, m1⟩ := P5.l1
    have lc : vs1.length = j := by rw [m1.len, dvs_len]; unfold costsFrom; rw [List.length_map, List.length_range]
    refine ⟨_, P5.s0, p_, _, dx5, kvs5, _, rfl, o51, T.cl_2, T.na__costs, o52, .inl ⟨rfl, _, SqL.of l1⟩, v5, List.getElem?_set_self (by rw [l5]; decide), q1, vs1, v5, rfl, rfl, l1, Nat.lt_of_le_of_lt (by omega : vs1.length ≤ 100) (by decide), ?_⟩
    have P6 := P5.put1 (vs := vs1 ++ [v5]) (zs := costsFrom w_ c_ c_.hours.length (j + 1)) (by
      rw [costs_more]; unfold dvs; rw [List.map_append]; exact m1.app ⟨r5, trivial⟩)
    have r6 : (dv (Tab w_ (costAt w_ c_ (c_.hours.length - 1 - j)))).rep ⟨K, T.cls⟩ (Hid (hz hs p_ q1 q2) (upd H5 q1 (.lst (vs1 ++ [v5])))) v5 := by
      rw [hid_upd (show hz hs p_ q1 q2 q1 from .inr (.inr (.inl rfl)))]; exact r5
    obtain ⟨dx6, kvs6, o61, o62, o63⟩ := P6.attr1
    obtain ⟨vs3, l3, m3⟩ := P6.l2
    obtain ⟨u61, t61, ru61⟩ := P6.s1
    have lw3 : vs3.length = j + 1 := by rw [m3.len, dvs_len]; unfold worstFrom; rw [List.length_map, List.length_range]
    refine ⟨_, P6.s0, p_, _, dx6, kvs6, _, rfl, o61, T.cl_2, T.na__worst, o63, .inl ⟨rfl, _, SqL.of l3⟩, u61, t61, v5, List.getElem?_set_self (by rw [l5]; decide), ?_⟩
    refine ⟨hz hs p_ q1 q2, [dv w_, dv (Tab w_ (costAt w_ c_ (c_.hours.length - 1 - j)))], _, P6.hidden, ⟨ru61, r6, trivial⟩, ⟨w_, costAt w_ c_ (c_.hours.length - 1 - j), rfl, p1, rfl⟩, fun v7 H7 s7 r7 => ?_⟩
    have eworst : worstF w_ (costAt w_ c_ (c_.hours.length - 1 - j)) = worstAt w_ c_ (c_.hours.length - (j + 1)) := by
      rw [show c_.hours.length - (j + 1) = c_.hours.length - 1 - j from by omega, worst_step (by omega)]
    rw [eworst] at r7
    refine ⟨q2, vs3, v7, rfl, rfl, s7 _ _ l3, Nat.lt_of_le_of_lt (by omega : vs3.length ≤ 100) (by decide), ?_⟩
    exact (P6.mono s7).put2 (vs := vs3 ++ [v7]) (zs := worstFrom w_ c_ c_.hours.length (j + 1)) (by
      rw [worst_more]; unfold dvs; rw [List.map_append]; exact (m3.mono (hid_same s7)).app ⟨r7, trivial⟩)
  · intro σ' H' P
    obtain ⟨dx5, kvs5, o51, o52, o53⟩ := P.attr1
    obtain ⟨vs1, l1, m1⟩ := P.l1
    refine ⟨_, P.s0, p_, _, dx5, kvs5, _, rfl, o51, T.cl_2, T.na__costs, o52, .inl ⟨rfl, _, SqL.of l1⟩, q1, vs1, rfl, rfl, l1, ?_⟩
    have P6 := P.put1 (vs := vs1.reverse) (zs := (costsFrom w_ c_ c_.hours.length c_.hours.length).reverse) (by unfold dvs; rw [List.map_reverse]; exact m1.rev)
    obtain ⟨dx6, kvs6, o61, o62, o63⟩ := P6.attr1
    obtain ⟨vs3, l3, m3⟩ := P6.l2
    refine ⟨_, P6.s0, p_, _, dx6, kvs6, _, rfl, o61, T.cl_2, T.na__worst, o63, .inl ⟨rfl, _, SqL.of l3⟩, q2, vs3, rfl, rfl, l3, ?_⟩
    have P7 := P6.put2 (vs := vs3.reverse) (zs := (worstFrom w_ c_ c_.hours.length c_.hours.length).reverse) (by unfold dvs; rw [List.map_reverse]; exact m3.rev)
    obtain ⟨k9, f9⟩ := P7.whole kn h0 hown
    exact ⟨_, own, k9, f9, _, rfl, rfl⟩
def S_Plan_p_check : Pm := fun ds r => ∃ (w_ : Wk) (c_ : Crs) (n_ : V) (t_ : Tv), ds = [dv (planOf w_ c_), dv n_, dv t_] ∧ (w_.Ok) ∧ (c_.Ok) ∧ (scl n_) ∧ (∀ v ∈ t_.vs, scl v) ∧ r = (if (numC c_ n_).isSome = true ∧ (mkSt w_ t_).isSome = true then .ok (dv ()) else .err 12)
theorem ok_Plan_p_check (T : Tx w K mg) : FnOk PP w K mg base (L2.CX PP w) 3 T.a_Plan_p_check T.fd_Plan_p_check ["self", "number", "state"] (spOf K T.cls S_Plan_p_check) := by
  refine fn_ok T.F_Plan_p_check sc_Plan_p_check (fun ds r h => by obtain ⟨w_, c_, n_, t_, rfl, _⟩ := h; rfl) fun cd A outer s H E hs ds r hr h => ?_
  obtain ⟨w_, c_, n_, t_, rfl, p1, p2, p3, p4, rfl⟩ := h
  show KSs _ ([.sh (dv (planOf w_ c_)), .sh (dv n_), .sh (dv t_)] : List Ent) _ _
  refine ks_cons (s_if ?_)
  refine t_not ?_
  refine t_val ?_
  refine k_call (ok_is_whole T) (hr.mono (by decide)) T.g_is_whole T.k_is_whole T.b_is_whole ?_
  refine a_cons (α := V) ?_
  refine k_var 1 rfl rfl ?_
  refine a_cons (α := Int) ?_
  refine k_int ?_
  refine a_cons (α := Int) ?_
  refine k_meth0 (num := 1) Crs.no_count T.cl_1 T.m_Course_count (ok_Course_count T) (hr.mono (by decide)) T.b_Course_count ?_
  refine k_fld (n := 2) Pl.course Pl.lk_course T.cl_2 T.na_course ?_
  refine k_var 0 rfl rfl ?_
  refine ⟨_, ⟨_, rfl, rfl⟩, Got.ok ?_⟩
  refine a_nil ?_
  refine ⟨_, ⟨_, _, _, rfl, p3, rfl⟩, Got.ok ?_⟩
  refine ifNB (fun h1 => ?_) (fun h1 => ?_)
  · skip
    refine ks_one (s_raise (cn := 12) T.e_InvalidState ?_)
    refine k_join ?_ (by decide)
    refine k_lit (by decide) ?_
    refine k_fmtI ?_
    refine k_meth0 (num := 1) Crs.no_count T.cl_1 T.m_Course_count (ok_Course_count T) (hr.mono (by decide)) T.b_Course_count ?_
    refine k_fld (n := 2) Pl.course Pl.lk_course T.cl_2 T.na_course ?_
    refine k_var 0 rfl rfl ?_
    refine ⟨_, ⟨_, rfl, rfl⟩, Got.ok ?_⟩
    refine ⟨by have := p2.2.1; show (c_.hours.length : Int).natAbs < _; omega, ?_⟩
    show (_ : Rz) = _
    exact if_neg (fun z => by have z1 := z.1; rw [numC_is] at z1; rw [show isWh n_ 0 (c_.hours.length : Int) = false from h1] at z1; cases z1)
  · skip
    refine ks_nil ?_
    show KSs _ ([.sh (dv (planOf w_ c_)), .sh (dv n_), .sh (dv t_)] : List Ent) _ _
    refine ks_one (s_expr (α := Unit) ?_)
    refine k_meth (num := 0) Wk.no_check_state T.cl_0 T.m_Works_check_state (ok_Works_check_state T) (hr.mono (by decide)) T.b_Works_check_state ?_
    refine k_fld (n := 2) Pl.works Pl.lk_works T.cl_2 T.na_works ?_
    refine k_var 0 rfl rfl ?_
    refine a_cons (α := Tv) ?_
    refine k_var 2 rfl rfl ?_
    refine a_nil ?_
    refine ⟨_, ⟨_, _, rfl, p4, p1, rfl⟩, ?_⟩
    refine Got.ite (fun c1 => ?_) (fun c1 => ?_)
    rotate_left
    · exact (show (if (numC c_ n_).isSome = true ∧ (mkSt w_ t_).isSome = true then Rz.ok (dv ()) else .err 12) = Rz.err 12 from if_neg fun z => c1 z.2)
    refine Got.ok ?_
    show (_ : Rz) = _
    exact if_pos ⟨by rw [numC_is]; exact h1, c1⟩
def S_Plan_worst : Pm := fun ds r => ∃ (w_ : Wk) (c_ : Crs) (n_ : V) (t_ : Tv), ds = [dv (planOf w_ c_), dv n_, dv t_] ∧ (w_.Ok) ∧ (c_.Ok) ∧ (scl n_) ∧ (∀ v ∈ t_.vs, scl v) ∧ r = worstR w_ c_ n_ t_
theorem ok_Plan_worst (T : Tx w K mg) : FnOk PP w K mg base (L2.CX PP w) 4 T.a_Plan_worst T.fd_Plan_worst ["self", "number", "state"] (spOf K T.cls S_Plan_worst) := by
  refine fn_ok T.F_Plan_worst sc_Plan_worst (fun ds r h => by obtain ⟨w_, c_, n_, t_, rfl, _⟩ := h; rfl) fun cd A outer s H E hs ds r hr h => ?_
  obtain ⟨w_, c_, n_, t_, rfl, p1, p2, p3, p4, rfl⟩ := h
  show KSs _ ([.sh (dv (planOf w_ c_)), .sh (dv n_), .sh (dv t_), .no, .no, .no] : List Ent) _ _
  refine ks_cons (s_expr (α := Unit) ?_)
  refine k_meth (num := 2) Pl.no__check T.cl_2 T.m_Plan_p_check (ok_Plan_p_check T) (hr.mono (by decide)) T.b_Plan_p_check ?_
  refine k_var 0 rfl rfl ?_
  refine a_cons (α := V) ?_
  refine k_var 1 rfl rfl ?_
  refine a_cons (α := Tv) ?_
  refine k_var 2 rfl rfl ?_
  refine a_nil ?_
  refine ⟨_, ⟨_, _, _, _, rfl, p1, p2, p3, p4, rfl⟩, ?_⟩
  refine Got.ite (fun c1 => ?_) (fun c1 => ?_)
  rotate_left
  · exact (show worstR w_ c_ n_ t_ = Rz.err 12 from by
      unfold worstR
      cases e1 : numC c_ n_ with
      | none => rfl
      | some k =>
        cases e2 : mkSt w_ t_ with
        | none => rfl
        | some s => exact absurd ⟨by rw [e1]; rfl, by show (mkSt w_ t_).isSome = true; rw [e2]; rfl⟩ c1)
  refine Got.ok ?_
  obtain ⟨k_, hk_⟩ := Option.isSome_iff_exists.mp c1.1
  obtain ⟨s_, hs_⟩ := Option.isSome_iff_exists.mp c1.2
  obtain ⟨en_, kl_⟩ := numC_some hk_
  obtain ⟨et_, ok_⟩ := mkSt_some hs_
  show KSs _ ([.sh (dv (planOf w_ c_)), .sh (dv n_), .sh (dv t_), .no, .no, .no] : List Ent) _ _
  refine ks_conv 1 (k_:Int) rfl (cv_vi en_) ?_
  show KSs _ ([.sh (dv (planOf w_ c_)), .sh (dv (k_:Int)), .sh (dv t_), .no, .no, .no] : List Ent) _ _
  refine ks_conv 2 s_ rfl (by rw [et_]; exact cv_st' s_) ?_
  show KSs _ ([.sh (dv (planOf w_ c_)), .sh (dv (k_:Int)), .sh (dv s_), .no, .no, .no] : List Ent) _ _
  refine ks_cons (s_lets (α := Stt) (ds := Stt.ds) [3, 4, 5] (pgs_cons (pg_name (i := 3) sc_Plan_worst.nd rfl (by first | exact .inl rfl | exact .inr rfl)) (pgs_cons (pg_name (i := 4) sc_Plan_worst.nd rfl (by first | exact .inl rfl | exact .inr rfl)) (pgs_cons (pg_name (i := 5) sc_Plan_worst.nd rfl (by first | exact .inl rfl | exact .inr rfl)) (pgs_nil)))) (fun _ => rfl) ?_)
  refine k_var 2 rfl rfl ?_
  intro z_ ez_; subst z_
  show KSs _ ([.sh (dv (planOf w_ c_)), .sh (dv (k_:Int)), .sh (dv s_), .sh (dv s_.level), .sh (dv s_.shut), .sh (dv s_.since)] : List Ent) _ _
  refine ks_one (s_ret (α := Option Int) ?_)
  refine k_call (ok_told T) (hr.mono (by decide)) T.g_told T.k_told T.b_told ?_
  refine a_cons (α := Int) ?_
  refine k_ixL ?_
  refine k_ixD (κ := (Bool × Int)) (β := List Int) hr.units ?_
  refine k_ixL ?_
  refine k_fld (n := 2) Pl.worst Pl.lk__worst T.cl_2 T.na__worst ?_
  refine k_var 0 rfl rfl ?_
  refine k_var 1 rfl rfl ?_
  refine ⟨_, ⟨Int.natCast_nonneg _, by rw [Int.toNat_natCast]; exact worst_at kl_⟩, ?_⟩
  refine k_tup (α := (Bool × Int)) (ds := ds2) ?_
  refine a_cons (α := Bool) ?_
  refine k_var 4 rfl rfl ?_
  refine a_cons (α := Int) ?_
  refine k_var 5 rfl rfl ?_
  refine a_nil ?_
  refine ⟨Nat.le_of_ble_eq_true rfl, ⟨_, _⟩, rfl, ?_⟩
  refine ⟨_, tab_at ok_.2, ?_⟩
  refine k_var 3 rfl rfl ?_
  refine ⟨_, ⟨ok_.1.1, row_at ok_.1.1 ok_.1.2⟩, ?_⟩
  refine a_nil ?_
  refine ⟨_, ⟨_, rfl, rfl⟩, Got.ok ?_⟩
  show (_ : Rz) = _
  exact (by unfold worstR; rw [hk_, hs_])
def S_Plan_is_kept : Pm := fun ds r => ∃ (w_ : Wk) (c_ : Crs) (n_ : V) (t_ : Tv), ds = [dv (planOf w_ c_), dv n_, dv t_] ∧ (w_.Ok) ∧ (c_.Ok) ∧ (scl n_) ∧ (∀ v ∈ t_.vs, scl v) ∧ r = keptR w_ c_ n_ t_
theorem ok_Plan_is_kept (T : Tx w K mg) : FnOk PP w K mg base (L2.CX PP w) 5 T.a_Plan_is_kept T.fd_Plan_is_kept ["self", "number", "state"] (spOf K T.cls S_Plan_is_kept) := by
  refine fn_ok T.F_Plan_is_kept sc_Plan_is_kept (fun ds r h => by obtain ⟨w_, c_, n_, t_, rfl, _⟩ := h; rfl) fun cd A outer s H E hs ds r hr h => ?_
  obtain ⟨w_, c_, n_, t_, rfl, p1, p2, p3, p4, rfl⟩ := h
  show KSs _ ([.sh (dv (planOf w_ c_)), .sh (dv n_), .sh (dv t_)] : List Ent) _ _
  refine ks_one (s_ret (α := Bool) ?_)
  refine k_notN (α := Option Int) ?_
  refine k_meth (num := 2) Pl.no_worst T.cl_2 T.m_Plan_worst (ok_Plan_worst T) (hr.mono (by decide)) T.b_Plan_worst ?_
  refine k_var 0 rfl rfl ?_
  refine a_cons (α := V) ?_
  refine k_var 1 rfl rfl ?_
  refine a_cons (α := Tv) ?_
  refine k_var 2 rfl rfl ?_
  refine a_nil ?_
  refine ⟨_, ⟨_, _, _, _, rfl, p1, p2, p3, p4, rfl⟩, ?_⟩
  unfold worstR
  cases e1_ : numC c_ n_ with
  | none => exact (show keptR w_ c_ n_ t_ = Rz.err 12 from by unfold keptR; rw [e1_])
  | some k_ =>
  cases e2_ : mkSt w_ t_ with
  | none => exact (show keptR w_ c_ n_ t_ = Rz.err 12 from by unfold keptR; rw [e1_, e2_])
  | some s_ =>
  refine Got.ok ?_
  show (_ : Rz) = _
  exact (by unfold keptR; rw [e1_, e2_]; rfl)
def S_Plan_levels : Pm := fun ds r => ∃ (w_ : Wk) (c_ : Crs) (n_ b_ x_ : V), ds = [dv (planOf w_ c_), dv n_, dv b_, dv x_] ∧ (w_.Ok) ∧ (c_.Ok) ∧ (scl n_) ∧ (scl b_) ∧ (scl x_) ∧ r = levelsR w_ c_ n_ b_ x_
theorem okN_Plan_levels (T : Tx w K mg) : FnOk PP w K mg base (L2.CX PP w) 4 T.a_Plan_levels T.fd_Plan_levels ["self", "number", "shut", "since"] (spNew K T.cls S_Plan_levels) := by
  refine fn_okN T.F_Plan_levels sc_Plan_levels (fun ds r h => by obtain ⟨w_, c_, n_, b_, x_, rfl, _⟩ := h; rfl) fun cd A outer s H E hs ds r hr h => ?_
  obtain ⟨w_, c_, n_, b_, x_, rfl, p1, p2, p3, p4, p5, rfl⟩ := h
  have p1' := p1
  unfold Wk.Ok at p1'
  show KSs _ ([.sh (dv (planOf w_ c_)), .sh (dv n_), .sh (dv b_), .sh (dv x_), .no, .no, .no] : List Ent) _ _
  refine ks_cons (s_expr (α := Unit) ?_)
  refine k_meth (num := 2) Pl.no__check T.cl_2 T.m_Plan_p_check (ok_Plan_p_check T) (hr.mono (by decide)) T.b_Plan_p_check ?_
  refine k_var 0 rfl rfl ?_
  refine a_cons (α := V) ?_
  refine k_var 1 rfl rfl ?_
  refine a_cons (α := Tv) ?_
  refine k_tup (α := Tv) (ds := Tv.ds) ?_
  refine a_cons (α := V) ?_
  refine k_toV (α := Int) ?_
  refine k_int ?_
  refine a_cons (α := V) ?_
  refine k_var 2 rfl rfl ?_
  refine a_cons (α := V) ?_
  refine k_var 3 rfl rfl ?_
  refine a_nil ?_
  refine ⟨Nat.le_of_ble_eq_true rfl, ⟨[_, _, _]⟩, rfl, ?_⟩
  refine a_nil ?_
  refine ⟨_, ⟨_, _, _, _, rfl, p1, p2, p3, (by intro v hv; simp only [List.mem_cons, List.not_mem_nil, or_false] at hv; rcases hv with rfl | rfl | rfl; exact scl_i _; exact p4; exact p5), rfl⟩, ?_⟩
  refine Got.ite (fun c1 => ?_) (fun c1 => ?_)
  rotate_left
  · exact (show levelsR w_ c_ n_ b_ x_ = Rz.err 12 from by
      unfold levelsR
      cases e1 : numC c_ n_ with
      | none => rfl
      | some k =>
        cases e2 : mkSt w_ ⟨[.int 0, b_, x_]⟩ with
        | none => rfl
        | some s => exact absurd ⟨by rw [e1]; rfl, by show (mkSt w_ ⟨[.int 0, b_, x_]⟩).isSome = true; rw [e2]; rfl⟩ c1)
  refine Got.ok ?_
  obtain ⟨k_, hk_⟩ := Option.isSome_iff_exists.mp c1.1
  obtain ⟨s_, hs_⟩ := Option.isSome_iff_exists.mp c1.2
  obtain ⟨en_, kl_⟩ := numC_some hk_
  obtain ⟨et_, ok_⟩ := mkSt_some hs_
  replace hs_ : mkSt w_ ⟨[.int 0, b_, x_]⟩ = some s_ := hs_
  have eb_ : b_ = .bl s_.shut := by unfold Stt.tv at et_; injection et_ with et_; injection et_ with _ et_; injection et_
  have ex_ : x_ = .int s_.since := by unfold Stt.tv at et_; injection et_ with et_; injection et_ with _ et_; injection et_ with _ et_; injection et_
  show KSs _ ([.sh (dv (planOf w_ c_)), .sh (dv n_), .sh (dv b_), .sh (dv x_), .no, .no, .no] : List Ent) _ _
  refine ks_conv 1 (k_:Int) rfl (cv_vi en_) ?_
  show KSs _ ([.sh (dv (planOf w_ c_)), .sh (dv (k_:Int)), .sh (dv b_), .sh (dv x_), .no, .no, .no] : List Ent) _ _
  refine ks_conv 2 s_.shut rfl (cv_vb eb_) ?_
  show KSs _ ([.sh (dv (planOf w_ c_)), .sh (dv (k_:Int)), .sh (dv s_.shut), .sh (dv x_), .no, .no, .no] : List Ent) _ _
  refine ks_conv 3 s_.since rfl (cv_vi ex_) ?_
  show KSs _ ([.sh (dv (planOf w_ c_)), .sh (dv (k_:Int)), .sh (dv s_.shut), .sh (dv s_.since), .no, .no, .no] : List Ent) _ _
  refine ks_cons (s_let (α := List Int) 4 sc_Plan_levels.nd rfl ?_)
  refine k_ixD (κ := (Bool × Int)) (β := List Int) hr.units ?_
  refine k_ixL ?_
  refine k_fld (n := 2) Pl.worst Pl.lk__worst T.cl_2 T.na__worst ?_
  refine k_var 0 rfl rfl ?_
  refine k_var 1 rfl rfl ?_
  refine ⟨_, ⟨Int.natCast_nonneg _, by rw [Int.toNat_natCast]; exact worst_at kl_⟩, ?_⟩
  refine k_tup (α := (Bool × Int)) (ds := ds2) ?_
  refine a_cons (α := Bool) ?_
  refine k_var 2 rfl rfl ?_
  refine a_cons (α := Int) ?_
  refine k_var 3 rfl rfl ?_
  refine a_nil ?_
  refine ⟨Nat.le_of_ble_eq_true rfl, ⟨_, _⟩, rfl, ?_⟩
  refine ⟨_, tab_at ok_.2, ?_⟩
  refine fun worst worst_e => ?_
  show KSs _ ([.sh (dv (planOf w_ c_)), .sh (dv (k_:Int)), .sh (dv s_.shut), .sh (dv s_.since), .sh (dv worst), .no, .no] : List Ent) _ _
  refine ks_one (s_retNew (α := List Int) ?_)
  refine kn_ofLc (q_lcE (α := Int) (γ := Int) [("level", 5), ("shut_hours", 6)] sc_Plan_levels.nd T.nogl (blkOk_by rfl) (Nat.le_of_ble_eq_true rfl) (fun F' ⟨s', H', C', cl', fp', hs', e'⟩ => by subst e'; exact g_tupK (ds := ds2) (K := K) [5, 6] rfl (pgs_cons (pg_name (i := 5) sc_Plan_levels.nd rfl (by first | exact .inl rfl | exact .inr rfl)) (pgs_cons (pg_name (i := 6) sc_Plan_levels.nd rfl (by first | exact .inl rfl | exact .inr rfl)) (pgs_nil))) (fun _ => rfl) rfl rfl rfl) (by decide) (by intro i hi o; simp only [List.map_cons, List.map_nil, List.mem_cons, List.not_mem_nil, or_false] at hi; rcases hi with rfl | rfl <;> intro z <;> cases z) ?_)
  refine k_var 4 rfl rfl ?_
  refine ⟨by rw [worst_e, row_len]; omega, fun x => !decide (x.2 = 1000), fun x => x.1, ?_, ?_, ?_⟩
  · rintro F' it_ ⟨s', H', C', cl', fp', hs', rfl⟩ comp1_m
    show KT _ [.sh (dv (planOf w_ c_)), .sh (dv (k_:Int)), .sh (dv s_.shut), .sh (dv s_.since), .sh (dv worst), .sh (dv (Prod.fst it_)), .sh (dv (Prod.snd it_))] _ _ _
    refine t_ne (α := Int) ?_
    refine k_var 6 rfl rfl ?_
    refine k_gint T.c__LOST ?_
    exact rfl
  · rintro F' it_ ⟨s', H', C', cl', fp', hs', rfl⟩ comp1_m comp1_t
    show KE _ [.sh (dv (planOf w_ c_)), .sh (dv (k_:Int)), .sh (dv s_.shut), .sh (dv s_.since), .sh (dv worst), .sh (dv (Prod.fst it_)), .sh (dv (Prod.snd it_))] _ _ _
    refine k_var 5 rfl rfl ?_
    exact rfl
  refine ⟨dv _, ?_, rfl⟩
  show (_ : Rz) = _
  exact (by unfold levelsR; rw [hk_, hs_, worst_e, kept_enum (by omega)]; rfl)
theorem ok_Plan_levels (T : Tx w K mg) : FnOk PP w K mg base (L2.CX PP w) 4 T.a_Plan_levels T.fd_Plan_levels ["self", "number", "shut", "since"] (spOf K T.cls S_Plan_levels) := (okN_Plan_levels T).imp new_of
def S_stretches : Pm := fun ds r => ∃ (ls_ : List Int), ds = [dv ls_] ∧ (ls_.length ≤ 90000) ∧ r = .ok (dv (stretch ls_))
theorem okN_stretches (T : Tx w K mg) : FnOk PP w K mg base (L2.CX PP w) 1 T.a_stretches T.fd_stretches ["levels"] (spNew K T.cls S_stretches) := by
  refine fn_okN T.F_stretches sc_stretches (fun ds r h => by obtain ⟨ls_, rfl, _⟩ := h; rfl) fun cd A outer s H E hs ds r hr h => ?_
  obtain ⟨ls_, rfl, p1, rfl⟩ := h
  show KSs _ ([.sh (dv ls_), .no, .no] : List Ent) _ _
  refine ks_cons (s_new (α := (Int × Int)) 1 sc_stretches.nd rfl (Nat.le_of_ble_eq_true rfl) ?_)
  refine a_nil ?_
  refine ⟨Nat.le_of_ble_eq_true rfl, ([] : List (Int × Int)), rfl, ?_⟩
  rintro _ rfl
  show KSs _ ([.sh (dv ls_), .ow (olist ([] : List (Int × Int))), .no] : List Ent) _ _
  refine ks_cons (s_for (α := Int) (g_name (α := Int) 2 sc_stretches.nd rfl) ?_)
  refine k_var 0 rfl rfl ?_
  refine ⟨fun (i_ : Nat) e_ => e_ = ([.sh (dv ls_), .ow (olist (stretch (ls_.take i_))), .no] : List Ent) ∧ (True), ?_, ?_, ?_⟩
  · exact ⟨rfl, by first | trivial | rfl | simp⟩
  · rintro i_ level _ for1_at ⟨rfl, for1_i⟩
    refine turn_fgt ?_
    show KSs _ ([.sh (dv ls_), .ow (olist (stretch (ls_.take i_))), .sh (dv level)] : List Ent) _ _
    have sl_ := stretch_len (ls_.take i_)
    rw [List.length_take] at sl_
    refine ks_one (s_if ?_)
    refine t_w ?_
    refine w_andD (lastIs (stretch (ls_.take i_)) level) ?_
    refine t_ownL (α := (Int × Int)) 1 rfl rfl ?_
    refine ⟨fun hb1 => ?_, ?_⟩
    · skip
      obtain ⟨p_, pl_⟩ : ∃ p, (stretch (ls_.take i_)).getLast? = some p := by
        cases e : (stretch (ls_.take i_)).getLast? with
        | some p => exact ⟨p, rfl⟩
        | none => rw [List.getLast?_eq_none_iff] at e; rw [e] at hb1; cases hb1
      refine w_and1 ?_
      refine t_eq (α := Int) ?_
      refine k_ixT (α := (Int × Int)) (ds := ds2) 1 Prod.snd (fun _ => rfl) rfl ?_
      refine k_ownLast (α := (Int × Int)) 1 rfl rfl ?_
      refine ⟨_, pl_, ?_⟩
      refine k_var 2 rfl rfl ?_
      exact (by unfold lastIs; rw [pl_])
    refine ifB (fun h1 => ?_) (fun h1 => ?_)
    · skip
      obtain ⟨p_, pl_, pe_⟩ : ∃ p : Int × Int, (stretch (ls_.take i_)).getLast? = some p ∧ p.2 = level := by
        rw [Bool.and_eq_true] at h1
        have z := h1.2
        unfold lastIs at z
        cases e : (stretch (ls_.take i_)).getLast? with
        | some p => rw [e] at z; exact ⟨p, rfl, of_decide_eq_true z⟩
        | none => rw [e] at z; cases z
      refine ks_one (s_setLast (α := (Int × Int)) 1 rfl rfl ?_)
      refine k_tup (α := (Int × Int)) (ds := ds2) ?_
      refine a_cons (α := Int) ?_
      refine k_ixT (α := (Int × Int)) (ds := ds2) 0 Prod.fst (fun _ => rfl) rfl ?_
      refine k_ownLast (α := (Int × Int)) 1 rfl rfl ?_
      refine ⟨_, pl_, ?_⟩
      refine a_cons (α := Int) ?_
      refine k_add ?_
      refine k_var 2 rfl rfl ?_
      refine k_int ?_
      refine a_nil ?_
      refine ⟨Nat.le_of_ble_eq_true rfl, ⟨p_.1, level + 1⟩, rfl, ?_⟩
      refine ⟨(by intro z; rw [z] at pl_; cases pl_), ?_⟩
      refine fun found_six1 found_six1_e => ?_
      exact ⟨[2], by rw [stretch_s for1_at, strS_t pl_ pe_, found_six1_e]; rfl, trivial⟩
    · skip
      refine ks_one (s_app 1 rfl rfl (by omega) ?_)
      refine k_tup (α := (Int × Int)) (ds := ds2) ?_
      refine a_cons (α := Int) ?_
      refine k_var 2 rfl rfl ?_
      refine a_cons (α := Int) ?_
      refine k_add ?_
      refine k_var 2 rfl rfl ?_
      refine k_int ?_
      refine a_nil ?_
      refine ⟨Nat.le_of_ble_eq_true rfl, ⟨_, _⟩, rfl, ?_⟩
      refine fun found_app1 found_app1_e => ?_
      exact ⟨[2], by rw [stretch_s for1_at, strS_f h1, found_app1_e]; rfl, trivial⟩
  · rintro _ ⟨rfl, for1_d⟩
    show KSs _ ([.sh (dv ls_), .ow (olist (stretch (ls_.take (ls_.length)))), .no] : List Ent) _ _
    refine ks_one (s_retOwn (α := (Int × Int)) 1 rfl rfl ?_)
    refine ⟨dv _, ?_, rfl⟩
    show (_ : Rz) = _
    exact (by rw [List.take_length])
theorem ok_stretches (T : Tx w K mg) : FnOk PP w K mg base (L2.CX PP w) 1 T.a_stretches T.fd_stretches ["levels"] (spOf K T.cls S_stretches) := (okN_stretches T).imp new_of
def S_with_levels : Pm := fun ds r => ∃ (B_ : Hp) (rs_ : List (RowB B_)), ds = [dv rs_] ∧ (rs_.length ≤ 40000) ∧ r = .ok (dv (rs_.filter fun x => hasSp x.r))
theorem okN_with_levels (T : Tx w K mg) : FnOk PP w K mg base (L2.CX PP w) 1 T.a_with_levels T.fd_with_levels ["rows"] (spNew K T.cls S_with_levels) := by
  refine fn_okN T.F_with_levels sc_with_levels (fun ds r h => by obtain ⟨B_, rs_, rfl, _⟩ := h; rfl) fun cd A outer s H E hs ds r hr h => ?_
  obtain ⟨B_, rs_, rfl, p1, rfl⟩ := h
  show KSs _ ([.sh (dv rs_), .no] : List Ent) _ _
  refine ks_one (s_retNew (α := List (RowB B_)) ?_)
  refine kn_ofLc (q_lc (α := RowB B_) (β := RowB B_) [("row", 1)] sc_with_levels.nd (blkOk_by rfl) (Nat.le_of_ble_eq_true rfl) (fun F' ⟨s', H', C', cl', fp', hs', e'⟩ => by subst e'; exact g_name (α := RowB B_) 1 sc_with_levels.nd rfl) (by decide) (by intro i hi o; simp only [List.map_cons, List.map_nil, List.mem_cons, List.not_mem_nil, or_false] at hi; subst hi <;> intro z <;> cases z) ?_)
  refine k_var 0 rfl rfl ?_
  refine ⟨by omega, fun x => hasSp x.r, fun r => r, ?_, ?_, ?_⟩
  · rintro F' row ⟨s', H', C', cl', fp', hs', rfl⟩ comp1_m
    show KT _ [.sh (dv rs_), .sh (dv row)] _ _ _
    refine t_lst (α := Int × Int) ?_
    refine k_cv (α := NewL B_) ?_
    refine k_ixT (α := RowB B_) (ds := RowB.ds) 3 (fun x : RowB B_ => (NewL.mk x.r.sp : NewL B_)) (fun _ => rfl) rfl ?_
    refine k_var 1 rfl rfl ?_
    refine ⟨_, cv_newL _, ?_⟩
    exact rfl
  · rintro F' row ⟨s', H', C', cl', fp', hs', rfl⟩ comp1_m comp1_t
    show KE _ [.sh (dv rs_), .sh (dv row)] _ _ _
    refine k_var 1 rfl rfl ?_
    exact rfl
  refine ⟨dv _, ?_, rfl⟩
  show (_ : Rz) = _
  exact (by rw [List.map_id''] <;> first | rfl | (intro x; rfl))
def S_kept_paper : List DV → Except Nat (List Row) → Prop := fun ds r => ∃ (w_ : Wk) (c_ : Crs), ds = [dv (planOf w_ c_)] ∧ (w_.Ok) ∧ (c_.Ok) ∧ r = (.ok (keptP w_ c_))
theorem ok_kept_paper (T : Tx w K mg) : FnOk PP w K mg base (L2.CX PP w) 5 T.a_kept_paper T.fd_kept_paper ["plan"] (spF (rowsI) K T.cls S_kept_paper) := by
  refine fn_okF T.F_kept_paper sc_kept_paper (fun ds r h => by obtain ⟨w_, c_, rfl, _⟩ := h; rfl) fun cd A outer s H E hs ds r hr h => ?_
  obtain ⟨w_, c_, rfl, p1, p2, rfl⟩ := h
  have hl_ := p2.2.1
  have hl2_ : (planOf w_ c_).course.hours.length = c_.hours.length := rfl
  show KSs _ ([.sh (dv (planOf w_ c_)), .no, .no, .no, .no] : List Ent) _ _
  refine ks_cons (s_new (α := RowB H) 1 sc_kept_paper.nd rfl (Nat.le_of_ble_eq_true rfl) ?_)
  refine a_nil ?_
  refine ⟨Nat.le_of_ble_eq_true rfl, ([] : List (RowB H)), rfl, ?_⟩
  rintro _ rfl
  show KSs _ ([.sh (dv (planOf w_ c_)), .ow (olist ([] : List (RowB H))), .no, .no, .no] : List Ent) _ _
  refine ks_cons (s_forR1 (g_name (α := Int) 2 sc_kept_paper.nd rfl) T.nogl ?_)
  refine k_add ?_
  refine k_meth0 (num := 1) Crs.no_count T.cl_1 T.m_Course_count (ok_Course_count T) (hr.mono (by decide)) T.b_Course_count ?_
  refine k_fld (n := 2) Pl.course Pl.lk_course T.cl_2 T.na_course ?_
  refine k_var 0 rfl rfl ?_
  refine ⟨_, ⟨_, rfl, rfl⟩, Got.ok ?_⟩
  refine k_int ?_
  refine ⟨by omega, by omega, fun (i_ : Nat) e_ => e_ = ([.sh (dv (planOf w_ c_)), .ow (olist ((rowsTo (keptRow w_ c_) w_ i_).map (RowB.mk (B := H)))), .no, .no, .no] : List Ent) ∧ (True), ?_, ?_, ?_⟩
  · exact ⟨rfl, by first | trivial | rfl | simp⟩
  · rintro i_ _ for1_lt ⟨rfl, for1_i⟩
    refine turn_fgt ?_
    obtain ⟨number, number_e⟩ : ∃ v_ : Int, v_ = ((i_ : Nat) : Int) := ⟨_, rfl⟩
    refine at_int (i := 2) number_e ?_
    show KSs _ ([.sh (dv (planOf w_ c_)), .ow (olist ((rowsTo (keptRow w_ c_) w_ i_).map (RowB.mk (B := H)))), .sh (dv number), .no, .no] : List Ent) _ _
    refine ks_one (s_for (α := (Bool × Int)) (g_tup (ds := ds2) [3, 4] (pgs_cons (pg_name (i := 3) sc_kept_paper.nd rfl (by first | exact .inl rfl | exact .inr rfl)) (pgs_cons (pg_name (i := 4) sc_kept_paper.nd rfl (by first | exact .inl rfl | exact .inr rfl)) (pgs_nil))) (fun _ => rfl)) ?_)
    refine k_call (ok_gates T) (hr.mono (by decide)) T.g_gates T.k_gates T.b_gates ?_
    refine a_cons (α := Wk) ?_
    refine k_fld (n := 2) Pl.works Pl.lk_works T.cl_2 T.na_works ?_
    refine k_var 0 rfl rfl ?_
    refine a_nil ?_
    refine ⟨_, ⟨_, rfl, by first | assumption | omega, rfl⟩, Got.ok ?_⟩
    refine ⟨fun (j_ : Nat) e_ => e_ = ([.sh (dv (planOf w_ c_)), .ow (olist ((rowsTo (keptRow w_ c_) w_ i_ ++ ((gatesL w_).take j_).map (keptRow w_ c_ i_)).map (RowB.mk (B := H)))), .sh (dv number), .no, .no] : List Ent) ∧ (True), ?_, ?_, ?_⟩
    · exact ⟨by rw [List.take_zero, List.map_nil, List.append_nil], trivial⟩
    · rintro j_ it_for2 _ for2_at ⟨rfl, for2_i⟩
      refine turn_fgt ?_
      show KSs _ ([.sh (dv (planOf w_ c_)), .ow (olist ((rowsTo (keptRow w_ c_) w_ i_ ++ ((gatesL w_).take j_).map (keptRow w_ c_ i_)).map (RowB.mk (B := H)))), .sh (dv number), .sh (dv (Prod.fst it_for2)), .sh (dv (Prod.snd it_for2))] : List Ent) _ _
      replace for2_at : (gatesL w_)[j_]? = some it_for2 := for2_at
      have hg_ := mem_gates.mp (List.mem_of_getElem? for2_at)
      refine ks_one (s_app 1 rfl rfl (by have z1 := rowsTo_len (f := keptRow w_ c_) (w := w_) p1 (m := i_); have z2 := gates_len p1; have z3 := List.length_take_le' j_ (gatesL w_); have z4 := p2.2.1; rw [List.length_map, List.length_append, List.length_map]; omega) ?_)
      refine k_tup (α := RowB H) (ds := RowB.ds) ?_
      refine a_cons (α := Int) ?_
      refine k_var 2 rfl rfl ?_
      refine a_cons (α := Bool) ?_
      refine k_var 3 rfl rfl ?_
      refine a_cons (α := Int) ?_
      refine k_var 4 rfl rfl ?_
      refine a_cons (α := NewL H) ?_
      refine k_newL ?_
      refine kn_call (okN_stretches T) (hr.mono (by decide)) T.g_stretches T.k_stretches T.b_stretches ?_
      refine a_cons (α := List Int) ?_
      refine k_meth (num := 2) Pl.no_levels T.cl_2 T.m_Plan_levels (ok_Plan_levels T) (hr.mono (by decide)) T.b_Plan_levels ?_
      refine k_var 0 rfl rfl ?_
      refine a_cons (α := V) ?_
      refine k_toV (α := Int) ?_
      refine k_var 2 rfl rfl ?_
      refine a_cons (α := V) ?_
      refine k_toV (α := Bool) ?_
      refine k_var 3 rfl rfl ?_
      refine a_cons (α := V) ?_
      refine k_toV (α := Int) ?_
      refine k_var 4 rfl rfl ?_
      refine a_nil ?_
      refine ⟨_, ⟨_, _, _, _, _, rfl, p1, p2, scl_i _, scl_b _, scl_i _, rfl⟩, ?_⟩
      rw [number_e]
      refine Got.eq (levelsR_ok (k := i_) p1 (by omega) hg_.1 hg_.2) ?_
      refine a_nil ?_
      refine ⟨_, ⟨_, rfl, keptL_len' p1, rfl⟩, Got.ok ?_⟩
      refine a_nil ?_
      refine ⟨Nat.le_of_ble_eq_true rfl, ⟨⟨_, _, _, _⟩⟩, rfl, ?_⟩
      refine fun rows_app1 rows_app1_e => ?_
      have e_ : rows_app1 = (rowsTo (keptRow w_ c_) w_ i_ ++ ((gatesL w_).take (j_ + 1)).map (keptRow w_ c_ i_)).map (RowB.mk (B := H)) := by
        rw [rows_app1_e, take_at for2_at]
        simp only [List.map_append, List.append_assoc, List.map_cons, List.map_nil]
        first | rfl | (rw [number_e]; rfl)
      subst e_
      exact ⟨[3, 4], rfl, trivial⟩
    · rintro _ ⟨rfl, for2_d⟩
      exact ⟨[2], by rw [rowsTo_s, show List.take (gatesL (planOf w_ c_).works).length (gatesL w_) = gatesL w_ from List.take_length]; rfl, trivial⟩
  · rintro _ ⟨rfl, for1_d⟩
    show KSs _ ([.sh (dv (planOf w_ c_)), .ow (olist ((rowsTo (keptRow w_ c_) w_ (((c_.hours.length : Int) + 1).toNat)).map (RowB.mk (B := H)))), .no, .no, .no] : List Ent) _ _
    refine ks_freeze 1 rfl ?_
    show KSs _ ([.sh (dv (planOf w_ c_)), .sh (dv ((rowsTo (keptRow w_ c_) w_ (((c_.hours.length : Int) + 1).toNat)).map (RowB.mk (B := H)))), .no, .no, .no] : List Ent) _ _
    refine ks_one (s_retRows ?_)
    refine kn_call (okN_with_levels T) (hr.mono (by decide)) T.g_with_levels T.k_with_levels T.b_with_levels ?_
    refine a_cons (α := List (RowB H)) ?_
    refine k_var 1 rfl rfl ?_
    refine a_nil ?_
    refine ⟨_, ⟨H, _, rfl, by have z := rowsTo_len (f := keptRow w_ c_) (w := w_) p1 (m := ((c_.hours.length : Int) + 1).toNat); rw [List.length_map]; omega, rfl⟩, Got.ok ?_⟩
    exact ⟨keptP w_ c_, (map_keep _).trans (by rw [show ((c_.hours.length : Int) + 1).toNat = c_.hours.length + 1 from by omega]; rfl), _, rfl, rfl⟩
def S_lost_levels : Pm := fun ds r => ∃ (w_ : Wk) (c_ : Crs) (k_ : Nat) (b_ : Bool) (s_ : Int), ds = [dv (planOf w_ c_), dv (k_ : Int), dv b_, dv s_] ∧ (w_.Ok) ∧ (c_.Ok) ∧ (k_ ≤ c_.hours.length) ∧ (1 ≤ s_ ∧ s_ ≤ w_.rest) ∧ r = .ok (dv (lostL w_ c_ k_ b_ s_))
theorem ok_lost_levels (T : Tx w K mg) : FnOk PP w K mg base (L2.CX PP w) 6 T.a_lost_levels T.fd_lost_levels ["plan", "number", "shut", "since"] (spOf K T.cls S_lost_levels) := by
  refine fn_ok T.F_lost_levels sc_lost_levels (fun ds r h => by obtain ⟨w_, c_, k_, b_, s_, rfl, _⟩ := h; rfl) fun cd A outer s H E hs ds r hr h => ?_
  obtain ⟨w_, c_, k_, b_, s_, rfl, p1, p2, p3, p4, rfl⟩ := h
  have p1' := p1
  unfold Wk.Ok at p1'
  show KSs _ ([.sh (dv (planOf w_ c_)), .sh (dv (k_ : Int)), .sh (dv b_), .sh (dv s_), .no, .no] : List Ent) _ _
  refine ks_cons (s_let (α := Rng) 4 sc_lost_levels.nd rfl ?_)
  refine k_rng1 T.nogl ?_
  refine k_add ?_
  refine k_fld (n := 0) Wk.wall Wk.lk_wall T.cl_0 T.na_wall ?_
  refine k_fld (n := 2) Pl.works Pl.lk_works T.cl_2 T.na_works ?_
  refine k_var 0 rfl rfl ?_
  refine k_int ?_
  refine fun levels levels_e => ?_
  subst levels_e
  show KSs _ ([.sh (dv (planOf w_ c_)), .sh (dv (k_ : Int)), .sh (dv b_), .sh (dv s_), .sh (dv (Rng.mk 0 (w_.wall + 1))), .no] : List Ent) _ _
  refine ks_one (s_ret (α := List Int) ?_)
  refine k_ofLc (q_lcRng (γ := Int) [("level", 5)] sc_lost_levels.nd (blkOk_by rfl) (Nat.le_of_ble_eq_true rfl) (fun F' ⟨s', H', C', cl', fp', hs', e'⟩ => by subst e'; exact g_name (α := Int) 5 sc_lost_levels.nd rfl) (by decide) (by intro i hi o; simp only [List.map_cons, List.map_nil, List.mem_cons, List.not_mem_nil, or_false] at hi; subst hi <;> intro z <;> cases z) ?_)
  refine k_var 4 rfl rfl ?_
  refine ⟨by dsimp only; omega, fun l => decide (worstAt w_ c_ k_ b_ s_ l = 1000), fun l => l, ?_, ?_, ?_⟩
  · rintro F' level ⟨s', H', C', cl', fp', hs', rfl⟩ comp1_m
    have lv_ := mem_span.mp comp1_m
    dsimp only at lv_
    show KT _ [.sh (dv (planOf w_ c_)), .sh (dv (k_ : Int)), .sh (dv b_), .sh (dv s_), .sh (dv (Rng.mk 0 (w_.wall + 1))), .sh (dv level)] _ _ _
    refine t_not ?_
    refine t_val ?_
    refine k_meth (num := 2) Pl.no_is_kept T.cl_2 T.m_Plan_is_kept (ok_Plan_is_kept T) (hr.mono (by decide)) T.b_Plan_is_kept ?_
    refine k_var 0 rfl rfl ?_
    refine a_cons (α := V) ?_
    refine k_toV (α := Int) ?_
    refine k_var 1 rfl rfl ?_
    refine a_cons (α := Tv) ?_
    refine k_cv (α := Stt) ?_
    refine k_tup (α := Stt) (ds := Stt.ds) ?_
    refine a_cons (α := Int) ?_
    refine k_var 5 rfl rfl ?_
    refine a_cons (α := Bool) ?_
    refine k_var 2 rfl rfl ?_
    refine a_cons (α := Int) ?_
    refine k_var 3 rfl rfl ?_
    refine a_nil ?_
    refine ⟨Nat.le_of_ble_eq_true rfl, ⟨_, _, _⟩, rfl, ?_⟩
    refine ⟨_, cv_st _, ?_⟩
    refine a_nil ?_
    refine ⟨_, ⟨_, _, _, _, rfl, p1, p2, scl_i _, scl_st _, rfl⟩, ?_⟩
    refine Got.eq (keptR_ok (numC_ok p3) (mkSt_ok (s := Stt.mk level b_ s_) ⟨⟨lv_.1, by show level ≤ w_.wall; omega⟩, p4⟩)) ?_
    exact lost_t
  · rintro F' level ⟨s', H', C', cl', fp', hs', rfl⟩ comp1_m comp1_t
    have lv_ := mem_span.mp comp1_m
    dsimp only at lv_
    show KE _ [.sh (dv (planOf w_ c_)), .sh (dv (k_ : Int)), .sh (dv b_), .sh (dv s_), .sh (dv (Rng.mk 0 (w_.wall + 1))), .sh (dv level)] _ _ _
    refine k_var 5 rfl rfl ?_
    exact rfl
  show (_ : Rz) = _
  exact (by rw [List.map_id''] <;> first | rfl | (intro x; rfl))
def S_lost_paper : List DV → Except Nat (List Row) → Prop := fun ds r => ∃ (w_ : Wk) (c_ : Crs), ds = [dv (planOf w_ c_)] ∧ (w_.Ok) ∧ (c_.Ok) ∧ r = (.ok (lostP w_ c_))
theorem ok_lost_paper (T : Tx w K mg) : FnOk PP w K mg base (L2.CX PP w) 7 T.a_lost_paper T.fd_lost_paper ["plan"] (spF (rowsI) K T.cls S_lost_paper) := by
  refine fn_okF T.F_lost_paper sc_lost_paper (fun ds r h => by obtain ⟨w_, c_, rfl, _⟩ := h; rfl) fun cd A outer s H E hs ds r hr h => ?_
  obtain ⟨w_, c_, rfl, p1, p2, rfl⟩ := h
  have hl_ := p2.2.1
  have hl2_ : (planOf w_ c_).course.hours.length = c_.hours.length := rfl
  show KSs _ ([.sh (dv (planOf w_ c_)), .no, .no, .no, .no] : List Ent) _ _
  refine ks_cons (s_new (α := RowB H) 1 sc_lost_paper.nd rfl (Nat.le_of_ble_eq_true rfl) ?_)
  refine a_nil ?_
  refine ⟨Nat.le_of_ble_eq_true rfl, ([] : List (RowB H)), rfl, ?_⟩
  rintro _ rfl
  show KSs _ ([.sh (dv (planOf w_ c_)), .ow (olist ([] : List (RowB H))), .no, .no, .no] : List Ent) _ _
  refine ks_cons (s_forR1 (g_name (α := Int) 2 sc_lost_paper.nd rfl) T.nogl ?_)
  refine k_meth0 (num := 1) Crs.no_count T.cl_1 T.m_Course_count (ok_Course_count T) (hr.mono (by decide)) T.b_Course_count ?_
  refine k_fld (n := 2) Pl.course Pl.lk_course T.cl_2 T.na_course ?_
  refine k_var 0 rfl rfl ?_
  refine ⟨_, ⟨_, rfl, rfl⟩, Got.ok ?_⟩
  refine ⟨by omega, by omega, fun (i_ : Nat) e_ => e_ = ([.sh (dv (planOf w_ c_)), .ow (olist ((rowsTo (lostRow w_ c_) w_ i_).map (RowB.mk (B := H)))), .no, .no, .no] : List Ent) ∧ (True), ?_, ?_, ?_⟩
  · exact ⟨rfl, by first | trivial | rfl | simp⟩
  · rintro i_ _ for1_lt ⟨rfl, for1_i⟩
    refine turn_fgt ?_
    obtain ⟨number, number_e⟩ : ∃ v_ : Int, v_ = ((i_ : Nat) : Int) := ⟨_, rfl⟩
    refine at_int (i := 2) number_e ?_
    show KSs _ ([.sh (dv (planOf w_ c_)), .ow (olist ((rowsTo (lostRow w_ c_) w_ i_).map (RowB.mk (B := H)))), .sh (dv number), .no, .no] : List Ent) _ _
    refine ks_one (s_for (α := (Bool × Int)) (g_tup (ds := ds2) [3, 4] (pgs_cons (pg_name (i := 3) sc_lost_paper.nd rfl (by first | exact .inl rfl | exact .inr rfl)) (pgs_cons (pg_name (i := 4) sc_lost_paper.nd rfl (by first | exact .inl rfl | exact .inr rfl)) (pgs_nil))) (fun _ => rfl)) ?_)
    refine k_call (ok_gates T) (hr.mono (by decide)) T.g_gates T.k_gates T.b_gates ?_
    refine a_cons (α := Wk) ?_
    refine k_fld (n := 2) Pl.works Pl.lk_works T.cl_2 T.na_works ?_
    refine k_var 0 rfl rfl ?_
    refine a_nil ?_
    refine ⟨_, ⟨_, rfl, by first | assumption | omega, rfl⟩, Got.ok ?_⟩
    refine ⟨fun (j_ : Nat) e_ => e_ = ([.sh (dv (planOf w_ c_)), .ow (olist ((rowsTo (lostRow w_ c_) w_ i_ ++ ((gatesL w_).take j_).map (lostRow w_ c_ i_)).map (RowB.mk (B := H)))), .sh (dv number), .no, .no] : List Ent) ∧ (True), ?_, ?_, ?_⟩
    · exact ⟨by rw [List.take_zero, List.map_nil, List.append_nil], trivial⟩
    · rintro j_ it_for2 _ for2_at ⟨rfl, for2_i⟩
      refine turn_fgt ?_
      show KSs _ ([.sh (dv (planOf w_ c_)), .ow (olist ((rowsTo (lostRow w_ c_) w_ i_ ++ ((gatesL w_).take j_).map (lostRow w_ c_ i_)).map (RowB.mk (B := H)))), .sh (dv number), .sh (dv (Prod.fst it_for2)), .sh (dv (Prod.snd it_for2))] : List Ent) _ _
      replace for2_at : (gatesL w_)[j_]? = some it_for2 := for2_at
      have hg_ := mem_gates.mp (List.mem_of_getElem? for2_at)
      refine ks_one (s_app 1 rfl rfl (by have z1 := rowsTo_len (f := lostRow w_ c_) (w := w_) p1 (m := i_); have z2 := gates_len p1; have z3 := List.length_take_le' j_ (gatesL w_); have z4 := p2.2.1; rw [List.length_map, List.length_append, List.length_map]; omega) ?_)
      refine k_tup (α := RowB H) (ds := RowB.ds) ?_
      refine a_cons (α := Int) ?_
      refine k_var 2 rfl rfl ?_
      refine a_cons (α := Bool) ?_
      refine k_var 3 rfl rfl ?_
      refine a_cons (α := Int) ?_
      refine k_var 4 rfl rfl ?_
      refine a_cons (α := NewL H) ?_
      refine k_newL ?_
      refine kn_call (okN_stretches T) (hr.mono (by decide)) T.g_stretches T.k_stretches T.b_stretches ?_
      refine a_cons (α := List Int) ?_
      refine k_call (ok_lost_levels T) (hr.mono (by decide)) T.g_lost_levels T.k_lost_levels T.b_lost_levels ?_
      refine a_cons (α := Pl) ?_
      refine k_var 0 rfl rfl ?_
      refine a_cons (α := Int) ?_
      refine k_var 2 rfl rfl ?_
      refine a_cons (α := Bool) ?_
      refine k_var 3 rfl rfl ?_
      refine a_cons (α := Int) ?_
      refine k_var 4 rfl rfl ?_
      refine a_nil ?_
      refine ⟨_, ⟨_, _, i_, _, _, by rw [number_e], p1, p2, by omega, hg_, rfl⟩, Got.ok ?_⟩
      refine a_nil ?_
      refine ⟨_, ⟨_, rfl, lostL_len p1, rfl⟩, Got.ok ?_⟩
      refine a_nil ?_
      refine ⟨Nat.le_of_ble_eq_true rfl, ⟨⟨_, _, _, _⟩⟩, rfl, ?_⟩
      refine fun rows_app1 rows_app1_e => ?_
      have e_ : rows_app1 = (rowsTo (lostRow w_ c_) w_ i_ ++ ((gatesL w_).take (j_ + 1)).map (lostRow w_ c_ i_)).map (RowB.mk (B := H)) := by
        rw [rows_app1_e, take_at for2_at]
        simp only [List.map_append, List.append_assoc, List.map_cons, List.map_nil]
        first | rfl | (rw [number_e]; rfl)
      subst e_
      exact ⟨[3, 4], rfl, trivial⟩
    · rintro _ ⟨rfl, for2_d⟩
      exact ⟨[2], by rw [rowsTo_s, show List.take (gatesL (planOf w_ c_).works).length (gatesL w_) = gatesL w_ from List.take_length]; rfl, trivial⟩
  · rintro _ ⟨rfl, for1_d⟩
    show KSs _ ([.sh (dv (planOf w_ c_)), .ow (olist ((rowsTo (lostRow w_ c_) w_ (((c_.hours.length : Int)).toNat)).map (RowB.mk (B := H)))), .no, .no, .no] : List Ent) _ _
    refine ks_freeze 1 rfl ?_
    show KSs _ ([.sh (dv (planOf w_ c_)), .sh (dv ((rowsTo (lostRow w_ c_) w_ (((c_.hours.length : Int)).toNat)).map (RowB.mk (B := H)))), .no, .no, .no] : List Ent) _ _
    refine ks_one (s_retRows ?_)
    refine kn_call (okN_with_levels T) (hr.mono (by decide)) T.g_with_levels T.k_with_levels T.b_with_levels ?_
    refine a_cons (α := List (RowB H)) ?_
    refine k_var 1 rfl rfl ?_
    refine a_nil ?_
    refine ⟨_, ⟨H, _, rfl, by have z := rowsTo_len (f := lostRow w_ c_) (w := w_) p1 (m := ((c_.hours.length : Int)).toNat); rw [List.length_map]; omega, rfl⟩, Got.ok ?_⟩
    exact ⟨lostP w_ c_, (map_keep _).trans (by rw [Int.toNat_natCast]; rfl), _, rfl, rfl⟩
def S_law_actions : Pm := fun ds r => ∃ (w_ : Wk) (s_ : Stt), ds = [dv w_.l, dv s_] ∧ r = .ok (dv (actL w_ s_))
theorem ok_law_actions (T : Tx w K mg) : FnOk PP w K mg base (L2.CX PP w) 1 T.a_law_actions T.fd_law_actions ["works", "state"] (spOf K T.cls S_law_actions) := by
  refine fn_ok T.F_law_actions sc_law_actions (fun ds r h => by obtain ⟨w_, s_, rfl, _⟩ := h; rfl) fun cd A outer s H E hs ds r hr h => ?_
  obtain ⟨w_, s_, rfl, rfl⟩ := h
  show KSs _ ([.sh (dv w_.l), .sh (dv s_), .no] : List Ent) _ _
  refine ks_one (s_ret (α := List Bool) ?_)
  refine k_ofLc (q_lcT (α := Bool) (β := Bool) [("shut", 2)] sc_law_actions.nd (blkOk_by rfl) (Nat.le_of_ble_eq_true rfl) (fun F' ⟨s', H', C', cl', fp', hs', e'⟩ => by subst e'; exact g_name (α := Bool) 2 sc_law_actions.nd rfl) (by decide) (by intro i hi o; simp only [List.map_cons, List.map_nil, List.mem_cons, List.not_mem_nil, or_false] at hi; subst hi <;> intro z <;> cases z) ?_)
  refine k_tup (α := Tl Bool) (ds := fun t => dvs t.xs) ?_
  refine a_cons (α := Bool) ?_
  refine k_bl ?_
  refine a_cons (α := Bool) ?_
  refine k_bl ?_
  refine a_nil ?_
  refine ⟨Nat.le_of_ble_eq_true rfl, ⟨[_, _]⟩, rfl, ?_⟩
  refine ⟨Nat.le_of_ble_eq_true rfl, fun b => decide (b = s_.shut) || decide (s_.since = w_.rest), fun b => b, ?_, ?_, ?_⟩
  · rintro F' shut ⟨s', H', C', cl', fp', hs', rfl⟩ comp1_m
    show KT _ [.sh (dv w_.l), .sh (dv s_), .sh (dv shut)] _ _ _
    refine t_w ?_
    refine' w_orD _ ?_; rotate_left
    refine t_eq (α := Bool) ?_
    refine k_var 2 rfl rfl ?_
    refine k_ixT (α := Stt) (ds := Stt.ds) 1 Stt.shut (fun _ => rfl) rfl ?_
    refine k_var 1 rfl rfl ?_
    refine ⟨fun hb1 => ?_, ?_⟩
    · skip
      refine w_or1 ?_
      refine t_eq (α := Int) ?_
      refine k_ixT (α := Stt) (ds := Stt.ds) 2 Stt.since (fun _ => rfl) rfl ?_
      refine k_var 1 rfl rfl ?_
      refine k_ixL ?_
      refine k_var 0 rfl rfl ?_
      refine k_int ?_
      refine ⟨_, ⟨by decide, rfl⟩, ?_⟩
      exact rfl
    exact rfl
  · rintro F' shut ⟨s', H', C', cl', fp', hs', rfl⟩ comp1_m comp1_t
    show KE _ [.sh (dv w_.l), .sh (dv s_), .sh (dv shut)] _ _ _
    refine k_var 2 rfl rfl ?_
    exact rfl
  show (_ : Rz) = _
  exact (by rw [List.map_id'' ] <;> first | rfl | (intro x; rfl))
def S_law_keeps : Pm := fun ds r => ∃ (w_ : Wk) (h_ : Hr) (s_ : Stt) (b_ : Bool) (S_ : List Stt), ds = [dv w_.l, dv h_, dv s_, dv b_, dv (setD S_)] ∧ (w_.Ok) ∧ (h_.Ok) ∧ (s_.Ok w_) ∧ r = .ok (dv (keepsB w_ h_ s_ b_ S_))
theorem ok_law_keeps (T : Tx w K mg) : FnOk PP w K mg base (L2.CX PP w) 3 T.a_law_keeps T.fd_law_keeps ["works", "hour", "state", "shut", "after"] (spOf K T.cls S_law_keeps) := by
  refine fn_ok T.F_law_keeps sc_law_keeps (fun ds r h => by obtain ⟨w_, h_, s_, b_, S_, rfl, _⟩ := h; rfl) fun cd A outer s H E hs ds r hr h => ?_
  obtain ⟨w_, h_, s_, b_, S_, rfl, p1, p2, p3, rfl⟩ := h
  show KSs _ ([.sh (dv w_.l), .sh (dv h_), .sh (dv s_), .sh (dv b_), .sh (dv (setD S_)), .no] : List Ent) _ _
  refine ks_cons (s_for (α := Int) (g_name (α := Int) 5 sc_law_keeps.nd rfl) ?_)
  refine k_call (ok_law_levels T) (hr.mono (by decide)) T.g_law_levels T.k_law_levels T.b_law_levels ?_
  refine a_cons (α := List Int) ?_
  refine k_var 0 rfl rfl ?_
  refine a_cons (α := Hr) ?_
  refine k_var 1 rfl rfl ?_
  refine a_cons (α := Stt) ?_
  refine k_var 2 rfl rfl ?_
  refine a_cons (α := Bool) ?_
  refine k_var 3 rfl rfl ?_
  refine a_nil ?_
  refine ⟨_, ⟨_, _, _, _, rfl, by first | assumption | omega, by first | assumption | omega, by first | assumption | omega, rfl⟩, Got.ok ?_⟩
  refine ⟨fun (i_ : Nat) e_ => e_ = ([.sh (dv w_.l), .sh (dv h_), .sh (dv s_), .sh (dv b_), .sh (dv (setD S_)), .no] : List Ent) ∧ (((lvls w_ h_ s_ b_).take i_).all (fun l => goodL w_ h_ b_ l && decide ((⟨l, b_, lSince w_ s_ b_⟩ : Stt) ∈ S_)) = true), ?_, ?_, ?_⟩
  · exact ⟨rfl, rfl⟩
  · rintro i_ level _ for1_at ⟨rfl, for1_i⟩
    refine turn_fgt ?_
    show KSs _ ([.sh (dv w_.l), .sh (dv h_), .sh (dv s_), .sh (dv b_), .sh (dv (setD S_)), .sh (dv level)] : List Ent) _ _
    refine ks_one (s_if ?_)
    refine t_w ?_
    refine' w_orD _ ?_; rotate_left
    refine t_not ?_
    refine t_val ?_
    refine k_call (ok_law_good T) (hr.mono (by decide)) T.g_law_good T.k_law_good T.b_law_good ?_
    refine a_cons (α := List Int) ?_
    refine k_var 0 rfl rfl ?_
    refine a_cons (α := Hr) ?_
    refine k_var 1 rfl rfl ?_
    refine a_cons (α := Bool) ?_
    refine k_var 3 rfl rfl ?_
    refine a_cons (α := Int) ?_
    refine k_var 5 rfl rfl ?_
    refine a_nil ?_
    refine ⟨_, ⟨_, _, _, _, rfl, rfl⟩, Got.ok ?_⟩
    refine ⟨fun hb1 => ?_, ?_⟩
    · skip
      refine w_or1 ?_
      refine t_notinD (κ := Stt) (β := Bool) hr.units ?_
      refine k_tup (α := Stt) (ds := Stt.ds) ?_
      refine a_cons (α := Int) ?_
      refine k_var 5 rfl rfl ?_
      refine a_cons (α := Bool) ?_
      refine k_var 3 rfl rfl ?_
      refine a_cons (α := Int) ?_
      refine k_call (ok_law_since T) (hr.mono (by decide)) T.g_law_since T.k_law_since T.b_law_since ?_
      refine a_cons (α := List Int) ?_
      refine k_var 0 rfl rfl ?_
      refine a_cons (α := Stt) ?_
      refine k_var 2 rfl rfl ?_
      refine a_cons (α := Bool) ?_
      refine k_var 3 rfl rfl ?_
      refine a_nil ?_
      refine ⟨_, ⟨_, _, _, rfl, rfl⟩, Got.ok ?_⟩
      refine a_nil ?_
      refine ⟨Nat.le_of_ble_eq_true rfl, ⟨_, _, _⟩, rfl, ?_⟩
      refine k_var 4 rfl rfl ?_
      exact rfl
    refine ifB (fun h1 => ?_) (fun h1 => ?_)
    · skip
      refine ks_one (s_ret (α := Bool) ?_)
      refine k_bl ?_
      show (_ : Rz) = _
      exact (by rw [setD_fst] at h1; unfold keepsB; rw [keep_no (List.mem_of_getElem? for1_at) h1])
    · skip
      refine ks_nil ?_
      rw [setD_fst] at h1
      exact ⟨[5], rfl, by rw [take_at for1_at, List.all_append, for1_i, Bool.true_and, List.all_cons, List.all_nil, Bool.and_true]; exact keep_yes h1⟩
  · rintro _ ⟨rfl, for1_d⟩
    rw [List.take_length] at for1_d
    show KSs _ ([.sh (dv w_.l), .sh (dv h_), .sh (dv s_), .sh (dv b_), .sh (dv (setD S_)), .no] : List Ent) _ _
    refine ks_one (s_ret (α := Bool) ?_)
    refine k_bl ?_
    show (_ : Rz) = _
    exact (by unfold keepsB; rw [for1_d])
def S_law_kept : Pm := fun ds r => ∃ (w_ : Wk) (hs_ : List Hr), ds = [dv w_.l, dv hs_] ∧ (w_.Ok) ∧ (∀ h ∈ hs_, h.Ok) ∧ (hs_.length ≤ 72) ∧ r = .ok (dv (keptTabs w_ hs_))
theorem ok_law_kept (T : Tx w K mg) : FnOk PP w K mg base (L2.CX PP w) 4 T.a_law_kept T.fd_law_kept ["works", "hours"] (spOf K T.cls S_law_kept) := by
  refine fn_ok T.F_law_kept sc_law_kept (fun ds r h => by obtain ⟨w_, hs_, rfl, _⟩ := h; rfl) fun cd A outer s H E hs ds r hr h => ?_
  obtain ⟨w_, hs_, rfl, p1, p2, p3, rfl⟩ := h
  have sl_ := states40_len p1
  show KSs _ ([.sh (dv w_.l), .sh (dv hs_), .no, .no, .no, .no, .no, .no] : List Ent) _ _
  refine ks_cons (s_newD (κ := Stt) (β := Bool) 2 sc_law_kept.nd rfl (Nat.le_of_ble_eq_true rfl) ?_)
  show KSs _ ([.sh (dv w_.l), .sh (dv hs_), .ow (odict ([] : List (Stt × Bool))), .no, .no, .no, .no, .no] : List Ent) _ _
  refine ks_cons (s_for (α := Stt) (g_name (α := Stt) 3 sc_law_kept.nd rfl) ?_)
  refine k_call (ok_law_states T) (hr.mono (by decide)) T.g_law_states T.k_law_states T.b_law_states ?_
  refine a_cons (α := List Int) ?_
  refine k_var 0 rfl rfl ?_
  refine a_nil ?_
  refine ⟨_, ⟨_, rfl, by first | assumption | omega, rfl⟩, Got.ok ?_⟩
  refine ⟨fun (j_ : Nat) e_ => e_ = ([.sh (dv w_.l), .sh (dv hs_), .ow (odict (((states40 w_).take j_).map fun s => (s, true))), .no, .no, .no, .no, .no] : List Ent) ∧ (True), ?_, ?_, ?_⟩
  · exact ⟨rfl, trivial⟩
  · rintro j_ state _ for1_at ⟨rfl, for1_i⟩
    refine turn_fgt ?_
    show KSs _ ([.sh (dv w_.l), .sh (dv hs_), .ow (odict (((states40 w_).take j_).map fun s => (s, true))), .sh (dv state), .no, .no, .no, .no] : List Ent) _ _
    refine ks_one (s_setD (κ := Stt) (β := Bool) 2 hr.units rfl rfl ?_)
    refine k_bl ?_
    refine k_var 3 rfl rfl ?_
    refine ⟨⟨by rw [fst_true]; exact take_new (states40_nd w_) for1_at, by rw [List.length_map]; exact Nat.lt_of_le_of_lt (List.length_take_le' _ _) (by omega)⟩, ?_⟩
    refine fun last_six1 last_six1_e => ?_
    exact ⟨[3], by rw [last_six1_e, take_at for1_at, List.map_append]; rfl, trivial⟩
  · rintro _ ⟨rfl, for1_d⟩
    show KSs _ ([.sh (dv w_.l), .sh (dv hs_), .ow (odict (((states40 w_).take ((states40 w_).length)).map fun s => (s, true))), .no, .no, .no, .no, .no] : List Ent) _ _
    refine ks_freezeD 2 rfl ?_
    show KSs _ ([.sh (dv w_.l), .sh (dv hs_), .sh (dv (Dic.mk (((states40 w_).take ((states40 w_).length)).map fun s => (s, true)))), .no, .no, .no, .no, .no] : List Ent) _ _
    refine ks_cons (s_let (α := List (Dic Stt Bool)) 4 sc_law_kept.nd rfl ?_)
    refine k_lst (α := List (Dic Stt Bool)) (ds := dvs) ?_
    refine a_cons (α := Dic Stt Bool) ?_
    refine k_var 2 rfl rfl ?_
    refine a_nil ?_
    refine ⟨Nat.le_of_ble_eq_true rfl, [_], rfl, ?_⟩
    refine fun tables tables_e => ?_
    have tb_ : tables = keptTabs w_ (hs_.drop (hs_.length - 0)) := by rw [tables_e, List.take_length, Nat.sub_zero, List.drop_length]; rfl
    clear tables_e
    subst tb_
    show KSs _ ([.sh (dv w_.l), .sh (dv hs_), .sh (dv (Dic.mk (((states40 w_).take ((states40 w_).length)).map fun s => (s, true)))), .no, .sh (dv (keptTabs w_ (hs_.drop (hs_.length - 0)))), .no, .no, .no] : List Ent) _ _
    refine ks_cons (s_forV (α := Hr) (g_name (α := Hr) 5 sc_law_kept.nd rfl) T.nogl ?_)
    refine k_var 1 rfl rfl ?_
    refine ⟨fun (i_ : Nat) e_ => e_ = ([.sh (dv w_.l), .sh (dv hs_), .sh (dv (Dic.mk (((states40 w_).take ((states40 w_).length)).map fun s => (s, true)))), .no, .sh (dv (keptTabs w_ (hs_.drop (hs_.length - i_)))), .no, .no, .no] : List Ent) ∧ (True), ?_, ?_, ?_⟩
    · exact ⟨rfl, by first | trivial | rfl | simp⟩
    · rintro i_ hour _ for2_at ⟨rfl, for2_i⟩
      refine turn_fgt ?_
      show KSs _ ([.sh (dv w_.l), .sh (dv hs_), .sh (dv (Dic.mk (((states40 w_).take ((states40 w_).length)).map fun s => (s, true)))), .no, .sh (dv (keptTabs w_ (hs_.drop (hs_.length - i_)))), .sh (dv hour), .no, .no] : List Ent) _ _
      have li_ : i_ < hs_.length := by have := (List.getElem?_eq_some_iff.mp for2_at).1; rw [List.length_reverse] at this; exact this
      have hh_ : hs_[hs_.length - 1 - i_]? = some hour := by rw [List.getElem?_reverse li_] at for2_at; exact for2_at
      have ho_ := p2 _ (List.mem_of_getElem? hh_)
      have kl_ := keptTabs_len (w := w_) (hs := hs_.drop (hs_.length - i_))
      rw [List.length_drop] at kl_
      refine ks_cons (s_newD (κ := Stt) (β := Bool) 6 sc_law_kept.nd rfl (Nat.le_of_ble_eq_true rfl) ?_)
      show KSs _ ([.sh (dv w_.l), .sh (dv hs_), .sh (dv (Dic.mk (((states40 w_).take ((states40 w_).length)).map fun s => (s, true)))), .no, .sh (dv (keptTabs w_ (hs_.drop (hs_.length - i_)))), .sh (dv hour), .ow (odict ([] : List (Stt × Bool))), .no] : List Ent) _ _
      refine ks_cons (s_for (α := Stt) (g_name (α := Stt) 3 sc_law_kept.nd rfl) ?_)
      refine k_call (ok_law_states T) (hr.mono (by decide)) T.g_law_states T.k_law_states T.b_law_states ?_
      refine a_cons (α := List Int) ?_
      refine k_var 0 rfl rfl ?_
      refine a_nil ?_
      refine ⟨_, ⟨_, rfl, by first | assumption | omega, rfl⟩, Got.ok ?_⟩
      refine ⟨fun (j_ : Nat) e_ => e_ = ([.sh (dv w_.l), .sh (dv hs_), .sh (dv (Dic.mk (((states40 w_).take ((states40 w_).length)).map fun s => (s, true)))), .no, .sh (dv (keptTabs w_ (hs_.drop (hs_.length - i_)))), .sh (dv hour), .ow (odict ((((states40 w_).take j_).filter (keepT w_ hour (keptS w_ (hs_.drop (hs_.length - i_))))).map fun s => (s, true))), .no] : List Ent) ∧ (True), ?_, ?_, ?_⟩
      · exact ⟨rfl, trivial⟩
      · rintro j_ state _ for3_at ⟨rfl, for3_i⟩
        refine turn_fgt ?_
        show KSs _ ([.sh (dv w_.l), .sh (dv hs_), .sh (dv (Dic.mk (((states40 w_).take ((states40 w_).length)).map fun s => (s, true)))), .sh (dv state), .sh (dv (keptTabs w_ (hs_.drop (hs_.length - i_)))), .sh (dv hour), .ow (odict ((((states40 w_).take j_).filter (keepT w_ hour (keptS w_ (hs_.drop (hs_.length - i_))))).map fun s => (s, true))), .no] : List Ent) _ _
        have so_ := mem_states40.mp (List.mem_of_getElem? for3_at)
        refine ks_one (s_if ?_)
        refine t_neD (α := List Bool) hr.units ?_
        refine k_ofLc (q_lc (α := Bool) (β := Bool) [("shut", 7)] sc_law_kept.nd (blkOk_by rfl) (Nat.le_of_ble_eq_true rfl) (fun F' ⟨s', H', C', cl', fp', hs', e'⟩ => by subst e'; exact g_name (α := Bool) 7 sc_law_kept.nd rfl) (by decide) (by intro i hi o; simp only [List.map_cons, List.map_nil, List.mem_cons, List.not_mem_nil, or_false] at hi; subst hi <;> intro z <;> cases z) ?_)
        refine k_call (ok_law_actions T) (hr.mono (by decide)) T.g_law_actions T.k_law_actions T.b_law_actions ?_
        refine a_cons (α := List Int) ?_
        refine k_var 0 rfl rfl ?_
        refine a_cons (α := Stt) ?_
        refine k_var 3 rfl rfl ?_
        refine a_nil ?_
        refine ⟨_, ⟨_, _, rfl, rfl⟩, Got.ok ?_⟩
        refine ⟨Nat.le_trans (List.length_filter_le _ _) (Nat.le_of_ble_eq_true rfl), fun b => keepsB w_ hour state b (keptS w_ (hs_.drop (hs_.length - i_))), fun b => b, ?_, ?_, ?_⟩
        · rintro F' shut ⟨s', H', C', cl', fp', hs', rfl⟩ comp1_m
          show KT _ [.sh (dv w_.l), .sh (dv hs_), .sh (dv (Dic.mk (((states40 w_).take ((states40 w_).length)).map fun s => (s, true)))), .sh (dv state), .sh (dv (keptTabs w_ (hs_.drop (hs_.length - i_)))), .sh (dv hour), .ow (odict ((((states40 w_).take j_).filter (keepT w_ hour (keptS w_ (hs_.drop (hs_.length - i_))))).map fun s => (s, true))), .sh (dv shut)] _ _ _
          refine t_val ?_
          refine k_call (ok_law_keeps T) (hr.mono (by decide)) T.g_law_keeps T.k_law_keeps T.b_law_keeps ?_
          refine a_cons (α := List Int) ?_
          refine k_var 0 rfl rfl ?_
          refine a_cons (α := Hr) ?_
          refine k_var 5 rfl rfl ?_
          refine a_cons (α := Stt) ?_
          refine k_var 3 rfl rfl ?_
          refine a_cons (α := Bool) ?_
          refine k_var 7 rfl rfl ?_
          refine a_cons (α := Dic Stt Bool) ?_
          refine k_ixL ?_
          refine k_var 4 rfl rfl ?_
          refine k_int ?_
          refine ⟨_, ⟨by decide, keptTabs_first⟩, ?_⟩
          refine a_nil ?_
          refine ⟨_, ⟨_, _, _, _, _, rfl, p1, ho_, so_, rfl⟩, Got.ok ?_⟩
          exact rfl
        · rintro F' shut ⟨s', H', C', cl', fp', hs', rfl⟩ comp1_m comp1_t
          show KE _ [.sh (dv w_.l), .sh (dv hs_), .sh (dv (Dic.mk (((states40 w_).take ((states40 w_).length)).map fun s => (s, true)))), .sh (dv state), .sh (dv (keptTabs w_ (hs_.drop (hs_.length - i_)))), .sh (dv hour), .ow (odict ((((states40 w_).take j_).filter (keepT w_ hour (keptS w_ (hs_.drop (hs_.length - i_))))).map fun s => (s, true))), .sh (dv shut)] _ _ _
          refine k_var 7 rfl rfl ?_
          exact rfl
        refine k_lst (α := List Bool) (ds := dvs) ?_
        refine a_nil ?_
        refine ⟨Nat.le_of_ble_eq_true rfl, ([] : List Bool), rfl, ?_⟩
        refine ifND (fun h1 => ?_) (fun h1 => ?_)
        · skip
          refine ks_one (s_setD (κ := Stt) (β := Bool) 6 hr.units rfl rfl ?_)
          refine k_bl ?_
          refine k_var 3 rfl rfl ?_
          refine ⟨⟨by rw [fst_true]; exact fun z => take_new (states40_nd w_) for3_at (List.mem_filter.mp z).1, by rw [List.length_map]; exact Nat.lt_of_le_of_lt (Nat.le_trans (List.length_filter_le _ _) (List.length_take_le' _ _)) (by omega)⟩, ?_⟩
          refine fun row_six2 row_six2_e => ?_
          exact ⟨[3], by rw [row_six2_e, take_at for3_at, List.filter_append, List.filter_cons, if_pos (keepT_yes h1), List.filter_nil, List.map_append]; rfl, trivial⟩
        · skip
          refine ks_nil ?_
          exact ⟨[3], by rw [take_at for3_at, List.filter_append, List.filter_cons, if_neg (by rw [keepT_no h1]; decide), List.filter_nil, List.append_nil]; rfl, trivial⟩
      · rintro _ ⟨rfl, for3_d⟩
        show KSs _ ([.sh (dv w_.l), .sh (dv hs_), .sh (dv (Dic.mk (((states40 w_).take ((states40 w_).length)).map fun s => (s, true)))), .no, .sh (dv (keptTabs w_ (hs_.drop (hs_.length - i_)))), .sh (dv hour), .ow (odict ((((states40 w_).take ((states40 w_).length)).filter (keepT w_ hour (keptS w_ (hs_.drop (hs_.length - i_))))).map fun s => (s, true))), .no] : List Ent) _ _
        refine ks_freezeD 6 rfl ?_
        show KSs _ ([.sh (dv w_.l), .sh (dv hs_), .sh (dv (Dic.mk (((states40 w_).take ((states40 w_).length)).map fun s => (s, true)))), .no, .sh (dv (keptTabs w_ (hs_.drop (hs_.length - i_)))), .sh (dv hour), .sh (dv (Dic.mk ((((states40 w_).take ((states40 w_).length)).filter (keepT w_ hour (keptS w_ (hs_.drop (hs_.length - i_))))).map fun s => (s, true)))), .no] : List Ent) _ _
        refine ks_one (s_let (α := List (Dic Stt Bool)) 4 sc_law_kept.nd rfl ?_)
        refine k_cat ?_
        refine k_lst (α := List (Dic Stt Bool)) (ds := dvs) ?_
        refine a_cons (α := Dic Stt Bool) ?_
        refine k_var 6 rfl rfl ?_
        refine a_nil ?_
        refine ⟨Nat.le_of_ble_eq_true rfl, [_], rfl, ?_⟩
        refine k_var 4 rfl rfl ?_
        refine ⟨by rw [kl_]; show 1 + _ ≤ _; omega, ?_⟩
        refine fun tables tables_e2 => ?_
        have tb2_ : tables = keptTabs w_ (hs_.drop (hs_.length - (i_ + 1))) := by rw [tables_e2, List.take_length, kept_step hh_ li_]; rfl
        exact ⟨[6, 5], by rw [tb2_]; rfl, trivial⟩
    · rintro _ ⟨rfl, for2_d⟩
      show KSs _ ([.sh (dv w_.l), .sh (dv hs_), .sh (dv (Dic.mk (((states40 w_).take ((states40 w_).length)).map fun s => (s, true)))), .no, .sh (dv (keptTabs w_ (hs_.drop (hs_.length - (hs_.reverse.length))))), .no, .no, .no] : List Ent) _ _
      refine ks_one (s_ret (α := List (Dic Stt Bool)) ?_)
      refine k_var 4 rfl rfl ?_
      show (_ : Rz) = _
      exact (by rw [List.length_reverse, Nat.sub_self]; rfl)
def S_law_stretches : Pm := fun ds r => ∃ (ls_ : List Int), ds = [dv ls_] ∧ (ls_.length ≤ 90000) ∧ (ls_.Pairwise (· < ·)) ∧ r = .ok (dv (stretch ls_))
theorem ok_law_stretches (T : Tx w K mg) : FnOk PP w K mg base (L2.CX PP w) 1 T.a_law_stretches T.fd_law_stretches ["levels"] (spOf K T.cls S_law_stretches) := by
  refine fn_ok T.F_law_stretches sc_law_stretches (fun ds r h => by obtain ⟨ls_, rfl, _⟩ := h; rfl) fun cd A outer s H E hs ds r hr h => ?_
  obtain ⟨ls_, rfl, p1, p2, rfl⟩ := h
  show KSs _ ([.sh (dv ls_), .no, .no] : List Ent) _ _
  refine ks_cons (s_new (α := (Int × Int)) 1 sc_law_stretches.nd rfl (Nat.le_of_ble_eq_true rfl) ?_)
  refine a_nil ?_
  refine ⟨Nat.le_of_ble_eq_true rfl, ([] : List (Int × Int)), rfl, ?_⟩
  rintro _ rfl
  show KSs _ ([.sh (dv ls_), .ow (olist ([] : List (Int × Int))), .no] : List Ent) _ _
  refine ks_cons (s_for (α := Int) (g_name (α := Int) 2 sc_law_stretches.nd rfl) ?_)
  refine k_sorted T.nogl ?_
  refine k_var 0 rfl rfl ?_
  refine fun sorted1_ sorted1_p sorted1_s => ?_
  have se_ := sort_asc sorted1_p sorted1_s p2
  refine ⟨fun (i_ : Nat) e_ => e_ = ([.sh (dv ls_), .ow (olist (stretch (ls_.take i_))), .no] : List Ent) ∧ (True), ?_, ?_, ?_⟩
  · exact ⟨rfl, by first | trivial | rfl | simp⟩
  · rintro i_ level _ for1_at ⟨rfl, for1_i⟩
    refine turn_fgt ?_
    show KSs _ ([.sh (dv ls_), .ow (olist (stretch (ls_.take i_))), .sh (dv level)] : List Ent) _ _
    rw [se_] at for1_at
    have sl_ := stretch_len (ls_.take i_)
    rw [List.length_take] at sl_
    have la_ := asc_last p2 for1_at
    refine ks_one (s_if ?_)
    refine t_inI ?_
    refine k_sub ?_
    refine k_var 2 rfl rfl ?_
    refine k_int ?_
    refine k_var 0 rfl rfl ?_
    refine ifB (fun h1 => ?_) (fun h1 => ?_)
    · skip
      have h1' : lastIs (stretch (ls_.take i_)) level = true := by rw [← la_]; exact h1
      obtain ⟨p_, pl_, pe_⟩ : ∃ p : Int × Int, (stretch (ls_.take i_)).getLast? = some p ∧ p.2 = level := by
        unfold lastIs at h1'
        cases e : (stretch (ls_.take i_)).getLast? with
        | some p => rw [e] at h1'; exact ⟨p, rfl, of_decide_eq_true h1'⟩
        | none => rw [e] at h1'; cases h1'
      refine ks_one (s_setLast (α := (Int × Int)) 1 rfl rfl ?_)
      refine k_tup (α := (Int × Int)) (ds := ds2) ?_
      refine a_cons (α := Int) ?_
      refine k_ixT (α := (Int × Int)) (ds := ds2) 0 Prod.fst (fun _ => rfl) rfl ?_
      refine k_ownLast (α := (Int × Int)) 1 rfl rfl ?_
      refine ⟨_, pl_, ?_⟩
      refine a_cons (α := Int) ?_
      refine k_add ?_
      refine k_var 2 rfl rfl ?_
      refine k_int ?_
      refine a_nil ?_
      refine ⟨Nat.le_of_ble_eq_true rfl, ⟨p_.1, level + 1⟩, rfl, ?_⟩
      refine ⟨(by intro z; rw [z] at pl_; cases pl_), ?_⟩
      refine fun rows_six1 rows_six1_e => ?_
      exact ⟨[2], by rw [stretch_s for1_at, strS_t pl_ pe_, rows_six1_e]; rfl, trivial⟩
    · skip
      have lf_ : lastIs (stretch (ls_.take i_)) level = false := by rw [← la_]; exact h1
      refine ks_one (s_app 1 rfl rfl (by omega) ?_)
      refine k_tup (α := (Int × Int)) (ds := ds2) ?_
      refine a_cons (α := Int) ?_
      refine k_var 2 rfl rfl ?_
      refine a_cons (α := Int) ?_
      refine k_add ?_
      refine k_var 2 rfl rfl ?_
      refine k_int ?_
      refine a_nil ?_
      refine ⟨Nat.le_of_ble_eq_true rfl, ⟨_, _⟩, rfl, ?_⟩
      refine fun rows_app1 rows_app1_e => ?_
      exact ⟨[2], by rw [stretch_s for1_at, strS_f (by rw [lf_, Bool.and_false]), rows_app1_e]; rfl, trivial⟩
  · rintro _ ⟨rfl, for1_d⟩
    rw [se_]
    show KSs _ ([.sh (dv ls_), .ow (olist (stretch (ls_.take (ls_.length)))), .no] : List Ent) _ _
    refine ks_freeze 1 rfl ?_
    show KSs _ ([.sh (dv ls_), .sh (dv (stretch (ls_.take (ls_.length)))), .no] : List Ent) _ _
    refine ks_one (s_ret (α := List (Int × Int)) ?_)
    refine k_var 1 rfl rfl ?_
    show (_ : Rz) = _
    exact (by rw [List.take_length])
def S_law_rows : Pm := fun ds r => ∃ (w_ : Wk) (hs_ : List Hr) (n_ : Nat) (b_ : Bool), ds = [dv w_.l, dv (keptTabs w_ hs_), dv (n_ : Int), dv b_] ∧ (w_.Ok) ∧ (n_ ≤ hs_.length + 1) ∧ (hs_.length ≤ 72) ∧ r = .ok (dv ((rowsTo (lawRow w_ hs_ b_) w_ n_).filter hasSp))
theorem ok_law_rows (T : Tx w K mg) : FnOk PP w K mg base (L2.CX PP w) 2 T.a_law_rows T.fd_law_rows ["works", "tables", "count", "is_kept"] (spOf K T.cls S_law_rows) := by
  refine fn_ok T.F_law_rows sc_law_rows (fun ds r h => by obtain ⟨w_, hs_, n_, b_, rfl, _⟩ := h; rfl) fun cd A outer s H E hs ds r hr h => ?_
  obtain ⟨w_, hs_, n_, b_, rfl, p1, p2, p3, rfl⟩ := h
  have p1' := p1
  unfold Wk.Ok at p1'
  show KSs _ ([.sh (dv w_.l), .sh (dv (keptTabs w_ hs_)), .sh (dv (n_ : Int)), .sh (dv b_), .no, .no, .no, .no, .no, .no] : List Ent) _ _
  refine ks_cons (s_new (α := Row) 4 sc_law_rows.nd rfl (Nat.le_of_ble_eq_true rfl) ?_)
  refine a_nil ?_
  refine ⟨Nat.le_of_ble_eq_true rfl, ([] : List Row), rfl, ?_⟩
  rintro _ rfl
  show KSs _ ([.sh (dv w_.l), .sh (dv (keptTabs w_ hs_)), .sh (dv (n_ : Int)), .sh (dv b_), .ow (olist ([] : List Row)), .no, .no, .no, .no, .no] : List Ent) _ _
  refine ks_cons (s_forR1 (g_name (α := Int) 5 sc_law_rows.nd rfl) T.nogl ?_)
  refine k_var 2 rfl rfl ?_
  refine ⟨by omega, by omega, fun (i_ : Nat) e_ => e_ = ([.sh (dv w_.l), .sh (dv (keptTabs w_ hs_)), .sh (dv (n_ : Int)), .sh (dv b_), .ow (olist ((rowsTo (lawRow w_ hs_ b_) w_ i_).filter hasSp)), .no, .no, .no, .no, .no] : List Ent) ∧ (True), ?_, ?_, ?_⟩
  · exact ⟨rfl, trivial⟩
  · rintro i_ _ for1_lt ⟨rfl, for1_i⟩
    refine turn_fgt ?_
    obtain ⟨k, k_e⟩ : ∃ v_ : Int, v_ = ((i_ : Nat) : Int) := ⟨_, rfl⟩
    refine at_int (i := 5) k_e ?_
    show KSs _ ([.sh (dv w_.l), .sh (dv (keptTabs w_ hs_)), .sh (dv (n_ : Int)), .sh (dv b_), .ow (olist ((rowsTo (lawRow w_ hs_ b_) w_ i_).filter hasSp)), .sh (dv k), .no, .no, .no, .no] : List Ent) _ _
    subst k_e
    have rl_ := Nat.le_trans (List.length_filter_le hasSp (rowsTo (lawRow w_ hs_ b_) w_ i_)) (rowsTo_len p1)
    show KSs _ ([.sh (dv w_.l), .sh (dv (keptTabs w_ hs_)), .sh (dv (n_ : Int)), .sh (dv b_), .ow (olist ((rowsTo (lawRow w_ hs_ b_) w_ i_).filter hasSp)), .sh (dv ((i_ : Nat) : Int)), .no, .no, .no, .no] : List Ent) _ _
    refine ks_one (s_forT (α := Bool) (g_name (α := Bool) 6 sc_law_rows.nd rfl) ?_)
    refine k_tup (α := Tl Bool) (ds := fun t => dvs t.xs) ?_
    refine a_cons (α := Bool) ?_
    refine k_bl ?_
    refine a_cons (α := Bool) ?_
    refine k_bl ?_
    refine a_nil ?_
    refine ⟨Nat.le_of_ble_eq_true rfl, ⟨[_, _]⟩, rfl, ?_⟩
    refine ⟨fun (j_ : Nat) e_ => e_ = ([.sh (dv w_.l), .sh (dv (keptTabs w_ hs_)), .sh (dv (n_ : Int)), .sh (dv b_), .ow (olist (((rowsTo (lawRow w_ hs_ b_) w_ i_).filter hasSp) ++ (((List.take j_ [false, true]).flatMap fun x : Bool => (span 1 (w_.rest + 1)).map fun s => (x, s)).map (lawRow w_ hs_ b_ i_)).filter hasSp)), .sh (dv ((i_ : Nat) : Int)), .no, .no, .no, .no] : List Ent) ∧ (True), ?_, ?_, ?_⟩
    · exact ⟨by rw [List.take_zero]; simp, trivial⟩
    · rintro j_ shut _ for2_at ⟨rfl, for2_i⟩
      refine turn_fgt ?_
      show KSs _ ([.sh (dv w_.l), .sh (dv (keptTabs w_ hs_)), .sh (dv (n_ : Int)), .sh (dv b_), .ow (olist (((rowsTo (lawRow w_ hs_ b_) w_ i_).filter hasSp) ++ (((List.take j_ [false, true]).flatMap fun x : Bool => (span 1 (w_.rest + 1)).map fun s => (x, s)).map (lawRow w_ hs_ b_ i_)).filter hasSp)), .sh (dv ((i_ : Nat) : Int)), .sh (dv shut), .no, .no, .no] : List Ent) _ _
      refine ks_one (s_forR2 (g_name (α := Int) 7 sc_law_rows.nd rfl) T.nogl ?_)
      refine k_int ?_
      refine k_add ?_
      refine k_ixL ?_
      refine k_var 0 rfl rfl ?_
      refine k_int ?_
      refine ⟨_, ⟨by decide, rfl⟩, ?_⟩
      refine k_int ?_
      refine ⟨by omega, fun (m_ : Nat) e_ => e_ = ([.sh (dv w_.l), .sh (dv (keptTabs w_ hs_)), .sh (dv (n_ : Int)), .sh (dv b_), .ow (olist (((rowsTo (lawRow w_ hs_ b_) w_ i_).filter hasSp) ++ (((List.take j_ [false, true]).flatMap fun x : Bool => (span 1 (w_.rest + 1)).map fun s => (x, s)).map (lawRow w_ hs_ b_ i_)).filter hasSp ++ (((span 1 (1 + ((m_ : Nat) : Int))).map fun s => (shut, s)).map (lawRow w_ hs_ b_ i_)).filter hasSp)), .sh (dv ((i_ : Nat) : Int)), .sh (dv shut), .no, .no, .no] : List Ent) ∧ (True), ?_, ?_, ?_⟩
      · exact ⟨by rw [show span 1 (1 + ((0 : Nat) : Int)) = [] from rfl]; simp, trivial⟩
      · rintro m_ _ for3_lt ⟨rfl, for3_i⟩
        refine turn_fgt ?_
        obtain ⟨since, since_e⟩ : ∃ v_ : Int, v_ = (1 + ((m_ : Nat) : Int)) := ⟨_, rfl⟩
        refine at_int (i := 7) since_e ?_
        show KSs _ ([.sh (dv w_.l), .sh (dv (keptTabs w_ hs_)), .sh (dv (n_ : Int)), .sh (dv b_), .ow (olist (((rowsTo (lawRow w_ hs_ b_) w_ i_).filter hasSp) ++ (((List.take j_ [false, true]).flatMap fun x : Bool => (span 1 (w_.rest + 1)).map fun s => (x, s)).map (lawRow w_ hs_ b_ i_)).filter hasSp ++ (((span 1 (1 + ((m_ : Nat) : Int))).map fun s => (shut, s)).map (lawRow w_ hs_ b_ i_)).filter hasSp)), .sh (dv ((i_ : Nat) : Int)), .sh (dv shut), .sh (dv since), .no, .no] : List Ent) _ _
        have ss_ : span 1 (1 + ((m_ + 1 : Nat) : Int)) = span 1 (1 + (m_ : Int)) ++ [since] := by rw [since_e, show (1 : Int) + ((m_ + 1 : Nat) : Int) = 1 + (m_ : Int) + 1 from by omega, span_s (by omega)]
        refine ks_cons (s_letLc 8 rfl (q_lcR1 (β := Int) [("level", 9)] sc_law_rows.nd T.nogl (blkOk_by rfl) (Nat.le_of_ble_eq_true rfl) (fun F' ⟨s', H', C', cl', fp', hs', e'⟩ => by subst e'; exact g_name (α := Int) 9 sc_law_rows.nd rfl) (by decide) (by intro i hi o; simp only [List.map_cons, List.map_nil, List.mem_cons, List.not_mem_nil, or_false] at hi; subst hi <;> intro z <;> cases z) ?_))
        refine k_add ?_
        refine k_ixL ?_
        refine k_var 0 rfl rfl ?_
        refine k_int ?_
        refine ⟨_, ⟨by decide, rfl⟩, ?_⟩
        refine k_int ?_
        refine ⟨by omega, fun l => decide (decide ((⟨l, shut, since⟩ : Stt) ∈ keptS w_ (hs_.drop i_)) = b_), fun l => l, ?_, ?_, ?_⟩
        · rintro F' level ⟨s', H', C', cl', fp', hs', rfl⟩ comp1_m
          show KT _ [.sh (dv w_.l), .sh (dv (keptTabs w_ hs_)), .sh (dv (n_ : Int)), .sh (dv b_), .ow (olist (((rowsTo (lawRow w_ hs_ b_) w_ i_).filter hasSp) ++ (((List.take j_ [false, true]).flatMap fun x : Bool => (span 1 (w_.rest + 1)).map fun s => (x, s)).map (lawRow w_ hs_ b_ i_)).filter hasSp ++ (((span 1 (1 + ((m_ : Nat) : Int))).map fun s => (shut, s)).map (lawRow w_ hs_ b_ i_)).filter hasSp)), .sh (dv ((i_ : Nat) : Int)), .sh (dv shut), .sh (dv since), .no, .sh (dv level)] _ _ _
          refine t_eq (α := Bool) ?_
          refine k_inD (κ := Stt) (β := Bool) hr.units ?_
          refine k_tup (α := Stt) (ds := Stt.ds) ?_
          refine a_cons (α := Int) ?_
          refine k_var 9 rfl rfl ?_
          refine a_cons (α := Bool) ?_
          refine k_var 6 rfl rfl ?_
          refine a_cons (α := Int) ?_
          refine k_var 7 rfl rfl ?_
          refine a_nil ?_
          refine ⟨Nat.le_of_ble_eq_true rfl, ⟨_, _, _⟩, rfl, ?_⟩
          refine k_ixL ?_
          refine k_var 1 rfl rfl ?_
          refine k_var 5 rfl rfl ?_
          refine ⟨setD (keptS w_ (hs_.drop i_)), ⟨by omega, by rw [Int.toNat_natCast]; exact ktabs_at (by omega)⟩, ?_⟩
          refine k_var 3 rfl rfl ?_
          exact (by rw [setD_fst])
        · rintro F' level ⟨s', H', C', cl', fp', hs', rfl⟩ comp1_m comp1_t
          show KE _ [.sh (dv w_.l), .sh (dv (keptTabs w_ hs_)), .sh (dv (n_ : Int)), .sh (dv b_), .ow (olist (((rowsTo (lawRow w_ hs_ b_) w_ i_).filter hasSp) ++ (((List.take j_ [false, true]).flatMap fun x : Bool => (span 1 (w_.rest + 1)).map fun s => (x, s)).map (lawRow w_ hs_ b_ i_)).filter hasSp ++ (((span 1 (1 + ((m_ : Nat) : Int))).map fun s => (shut, s)).map (lawRow w_ hs_ b_ i_)).filter hasSp)), .sh (dv ((i_ : Nat) : Int)), .sh (dv shut), .sh (dv since), .no, .sh (dv level)] _ _ _
          refine k_var 9 rfl rfl ?_
          exact rfl
        refine fun levels levels_e => ?_
        have lv_ : levels = lawL w_ hs_ b_ i_ shut since := by rw [levels_e, List.map_id'' ] <;> first | rfl | (intro x; rfl)
        show KSs _ ([.sh (dv w_.l), .sh (dv (keptTabs w_ hs_)), .sh (dv (n_ : Int)), .sh (dv b_), .ow (olist (((rowsTo (lawRow w_ hs_ b_) w_ i_).filter hasSp) ++ (((List.take j_ [false, true]).flatMap fun x : Bool => (span 1 (w_.rest + 1)).map fun s => (x, s)).map (lawRow w_ hs_ b_ i_)).filter hasSp ++ (((span 1 (1 + ((m_ : Nat) : Int))).map fun s => (shut, s)).map (lawRow w_ hs_ b_ i_)).filter hasSp)), .sh (dv ((i_ : Nat) : Int)), .sh (dv shut), .sh (dv since), .sh (dv levels), .no] : List Ent) _ _
        refine ks_one (s_if ?_)
        refine t_neD (α := List Int) hr.units ?_
        refine k_var 8 rfl rfl ?_
        refine k_lst (α := List Int) (ds := dvs) ?_
        refine a_nil ?_
        refine ⟨Nat.le_of_ble_eq_true rfl, ([] : List Int), rfl, ?_⟩
        refine ifND (fun h1 => ?_) (fun h1 => ?_)
        · skip
          refine ks_one (s_app 4 rfl rfl (law_rows_sz p1 (by omega) (by omega)) ?_)
          refine k_tup (α := Row) (ds := Row.ds) ?_
          refine a_cons (α := Int) ?_
          refine k_var 5 rfl rfl ?_
          refine a_cons (α := Bool) ?_
          refine k_var 6 rfl rfl ?_
          refine a_cons (α := Int) ?_
          refine k_var 7 rfl rfl ?_
          refine a_cons (α := List (Int × Int)) ?_
          refine k_call (ok_law_stretches T) (hr.mono (by decide)) T.g_law_stretches T.k_law_stretches T.b_law_stretches ?_
          refine a_cons (α := List Int) ?_
          refine k_var 8 rfl rfl ?_
          refine a_nil ?_
          refine ⟨_, ⟨_, rfl, by rw [lv_]; exact Nat.le_trans (lawL_len p1) (by decide), by rw [lv_]; exact lawL_asc, rfl⟩, Got.ok ?_⟩
          refine a_nil ?_
          refine ⟨Nat.le_of_ble_eq_true rfl, ⟨_, _, _, _⟩, rfl, ?_⟩
          refine fun rows_app1 rows_app1_e => ?_
          have e_ : rows_app1 = (((rowsTo (lawRow w_ hs_ b_) w_ i_).filter hasSp) ++ (((List.take j_ [false, true]).flatMap fun x : Bool => (span 1 (w_.rest + 1)).map fun s => (x, s)).map (lawRow w_ hs_ b_ i_)).filter hasSp ++ (((span 1 (1 + ((m_ + 1 : Nat) : Int))).map fun s => (shut, s)).map (lawRow w_ hs_ b_ i_)).filter hasSp) := by
            rw [ss_, rows_app1_e]
            simp only [List.map_append, List.filter_append, List.append_assoc, List.map_cons, List.map_nil]
            rw [one_yes lv_ h1]
            rfl
          rw [e_]
          exact ⟨[8, 7], rfl, trivial⟩
        · skip
          refine ks_nil ?_
          have e_ : (((rowsTo (lawRow w_ hs_ b_) w_ i_).filter hasSp) ++ (((List.take j_ [false, true]).flatMap fun x : Bool => (span 1 (w_.rest + 1)).map fun s => (x, s)).map (lawRow w_ hs_ b_ i_)).filter hasSp ++ (((span 1 (1 + ((m_ + 1 : Nat) : Int))).map fun s => (shut, s)).map (lawRow w_ hs_ b_ i_)).filter hasSp) = (((rowsTo (lawRow w_ hs_ b_) w_ i_).filter hasSp) ++ (((List.take j_ [false, true]).flatMap fun x : Bool => (span 1 (w_.rest + 1)).map fun s => (x, s)).map (lawRow w_ hs_ b_ i_)).filter hasSp ++ (((span 1 (1 + ((m_ : Nat) : Int))).map fun s => (shut, s)).map (lawRow w_ hs_ b_ i_)).filter hasSp) := by
            rw [ss_]
            simp only [List.map_append, List.filter_append, List.append_assoc, List.map_cons, List.map_nil]
            rw [one_no lv_ h1, List.append_nil]
          exact ⟨[8, 7], by rw [e_]; rfl, trivial⟩
      · rintro _ ⟨rfl, for3_d⟩
        exact ⟨[6], by rw [gates_s for2_at]; simp only [List.map_append, List.filter_append, List.append_assoc]; rw [show (1 : Int) + (((w_.rest + 1 - 1).toNat : Nat) : Int) = w_.rest + 1 from by omega] <;> rfl, trivial⟩
    · rintro _ ⟨rfl, for2_d⟩
      exact ⟨[5], by rw [rowsTo_s, List.filter_append, ← gates_flat]; rfl, trivial⟩
  · rintro _ ⟨rfl, for1_d⟩
    show KSs _ ([.sh (dv w_.l), .sh (dv (keptTabs w_ hs_)), .sh (dv (n_ : Int)), .sh (dv b_), .ow (olist ((rowsTo (lawRow w_ hs_ b_) w_ (((n_ : Int)).toNat)).filter hasSp)), .no, .no, .no, .no, .no] : List Ent) _ _
    refine ks_freeze 4 rfl ?_
    show KSs _ ([.sh (dv w_.l), .sh (dv (keptTabs w_ hs_)), .sh (dv (n_ : Int)), .sh (dv b_), .sh (dv ((rowsTo (lawRow w_ hs_ b_) w_ (((n_ : Int)).toNat)).filter hasSp)), .no, .no, .no, .no, .no] : List Ent) _ _
    refine ks_one (s_ret (α := List Row) ?_)
    refine k_var 4 rfl rfl ?_
    show (_ : Rz) = _
    exact (by rw [Int.toNat_natCast])
def S_law_flags_right : Pm := fun ds r => ∃ (rs_ : List Row), ds = [dv rs_] ∧ r = .ok (dv true)
theorem ok_law_flags_right (T : Tx w K mg) : FnOk PP w K mg base (L2.CX PP w) 1 T.a_law_flags_right T.fd_law_flags_right ["rows"] (spOf K T.cls S_law_flags_right) := by
  refine fn_ok T.F_law_flags_right sc_law_flags_right (fun ds r h => by obtain ⟨rs_, rfl, _⟩ := h; rfl) fun cd A outer s H E hs ds r hr h => ?_
  obtain ⟨rs_, rfl, rfl⟩ := h
  show KSs _ ([.sh (dv rs_), .no] : List Ent) _ _
  refine ks_cons (s_for (α := Row) (g_name (α := Row) 1 sc_law_flags_right.nd rfl) ?_)
  refine k_var 0 rfl rfl ?_
  refine ⟨fun (i_for1 : Nat) e_ => e_ = ([.sh (dv rs_), .no] : List Ent) ∧ (True), ?_, ?_, ?_⟩
  · exact ⟨rfl, by first | trivial | rfl | simp⟩
  · rintro i_for1 row _ for1_at ⟨rfl, for1_i⟩
    refine turn_fgt ?_
    show KSs _ ([.sh (dv rs_), .sh (dv row)] : List Ent) _ _
    refine ks_one (s_if ?_)
    refine t_w ?_
    refine' w_orD _ ?_; rotate_left
    refine t_not ?_
    refine t_val ?_
    refine k_isTup (α := Row) (ds := Row.ds) T.nogl ?_
    refine k_var 1 rfl rfl ?_
    refine ⟨fun hb1 => ?_, ?_⟩
    · skip
      refine' w_orD _ ?_; rotate_left
      refine t_not ?_
      refine t_val ?_
      refine k_isV (T := "bool") T.nogl (T.nogl _ (by simp)) (by decide +kernel) ?_
      refine k_toV (α := Bool) ?_
      refine k_ixT (α := Row) (ds := Row.ds) 1 Row.shut (fun _ => rfl) rfl ?_
      refine k_var 1 rfl rfl ?_
      refine ⟨"bool", true, rfl, by decide +kernel, ?_⟩
      refine ⟨fun hb2 => ?_, ?_⟩
      · skip
        refine' w_orD _ ?_; rotate_left
        refine t_val ?_
        refine k_isV (T := "bool") T.nogl (T.nogl _ (by simp)) (by decide +kernel) ?_
        refine k_toV (α := Int) ?_
        refine k_ixT (α := Row) (ds := Row.ds) 0 Row.hour (fun _ => rfl) rfl ?_
        refine k_var 1 rfl rfl ?_
        refine ⟨"int", false, rfl, by decide +kernel, ?_⟩
        refine ⟨fun hb3 => ?_, ?_⟩
        · skip
          refine w_or1 ?_
          refine t_val ?_
          refine k_isV (T := "bool") T.nogl (T.nogl _ (by simp)) (by decide +kernel) ?_
          refine k_toV (α := Int) ?_
          refine k_ixT (α := Row) (ds := Row.ds) 2 Row.since (fun _ => rfl) rfl ?_
          refine k_var 1 rfl rfl ?_
          refine ⟨"int", false, rfl, by decide +kernel, ?_⟩
          exact rfl
        exact rfl
      exact rfl
    refine ifB (fun h1 => ?_) (fun h1 => ?_)
    · skip
      exact absurd h1 (by decide)
    · skip
      refine ks_nil ?_
      exact ⟨[1], rfl, trivial⟩
  · rintro _ ⟨rfl, for1_d⟩
    show KSs _ ([.sh (dv rs_), .no] : List Ent) _ _
    refine ks_one (s_ret (α := Bool) ?_)
    refine k_bl ?_
    show (_ : Rz) = _
    first | rfl | assumption | (simp_all; done)
def S_law : Pm := fun ds r => ∃ (ns_ : List Int), ds = [dv (Scr.mk ns_)] ∧ r = .ok (dv true)
theorem ok_law (T : Tx w K mg) : FnOk PP w K mg base (L2.CX PP w) 9 T.a_law T.fd_law ["script"] (spOf K T.cls S_law) := by
  refine fn_ok T.F_law sc_law (fun ds r h => by obtain ⟨ns_, rfl, _⟩ := h; rfl) fun cd A outer s H E hs ds r hr h => ?_
  obtain ⟨ns_, rfl, rfl⟩ := h
  show KSs _ ([.sh (dv (Scr.mk ns_)), .no, .no, .no, .no, .no, .no, .no, .no, .no, .no, .no, .no, .no, .no, .no] : List Ent) _ _
  refine ks_cons (s_let (α := List Int) 1 sc_law.nd rfl ?_)
  refine k_call (ok_law_works T) (hr.mono (by decide)) T.g_law_works T.k_law_works T.b_law_works ?_
  refine a_cons (α := Scr) ?_
  refine k_var 0 rfl rfl ?_
  refine a_nil ?_
  refine ⟨_, ⟨_, rfl, rfl⟩, Got.ok ?_⟩
  refine fun told_v told_e => ?_
  obtain ⟨w_, w_e⟩ : ∃ w, w = works40 (cell17 ns_ 0) := ⟨_, rfl⟩
  rw [← w_e] at told_e
  subst told_e
  have hw_ : w_.Ok := w_e ▸ (works40_ok _).1
  have hw' := hw_
  unfold Wk.Ok at hw'
  show KSs _ ([.sh (dv (Scr.mk ns_)), .sh (dv w_.l), .no, .no, .no, .no, .no, .no, .no, .no, .no, .no, .no, .no, .no, .no] : List Ent) _ _
  refine ks_cons (s_let (α := List Hr) 2 sc_law.nd rfl ?_)
  refine k_call (ok_law_hours T) (hr.mono (by decide)) T.g_law_hours T.k_law_hours T.b_law_hours ?_
  refine a_cons (α := Scr) ?_
  refine k_var 0 rfl rfl ?_
  refine a_nil ?_
  refine ⟨_, ⟨_, rfl, rfl⟩, Got.ok ?_⟩
  refine fun hours hours_e => ?_
  have hc_ : Crs.Ok ⟨hours⟩ := by rw [hours_e]; exact hours40_ok ns_ (by decide) (by decide)
  have hl_ : hours.length ≤ 72 := hc_.2.1
  show KSs _ ([.sh (dv (Scr.mk ns_)), .sh (dv w_.l), .sh (dv hours), .no, .no, .no, .no, .no, .no, .no, .no, .no, .no, .no, .no, .no] : List Ent) _ _
  refine ks_cons (s_let (α := Pl) 3 sc_law.nd rfl ?_)
  refine k_make (num := 2) (fs := Pl.fs) T.mk_2 (ok_Plan__init T) (hr.mono (by decide)) T.g_Plan T.b_Plan__init ?_
  refine a_cons (α := Wk) ?_
  refine k_make (num := 0) (fs := Wk.fs) T.mk_0 (ok_Works__init T) (hr.mono (by decide)) T.g_Works T.b_Works__init ?_
  refine a_cons (α := V) ?_
  refine k_toV (α := Int) ?_
  refine k_ixL ?_
  refine k_var 1 rfl rfl ?_
  refine k_int ?_
  refine ⟨_, ⟨by decide, rfl⟩, ?_⟩
  refine a_cons (α := V) ?_
  refine k_toV (α := Int) ?_
  refine k_ixL ?_
  refine k_var 1 rfl rfl ?_
  refine k_int ?_
  refine ⟨_, ⟨by decide, rfl⟩, ?_⟩
  refine a_cons (α := V) ?_
  refine k_toV (α := Int) ?_
  refine k_ixL ?_
  refine k_var 1 rfl rfl ?_
  refine k_int ?_
  refine ⟨_, ⟨by decide, rfl⟩, ?_⟩
  refine a_cons (α := V) ?_
  refine k_toV (α := Int) ?_
  refine k_ixL ?_
  refine k_var 1 rfl rfl ?_
  refine k_int ?_
  refine ⟨_, ⟨by decide, rfl⟩, ?_⟩
  refine a_cons (α := V) ?_
  refine k_toV (α := Int) ?_
  refine k_ixL ?_
  refine k_var 1 rfl rfl ?_
  refine k_int ?_
  refine ⟨_, ⟨by decide, rfl⟩, ?_⟩
  refine a_nil ?_
  refine ⟨_, ⟨_, _, _, _, _, rfl, scl_i _, scl_i _, scl_i _, scl_i _, scl_i _, rfl⟩, ?_⟩
  refine GotI.eq (initWk_ok (w := w_) hw_) ?_
  refine a_cons (α := Crs) ?_
  refine k_make (num := 1) (fs := Crs.fs) T.mk_1 (ok_Course__init T) (hr.mono (by decide)) T.g_Course T.b_Course__init ?_
  refine a_cons (α := List Tv) ?_
  refine k_cv (α := List Hr) ?_
  refine k_var 2 rfl rfl ?_
  refine ⟨_, cv_list cv_hr _, ?_⟩
  refine a_nil ?_
  refine ⟨_, ⟨_, rfl, scl_hrs _, rfl⟩, ?_⟩
  refine GotI.eq (initCrs_ok (c := ⟨hours⟩) hc_) ?_
  refine a_nil ?_
  refine ⟨_, ⟨_, _, rfl, hw_, hc_, rfl⟩, ?_⟩
  refine ⟨planOf _ _, rfl, ?_⟩
  refine fun plan plan_e => ?_
  subst plan_e
  show KSs _ ([.sh (dv (Scr.mk ns_)), .sh (dv w_.l), .sh (dv hours), .sh (dv (planOf w_ (Crs.mk hours))), .no, .no, .no, .no, .no, .no, .no, .no, .no, .no, .no, .no] : List Ent) _ _
  refine ks_cons (s_let (α := List (Dic Stt Bool)) 4 sc_law.nd rfl ?_)
  refine k_call (ok_law_kept T) (hr.mono (by decide)) T.g_law_kept T.k_law_kept T.b_law_kept ?_
  refine a_cons (α := List Int) ?_
  refine k_var 1 rfl rfl ?_
  refine a_cons (α := List Hr) ?_
  refine k_var 2 rfl rfl ?_
  refine a_nil ?_
  refine ⟨_, ⟨w_, hours, rfl, hw_, hc_.2.2, hl_, rfl⟩, Got.ok ?_⟩
  refine fun tables tables_e => ?_
  subst tables_e
  have ksm_ := kept_small hw_ hc_
  have lsm_ := lost_small hw_ hc_
  have ek_ := law_keptP hw_ hc_
  have el_ := law_lostP hw_ hc_
  show KSs _ ([.sh (dv (Scr.mk ns_)), .sh (dv w_.l), .sh (dv hours), .sh (dv (planOf w_ (Crs.mk hours))), .sh (dv (keptTabs w_ hours)), .no, .no, .no, .no, .no, .no, .no, .no, .no, .no, .no] : List Ent) _ _
  refine ks_cons (s_forR1 (g_name (α := Int) 5 sc_law.nd rfl) T.nogl ?_)
  refine k_int ?_
  refine ⟨by decide, by decide, fun (i_for1 : Nat) e_ => e_ = ([.sh (dv (Scr.mk ns_)), .sh (dv w_.l), .sh (dv hours), .sh (dv (planOf w_ (Crs.mk hours))), .sh (dv (keptTabs w_ hours)), .no, .no, .no, .no, .no, .no, .no, .no, .no, .no, .no] : List Ent) ∧ (True), ?_, ?_, ?_⟩
  · exact ⟨rfl, by first | trivial | rfl | simp⟩
  · rintro i_for1 _ for1_lt ⟨rfl, for1_i⟩
    refine turn_fgt ?_
    obtain ⟨step, step_e⟩ : ∃ v_ : Int, v_ = ((i_for1 : Nat) : Int) := ⟨_, rfl⟩
    refine at_int (i := 5) step_e ?_
    show KSs _ ([.sh (dv (Scr.mk ns_)), .sh (dv w_.l), .sh (dv hours), .sh (dv (planOf w_ (Crs.mk hours))), .sh (dv (keptTabs w_ hours)), .sh (dv step), .no, .no, .no, .no, .no, .no, .no, .no, .no, .no] : List Ent) _ _
    refine ks_beginF (T := KRw) 6 sc_law.nd rfl Less.same ((ok_kept_paper T).imp (led_of (fun ds a h r m => by obtain ⟨w, c, _, _, _, e⟩ := h; injection e with e; subst e; exact paper_sp m))) (hr.mono (by decide)) T.g_kept_paper T.k_kept_paper T.b_kept_paper ?_
    refine a_cons (α := Pl) ?_
    refine k_var 3 rfl rfl ?_
    refine a_nil ?_
    refine ⟨_, ⟨w_, (Crs.mk hours), rfl, hw_, hc_, rfl⟩, fun ik_ hotk_ ndk_ => ?_⟩
    show KSs _ ([.sh (dv (Scr.mk ns_)), .sh (dv w_.l), .sh (dv hours), .sh (dv (planOf w_ (Crs.mk hours))), .sh (dv (keptTabs w_ hours)), .sh (dv step), .gh (KRw.mv ik_ (keptP w_ (Crs.mk hours))), .no, .no, .no, .no, .no, .no, .no, .no, .no] : List Ent) _ _
    refine ks_beginF (T := KRw) 7 sc_law.nd rfl Less.same ((ok_lost_paper T).imp (led_of (fun ds a h r m => by obtain ⟨w, c, _, _, _, e⟩ := h; injection e with e; subst e; exact paper_sp m))) (hr.mono (by decide)) T.g_lost_paper T.k_lost_paper T.b_lost_paper ?_
    refine a_cons (α := Pl) ?_
    refine k_var 3 rfl rfl ?_
    refine a_nil ?_
    refine ⟨_, ⟨w_, (Crs.mk hours), rfl, hw_, hc_, rfl⟩, fun il_ hotl_ ndl_ => ?_⟩
    show KSs _ ([.sh (dv (Scr.mk ns_)), .sh (dv w_.l), .sh (dv hours), .sh (dv (planOf w_ (Crs.mk hours))), .sh (dv (keptTabs w_ hours)), .sh (dv step), .gh (KRw.mv ik_ (keptP w_ (Crs.mk hours))), .gh (KRw.mv il_ (lostP w_ (Crs.mk hours))), .no, .no, .no, .no, .no, .no, .no, .no] : List Ent) _ _
    refine ks_cons (s_if ?_)
    refine kt_view 6 rfl ?_
    show KT _ ([.sh (dv (Scr.mk ns_)), .sh (dv w_.l), .sh (dv hours), .sh (dv (planOf w_ (Crs.mk hours))), .sh (dv (keptTabs w_ hours)), .sh (dv step), .sh (dv (keptP w_ (Crs.mk hours))), .gh (KRw.mv il_ (lostP w_ (Crs.mk hours))), .no, .no, .no, .no, .no, .no, .no, .no] : List Ent) _ _ _
    refine kt_view 7 rfl ?_
    show KT _ ([.sh (dv (Scr.mk ns_)), .sh (dv w_.l), .sh (dv hours), .sh (dv (planOf w_ (Crs.mk hours))), .sh (dv (keptTabs w_ hours)), .sh (dv step), .sh (dv (keptP w_ (Crs.mk hours))), .sh (dv (lostP w_ (Crs.mk hours))), .no, .no, .no, .no, .no, .no, .no, .no] : List Ent) _ _ _
    refine t_w ?_
    refine' w_orD _ ?_; rotate_left
    refine t_neD (α := List Row) hr.units ?_
    refine k_var 6 rfl rfl ?_
    refine k_call (ok_law_rows T) (hr.mono (by decide)) T.g_law_rows T.k_law_rows T.b_law_rows ?_
    refine a_cons (α := List Int) ?_
    refine k_var 1 rfl rfl ?_
    refine a_cons (α := List (Dic Stt Bool)) ?_
    refine k_var 4 rfl rfl ?_
    refine a_cons (α := Int) ?_
    refine k_add ?_
    refine k_lenL (α := Hr) T.nogl ?_
    refine k_var 2 rfl rfl ?_
    refine k_int ?_
    refine a_cons (α := Bool) ?_
    refine k_bl ?_
    refine a_nil ?_
    refine ⟨_, ⟨w_, hours, hours.length + 1, true, by first | rfl | (rw [show (((hours.length + 1 : Nat)) : Int) = _ from rfl]; rfl), hw_, by omega, hl_, rfl⟩, Got.ok ?_⟩
    refine ⟨fun hb1 => ?_, ?_⟩
    · skip
      refine w_or1 ?_
      refine t_neD (α := List Row) hr.units ?_
      refine k_var 7 rfl rfl ?_
      refine k_call (ok_law_rows T) (hr.mono (by decide)) T.g_law_rows T.k_law_rows T.b_law_rows ?_
      refine a_cons (α := List Int) ?_
      refine k_var 1 rfl rfl ?_
      refine a_cons (α := List (Dic Stt Bool)) ?_
      refine k_var 4 rfl rfl ?_
      refine a_cons (α := Int) ?_
      refine k_lenL (α := Hr) T.nogl ?_
      refine k_var 2 rfl rfl ?_
      refine a_cons (α := Bool) ?_
      refine k_bl ?_
      refine a_nil ?_
      refine ⟨_, ⟨w_, hours, hours.length, false, by first | rfl | (rw [show (((hours.length : Nat)) : Int) = _ from rfl]; rfl), hw_, by omega, hl_, rfl⟩, Got.ok ?_⟩
      exact rfl
    refine ifB (fun h1 => ?_) (fun h1 => ?_)
    · skip
      exact absurd h1 (by rw [ek_, el_]; simp)
    · skip
      refine ks_nil ?_
      show KSs _ ([.sh (dv (Scr.mk ns_)), .sh (dv w_.l), .sh (dv hours), .sh (dv (planOf w_ (Crs.mk hours))), .sh (dv (keptTabs w_ hours)), .sh (dv step), .gh (KRw.mv ik_ (keptP w_ (Crs.mk hours))), .gh (KRw.mv il_ (lostP w_ (Crs.mk hours))), .no, .no, .no, .no, .no, .no, .no, .no] : List Ent) _ _
      refine ks_cons (s_if ?_)
      refine kt_view 6 rfl ?_
      show KT _ ([.sh (dv (Scr.mk ns_)), .sh (dv w_.l), .sh (dv hours), .sh (dv (planOf w_ (Crs.mk hours))), .sh (dv (keptTabs w_ hours)), .sh (dv step), .sh (dv (keptP w_ (Crs.mk hours))), .gh (KRw.mv il_ (lostP w_ (Crs.mk hours))), .no, .no, .no, .no, .no, .no, .no, .no] : List Ent) _ _ _
      refine kt_view 7 rfl ?_
      show KT _ ([.sh (dv (Scr.mk ns_)), .sh (dv w_.l), .sh (dv hours), .sh (dv (planOf w_ (Crs.mk hours))), .sh (dv (keptTabs w_ hours)), .sh (dv step), .sh (dv (keptP w_ (Crs.mk hours))), .sh (dv (lostP w_ (Crs.mk hours))), .no, .no, .no, .no, .no, .no, .no, .no] : List Ent) _ _ _
      refine t_w ?_
      refine' w_orD _ ?_; rotate_left
      refine t_not ?_
      refine t_val ?_
      refine k_call (ok_law_flags_right T) (hr.mono (by decide)) T.g_law_flags_right T.k_law_flags_right T.b_law_flags_right ?_
      refine a_cons (α := List Row) ?_
      refine k_var 6 rfl rfl ?_
      refine a_nil ?_
      refine ⟨_, ⟨_, rfl, rfl⟩, Got.ok ?_⟩
      refine ⟨fun hb2 => ?_, ?_⟩
      · skip
        refine w_or1 ?_
        refine t_not ?_
        refine t_val ?_
        refine k_call (ok_law_flags_right T) (hr.mono (by decide)) T.g_law_flags_right T.k_law_flags_right T.b_law_flags_right ?_
        refine a_cons (α := List Row) ?_
        refine k_var 7 rfl rfl ?_
        refine a_nil ?_
        refine ⟨_, ⟨_, rfl, rfl⟩, Got.ok ?_⟩
        exact rfl
      refine ifB (fun h2 => ?_) (fun h2 => ?_)
      · skip
        exact absurd h2 (by decide)
      · skip
        refine ks_nil ?_
        show KSs _ ([.sh (dv (Scr.mk ns_)), .sh (dv w_.l), .sh (dv hours), .sh (dv (planOf w_ (Crs.mk hours))), .sh (dv (keptTabs w_ hours)), .sh (dv step), .gh (KRw.mv ik_ (keptP w_ (Crs.mk hours))), .gh (KRw.mv il_ (lostP w_ (Crs.mk hours))), .no, .no, .no, .no, .no, .no, .no, .no] : List Ent) _ _
        refine ks_exG 6 (fun y : {vs : List V // vs.length ≤ 1000} => mvJ ik_.1 ik_.2 1000 y.1) rfl (fun G S H v h => by obtain ⟨vs, z⟩ := rows_J ksm_.1 ksm_.2 G S H v h; exact ⟨⟨vs, z.2.2.2.1⟩, z⟩) fun y_ => ?_
        obtain ⟨vk_, hk_⟩ := y_
        refine ks_exG 7 (fun y : {vs : List V // vs.length ≤ 1000} => mvJ il_.1 il_.2 1000 y.1) rfl (fun G S H v h => by obtain ⟨vs, z⟩ := rows_J lsm_.1 lsm_.2 G S H v h; exact ⟨⟨vs, z.2.2.2.1⟩, z⟩) fun y_ => ?_
        obtain ⟨vl_, hl2_⟩ := y_
        show KSs _ ([.sh (dv (Scr.mk ns_)), .sh (dv w_.l), .sh (dv hours), .sh (dv (planOf w_ (Crs.mk hours))), .sh (dv (keptTabs w_ hours)), .sh (dv step), .gh (mvJ ik_.1 ik_.2 (1000) vk_), .gh (mvJ il_.1 il_.2 (1000) vl_), .no, .no, .no, .no, .no, .no, .no, .no] : List Ent) _ _
        refine ks_one (s_forT (α := V) (g_name (α := V) 8 sc_law.nd rfl) ?_)
        refine k_tup (α := Tl V) (ds := fun t => dvs t.xs) ?_
        refine a_cons (α := V) ?_
        refine k_varG (p := ik_.1) 6 rfl rfl (fun _ _ _ _ h => h.1) ?_
        refine a_cons (α := V) ?_
        refine k_varG (p := il_.1) 7 rfl rfl (fun _ _ _ _ h => h.1) ?_
        refine a_nil ?_
        refine ⟨Nat.le_of_ble_eq_true rfl, ⟨[_, _]⟩, rfl, ?_⟩
        refine ⟨fun i_ e_ => (i_ = 0 ∧ e_ = ([.sh (dv (Scr.mk ns_)), .sh (dv w_.l), .sh (dv hours), .sh (dv (planOf w_ (Crs.mk hours))), .sh (dv (keptTabs w_ hours)), .sh (dv step), .gh (mvJ ik_.1 ik_.2 (1000) vk_), .gh (mvJ il_.1 il_.2 (1000) vl_), .no, .no, .no, .no, .no, .no, .no, .no] : List Ent)) ∨ (i_ = 1 ∧ e_ = ([.sh (dv (Scr.mk ns_)), .sh (dv w_.l), .sh (dv hours), .sh (dv (planOf w_ (Crs.mk hours))), .sh (dv (keptTabs w_ hours)), .sh (dv step), .gh (mvL ik_.1 ik_.2 (2001)), .gh (mvJ il_.1 il_.2 (1000) vl_), .no, .no, .no, .no, .no, .no, .no, .no] : List Ent)) ∨ (i_ = 2 ∧ e_ = ([.sh (dv (Scr.mk ns_)), .sh (dv w_.l), .sh (dv hours), .sh (dv (planOf w_ (Crs.mk hours))), .sh (dv (keptTabs w_ hours)), .sh (dv step), .gh (mvL ik_.1 ik_.2 (2001)), .gh (mvL il_.1 il_.2 (2001)), .no, .no, .no, .no, .no, .no, .no, .no] : List Ent)), .inl ⟨rfl, rfl⟩, ?_, ?_⟩
        · rintro i_ y_ _ at_ (⟨rfl, rfl⟩ | ⟨rfl, rfl⟩ | ⟨rfl, rfl⟩)
          · have ey_ : V.ref ik_.1 = y_ := Option.some.inj at_
            subst ey_
            refine turn_fgt ?_
            show KSs _ ([.sh (dv (Scr.mk ns_)), .sh (dv w_.l), .sh (dv hours), .sh (dv (planOf w_ (Crs.mk hours))), .sh (dv (keptTabs w_ hours)), .sh (dv step), .gh (mvJ ik_.1 ik_.2 (1000) vk_), .gh (mvJ il_.1 il_.2 (1000) vl_), .sh (dv (V.ref ik_.1)), .no, .no, .no, .no, .no, .no, .no] : List Ent) _ _
            refine ks_cons (s_forJ4 (g_tup (ds := Q4.ds) [9, 10, 11, 12] (pgs_cons (pg_name (i := 9) sc_law.nd rfl (by first | exact .inl rfl | exact .inr rfl)) (pgs_cons (pg_name (i := 10) sc_law.nd rfl (by first | exact .inl rfl | exact .inr rfl)) (pgs_cons (pg_name (i := 11) sc_law.nd rfl (by first | exact .inl rfl | exact .inr rfl)) (pgs_cons (pg_name (i := 12) sc_law.nd rfl (by first | exact .inl rfl | exact .inr rfl)) pgs_nil)))) (fun _ => rfl)) 8 6 rfl rfl rfl ?_)
            refine ⟨fun j_ e_ => e_ = ([.sh (dv (Scr.mk ns_)), .sh (dv w_.l), .sh (dv hours), .sh (dv (planOf w_ (Crs.mk hours))), .sh (dv (keptTabs w_ hours)), .sh (dv step), .gh (mvJ ik_.1 ik_.2 (1000 + j_) vk_), .gh (mvJ il_.1 il_.2 (1000) vl_), .sh (dv (V.ref ik_.1)), .no, .no, .no, .no, .no, .no, .no] : List Ent), rfl, fun j_ e_ he_ => ⟨1000 + j_, by rw [he_]; rfl⟩, ?_, ?_⟩
            · rintro j_ ⟨ya_, yb_, yc_, yd_⟩ _ jl_ ⟨a_, am_, ad_⟩ rfl
              dsimp only at ad_
              subst ad_
              refine turn_fgt ?_
              show KSs _ ([.sh (dv (Scr.mk ns_)), .sh (dv w_.l), .sh (dv hours), .sh (dv (planOf w_ (Crs.mk hours))), .sh (dv (keptTabs w_ hours)), .sh (dv step), .gh (mvJ ik_.1 ik_.2 (1000 + j_) vk_), .gh (mvJ il_.1 il_.2 (1000) vl_), .sh (dv (V.ref ik_.1)), .sh (dv ya_), .sh (dv yb_), .sh (dv yc_), .sh (dv (V.ref a_)), .no, .no, .no] : List Ent) _ _
              refine ks_cons (s_gvApp (α := Int × Int) (m' := mvJ ik_.1 ik_.2 (1000 + j_ + 1) vk_) 12 6 rfl rfl rfl (Hot.more hotk_) (chg_J am_ (by omega) 1 len_app1) (sep_two (j := 7) rfl rfl (fun a z e => ndl_ a e (hotk_.h a z))) ?_)
              refine k_tup (α := Int × Int) (ds := ds2) ?_
              refine a_cons (α := Int) ?_
              refine k_int ?_
              refine a_cons (α := Int) ?_
              refine k_int ?_
              refine a_nil ?_
              refine ⟨Nat.le_of_ble_eq_true rfl, ⟨_, _⟩, rfl, ?_⟩
              show KSs _ ([.sh (dv (Scr.mk ns_)), .sh (dv w_.l), .sh (dv hours), .sh (dv (planOf w_ (Crs.mk hours))), .sh (dv (keptTabs w_ hours)), .sh (dv step), .gh (mvJ ik_.1 ik_.2 (1000 + j_ + 1) vk_), .gh (mvJ il_.1 il_.2 (1000) vl_), .sh (dv (V.ref ik_.1)), .sh (dv ya_), .sh (dv yb_), .sh (dv yc_), .sh (dv (V.ref a_)), .no, .no, .no] : List Ent) _ _
              refine ks_one (s_gvRev (m' := mvJ ik_.1 ik_.2 (1000 + j_ + 1) vk_) 12 6 rfl rfl rfl (Hot.more hotk_) (chg_J am_ (by omega) 0 len_rev0) (sep_two (j := 7) rfl rfl (fun a z e => ndl_ a e (hotk_.h a z))) ?_)
              exact ⟨[9, 10, 11, 12], rfl⟩
            rintro _ rfl
            refine ks_exG 6 (fun _ : Unit => mvL ik_.1 ik_.2 2000) rfl (fun G S H v h => ⟨(), L_le (by omega) G S H v (J_L (by omega) G S H v h)⟩) fun _ => ?_
            show KSs _ ([.sh (dv (Scr.mk ns_)), .sh (dv w_.l), .sh (dv hours), .sh (dv (planOf w_ (Crs.mk hours))), .sh (dv (keptTabs w_ hours)), .sh (dv step), .gh (mvL ik_.1 ik_.2 (2000)), .gh (mvJ il_.1 il_.2 (1000) vl_), .sh (dv (V.ref ik_.1)), .no, .no, .no, .no, .no, .no, .no] : List Ent) _ _
            refine ks_cons (s_gvApp (α := Str) (m' := mvL ik_.1 ik_.2 2001) 8 6 rfl rfl rfl (Hot.more hotk_) (chg_L (.inl rfl) (by decide) 1 len_app1) (sep_two (j := 7) rfl rfl (fun a z e => ndl_ a e (hotk_.h a z))) ?_)
            refine k_str ?_
            show KSs _ ([.sh (dv (Scr.mk ns_)), .sh (dv w_.l), .sh (dv hours), .sh (dv (planOf w_ (Crs.mk hours))), .sh (dv (keptTabs w_ hours)), .sh (dv step), .gh (mvL ik_.1 ik_.2 (2001)), .gh (mvJ il_.1 il_.2 (1000) vl_), .sh (dv (V.ref ik_.1)), .no, .no, .no, .no, .no, .no, .no] : List Ent) _ _
            refine ks_one (s_gvRev (m' := mvL ik_.1 ik_.2 2001) 8 6 rfl rfl rfl (Hot.more hotk_) (chg_L (.inl rfl) (by decide) 0 len_rev0) (sep_two (j := 7) rfl rfl (fun a z e => ndl_ a e (hotk_.h a z))) ?_)
            exact ⟨[8], .inr (.inl ⟨rfl, rfl⟩)⟩
          · have ey_ : V.ref il_.1 = y_ := Option.some.inj at_
            subst ey_
            refine turn_fgt ?_
            show KSs _ ([.sh (dv (Scr.mk ns_)), .sh (dv w_.l), .sh (dv hours), .sh (dv (planOf w_ (Crs.mk hours))), .sh (dv (keptTabs w_ hours)), .sh (dv step), .gh (mvL ik_.1 ik_.2 (2001)), .gh (mvJ il_.1 il_.2 (1000) vl_), .sh (dv (V.ref il_.1)), .no, .no, .no, .no, .no, .no, .no] : List Ent) _ _
            refine ks_cons (s_forJ4 (g_tup (ds := Q4.ds) [9, 10, 11, 12] (pgs_cons (pg_name (i := 9) sc_law.nd rfl (by first | exact .inl rfl | exact .inr rfl)) (pgs_cons (pg_name (i := 10) sc_law.nd rfl (by first | exact .inl rfl | exact .inr rfl)) (pgs_cons (pg_name (i := 11) sc_law.nd rfl (by first | exact .inl rfl | exact .inr rfl)) (pgs_cons (pg_name (i := 12) sc_law.nd rfl (by first | exact .inl rfl | exact .inr rfl)) pgs_nil)))) (fun _ => rfl)) 8 7 rfl rfl rfl ?_)
            refine ⟨fun j_ e_ => e_ = ([.sh (dv (Scr.mk ns_)), .sh (dv w_.l), .sh (dv hours), .sh (dv (planOf w_ (Crs.mk hours))), .sh (dv (keptTabs w_ hours)), .sh (dv step), .gh (mvL ik_.1 ik_.2 (2001)), .gh (mvJ il_.1 il_.2 (1000 + j_) vl_), .sh (dv (V.ref il_.1)), .no, .no, .no, .no, .no, .no, .no] : List Ent), rfl, fun j_ e_ he_ => ⟨1000 + j_, by rw [he_]; rfl⟩, ?_, ?_⟩
            · rintro j_ ⟨ya_, yb_, yc_, yd_⟩ _ jl_ ⟨a_, am_, ad_⟩ rfl
              dsimp only at ad_
              subst ad_
              refine turn_fgt ?_
              show KSs _ ([.sh (dv (Scr.mk ns_)), .sh (dv w_.l), .sh (dv hours), .sh (dv (planOf w_ (Crs.mk hours))), .sh (dv (keptTabs w_ hours)), .sh (dv step), .gh (mvL ik_.1 ik_.2 (2001)), .gh (mvJ il_.1 il_.2 (1000 + j_) vl_), .sh (dv (V.ref il_.1)), .sh (dv ya_), .sh (dv yb_), .sh (dv yc_), .sh (dv (V.ref a_)), .no, .no, .no] : List Ent) _ _
              refine ks_cons (s_gvApp (α := Int × Int) (m' := mvJ il_.1 il_.2 (1000 + j_ + 1) vl_) 12 7 rfl rfl rfl hotl_ (chg_J am_ (by omega) 1 len_app1) (sep_two (j := 6) rfl rfl (fun a z e => ndl_ a z (hotk_.h a e))) ?_)
              refine k_tup (α := Int × Int) (ds := ds2) ?_
              refine a_cons (α := Int) ?_
              refine k_int ?_
              refine a_cons (α := Int) ?_
              refine k_int ?_
              refine a_nil ?_
              refine ⟨Nat.le_of_ble_eq_true rfl, ⟨_, _⟩, rfl, ?_⟩
              show KSs _ ([.sh (dv (Scr.mk ns_)), .sh (dv w_.l), .sh (dv hours), .sh (dv (planOf w_ (Crs.mk hours))), .sh (dv (keptTabs w_ hours)), .sh (dv step), .gh (mvL ik_.1 ik_.2 (2001)), .gh (mvJ il_.1 il_.2 (1000 + j_ + 1) vl_), .sh (dv (V.ref il_.1)), .sh (dv ya_), .sh (dv yb_), .sh (dv yc_), .sh (dv (V.ref a_)), .no, .no, .no] : List Ent) _ _
              refine ks_one (s_gvRev (m' := mvJ il_.1 il_.2 (1000 + j_ + 1) vl_) 12 7 rfl rfl rfl hotl_ (chg_J am_ (by omega) 0 len_rev0) (sep_two (j := 6) rfl rfl (fun a z e => ndl_ a z (hotk_.h a e))) ?_)
              exact ⟨[9, 10, 11, 12], rfl⟩
            rintro _ rfl
            refine ks_exG 7 (fun _ : Unit => mvL il_.1 il_.2 2000) rfl (fun G S H v h => ⟨(), L_le (by omega) G S H v (J_L (by omega) G S H v h)⟩) fun _ => ?_
            show KSs _ ([.sh (dv (Scr.mk ns_)), .sh (dv w_.l), .sh (dv hours), .sh (dv (planOf w_ (Crs.mk hours))), .sh (dv (keptTabs w_ hours)), .sh (dv step), .gh (mvL ik_.1 ik_.2 (2001)), .gh (mvL il_.1 il_.2 (2000)), .sh (dv (V.ref il_.1)), .no, .no, .no, .no, .no, .no, .no] : List Ent) _ _
            refine ks_cons (s_gvApp (α := Str) (m' := mvL il_.1 il_.2 2001) 8 7 rfl rfl rfl hotl_ (chg_L (.inl rfl) (by decide) 1 len_app1) (sep_two (j := 6) rfl rfl (fun a z e => ndl_ a z (hotk_.h a e))) ?_)
            refine k_str ?_
            show KSs _ ([.sh (dv (Scr.mk ns_)), .sh (dv w_.l), .sh (dv hours), .sh (dv (planOf w_ (Crs.mk hours))), .sh (dv (keptTabs w_ hours)), .sh (dv step), .gh (mvL ik_.1 ik_.2 (2001)), .gh (mvL il_.1 il_.2 (2001)), .sh (dv (V.ref il_.1)), .no, .no, .no, .no, .no, .no, .no] : List Ent) _ _
            refine ks_one (s_gvRev (m' := mvL il_.1 il_.2 2001) 8 7 rfl rfl rfl hotl_ (chg_L (.inl rfl) (by decide) 0 len_rev0) (sep_two (j := 6) rfl rfl (fun a z e => ndl_ a z (hotk_.h a e))) ?_)
            exact ⟨[8], .inr (.inr ⟨rfl, rfl⟩)⟩
          · exact absurd (List.getElem?_eq_some_iff.mp at_).1 (Nat.lt_irrefl 2)
        rintro _ (⟨z_, _⟩ | ⟨z_, _⟩ | ⟨_, rfl⟩)
        · exact absurd (show (2 : Nat) = 0 from z_) (by decide)
        · exact absurd (show (2 : Nat) = 1 from z_) (by decide)
        exact ⟨[5, 6, 7], rfl, trivial⟩
  · rintro _ ⟨rfl, for1_d⟩
    show KSs _ ([.sh (dv (Scr.mk ns_)), .sh (dv w_.l), .sh (dv hours), .sh (dv (planOf w_ (Crs.mk hours))), .sh (dv (keptTabs w_ hours)), .no, .no, .no, .no, .no, .no, .no, .no, .no, .no, .no] : List Ent) _ _
    refine ks_cons (s_letLc 13 rfl (q_lcR1 (β := Int) [("level", 14)] sc_law.nd T.nogl (blkOk_by rfl) (Nat.le_of_ble_eq_true rfl) (fun F' ⟨s', H', C', cl', fp', hs', e'⟩ => by subst e'; exact g_name (α := Int) 14 sc_law.nd rfl) (by decide) (by intro i hi o; simp only [List.map_cons, List.map_nil, List.mem_cons, List.not_mem_nil, or_false] at hi; subst hi <;> intro z <;> cases z) ?_))
    refine k_int ?_
    refine ⟨by omega, fun l => !decide (cell17 ns_ 9 / (l + 2) % 3 = 0), fun l => l, ?_, ?_, ?_⟩
    · rintro F' level ⟨s', H', C', cl', fp', hs', rfl⟩ comp1_m
      have lv_ := mem_span.mp comp1_m
      show KT _ [.sh (dv (Scr.mk ns_)), .sh (dv w_.l), .sh (dv hours), .sh (dv (planOf w_ (Crs.mk hours))), .sh (dv (keptTabs w_ hours)), .no, .no, .no, .no, .no, .no, .no, .no, .no, .sh (dv level), .no] _ _ _
      refine t_ne (α := Int) ?_
      refine k_mod ?_
      refine k_div ?_
      refine k_call (ok_law_cell T) (hr.mono (by decide)) T.g_law_cell T.k_law_cell T.b_law_cell ?_
      refine a_cons (α := Scr) ?_
      refine k_var 0 rfl rfl ?_
      refine a_cons (α := Int) ?_
      refine k_int ?_
      refine a_nil ?_
      refine ⟨_, ⟨_, _, rfl, by first | assumption | omega, rfl⟩, Got.ok ?_⟩
      refine k_add ?_
      refine k_var 14 rfl rfl ?_
      refine k_int ?_
      refine ⟨by omega, ?_⟩
      refine k_int ?_
      refine ⟨by omega, ?_⟩
      refine k_int ?_
      exact rfl
    · rintro F' level ⟨s', H', C', cl', fp', hs', rfl⟩ comp1_m comp1_t
      have lv_ := mem_span.mp comp1_m
      show KE _ [.sh (dv (Scr.mk ns_)), .sh (dv w_.l), .sh (dv hours), .sh (dv (planOf w_ (Crs.mk hours))), .sh (dv (keptTabs w_ hours)), .no, .no, .no, .no, .no, .no, .no, .no, .no, .sh (dv level), .no] _ _ _
      refine k_var 14 rfl rfl ?_
      exact rfl
    refine fun levels levels_e => ?_
    have la_ : levels.Pairwise (· < ·) := by rw [levels_e, List.map_id'']; exact (asc_span _ _).filter _; intro x; rfl
    have ll_ : levels.length ≤ 90000 := by rw [levels_e, List.length_map]; exact Nat.le_trans (List.length_filter_le _ _) (by rw [span_len]; decide)
    show KSs _ ([.sh (dv (Scr.mk ns_)), .sh (dv w_.l), .sh (dv hours), .sh (dv (planOf w_ (Crs.mk hours))), .sh (dv (keptTabs w_ hours)), .no, .no, .no, .no, .no, .no, .no, .no, .sh (dv levels), .no, .no] : List Ent) _ _
    refine ks_cons (s_let (α := List Int) 15 sc_law.nd rfl ?_)
    refine k_list T.nogl ?_
    refine k_var 13 rfl rfl ?_
    refine fun handed handed_e => ?_
    replace handed_e := handed_e.symm
    subst handed_e
    show KSs _ ([.sh (dv (Scr.mk ns_)), .sh (dv w_.l), .sh (dv hours), .sh (dv (planOf w_ (Crs.mk hours))), .sh (dv (keptTabs w_ hours)), .no, .no, .no, .no, .no, .no, .no, .no, .sh (dv levels), .no, .sh (dv levels)] : List Ent) _ _
    refine ks_cons (s_if ?_)
    refine t_w ?_
    refine' w_orD _ ?_; rotate_left
    refine t_neD (α := List (Int × Int)) hr.units ?_
    refine k_call (ok_stretches T) (hr.mono (by decide)) T.g_stretches T.k_stretches T.b_stretches ?_
    refine a_cons (α := List Int) ?_
    refine k_var 15 rfl rfl ?_
    refine a_nil ?_
    refine ⟨_, ⟨_, rfl, ll_, rfl⟩, Got.ok ?_⟩
    refine k_call (ok_law_stretches T) (hr.mono (by decide)) T.g_law_stretches T.k_law_stretches T.b_law_stretches ?_
    refine a_cons (α := List Int) ?_
    refine k_var 13 rfl rfl ?_
    refine a_nil ?_
    refine ⟨_, ⟨_, rfl, ll_, la_, rfl⟩, Got.ok ?_⟩
    refine ⟨fun hb3 => ?_, ?_⟩
    · skip
      refine w_or1 ?_
      refine t_neD (α := List Int) hr.units ?_
      refine k_var 15 rfl rfl ?_
      refine k_var 13 rfl rfl ?_
      exact rfl
    refine ifB (fun h3 => ?_) (fun h3 => ?_)
    · skip
      exact absurd h3 (by simp)
    · skip
      refine ks_nil ?_
      show KSs _ ([.sh (dv (Scr.mk ns_)), .sh (dv w_.l), .sh (dv hours), .sh (dv (planOf w_ (Crs.mk hours))), .sh (dv (keptTabs w_ hours)), .no, .no, .no, .no, .no, .no, .no, .no, .sh (dv levels), .no, .sh (dv levels)] : List Ent) _ _
      refine ks_cons (s_appNewG (α := (Int × Int)) (β := Str) ?_)
      refine kn_call (okN_stretches T) (hr.mono (by decide)) T.g_stretches T.k_stretches T.b_stretches ?_
      refine a_cons (α := List Int) ?_
      refine k_var 15 rfl rfl ?_
      refine a_nil ?_
      refine ⟨_, ⟨_, rfl, ll_, rfl⟩, Got.ok ?_⟩
      refine ⟨by have := stretch_len levels; omega, ?_⟩
      refine k_str ?_
      show KSs _ ([.sh (dv (Scr.mk ns_)), .sh (dv w_.l), .sh (dv hours), .sh (dv (planOf w_ (Crs.mk hours))), .sh (dv (keptTabs w_ hours)), .no, .no, .no, .no, .no, .no, .no, .no, .sh (dv levels), .no, .sh (dv levels)] : List Ent) _ _
      refine ks_one (s_ret (α := Bool) ?_)
      refine' k_andD _ ?_; rotate_left
      refine k_eqD (α := List (Int × Int)) hr.units ?_
      refine k_call (ok_stretches T) (hr.mono (by decide)) T.g_stretches T.k_stretches T.b_stretches ?_
      refine a_cons (α := List Int) ?_
      refine k_var 15 rfl rfl ?_
      refine a_nil ?_
      refine ⟨_, ⟨_, rfl, ll_, rfl⟩, Got.ok ?_⟩
      refine k_call (ok_law_stretches T) (hr.mono (by decide)) T.g_law_stretches T.k_law_stretches T.b_law_stretches ?_
      refine a_cons (α := List Int) ?_
      refine k_var 13 rfl rfl ?_
      refine a_nil ?_
      refine ⟨_, ⟨_, rfl, ll_, la_, rfl⟩, Got.ok ?_⟩
      refine ⟨fun hb4 => ?_, ?_⟩
      · skip
        refine k_one ?_
        refine k_eqD (α := List (Int × Int)) hr.units ?_
        refine k_call (ok_stretches T) (hr.mono (by decide)) T.g_stretches T.k_stretches T.b_stretches ?_
        refine a_cons (α := List Int) ?_
        refine k_lst (α := List Int) (ds := dvs) ?_
        refine a_nil ?_
        refine ⟨Nat.le_of_ble_eq_true rfl, ([] : List Int), rfl, ?_⟩
        refine a_nil ?_
        refine ⟨_, ⟨_, rfl, by decide, rfl⟩, Got.ok ?_⟩
        refine k_lst (α := List (Int × Int)) (ds := dvs) ?_
        refine a_nil ?_
        refine ⟨Nat.le_of_ble_eq_true rfl, ([] : List (Int × Int)), rfl, ?_⟩
        exact rfl
      show (_ : Rz) = _
      exact congrArg (fun b => Rz.ok (dv b)) (by simp [stretch])
end
end Sk
namespace Sk
open PySem L2 PyProof.Rows Rk
theorem all_mk {PP : Program} {w : World} {K : PySem.W.Frag} {h : Heap} {mg : Str → Option Value} {fa : Addr} (X : K.In h) (G : h.Ns mainGlobals mg) (hfa : mg "law" = some (.ref fa))
    {C0 C1 C2 C10 C11 C12 C13 C16 : Addr}
    {t_MOST_LEVEL : Tok}
    {t_MOST_FLOW : Tok}
    {t_MOST_PUMP : Tok}
    {t_MOST_REST : Tok}
    {t_MOST_HOURS : Tok}
    {t_MOST_BOUND : Tok}
    {t__LOST : Tok}
    {f_is_whole : Addr} {od_is_whole an_is_whole : Option Addr} {sl_is_whole : Array (Option Value)} {oc_is_whole kV_is_whole dc_is_whole pm_is_whole cd_is_whole ct_is_whole : Value}
    {f_check_works_number : Addr} {od_check_works_number an_check_works_number : Option Addr} {sl_check_works_number : Array (Option Value)} {oc_check_works_number kV_check_works_number dc_check_works_number pm_check_works_number cd_check_works_number ct_check_works_number : Value}
    {f_Works_next_level : Addr} {od_Works_next_level an_Works_next_level : Option Addr} {sl_Works_next_level : Array (Option Value)} {oc_Works_next_level kV_Works_next_level dc_Works_next_level pm_Works_next_level cd_Works_next_level ct_Works_next_level : Value}
    {f_Works_check_state : Addr} {od_Works_check_state an_Works_check_state : Option Addr} {sl_Works_check_state : Array (Option Value)} {oc_Works_check_state kV_Works_check_state dc_Works_check_state pm_Works_check_state cd_Works_check_state ct_Works_check_state : Value}
    {f_Works_may_move : Addr} {od_Works_may_move an_Works_may_move : Option Addr} {sl_Works_may_move : Array (Option Value)} {oc_Works_may_move kV_Works_may_move dc_Works_may_move pm_Works_may_move cd_Works_may_move ct_Works_may_move : Value}
    {f_Works_moved : Addr} {od_Works_moved an_Works_moved : Option Addr} {sl_Works_moved : Array (Option Value)} {oc_Works_moved kV_Works_moved dc_Works_moved pm_Works_moved cd_Works_moved ct_Works_moved : Value}
    {f_check_bounds : Addr} {od_check_bounds an_check_bounds : Option Addr} {sl_check_bounds : Array (Option Value)} {oc_check_bounds kV_check_bounds dc_check_bounds pm_check_bounds cd_check_bounds ct_check_bounds : Value}
    {f_check_hour : Addr} {od_check_hour an_check_hour : Option Addr} {sl_check_hour : Array (Option Value)} {oc_check_hour kV_check_hour dc_check_hour pm_check_hour cd_check_hour ct_check_hour : Value}
    {f_Works__init : Addr} {od_Works__init an_Works__init : Option Addr} {sl_Works__init : Array (Option Value)} {oc_Works__init kV_Works__init dc_Works__init pm_Works__init cd_Works__init ct_Works__init : Value}
    {f_Course__init : Addr} {od_Course__init an_Course__init : Option Addr} {sl_Course__init : Array (Option Value)} {oc_Course__init kV_Course__init dc_Course__init pm_Course__init cd_Course__init ct_Course__init : Value}
    {f_Course_count : Addr} {od_Course_count an_Course_count : Option Addr} {sl_Course_count : Array (Option Value)} {oc_Course_count kV_Course_count dc_Course_count pm_Course_count cd_Course_count ct_Course_count : Value}
    {f_Course_hour : Addr} {od_Course_hour an_Course_hour : Option Addr} {sl_Course_hour : Array (Option Value)} {oc_Course_hour kV_Course_hour dc_Course_hour pm_Course_hour cd_Course_hour ct_Course_hour : Value}
    {f_span : Addr} {od_span an_span : Option Addr} {sl_span : Array (Option Value)} {oc_span kV_span dc_span pm_span cd_span ct_span : Value}
    {f_is_good : Addr} {od_is_good an_is_good : Option Addr} {sl_is_good : Array (Option Value)} {oc_is_good kV_is_good dc_is_good pm_is_good cd_is_good ct_is_good : Value}
    {f_law_cell : Addr} {od_law_cell an_law_cell : Option Addr} {sl_law_cell : Array (Option Value)} {oc_law_cell kV_law_cell dc_law_cell pm_law_cell cd_law_cell ct_law_cell : Value}
    {f_law_works : Addr} {od_law_works an_law_works : Option Addr} {sl_law_works : Array (Option Value)} {oc_law_works kV_law_works dc_law_works pm_law_works cd_law_works ct_law_works : Value}
    {f_law_hours : Addr} {od_law_hours an_law_hours : Option Addr} {sl_law_hours : Array (Option Value)} {oc_law_hours kV_law_hours dc_law_hours pm_law_hours cd_law_hours ct_law_hours : Value}
    {f_law_next : Addr} {od_law_next an_law_next : Option Addr} {sl_law_next : Array (Option Value)} {oc_law_next kV_law_next dc_law_next pm_law_next cd_law_next ct_law_next : Value}
    {f_law_since : Addr} {od_law_since an_law_since : Option Addr} {sl_law_since : Array (Option Value)} {oc_law_since kV_law_since dc_law_since pm_law_since cd_law_since ct_law_since : Value}
    {f_law_good : Addr} {od_law_good an_law_good : Option Addr} {sl_law_good : Array (Option Value)} {oc_law_good kV_law_good dc_law_good pm_law_good cd_law_good ct_law_good : Value}
    {f_law_states : Addr} {od_law_states an_law_states : Option Addr} {sl_law_states : Array (Option Value)} {oc_law_states kV_law_states dc_law_states pm_law_states cd_law_states ct_law_states : Value}
    {f_law_levels : Addr} {od_law_levels an_law_levels : Option Addr} {sl_law_levels : Array (Option Value)} {oc_law_levels kV_law_levels dc_law_levels pm_law_levels cd_law_levels ct_law_levels : Value}
    {f_gates : Addr} {od_gates an_gates : Option Addr} {sl_gates : Array (Option Value)} {oc_gates kV_gates dc_gates pm_gates cd_gates ct_gates : Value}
    {f_allowed_actions : Addr} {od_allowed_actions an_allowed_actions : Option Addr} {sl_allowed_actions : Array (Option Value)} {oc_allowed_actions kV_allowed_actions dc_allowed_actions pm_allowed_actions cd_allowed_actions ct_allowed_actions : Value}
    {f_good_spans : Addr} {od_good_spans an_good_spans : Option Addr} {sl_good_spans : Array (Option Value)} {oc_good_spans kV_good_spans dc_good_spans pm_good_spans cd_good_spans ct_good_spans : Value}
    {f_told : Addr} {od_told an_told : Option Addr} {sl_told : Array (Option Value)} {oc_told kV_told dc_told pm_told cd_told ct_told : Value}
    {f_end_worst : Addr} {od_end_worst an_end_worst : Option Addr} {sl_end_worst : Array (Option Value)} {oc_end_worst kV_end_worst dc_end_worst pm_end_worst cd_end_worst ct_end_worst : Value}
    {f_worst_case : Addr} {od_worst_case an_worst_case : Option Addr} {sl_worst_case : Array (Option Value)} {oc_worst_case kV_worst_case dc_worst_case pm_worst_case cd_worst_case ct_worst_case : Value}
    {f_hour_costs : Addr} {od_hour_costs an_hour_costs : Option Addr} {sl_hour_costs : Array (Option Value)} {oc_hour_costs kV_hour_costs dc_hour_costs pm_hour_costs cd_hour_costs ct_hour_costs : Value}
    {f_hour_worst : Addr} {od_hour_worst an_hour_worst : Option Addr} {sl_hour_worst : Array (Option Value)} {oc_hour_worst kV_hour_worst dc_hour_worst pm_hour_worst cd_hour_worst ct_hour_worst : Value}
    {f_Plan__init : Addr} {od_Plan__init an_Plan__init : Option Addr} {sl_Plan__init : Array (Option Value)} {oc_Plan__init kV_Plan__init dc_Plan__init pm_Plan__init cd_Plan__init ct_Plan__init : Value}
    {f_Plan_p_check : Addr} {od_Plan_p_check an_Plan_p_check : Option Addr} {sl_Plan_p_check : Array (Option Value)} {oc_Plan_p_check kV_Plan_p_check dc_Plan_p_check pm_Plan_p_check cd_Plan_p_check ct_Plan_p_check : Value}
    {f_Plan_worst : Addr} {od_Plan_worst an_Plan_worst : Option Addr} {sl_Plan_worst : Array (Option Value)} {oc_Plan_worst kV_Plan_worst dc_Plan_worst pm_Plan_worst cd_Plan_worst ct_Plan_worst : Value}
    {f_Plan_is_kept : Addr} {od_Plan_is_kept an_Plan_is_kept : Option Addr} {sl_Plan_is_kept : Array (Option Value)} {oc_Plan_is_kept kV_Plan_is_kept dc_Plan_is_kept pm_Plan_is_kept cd_Plan_is_kept ct_Plan_is_kept : Value}
    {f_Plan_levels : Addr} {od_Plan_levels an_Plan_levels : Option Addr} {sl_Plan_levels : Array (Option Value)} {oc_Plan_levels kV_Plan_levels dc_Plan_levels pm_Plan_levels cd_Plan_levels ct_Plan_levels : Value}
    {f_stretches : Addr} {od_stretches an_stretches : Option Addr} {sl_stretches : Array (Option Value)} {oc_stretches kV_stretches dc_stretches pm_stretches cd_stretches ct_stretches : Value}
    {f_with_levels : Addr} {od_with_levels an_with_levels : Option Addr} {sl_with_levels : Array (Option Value)} {oc_with_levels kV_with_levels dc_with_levels pm_with_levels cd_with_levels ct_with_levels : Value}
    {f_kept_paper : Addr} {od_kept_paper an_kept_paper : Option Addr} {sl_kept_paper : Array (Option Value)} {oc_kept_paper kV_kept_paper dc_kept_paper pm_kept_paper cd_kept_paper ct_kept_paper : Value}
    {f_lost_levels : Addr} {od_lost_levels an_lost_levels : Option Addr} {sl_lost_levels : Array (Option Value)} {oc_lost_levels kV_lost_levels dc_lost_levels pm_lost_levels cd_lost_levels ct_lost_levels : Value}
    {f_lost_paper : Addr} {od_lost_paper an_lost_paper : Option Addr} {sl_lost_paper : Array (Option Value)} {oc_lost_paper kV_lost_paper dc_lost_paper pm_lost_paper cd_lost_paper ct_lost_paper : Value}
    {f_law_actions : Addr} {od_law_actions an_law_actions : Option Addr} {sl_law_actions : Array (Option Value)} {oc_law_actions kV_law_actions dc_law_actions pm_law_actions cd_law_actions ct_law_actions : Value}
    {f_law_keeps : Addr} {od_law_keeps an_law_keeps : Option Addr} {sl_law_keeps : Array (Option Value)} {oc_law_keeps kV_law_keeps dc_law_keeps pm_law_keeps cd_law_keeps ct_law_keeps : Value}
    {f_law_kept : Addr} {od_law_kept an_law_kept : Option Addr} {sl_law_kept : Array (Option Value)} {oc_law_kept kV_law_kept dc_law_kept pm_law_kept cd_law_kept ct_law_kept : Value}
    {f_law_stretches : Addr} {od_law_stretches an_law_stretches : Option Addr} {sl_law_stretches : Array (Option Value)} {oc_law_stretches kV_law_stretches dc_law_stretches pm_law_stretches cd_law_stretches ct_law_stretches : Value}
    {f_law_rows : Addr} {od_law_rows an_law_rows : Option Addr} {sl_law_rows : Array (Option Value)} {oc_law_rows kV_law_rows dc_law_rows pm_law_rows cd_law_rows ct_law_rows : Value}
    {f_law_flags_right : Addr} {od_law_flags_right an_law_flags_right : Option Addr} {sl_law_flags_right : Array (Option Value)} {oc_law_flags_right kV_law_flags_right dc_law_flags_right pm_law_flags_right cd_law_flags_right ct_law_flags_right : Value}
    {f_law : Addr} {od_law an_law : Option Addr} {sl_law : Array (Option Value)} {oc_law kV_law dc_law pm_law cd_law ct_law : Value}
    (h0 : PySem.W.nsIn K mainGlobals "Works" = some (some (.ref C0)))
    (h1 : PySem.W.nsIn K mainGlobals "Course" = some (some (.ref C1)))
    (h2 : PySem.W.nsIn K mainGlobals "Plan" = some (some (.ref C2)))
    (h3 : PySem.W.nsIn K mainGlobals "InvalidWorks" = some (some (.ref C10)))
    (h4 : PySem.W.nsIn K mainGlobals "InvalidCourse" = some (some (.ref C11)))
    (h5 : PySem.W.nsIn K mainGlobals "InvalidState" = some (some (.ref C12)))
    (h6 : PySem.W.nsIn K mainGlobals "InvalidMove" = some (some (.ref C13)))
    (h7 : PySem.W.nsIn K mainGlobals "KeepError" = some (some (.ref C16)))
    (h8 : PySem.W.excIn K C10 [.type "ValueError", .type "Exception", .type "BaseException", .type "object"] "ValueError.__new__" = true)
    (h9 : PySem.W.keepIn K (.ref C10) = true)
    (h10 : PySem.W.subIn K (.ref C10) (.type "BaseException") = some true)
    (h11 : PySem.W.typeIn K (.ref C10) = some (.type "type"))
    (h12 : PySem.W.excIn K C11 [.type "ValueError", .type "Exception", .type "BaseException", .type "object"] "ValueError.__new__" = true)
    (h13 : PySem.W.keepIn K (.ref C11) = true)
    (h14 : PySem.W.subIn K (.ref C11) (.type "BaseException") = some true)
    (h15 : PySem.W.typeIn K (.ref C11) = some (.type "type"))
    (h16 : PySem.W.excIn K C12 [.type "ValueError", .type "Exception", .type "BaseException", .type "object"] "ValueError.__new__" = true)
    (h17 : PySem.W.keepIn K (.ref C12) = true)
    (h18 : PySem.W.subIn K (.ref C12) (.type "BaseException") = some true)
    (h19 : PySem.W.typeIn K (.ref C12) = some (.type "type"))
    (h20 : PySem.W.excIn K C13 [.type "ValueError", .type "Exception", .type "BaseException", .type "object"] "ValueError.__new__" = true)
    (h21 : PySem.W.keepIn K (.ref C13) = true)
    (h22 : PySem.W.subIn K (.ref C13) (.type "BaseException") = some true)
    (h23 : PySem.W.typeIn K (.ref C13) = some (.type "type"))
    (h24 : PySem.W.nsIn K mainGlobals "MOST_LEVEL" = some (some (.int 200 t_MOST_LEVEL)))
    (h25 : PySem.W.nsIn K mainGlobals "MOST_FLOW" = some (some (.int 400 t_MOST_FLOW)))
    (h26 : PySem.W.nsIn K mainGlobals "MOST_PUMP" = some (some (.int 400 t_MOST_PUMP)))
    (h27 : PySem.W.nsIn K mainGlobals "MOST_REST" = some (some (.int 6 t_MOST_REST)))
    (h28 : PySem.W.nsIn K mainGlobals "MOST_HOURS" = some (some (.int 72 t_MOST_HOURS)))
    (h29 : PySem.W.nsIn K mainGlobals "MOST_BOUND" = some (some (.int 400 t_MOST_BOUND)))
    (h30 : PySem.W.nsIn K mainGlobals "_LOST" = some (some (.int 1000 t__LOST)))
    (h31 : PySem.W.plainGet K C0 Str.empty = true)
    (h32 : PySem.W.hasDictIn K C0 = true)
    (h33 : PySem.W.plainOver K C0 = true)
    (h34 : PySem.W.findIn K (.ref C0) "__setattr__" = some (some (.builtin "object.__setattr__")))
    (h35 : PySem.W.findIn K (.ref C0) "wall" = some none)
    (h36 : PySem.W.findIn K (.ref C0) "flow" = some none)
    (h37 : PySem.W.findIn K (.ref C0) "pump" = some none)
    (h38 : PySem.W.findIn K (.ref C0) "rest" = some none)
    (h39 : PySem.W.findIn K (.ref C0) "deep" = some none)
    (h40 : PySem.W.plainGet K C1 Str.empty = true)
    (h41 : PySem.W.hasDictIn K C1 = true)
    (h42 : PySem.W.plainOver K C1 = true)
    (h43 : PySem.W.findIn K (.ref C1) "__setattr__" = some (some (.builtin "object.__setattr__")))
    (h44 : PySem.W.findIn K (.ref C1) "hours" = some none)
    (h45 : PySem.W.plainGet K C2 Str.empty = true)
    (h46 : PySem.W.hasDictIn K C2 = true)
    (h47 : PySem.W.plainOver K C2 = true)
    (h48 : PySem.W.findIn K (.ref C2) "__setattr__" = some (some (.builtin "object.__setattr__")))
    (h49 : PySem.W.findIn K (.ref C2) "works" = some none)
    (h50 : PySem.W.findIn K (.ref C2) "course" = some none)
    (h51 : PySem.W.findIn K (.ref C2) "_costs" = some none)
    (h52 : PySem.W.findIn K (.ref C2) "_worst" = some none)
    (h53 : PySem.W.nsIn K mainGlobals "is_whole" = some (some (.ref f_is_whole)))
    (h54 : K.lookup f_is_whole = some ⟨oc_is_whole, od_is_whole, .func (PySem.W.fnOf "is_whole" "is_whole" (defArgs s_is_whole) (defBody s_is_whole) (defScope s_is_whole) .none kV_is_whole dc_is_whole pm_is_whole an_is_whole cd_is_whole ct_is_whole), sl_is_whole⟩)
    (h55 : PySem.W.codeIn K cd_is_whole "is_whole" = true)
    (h56 : PySem.W.keepIn K (.ref f_is_whole) = true)
    (h57 : PySem.W.nsIn K mainGlobals "_check_works_number" = some (some (.ref f_check_works_number)))
    (h58 : K.lookup f_check_works_number = some ⟨oc_check_works_number, od_check_works_number, .func (PySem.W.fnOf "_check_works_number" "_check_works_number" (defArgs s_check_works_number) (defBody s_check_works_number) (defScope s_check_works_number) .none kV_check_works_number dc_check_works_number pm_check_works_number an_check_works_number cd_check_works_number ct_check_works_number), sl_check_works_number⟩)
    (h59 : PySem.W.codeIn K cd_check_works_number "_check_works_number" = true)
    (h60 : PySem.W.keepIn K (.ref f_check_works_number) = true)
    (h61 : PySem.W.findIn K (.ref C0) "next_level" = some (some (.ref f_Works_next_level)))
    (h62 : PySem.W.isFn K (.ref f_Works_next_level) = true)
    (h63 : K.lookup f_Works_next_level = some ⟨oc_Works_next_level, od_Works_next_level, .func (PySem.W.fnOf "next_level" "Works.next_level" (defArgs s_Works_next_level) (defBody s_Works_next_level) (defScope s_Works_next_level) .none kV_Works_next_level dc_Works_next_level pm_Works_next_level an_Works_next_level cd_Works_next_level ct_Works_next_level), sl_Works_next_level⟩)
    (h64 : PySem.W.codeIn K cd_Works_next_level "Works.next_level" = true)
    (h65 : PySem.W.keepIn K (.ref f_Works_next_level) = true)
    (h66 : PySem.W.findIn K (.ref C0) "check_state" = some (some (.ref f_Works_check_state)))
    (h67 : PySem.W.isFn K (.ref f_Works_check_state) = true)
    (h68 : K.lookup f_Works_check_state = some ⟨oc_Works_check_state, od_Works_check_state, .func (PySem.W.fnOf "check_state" "Works.check_state" (defArgs s_Works_check_state) (defBody s_Works_check_state) (defScope s_Works_check_state) .none kV_Works_check_state dc_Works_check_state pm_Works_check_state an_Works_check_state cd_Works_check_state ct_Works_check_state), sl_Works_check_state⟩)
    (h69 : PySem.W.codeIn K cd_Works_check_state "Works.check_state" = true)
    (h70 : PySem.W.keepIn K (.ref f_Works_check_state) = true)
    (h71 : PySem.W.findIn K (.ref C0) "may_move" = some (some (.ref f_Works_may_move)))
    (h72 : PySem.W.isFn K (.ref f_Works_may_move) = true)
    (h73 : K.lookup f_Works_may_move = some ⟨oc_Works_may_move, od_Works_may_move, .func (PySem.W.fnOf "may_move" "Works.may_move" (defArgs s_Works_may_move) (defBody s_Works_may_move) (defScope s_Works_may_move) .none kV_Works_may_move dc_Works_may_move pm_Works_may_move an_Works_may_move cd_Works_may_move ct_Works_may_move), sl_Works_may_move⟩)
    (h74 : PySem.W.codeIn K cd_Works_may_move "Works.may_move" = true)
    (h75 : PySem.W.keepIn K (.ref f_Works_may_move) = true)
    (h76 : PySem.W.findIn K (.ref C0) "moved" = some (some (.ref f_Works_moved)))
    (h77 : PySem.W.isFn K (.ref f_Works_moved) = true)
    (h78 : K.lookup f_Works_moved = some ⟨oc_Works_moved, od_Works_moved, .func (PySem.W.fnOf "moved" "Works.moved" (defArgs s_Works_moved) (defBody s_Works_moved) (defScope s_Works_moved) .none kV_Works_moved dc_Works_moved pm_Works_moved an_Works_moved cd_Works_moved ct_Works_moved), sl_Works_moved⟩)
    (h79 : PySem.W.codeIn K cd_Works_moved "Works.moved" = true)
    (h80 : PySem.W.keepIn K (.ref f_Works_moved) = true)
    (h81 : PySem.W.nsIn K mainGlobals "_check_bounds" = some (some (.ref f_check_bounds)))
    (h82 : K.lookup f_check_bounds = some ⟨oc_check_bounds, od_check_bounds, .func (PySem.W.fnOf "_check_bounds" "_check_bounds" (defArgs s_check_bounds) (defBody s_check_bounds) (defScope s_check_bounds) .none kV_check_bounds dc_check_bounds pm_check_bounds an_check_bounds cd_check_bounds ct_check_bounds), sl_check_bounds⟩)
    (h83 : PySem.W.codeIn K cd_check_bounds "_check_bounds" = true)
    (h84 : PySem.W.keepIn K (.ref f_check_bounds) = true)
    (h85 : PySem.W.nsIn K mainGlobals "_check_hour" = some (some (.ref f_check_hour)))
    (h86 : K.lookup f_check_hour = some ⟨oc_check_hour, od_check_hour, .func (PySem.W.fnOf "_check_hour" "_check_hour" (defArgs s_check_hour) (defBody s_check_hour) (defScope s_check_hour) .none kV_check_hour dc_check_hour pm_check_hour an_check_hour cd_check_hour ct_check_hour), sl_check_hour⟩)
    (h87 : PySem.W.codeIn K cd_check_hour "_check_hour" = true)
    (h88 : PySem.W.keepIn K (.ref f_check_hour) = true)
    (h89 : PySem.W.findIn K (.ref C0) "__init__" = some (some (.ref f_Works__init)))
    (h90 : PySem.W.isFn K (.ref f_Works__init) = true)
    (h91 : K.lookup f_Works__init = some ⟨oc_Works__init, od_Works__init, .func (PySem.W.fnOf "__init__" "Works.__init__" (defArgs s_Works__init) (defBody s_Works__init) (defScope s_Works__init) .none kV_Works__init dc_Works__init pm_Works__init an_Works__init cd_Works__init ct_Works__init), sl_Works__init⟩)
    (h92 : PySem.W.codeIn K cd_Works__init "Works.__init__" = true)
    (h93 : PySem.W.keepIn K (.ref f_Works__init) = true)
    (h94 : PySem.W.makesIn K C0 = true)
    (h95 : PySem.W.keepIn K (.ref C0) = true)
    (h96 : PySem.W.findIn K (.ref C1) "__init__" = some (some (.ref f_Course__init)))
    (h97 : PySem.W.isFn K (.ref f_Course__init) = true)
    (h98 : K.lookup f_Course__init = some ⟨oc_Course__init, od_Course__init, .func (PySem.W.fnOf "__init__" "Course.__init__" (defArgs s_Course__init) (defBody s_Course__init) (defScope s_Course__init) .none kV_Course__init dc_Course__init pm_Course__init an_Course__init cd_Course__init ct_Course__init), sl_Course__init⟩)
    (h99 : PySem.W.codeIn K cd_Course__init "Course.__init__" = true)
    (h100 : PySem.W.keepIn K (.ref f_Course__init) = true)
    (h101 : PySem.W.makesIn K C1 = true)
    (h102 : PySem.W.keepIn K (.ref C1) = true)
    (h103 : PySem.W.findIn K (.ref C1) "count" = some (some (.ref f_Course_count)))
    (h104 : PySem.W.isFn K (.ref f_Course_count) = true)
    (h105 : K.lookup f_Course_count = some ⟨oc_Course_count, od_Course_count, .func (PySem.W.fnOf "count" "Course.count" (defArgs s_Course_count) (defBody s_Course_count) (defScope s_Course_count) .none kV_Course_count dc_Course_count pm_Course_count an_Course_count cd_Course_count ct_Course_count), sl_Course_count⟩)
    (h106 : PySem.W.codeIn K cd_Course_count "Course.count" = true)
    (h107 : PySem.W.keepIn K (.ref f_Course_count) = true)
    (h108 : PySem.W.findIn K (.ref C1) "hour" = some (some (.ref f_Course_hour)))
    (h109 : PySem.W.isFn K (.ref f_Course_hour) = true)
    (h110 : K.lookup f_Course_hour = some ⟨oc_Course_hour, od_Course_hour, .func (PySem.W.fnOf "hour" "Course.hour" (defArgs s_Course_hour) (defBody s_Course_hour) (defScope s_Course_hour) .none kV_Course_hour dc_Course_hour pm_Course_hour an_Course_hour cd_Course_hour ct_Course_hour), sl_Course_hour⟩)
    (h111 : PySem.W.codeIn K cd_Course_hour "Course.hour" = true)
    (h112 : PySem.W.keepIn K (.ref f_Course_hour) = true)
    (h113 : PySem.W.nsIn K mainGlobals "span" = some (some (.ref f_span)))
    (h114 : K.lookup f_span = some ⟨oc_span, od_span, .func (PySem.W.fnOf "span" "span" (defArgs s_span) (defBody s_span) (defScope s_span) .none kV_span dc_span pm_span an_span cd_span ct_span), sl_span⟩)
    (h115 : PySem.W.codeIn K cd_span "span" = true)
    (h116 : PySem.W.keepIn K (.ref f_span) = true)
    (h117 : PySem.W.nsIn K mainGlobals "is_good" = some (some (.ref f_is_good)))
    (h118 : K.lookup f_is_good = some ⟨oc_is_good, od_is_good, .func (PySem.W.fnOf "is_good" "is_good" (defArgs s_is_good) (defBody s_is_good) (defScope s_is_good) .none kV_is_good dc_is_good pm_is_good an_is_good cd_is_good ct_is_good), sl_is_good⟩)
    (h119 : PySem.W.codeIn K cd_is_good "is_good" = true)
    (h120 : PySem.W.keepIn K (.ref f_is_good) = true)
    (h121 : PySem.W.nsIn K mainGlobals "_law_cell" = some (some (.ref f_law_cell)))
    (h122 : K.lookup f_law_cell = some ⟨oc_law_cell, od_law_cell, .func (PySem.W.fnOf "_law_cell" "_law_cell" (defArgs s_law_cell) (defBody s_law_cell) (defScope s_law_cell) .none kV_law_cell dc_law_cell pm_law_cell an_law_cell cd_law_cell ct_law_cell), sl_law_cell⟩)
    (h123 : PySem.W.codeIn K cd_law_cell "_law_cell" = true)
    (h124 : PySem.W.keepIn K (.ref f_law_cell) = true)
    (h125 : PySem.W.nsIn K mainGlobals "_law_works" = some (some (.ref f_law_works)))
    (h126 : K.lookup f_law_works = some ⟨oc_law_works, od_law_works, .func (PySem.W.fnOf "_law_works" "_law_works" (defArgs s_law_works) (defBody s_law_works) (defScope s_law_works) .none kV_law_works dc_law_works pm_law_works an_law_works cd_law_works ct_law_works), sl_law_works⟩)
    (h127 : PySem.W.codeIn K cd_law_works "_law_works" = true)
    (h128 : PySem.W.keepIn K (.ref f_law_works) = true)
    (h129 : PySem.W.nsIn K mainGlobals "_law_hours" = some (some (.ref f_law_hours)))
    (h130 : K.lookup f_law_hours = some ⟨oc_law_hours, od_law_hours, .func (PySem.W.fnOf "_law_hours" "_law_hours" (defArgs s_law_hours) (defBody s_law_hours) (defScope s_law_hours) .none kV_law_hours dc_law_hours pm_law_hours an_law_hours cd_law_hours ct_law_hours), sl_law_hours⟩)
    (h131 : PySem.W.codeIn K cd_law_hours "_law_hours" = true)
    (h132 : PySem.W.keepIn K (.ref f_law_hours) = true)
    (h133 : PySem.W.nsIn K mainGlobals "_law_next" = some (some (.ref f_law_next)))
    (h134 : K.lookup f_law_next = some ⟨oc_law_next, od_law_next, .func (PySem.W.fnOf "_law_next" "_law_next" (defArgs s_law_next) (defBody s_law_next) (defScope s_law_next) .none kV_law_next dc_law_next pm_law_next an_law_next cd_law_next ct_law_next), sl_law_next⟩)
    (h135 : PySem.W.codeIn K cd_law_next "_law_next" = true)
    (h136 : PySem.W.keepIn K (.ref f_law_next) = true)
    (h137 : PySem.W.nsIn K mainGlobals "_law_since" = some (some (.ref f_law_since)))
    (h138 : K.lookup f_law_since = some ⟨oc_law_since, od_law_since, .func (PySem.W.fnOf "_law_since" "_law_since" (defArgs s_law_since) (defBody s_law_since) (defScope s_law_since) .none kV_law_since dc_law_since pm_law_since an_law_since cd_law_since ct_law_since), sl_law_since⟩)
    (h139 : PySem.W.codeIn K cd_law_since "_law_since" = true)
    (h140 : PySem.W.keepIn K (.ref f_law_since) = true)
    (h141 : PySem.W.nsIn K mainGlobals "_law_good" = some (some (.ref f_law_good)))
    (h142 : K.lookup f_law_good = some ⟨oc_law_good, od_law_good, .func (PySem.W.fnOf "_law_good" "_law_good" (defArgs s_law_good) (defBody s_law_good) (defScope s_law_good) .none kV_law_good dc_law_good pm_law_good an_law_good cd_law_good ct_law_good), sl_law_good⟩)
    (h143 : PySem.W.codeIn K cd_law_good "_law_good" = true)
    (h144 : PySem.W.keepIn K (.ref f_law_good) = true)
    (h145 : PySem.W.nsIn K mainGlobals "_law_states" = some (some (.ref f_law_states)))
    (h146 : K.lookup f_law_states = some ⟨oc_law_states, od_law_states, .func (PySem.W.fnOf "_law_states" "_law_states" (defArgs s_law_states) (defBody s_law_states) (defScope s_law_states) .none kV_law_states dc_law_states pm_law_states an_law_states cd_law_states ct_law_states), sl_law_states⟩)
    (h147 : PySem.W.codeIn K cd_law_states "_law_states" = true)
    (h148 : PySem.W.keepIn K (.ref f_law_states) = true)
    (h149 : PySem.W.nsIn K mainGlobals "_law_levels" = some (some (.ref f_law_levels)))
    (h150 : K.lookup f_law_levels = some ⟨oc_law_levels, od_law_levels, .func (PySem.W.fnOf "_law_levels" "_law_levels" (defArgs s_law_levels) (defBody s_law_levels) (defScope s_law_levels) .none kV_law_levels dc_law_levels pm_law_levels an_law_levels cd_law_levels ct_law_levels), sl_law_levels⟩)
    (h151 : PySem.W.codeIn K cd_law_levels "_law_levels" = true)
    (h152 : PySem.W.keepIn K (.ref f_law_levels) = true)
    (h153 : PySem.W.nsIn K mainGlobals "gates" = some (some (.ref f_gates)))
    (h154 : K.lookup f_gates = some ⟨oc_gates, od_gates, .func (PySem.W.fnOf "gates" "gates" (defArgs s_gates) (defBody s_gates) (defScope s_gates) .none kV_gates dc_gates pm_gates an_gates cd_gates ct_gates), sl_gates⟩)
    (h155 : PySem.W.codeIn K cd_gates "gates" = true)
    (h156 : PySem.W.keepIn K (.ref f_gates) = true)
    (h157 : PySem.W.nsIn K mainGlobals "allowed_actions" = some (some (.ref f_allowed_actions)))
    (h158 : K.lookup f_allowed_actions = some ⟨oc_allowed_actions, od_allowed_actions, .func (PySem.W.fnOf "allowed_actions" "allowed_actions" (defArgs s_allowed_actions) (defBody s_allowed_actions) (defScope s_allowed_actions) .none kV_allowed_actions dc_allowed_actions pm_allowed_actions an_allowed_actions cd_allowed_actions ct_allowed_actions), sl_allowed_actions⟩)
    (h159 : PySem.W.codeIn K cd_allowed_actions "allowed_actions" = true)
    (h160 : PySem.W.keepIn K (.ref f_allowed_actions) = true)
    (h161 : PySem.W.nsIn K mainGlobals "good_spans" = some (some (.ref f_good_spans)))
    (h162 : K.lookup f_good_spans = some ⟨oc_good_spans, od_good_spans, .func (PySem.W.fnOf "good_spans" "good_spans" (defArgs s_good_spans) (defBody s_good_spans) (defScope s_good_spans) .none kV_good_spans dc_good_spans pm_good_spans an_good_spans cd_good_spans ct_good_spans), sl_good_spans⟩)
    (h163 : PySem.W.codeIn K cd_good_spans "good_spans" = true)
    (h164 : PySem.W.keepIn K (.ref f_good_spans) = true)
    (h165 : PySem.W.nsIn K mainGlobals "_told" = some (some (.ref f_told)))
    (h166 : K.lookup f_told = some ⟨oc_told, od_told, .func (PySem.W.fnOf "_told" "_told" (defArgs s_told) (defBody s_told) (defScope s_told) .none kV_told dc_told pm_told an_told cd_told ct_told), sl_told⟩)
    (h167 : PySem.W.codeIn K cd_told "_told" = true)
    (h168 : PySem.W.keepIn K (.ref f_told) = true)
    (h169 : PySem.W.nsIn K mainGlobals "_end_worst" = some (some (.ref f_end_worst)))
    (h170 : K.lookup f_end_worst = some ⟨oc_end_worst, od_end_worst, .func (PySem.W.fnOf "_end_worst" "_end_worst" (defArgs s_end_worst) (defBody s_end_worst) (defScope s_end_worst) .none kV_end_worst dc_end_worst pm_end_worst an_end_worst cd_end_worst ct_end_worst), sl_end_worst⟩)
    (h171 : PySem.W.codeIn K cd_end_worst "_end_worst" = true)
    (h172 : PySem.W.keepIn K (.ref f_end_worst) = true)
    (h173 : PySem.W.nsIn K mainGlobals "_worst_case" = some (some (.ref f_worst_case)))
    (h174 : K.lookup f_worst_case = some ⟨oc_worst_case, od_worst_case, .func (PySem.W.fnOf "_worst_case" "_worst_case" (defArgs s_worst_case) (defBody s_worst_case) (defScope s_worst_case) .none kV_worst_case dc_worst_case pm_worst_case an_worst_case cd_worst_case ct_worst_case), sl_worst_case⟩)
    (h175 : PySem.W.codeIn K cd_worst_case "_worst_case" = true)
    (h176 : PySem.W.keepIn K (.ref f_worst_case) = true)
    (h177 : PySem.W.nsIn K mainGlobals "_hour_costs" = some (some (.ref f_hour_costs)))
    (h178 : K.lookup f_hour_costs = some ⟨oc_hour_costs, od_hour_costs, .func (PySem.W.fnOf "_hour_costs" "_hour_costs" (defArgs s_hour_costs) (defBody s_hour_costs) (defScope s_hour_costs) .none kV_hour_costs dc_hour_costs pm_hour_costs an_hour_costs cd_hour_costs ct_hour_costs), sl_hour_costs⟩)
    (h179 : PySem.W.codeIn K cd_hour_costs "_hour_costs" = true)
    (h180 : PySem.W.keepIn K (.ref f_hour_costs) = true)
    (h181 : PySem.W.nsIn K mainGlobals "_hour_worst" = some (some (.ref f_hour_worst)))
    (h182 : K.lookup f_hour_worst = some ⟨oc_hour_worst, od_hour_worst, .func (PySem.W.fnOf "_hour_worst" "_hour_worst" (defArgs s_hour_worst) (defBody s_hour_worst) (defScope s_hour_worst) .none kV_hour_worst dc_hour_worst pm_hour_worst an_hour_worst cd_hour_worst ct_hour_worst), sl_hour_worst⟩)
    (h183 : PySem.W.codeIn K cd_hour_worst "_hour_worst" = true)
    (h184 : PySem.W.keepIn K (.ref f_hour_worst) = true)
    (h185 : PySem.W.findIn K (.ref C2) "__init__" = some (some (.ref f_Plan__init)))
    (h186 : PySem.W.isFn K (.ref f_Plan__init) = true)
    (h187 : K.lookup f_Plan__init = some ⟨oc_Plan__init, od_Plan__init, .func (PySem.W.fnOf "__init__" "Plan.__init__" (defArgs s_Plan__init) (defBody s_Plan__init) (defScope s_Plan__init) .none kV_Plan__init dc_Plan__init pm_Plan__init an_Plan__init cd_Plan__init ct_Plan__init), sl_Plan__init⟩)
    (h188 : PySem.W.codeIn K cd_Plan__init "Plan.__init__" = true)
    (h189 : PySem.W.keepIn K (.ref f_Plan__init) = true)
    (h190 : PySem.W.makesIn K C2 = true)
    (h191 : PySem.W.keepIn K (.ref C2) = true)
    (h192 : PySem.W.findIn K (.ref C2) "_check" = some (some (.ref f_Plan_p_check)))
    (h193 : PySem.W.isFn K (.ref f_Plan_p_check) = true)
    (h194 : K.lookup f_Plan_p_check = some ⟨oc_Plan_p_check, od_Plan_p_check, .func (PySem.W.fnOf "_check" "Plan._check" (defArgs s_Plan_p_check) (defBody s_Plan_p_check) (defScope s_Plan_p_check) .none kV_Plan_p_check dc_Plan_p_check pm_Plan_p_check an_Plan_p_check cd_Plan_p_check ct_Plan_p_check), sl_Plan_p_check⟩)
    (h195 : PySem.W.codeIn K cd_Plan_p_check "Plan._check" = true)
    (h196 : PySem.W.keepIn K (.ref f_Plan_p_check) = true)
    (h197 : PySem.W.findIn K (.ref C2) "worst" = some (some (.ref f_Plan_worst)))
    (h198 : PySem.W.isFn K (.ref f_Plan_worst) = true)
    (h199 : K.lookup f_Plan_worst = some ⟨oc_Plan_worst, od_Plan_worst, .func (PySem.W.fnOf "worst" "Plan.worst" (defArgs s_Plan_worst) (defBody s_Plan_worst) (defScope s_Plan_worst) .none kV_Plan_worst dc_Plan_worst pm_Plan_worst an_Plan_worst cd_Plan_worst ct_Plan_worst), sl_Plan_worst⟩)
    (h200 : PySem.W.codeIn K cd_Plan_worst "Plan.worst" = true)
    (h201 : PySem.W.keepIn K (.ref f_Plan_worst) = true)
    (h202 : PySem.W.findIn K (.ref C2) "is_kept" = some (some (.ref f_Plan_is_kept)))
    (h203 : PySem.W.isFn K (.ref f_Plan_is_kept) = true)
    (h204 : K.lookup f_Plan_is_kept = some ⟨oc_Plan_is_kept, od_Plan_is_kept, .func (PySem.W.fnOf "is_kept" "Plan.is_kept" (defArgs s_Plan_is_kept) (defBody s_Plan_is_kept) (defScope s_Plan_is_kept) .none kV_Plan_is_kept dc_Plan_is_kept pm_Plan_is_kept an_Plan_is_kept cd_Plan_is_kept ct_Plan_is_kept), sl_Plan_is_kept⟩)
    (h205 : PySem.W.codeIn K cd_Plan_is_kept "Plan.is_kept" = true)
    (h206 : PySem.W.keepIn K (.ref f_Plan_is_kept) = true)
    (h207 : PySem.W.findIn K (.ref C2) "levels" = some (some (.ref f_Plan_levels)))
    (h208 : PySem.W.isFn K (.ref f_Plan_levels) = true)
    (h209 : K.lookup f_Plan_levels = some ⟨oc_Plan_levels, od_Plan_levels, .func (PySem.W.fnOf "levels" "Plan.levels" (defArgs s_Plan_levels) (defBody s_Plan_levels) (defScope s_Plan_levels) .none kV_Plan_levels dc_Plan_levels pm_Plan_levels an_Plan_levels cd_Plan_levels ct_Plan_levels), sl_Plan_levels⟩)
    (h210 : PySem.W.codeIn K cd_Plan_levels "Plan.levels" = true)
    (h211 : PySem.W.keepIn K (.ref f_Plan_levels) = true)
    (h212 : PySem.W.nsIn K mainGlobals "stretches" = some (some (.ref f_stretches)))
    (h213 : K.lookup f_stretches = some ⟨oc_stretches, od_stretches, .func (PySem.W.fnOf "stretches" "stretches" (defArgs s_stretches) (defBody s_stretches) (defScope s_stretches) .none kV_stretches dc_stretches pm_stretches an_stretches cd_stretches ct_stretches), sl_stretches⟩)
    (h214 : PySem.W.codeIn K cd_stretches "stretches" = true)
    (h215 : PySem.W.keepIn K (.ref f_stretches) = true)
    (h216 : PySem.W.nsIn K mainGlobals "_with_levels" = some (some (.ref f_with_levels)))
    (h217 : K.lookup f_with_levels = some ⟨oc_with_levels, od_with_levels, .func (PySem.W.fnOf "_with_levels" "_with_levels" (defArgs s_with_levels) (defBody s_with_levels) (defScope s_with_levels) .none kV_with_levels dc_with_levels pm_with_levels an_with_levels cd_with_levels ct_with_levels), sl_with_levels⟩)
    (h218 : PySem.W.codeIn K cd_with_levels "_with_levels" = true)
    (h219 : PySem.W.keepIn K (.ref f_with_levels) = true)
    (h220 : PySem.W.nsIn K mainGlobals "kept_paper" = some (some (.ref f_kept_paper)))
    (h221 : K.lookup f_kept_paper = some ⟨oc_kept_paper, od_kept_paper, .func (PySem.W.fnOf "kept_paper" "kept_paper" (defArgs s_kept_paper) (defBody s_kept_paper) (defScope s_kept_paper) .none kV_kept_paper dc_kept_paper pm_kept_paper an_kept_paper cd_kept_paper ct_kept_paper), sl_kept_paper⟩)
    (h222 : PySem.W.codeIn K cd_kept_paper "kept_paper" = true)
    (h223 : PySem.W.keepIn K (.ref f_kept_paper) = true)
    (h224 : PySem.W.nsIn K mainGlobals "_lost_levels" = some (some (.ref f_lost_levels)))
    (h225 : K.lookup f_lost_levels = some ⟨oc_lost_levels, od_lost_levels, .func (PySem.W.fnOf "_lost_levels" "_lost_levels" (defArgs s_lost_levels) (defBody s_lost_levels) (defScope s_lost_levels) .none kV_lost_levels dc_lost_levels pm_lost_levels an_lost_levels cd_lost_levels ct_lost_levels), sl_lost_levels⟩)
    (h226 : PySem.W.codeIn K cd_lost_levels "_lost_levels" = true)
    (h227 : PySem.W.keepIn K (.ref f_lost_levels) = true)
    (h228 : PySem.W.nsIn K mainGlobals "lost_paper" = some (some (.ref f_lost_paper)))
    (h229 : K.lookup f_lost_paper = some ⟨oc_lost_paper, od_lost_paper, .func (PySem.W.fnOf "lost_paper" "lost_paper" (defArgs s_lost_paper) (defBody s_lost_paper) (defScope s_lost_paper) .none kV_lost_paper dc_lost_paper pm_lost_paper an_lost_paper cd_lost_paper ct_lost_paper), sl_lost_paper⟩)
    (h230 : PySem.W.codeIn K cd_lost_paper "lost_paper" = true)
    (h231 : PySem.W.keepIn K (.ref f_lost_paper) = true)
    (h232 : PySem.W.nsIn K mainGlobals "_law_actions" = some (some (.ref f_law_actions)))
    (h233 : K.lookup f_law_actions = some ⟨oc_law_actions, od_law_actions, .func (PySem.W.fnOf "_law_actions" "_law_actions" (defArgs s_law_actions) (defBody s_law_actions) (defScope s_law_actions) .none kV_law_actions dc_law_actions pm_law_actions an_law_actions cd_law_actions ct_law_actions), sl_law_actions⟩)
    (h234 : PySem.W.codeIn K cd_law_actions "_law_actions" = true)
    (h235 : PySem.W.keepIn K (.ref f_law_actions) = true)
    (h236 : PySem.W.nsIn K mainGlobals "_law_keeps" = some (some (.ref f_law_keeps)))
    (h237 : K.lookup f_law_keeps = some ⟨oc_law_keeps, od_law_keeps, .func (PySem.W.fnOf "_law_keeps" "_law_keeps" (defArgs s_law_keeps) (defBody s_law_keeps) (defScope s_law_keeps) .none kV_law_keeps dc_law_keeps pm_law_keeps an_law_keeps cd_law_keeps ct_law_keeps), sl_law_keeps⟩)
    (h238 : PySem.W.codeIn K cd_law_keeps "_law_keeps" = true)
    (h239 : PySem.W.keepIn K (.ref f_law_keeps) = true)
    (h240 : PySem.W.nsIn K mainGlobals "_law_kept" = some (some (.ref f_law_kept)))
    (h241 : K.lookup f_law_kept = some ⟨oc_law_kept, od_law_kept, .func (PySem.W.fnOf "_law_kept" "_law_kept" (defArgs s_law_kept) (defBody s_law_kept) (defScope s_law_kept) .none kV_law_kept dc_law_kept pm_law_kept an_law_kept cd_law_kept ct_law_kept), sl_law_kept⟩)
    (h242 : PySem.W.codeIn K cd_law_kept "_law_kept" = true)
    (h243 : PySem.W.keepIn K (.ref f_law_kept) = true)
    (h244 : PySem.W.nsIn K mainGlobals "_law_stretches" = some (some (.ref f_law_stretches)))
    (h245 : K.lookup f_law_stretches = some ⟨oc_law_stretches, od_law_stretches, .func (PySem.W.fnOf "_law_stretches" "_law_stretches" (defArgs s_law_stretches) (defBody s_law_stretches) (defScope s_law_stretches) .none kV_law_stretches dc_law_stretches pm_law_stretches an_law_stretches cd_law_stretches ct_law_stretches), sl_law_stretches⟩)
    (h246 : PySem.W.codeIn K cd_law_stretches "_law_stretches" = true)
    (h247 : PySem.W.keepIn K (.ref f_law_stretches) = true)
    (h248 : PySem.W.nsIn K mainGlobals "_law_rows" = some (some (.ref f_law_rows)))
    (h249 : K.lookup f_law_rows = some ⟨oc_law_rows, od_law_rows, .func (PySem.W.fnOf "_law_rows" "_law_rows" (defArgs s_law_rows) (defBody s_law_rows) (defScope s_law_rows) .none kV_law_rows dc_law_rows pm_law_rows an_law_rows cd_law_rows ct_law_rows), sl_law_rows⟩)
    (h250 : PySem.W.codeIn K cd_law_rows "_law_rows" = true)
    (h251 : PySem.W.keepIn K (.ref f_law_rows) = true)
    (h252 : PySem.W.nsIn K mainGlobals "_law_flags_right" = some (some (.ref f_law_flags_right)))
    (h253 : K.lookup f_law_flags_right = some ⟨oc_law_flags_right, od_law_flags_right, .func (PySem.W.fnOf "_law_flags_right" "_law_flags_right" (defArgs s_law_flags_right) (defBody s_law_flags_right) (defScope s_law_flags_right) .none kV_law_flags_right dc_law_flags_right pm_law_flags_right an_law_flags_right cd_law_flags_right ct_law_flags_right), sl_law_flags_right⟩)
    (h254 : PySem.W.codeIn K cd_law_flags_right "_law_flags_right" = true)
    (h255 : PySem.W.keepIn K (.ref f_law_flags_right) = true)
    (h256 : PySem.W.nsIn K mainGlobals "law" = some (some (.ref f_law)))
    (h257 : K.lookup f_law = some ⟨oc_law, od_law, .func (PySem.W.fnOf "law" "law" (defArgs s_law) (defBody s_law) (defScope s_law) .none kV_law dc_law pm_law an_law cd_law ct_law), sl_law⟩)
    (h258 : PySem.W.codeIn K cd_law "law" = true)
    (h259 : PySem.W.keepIn K (.ref f_law) = true)
    (h260 : PySem.W.nsIn K mainGlobals "len" = some none)
    (h261 : PySem.W.nsIn K mainGlobals "range" = some none)
    (h262 : PySem.W.nsIn K mainGlobals "min" = some none)
    (h263 : PySem.W.nsIn K mainGlobals "max" = some none)
    (h264 : PySem.W.nsIn K mainGlobals "int" = some none)
    (h265 : PySem.W.nsIn K mainGlobals "isinstance" = some none)
    (h266 : PySem.W.nsIn K mainGlobals "list" = some none)
    (h267 : PySem.W.nsIn K mainGlobals "tuple" = some none)
    (h268 : PySem.W.nsIn K mainGlobals "sorted" = some none)
    (h269 : PySem.W.nsIn K mainGlobals "enumerate" = some none)
    (h270 : PySem.W.nsIn K mainGlobals "zip" = some none)
    (h271 : PySem.W.nsIn K mainGlobals "all" = some none)
    (h272 : PySem.W.nsIn K mainGlobals "any" = some none)
    (h273 : PySem.W.nsIn K mainGlobals "bool" = some none)
    (h274 : PySem.W.nsIn K mainGlobals "dict" = some none)
    (h275 : PySem.W.nsIn K mainGlobals "str" = some none)
    (h276 : PySem.W.nsIn K mainGlobals "sum" = some none)
    (h277 : PySem.W.nsIn K mainGlobals "reversed" = some none)
    (h278 : PySem.W.nsIn K mainGlobals "ValueError" = some none) :
    ∃ fd : FuncData, (∀ (s : Shared) (v : Value), BindsTo s fd ⟨[v], []⟩ [("script", v)]) ∧ ∀ base : Heap, K.In base → base.Ns mainGlobals mg → FnOk PP w K mg base (L2.CX PP w) 9 fa fd ["script"] (lawSp 63 K) := by
  have e := hfa.symm.trans (PySem.W.mg_of X G h256)
  cases e
  let T : Tx w K mg := {
    cls := (fun n_ => match n_ with | 0 => C0 | 1 => C1 | 2 => C2 | 10 => C10 | 11 => C11 | 12 => C12 | 13 => C13 | 16 => C16 | _ => 0)
    e_InvalidWorks := ⟨PySem.W.mg_of X G h3, h8, h9, h10, h11⟩
    e_InvalidCourse := ⟨PySem.W.mg_of X G h4, h12, h13, h14, h15⟩
    e_InvalidState := ⟨PySem.W.mg_of X G h5, h16, h17, h18, h19⟩
    e_InvalidMove := ⟨PySem.W.mg_of X G h6, h20, h21, h22, h23⟩
    c_MOST_LEVEL := ⟨_, PySem.W.mg_of X G h24⟩
    c_MOST_FLOW := ⟨_, PySem.W.mg_of X G h25⟩
    c_MOST_PUMP := ⟨_, PySem.W.mg_of X G h26⟩
    c_MOST_REST := ⟨_, PySem.W.mg_of X G h27⟩
    c_MOST_HOURS := ⟨_, PySem.W.mg_of X G h28⟩
    c_MOST_BOUND := ⟨_, PySem.W.mg_of X G h29⟩
    c__LOST := ⟨_, PySem.W.mg_of X G h30⟩
    cl_0 := ⟨h31, h32, h33, h34⟩
    g_Works := PySem.W.mg_of X G h0
    na_wall := h35
    na_flow := h36
    na_pump := h37
    na_rest := h38
    na_deep := h39
    cl_1 := ⟨h40, h41, h42, h43⟩
    g_Course := PySem.W.mg_of X G h1
    na_hours := h44
    cl_2 := ⟨h45, h46, h47, h48⟩
    g_Plan := PySem.W.mg_of X G h2
    na_works := h49
    na_course := h50
    na__costs := h51
    na__worst := h52
    a_is_whole := f_is_whole
    fd_is_whole := PySem.W.fnOf "is_whole" "is_whole" (defArgs s_is_whole) (defBody s_is_whole) (defScope s_is_whole) .none kV_is_whole dc_is_whole pm_is_whole an_is_whole cd_is_whole ct_is_whole
    F_is_whole := fun_mk (st := s_is_whole) h54 h55 h56
    k_is_whole := h56
    b_is_whole := (fun_mk (st := s_is_whole) h54 h55 h56).binds fun _ _ _ _ _ _ us hl => match us, hl with | [_, _, _], _ => rfl
    g_is_whole := PySem.W.mg_of X G h53
    a_check_works_number := f_check_works_number
    fd_check_works_number := PySem.W.fnOf "_check_works_number" "_check_works_number" (defArgs s_check_works_number) (defBody s_check_works_number) (defScope s_check_works_number) .none kV_check_works_number dc_check_works_number pm_check_works_number an_check_works_number cd_check_works_number ct_check_works_number
    F_check_works_number := fun_mk (st := s_check_works_number) h58 h59 h60
    k_check_works_number := h60
    b_check_works_number := (fun_mk (st := s_check_works_number) h58 h59 h60).binds fun _ _ _ _ _ _ us hl => match us, hl with | [_, _, _, _], _ => rfl
    g_check_works_number := PySem.W.mg_of X G h57
    a_Works_next_level := f_Works_next_level
    fd_Works_next_level := PySem.W.fnOf "next_level" "Works.next_level" (defArgs s_Works_next_level) (defBody s_Works_next_level) (defScope s_Works_next_level) .none kV_Works_next_level dc_Works_next_level pm_Works_next_level an_Works_next_level cd_Works_next_level ct_Works_next_level
    F_Works_next_level := fun_mk (st := s_Works_next_level) h63 h64 h65
    b_Works_next_level := (fun_mk (st := s_Works_next_level) h63 h64 h65).binds fun _ _ _ _ _ _ us hl => match us, hl with | [_, _, _, _, _], _ => rfl
    m_Works_next_level := ⟨h61, h62, h65⟩
    a_Works_check_state := f_Works_check_state
    fd_Works_check_state := PySem.W.fnOf "check_state" "Works.check_state" (defArgs s_Works_check_state) (defBody s_Works_check_state) (defScope s_Works_check_state) .none kV_Works_check_state dc_Works_check_state pm_Works_check_state an_Works_check_state cd_Works_check_state ct_Works_check_state
    F_Works_check_state := fun_mk (st := s_Works_check_state) h68 h69 h70
    b_Works_check_state := (fun_mk (st := s_Works_check_state) h68 h69 h70).binds fun _ _ _ _ _ _ us hl => match us, hl with | [_, _], _ => rfl
    m_Works_check_state := ⟨h66, h67, h70⟩
    a_Works_may_move := f_Works_may_move
    fd_Works_may_move := PySem.W.fnOf "may_move" "Works.may_move" (defArgs s_Works_may_move) (defBody s_Works_may_move) (defScope s_Works_may_move) .none kV_Works_may_move dc_Works_may_move pm_Works_may_move an_Works_may_move cd_Works_may_move ct_Works_may_move
    F_Works_may_move := fun_mk (st := s_Works_may_move) h73 h74 h75
    b_Works_may_move := (fun_mk (st := s_Works_may_move) h73 h74 h75).binds fun _ _ _ _ _ _ us hl => match us, hl with | [_, _], _ => rfl
    m_Works_may_move := ⟨h71, h72, h75⟩
    a_Works_moved := f_Works_moved
    fd_Works_moved := PySem.W.fnOf "moved" "Works.moved" (defArgs s_Works_moved) (defBody s_Works_moved) (defScope s_Works_moved) .none kV_Works_moved dc_Works_moved pm_Works_moved an_Works_moved cd_Works_moved ct_Works_moved
    F_Works_moved := fun_mk (st := s_Works_moved) h78 h79 h80
    b_Works_moved := (fun_mk (st := s_Works_moved) h78 h79 h80).binds fun _ _ _ _ _ _ us hl => match us, hl with | [_, _, _], _ => rfl
    m_Works_moved := ⟨h76, h77, h80⟩
    a_check_bounds := f_check_bounds
    fd_check_bounds := PySem.W.fnOf "_check_bounds" "_check_bounds" (defArgs s_check_bounds) (defBody s_check_bounds) (defScope s_check_bounds) .none kV_check_bounds dc_check_bounds pm_check_bounds an_check_bounds cd_check_bounds ct_check_bounds
    F_check_bounds := fun_mk (st := s_check_bounds) h82 h83 h84
    k_check_bounds := h84
    b_check_bounds := (fun_mk (st := s_check_bounds) h82 h83 h84).binds fun _ _ _ _ _ _ us hl => match us, hl with | [_, _], _ => rfl
    g_check_bounds := PySem.W.mg_of X G h81
    a_check_hour := f_check_hour
    fd_check_hour := PySem.W.fnOf "_check_hour" "_check_hour" (defArgs s_check_hour) (defBody s_check_hour) (defScope s_check_hour) .none kV_check_hour dc_check_hour pm_check_hour an_check_hour cd_check_hour ct_check_hour
    F_check_hour := fun_mk (st := s_check_hour) h86 h87 h88
    k_check_hour := h88
    b_check_hour := (fun_mk (st := s_check_hour) h86 h87 h88).binds fun _ _ _ _ _ _ us hl => match us, hl with | [_], _ => rfl
    g_check_hour := PySem.W.mg_of X G h85
    a_Works__init := f_Works__init
    fd_Works__init := PySem.W.fnOf "__init__" "Works.__init__" (defArgs s_Works__init) (defBody s_Works__init) (defScope s_Works__init) .none kV_Works__init dc_Works__init pm_Works__init an_Works__init cd_Works__init ct_Works__init
    F_Works__init := fun_mk (st := s_Works__init) h91 h92 h93
    b_Works__init := (fun_mk (st := s_Works__init) h91 h92 h93).binds fun _ _ _ _ _ _ us hl => match us, hl with | [_, _, _, _, _, _], _ => rfl
    mk_0 := ⟨h94, h89, h90, h95⟩
    a_Course__init := f_Course__init
    fd_Course__init := PySem.W.fnOf "__init__" "Course.__init__" (defArgs s_Course__init) (defBody s_Course__init) (defScope s_Course__init) .none kV_Course__init dc_Course__init pm_Course__init an_Course__init cd_Course__init ct_Course__init
    F_Course__init := fun_mk (st := s_Course__init) h98 h99 h100
    b_Course__init := (fun_mk (st := s_Course__init) h98 h99 h100).binds fun _ _ _ _ _ _ us hl => match us, hl with | [_, _], _ => rfl
    mk_1 := ⟨h101, h96, h97, h102⟩
    a_Course_count := f_Course_count
    fd_Course_count := PySem.W.fnOf "count" "Course.count" (defArgs s_Course_count) (defBody s_Course_count) (defScope s_Course_count) .none kV_Course_count dc_Course_count pm_Course_count an_Course_count cd_Course_count ct_Course_count
    F_Course_count := fun_mk (st := s_Course_count) h105 h106 h107
    b_Course_count := (fun_mk (st := s_Course_count) h105 h106 h107).binds fun _ _ _ _ _ _ us hl => match us, hl with | [_], _ => rfl
    m_Course_count := ⟨h103, h104, h107⟩
    a_Course_hour := f_Course_hour
    fd_Course_hour := PySem.W.fnOf "hour" "Course.hour" (defArgs s_Course_hour) (defBody s_Course_hour) (defScope s_Course_hour) .none kV_Course_hour dc_Course_hour pm_Course_hour an_Course_hour cd_Course_hour ct_Course_hour
    F_Course_hour := fun_mk (st := s_Course_hour) h110 h111 h112
    b_Course_hour := (fun_mk (st := s_Course_hour) h110 h111 h112).binds fun _ _ _ _ _ _ us hl => match us, hl with | [_, _], _ => rfl
    m_Course_hour := ⟨h108, h109, h112⟩
    a_span := f_span
    fd_span := PySem.W.fnOf "span" "span" (defArgs s_span) (defBody s_span) (defScope s_span) .none kV_span dc_span pm_span an_span cd_span ct_span
    F_span := fun_mk (st := s_span) h114 h115 h116
    k_span := h116
    b_span := (fun_mk (st := s_span) h114 h115 h116).binds fun _ _ _ _ _ _ us hl => match us, hl with | [_, _, _, _, _], _ => rfl
    g_span := PySem.W.mg_of X G h113
    a_is_good := f_is_good
    fd_is_good := PySem.W.fnOf "is_good" "is_good" (defArgs s_is_good) (defBody s_is_good) (defScope s_is_good) .none kV_is_good dc_is_good pm_is_good an_is_good cd_is_good ct_is_good
    F_is_good := fun_mk (st := s_is_good) h118 h119 h120
    k_is_good := h120
    b_is_good := (fun_mk (st := s_is_good) h118 h119 h120).binds fun _ _ _ _ _ _ us hl => match us, hl with | [_, _, _, _, _], _ => rfl
    g_is_good := PySem.W.mg_of X G h117
    a_law_cell := f_law_cell
    fd_law_cell := PySem.W.fnOf "_law_cell" "_law_cell" (defArgs s_law_cell) (defBody s_law_cell) (defScope s_law_cell) .none kV_law_cell dc_law_cell pm_law_cell an_law_cell cd_law_cell ct_law_cell
    F_law_cell := fun_mk (st := s_law_cell) h122 h123 h124
    k_law_cell := h124
    b_law_cell := (fun_mk (st := s_law_cell) h122 h123 h124).binds fun _ _ _ _ _ _ us hl => match us, hl with | [_, _], _ => rfl
    g_law_cell := PySem.W.mg_of X G h121
    a_law_works := f_law_works
    fd_law_works := PySem.W.fnOf "_law_works" "_law_works" (defArgs s_law_works) (defBody s_law_works) (defScope s_law_works) .none kV_law_works dc_law_works pm_law_works an_law_works cd_law_works ct_law_works
    F_law_works := fun_mk (st := s_law_works) h126 h127 h128
    k_law_works := h128
    b_law_works := (fun_mk (st := s_law_works) h126 h127 h128).binds fun _ _ _ _ _ _ us hl => match us, hl with | [_], _ => rfl
    g_law_works := PySem.W.mg_of X G h125
    a_law_hours := f_law_hours
    fd_law_hours := PySem.W.fnOf "_law_hours" "_law_hours" (defArgs s_law_hours) (defBody s_law_hours) (defScope s_law_hours) .none kV_law_hours dc_law_hours pm_law_hours an_law_hours cd_law_hours ct_law_hours
    F_law_hours := fun_mk (st := s_law_hours) h130 h131 h132
    k_law_hours := h132
    b_law_hours := (fun_mk (st := s_law_hours) h130 h131 h132).binds fun _ _ _ _ _ _ us hl => match us, hl with | [_], _ => rfl
    g_law_hours := PySem.W.mg_of X G h129
    a_law_next := f_law_next
    fd_law_next := PySem.W.fnOf "_law_next" "_law_next" (defArgs s_law_next) (defBody s_law_next) (defScope s_law_next) .none kV_law_next dc_law_next pm_law_next an_law_next cd_law_next ct_law_next
    F_law_next := fun_mk (st := s_law_next) h134 h135 h136
    k_law_next := h136
    b_law_next := (fun_mk (st := s_law_next) h134 h135 h136).binds fun _ _ _ _ _ _ us hl => match us, hl with | [_, _, _, _, _], _ => rfl
    g_law_next := PySem.W.mg_of X G h133
    a_law_since := f_law_since
    fd_law_since := PySem.W.fnOf "_law_since" "_law_since" (defArgs s_law_since) (defBody s_law_since) (defScope s_law_since) .none kV_law_since dc_law_since pm_law_since an_law_since cd_law_since ct_law_since
    F_law_since := fun_mk (st := s_law_since) h138 h139 h140
    k_law_since := h140
    b_law_since := (fun_mk (st := s_law_since) h138 h139 h140).binds fun _ _ _ _ _ _ us hl => match us, hl with | [_, _, _], _ => rfl
    g_law_since := PySem.W.mg_of X G h137
    a_law_good := f_law_good
    fd_law_good := PySem.W.fnOf "_law_good" "_law_good" (defArgs s_law_good) (defBody s_law_good) (defScope s_law_good) .none kV_law_good dc_law_good pm_law_good an_law_good cd_law_good ct_law_good
    F_law_good := fun_mk (st := s_law_good) h142 h143 h144
    k_law_good := h144
    b_law_good := (fun_mk (st := s_law_good) h142 h143 h144).binds fun _ _ _ _ _ _ us hl => match us, hl with | [_, _, _, _], _ => rfl
    g_law_good := PySem.W.mg_of X G h141
    a_law_states := f_law_states
    fd_law_states := PySem.W.fnOf "_law_states" "_law_states" (defArgs s_law_states) (defBody s_law_states) (defScope s_law_states) .none kV_law_states dc_law_states pm_law_states an_law_states cd_law_states ct_law_states
    F_law_states := fun_mk (st := s_law_states) h146 h147 h148
    k_law_states := h148
    b_law_states := (fun_mk (st := s_law_states) h146 h147 h148).binds fun _ _ _ _ _ _ us hl => match us, hl with | [_], _ => rfl
    g_law_states := PySem.W.mg_of X G h145
    a_law_levels := f_law_levels
    fd_law_levels := PySem.W.fnOf "_law_levels" "_law_levels" (defArgs s_law_levels) (defBody s_law_levels) (defScope s_law_levels) .none kV_law_levels dc_law_levels pm_law_levels an_law_levels cd_law_levels ct_law_levels
    F_law_levels := fun_mk (st := s_law_levels) h150 h151 h152
    k_law_levels := h152
    b_law_levels := (fun_mk (st := s_law_levels) h150 h151 h152).binds fun _ _ _ _ _ _ us hl => match us, hl with | [_, _, _, _], _ => rfl
    g_law_levels := PySem.W.mg_of X G h149
    a_gates := f_gates
    fd_gates := PySem.W.fnOf "gates" "gates" (defArgs s_gates) (defBody s_gates) (defScope s_gates) .none kV_gates dc_gates pm_gates an_gates cd_gates ct_gates
    F_gates := fun_mk (st := s_gates) h154 h155 h156
    k_gates := h156
    b_gates := (fun_mk (st := s_gates) h154 h155 h156).binds fun _ _ _ _ _ _ us hl => match us, hl with | [_], _ => rfl
    g_gates := PySem.W.mg_of X G h153
    a_allowed_actions := f_allowed_actions
    fd_allowed_actions := PySem.W.fnOf "allowed_actions" "allowed_actions" (defArgs s_allowed_actions) (defBody s_allowed_actions) (defScope s_allowed_actions) .none kV_allowed_actions dc_allowed_actions pm_allowed_actions an_allowed_actions cd_allowed_actions ct_allowed_actions
    F_allowed_actions := fun_mk (st := s_allowed_actions) h158 h159 h160
    k_allowed_actions := h160
    b_allowed_actions := (fun_mk (st := s_allowed_actions) h158 h159 h160).binds fun _ _ _ _ _ _ us hl => match us, hl with | [_, _], _ => rfl
    g_allowed_actions := PySem.W.mg_of X G h157
    a_good_spans := f_good_spans
    fd_good_spans := PySem.W.fnOf "good_spans" "good_spans" (defArgs s_good_spans) (defBody s_good_spans) (defScope s_good_spans) .none kV_good_spans dc_good_spans pm_good_spans an_good_spans cd_good_spans ct_good_spans
    F_good_spans := fun_mk (st := s_good_spans) h162 h163 h164
    k_good_spans := h164
    b_good_spans := (fun_mk (st := s_good_spans) h162 h163 h164).binds fun _ _ _ _ _ _ us hl => match us, hl with | [_, _, _, _], _ => rfl
    g_good_spans := PySem.W.mg_of X G h161
    a_told := f_told
    fd_told := PySem.W.fnOf "_told" "_told" (defArgs s_told) (defBody s_told) (defScope s_told) .none kV_told dc_told pm_told an_told cd_told ct_told
    F_told := fun_mk (st := s_told) h166 h167 h168
    k_told := h168
    b_told := (fun_mk (st := s_told) h166 h167 h168).binds fun _ _ _ _ _ _ us hl => match us, hl with | [_], _ => rfl
    g_told := PySem.W.mg_of X G h165
    a_end_worst := f_end_worst
    fd_end_worst := PySem.W.fnOf "_end_worst" "_end_worst" (defArgs s_end_worst) (defBody s_end_worst) (defScope s_end_worst) .none kV_end_worst dc_end_worst pm_end_worst an_end_worst cd_end_worst ct_end_worst
    F_end_worst := fun_mk (st := s_end_worst) h170 h171 h172
    k_end_worst := h172
    b_end_worst := (fun_mk (st := s_end_worst) h170 h171 h172).binds fun _ _ _ _ _ _ us hl => match us, hl with | [_], _ => rfl
    g_end_worst := PySem.W.mg_of X G h169
    a_worst_case := f_worst_case
    fd_worst_case := PySem.W.fnOf "_worst_case" "_worst_case" (defArgs s_worst_case) (defBody s_worst_case) (defScope s_worst_case) .none kV_worst_case dc_worst_case pm_worst_case an_worst_case cd_worst_case ct_worst_case
    F_worst_case := fun_mk (st := s_worst_case) h174 h175 h176
    k_worst_case := h176
    b_worst_case := (fun_mk (st := s_worst_case) h174 h175 h176).binds fun _ _ _ _ _ _ us hl => match us, hl with | [_, _, _], _ => rfl
    g_worst_case := PySem.W.mg_of X G h173
    a_hour_costs := f_hour_costs
    fd_hour_costs := PySem.W.fnOf "_hour_costs" "_hour_costs" (defArgs s_hour_costs) (defBody s_hour_costs) (defScope s_hour_costs) .none kV_hour_costs dc_hour_costs pm_hour_costs an_hour_costs cd_hour_costs ct_hour_costs
    F_hour_costs := fun_mk (st := s_hour_costs) h178 h179 h180
    k_hour_costs := h180
    b_hour_costs := (fun_mk (st := s_hour_costs) h178 h179 h180).binds fun _ _ _ _ _ _ us hl => match us, hl with | [_, _, _, _], _ => rfl
    g_hour_costs := PySem.W.mg_of X G h177
    a_hour_worst := f_hour_worst
    fd_hour_worst := PySem.W.fnOf "_hour_worst" "_hour_worst" (defArgs s_hour_worst) (defBody s_hour_worst) (defScope s_hour_worst) .none kV_hour_worst dc_hour_worst pm_hour_worst an_hour_worst cd_hour_worst ct_hour_worst
    F_hour_worst := fun_mk (st := s_hour_worst) h182 h183 h184
    k_hour_worst := h184
    b_hour_worst := (fun_mk (st := s_hour_worst) h182 h183 h184).binds fun _ _ _ _ _ _ us hl => match us, hl with | [_, _], _ => rfl
    g_hour_worst := PySem.W.mg_of X G h181
    a_Plan__init := f_Plan__init
    fd_Plan__init := PySem.W.fnOf "__init__" "Plan.__init__" (defArgs s_Plan__init) (defBody s_Plan__init) (defScope s_Plan__init) .none kV_Plan__init dc_Plan__init pm_Plan__init an_Plan__init cd_Plan__init ct_Plan__init
    F_Plan__init := fun_mk (st := s_Plan__init) h187 h188 h189
    b_Plan__init := (fun_mk (st := s_Plan__init) h187 h188 h189).binds fun _ _ _ _ _ _ us hl => match us, hl with | [_, _, _], _ => rfl
    mk_2 := ⟨h190, h185, h186, h191⟩
    a_Plan_p_check := f_Plan_p_check
    fd_Plan_p_check := PySem.W.fnOf "_check" "Plan._check" (defArgs s_Plan_p_check) (defBody s_Plan_p_check) (defScope s_Plan_p_check) .none kV_Plan_p_check dc_Plan_p_check pm_Plan_p_check an_Plan_p_check cd_Plan_p_check ct_Plan_p_check
    F_Plan_p_check := fun_mk (st := s_Plan_p_check) h194 h195 h196
    b_Plan_p_check := (fun_mk (st := s_Plan_p_check) h194 h195 h196).binds fun _ _ _ _ _ _ us hl => match us, hl with | [_, _, _], _ => rfl
    m_Plan_p_check := ⟨h192, h193, h196⟩
    a_Plan_worst := f_Plan_worst
    fd_Plan_worst := PySem.W.fnOf "worst" "Plan.worst" (defArgs s_Plan_worst) (defBody s_Plan_worst) (defScope s_Plan_worst) .none kV_Plan_worst dc_Plan_worst pm_Plan_worst an_Plan_worst cd_Plan_worst ct_Plan_worst
    F_Plan_worst := fun_mk (st := s_Plan_worst) h199 h200 h201
    b_Plan_worst := (fun_mk (st := s_Plan_worst) h199 h200 h201).binds fun _ _ _ _ _ _ us hl => match us, hl with | [_, _, _], _ => rfl
    m_Plan_worst := ⟨h197, h198, h201⟩
    a_Plan_is_kept := f_Plan_is_kept
    fd_Plan_is_kept := PySem.W.fnOf "is_kept" "Plan.is_kept" (defArgs s_Plan_is_kept) (defBody s_Plan_is_kept) (defScope s_Plan_is_kept) .none kV_Plan_is_kept dc_Plan_is_kept pm_Plan_is_kept an_Plan_is_kept cd_Plan_is_kept ct_Plan_is_kept
    F_Plan_is_kept := fun_mk (st := s_Plan_is_kept) h204 h205 h206
    b_Plan_is_kept := (fun_mk (st := s_Plan_is_kept) h204 h205 h206).binds fun _ _ _ _ _ _ us hl => match us, hl with | [_, _, _], _ => rfl
    m_Plan_is_kept := ⟨h202, h203, h206⟩
    a_Plan_levels := f_Plan_levels
    fd_Plan_levels := PySem.W.fnOf "levels" "Plan.levels" (defArgs s_Plan_levels) (defBody s_Plan_levels) (defScope s_Plan_levels) .none kV_Plan_levels dc_Plan_levels pm_Plan_levels an_Plan_levels cd_Plan_levels ct_Plan_levels
    F_Plan_levels := fun_mk (st := s_Plan_levels) h209 h210 h211
    b_Plan_levels := (fun_mk (st := s_Plan_levels) h209 h210 h211).binds fun _ _ _ _ _ _ us hl => match us, hl with | [_, _, _, _], _ => rfl
    m_Plan_levels := ⟨h207, h208, h211⟩
    a_stretches := f_stretches
    fd_stretches := PySem.W.fnOf "stretches" "stretches" (defArgs s_stretches) (defBody s_stretches) (defScope s_stretches) .none kV_stretches dc_stretches pm_stretches an_stretches cd_stretches ct_stretches
    F_stretches := fun_mk (st := s_stretches) h213 h214 h215
    k_stretches := h215
    b_stretches := (fun_mk (st := s_stretches) h213 h214 h215).binds fun _ _ _ _ _ _ us hl => match us, hl with | [_], _ => rfl
    g_stretches := PySem.W.mg_of X G h212
    a_with_levels := f_with_levels
    fd_with_levels := PySem.W.fnOf "_with_levels" "_with_levels" (defArgs s_with_levels) (defBody s_with_levels) (defScope s_with_levels) .none kV_with_levels dc_with_levels pm_with_levels an_with_levels cd_with_levels ct_with_levels
    F_with_levels := fun_mk (st := s_with_levels) h217 h218 h219
    k_with_levels := h219
    b_with_levels := (fun_mk (st := s_with_levels) h217 h218 h219).binds fun _ _ _ _ _ _ us hl => match us, hl with | [_], _ => rfl
    g_with_levels := PySem.W.mg_of X G h216
    a_kept_paper := f_kept_paper
    fd_kept_paper := PySem.W.fnOf "kept_paper" "kept_paper" (defArgs s_kept_paper) (defBody s_kept_paper) (defScope s_kept_paper) .none kV_kept_paper dc_kept_paper pm_kept_paper an_kept_paper cd_kept_paper ct_kept_paper
    F_kept_paper := fun_mk (st := s_kept_paper) h221 h222 h223
    k_kept_paper := h223
    b_kept_paper := (fun_mk (st := s_kept_paper) h221 h222 h223).binds fun _ _ _ _ _ _ us hl => match us, hl with | [_], _ => rfl
    g_kept_paper := PySem.W.mg_of X G h220
    a_lost_levels := f_lost_levels
    fd_lost_levels := PySem.W.fnOf "_lost_levels" "_lost_levels" (defArgs s_lost_levels) (defBody s_lost_levels) (defScope s_lost_levels) .none kV_lost_levels dc_lost_levels pm_lost_levels an_lost_levels cd_lost_levels ct_lost_levels
    F_lost_levels := fun_mk (st := s_lost_levels) h225 h226 h227
    k_lost_levels := h227
    b_lost_levels := (fun_mk (st := s_lost_levels) h225 h226 h227).binds fun _ _ _ _ _ _ us hl => match us, hl with | [_, _, _, _], _ => rfl
    g_lost_levels := PySem.W.mg_of X G h224
    a_lost_paper := f_lost_paper
    fd_lost_paper := PySem.W.fnOf "lost_paper" "lost_paper" (defArgs s_lost_paper) (defBody s_lost_paper) (defScope s_lost_paper) .none kV_lost_paper dc_lost_paper pm_lost_paper an_lost_paper cd_lost_paper ct_lost_paper
    F_lost_paper := fun_mk (st := s_lost_paper) h229 h230 h231
    k_lost_paper := h231
    b_lost_paper := (fun_mk (st := s_lost_paper) h229 h230 h231).binds fun _ _ _ _ _ _ us hl => match us, hl with | [_], _ => rfl
    g_lost_paper := PySem.W.mg_of X G h228
    a_law_actions := f_law_actions
    fd_law_actions := PySem.W.fnOf "_law_actions" "_law_actions" (defArgs s_law_actions) (defBody s_law_actions) (defScope s_law_actions) .none kV_law_actions dc_law_actions pm_law_actions an_law_actions cd_law_actions ct_law_actions
    F_law_actions := fun_mk (st := s_law_actions) h233 h234 h235
    k_law_actions := h235
    b_law_actions := (fun_mk (st := s_law_actions) h233 h234 h235).binds fun _ _ _ _ _ _ us hl => match us, hl with | [_, _], _ => rfl
    g_law_actions := PySem.W.mg_of X G h232
    a_law_keeps := f_law_keeps
    fd_law_keeps := PySem.W.fnOf "_law_keeps" "_law_keeps" (defArgs s_law_keeps) (defBody s_law_keeps) (defScope s_law_keeps) .none kV_law_keeps dc_law_keeps pm_law_keeps an_law_keeps cd_law_keeps ct_law_keeps
    F_law_keeps := fun_mk (st := s_law_keeps) h237 h238 h239
    k_law_keeps := h239
    b_law_keeps := (fun_mk (st := s_law_keeps) h237 h238 h239).binds fun _ _ _ _ _ _ us hl => match us, hl with | [_, _, _, _, _], _ => rfl
    g_law_keeps := PySem.W.mg_of X G h236
    a_law_kept := f_law_kept
    fd_law_kept := PySem.W.fnOf "_law_kept" "_law_kept" (defArgs s_law_kept) (defBody s_law_kept) (defScope s_law_kept) .none kV_law_kept dc_law_kept pm_law_kept an_law_kept cd_law_kept ct_law_kept
    F_law_kept := fun_mk (st := s_law_kept) h241 h242 h243
    k_law_kept := h243
    b_law_kept := (fun_mk (st := s_law_kept) h241 h242 h243).binds fun _ _ _ _ _ _ us hl => match us, hl with | [_, _], _ => rfl
    g_law_kept := PySem.W.mg_of X G h240
    a_law_stretches := f_law_stretches
    fd_law_stretches := PySem.W.fnOf "_law_stretches" "_law_stretches" (defArgs s_law_stretches) (defBody s_law_stretches) (defScope s_law_stretches) .none kV_law_stretches dc_law_stretches pm_law_stretches an_law_stretches cd_law_stretches ct_law_stretches
    F_law_stretches := fun_mk (st := s_law_stretches) h245 h246 h247
    k_law_stretches := h247
    b_law_stretches := (fun_mk (st := s_law_stretches) h245 h246 h247).binds fun _ _ _ _ _ _ us hl => match us, hl with | [_], _ => rfl
    g_law_stretches := PySem.W.mg_of X G h244
    a_law_rows := f_law_rows
    fd_law_rows := PySem.W.fnOf "_law_rows" "_law_rows" (defArgs s_law_rows) (defBody s_law_rows) (defScope s_law_rows) .none kV_law_rows dc_law_rows pm_law_rows an_law_rows cd_law_rows ct_law_rows
    F_law_rows := fun_mk (st := s_law_rows) h249 h250 h251
    k_law_rows := h251
    b_law_rows := (fun_mk (st := s_law_rows) h249 h250 h251).binds fun _ _ _ _ _ _ us hl => match us, hl with | [_, _, _, _], _ => rfl
    g_law_rows := PySem.W.mg_of X G h248
    a_law_flags_right := f_law_flags_right
    fd_law_flags_right := PySem.W.fnOf "_law_flags_right" "_law_flags_right" (defArgs s_law_flags_right) (defBody s_law_flags_right) (defScope s_law_flags_right) .none kV_law_flags_right dc_law_flags_right pm_law_flags_right an_law_flags_right cd_law_flags_right ct_law_flags_right
    F_law_flags_right := fun_mk (st := s_law_flags_right) h253 h254 h255
    k_law_flags_right := h255
    b_law_flags_right := (fun_mk (st := s_law_flags_right) h253 h254 h255).binds fun _ _ _ _ _ _ us hl => match us, hl with | [_], _ => rfl
    g_law_flags_right := PySem.W.mg_of X G h252
    a_law := fa
    fd_law := PySem.W.fnOf "law" "law" (defArgs s_law) (defBody s_law) (defScope s_law) .none kV_law dc_law pm_law an_law cd_law ct_law
    F_law := fun_mk (st := s_law) h257 h258 h259
    nogl := List.forall_mem_cons.mpr ⟨PySem.W.mg_none_of X G h260, List.forall_mem_cons.mpr ⟨PySem.W.mg_none_of X G h261, List.forall_mem_cons.mpr ⟨PySem.W.mg_none_of X G h262, List.forall_mem_cons.mpr ⟨PySem.W.mg_none_of X G h263, List.forall_mem_cons.mpr ⟨PySem.W.mg_none_of X G h264, List.forall_mem_cons.mpr ⟨PySem.W.mg_none_of X G h265, List.forall_mem_cons.mpr ⟨PySem.W.mg_none_of X G h266, List.forall_mem_cons.mpr ⟨PySem.W.mg_none_of X G h267, List.forall_mem_cons.mpr ⟨PySem.W.mg_none_of X G h268, List.forall_mem_cons.mpr ⟨PySem.W.mg_none_of X G h269, List.forall_mem_cons.mpr ⟨PySem.W.mg_none_of X G h270, List.forall_mem_cons.mpr ⟨PySem.W.mg_none_of X G h271, List.forall_mem_cons.mpr ⟨PySem.W.mg_none_of X G h272, List.forall_mem_cons.mpr ⟨PySem.W.mg_none_of X G h273, List.forall_mem_cons.mpr ⟨PySem.W.mg_none_of X G h274, List.forall_mem_cons.mpr ⟨PySem.W.mg_none_of X G h275, List.forall_mem_cons.mpr ⟨PySem.W.mg_none_of X G h276, List.forall_mem_cons.mpr ⟨PySem.W.mg_none_of X G h277, List.forall_mem_cons.mpr ⟨PySem.W.mg_none_of X G h278, fun _ h_ => nomatch h_⟩⟩⟩⟩⟩⟩⟩⟩⟩⟩⟩⟩⟩⟩⟩⟩⟩⟩⟩ }
  exact ⟨_, fun s v => .of_eq rfl, fun base _ _ => (ok_law (PP := PP) (w := w) (base := base) T).imp (law_to fun ns hl => ⟨ns, rfl, rfl⟩)⟩
end Sk
open PySem PySem.W PyProof.Rows
set_option maxHeartbeats 0
namespace Rk
open PySem PySem.W PyProof.Rows PySem.Calls HandSHeadRun
/-- the run's equation at a world with one row's answer set -/
def RunB (r : OpenRow) (q : Program) (K : Params → Frag) (M : Nat) (loose : List PySem.Str) (row : String) (b : Bool) : Prop :=
  ∀ (w : World) (os : OsState), (endF (stepQ (denQ tabQ) r.prog (w.withFollow row b)) M r.prog (w.withFollow row b) os).map (fun s => (looksF r.prog (boot_heap w.params) s.abs, seenQ q loose (importedModules r.prog.main.body) (fun s => xlAt q [] s && recOk r.toRowW.records s) s.abs, ((K w.params).map (·.1)).map (getT s))) = some (true, openGood q loose, (K (w.withFollow row b).params).map fun x => some x.2)
theorem head_K {r : OpenRow} (q : Program) (loose : List PySem.Str) (H : Hook) {K : Params → Frag} {as : List Addr} {ek : ∀ P, as = (K P).map (·.1)} (eH : H = kHook K as ek) (K0 : Params → Frag) (eK : K0 = K) (M : Nat) (row : String) {d : DefRec} {kwd : List (PySem.Str × PySem.Expr)}
    (run0 : RunB r q K0 M loose row false) (run1 : RunB r q K0 M loose row true)
    (e : opening r.prog = plainProg r.prog.main.scope.names) (f : ∀ s, fenceModules? r.prog s = some s)
    (hdef : defOf q r.name = some (d, kwd)) (hp : r.prog.theDef r.name = some (d.params, d.body, d.scope)) (hk : kwWritten? d.params.kwonlyargs d.params.kw_defaults = some kwd)
    (hwr : (!r.writes || r.records.isEmpty) = true) (k1 : r.wellSaid = true) (ok : (chainsOk q && opensWell r.prog && (frees r.toRowW && r.within.isEmpty)) = true) (hb : r.prog.bare) (hw : r.toRowW.promised)
    (call : WalkO q loose (XL q []) H.says r.toRowW d kwd fun f vs => PySem.call f vs) : r.Holds := by
  subst eH
  subst eK
  have go : ∀ b : Bool, RunB r q K0 M loose row b → ∀ w : World, RunEq r q (kHook K0 as ek) (fun s => as.map (getT s)) M loose (w.withFollow row b) := fun b h w os => by
    have z := h w os
    rw [← ek w.params] at z
    exact z
  refine head_any (H := kHook K0 as ek) (ob := fun s => as.map (getT s)) (M := M) (loose := loose) (kwd := kwd) (d := d) (fun s => ?_) e f (fun w => ?_) hdef hp hk hwr k1 ok hb hw call
  · exact List.map_congr_left fun a _ => getT_eq s a
  · exact byRow2 row (P := fun w => RunEq r q (kHook K0 as ek) (fun s => as.map (getT s)) M loose w) (go false run0) (go true run1) w
end Rk
open PySem PySem.W PyProof.Rows PySem.Calls HandSHeadRun
def Sk.viewq : Program := view PySem.Challenge.pw_surgekept_k41_rows_of_the_papers [54]
def Sk.looseq : List PySem.Str := ([PySem.Str.ofString "_wall", PySem.Str.ofString "__name__", PySem.Str.ofString "KeepError", PySem.Str.ofString "InvalidWorks", PySem.Str.ofString "InvalidCourse", PySem.Str.ofString "InvalidState", PySem.Str.ofString "InvalidMove", PySem.Str.ofString "MOST_LEVEL", PySem.Str.ofString "MOST_FLOW", PySem.Str.ofString "MOST_PUMP", PySem.Str.ofString "MOST_REST", PySem.Str.ofString "MOST_HOURS", PySem.Str.ofString "MOST_BOUND", PySem.Str.ofString "is_whole", PySem.Str.ofString "Works", PySem.Str.ofString "Course", PySem.Str.ofString "span", PySem.Str.ofString "is_good", PySem.Str.ofString "gates", PySem.Str.ofString "allowed_actions", PySem.Str.ofString "good_spans", PySem.Str.ofString "_check_works_number", PySem.Str.ofString "_check_hour", PySem.Str.ofString "_check_bounds", PySem.Str.ofString "stretches", PySem.Str.ofString "kept_paper", PySem.Str.ofString "lost_paper", PySem.Str.ofString "_with_levels", PySem.Str.ofString "_lost_levels", PySem.Str.ofString "_LOST", PySem.Str.ofString "Plan", PySem.Str.ofString "_told", PySem.Str.ofString "_end_worst", PySem.Str.ofString "_hour_costs", PySem.Str.ofString "_hour_worst", PySem.Str.ofString "_worst_case", PySem.Str.ofString "_law_cell", PySem.Str.ofString "_law_works", PySem.Str.ofString "_law_hours", PySem.Str.ofString "_law_next"] : List PySem.Str) ++ ([PySem.Str.ofString "_law_since", PySem.Str.ofString "_law_good", PySem.Str.ofString "_law_actions", PySem.Str.ofString "_law_levels", PySem.Str.ofString "_law_states", PySem.Str.ofString "_law_keeps", PySem.Str.ofString "_law_kept", PySem.Str.ofString "_law_stretches", PySem.Str.ofString "_law_rows", PySem.Str.ofString "_law_flags_right"] : List PySem.Str)
section
local macro_rules
  | `(tactic| o_head $H) => `(tactic| exact (fun (_ : Hook) (h : _) => h) $H (by assumption))
theorem Sk.hx (h : (OpenLaw.row PySem.Challenge.rw_surgekept_k41_rows_of_the_papers).Holds) : (OpenLaw.row PySem.Challenge.rw_surgekept_k41_rows_of_the_papers).Holds := by
  k_head
end
theorem Sk.run0 : Rk.RunB (OpenLaw.row PySem.Challenge.rw_surgekept_k41_rows_of_the_papers) Sk.viewq Sk.hx.heap_1 7000 Sk.looseq "special-get-raises" false := by
  intro w os
  kernel_rfl
theorem Sk.run1 : Rk.RunB (OpenLaw.row PySem.Challenge.rw_surgekept_k41_rows_of_the_papers) Sk.viewq Sk.hx.heap_1 7000 Sk.looseq "special-get-raises" true := by
  intro w os
  kernel_rfl
local macro_rules
  | `(tactic| o_head $H) => `(tactic| (refine Rk.head_K (r := OpenLaw.row PySem.Challenge.rw_surgekept_k41_rows_of_the_papers) Sk.viewq Sk.looseq $H rfl Sk.hx.heap_1 (by kernel_rfl) 7000 "special-get-raises" Sk.run0 Sk.run1 (by kernel_rfl) (fun s => by kernel_rfl) (by rfl) (by rfl) (by rfl) (by rfl) (by first | assumption | decide +kernel) (by decide +kernel) ⟨rfl, rfl, rfl, rfl, rfl, by decide +kernel⟩ ?hw ?hc))
open_top Sk.top_head for PySem.Challenge.rw_surgekept_k41_rows_of_the_papers
theorem PySem.Challenge.cw_surgekept_k41_rows_of_the_papers_holds : PySem.Challenge.rw_surgekept_k41_rows_of_the_papers.Holds := by
  refine Sk.top_head ?_
  k_fill
  refine L2.walk_of (l := PySem.Challenge.rw_surgekept_k41_rows_of_the_papers) (n := 63) (k := 9) (x := "script") (CX := fun w => L2.CX PySem.Challenge.rw_surgekept_k41_rows_of_the_papers.prog w) (sp := fun w => Rk.lawSp 63 _) rfl (by decide) rfl ⟨rfl, by decide, by decide⟩ (fun w h Y => kIn_of Y) ?F (fun _ _ a ns hl _ hS => ⟨a, ns, rfl, hl, hS, fun _ => rfl⟩) (fun _ _ _ _ _ z => Rk.law_cx z)
  intro w mg fa h KX G hmg
  refine' Sk.all_mk KX G hmg ?h0 ?h1 ?h2 ?h3 ?h4 ?h5 ?h6 ?h7 ?h8 ?h9 ?h10 ?h11 ?h12 ?h13 ?h14 ?h15 ?h16 ?h17 ?h18 ?h19 ?h20 ?h21 ?h22 ?h23 ?h24 ?h25 ?h26 ?h27 ?h28 ?h29 ?h30 ?h31 ?h32 ?h33 ?h34 ?h35 ?h36 ?h37 ?h38 ?h39 ?h40 ?h41 ?h42 ?h43 ?h44 ?h45 ?h46 ?h47 ?h48 ?h49 ?h50 ?h51 ?h52 ?h53 ?h54 ?h55 ?h56 ?h57 ?h58 ?h59 ?h60 ?h61 ?h62 ?h63 ?h64 ?h65 ?h66 ?h67 ?h68 ?h69 ?h70 ?h71 ?h72 ?h73 ?h74 ?h75 ?h76 ?h77 ?h78 ?h79 ?h80 ?h81 ?h82 ?h83 ?h84 ?h85 ?h86 ?h87 ?h88 ?h89 ?h90 ?h91 ?h92 ?h93 ?h94 ?h95 ?h96 ?h97 ?h98 ?h99 ?h100 ?h101 ?h102 ?h103 ?h104 ?h105 ?h106 ?h107 ?h108 ?h109 ?h110 ?h111 ?h112 ?h113 ?h114 ?h115 ?h116 ?h117 ?h118 ?h119 ?h120 ?h121 ?h122 ?h123 ?h124 ?h125 ?h126 ?h127 ?h128 ?h129 ?h130 ?h131 ?h132 ?h133 ?h134 ?h135 ?h136 ?h137 ?h138 ?h139 ?h140 ?h141 ?h142 ?h143 ?h144 ?h145 ?h146 ?h147 ?h148 ?h149 ?h150 ?h151 ?h152 ?h153 ?h154 ?h155 ?h156 ?h157 ?h158 ?h159 ?h160 ?h161 ?h162 ?h163 ?h164 ?h165 ?h166 ?h167 ?h168 ?h169 ?h170 ?h171 ?h172 ?h173 ?h174 ?h175 ?h176 ?h177 ?h178 ?h179 ?h180 ?h181 ?h182 ?h183 ?h184 ?h185 ?h186 ?h187 ?h188 ?h189 ?h190 ?h191 ?h192 ?h193 ?h194 ?h195 ?h196 ?h197 ?h198 ?h199 ?h200 ?h201 ?h202 ?h203 ?h204 ?h205 ?h206 ?h207 ?h208 ?h209 ?h210 ?h211 ?h212 ?h213 ?h214 ?h215 ?h216 ?h217 ?h218 ?h219 ?h220 ?h221 ?h222 ?h223 ?h224 ?h225 ?h226 ?h227 ?h228 ?h229 ?h230 ?h231 ?h232 ?h233 ?h234 ?h235 ?h236 ?h237 ?h238 ?h239 ?h240 ?h241 ?h242 ?h243 ?h244 ?h245 ?h246 ?h247 ?h248 ?h249 ?h250 ?h251 ?h252 ?h253 ?h254 ?h255 ?h256 ?h257 ?h258 ?h259 ?h260 ?h261 ?h262 ?h263 ?h264 ?h265 ?h266 ?h267 ?h268 ?h269 ?h270 ?h271 ?h272 ?h273 ?h274 ?h275 ?h276 ?h277 ?h278
  (case h0 => k_is)
  (case h1 => k_is)
  (case h2 => k_is)
  (case h3 => k_is)
  (case h4 => k_is)
  (case h5 => k_is)
  (case h6 => k_is)
  (case h7 => k_is)
  (case h8 => k_exc)
  (case h9 => k_is)
  (case h10 => k_is)
  (case h11 => k_is)
  (case h12 => k_exc)
  (case h13 => k_is)
  (case h14 => k_is)
  (case h15 => k_is)
  (case h16 => k_exc)
  (case h17 => k_is)
  (case h18 => k_is)
  (case h19 => k_is)
  (case h20 => k_exc)
  (case h21 => k_is)
  (case h22 => k_is)
  (case h23 => k_is)
  (case h24 => k_is)
  (case h25 => k_is)
  (case h26 => k_is)
  (case h27 => k_is)
  (case h28 => k_is)
  (case h29 => k_is)
  (case h30 => k_is)
  (case h31 => k_is)
  (case h32 => k_is)
  (case h33 => k_is)
  (case h34 => k_is)
  (case h35 => k_is)
  (case h36 => k_is)
  (case h37 => k_is)
  (case h38 => k_is)
  (case h39 => k_is)
  (case h40 => k_is)
  (case h41 => k_is)
  (case h42 => k_is)
  (case h43 => k_is)
  (case h44 => k_is)
  (case h45 => k_is)
  (case h46 => k_is)
  (case h47 => k_is)
  (case h48 => k_is)
  (case h49 => k_is)
  (case h50 => k_is)
  (case h51 => k_is)
  (case h52 => k_is)
  (case h53 => k_is)
  (case h54 => k_is)
  (case h55 => k_is)
  (case h56 => k_is)
  (case h57 => k_is)
  (case h58 => k_is)
  (case h59 => k_is)
  (case h60 => k_is)
  (case h61 => k_is)
  (case h62 => k_is)
  (case h63 => k_is)
  (case h64 => k_is)
  (case h65 => k_is)
  (case h66 => k_is)
  (case h67 => k_is)
  (case h68 => k_is)
  (case h69 => k_is)
  (case h70 => k_is)
  (case h71 => k_is)
  (case h72 => k_is)
  (case h73 => k_is)
  (case h74 => k_is)
  (case h75 => k_is)
  (case h76 => k_is)
  (case h77 => k_is)
  (case h78 => k_is)
  (case h79 => k_is)
  (case h80 => k_is)
  (case h81 => k_is)
  (case h82 => k_is)
  (case h83 => k_is)
  (case h84 => k_is)
  (case h85 => k_is)
  (case h86 => k_is)
  (case h87 => k_is)
  (case h88 => k_is)
  (case h89 => k_is)
  (case h90 => k_is)
  (case h91 => k_is)
  (case h92 => k_is)
  (case h93 => k_is)
  (case h94 => k_is)
  (case h95 => k_is)
  (case h96 => k_is)
  (case h97 => k_is)
  (case h98 => k_is)
  (case h99 => k_is)
  (case h100 => k_is)
  (case h101 => k_is)
  (case h102 => k_is)
  (case h103 => k_is)
  (case h104 => k_is)
  (case h105 => k_is)
  (case h106 => k_is)
  (case h107 => k_is)
  (case h108 => k_is)
  (case h109 => k_is)
  (case h110 => k_is)
  (case h111 => k_is)
  (case h112 => k_is)
  (case h113 => k_is)
  (case h114 => k_is)
  (case h115 => k_is)
  (case h116 => k_is)
  (case h117 => k_is)
  (case h118 => k_is)
  (case h119 => k_is)
  (case h120 => k_is)
  (case h121 => k_is)
  (case h122 => k_is)
  (case h123 => k_is)
  (case h124 => k_is)
  (case h125 => k_is)
  (case h126 => k_is)
  (case h127 => k_is)
  (case h128 => k_is)
  (case h129 => k_is)
  (case h130 => k_is)
  (case h131 => k_is)
  (case h132 => k_is)
  (case h133 => k_is)
  (case h134 => k_is)
  (case h135 => k_is)
  (case h136 => k_is)
  (case h137 => k_is)
  (case h138 => k_is)
  (case h139 => k_is)
  (case h140 => k_is)
  (case h141 => k_is)
  (case h142 => k_is)
  (case h143 => k_is)
  (case h144 => k_is)
  (case h145 => k_is)
  (case h146 => k_is)
  (case h147 => k_is)
  (case h148 => k_is)
  (case h149 => k_is)
  (case h150 => k_is)
  (case h151 => k_is)
  (case h152 => k_is)
  (case h153 => k_is)
  (case h154 => k_is)
  (case h155 => k_is)
  (case h156 => k_is)
  (case h157 => k_is)
  (case h158 => k_is)
  (case h159 => k_is)
  (case h160 => k_is)
  (case h161 => k_is)
  (case h162 => k_is)
  (case h163 => k_is)
  (case h164 => k_is)
  (case h165 => k_is)
  (case h166 => k_is)
  (case h167 => k_is)
  (case h168 => k_is)
  (case h169 => k_is)
  (case h170 => k_is)
  (case h171 => k_is)
  (case h172 => k_is)
  (case h173 => k_is)
  (case h174 => k_is)
  (case h175 => k_is)
  (case h176 => k_is)
  (case h177 => k_is)
  (case h178 => k_is)
  (case h179 => k_is)
  (case h180 => k_is)
  (case h181 => k_is)
  (case h182 => k_is)
  (case h183 => k_is)
  (case h184 => k_is)
  (case h185 => k_is)
  (case h186 => k_is)
  (case h187 => k_is)
  (case h188 => k_is)
  (case h189 => k_is)
  (case h190 => k_is)
  (case h191 => k_is)
  (case h192 => k_is)
  (case h193 => k_is)
  (case h194 => k_is)
  (case h195 => k_is)
  (case h196 => k_is)
  (case h197 => k_is)
  (case h198 => k_is)
  (case h199 => k_is)
  (case h200 => k_is)
  (case h201 => k_is)
  (case h202 => k_is)
  (case h203 => k_is)
  (case h204 => k_is)
  (case h205 => k_is)
  (case h206 => k_is)
  (case h207 => k_is)
  (case h208 => k_is)
  (case h209 => k_is)
  (case h210 => k_is)
  (case h211 => k_is)
  (case h212 => k_is)
  (case h213 => k_is)
  (case h214 => k_is)
  (case h215 => k_is)
  (case h216 => k_is)
  (case h217 => k_is)
  (case h218 => k_is)
  (case h219 => k_is)
  (case h220 => k_is)
  (case h221 => k_is)
  (case h222 => k_is)
  (case h223 => k_is)
  (case h224 => k_is)
  (case h225 => k_is)
  (case h226 => k_is)
  (case h227 => k_is)
  (case h228 => k_is)
  (case h229 => k_is)
  (case h230 => k_is)
  (case h231 => k_is)
  (case h232 => k_is)
  (case h233 => k_is)
  (case h234 => k_is)
  (case h235 => k_is)
  (case h236 => k_is)
  (case h237 => k_is)
  (case h238 => k_is)
  (case h239 => k_is)
  (case h240 => k_is)
  (case h241 => k_is)
  (case h242 => k_is)
  (case h243 => k_is)
  (case h244 => k_is)
  (case h245 => k_is)
  (case h246 => k_is)
  (case h247 => k_is)
  (case h248 => k_is)
  (case h249 => k_is)
  (case h250 => k_is)
  (case h251 => k_is)
  (case h252 => k_is)
  (case h253 => k_is)
  (case h254 => k_is)
  (case h255 => k_is)
  (case h256 => k_is)
  (case h257 => k_is)
  (case h258 => k_is)
  (case h259 => k_is)
  (case h260 => k_is)
  (case h261 => k_is)
  (case h262 => k_is)
  (case h263 => k_is)
  (case h264 => k_is)
  (case h265 => k_is)
  (case h266 => k_is)
  (case h267 => k_is)
  (case h268 => k_is)
  (case h269 => k_is)
  (case h270 => k_is)
  (case h271 => k_is)
  (case h272 => k_is)
  (case h273 => k_is)
  (case h274 => k_is)
  (case h275 => k_is)
  (case h276 => k_is)
  (case h277 => k_is)
  (case h278 => k_is)

