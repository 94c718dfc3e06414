import PyProof.Rows.All
import Wide.All
import OpenK.AllK
import Wide.FinOn
import HandS.ForMost
import HandS.DictComp
import HandS.RevRange
import HandS.Deep
import HandS.NoneIn
import HandS.IsInst
import HandS.Star
import HandS.Conv
import HandS.Flow
import HandS.SortInts
import HandS.TupAny
import HandS.Defaults
import HandS.WordsExc
import HandS.Head0
import HandS.Head1
import HandS.Head2
import HandS.HeadEnd
import HandS.Lambda
import HandS.HeadHook1
import HandS.HeadHook2
import KE.KStateDown
import HandS.Zip
import PyProof.TypeEq
import PyProof.InstNe
import KE.KDictCopyH
import PyProof.DictMoreH
import HandS.SetKeys
import KE.DataMinMax
import KE.KDictPairs
import HandS.SetBool
import HandS.Strs
import HandS.SetFor
import PyProof.MakeMany
import HandS.EndTab
import HandS.NestedK
import HandS.Head3
import KE.SortData
import KE.DataCmp
import HandS.HotCalls
import HandS.ExcIs
import PyProof.Rows.TupIter
import HandS.ExcBuiltin
import HandS.Proxy
import HandS.TupLe
import HandS.HeadHook3
import HandS.Text
import HandS.StrMore
import PyProof.FactsAll.str_4
import PyProof.FactsAll.str_6
import PyProof.StrLawsTight
import HandS.TryElse
import HandS.Style
import HandS.RaiseMore
import KE.KUnpackStar
import HandS.ExcValue
import KE.KIndexOf
import PySem.Challenge.RW_whichbroke_k10_where_to_look_next
set_option Elab.async false
set_option linter.all false
set_option maxRecDepth 100000
set_option maxHeartbeats 8000000
/-! A layer of data over HandS: values that stand for plain data (ints, texts, tuples, lists, dicts), defs that only make new things. -/
namespace DL
open PySem PySem.Spec PyProof.Rows L2

abbrev PD := PyData
/-! ### what stays: all but that tables of code objects may grow -/
def NT : HO → Prop
  | .tbl _ => False
  | _ => True
def Le : HO → HO → Prop
  | .tbl _, .tbl _ => True
  | .tbl _, _ => False
  | o, u => u = o
theorem Le.refl (o : HO) : Le o o := by cases o <;> first | rfl | trivial
theorem Le.eq {o u : HO} (n : NT o) (h : Le o u) : u = o := by cases o <;> first | exact h | exact n.elim
theorem Le.trans {o u v : HO} (a : Le o u) (b : Le u v) : Le o v := by
  cases o <;> first
    | (have e : u = _ := a; subst e; exact b)
    | (cases u <;> first | exact a.elim | (cases v <;> first | exact b.elim | trivial))
structure Same (H H' : Hp) : Prop where
  ex : ∀ b o, H b = some o → ∃ o', H' b = some o' ∧ Le o o'
theorem Same.at {H H' : Hp} (s : Same H H') (b : Addr) (o : HO) (e : H b = some o) (n : NT o := by trivial) : H' b = some o := by
  obtain ⟨o', e1, l⟩ := s.ex b o e
  rw [e1, l.eq n]
theorem Same.of {H H' : Hp} (h : ∀ b o, H b = some o → H' b = some o) : Same H H' := ⟨fun b o e => ⟨o, h b o e, .refl o⟩⟩
theorem Same.refl (H : Hp) : Same H H := .of fun _ _ h => h
theorem Same.trans {H H1 H2 : Hp} (a : Same H H1) (b : Same H1 H2) : Same H H2 := ⟨fun c o h => by
  obtain ⟨o1, e1, l1⟩ := a.ex c o h
  obtain ⟨o2, e2, l2⟩ := b.ex c o1 e1
  exact ⟨o2, e2, l1.trans l2⟩⟩
theorem Same.free {H H' : Hp} (e : Same H H') {l : Addr} (h : H' l = Option.none) : H l = Option.none := by
  cases q : H l with
  | none => rfl
  | some o =>
    obtain ⟨o', e1, _⟩ := e.ex l o q
    rw [h] at e1
    cases e1
theorem Same.seq {K : PySem.W.Frag} {H H' : Hp} {a : Addr} {xs : List V} (e : Same H H') (h : SqL K H a xs) : SqL K H' a xs := by
  rcases h with h | h
  · rcases h with h | ⟨o, h⟩
    · exact .inl (.inl (e.at _ _ h))
    · exact .inl (.inr ⟨o, e.at _ _ h⟩)
  · exact .inr h
/-! ### the tables of code objects -/
class Lam where
  T : List (Addr × Str)
def TbK [Lam] (H : Hp) : Prop := LamX.Tabs Lam.T H
def kD : L2.Key → PD
  | .inl i => .int i
  | .inr x => .str x
/-- the law's script, as data -/
def scr (ns : List Int) : PD := .dict [(.none, .list (ns.map .int))]
/-- an address -/
def adD (a : Addr) : PD := .dict [(.tuple [.none], .int (a : Int))]
/-- an instance of the class at C -/
def obD (C : Addr) (ds : List (PD × PD)) : PD := .dict ((.tuple [], .int (C : Int)) :: ds)
/-- of the object at a: it stands for d -/
def atD (a : Addr) (d : PD) : PD := .dict [(.tuple [.int (a : Int), .int 0], d)]
/-- a tuple that is known to the object -/
def tx (ds : List PD) : PD := .dict [(.list [], .list ds)]

mutual
inductive Rp (K : PySem.W.Frag) (H : Hp) : V → PD → Prop
  | non : Rp K H .non .none
  | bl (b : Bool) : Rp K H (.bl b) (.bool b)
  | int (i : Int) : Rp K H (.int i) (.int i)
  | str (x : Str) : Rp K H (.str x) (.str x)
  | lst {a : Addr} {xs : List V} {ds : List PD} : H a = some (.lst xs) → RpA K H xs ds → Rp K H (.ref a) (.list ds)
  | tup {a : Addr} {xs : List V} {ds : List PD} : H a = some (.tup xs) → RpA K H xs ds → Rp K H (.ref a) (.tuple ds)
  | dct {a : Addr} {kvs : List (L2.Key × V)} {ds : List (PD × PD)} : H a = some (.dK kvs) → RpK K H kvs ds → Rp K H (.ref a) (.dict ds)
  | scr {a : Addr} {ns : List Int} : SqL K H a (ns.map V.int) → Rp K H (.ref a) (scr ns)
  | tux {a : Addr} {xs : List V} {ds : List PD} {o : Obj} : H a = some (.frz o (.tup xs)) → o.dict = none → RpA K H xs ds → Rp K H (.ref a) (tx ds)
  | adr (a : Addr) : Rp K H (.ref a) (adD a)
  | obj {a C dx : Addr} {fs : List (Str × V)} {ds : List (PD × PD)} : H a = some (.ins C dx fs) → H dx = some (.own a) → RpK K H (fs.map fun p => (.inr p.1, p.2)) ds → Rp K H (.ref a) (obD C ds)
  | fact {a : Addr} {d : PD} : Rp K H (.ref a) d → Rp K H (.ref a) (atD a d)
inductive RpA (K : PySem.W.Frag) (H : Hp) : List V → List PD → Prop
  | nil : RpA K H [] []
  | cons {v : V} {vs : List V} {d : PD} {ds : List PD} : Rp K H v d → RpA K H vs ds → RpA K H (v :: vs) (d :: ds)
inductive RpK (K : PySem.W.Frag) (H : Hp) : List (L2.Key × V) → List (PD × PD) → Prop
  | nil : RpK K H [] []
  | cons {k : L2.Key} {v : V} {kvs : List (L2.Key × V)} {d : PD} {ds : List (PD × PD)} : Rp K H v d → RpK K H kvs ds → RpK K H ((k, v) :: kvs) ((kD k, d) :: ds)
end

mutual
theorem Rp.mono {K : PySem.W.Frag} {H H' : Hp} (e : Same H H') : ∀ {v : V} {d : PD}, Rp K H v d → Rp K H' v d
  | _, _, .non => .non
  | _, _, .bl b => .bl b
  | _, _, .int i => .int i
  | _, _, .str x => .str x
  | _, _, .lst h r => .lst (e.at _ _ h) (RpA.mono e r)
  | _, _, .tup h r => .tup (e.at _ _ h) (RpA.mono e r)
  | _, _, .dct h r => .dct (e.at _ _ h) (RpK.mono e r)
  | _, _, .scr h => .scr (e.seq h)
  | _, _, .tux h n r => .tux (e.at _ _ h) n (RpA.mono e r)
  | _, _, .adr a => .adr a
  | _, _, .obj h o r => .obj (e.at _ _ h) (e.at _ _ o) (RpK.mono e r)
  | _, _, .fact h => .fact (Rp.mono e h)
theorem RpA.mono {K : PySem.W.Frag} {H H' : Hp} (e : Same H H') : ∀ {v : List V} {d : List PD}, RpA K H v d → RpA K H' v d
  | _, _, .nil => .nil
  | _, _, .cons h r => .cons (Rp.mono e h) (RpA.mono e r)
theorem RpK.mono {K : PySem.W.Frag} {H H' : Hp} (e : Same H H') : ∀ {v : List (L2.Key × V)} {d : List (PD × PD)}, RpK K H v d → RpK K H' v d
  | _, _, .nil => .nil
  | _, _, .cons h r => .cons (Rp.mono e h) (RpK.mono e r)
end
section
variable {K : PySem.W.Frag} {H : Hp}
theorem RpA.len : ∀ {vs : List V} {ds : List PD}, RpA K H vs ds → vs.length = ds.length
  | _, _, .nil => rfl
  | _, _, .cons _ r => by rw [List.length_cons, List.length_cons, RpA.len r]
theorem RpA.get : ∀ {vs : List V} {ds : List PD} {i : Nat} {d : PD}, RpA K H vs ds → ds[i]? = some d → ∃ v, vs[i]? = some v ∧ Rp K H v d
  | _, _, _, _, .nil, e => by simp at e
  | _, _, 0, _, .cons h _, e => by simp at e; subst e; exact ⟨_, rfl, h⟩
  | _, _, i + 1, d, .cons _ r, e => by
    obtain ⟨v, h1, h2⟩ := RpA.get (i := i) (d := d) r (by simpa using e)
    exact ⟨v, by simpa using h1, h2⟩
theorem RpA.app : ∀ {vs ws : List V} {ds es : List PD}, RpA K H vs ds → RpA K H ws es → RpA K H (vs ++ ws) (ds ++ es)
  | _, _, _, _, .nil, s => s
  | _, _, _, _, .cons h r, s => .cons h (RpA.app r s)
theorem RpA.take : ∀ {vs : List V} {ds : List PD} (n : Nat), RpA K H vs ds → RpA K H (vs.take n) (ds.take n)
  | _, _, 0, _ => .nil
  | _, _, _ + 1, .nil => .nil
  | _, _, n + 1, .cons h r => .cons h (RpA.take n r)
theorem RpA.drop : ∀ {vs : List V} {ds : List PD} (n : Nat), RpA K H vs ds → RpA K H (vs.drop n) (ds.drop n)
  | _, _, 0, r => r
  | _, _, _ + 1, .nil => .nil
  | _, _, n + 1, .cons _ r => RpA.drop n r
theorem RpA.one {v : V} {d : PD} (h : Rp K H v d) : RpA K H [v] [d] := .cons h .nil
theorem RpA.ints : ∀ (ns : List Int), RpA K H (ns.map V.int) (ns.map .int)
  | [] => .nil
  | n :: ns => .cons (.int n) (RpA.ints ns)
theorem RpA.ints_inv : ∀ {vs : List V} {ns : List Int}, RpA K H vs (ns.map .int) → vs = ns.map V.int
  | _, [], .nil => rfl
  | _, n :: ns, .cons h r => by
    cases h
    rw [List.map_cons, RpA.ints_inv r]
theorem Rp.int_inv {v : V} {i : Int} (h : Rp K H v (.int i)) : v = .int i := by cases h; rfl
theorem Rp.bool_inv {v : V} {i : Bool} (h : Rp K H v (.bool i)) : v = .bl i := by cases h; rfl
theorem Rp.str_inv {v : V} {i : Str} (h : Rp K H v (.str i)) : v = .str i := by cases h; rfl
theorem Rp.none_inv {v : V} (h : Rp K H v .none) : v = .non := by cases h; rfl
theorem Rp.lst_inv {v : V} {ds : List PD} (h : Rp K H v (.list ds)) : ∃ a xs, v = .ref a ∧ H a = some (.lst xs) ∧ RpA K H xs ds := by
  cases h with | lst h r => exact ⟨_, _, rfl, h, r⟩
theorem Rp.tup_inv {v : V} {ds : List PD} (h : Rp K H v (.tuple ds)) : ∃ a xs, v = .ref a ∧ H a = some (.tup xs) ∧ RpA K H xs ds := by
  cases h with | tup h r => exact ⟨_, _, rfl, h, r⟩
theorem Rp.scr_inv {v : V} {ns : List Int} (h : Rp K H v (DL.scr ns)) : ∃ a, v = .ref a ∧ SqL K H a (ns.map V.int) := by
  unfold DL.scr at h
  generalize e : (PyData.dict [(.none, .list (ns.map .int))]) = d at h
  cases h with
  | dct h r =>
    cases e
    generalize e2 : ([(.none, .list (ns.map .int))] : List (PD × PD)) = ds at r
    cases r with
    | nil => cases e2
    | cons h2 r2 =>
      rename_i k _ _ _ _
      have e3 := (Prod.mk.inj (List.cons.inj e2).1).1
      cases k <;> cases e3
  | scr h =>
    rename_i a ms
    unfold DL.scr at e
    have e2 : ns.map PyData.int = ms.map PyData.int := by
      have e3 := (Prod.mk.inj (List.cons.inj (PyData.dict.inj e)).1).2
      exact PyData.list.inj e3
    have e4 : ns = ms := (List.map_inj_right (fun x y h => PyData.int.inj h)).mp e2
    subst e4
    exact ⟨_, rfl, h⟩
  | tux h n r =>
    unfold DL.tx at e
    have e3 := (Prod.mk.inj (List.cons.inj (PyData.dict.inj e)).1).1
    cases e3
  | adr a =>
    unfold DL.adD at e
    have e3 := (Prod.mk.inj (List.cons.inj (PyData.dict.inj e)).1).1
    cases e3
  | obj h o r =>
    unfold DL.obD at e
    have e3 := (Prod.mk.inj (List.cons.inj (PyData.dict.inj e)).1).1
    cases e3
  | fact h =>
    unfold DL.atD at e
    have e3 := (Prod.mk.inj (List.cons.inj (PyData.dict.inj e)).1).1
    cases e3
  | _ => cases e
theorem Rp.tx_inv {v : V} {ds : List PD} (h : Rp K H v (DL.tx ds)) : ∃ a xs o, v = .ref a ∧ H a = some (.frz o (.tup xs)) ∧ o.dict = none ∧ RpA K H xs ds := by
  unfold DL.tx at h
  generalize e : (PyData.dict [(.list [], .list ds)]) = d at h
  cases h with
  | dct h r =>
    cases e
    generalize e2 : ([(.list [], .list ds)] : List (PD × PD)) = ks at r
    cases r with
    | nil => cases e2
    | cons h2 r2 =>
      rename_i k _ _ _ _
      have e3 := (Prod.mk.inj (List.cons.inj e2).1).1
      cases k <;> cases e3
  | scr h =>
    unfold DL.scr at e
    have e3 := (Prod.mk.inj (List.cons.inj (PyData.dict.inj e)).1).1
    cases e3
  | tux h n r =>
    unfold DL.tx at e
    have e3 := PyData.list.inj (Prod.mk.inj (List.cons.inj (PyData.dict.inj e)).1).2
    subst e3
    exact ⟨_, _, _, rfl, h, n, r⟩
  | adr a =>
    unfold DL.adD at e
    have e3 := (Prod.mk.inj (List.cons.inj (PyData.dict.inj e)).1).1
    cases e3
  | obj h o r =>
    unfold DL.obD at e
    have e3 := (Prod.mk.inj (List.cons.inj (PyData.dict.inj e)).1).1
    cases e3
  | fact h =>
    unfold DL.atD at e
    have e3 := (Prod.mk.inj (List.cons.inj (PyData.dict.inj e)).1).1
    cases e3
  | _ => cases e
theorem kD_ne_tuple {k : L2.Key} {xs : List PD} : kD k ≠ .tuple xs := by cases k <;> intro e <;> cases e
theorem Rp.ad_inv {v : V} {a : Addr} (h : Rp K H v (DL.adD a)) : v = .ref a := by
  unfold DL.adD at h
  generalize e : (PyData.dict [(.tuple [.none], .int (a : Int))]) = d at h
  cases h with
  | dct h r =>
    cases e
    generalize e2 : ([(.tuple [.none], .int (a : Int))] : List (PD × PD)) = ks at r
    cases r with
    | nil => cases e2
    | cons h2 r2 => exact absurd (Prod.mk.inj (List.cons.inj e2).1).1.symm kD_ne_tuple
  | scr h =>
    unfold DL.scr at e
    have e3 := (Prod.mk.inj (List.cons.inj (PyData.dict.inj e)).1).1
    cases e3
  | tux h n r =>
    unfold DL.tx at e
    have e3 := (Prod.mk.inj (List.cons.inj (PyData.dict.inj e)).1).1
    cases e3
  | adr b =>
    unfold DL.adD at e
    have e3 := PyData.int.inj (Prod.mk.inj (List.cons.inj (PyData.dict.inj e)).1).2
    have e4 : a = b := Int.ofNat.inj e3
    rw [e4]
  | obj h o r =>
    unfold DL.obD at e
    have e3 := (Prod.mk.inj (List.cons.inj (PyData.dict.inj e)).1).1
    cases e3
  | fact h =>
    unfold DL.atD at e
    have e3 := (Prod.mk.inj (List.cons.inj (PyData.dict.inj e)).1).1
    cases e3
  | _ => cases e
theorem Rp.ob_inv {v : V} {C : Addr} {ds : List (PD × PD)} (h : Rp K H v (DL.obD C ds)) : ∃ a dx fs, v = .ref a ∧ H a = some (.ins C dx fs) ∧ H dx = some (.own a) ∧ RpK K H (fs.map fun p => (.inr p.1, p.2)) ds := by
  unfold DL.obD at h
  generalize e : (PyData.dict ((.tuple [], .int (C : Int)) :: ds)) = d at h
  cases h with
  | dct h r =>
    cases e
    generalize e2 : ((.tuple [], .int (C : Int)) :: ds : List (PD × PD)) = ks at r
    cases r with
    | nil => cases e2
    | cons h2 r2 => exact absurd (Prod.mk.inj (List.cons.inj e2).1).1.symm kD_ne_tuple
  | scr h =>
    unfold DL.scr at e
    have e3 := (Prod.mk.inj (List.cons.inj (PyData.dict.inj e)).1).1
    cases e3
  | tux h n r =>
    unfold DL.tx at e
    have e3 := (Prod.mk.inj (List.cons.inj (PyData.dict.inj e)).1).1
    cases e3
  | adr b =>
    unfold DL.adD at e
    have e3 := (Prod.mk.inj (List.cons.inj (PyData.dict.inj e)).1).1
    cases e3
  | obj h o r =>
    unfold DL.obD at e
    have e3 := PyData.int.inj (Prod.mk.inj (List.cons.inj (PyData.dict.inj e)).1).2
    have e5 := (List.cons.inj (PyData.dict.inj e)).2
    have e4 : C = _ := Int.ofNat.inj e3
    subst e4 e5
    exact ⟨_, _, _, rfl, h, o, r⟩
  | fact h =>
    unfold DL.atD at e
    have e3 := (Prod.mk.inj (List.cons.inj (PyData.dict.inj e)).1).1
    cases e3
  | _ => cases e
theorem Rp.at_inv {v : V} {a : Addr} {d : PD} (h : Rp K H v (DL.atD a d)) : v = .ref a ∧ Rp K H (.ref a) d := by
  unfold DL.atD at h
  generalize e : (PyData.dict [(.tuple [.int (a : Int), .int 0], d)]) = d' at h
  cases h with
  | dct h r =>
    cases e
    generalize e2 : ([(.tuple [.int (a : Int), .int 0], d)] : List (PD × PD)) = ks at r
    cases r with
    | nil => cases e2
    | cons h2 r2 => exact absurd (Prod.mk.inj (List.cons.inj e2).1).1.symm kD_ne_tuple
  | scr h =>
    unfold DL.scr at e
    have e3 := (Prod.mk.inj (List.cons.inj (PyData.dict.inj e)).1).1
    cases e3
  | tux h n r =>
    unfold DL.tx at e
    have e3 := (Prod.mk.inj (List.cons.inj (PyData.dict.inj e)).1).1
    cases e3
  | adr b =>
    unfold DL.adD at e
    have e3 := (Prod.mk.inj (List.cons.inj (PyData.dict.inj e)).1).1
    cases e3
  | obj h o r =>
    unfold DL.obD at e
    have e3 := (Prod.mk.inj (List.cons.inj (PyData.dict.inj e)).1).1
    cases e3
  | fact h =>
    unfold DL.atD at e
    have e3 := (Prod.mk.inj (List.cons.inj (PyData.dict.inj e)).1).1
    have e4 := (Prod.mk.inj (List.cons.inj (PyData.dict.inj e)).1).2
    have e5 := Int.ofNat.inj (PyData.int.inj (List.cons.inj (PyData.tuple.inj e3)).1)
    subst e4 e5
    exact ⟨rfl, h⟩
  | _ => cases e
end
end DL

namespace DL
open PySem PySem.Spec PyProof.Rows L2
variable [Lam]

/-! ### what grows -/
/-- Ho: the part of the heap H that stays as it is; both grow -/
structure Gr (Ho H Ho' H' : Hp) : Prop where
  h : Same H H'
  o : Same Ho Ho'
  s : Same Ho' H'
  fr : ∀ a, H a ≠ none → Ho' a = Ho a
  tb : TbK H → TbK H'
theorem Gr.refl {Ho H : Hp} (s : Same Ho H) : Gr Ho H Ho H := ⟨.refl _, .refl _, s, fun _ _ => rfl, id⟩
theorem ne_none {H H' : Hp} (e : Same H H') {a : Addr} (h : H a ≠ none) : H' a ≠ none := by
  cases q : H a with
  | none => exact absurd q h
  | some o =>
    obtain ⟨o', e1, _⟩ := e.ex a o q
    rw [e1]; intro z; cases z
theorem Gr.trans {Ho H H1o H1 H2o H2 : Hp} (g : Gr Ho H H1o H1) (k : Gr H1o H1 H2o H2) : Gr Ho H H2o H2 :=
  ⟨g.h.trans k.h, g.o.trans k.o, k.s, fun a h => (k.fr a (ne_none g.h h)).trans (g.fr a h), fun t => k.tb (g.tb t)⟩
theorem new_at {H : Hp} {p : Addr} {o : HO} (h : H p = none) : ∀ b x, H b = some x → upd H p o b = some x := fun b x e => by
  rw [upd_ne (ne_of_none e h)]; exact e
theorem same_new {H : Hp} {p : Addr} {o : HO} (h : H p = none) : Same H (upd H p o) := .of (new_at h)
theorem tb_new {H : Hp} {p : Addr} {o : HO} (h : H p = none) (t : TbK H) : TbK (upd H p o) := LamX.Tabs.ext t (new_at h)
theorem same_upd2 {Ho H : Hp} {p : Addr} {o : HO} (s : Same Ho H) : Same (upd Ho p o) (upd H p o) := ⟨fun b x e => by
  by_cases hb : b = p
  · subst hb; rw [upd_same] at e ⊢; exact ⟨x, e, .refl x⟩
  · rw [upd_ne hb] at e ⊢; exact s.ex _ _ e⟩
/-- an object is written that nobody knows of -/
theorem same_poke {Ho H : Hp} {p : Addr} {o : HO} (s : Same Ho H) (h : Ho p = none) : Same Ho (upd H p o) := ⟨fun b x e => by
  rw [upd_ne (ne_of_none e h)]; exact s.ex _ _ e⟩
/-- what may be written: no table, no code object -/
def WT : HO → Prop
  | .tbl _ => False
  | .ext _ => False
  | _ => True
theorem tb_poke2 {H : Hp} {p : Addr} {o u : HO} (h : H p = some u) (n : NT u) (n2 : ∀ q, u ≠ LamX.CodeO p q) (t : TbK H) : TbK (upd H p o) := fun r hr => by
  obtain ⟨ps, h1, h2, h3⟩ := t r hr
  have ne : r.1 ≠ p := fun z => by rw [z, h] at h1; cases h1; exact n
  refine ⟨ps, by rw [upd_ne ne]; exact h1, h2, fun pos cv hc => ?_⟩
  obtain ⟨c, e1, e2⟩ := h3 pos cv hc
  have nc : c ≠ p := fun z => by rw [z, h] at e2; exact n2 _ (Option.some.inj e2)
  exact ⟨c, e1, by rw [upd_ne nc]; exact e2⟩
theorem tb_poke {H : Hp} {p : Addr} {o u : HO} (h : H p = some u) (n : WT u := by trivial) (t : TbK H) : TbK (upd H p o) := fun r hr => by
  obtain ⟨ps, h1, h2, h3⟩ := t r hr
  have ne : r.1 ≠ p := fun z => by rw [z, h] at h1; cases h1; exact n
  refine ⟨ps, by rw [upd_ne ne]; exact h1, h2, fun pos cv hc => ?_⟩
  obtain ⟨c, e1, e2⟩ := h3 pos cv hc
  have nc : c ≠ p := fun z => by rw [z, h] at e2; cases e2; exact n
  exact ⟨c, e1, by rw [upd_ne nc]; exact e2⟩
/-- a new thing that is nothing yet to others -/
theorem Gr.tmp {Ho H : Hp} {p : Addr} {o : HO} (s : Same Ho H) (h : H p = none) : Gr Ho H Ho (upd H p o) :=
  ⟨same_new h, .refl _, s.trans (same_new h), fun _ _ => rfl, tb_new h⟩
/-- a new thing that stays -/
theorem Gr.new {Ho H : Hp} {p : Addr} {o : HO} (s : Same Ho H) (h : H p = none) : Gr Ho H (upd Ho p o) (upd H p o) :=
  ⟨same_new h, same_new (s.free h), same_upd2 s, fun a ha => upd_ne (fun e => ha (by rw [e]; exact h)), tb_new h⟩
/-- what grew since H is written -/
theorem Gr.poke {Ho H H1o H1 : Hp} {p : Addr} {o u : HO} (g : Gr Ho H H1o H1) (hp : H p = none) (n : H1o p = none) (e : H1 p = some u) (w : WT u := by trivial) : Gr Ho H H1o (upd H1 p o) :=
  ⟨same_poke g.h hp, g.o, same_poke g.s n, g.fr, fun t => tb_poke e w (g.tb t)⟩
theorem Gr.poke2 {Ho H H1o H1 : Hp} {p : Addr} {o u : HO} (g : Gr Ho H H1o H1) (hp : H p = none) (n : H1o p = none) (e : H1 p = some u) (w : NT u) (w2 : ∀ q, u ≠ LamX.CodeO p q) : Gr Ho H H1o (upd H1 p o) :=
  ⟨same_poke g.h hp, g.o, same_poke g.s n, g.fr, fun t => tb_poke2 e w w2 (g.tb t)⟩
/-- what stands new in the heap is taken into the part that stays -/
theorem Gr.keep {Ho H Ho' H' : Hp} {p : Addr} {o : HO} (g : Gr Ho H Ho' H') (h : H p = none) (ho : Ho' p = none) (e : H' p = some o) : Gr Ho H (upd Ho' p o) H' :=
  ⟨g.h, g.o.trans (same_new ho), ⟨fun b x eb => by
    by_cases hb : b = p
    · subst hb; rw [upd_same] at eb; cases eb; exact ⟨_, e, .refl _⟩
    · rw [upd_ne hb] at eb; exact g.s.ex _ _ eb⟩,
   fun a ha => (upd_ne (fun e => ha (by rw [e]; exact h))).trans (g.fr a ha), g.tb⟩

/-! ### kinds of what an expression gives: c stays, e its items stay, t for now, o new and nobody else's -/
inductive Kd | c | e | t | o
  deriving DecidableEq

/-- an object of one's own -/
def Own (K : PySem.W.Frag) (Ho H : Hp) (p : Addr) : PD → Prop
  | .list ds => ∃ vs, H p = some (.lst vs) ∧ RpA K Ho vs ds
  | .tuple ds => ∃ vs, H p = some (.tup vs) ∧ RpA K Ho vs ds
  | .dict ds => ∃ kvs, H p = some (.dK kvs) ∧ RpK K Ho kvs ds
  | _ => False
/-- a container whose items stay -/
def RpE (K : PySem.W.Frag) (Ho H : Hp) (v : V) : PD → Prop
  | .list ds => ∃ p xs, v = .ref p ∧ H p = some (.lst xs) ∧ RpA K Ho xs ds
  | .tuple ds => ∃ p xs, v = .ref p ∧ H p = some (.tup xs) ∧ RpA K Ho xs ds
  | .dict ds => (∃ p kvs, v = .ref p ∧ H p = some (.dK kvs) ∧ RpK K Ho kvs ds) ∨ Rp K Ho v (.dict ds)
  | d => Rp K Ho v d
def Rs (K : PySem.W.Frag) (k : Kd) (H Ho' H' : Hp) (v : V) (d : PD) : Prop := match k with
  | .c => Rp K Ho' v d
  | .e => RpE K Ho' H' v d
  | .t => Rp K H' v d
  | .o => ∃ p, v = .ref p ∧ H p = none ∧ Ho' p = none ∧ Own K Ho' H' p d
section
variable {K : PySem.W.Frag} {Ho H Ho' H' : Hp} {v : V} {d : PD}
theorem Own.ex {p : Addr} (h : Own K Ho H p d) : ∃ o, H p = some o := by
  cases d with
  | list ds => obtain ⟨vs, e, _⟩ := h; exact ⟨_, e⟩
  | tuple ds => obtain ⟨vs, e, _⟩ := h; exact ⟨_, e⟩
  | dict ds => obtain ⟨vs, e, _⟩ := h; exact ⟨_, e⟩
  | _ => exact h.elim
theorem Own.wt {p : Addr} (h : Own K Ho H p d) : ∃ o, H p = some o ∧ WT o := by
  cases d with
  | list ds => obtain ⟨vs, e, _⟩ := h; exact ⟨_, e, trivial⟩
  | tuple ds => obtain ⟨vs, e, _⟩ := h; exact ⟨_, e, trivial⟩
  | dict ds => obtain ⟨vs, e, _⟩ := h; exact ⟨_, e, trivial⟩
  | _ => exact h.elim
theorem Own.mono {p : Addr} (h : Own K Ho H p d) (eo : Same Ho Ho') (e : Same H H') : Own K Ho' H' p d := by
  cases d with
  | list ds => obtain ⟨vs, q, r⟩ := h; exact ⟨vs, e.at _ _ q, r.mono eo⟩
  | tuple ds => obtain ⟨vs, q, r⟩ := h; exact ⟨vs, e.at _ _ q, r.mono eo⟩
  | dict ds => obtain ⟨vs, q, r⟩ := h; exact ⟨vs, e.at _ _ q, r.mono eo⟩
  | _ => exact h.elim
theorem Own.rp {p : Addr} {o : HO} (h : Own K Ho H p d) (e : H p = some o) (hn : Ho p = none) : Rp K (upd Ho p o) (.ref p) d := by
  have m := same_new (o := o) hn
  cases d with
  | list ds => obtain ⟨vs, q, r⟩ := h; rw [e] at q; cases q; exact .lst upd_same (r.mono m)
  | tuple ds => obtain ⟨vs, q, r⟩ := h; rw [e] at q; cases q; exact .tup upd_same (r.mono m)
  | dict ds => obtain ⟨vs, q, r⟩ := h; rw [e] at q; cases q; exact .dct upd_same (r.mono m)
  | _ => exact h.elim
theorem Own.rpe {p : Addr} (h : Own K Ho H p d) : RpE K Ho H (.ref p) d := by
  cases d with
  | list ds => obtain ⟨vs, q, r⟩ := h; exact ⟨p, vs, rfl, q, r⟩
  | tuple ds => obtain ⟨vs, q, r⟩ := h; exact ⟨p, vs, rfl, q, r⟩
  | dict ds => obtain ⟨vs, q, r⟩ := h; exact .inl ⟨p, vs, rfl, q, r⟩
  | _ => exact h.elim
theorem Rp.rpe (h : Rp K Ho v d) (s : Same Ho H) : RpE K Ho H v d := by
  cases d with
  | list ds => obtain ⟨p, xs, e, q, r⟩ := h.lst_inv; exact ⟨p, xs, e, s.at _ _ q, r⟩
  | tuple ds => obtain ⟨p, xs, e, q, r⟩ := h.tup_inv; exact ⟨p, xs, e, s.at _ _ q, r⟩
  | dict ds => exact .inr h
  | _ => exact h
theorem RpE.rp (h : RpE K Ho H v d) (s : Same Ho H) : Rp K H v d := by
  cases d with
  | list ds => obtain ⟨p, xs, rfl, q, r⟩ := h; exact .lst q (r.mono s)
  | tuple ds => obtain ⟨p, xs, rfl, q, r⟩ := h; exact .tup q (r.mono s)
  | dict ds =>
    rcases h with ⟨p, xs, rfl, q, r⟩ | h
    · exact .dct q (r.mono s)
    · exact Rp.mono s h
  | _ => exact Rp.mono s h
end

/-! ### slots -/
/-- v: data that stays; w: an object of one's own, at a told address or any -/
inductive Sl | v (d : PD) | w (l : Option Addr) (d : PD)
abbrev Sl.o (d : PD) : Sl := .w none d
abbrev Sl.a (l : Addr) (d : PD) : Sl := .w (some l) d
def AtL (l : Option Addr) (p : Addr) : Prop := match l with
  | some a => p = a
  | none => True
abbrev En := List (Option Sl)
def SlOk (K : PySem.W.Frag) (B Ho H : Hp) (x : Option (Option V)) : Sl → Prop
  | .v d => ∃ v, x = some (some v) ∧ Rp K Ho v d
  | .w l d => ∃ p, x = some (some (.ref p)) ∧ Ho p = none ∧ B p = none ∧ Own K Ho H p d ∧ AtL l p
structure Fit (K : PySem.W.Frag) (B Bo Ho H : Hp) (σ : L2.St) (en : En) : Prop where
  bo : Same Bo B
  bh : Same B H
  boh : Same Bo Ho
  hoh : Same Ho H
  fr : ∀ a, B a ≠ none → Ho a = Bo a
  tb : TbK H
  len : σ.length = en.length
  sl : ∀ (i : Nat) (s : Sl), en[i]? = some (some s) → SlOk K B Ho H σ[i]? s
  dj : ∀ (i j : Nat) {l l' : Option Addr} (d d' : PD) (p : Addr), en[i]? = some (some (.w l d)) → en[j]? = some (some (.w l' d')) → σ[i]? = some (some (.ref p)) → σ[j]? = some (some (.ref p)) → i = j
section
variable {K : PySem.W.Frag} {B Bo Ho H Ho' H' : Hp} {σ : L2.St} {en : En} {v : V} {d : PD} {i : Nat}
theorem SlOk.gr {x : Option (Option V)} {s : Sl} (h : SlOk K B Ho H x s) (bh : Same B H) (g : Gr Ho H Ho' H') : SlOk K B Ho' H' x s := by
  cases s with
  | v d => obtain ⟨v, e, r⟩ := h; exact ⟨v, e, r.mono g.o⟩
  | w l d =>
    obtain ⟨p, e, n1, n2, w, al⟩ := h
    obtain ⟨o, eo⟩ := w.ex
    exact ⟨p, e, (g.fr p (by rw [eo]; intro z; cases z)).trans n1, n2, w.mono g.o g.h, al⟩
theorem Fit.gr (f : Fit K B Bo Ho H σ en) (g : Gr Ho H Ho' H') : Fit K B Bo Ho' H' σ en :=
  ⟨f.bo, f.bh.trans g.h, f.boh.trans g.o, g.s, fun a h => (g.fr a (ne_none f.bh h)).trans (f.fr a h), g.tb f.tb, f.len, fun i s e => (f.sl i s e).gr f.bh g, f.dj⟩
theorem Fit.var (f : Fit K B Bo Ho H σ en) (h : en[i]? = some (some (.v d))) : ∃ v, σ[i]? = some (some v) ∧ Rp K Ho v d := f.sl i _ h
theorem Fit.ownL {l : Option Addr} (f : Fit K B Bo Ho H σ en) (h : en[i]? = some (some (.w l d))) : ∃ p, σ[i]? = some (some (.ref p)) ∧ Ho p = none ∧ B p = none ∧ Own K Ho H p d ∧ AtL l p := f.sl i _ h
theorem Fit.own {l : Option Addr} (f : Fit K B Bo Ho H σ en) (h : en[i]? = some (some (.w l d))) : ∃ p, σ[i]? = some (some (.ref p)) ∧ Ho p = none ∧ B p = none ∧ Own K Ho H p d := by
  obtain ⟨p, a, b, c, w, _⟩ := f.ownL h
  exact ⟨p, a, b, c, w⟩
theorem get_set {α : Type} {l : List α} {i j : Nat} {a b : α} (h : (l.set i a)[j]? = some b) : (i = j ∧ b = a) ∨ (i ≠ j ∧ l[j]? = some b) := by
  by_cases e : i = j
  · subst e
    left
    rw [List.getElem?_set] at h
    simp at h
    exact ⟨rfl, h.2.symm⟩
  · rw [List.getElem?_set_ne e] at h
    exact .inr ⟨e, h⟩
theorem Fit.setV (f : Fit K B Bo Ho H σ en) (r : Rp K Ho v d) : Fit K B Bo Ho H (σ.set i (some v)) (en.set i (some (.v d))) := by
  refine ⟨f.bo, f.bh, f.boh, f.hoh, f.fr, f.tb, by rw [List.length_set, List.length_set]; exact f.len, fun j s e => ?_, fun j k {_ _} d1 d2 p e1 e2 e3 e4 => ?_⟩
  · have hj : j < (en.set i (some (.v d))).length := (List.getElem?_eq_some_iff.mp e).1
    rw [List.length_set, ← f.len] at hj
    rcases get_set e with ⟨rfl, e5⟩ | ⟨n, e5⟩
    · cases e5
      exact ⟨v, by rw [List.getElem?_set_self hj], r⟩
    · rw [List.getElem?_set_ne n]
      exact f.sl j s e5
  · rcases get_set e1 with ⟨_, e⟩ | ⟨n1, e1⟩
    · cases e
    rcases get_set e2 with ⟨_, e⟩ | ⟨n2, e2⟩
    · cases e
    rw [List.getElem?_set_ne n1] at e3
    rw [List.getElem?_set_ne n2] at e4
    exact f.dj j k d1 d2 p e1 e2 e3 e4
theorem Fit.drop (f : Fit K B Bo Ho H σ en) {x : Option V} : Fit K B Bo Ho H (σ.set i x) (en.set i none) := by
  refine ⟨f.bo, f.bh, f.boh, f.hoh, f.fr, f.tb, by rw [List.length_set, List.length_set]; exact f.len, fun j s e => ?_, fun j k {_ _} d1 d2 p e1 e2 e3 e4 => ?_⟩
  · rcases get_set e with ⟨rfl, e5⟩ | ⟨n, e5⟩
    · cases e5
    · rw [List.getElem?_set_ne n]
      exact f.sl j s e5
  · rcases get_set e1 with ⟨_, e⟩ | ⟨n1, e1⟩
    · cases e
    rcases get_set e2 with ⟨_, e⟩ | ⟨n2, e2⟩
    · cases e
    rw [List.getElem?_set_ne n1] at e3
    rw [List.getElem?_set_ne n2] at e4
    exact f.dj j k d1 d2 p e1 e2 e3 e4
/-- an object that is new since H -/
theorem Fit.setL {p : Addr} {l : Option Addr} (f : Fit K B Bo Ho H σ en) (g : Gr Ho H Ho' H') (hp : H p = none) (ho : Ho' p = none) (w : Own K Ho' H' p d) (al : AtL l p) : Fit K B Bo Ho' H' (σ.set i (some (.ref p))) (en.set i (some (.w l d))) := by
  have f' := f.gr g
  have far : ∀ (j : Nat) {l' : Option Addr} (d' : PD), en[j]? = some (some (.w l' d')) → σ[j]? = some (some (.ref p)) → False := fun j {l'} d' e e2 => by
    obtain ⟨q, e3, _, _, w'⟩ := f.own e
    rw [e2] at e3
    cases e3
    obtain ⟨o, eo⟩ := w'.ex
    rw [hp] at eo
    cases eo
  refine ⟨f'.bo, f'.bh, f'.boh, f'.hoh, f'.fr, f'.tb, by rw [List.length_set, List.length_set]; exact f.len, fun j s e => ?_, fun j k {_ _} d1 d2 q e1 e2 e3 e4 => ?_⟩
  · have hj : j < (en.set i (some (.w l d))).length := (List.getElem?_eq_some_iff.mp e).1
    rw [List.length_set, ← f.len] at hj
    rcases get_set e with ⟨rfl, e5⟩ | ⟨n, e5⟩
    · cases e5
      exact ⟨p, by rw [List.getElem?_set_self hj], ho, f.bh.free hp, w, al⟩
    · rw [List.getElem?_set_ne n]
      exact f'.sl j s e5
  · have key : ∀ {j : Nat} {l1 : Option Addr} {d1 : PD}, (en.set i (some (.w l d)))[j]? = some (some (.w l1 d1)) → (σ.set i (some (.ref p)))[j]? = some (some (.ref q)) → (i = j ∧ q = p) ∨ (i ≠ j ∧ en[j]? = some (some (.w l1 d1)) ∧ σ[j]? = some (some (.ref q))) := fun {j l1 d1} h1 h2 => by
      rcases get_set h1 with ⟨z1, _⟩ | ⟨n, z1⟩
      · rcases get_set h2 with ⟨_, z2⟩ | ⟨n, _⟩
        · cases z2; exact .inl ⟨z1, rfl⟩
        · exact absurd z1 n
      · rw [List.getElem?_set_ne n] at h2
        exact .inr ⟨n, z1, h2⟩
    rcases key e1 e3 with ⟨rfl, rfl⟩ | ⟨n1, a1, b1⟩
    · rcases key e2 e4 with ⟨rfl, _⟩ | ⟨n2, a2, b2⟩
      · rfl
      · exact (far _ _ a2 b2).elim
    · rcases key e2 e4 with ⟨rfl, rfl⟩ | ⟨n2, a2, b2⟩
      · exact (far _ _ a1 b1).elim
      · exact f.dj _ _ _ _ _ a1 a2 b1 b2
theorem Fit.setO {p : Addr} (f : Fit K B Bo Ho H σ en) (g : Gr Ho H Ho' H') (hp : H p = none) (ho : Ho' p = none) (w : Own K Ho' H' p d) : Fit K B Bo Ho' H' (σ.set i (some (.ref p))) (en.set i (some (.o d))) := f.setL g hp ho w trivial
/-- one's own object becomes one that stays -/
theorem Fit.freeze {l : Option Addr} (f : Fit K B Bo Ho H σ en) (h : en[i]? = some (some (.w l d))) : ∃ Ho', Fit K B Bo Ho' H σ (en.set i (some (.v d))) ∧ Same Ho Ho' := by
  obtain ⟨p, e, n1, n2, w⟩ := f.own h
  obtain ⟨o, eo⟩ := w.ex
  have m := same_new (o := o) n1
  refine ⟨upd Ho p o, ⟨f.bo, f.bh, f.boh.trans m, ⟨fun b x eb => ?_⟩, fun a ha => ?_, f.tb, by rw [List.length_set]; exact f.len, fun j s ej => ?_, fun j k {_ _} d1 d2 q e1 e2 e3 e4 => ?_⟩, m⟩
  · by_cases hb : b = p
    · subst hb; rw [upd_same] at eb; cases eb; exact ⟨_, eo, .refl _⟩
    · rw [upd_ne hb] at eb; exact f.hoh.ex _ _ eb
  · rw [upd_ne (fun e => ha (by rw [e]; exact n2))]
    exact f.fr a ha
  · rcases get_set ej with ⟨rfl, e5⟩ | ⟨n, e5⟩
    · cases e5
      exact ⟨_, e, w.rp eo n1⟩
    · have q := f.sl j s e5
      cases s with
      | v d1 => obtain ⟨v, a, r⟩ := q; exact ⟨v, a, r.mono m⟩
      | w l1 d1 =>
        obtain ⟨p1, a, b1, b2, w1, al⟩ := q
        have np : p1 ≠ p := fun z => by
          subst z
          exact n (f.dj i j _ _ _ h e5 e a)
        exact ⟨p1, a, (upd_ne np).trans b1, b2, w1.mono m (.refl _), al⟩
  · rcases get_set e1 with ⟨_, z⟩ | ⟨n1, e1⟩
    · cases z
    rcases get_set e2 with ⟨_, z⟩ | ⟨n2, e2⟩
    · cases z
    exact f.dj j k d1 d2 q e1 e2 e3 e4
/-- one's own object is written: no other one is it -/
theorem Fit.write {p : Addr} {l : Option Addr} {d' : PD} {o : HO} (f : Fit K B Bo Ho H σ en) (h : en[i]? = some (some (.w l d))) (e : σ[i]? = some (some (.ref p))) (w : Own K Ho (upd H p o) p d') : Fit K B Bo Ho (upd H p o) σ (en.set i (some (.w l d'))) := by
  obtain ⟨p', e', n1, n2, w0, al0⟩ := f.ownL h
  rw [e] at e'
  cases e'
  refine ⟨f.bo, same_poke f.bh n2, f.boh, same_poke f.hoh n1, f.fr, ?_, by rw [List.length_set]; exact f.len, fun j s ej => ?_, fun j k {_ _} d1 d2 q e1 e2 e3 e4 => ?_⟩
  · obtain ⟨o0, e0, wt⟩ := w0.wt
    exact tb_poke e0 wt f.tb
  · rcases get_set ej with ⟨rfl, e5⟩ | ⟨n, e5⟩
    · cases e5
      exact ⟨p, e, n1, n2, w, al0⟩
    · have q := f.sl j s e5
      cases s with
      | v d1 => exact q
      | w l1 d1 =>
        obtain ⟨p1, a, b1, b2, w1, al⟩ := q
        have np : p1 ≠ p := fun z => by
          subst z
          exact n (f.dj i j _ _ _ h e5 e a)
        refine ⟨p1, a, b1, b2, ?_, al⟩
        cases d1 with
        | list ds => obtain ⟨vs, q, r⟩ := w1; exact ⟨vs, (upd_ne np).trans q, r⟩
        | tuple ds => obtain ⟨vs, q, r⟩ := w1; exact ⟨vs, (upd_ne np).trans q, r⟩
        | dict ds => obtain ⟨vs, q, r⟩ := w1; exact ⟨vs, (upd_ne np).trans q, r⟩
        | _ => exact w1.elim
  · have back : ∀ {j : Nat} {l1 : Option Addr} {d1 : PD}, (en.set i (some (.w l d')))[j]? = some (some (.w l1 d1)) → ∃ (l2 : Option Addr) (d2 : PD), en[j]? = some (some (.w l2 d2)) := fun {j l1 d1} z => by
      rcases get_set z with ⟨z1, _⟩ | ⟨n, z1⟩
      · exact ⟨l, d, by rw [← z1]; exact h⟩
      · exact ⟨l1, d1, z1⟩
    obtain ⟨_, _, a1⟩ := back e1
    obtain ⟨_, _, a2⟩ := back e2
    exact f.dj j k _ _ q a1 a2 e3 e4
/-- slots forgotten -/
def Lee : En → En → Prop
  | [], [] => True
  | none :: r, _ :: s => Lee r s
  | some a :: r, b :: s => b = some a ∧ Lee r s
  | _, _ => False
theorem Lee.refl : ∀ en : En, Lee en en
  | [] => trivial
  | none :: r => Lee.refl r
  | some _ :: r => ⟨rfl, Lee.refl r⟩
theorem Lee.len : ∀ {a b : En}, Lee a b → a.length = b.length
  | [], [], _ => rfl
  | none :: r, _ :: s, h => by rw [List.length_cons, List.length_cons, Lee.len (a := r) (b := s) h]
  | some _ :: r, _ :: s, h => by rw [List.length_cons, List.length_cons, Lee.len h.2]
  | [], _ :: _, h => h.elim
  | none :: _, [], h => h.elim
  | some _ :: _, [], h => h.elim
theorem Lee.get : ∀ {a b : En} {i : Nat} {s : Sl}, Lee a b → a[i]? = some (some s) → b[i]? = some (some s)
  | [], _, _, _, _, e => by simp at e
  | none :: r, b :: s, 0, _, _, e => by simp at e
  | none :: r, b :: s, i + 1, x, h, e => by
    have := Lee.get (a := r) (b := s) (i := i) h (by simpa using e)
    simpa using this
  | some _ :: r, b :: s, 0, x, h, e => by
    obtain ⟨rfl, _⟩ := h
    simpa using e
  | some _ :: r, b :: s, i + 1, x, h, e => by
    have := Lee.get (a := r) (b := s) (i := i) h.2 (by simpa using e)
    simpa using this
  | none :: _, [], _, _, h, _ => h.elim
  | some _ :: _, [], _, _, h, _ => h.elim
theorem Fit.less {en' : En} (f : Fit K B Bo Ho H σ en) (l : Lee en' en) : Fit K B Bo Ho H σ en' :=
  ⟨f.bo, f.bh, f.boh, f.hoh, f.fr, f.tb, f.len.trans l.len.symm, fun i s e => f.sl i s (l.get e), fun i j {_ _} d d' p e1 e2 => f.dj i j d d' p (l.get e1) (l.get e2)⟩

/-! ### a base that holds what stays by now -/
def both (B Ho : Hp) : Hp := fun a => match B a with
  | some o => some o
  | none => Ho a
theorem both_of {B Ho : Hp} {a : Addr} (h : both B Ho a = none) : B a = none ∧ Ho a = none := by
  unfold both at h
  cases e : B a with
  | none => rw [e] at h; exact ⟨rfl, h⟩
  | some o => rw [e] at h; cases h
theorem both_b {B Ho : Hp} {a : Addr} {o : HO} (h : B a = some o) : both B Ho a = some o := by unfold both; rw [h]
theorem Fit.rebase (f : Fit K B Bo Ho H σ en) : Fit K (both B Ho) Ho Ho H σ en := by
  refine ⟨⟨fun a o e => ?_⟩, ⟨fun a o e => ?_⟩, .refl _, f.hoh, fun _ _ => rfl, f.tb, f.len, fun i s e => ?_, f.dj⟩
  · unfold both
    cases q : B a with
    | none => exact ⟨o, e, .refl o⟩
    | some o' =>
      have e2 := f.fr a (by rw [q]; intro z; cases z)
      rw [e] at e2
      obtain ⟨o2, h1, h2⟩ := f.bo.ex a o e2.symm
      rw [q] at h1
      exact ⟨o2, h1, h2⟩
  · unfold both at e
    cases q : B a with
    | none => rw [q] at e; exact f.hoh.ex _ _ e
    | some o' => rw [q] at e; cases e; exact f.bh.ex _ _ q
  · have h := f.sl i s e
    cases s with
    | v d => exact h
    | w l d =>
      obtain ⟨p, e1, n1, n2, w⟩ := h
      refine ⟨p, e1, n1, ?_, w⟩
      unfold both
      rw [n2]
      exact n1
/-- back: f the first, g over the new base -/
theorem Fit.unbase {H2o H2 : Hp} {σ2 : L2.St} {en2 : En} (f : Fit K B Bo Ho H σ en) (g : Fit K (both B Ho) Ho H2o H2 σ2 en2) : Fit K B Bo H2o H2 σ2 en2 := by
  refine ⟨f.bo, ⟨fun a o e => g.bh.ex _ _ (both_b e)⟩, f.boh.trans g.boh, g.hoh, fun a h => ?_, g.tb, g.len, fun i s e => ?_, g.dj⟩
  · rw [g.fr a (by
      cases q : B a with
      | none => exact absurd q h
      | some o => rw [both_b q]; intro z; cases z)]
    exact f.fr a h
  · have h := g.sl i s e
    cases s with
    | v d => exact h
    | w l d =>
      obtain ⟨p, e1, n1, n2, w⟩ := h
      exact ⟨p, e1, n1, (both_of n2).1, w⟩
theorem Fit.unbaseG {H2o H2 : Hp} (f : Fit K B Bo Ho H σ en) (g : Gr Ho (both B Ho) H2o H2) : Gr Bo B H2o H2 :=
  ⟨⟨fun a o e => g.h.ex _ _ (both_b e)⟩, f.boh.trans g.o, g.s, fun a h => by
    rw [g.fr a (by
      cases q : B a with
      | none => exact absurd q h
      | some o => rw [both_b q]; intro z; cases z)]
    exact f.fr a h, fun t => g.tb (LamX.Tabs.ext t fun _ _ e => both_b e)⟩
theorem Rs.unbase {k : Kd} {H2o H2 : Hp} (h : Rs K k (both B Ho) H2o H2 v d) : Rs K k B H2o H2 v d := by
  cases k with
  | o => obtain ⟨p, e, n, r⟩ := h; exact ⟨p, e, (both_of n).1, r⟩
  | _ => exact h
end
end DL

namespace DL
open PySem PySem.Spec PyProof.Rows L2
variable [Lam]

/-! ### the weakest readings -/
structure wE (X : Cx) (e : Expr) (σ : L2.St) (H : Hp) (Q : VK) : Prop where
  run : ∀ (pins : List (Addr × Obj)) (s : Shared), Inv X pins σ H s → wpAny (model X.prog X.w) X.A (eval e X.env) (EP X pins σ Q) X.xe s
theorem pe_w {X : Cx} {e : Expr} : PE X e (wE X e) := ⟨fun pins s _ _ _ I h => h.run pins s I⟩
theorem wE_of {X : Cx} {e : Expr} {t : TE} {σ : L2.St} {H : Hp} {Q : VK} (h : PE X e t) (q : t σ H Q) : wE X e σ H Q := ⟨fun pins s I => h.run pins s σ H Q I q⟩
structure wT (X : Cx) (e : Expr) (σ : L2.St) (H : Hp) (Q : Bool → Hp → Prop) : Prop where
  run : ∀ (pins : List (Addr × Obj)) (s : Shared), Inv X pins σ H s → wpAny (model X.prog X.w) X.A (isTrue e X.env (eval e X.env)) (TP X pins σ Q) X.xe s
theorem pt_w {X : Cx} {e : Expr} : PT X e (wT X e) := ⟨fun pins s _ _ _ I h => h.run pins s I⟩
theorem wT_of {X : Cx} {e : Expr} {t : TT} {σ : L2.St} {H : Hp} {Q : Bool → Hp → Prop} (h : PT X e t) (q : t σ H Q) : wT X e σ H Q := ⟨fun pins s I => h.run pins s σ H Q I q⟩
structure wW (X : Cx) (e : Expr) (σ : L2.St) (H : Hp) (Q : Bool → Hp → Prop) : Prop where
  run : ∀ (whole : Sem Value) (pins : List (Addr × Obj)) (s : Shared), Inv X pins σ H s → wpAny (model X.prog X.w) X.A (isTrue e X.env whole) (TP X pins σ Q) X.xe s
theorem pw_w {X : Cx} {e : Expr} : PW X e (wW X e) := ⟨fun wh pins s _ _ _ I h => h.run wh pins s I⟩
theorem wW_of {X : Cx} {e : Expr} {t : TT} {σ : L2.St} {H : Hp} {Q : Bool → Hp → Prop} (h : PW X e t) (q : t σ H Q) : wW X e σ H Q := ⟨fun wh pins s I => h.run wh pins s σ H Q I q⟩
structure wA (X : Cx) (es : List Expr) (σ : L2.St) (H : Hp) (Q : List V → Hp → Prop) : Prop where
  run : ∀ (pos : Pos) (pins : List (Addr × Obj)) (s : Shared), Inv X pins σ H s → wpAny (model X.prog X.w) X.A (spliced (backTo pos (starEach es X.env))) (AP X pins σ Q) X.xe s
theorem pa_w {X : Cx} {es : List Expr} : PA X es (wA X es) := ⟨fun pos pins s _ _ _ I h => h.run pos pins s I⟩
theorem wA_of {X : Cx} {es : List Expr} {t : TA} {σ : L2.St} {H : Hp} {Q : List V → Hp → Prop} (h : PA X es t) (q : t σ H Q) : wA X es σ H Q := ⟨fun pos pins s I => h.run pos pins s σ H Q I q⟩
structure wS (X : Cx) (st : Stmt) (D : Ends) (σ : L2.St) (H : Hp) : Prop where
  run : ∀ (pins : List (Addr × Obj)) (s : Shared), Inv X pins σ H s → wpAny (model X.prog X.w) X.A (exec st X.env) (SP X pins D) X.xe s
theorem ps_w {X : Cx} {st : Stmt} : PS X st (wS X st) := ⟨fun pins s _ _ _ I h => h.run pins s I⟩
theorem wS_of {X : Cx} {st : Stmt} {t : TS} {D : Ends} {σ : L2.St} {H : Hp} (h : PS X st t) (q : t D σ H) : wS X st D σ H := ⟨fun pins s I => h.run pins s σ H D I q⟩
structure wSs (X : Cx) (st : List Stmt) (D : Ends) (σ : L2.St) (H : Hp) : Prop where
  run : ∀ (pins : List (Addr × Obj)) (s : Shared), Inv X pins σ H s → wpAny (model X.prog X.w) X.A (execs st X.env) (SP X pins D) X.xe s
theorem pss_w {X : Cx} {st : List Stmt} : PSs X st (wSs X st) := ⟨fun pins s _ _ _ I h => h.run pins s I⟩
theorem wSs_of {X : Cx} {st : List Stmt} {t : TS} {D : Ends} {σ : L2.St} {H : Hp} (h : PSs X st t) (q : t D σ H) : wSs X st D σ H := ⟨fun pins s I => h.run pins s σ H D I q⟩
structure wG (X : Cx) (tg : Expr) (v : V) (σ : L2.St) (H : Hp) (Q : L2.St → Hp → Prop) : Prop where
  run : ∀ (pins : List (Addr × Obj)) (s : Shared) (u : Value), Inv X pins σ H s → RelV v u → wpAny (model X.prog X.w) X.A (assign tg X.env u) (fun _ s' => ∃ σ' H', Inv X pins σ' H' s' ∧ Q σ' H') X.xe s
theorem pg_w {X : Cx} {tg : Expr} : PG X tg (wG X tg) := ⟨fun pins s _ _ _ u _ I r h => h.run pins s u I r⟩
theorem wG_of {X : Cx} {tg : Expr} {t : TG} {v : V} {σ : L2.St} {H : Hp} {Q : L2.St → Hp → Prop} (h : PG X tg t) (q : t v σ H Q) : wG X tg v σ H Q := ⟨fun pins s u I r => h.run pins s σ H v u Q I r q⟩

/-! ### the judgements over data -/
def DE (X : Cx) (en : En) (e : Expr) (k : Kd) (d : PD) : Prop := ∀ (B Bo Ho H : Hp) (σ : L2.St), Fit X.K B Bo Ho H σ en → ∀ Q : VK, (∀ v Ho' H', Gr Ho H Ho' H' → Rs X.K k H Ho' H' v d → Q v H') → wE X e σ H Q
def DT (X : Cx) (en : En) (e : Expr) (b : Bool) : Prop := ∀ (B Bo Ho H : Hp) (σ : L2.St), Fit X.K B Bo Ho H σ en → ∀ Q : Bool → Hp → Prop, (∀ Ho' H', Gr Ho H Ho' H' → Q b H') → wT X e σ H Q
def DW (X : Cx) (en : En) (e : Expr) (b : Bool) : Prop := ∀ (B Bo Ho H : Hp) (σ : L2.St), Fit X.K B Bo Ho H σ en → ∀ Q : Bool → Hp → Prop, (∀ Ho' H', Gr Ho H Ho' H' → Q b H') → wW X e σ H Q
def hK (k : Kd) (Ho H : Hp) : Hp := match k with
  | .c => Ho
  | _ => H
def DA (X : Cx) (en : En) (es : List Expr) (k : Kd) (ds : List PD) : Prop := ∀ (B Bo Ho H : Hp) (σ : L2.St), Fit X.K B Bo Ho H σ en → ∀ Q : List V → Hp → Prop, (∀ vs Ho' H', Gr Ho H Ho' H' → RpA X.K (hK k Ho' H') vs ds → Q vs H') → wA X es σ H Q

section
variable {K : PySem.W.Frag} {k : Kd} {H0 H Ho H1o H1 H2o H2 : Hp} {v : V} {d : PD}
theorem Rs.gr (h : Rs K k H0 H1o H1 v d) (g : Gr H1o H1 H2o H2) : Rs K k H0 H2o H2 v d := by
  cases k with
  | c => exact Rp.mono g.o h
  | e =>
    cases d with
    | list ds => obtain ⟨p, xs, e, q, r⟩ := h; exact ⟨p, xs, e, g.h.at _ _ q, r.mono g.o⟩
    | tuple ds => obtain ⟨p, xs, e, q, r⟩ := h; exact ⟨p, xs, e, g.h.at _ _ q, r.mono g.o⟩
    | dict ds =>
      rcases h with ⟨p, xs, e, q, r⟩ | h
      · exact .inl ⟨p, xs, e, g.h.at _ _ q, r.mono g.o⟩
      · exact .inr (Rp.mono g.o h)
    | _ => exact Rp.mono g.o h
  | t => exact Rp.mono g.h h
  | o =>
    obtain ⟨p, e, n1, n2, w⟩ := h
    obtain ⟨o, eo⟩ := w.ex
    exact ⟨p, e, n1, (g.fr p (by rw [eo]; intro z; cases z)).trans n2, w.mono g.o g.h⟩
theorem Rs.base (e : Same H H1) (h : Rs K k H1 H2o H2 v d) : Rs K k H H2o H2 v d := by
  cases k with
  | o => obtain ⟨p, e1, n, r⟩ := h; exact ⟨p, e1, e.free n, r⟩
  | _ => exact h
theorem Rs.rpt (h : Rs K k H0 H1o H1 v d) (s : Same H1o H1) : Rp K H1 v d := by
  cases k with
  | c => exact Rp.mono s h
  | e => exact RpE.rp h s
  | t => exact h
  | o =>
    obtain ⟨p, rfl, n1, n2, w⟩ := h
    exact w.rpe.rp s
theorem Rs.rpe (h : Rs K k H0 H1o H1 v d) (s : Same H1o H1) (hk : k ≠ .t) : RpE K H1o H1 v d := by
  cases k with
  | c => exact Rp.rpe h s
  | e => exact h
  | t => exact absurd rfl hk
  | o =>
    obtain ⟨p, rfl, n1, n2, w⟩ := h
    exact w.rpe
theorem Rs.int_inv {i : Int} (h : Rs K k H0 H1o H1 v (.int i)) : v = .int i := by
  cases k with
  | o => obtain ⟨p, _, _, _, w⟩ := h; exact w.elim
  | _ => exact Rp.int_inv h
theorem Rs.bool_inv {i : Bool} (h : Rs K k H0 H1o H1 v (.bool i)) : v = .bl i := by
  cases k with
  | o => obtain ⟨p, _, _, _, w⟩ := h; exact w.elim
  | _ => exact Rp.bool_inv h
theorem Rs.str_inv {i : Str} (h : Rs K k H0 H1o H1 v (.str i)) : v = .str i := by
  cases k with
  | o => obtain ⟨p, _, _, _, w⟩ := h; exact w.elim
  | _ => exact Rp.str_inv h
theorem Rs.none_inv (h : Rs K k H0 H1o H1 v .none) : v = .non := by
  cases k with
  | o => obtain ⟨p, _, _, _, w⟩ := h; exact w.elim
  | _ => exact Rp.none_inv h
def sc : PD → Bool
  | .int _ => true | .bool _ => true | .str _ => true | .none => true | _ => false
theorem Rp.scal {H' : Hp} (h : Rp K H v d) (hs : sc d = true) : Rp K H' v d := by
  cases h with
  | non => exact .non
  | bl b => exact .bl b
  | int i => exact .int i
  | str x => exact .str x
  | _ => cases hs
end

section
variable {X : Cx} {en : En} {a b e : Expr} {pos : Pos} {k ka kb : Kd} {d da db : PD}

/-! ### turning kinds -/
theorem DE.kt (h : DE X en e k d) : DE X en e .t d := fun B Bo Ho H σ f Q q => h B Bo Ho H σ f Q fun v Ho' H' g r => q v Ho' H' g (r.rpt g.s)
theorem DE.ke (h : DE X en e k d) (hk : k ≠ .t := by decide) : DE X en e .e d := fun B Bo Ho H σ f Q q => h B Bo Ho H σ f Q fun v Ho' H' g r => q v Ho' H' g (r.rpe g.s hk)
theorem DE.kc (h : DE X en e .o d) : DE X en e .c d := fun B Bo Ho H σ f Q q => h B Bo Ho H σ f Q fun v Ho' H' g r => by
  obtain ⟨p, rfl, n1, n2, w⟩ := r
  obtain ⟨o, eo⟩ := w.ex
  exact q _ _ _ (g.keep n1 n2 eo) (w.rp eo n2)
theorem DE.scal (h : DE X en e k d) (hs : sc d = true) : DE X en e .c d := fun B Bo Ho H σ f Q q => h B Bo Ho H σ f Q fun v Ho' H' g r => q v Ho' H' g (Rp.scal (r.rpt g.s) hs)
theorem DE.is {d' : PD} (h : DE X en e k d) (q : d = d') : DE X en e k d' := q ▸ h
theorem DT.is {c c' : Bool} (h : DT X en e c) (q : c = c') : DT X en e c' := q ▸ h

/-! ### names, constants -/
def visB (sc : Scope) (x : Str) : Bool := match sc.names.lookup x with
  | some .local => true
  | some .cell => true
  | some .free => true
  | _ => false
theorem vis_of {sc : Scope} {x : Str} (h : visB sc x = true) : Vis sc x := by
  unfold visB at h
  split at h
  · exact .inl (by assumption)
  · exact .inr (.inl (by assumption))
  · exact .inr (.inr (by assumption))
  · cases h
def glB (X : Cx) (x : Str) : Bool := match X.env.kindOf x with
  | some .globalImplicit => true
  | _ => false
theorem gl_of {X : Cx} {x : Str} (h : glB X x = true) : Gl X x := by
  unfold glB at h
  split at h
  · assumption
  · cases h
def locB (sc : Scope) (x : Str) : Bool := match sc.names.lookup x with
  | some .local => true
  | some .cell => true
  | _ => false
theorem loc_of {sc : Scope} {x : Str} (h : locB sc x = true) : Loc sc x := by
  unfold locB at h
  split at h
  · exact .inl (by assumption)
  · exact .inr (by assumption)
  · cases h
def fnB (X : Cx) (x : Str) : Bool := match X.fn x with
  | true => true
  | false => match X.env.scope.names.lookup x with
    | some .local => true
    | _ => false
theorem fn_ofB {X : Cx} {x : Str} (h : fnB X x = true) : X.fn x = true ∨ X.env.scope.names.lookup x = some .local := by
  unfold fnB at h
  split at h
  · exact .inl (by assumption)
  · split at h
    · exact .inr (by assumption)
    · cases h
theorem de_v (i : Nat) {x : Str} (h : en[i]? = some (some (.v d)) := by rfl) (hN : X.N[i]? = some x := by kernel_rfl) (hv : visB X.env.scope x = true := by kernel_rfl)
    (hd : (x == ("__debug__" : Str)) = false := by kernel_rfl) (hcd : (x == ("__classdict__" : Str)) = false := by kernel_rfl) : DE X en (.Name x pos) .c d := fun B Bo Ho H σ f Q q => by
  obtain ⟨v, e1, r⟩ := f.var h
  exact wE_of (pe_var hN (vis_of hv) hd hcd) ⟨v, e1, q v Ho H (.refl f.hoh) r⟩
theorem de_vo (i : Nat) {x : Str} (h : en[i]? = some (some (.o d)) := by rfl) (hN : X.N[i]? = some x := by kernel_rfl) (hv : visB X.env.scope x = true := by kernel_rfl)
    (hd : (x == ("__debug__" : Str)) = false := by kernel_rfl) (hcd : (x == ("__classdict__" : Str)) = false := by kernel_rfl) : DE X en (.Name x pos) .e d := fun B Bo Ho H σ f Q q => by
  obtain ⟨p, e1, n1, n2, w⟩ := f.own h
  exact wE_of (pe_var hN (vis_of hv) hd hcd) ⟨_, e1, q _ Ho H (.refl f.hoh) w.rpe⟩
theorem de_int {i j} : DE X en (.Constant (.int i) j pos) .c (.int i) := fun B Bo Ho H σ f Q q => wE_of pe_int (q _ Ho H (.refl f.hoh) (.int i))
theorem de_bl {i j} : DE X en (.Constant (.bool i) j pos) .c (.bool i) := fun B Bo Ho H σ f Q q => wE_of pe_bl (q _ Ho H (.refl f.hoh) (.bl i))
theorem de_non {j} : DE X en (.Constant .none j pos) .c .none := fun B Bo Ho H σ f Q q => wE_of pe_non (q _ Ho H (.refl f.hoh) .non)
theorem de_str {x j} : DE X en (.Constant (.str x) j pos) .c (.str x) := fun B Bo Ho H σ f Q q => wE_of pe_str (q _ Ho H (.refl f.hoh) (.str x))

/-! ### operators -/
/-- an operation on two values, over data -/
def Op2 (K : PySem.W.Frag) (r : R2) (ka : Kd) (da : PD) (kb : Kd) (db : PD) (k : Kd) (d : PD) : Prop := ∀ (H0 H0' Ho H : Hp) (v u : V), Same Ho H → Rs K ka H0 Ho H v da → Rs K kb H0' Ho H u db → ∀ Q : VK, (∀ z Ho' H', Gr Ho H Ho' H' → Rs K k H Ho' H' z d → Q z H') → r v u H Q
theorem de_op {op : Operator} {r : R2} (ho : OpR X (binaryOp op) r) (ha : DE X en a ka da) (hb : DE X en b kb db) (hr : Op2 X.K r ka da kb db k d) : DE X en (.BinOp a op b pos) k d := fun B Bo Ho H σ f Q q => by
  refine wE_of (pe_op ho pe_w pe_w) ?_
  refine ha B Bo Ho H σ f _ fun v H1o H1 g1 r1 => ?_
  refine hb B Bo H1o H1 σ (f.gr g1) _ fun u H2o H2 g2 r2 => ?_
  exact hr H H1 H2o H2 v u g2.s (r1.gr g2) r2 Q fun z H3o H3 g3 r3 => q z H3o H3 ((g1.trans g2).trans g3) (r3.base (g1.h.trans g2.h))
theorem de_cmp {op : CmpOp} {r : R2} (ho : OpR X (compareOp op) r) (ha : DE X en a ka da) (hb : DE X en b kb db) (hr : Op2 X.K r ka da kb db k d) (hm : behindInMarks op b = false := by kernel_rfl) : DE X en (.Compare a [op] [b] pos) k d := fun B Bo Ho H σ f Q q => by
  refine wE_of (pe_cmpR ho pe_w pe_w hm) ?_
  refine ha B Bo Ho H σ f _ fun v H1o H1 g1 r1 => ?_
  refine hb B Bo H1o H1 σ (f.gr g1) _ fun u H2o H2 g2 r2 => ?_
  exact hr H H1 H2o H2 v u g2.s (r1.gr g2) r2 Q fun z H3o H3 g3 r3 => q z H3o H3 ((g1.trans g2).trans g3) (r3.base (g1.h.trans g2.h))
theorem dt_cmp {op : CmpOp} {r : R2} {c : Bool} (ho : OpR X (compareOp op) r) (ha : DE X en a ka da) (hb : DE X en b kb db) (hr : Op2 X.K r ka da kb db k (.bool c)) (hm : behindInMarks op b = false := by kernel_rfl) : DT X en (.Compare a [op] [b] pos) c := fun B Bo Ho H σ f Q q => by
  refine wT_of (pt_cmpR ho pe_w pe_w hm) ?_
  refine ha B Bo Ho H σ f _ fun v H1o H1 g1 r1 => ?_
  refine hb B Bo H1o H1 σ (f.gr g1) _ fun u H2o H2 g2 r2 => ?_
  exact hr H H1 H2o H2 v u g2.s (r1.gr g2) r2 _ fun z H3o H3 g3 r3 => ⟨c, r3.bool_inv, q H3o H3 ((g1.trans g2).trans g3)⟩
variable {K : PySem.W.Frag} {i j : Int}
theorem o2_I0 {g : Int → Int → V} {gd : PD} (hg : ∀ H, Rp K H (g i j) gd) : Op2 K (rI0 g) ka (.int i) kb (.int j) .c gd := fun H0 H0' Ho H v u s r1 r2 Q q =>
  ⟨i, j, r1.int_inv, r2.int_inv, q _ Ho H (.refl s) (hg _)⟩
theorem o2_I {C : Int → Int → Prop} {g : Int → Int → V} {gd : PD} (hc : C i j) (hg : ∀ H, Rp K H (g i j) gd) : Op2 K (rI C g) ka (.int i) kb (.int j) .c gd := fun H0 H0' Ho H v u s r1 r2 Q q =>
  ⟨i, j, r1.int_inv, r2.int_inv, hc, q _ Ho H (.refl s) (hg _)⟩
theorem de_add (ha : DE X en a ka (.int i)) (hb : DE X en b kb (.int j)) : DE X en (.BinOp a .Add b pos) .c (.int (i + j)) := de_op op_add ha hb (o2_I0 fun _ => .int _)
theorem de_sub (ha : DE X en a ka (.int i)) (hb : DE X en b kb (.int j)) : DE X en (.BinOp a .Sub b pos) .c (.int (i - j)) := de_op op_sub ha hb (o2_I0 fun _ => .int _)
theorem de_mul (ha : DE X en a ka (.int i)) (hb : DE X en b kb (.int j)) (hc : CMul i j) : DE X en (.BinOp a .Mult b pos) .c (.int (i * j)) := de_op op_mul ha hb (o2_I hc fun _ => .int _)
theorem de_mod (ha : DE X en a ka (.int i)) (hb : DE X en b kb (.int j)) (hc : 0 < j) : DE X en (.BinOp a .Mod b pos) .c (.int (i % j)) := de_op op_mod ha hb (o2_I hc fun _ => .int _)
theorem de_div (ha : DE X en a ka (.int i)) (hb : DE X en b kb (.int j)) (hc : CDiv i j) : DE X en (.BinOp a .FloorDiv b pos) .c (.int (i / j)) := de_op op_fdiv ha hb (o2_I hc fun _ => .int _)
theorem de_pow (ha : DE X en a ka (.int i)) (hb : DE X en b kb (.int j)) (hc : CPow i j) : DE X en (.BinOp a .Pow b pos) .c (.int (i ^ j.toNat)) := de_op op_pow ha hb (o2_I hc fun _ => .int _)
theorem de_neg (ha : DE X en a ka (.int i)) : DE X en (.UnaryOp .USub a pos) .c (.int (-i)) := fun B Bo Ho H σ f Q q => by
  refine wE_of (pe_un un_neg pe_w) ?_
  refine ha B Bo Ho H σ f _ fun v H1o H1 g1 r1 => ?_
  exact ⟨i, r1.int_inv, q _ H1o H1 g1 (.int _)⟩
theorem de_lt (ha : DE X en a ka (.int i)) (hb : DE X en b kb (.int j)) (hm : behindInMarks .Lt b = false := by kernel_rfl) : DE X en (.Compare a [.Lt] [b] pos) .c (.bool (decide (i < j))) := de_cmp op_lt ha hb (o2_I0 fun _ => .bl _) hm
theorem de_le (ha : DE X en a ka (.int i)) (hb : DE X en b kb (.int j)) (hm : behindInMarks .LtE b = false := by kernel_rfl) : DE X en (.Compare a [.LtE] [b] pos) .c (.bool (decide (i ≤ j))) := de_cmp op_le ha hb (o2_I0 fun _ => .bl _) hm
theorem de_gt (ha : DE X en a ka (.int i)) (hb : DE X en b kb (.int j)) (hm : behindInMarks .Gt b = false := by kernel_rfl) : DE X en (.Compare a [.Gt] [b] pos) .c (.bool (decide (j < i))) := de_cmp op_gt ha hb (o2_I0 fun _ => .bl _) hm
theorem de_ge (ha : DE X en a ka (.int i)) (hb : DE X en b kb (.int j)) (hm : behindInMarks .GtE b = false := by kernel_rfl) : DE X en (.Compare a [.GtE] [b] pos) .c (.bool (decide (j ≤ i))) := de_cmp op_ge ha hb (o2_I0 fun _ => .bl _) hm
theorem dt_lt (ha : DE X en a ka (.int i)) (hb : DE X en b kb (.int j)) (hm : behindInMarks .Lt b = false := by kernel_rfl) : DT X en (.Compare a [.Lt] [b] pos) (decide (i < j)) := dt_cmp op_lt ha hb (o2_I0 fun _ => .bl _) hm
theorem dt_le (ha : DE X en a ka (.int i)) (hb : DE X en b kb (.int j)) (hm : behindInMarks .LtE b = false := by kernel_rfl) : DT X en (.Compare a [.LtE] [b] pos) (decide (i ≤ j)) := dt_cmp op_le ha hb (o2_I0 fun _ => .bl _) hm
theorem dt_gt (ha : DE X en a ka (.int i)) (hb : DE X en b kb (.int j)) (hm : behindInMarks .Gt b = false := by kernel_rfl) : DT X en (.Compare a [.Gt] [b] pos) (decide (j < i)) := dt_cmp op_gt ha hb (o2_I0 fun _ => .bl _) hm
theorem dt_ge (ha : DE X en a ka (.int i)) (hb : DE X en b kb (.int j)) (hm : behindInMarks .GtE b = false := by kernel_rfl) : DT X en (.Compare a [.GtE] [b] pos) (decide (j ≤ i)) := dt_cmp op_ge ha hb (o2_I0 fun _ => .bl _) hm

/-! ### == -/
/-- no dict in it -/
def nd0 (d : PD) : Bool := d.canLay0
mutual
theorem Rp.dp {H : Hp} : ∀ {v : V} {d : PD}, Rp K H v d → d.canLay0 = true → Dp K H v d
  | _, _, .non, _ => .non
  | _, _, .bl b, _ => .bl b
  | _, _, .int i, _ => .int i
  | _, _, .str x, _ => .str x
  | _, _, .lst h r, c => .lst (.inl (.inl h)) (RpA.dp r (by simpa [PyData.canLay0] using c))
  | _, _, .tup h r, c => .tup (.inl (.inl h)) (RpA.dp r (by simpa [PyData.canLay0] using c))
  | _, _, .dct h r, c => by simp [PyData.canLay0] at c
  | _, _, .scr h, c => by simp [DL.scr, PyData.canLay0] at c
  | _, _, .tux h n r, c => by simp [DL.tx, PyData.canLay0] at c
  | _, _, .adr a, c => by simp [DL.adD, PyData.canLay0] at c
  | _, _, .obj h o r, c => by simp [DL.obD, PyData.canLay0] at c
  | _, _, .fact h, c => by simp [DL.atD, PyData.canLay0] at c
theorem RpA.dp {H : Hp} : ∀ {v : List V} {d : List PD}, RpA K H v d → PyData.canLayAll0 d = true → DpAll K H v d
  | _, _, .nil, _ => .nil
  | _, _, .cons h r, c => by
    simp only [PyData.canLayAll0, Bool.and_eq_true] at c
    exact .cons (Rp.dp h c.1) (RpA.dp r c.2)
end
theorem o2_eqD (h1 : SeqAt.shaped da = true) (h2 : SeqAt.shaped db = true) : Op2 K (rEqD K) ka da kb db .c (.bool (PyData.eqv da db)) := fun H0 H0' Ho H v u s r1 r2 Q q =>
  ⟨da, db, (r1.rpt s).dp (SeqAt.canLay_of_shaped h1), (r2.rpt s).dp (SeqAt.canLay_of_shaped h2), h1, h2, q _ Ho H (.refl s) (.bl _)⟩
theorem o2_neD (h1 : SeqAt.shaped da = true) (h2 : SeqAt.shaped db = true) : Op2 K (rNeD K) ka da kb db .c (.bool (!PyData.eqv da db)) := fun H0 H0' Ho H v u s r1 r2 Q q =>
  ⟨da, db, (r1.rpt s).dp (SeqAt.canLay_of_shaped h1), (r2.rpt s).dp (SeqAt.canLay_of_shaped h2), h1, h2, q _ Ho H (.refl s) (.bl _)⟩
theorem hu64 {A : Around} {k : Nat} (hr : Room k A) : A.units + 64 < cLine := by have := hr.un; omega
theorem hu65 {A : Around} {k : Nat} (hr : Room k A) : A.units + 65 < cLine := by have := hr.un; omega
theorem de_eq {n : Nat} (hr : Room n X.A) (ha : DE X en a ka da) (hb : DE X en b kb db) (h1 : SeqAt.shaped da = true) (h2 : SeqAt.shaped db = true) (hm : behindInMarks .Eq b = false := by kernel_rfl) : DE X en (.Compare a [.Eq] [b] pos) .c (.bool (PyData.eqv da db)) :=
  de_cmp (op_eqD (hu64 hr)) ha hb (o2_eqD h1 h2) hm
theorem de_ne {n : Nat} (hr : Room n X.A) (ha : DE X en a ka da) (hb : DE X en b kb db) (h1 : SeqAt.shaped da = true) (h2 : SeqAt.shaped db = true) (hm : behindInMarks .NotEq b = false := by kernel_rfl) : DE X en (.Compare a [.NotEq] [b] pos) .c (.bool (!PyData.eqv da db)) :=
  de_cmp (op_neD (hu64 hr)) ha hb (o2_neD h1 h2) hm
theorem dt_eq {n : Nat} (hr : Room n X.A) (ha : DE X en a ka da) (hb : DE X en b kb db) (h1 : SeqAt.shaped da = true) (h2 : SeqAt.shaped db = true) (hm : behindInMarks .Eq b = false := by kernel_rfl) : DT X en (.Compare a [.Eq] [b] pos) (PyData.eqv da db) :=
  dt_cmp (op_eqD (hu64 hr)) ha hb (o2_eqD h1 h2) hm
theorem dt_ne {n : Nat} (hr : Room n X.A) (ha : DE X en a ka da) (hb : DE X en b kb db) (h1 : SeqAt.shaped da = true) (h2 : SeqAt.shaped db = true) (hm : behindInMarks .NotEq b = false := by kernel_rfl) : DT X en (.Compare a [.NotEq] [b] pos) (!PyData.eqv da db) :=
  dt_cmp (op_neD (hu64 hr)) ha hb (o2_neD h1 h2) hm
/-- ints, texts, None beside each other -/
def toV : PD → V
  | .int i => .int i | .bool b => .bl b | .str x => .str x | _ => .non
theorem Rs.toV {H0 Ho H : Hp} {v : V} (h : Rs K k H0 Ho H v d) (hs : sc d = true) : v = DL.toV d := by
  cases d with
  | int i => exact h.int_inv
  | bool i => exact h.bool_inv
  | str i => exact h.str_inv
  | none => exact h.none_inv
  | _ => cases hs
theorem o2_eqS (h1 : sc da = true) (h2 : sc db = true) (hs : scal (toV da) (toV db) = true) : Op2 K rEq ka da kb db .c (.bool (decide (toV da = toV db))) := fun H0 H0' Ho H v u s r1 r2 Q q => by
  rw [r1.toV h1, r2.toV h2]
  exact ⟨hs, q _ Ho H (.refl s) (.bl _)⟩
theorem o2_neS (h1 : sc da = true) (h2 : sc db = true) (hs : scal (toV da) (toV db) = true) : Op2 K rNe ka da kb db .c (.bool (!decide (toV da = toV db))) := fun H0 H0' Ho H v u s r1 r2 Q q => by
  rw [r1.toV h1, r2.toV h2]
  exact ⟨hs, q _ Ho H (.refl s) (.bl _)⟩
theorem de_eqI (ha : DE X en a ka (.int i)) (hb : DE X en b kb (.int j)) (hm : behindInMarks .Eq b = false := by kernel_rfl) : DE X en (.Compare a [.Eq] [b] pos) .c (.bool (decide (i = j))) :=
  (de_cmp op_eq ha hb (o2_eqS rfl rfl rfl) hm).is (by simp [toV])
theorem de_neI (ha : DE X en a ka (.int i)) (hb : DE X en b kb (.int j)) (hm : behindInMarks .NotEq b = false := by kernel_rfl) : DE X en (.Compare a [.NotEq] [b] pos) .c (.bool (!decide (i = j))) :=
  (de_cmp op_ne ha hb (o2_neS rfl rfl rfl) hm).is (by simp [toV])
theorem dt_eqI (ha : DE X en a ka (.int i)) (hb : DE X en b kb (.int j)) (hm : behindInMarks .Eq b = false := by kernel_rfl) : DT X en (.Compare a [.Eq] [b] pos) (decide (i = j)) :=
  (dt_cmp op_eq ha hb (o2_eqS rfl rfl rfl) hm).is (by simp [toV])
theorem dt_neI (ha : DE X en a ka (.int i)) (hb : DE X en b kb (.int j)) (hm : behindInMarks .NotEq b = false := by kernel_rfl) : DT X en (.Compare a [.NotEq] [b] pos) (!decide (i = j)) :=
  (dt_cmp op_ne ha hb (o2_neS rfl rfl rfl) hm).is (by simp [toV])
theorem dt_eqT {x y : Str} (ha : DE X en a ka (.str x)) (hb : DE X en b kb (.str y)) (hm : behindInMarks .Eq b = false := by kernel_rfl) : DT X en (.Compare a [.Eq] [b] pos) (decide (x = y)) :=
  (dt_cmp op_eq ha hb (o2_eqS rfl rfl rfl) hm).is (by simp [toV])
theorem de_isN (ha : DE X en a ka d) {j} (hs : ka ≠ .o := by decide) : DE X en (.Compare a [.Is] [.Constant .none j pos] pos) .c (.bool (match d with | .none => true | _ => false)) := fun B Bo Ho H σ f Q q => by
  refine wE_of (pe_cmpR op_isN pe_w pe_non rfl) ?_
  refine ha B Bo Ho H σ f _ fun v H1o H1 g1 r1 => ?_
  refine ⟨rfl, q _ H1o H1 g1 ?_⟩
  have r := r1.rpt g1.s
  cases r <;> exact .bl _

/-! ### and, or, not, choices -/
theorem dt_val {c : Bool} (h : DE X en e k (.bool c)) (he : ∀ whole, isTrue e X.env whole = (do let v ← whole; standAt e.pos; holding [v] (truthy v)) := by intro _; rfl) : DT X en e c := fun B Bo Ho H σ f Q q =>
  wT_of (pt_val pe_w he) (h B Bo Ho H σ f _ fun v H1o H1 g1 r1 => ⟨c, r1.bool_inv, q H1o H1 g1⟩)
theorem DW.dt {c : Bool} (h : DW X en e c) : DT X en e c := fun B Bo Ho H σ f Q q => wT_of (PW.pt pw_w) (h B Bo Ho H σ f Q q)
theorem dt_not {c : Bool} (h : DT X en e c) : DT X en (.UnaryOp .Not e pos) (!c) := fun B Bo Ho H σ f Q q => wT_of (pt_not pt_w) (h B Bo Ho H σ f _ fun H1o H1 g1 => q H1o H1 g1)
theorem dw_and1 {c : Bool} (h : DT X en e c) : DW X en (.BoolOp .And [e] pos) c := fun B Bo Ho H σ f Q q => wW_of (pw_and1 pt_w) (h B Bo Ho H σ f Q q)
theorem dw_or1 {c : Bool} (h : DT X en e c) : DW X en (.BoolOp .Or [e] pos) c := fun B Bo Ho H σ f Q q => wW_of (pw_or1 pt_w) (h B Bo Ho H σ f Q q)
theorem dw_and {rest : List Expr} {c1 c2 : Bool} (ha : DT X en a c1) (hb : c1 = true → DW X en (.BoolOp .And (b :: rest) pos) c2) : DW X en (.BoolOp .And (a :: b :: rest) pos) (c1 && c2) := fun B Bo Ho H σ f Q q => by
  refine wW_of (pw_and pt_w pw_w) (ha B Bo Ho H σ f _ fun H1o H1 g1 => ?_)
  cases c1 with
  | true =>
    show wW X _ σ H1 Q
    exact hb rfl B Bo H1o H1 σ (f.gr g1) Q fun H2o H2 g2 => q H2o H2 (g1.trans g2)
  | false => exact q H1o H1 g1
theorem dw_or {rest : List Expr} {c1 c2 : Bool} (ha : DT X en a c1) (hb : c1 = false → DW X en (.BoolOp .Or (b :: rest) pos) c2) : DW X en (.BoolOp .Or (a :: b :: rest) pos) (c1 || c2) := fun B Bo Ho H σ f Q q => by
  refine wW_of (pw_or pt_w pw_w) (ha B Bo Ho H σ f _ fun H1o H1 g1 => ?_)
  cases c1 with
  | true => exact q H1o H1 g1
  | false =>
    show wW X _ σ H1 Q
    exact hb rfl B Bo H1o H1 σ (f.gr g1) Q fun H2o H2 g2 => q H2o H2 (g1.trans g2)
theorem de_one {op} (h : DE X en e k d) : DE X en (.BoolOp op [e] pos) k d := fun B Bo Ho H σ f Q q => wE_of (pe_one pe_w) (h B Bo Ho H σ f Q q)
theorem de_and {rest : List Expr} {c1 c2 : Bool} (ha : DE X en a ka (.bool c1)) (hb : c1 = true → DE X en (.BoolOp .And (b :: rest) pos) kb (.bool c2)) : DE X en (.BoolOp .And (a :: b :: rest) pos) .c (.bool (c1 && c2)) := fun B Bo Ho H σ f Q q => by
  refine wE_of (pe_and pe_w pe_w) (ha B Bo Ho H σ f _ fun v H1o H1 g1 r1 => ⟨c1, r1.bool_inv, ?_⟩)
  cases c1 with
  | true =>
    show wE X _ σ H1 Q
    exact hb rfl B Bo H1o H1 σ (f.gr g1) Q fun v H2o H2 g2 r2 => q v H2o H2 (g1.trans g2) (by rw [r2.bool_inv]; exact .bl _)
  | false => exact q _ H1o H1 g1 (.bl _)
theorem de_or {rest : List Expr} {c1 c2 : Bool} (ha : DE X en a ka (.bool c1)) (hb : c1 = false → DE X en (.BoolOp .Or (b :: rest) pos) kb (.bool c2)) : DE X en (.BoolOp .Or (a :: b :: rest) pos) .c (.bool (c1 || c2)) := fun B Bo Ho H σ f Q q => by
  refine wE_of (pe_or pe_w pe_w) (ha B Bo Ho H σ f _ fun v H1o H1 g1 r1 => ⟨c1, r1.bool_inv, ?_⟩)
  cases c1 with
  | true => exact q _ H1o H1 g1 (.bl _)
  | false =>
    show wE X _ σ H1 Q
    exact hb rfl B Bo H1o H1 σ (f.gr g1) Q fun v H2o H2 g2 r2 => q v H2o H2 (g1.trans g2) (by rw [r2.bool_inv]; exact .bl _)
theorem de_andF {rest : List Expr} (ha : DE X en a ka (.bool false)) : DE X en (.BoolOp .And (a :: b :: rest) pos) .c (.bool false) := de_and (kb := .c) (c2 := true) ha fun z => by cases z
theorem de_orT {rest : List Expr} (ha : DE X en a ka (.bool true)) : DE X en (.BoolOp .Or (a :: b :: rest) pos) .c (.bool true) := de_or (kb := .c) (c2 := true) ha fun z => by cases z
theorem dw_andF {rest : List Expr} (ha : DT X en a false) : DW X en (.BoolOp .And (a :: b :: rest) pos) false := dw_and (c2 := true) ha fun z => by cases z
theorem dw_orT {rest : List Expr} (ha : DT X en a true) : DW X en (.BoolOp .Or (a :: b :: rest) pos) true := dw_or (c2 := true) ha fun z => by cases z
theorem de_not {c : Bool} (h : DE X en e k (.bool c)) : DE X en (.UnaryOp .Not e pos) .c (.bool (!c)) := fun B Bo Ho H σ f Q q =>
  wE_of (pe_not pe_w) (h B Bo Ho H σ f _ fun v H1o H1 g1 r1 => ⟨c, r1.bool_inv, q _ H1o H1 g1 (.bl _)⟩)
theorem de_if {t : Expr} {c : Bool} (ht : DT X en t c) (h1 : c = true → DE X en a k d) (h2 : c = false → DE X en b k d) : DE X en (.IfExp t a b pos) k d := fun B Bo Ho H σ f Q q => by
  refine wE_of (pe_ifExp pt_w pe_w pe_w) (ht B Bo Ho H σ f _ fun H1o H1 g1 => ?_)
  cases c with
  | true =>
    show wE X _ σ H1 Q
    exact h1 rfl B Bo H1o H1 σ (f.gr g1) Q fun v H2o H2 g2 r2 => q v H2o H2 (g1.trans g2) (r2.base g1.h)
  | false =>
    show wE X _ σ H1 Q
    exact h2 rfl B Bo H1o H1 σ (f.gr g1) Q fun v H2o H2 g2 r2 => q v H2o H2 (g1.trans g2) (r2.base g1.h)
end
end DL

namespace DL
open PySem PySem.Spec PyProof.Rows L2
variable [Lam]

theorem sz100 {n : Nat} (h : n ≤ 100000) : n ≤ sizeLine := Nat.le_trans h (by decide)
theorem sz100l {n : Nat} (h : n < 100000) : n < sizeLine := Nat.lt_of_lt_of_le h (by decide)

/-! ### arguments -/
section
variable {X : Cx} {en : En} {a b e : Expr} {es : List Expr} {pos : Pos} {k ka kb : Kd} {d da db : PD} {ds : List PD}
theorem RpA.cons_gr {K : PySem.W.Frag} {Ho H : Hp} {v : V} {vs : List V} (h : Rp K H v d) (r : RpA K H vs ds) : RpA K H (v :: vs) (d :: ds) := .cons h r
theorem da_nil : DA X en [] k [] := fun B Bo Ho H σ f Q q => wA_of pa_nil (q _ Ho H (.refl f.hoh) .nil)
theorem da_c (ha : DE X en e .c d) (hr : DA X en es .c ds) (hs : starEach (e :: es) X.env = (false, eval e X.env) :: starEach es X.env := by kernel_rfl) : DA X en (e :: es) .c (d :: ds) := fun B Bo Ho H σ f Q q => by
  refine wA_of (pa_cons pe_w pa_w hs) ?_
  refine ha B Bo Ho H σ f _ fun v H1o H1 g1 r1 => ?_
  refine hr B Bo H1o H1 σ (f.gr g1) _ fun vs H2o H2 g2 r2 => ?_
  exact q _ H2o H2 (g1.trans g2) (.cons (Rp.mono g2.o r1) r2)
theorem da_t (ha : DE X en e k d) (hr : DA X en es .t ds) (hs : starEach (e :: es) X.env = (false, eval e X.env) :: starEach es X.env := by kernel_rfl) : DA X en (e :: es) .t (d :: ds) := fun B Bo Ho H σ f Q q => by
  refine wA_of (pa_cons pe_w pa_w hs) ?_
  refine ha B Bo Ho H σ f _ fun v H1o H1 g1 r1 => ?_
  refine hr B Bo H1o H1 σ (f.gr g1) _ fun vs H2o H2 g2 r2 => ?_
  exact q _ H2o H2 (g1.trans g2) (.cons (Rp.mono g2.h (r1.rpt g1.s)) r2)
/-- *xs in a display -/
theorem da_star {p : Pos} {xs : List PD} (ha : DE X en e .e (.tuple xs)) (hr : DA X en es .c ds) (hs : starEach (.Starred e p :: es) X.env = (true, eval e X.env) :: starEach es X.env := by kernel_rfl) : DA X en (.Starred e p :: es) .c (xs ++ ds) := fun B Bo Ho H σ f Q q => by
  refine wA_of (StX.pa_star pe_w pa_w hs) ?_
  refine ha B Bo Ho H σ f _ fun v H1o H1 g1 r1 => ?_
  obtain ⟨p, vs1, e1, q1, r1⟩ := r1
  refine ⟨p, vs1, e1, .inl (.inl (.inl q1)), ?_⟩
  refine hr B Bo H1o H1 σ (f.gr g1) _ fun vs H2o H2 g2 r2 => ?_
  exact q _ H2o H2 (g1.trans g2) ((r1.mono g2.o).app r2)

/-! ### displays -/
theorem de_tup {x1} (h : DA X en es .c ds) (hl : ds.length ≤ 100000) : DE X en (.Tuple es x1 pos) .c (.tuple ds) := fun B Bo Ho H σ f Q q => by
  refine wE_of (pe_tup pa_w) ?_
  refine h B Bo Ho H σ f _ fun vs H1o H1 g1 r1 => ⟨sz100 (by rw [r1.len]; exact hl), fun p hp => ?_⟩
  exact q _ _ _ (g1.trans (.new g1.s hp)) (.tup upd_same (r1.mono (same_new (g1.s.free hp))))
theorem de_lst (h : DA X en es .c ds) (hl : ds.length ≤ 100000) : DE X en (.List es pos) .o (.list ds) := fun B Bo Ho H σ f Q q => by
  refine wE_of (pe_lst pa_w) ?_
  refine h B Bo Ho H σ f _ fun vs H1o H1 g1 r1 => ⟨sz100 (by rw [r1.len]; exact hl), fun p hp => ?_⟩
  exact q _ _ _ (g1.trans (.tmp g1.s hp)) ⟨p, rfl, g1.h.free hp, g1.s.free hp, vs, upd_same, r1⟩

/-! ### items, slices -/
theorem atI_rp {K : PySem.W.Frag} {H : Hp} {vs : List V} {i : Int} (r : RpA K H vs ds) (h : atI ds i = some d) : ∃ v, atI vs i = some v ∧ Rp K H v d := by
  unfold atI at h ⊢
  rw [r.len]
  cases e : ixN ds.length i with
  | none => rw [e] at h; cases h
  | some j =>
    rw [e] at h
    exact r.get h
theorem de_ixL {i : Int} (ha : DE X en a .e (.list ds)) (hb : DE X en b kb (.int i)) (h : atI ds i = some d) (hs : PlainIx b := by intro _ _; rfl) : DE X en (.Subscript a b pos) .c d := fun B Bo Ho H σ f Q q => by
  refine wE_of (pe_ix ix_list pe_w pe_w hs) ?_
  refine ha B Bo Ho H σ f _ fun v H1o H1 g1 r1 => ?_
  refine hb B Bo H1o H1 σ (f.gr g1) _ fun u H2o H2 g2 r2 => ?_
  obtain ⟨p, xs, rfl, q1, r1⟩ := r1
  obtain ⟨w, hw, rw1⟩ := atI_rp (r1.mono g2.o) h
  exact ⟨p, xs, i, w, rfl, r2.int_inv, .inl (.inl (g2.h.at _ _ q1)), hw, q _ H2o H2 (g1.trans g2) rw1⟩
theorem de_ixT {i : Int} (ha : DE X en a .e (.tuple ds)) (hb : DE X en b kb (.int i)) (h : atI ds i = some d) (hs : PlainIx b := by intro _ _; rfl) : DE X en (.Subscript a b pos) .c d := fun B Bo Ho H σ f Q q => by
  refine wE_of (pe_ix ix_tup pe_w pe_w hs) ?_
  refine ha B Bo Ho H σ f _ fun v H1o H1 g1 r1 => ?_
  refine hb B Bo H1o H1 σ (f.gr g1) _ fun u H2o H2 g2 r2 => ?_
  obtain ⟨p, xs, rfl, q1, r1⟩ := r1
  obtain ⟨w, hw, rw1⟩ := atI_rp (r1.mono g2.o) h
  exact ⟨p, xs, i, w, rfl, r2.int_inv, .inl (.inl (g2.h.at _ _ q1)), hw, q _ H2o H2 (g1.trans g2) rw1⟩
/-- the items of a slice -/
def cutA {α : Type} (xs : List α) (lo hi : Option Int) : List α := (xs.drop (HT.sIx xs.length 0 lo)).take (HT.sIx xs.length xs.length hi - HT.sIx xs.length 0 lo)
theorem cutA_map {α β : Type} (f : α → β) (xs : List α) (lo hi : Option Int) : (cutA xs lo hi).map f = cutA (xs.map f) lo hi := by
  unfold cutA
  rw [List.map_take, List.map_drop, List.length_map]
theorem cutA_len {α : Type} (xs : List α) (lo hi : Option Int) : (cutA xs lo hi).length ≤ xs.length := by
  unfold cutA
  rw [List.length_take, List.length_drop]
  omega
theorem cut_tail {α : Type} (x : α) (xs : List α) : cutA (x :: xs) (some 1) none = xs := by
  unfold cutA
  rw [show HT.sIx (x :: xs).length 0 (some 1) = min 1 (x :: xs).length from HT.sIx_nat _ 0 1, HT.sIx_none, List.length_cons, Nat.min_eq_left (by omega)]
  show List.take (xs.length + 1 - 1) xs = xs
  exact List.take_of_length_le (by omega)
theorem RpA.cut {K : PySem.W.Frag} {H : Hp} {vs : List V} (r : RpA K H vs ds) (lo hi : Option Int) : RpA K H (cutV vs lo hi) (cutA ds lo hi) := by
  unfold cutV cutA
  rw [r.len]
  exact (r.drop _).take _
/-- a part of a slice -/
def DO (X : Cx) (en : En) (o : Option Expr) (i : Option Int) : Prop := ∃ t, PO X o t ∧ ∀ (B Bo Ho H : Hp) (σ : L2.St), Fit X.K B Bo Ho H σ en → ∀ Q : Option Int → Hp → Prop, (∀ Ho' H', Gr Ho H Ho' H' → Q i H') → t σ H Q
theorem do_none : DO X en none none := ⟨_, po_none, fun B Bo Ho H σ f Q q => q Ho H (.refl f.hoh)⟩
theorem do_some {i : Int} (h : DE X en e k (.int i)) : DO X en (some e) (some i) := ⟨_, po_some pe_w, fun B Bo Ho H σ f Q q => h B Bo Ho H σ f _ fun v H1o H1 g1 r1 => ⟨i, r1.int_inv, q H1o H1 g1⟩⟩
variable {lo hi : Option Expr} {l h : Option Int} {p2 : Pos}
theorem de_slL (ha : DE X en a .e (.list ds)) (hl : DO X en lo l) (hh : DO X en hi h) : DE X en (.Subscript a (.Slice lo hi none p2) pos) .o (.list (cutA ds l h)) := fun B Bo Ho H σ f Q q => by
  obtain ⟨tl, pl, ql⟩ := hl
  obtain ⟨th, ph, qh⟩ := hh
  refine wE_of (pe_slice sl_list pe_w pl ph) ?_
  refine ha B Bo Ho H σ f _ fun v H1o H1 g1 r1 => ?_
  refine ql B Bo H1o H1 σ (f.gr g1) _ fun H2o H2 g2 => ?_
  refine qh B Bo H2o H2 σ ((f.gr g1).gr g2) _ fun H3o H3 g3 => ?_
  obtain ⟨p, xs, rfl, q1, r1⟩ := r1
  have g := (g1.trans g2).trans g3
  exact ⟨p, xs, rfl, .inl (.inl ((g2.trans g3).h.at _ _ q1)), fun c hc => q _ _ _ (g.trans (.tmp g.s hc)) ⟨c, rfl, g.h.free hc, g.s.free hc, _, upd_same, (r1.mono (g2.trans g3).o).cut _ _⟩⟩
theorem de_slS {ns : List Int} (ha : DE X en a .c (scr ns)) (hl : DO X en lo l) (hh : DO X en hi h) : DE X en (.Subscript a (.Slice lo hi none p2) pos) .o (.list ((cutA ns l h).map .int)) := fun B Bo Ho H σ f Q q => by
  obtain ⟨tl, pl, ql⟩ := hl
  obtain ⟨th, ph, qh⟩ := hh
  refine wE_of (pe_slice sl_list pe_w pl ph) ?_
  refine ha B Bo Ho H σ f _ fun v H1o H1 g1 r1 => ?_
  refine ql B Bo H1o H1 σ (f.gr g1) _ fun H2o H2 g2 => ?_
  refine qh B Bo H2o H2 σ ((f.gr g1).gr g2) _ fun H3o H3 g3 => ?_
  obtain ⟨p, rfl, q1⟩ := r1.scr_inv
  have g := (g1.trans g2).trans g3
  refine ⟨p, _, rfl, (g1.s.trans (g2.trans g3).h).seq q1, fun c hc => q _ _ _ (g.trans (.tmp g.s hc)) ⟨c, rfl, g.h.free hc, g.s.free hc, _, upd_same, ?_⟩⟩
  rw [cutA_map]
  exact (RpA.ints ns).cut _ _
theorem de_slT (ha : DE X en a .c (.tuple ds)) (hl : DO X en lo l) (hh : DO X en hi h) : DE X en (.Subscript a (.Slice lo hi none p2) pos) .c (.tuple (cutA ds l h)) := fun B Bo Ho H σ f Q q => by
  obtain ⟨tl, pl, ql⟩ := hl
  obtain ⟨th, ph, qh⟩ := hh
  refine wE_of (pe_slice sl_tupA pe_w pl ph) ?_
  refine ha B Bo Ho H σ f _ fun v H1o H1 g1 r1 => ?_
  refine ql B Bo H1o H1 σ (f.gr g1) _ fun H2o H2 g2 => ?_
  refine qh B Bo H2o H2 σ ((f.gr g1).gr g2) _ fun H3o H3 g3 => ?_
  have r3 := Rp.mono (g2.trans g3).o r1
  obtain ⟨p, xs, rfl, q1, r1⟩ := r3.tup_inv
  have g := (g1.trans g2).trans g3
  refine ⟨p, xs, rfl, .inl (.inl (g.s.at _ _ q1)), fun hw => q _ _ _ g ?_, fun _ c hc => q _ _ _ (g.trans (.new g.s hc)) (.tup upd_same ((r1.cut _ _).mono (same_new (g.s.free hc))))⟩
  have e : cutA ds l h = ds := by
    unfold cutA
    rw [← r1.len, hw.1, hw.2, List.drop_zero, Nat.sub_zero, r1.len, List.take_length]
  rw [e]
  exact r3

/-! ### len, list, tuple, + -/
theorem de_lenL {p : Pos} (hm : X.mg "len" = none) (ha : DE X en a .e (.list ds)) (hg : glB X "len" = true := by kernel_rfl) (he : starEach [a] X.env = (false, eval a X.env) :: starEach [] X.env := by kernel_rfl) : DE X en (.Call (.Name "len" p) [a] [] pos) .c (.int ds.length) := fun B Bo Ho H σ f Q q => by
  refine wE_of (pe_callB call_len_seq (gl_of hg) hm PySem.boot_len (pa_cons pe_w pa_nil he) (he := he)) ?_
  refine ha B Bo Ho H σ f _ fun v H1o H1 g1 r1 => ?_
  obtain ⟨p, xs, rfl, q1, r1⟩ := r1
  exact ⟨p, xs, rfl, .inl (.inl (.inl q1)), q _ H1o H1 g1 (by rw [r1.len]; exact .int _)⟩
theorem de_lenT {p : Pos} (hm : X.mg "len" = none) (ha : DE X en a .e (.tuple ds)) (hg : glB X "len" = true := by kernel_rfl) (he : starEach [a] X.env = (false, eval a X.env) :: starEach [] X.env := by kernel_rfl) : DE X en (.Call (.Name "len" p) [a] [] pos) .c (.int ds.length) := fun B Bo Ho H σ f Q q => by
  refine wE_of (pe_callB call_len_seq (gl_of hg) hm PySem.boot_len (pa_cons pe_w pa_nil he) (he := he)) ?_
  refine ha B Bo Ho H σ f _ fun v H1o H1 g1 r1 => ?_
  obtain ⟨p, xs, rfl, q1, r1⟩ := r1
  exact ⟨p, xs, rfl, .inr (.inl (.inl q1)), q _ H1o H1 g1 (by rw [r1.len]; exact .int _)⟩
theorem de_listL {p : Pos} (hm : X.mg "list" = none) (ha : DE X en a .e (.list ds)) (hg : glB X "list" = true := by kernel_rfl) (he : starEach [a] X.env = (false, eval a X.env) :: starEach [] X.env := by kernel_rfl) : DE X en (.Call (.Name "list" p) [a] [] pos) .o (.list ds) := fun B Bo Ho H σ f Q q => by
  refine wE_of (pe_callTy call_list_of (gl_of hg) hm (by decide +kernel) (pa_cons pe_w pa_nil he) (he := he)) ?_
  refine ha B Bo Ho H σ f _ fun v H1o H1 g1 r1 => ?_
  obtain ⟨p, xs, rfl, q1, r1⟩ := r1
  exact ⟨p, xs, rfl, .inl (.inl (.inl q1)), fun c hc => q _ _ _ (g1.trans (.tmp g1.s hc)) ⟨c, rfl, g1.h.free hc, g1.s.free hc, _, upd_same, r1⟩⟩
theorem de_listT {p : Pos} (hm : X.mg "list" = none) (ha : DE X en a .e (.tuple ds)) (hg : glB X "list" = true := by kernel_rfl) (he : starEach [a] X.env = (false, eval a X.env) :: starEach [] X.env := by kernel_rfl) : DE X en (.Call (.Name "list" p) [a] [] pos) .o (.list ds) := fun B Bo Ho H σ f Q q => by
  refine wE_of (pe_callTy call_list_of (gl_of hg) hm (by decide +kernel) (pa_cons pe_w pa_nil he) (he := he)) ?_
  refine ha B Bo Ho H σ f _ fun v H1o H1 g1 r1 => ?_
  obtain ⟨p, xs, rfl, q1, r1⟩ := r1
  exact ⟨p, xs, rfl, .inr (.inl (.inl q1)), fun c hc => q _ _ _ (g1.trans (.tmp g1.s hc)) ⟨c, rfl, g1.h.free hc, g1.s.free hc, _, upd_same, r1⟩⟩
theorem de_tupL {p : Pos} (hm : X.mg "tuple" = none) (ha : DE X en a .e (.list ds)) (hg : glB X "tuple" = true := by kernel_rfl) (he : starEach [a] X.env = (false, eval a X.env) :: starEach [] X.env := by kernel_rfl) : DE X en (.Call (.Name "tuple" p) [a] [] pos) .c (.tuple ds) := fun B Bo Ho H σ f Q q => by
  refine wE_of (pe_callTy call_tuple_of (gl_of hg) hm (by decide +kernel) (pa_cons pe_w pa_nil he) (he := he)) ?_
  refine ha B Bo Ho H σ f _ fun v H1o H1 g1 r1 => ?_
  obtain ⟨p, xs, rfl, q1, r1⟩ := r1
  exact ⟨p, xs, rfl, .inl ⟨.inl (.inl q1), fun c hc => q _ _ _ (g1.trans (.new g1.s hc)) (.tup upd_same (r1.mono (same_new (g1.s.free hc))))⟩⟩
theorem RpE.lt {K : PySem.W.Frag} {Ho H : Hp} {v : V} (h : RpE K Ho H v (.list ds)) : ∃ p xs, v = .ref p ∧ H p = some (.lst xs) ∧ RpA K Ho xs ds := h
theorem de_cat {es1 es2 : List PD} (ha : DE X en a ka (.list es1)) (hb : DE X en b kb (.list es2)) (hl : es1.length + es2.length ≤ 100000) (h1 : ka ≠ .t := by decide) (h2 : kb ≠ .t := by decide) : DE X en (.BinOp a .Add b pos) .o (.list (es1 ++ es2)) :=
  de_op op_cat ha hb fun H0 H0' Ho H v u s r1 r2 Q q => by
    obtain ⟨p, xs, rfl, q1, r1⟩ := r1.rpe s h1
    obtain ⟨p', ys, rfl, q2, r2⟩ := r2.rpe s h2
    exact ⟨p, p', xs, ys, rfl, rfl, q1, q2, sz100 (by rw [r1.len, r2.len]; exact hl), fun c hc => q _ _ _ (.tmp s hc) ⟨c, rfl, hc, s.free hc, _, upd_same, r1.app r2⟩⟩
/-- int(a test) -/
theorem de_intB {p : Pos} {c : Bool} (hm : X.mg "int" = none) (ha : DE X en a ka (.bool c)) (hg : glB X "int" = true := by kernel_rfl) (he : starEach [a] X.env = (false, eval a X.env) :: starEach [] X.env := by kernel_rfl) : DE X en (.Call (.Name "int" p) [a] [] pos) .c (.int (if c then 1 else 0)) := fun B Bo Ho H σ f Q q => by
  refine wE_of (pe_callTy call_int1 (gl_of hg) hm (by decide +kernel) (pa_cons pe_w pa_nil he) (he := he)) ?_
  refine ha B Bo Ho H σ f _ fun v H1o H1 g1 r1 => ?_
  exact .inr ⟨c, by rw [r1.bool_inv], q _ H1o H1 g1 (.int _)⟩
theorem de_min2 {p : Pos} {i j : Int} (hm : X.mg "min" = none) (hc : X.calm = true) (ha : DE X en a ka (.int i)) (hb : DE X en b kb (.int j)) (hg : glB X "min" = true := by kernel_rfl) (he : starEach [a, b] X.env = (false, eval a X.env) :: starEach [b] X.env := by kernel_rfl) (he2 : starEach [b] X.env = (false, eval b X.env) :: starEach [] X.env := by kernel_rfl)
    (hpl : (backTo pos (starEach [b] X.env)).any (·.1) = false := by kernel_rfl) : DE X en (.Call (.Name "min" p) [a, b] [] pos) .c (.int (if j < i then j else i)) := fun B Bo Ho H σ f Q q => by
  refine wE_of (pe_callB (call_min2 hc) (gl_of hg) hm (by decide +kernel) (pa_cons pe_w (pa_cons pe_w pa_nil he2) he) (he := he) (hpl := hpl)) ?_
  refine ha B Bo Ho H σ f _ fun v H1o H1 g1 r1 => ?_
  refine hb B Bo H1o H1 σ (f.gr g1) _ fun u H2o H2 g2 r2 => ?_
  exact ⟨i, j, by rw [r1.int_inv, r2.int_inv], q _ H2o H2 (g1.trans g2) (.int _)⟩
end

/-! ### own defs -/
/-- the promise of a def: from data (R) to data, made new or held by what was there -/
def spF (K : PySem.W.Frag) (R : List PD → PD → Prop) (k : Kd) : Sp := fun vs H Q _ => ∃ Bo ds d, Same Bo H ∧ TbK H ∧ RpA K Bo vs ds ∧ R ds d ∧ ∀ v Ho' H', Gr Bo H Ho' H' → Rs K k H Ho' H' v d → Q v H'
structure Dn (P : Program) (w : World) (K : PySem.W.Frag) (mg : Str → Option Value) (base : Heap) (n : Nat) (x : Str) (R : List PD → PD → Prop) (k : Kd) : Prop where
  ex : ∃ f fd ps, FnOk P w K mg base CX0 n f fd ps (spF K R k) ∧ mg x = some (.ref f) ∧ PySem.W.keepIn K (.ref f) = true ∧ Binds K fd ps []
theorem Dn.up {P : Program} {w : World} {K : PySem.W.Frag} {mg : Str → Option Value} {base : Heap} {n m : Nat} {x : Str} {R : List PD → PD → Prop} {k : Kd} (h : Dn P w K mg base n x R k) (l : n ≤ m) : Dn P w K mg base m x R k := by
  obtain ⟨f, fd, ps, F, r⟩ := h
  exact ⟨f, fd, ps, F.mono l, r⟩
section
variable {X : Cx} {en : En} {a b e : Expr} {es : List Expr} {p pos : Pos} {k ka kb : Kd} {d da db : PD} {ds : List PD} {x : Str} {n : Nat} {R : List PD → PD → Prop}
theorem de_call (G : Dn X.prog X.w X.K X.mg X.base n x R k) (hr : Room n X.A) (ha : DA X en (e :: es) .c ds) (h : R ds d) (hg : glB X x = true := by kernel_rfl) (hdb : (x == ("__debug__" : Str)) = false := by kernel_rfl) (he : starEach (e :: es) X.env = (false, eval e X.env) :: starEach es X.env := by kernel_rfl)
    (hpl : (backTo pos (starEach es X.env)).any (·.1) = false := by kernel_rfl) : DE X en (.Call (.Name x p) (e :: es) [] pos) k d := fun B Bo Ho H σ f Q q => by
  obtain ⟨fa, fd, ps, F, hm, hk, hb⟩ := G
  refine wE_of (pe_call F hr (gl_of hg) hm hk hb .nil pass0 pa_w hdb he hpl) ?_
  refine ha B Bo Ho H σ f _ fun vs H1o H1 g1 r1 => ?_
  refine ⟨H1o, ds, d, g1.s, g1.tb f.tb, by rw [List.append_nil]; exact r1, h, fun v H2o H2 g2 r2 => q v H2o H2 (g1.trans g2) (r2.base g1.h)⟩
theorem de_callT (G : Dn X.prog X.w X.K X.mg X.base n x R k) (hr : Room n X.A) (ha : DA X en (e :: es) .t ds) (h : R ds d) (hg : glB X x = true := by kernel_rfl) (hdb : (x == ("__debug__" : Str)) = false := by kernel_rfl) (he : starEach (e :: es) X.env = (false, eval e X.env) :: starEach es X.env := by kernel_rfl)
    (hpl : (backTo pos (starEach es X.env)).any (·.1) = false := by kernel_rfl) : DE X en (.Call (.Name x p) (e :: es) [] pos) .t d := fun B Bo Ho H σ f Q q => by
  obtain ⟨fa, fd, ps, F, hm, hk, hb⟩ := G
  refine wE_of (pe_call F hr (gl_of hg) hm hk hb .nil pass0 pa_w hdb he hpl) ?_
  refine ha B Bo Ho H σ f _ fun vs H1o H1 g1 r1 => ?_
  refine ⟨H1, ds, d, .refl _, g1.tb f.tb, by rw [List.append_nil]; exact r1, h, fun v H2o H2 g2 r2 => q v H1o H2 (g1.trans ⟨g2.h, .refl _, g1.s.trans g2.h, fun _ _ => rfl, g2.tb⟩) (r2.rpt g2.s)⟩
end
end DL

namespace DL
open PySem PySem.Spec PyProof.Rows L2
variable [Lam]

/-! ### what is wanted behind a statement, over data -/
structure Po where
  nx : En → Prop
  rk : Kd := .c
  rt : PD → Prop := fun _ => False
  re : PD → En → Prop := fun _ _ => True
  bk : En → Prop := fun _ => False
  ct : En → Prop := fun _ => False
theorem Fit.gr0 {K : PySem.W.Frag} {B Bo Ho H : Hp} {σ : L2.St} {en : En} (f : Fit K B Bo Ho H σ en) : Gr Bo B Ho H := ⟨f.bh, f.boh, f.hoh, f.fr, fun _ => f.tb⟩
structure Sat (K : PySem.W.Frag) (B Bo : Hp) (P : Po) (D : Ends) : Prop where
  nx : ∀ σ Ho H en, P.nx en → Fit K B Bo Ho H σ en → D.nx σ H
  rt : ∀ v d σ Ho H en, P.rt d → P.re d en → Fit K B Bo Ho H σ en → Rs K P.rk B Ho H v d → D.rt v H
  bk : ∀ σ Ho H en, P.bk en → Fit K B Bo Ho H σ en → D.bk σ H
  ct : ∀ σ Ho H en, P.ct en → Fit K B Bo Ho H σ en → D.ct σ H
def DS (X : Cx) (en : En) (s : Stmt) (P : Po) : Prop := ∀ (B Bo Ho H : Hp) (σ : L2.St), Fit X.K B Bo Ho H σ en → ∀ D : Ends, Sat X.K B Bo P D → wS X s D σ H
def DSs (X : Cx) (en : En) (s : List Stmt) (P : Po) : Prop := ∀ (B Bo Ho H : Hp) (σ : L2.St), Fit X.K B Bo Ho H σ en → ∀ D : Ends, Sat X.K B Bo P D → wSs X s D σ H

section
variable {X : Cx} {en en' : En} {s : Stmt} {ss : List Stmt} {P : Po} {e a b : Expr} {pos : Pos} {d : PD} {k : Kd} {i : Nat} {x : Str}
theorem dss_nil (h : P.nx en) : DSs X en [] P := fun B Bo Ho H σ f D t => wSs_of pss_nil (t.nx σ Ho H en h f)
theorem dss_one (h : DS X en s P) : DSs X en [s] P := fun B Bo Ho H σ f D t => wSs_of (pss_one ps_w) (h B Bo Ho H σ f D t)
/-- one after another; N: what stands between -/
theorem dss_consN (N : En → Prop) (h : DS X en s { P with nx := N }) (h2 : ∀ en', N en' → DSs X en' ss P) : DSs X en (s :: ss) P := fun B Bo Ho H σ f D t =>
  wSs_of (pss_cons ps_w pss_w) (h B Bo Ho H σ f _ ⟨fun σ' Ho' H' en' n f' => h2 en' n B Bo Ho' H' σ' f' D t, t.rt, t.bk, t.ct⟩)
theorem dss_cons (en' : En) (h : DS X en s { P with nx := fun z => z = en' }) (h2 : DSs X en' ss P) : DSs X en (s :: ss) P := dss_consN _ h fun _ n => n ▸ h2
theorem DSs.less (h : DSs X en' ss P) (l : Lee en' en) : DSs X en ss P := fun B Bo Ho H σ f D t => h B Bo Ho H σ (f.less l) D t
theorem DS.less (h : DS X en' s P) (l : Lee en' en) : DS X en s P := fun B Bo Ho H σ f D t => h B Bo Ho H σ (f.less l) D t
theorem DSs.freeze (h : DSs X (en.set i (some (.v d))) ss P) (hi : en[i]? = some (some (.o d)) := by rfl) : DSs X en ss P := fun B Bo Ho H σ f D t => by
  obtain ⟨Ho', f', _⟩ := f.freeze hi
  exact h B Bo Ho' H σ f' D t
theorem DS.freeze (h : DS X (en.set i (some (.v d))) s P) (hi : en[i]? = some (some (.o d)) := by rfl) : DS X en s P := fun B Bo Ho H σ f D t => by
  obtain ⟨Ho', f', _⟩ := f.freeze hi
  exact h B Bo Ho' H σ f' D t
/-- x = e -/
theorem ds_set (i : Nat) (he : DE X en e .c d) (q : P.nx (en.set i (some (.v d)))) (hN : X.N.Nodup) (hi : X.N[i]? = some x := by kernel_rfl) (hx : locB X.env.scope x = true := by kernel_rfl) {pos' : Pos}
    (hs : swapsWith e (some (.Name x pos')) pos.line X.env = pure false := by kernel_rfl) (hf : fnB X x = true := by kernel_rfl) : DS X en (.Assign [.Name x pos'] e pos) P := fun B Bo Ho H σ f D t =>
  wS_of (ps_set hN hi (loc_of hx) pe_w hs (fn_ofB hf)) (he B Bo Ho H σ f _ fun v Ho' H' g r => t.nx _ Ho' H' _ q ((f.gr g).setV r))
theorem ds_setO (i : Nat) (he : DE X en e .o d) (q : P.nx (en.set i (some (.o d)))) (hN : X.N.Nodup) (hi : X.N[i]? = some x := by kernel_rfl) (hx : locB X.env.scope x = true := by kernel_rfl) {pos' : Pos}
    (hs : swapsWith e (some (.Name x pos')) pos.line X.env = pure false := by kernel_rfl) (hf : fnB X x = true := by kernel_rfl) : DS X en (.Assign [.Name x pos'] e pos) P := fun B Bo Ho H σ f D t =>
  wS_of (ps_set hN hi (loc_of hx) pe_w hs (fn_ofB hf)) (he B Bo Ho H σ f _ fun v Ho' H' g r => by
    obtain ⟨p, rfl, n1, n2, w⟩ := r
    exact t.nx _ Ho' H' _ q (f.setO g n1 n2 w))
theorem ds_ret (he : DE X en e P.rk d) (q : P.rt d) (qe : P.re d en := by exact trivial) : DS X en (.Return (some e) pos) P := fun B Bo Ho H σ f D t =>
  wS_of (ps_ret pe_w) (he B Bo Ho H σ f _ fun v Ho' H' g r => by
    exact t.rt v d σ Ho' H' en q qe (f.gr g) (r.base f.bh))
/-- return of one's own object -/
theorem ds_retO (i : Nat) (h : en[i]? = some (some (.o d))) (hk : P.rk = .o) (q : P.rt d) (hN : X.N[i]? = some x := by kernel_rfl) (hv : visB X.env.scope x = true := by kernel_rfl)
    (hd : (x == ("__debug__" : Str)) = false := by kernel_rfl) (hcd : (x == ("__classdict__" : Str)) = false := by kernel_rfl) {pos' : Pos} (qe : P.re d en := by exact trivial) : DS X en (.Return (some (.Name x pos')) pos) P := fun B Bo Ho H σ f D t => by
  obtain ⟨p, e1, n1, n2, w⟩ := f.own h
  refine wS_of (ps_ret (pe_var hN (vis_of hv) hd hcd)) ⟨_, e1, t.rt _ d σ Ho H en q qe f ?_⟩
  rw [hk]
  exact ⟨p, rfl, n2, n1, w⟩
/-- if -/
theorem ds_if {t : Expr} {A C : List Stmt} {c : Bool} (ht : DT X en t c) (h1 : c = true → DSs X en A P) (h2 : c = false → DSs X en C P) : DS X en (.If t A C pos) P := fun B Bo Ho H σ f D q =>
  wS_of (ps_if pt_w pss_w pss_w) (ht B Bo Ho H σ f _ fun Ho' H' g => by
    cases c with
    | true => exact h1 rfl B Bo Ho' H' σ (f.gr g) D q
    | false => exact h2 rfl B Bo Ho' H' σ (f.gr g) D q)
/-- an expression for nothing -/
theorem ds_expr (h : DE X en e k d) (q : P.nx en) (hs : swapsWith e none pos.line X.env = pure false := by kernel_rfl) : DS X en (.Expr e pos) P := fun B Bo Ho H σ f D t =>
  wS_of (ps_expr pe_w hs) (h B Bo Ho H σ f _ fun v Ho' H' g r => t.nx _ Ho' H' _ q (f.gr g))
theorem ds_brk (q : P.bk en) : DS X en (.Break pos) P := fun B Bo Ho H σ f D t => wS_of ps_break (t.bk σ Ho H en q f)
theorem ds_cont (q : P.ct en) : DS X en (.Continue pos) P := fun B Bo Ho H σ f D t => wS_of ps_continue (t.ct σ Ho H en q f)
/-- xs.append(e), xs one's own -/
theorem ds_append (i : Nat) {ds : List PD} (h : en[i]? = some (some (.o (.list ds)))) (he : DE X en e .c d) (hl : ds.length < 100000) (q : P.nx (en.set i (some (.o (.list (ds ++ [d])))))) {apos cpos npos : Pos} (hN : X.N[i]? = some x := by kernel_rfl)
    (hv : visB X.env.scope x = true := by kernel_rfl) (hs : starEach [e] X.env = (false, eval e X.env) :: starEach [] X.env := by kernel_rfl)
    (hb : PE X (.Call (.Attribute (.Name x npos) "append" apos) [e] [] cpos) (tBM X.K "list" rAppend (tVar i) (tCons (wE X e) tNil)) := by exact pe_bm PySem.F.plainAttrs_list PySem.F.slot_list_append PySem.F.type_list_append mt_append (pv _) (pa_cons pe_w pa_nil)) :
    DS X en (.Expr (.Call (.Attribute (.Name x npos) "append" apos) [e] [] cpos) pos) P := fun B Bo Ho H σ f D t => by
  obtain ⟨p, e1, n1, n2, w⟩ := f.own h
  obtain ⟨vs, q1, r1⟩ := w
  refine wS_of (ps_expr hb) ?_
  refine ⟨_, e1, .inl ⟨rfl, _, .inl (.inl q1)⟩, ?_⟩
  refine he B Bo Ho H σ f _ fun v Ho' H' g r => ?_
  have q2 := g.h.at _ _ q1
  refine ⟨p, vs, v, rfl, rfl, q2, sz100l (by rw [r1.len]; exact hl), ?_⟩
  refine t.nx _ Ho' _ _ q ((f.gr g).write h e1 ⟨_, upd_same, (r1.mono g.o).app (.one r)⟩)
end

/-! ### targets -/
def WEq (is : List Nat) (σ σ' : L2.St) : Prop := σ'.length = σ.length ∧ ∀ j : Nat, j ∉ is → σ'[j]? = σ[j]?
def DG (X : Cx) (en : En) (tg : Expr) (d : PD) (is : List Nat) (en' : En) : Prop := ∀ (B Bo Ho H : Hp) (σ : L2.St), Fit X.K B Bo Ho H σ en → ∀ v, Rp X.K Ho v d → ∀ Q : L2.St → Hp → Prop, (∀ σ', WEq is σ σ' → Fit X.K B Bo Ho H σ' en' → Q σ' H) → wG X tg v σ H Q
structure wGs (X : Cx) (ts : List Expr) (vs : List V) (σ : L2.St) (H : Hp) (Q : L2.St → Hp → Prop) : Prop where
  run : ∀ (pins : List (Addr × Obj)) (s : Shared) (us : List Value), Inv X pins σ H s → Vals vs us → wpAny (model X.prog X.w) X.A (assignInOrder ((assignEach ts X.env).map (·.2)) us) (fun _ s' => ∃ σ' H', Inv X pins σ' H' s' ∧ Q σ' H') X.xe s
theorem pgs_w {X : Cx} {ts : List Expr} : PGs X ts (wGs X ts) := ⟨fun pins s _ _ _ us _ I r h => h.run pins s us I r⟩
theorem wGs_of {X : Cx} {ts : List Expr} {t : TGs} {vs : List V} {σ : L2.St} {H : Hp} {Q : L2.St → Hp → Prop} (h : PGs X ts t) (q : t vs σ H Q) : wGs X ts vs σ H Q := ⟨fun pins s us I r => h.run pins s σ H vs us Q I r q⟩
def DGs (X : Cx) (en : En) (ts : List Expr) (ds : List PD) (is : List Nat) (en' : En) : Prop := ∀ (B Bo Ho H : Hp) (σ : L2.St), Fit X.K B Bo Ho H σ en → ∀ vs, RpA X.K Ho vs ds → ∀ Q : L2.St → Hp → Prop, (∀ σ', WEq is σ σ' → Fit X.K B Bo Ho H σ' en' → Q σ' H) → wGs X ts vs σ H Q
section
variable {X : Cx} {en en' en2 : En} {tg : Expr} {ts : List Expr} {d : PD} {ds : List PD} {i : Nat} {is js : List Nat} {x : Str} {pos : Pos}
theorem dg_name (i : Nat) (hN : X.N.Nodup) (hi : X.N[i]? = some x := by kernel_rfl) (hx : locB X.env.scope x = true := by kernel_rfl) (hf : fnB X x = true := by kernel_rfl) :
    DG X en (.Name x pos) d [i] (en.set i (some (.v d))) := fun B Bo Ho H σ f v r Q q => by
  refine wG_of (pg_name hN hi (loc_of hx) (fn_ofB hf)) (q _ ⟨List.length_set, fun j hj => ?_⟩ (f.setV r))
  exact List.getElem?_set_ne (fun z => hj (by rw [z]; exact List.mem_cons_self))
theorem dgs_nil : DGs X en [] [] [] en := fun B Bo Ho H σ f vs r Q q => by
  cases r
  exact wGs_of pgs_nil ⟨rfl, q σ ⟨rfl, fun _ _ => rfl⟩ f⟩
theorem dgs_cons (h1 : DG X en tg d is en') (h2 : DGs X en' ts ds js en2) (hs : (assignEach (tg :: ts) X.env).map (·.2) = assign tg X.env :: (assignEach ts X.env).map (·.2) := by kernel_rfl) : DGs X en (tg :: ts) (d :: ds) (is ++ js) en2 := fun B Bo Ho H σ f vs r Q q => by
  cases r with
  | cons r rr =>
    refine wGs_of (pgs_cons pg_w pgs_w hs) ⟨_, _, rfl, ?_⟩
    refine h1 B Bo Ho H σ f _ r _ fun σ1 w1 f1 => ?_
    refine h2 B Bo Ho H σ1 f1 _ rr _ fun σ2 w2 f2 => ?_
    exact q σ2 ⟨w2.1.trans w1.1, fun j hj => (w2.2 j fun z => hj (List.mem_append_right _ z)).trans (w1.2 j fun z => hj (List.mem_append_left _ z))⟩ f2
theorem dg_tup {k : Nat} (hc : X.calm = true) (h : DGs X en ts ds is en') (hn : (assignEach ts X.env).length = ds.length := by kernel_rfl) (hst : (assignEach ts X.env).findIdx? (·.1) = none := by kernel_rfl) : DG X en (.Tuple ts k pos) (.tuple ds) is en' := fun B Bo Ho H σ f v r Q q => by
  obtain ⟨a, xs, rfl, hq, r⟩ := r.tup_inv
  exact wG_of (pg_tup hc pgs_w hn hst) ⟨a, xs, rfl, .inl (.inl (f.hoh.at _ _ hq)), r.len, h B Bo Ho H σ f xs r Q q⟩
/-- target = e -/
theorem ds_asg {P : Po} {e : Expr} (he : DE X en e .c d) (hg : DG X en tg d is en') (q : P.nx en') (hs : swapsWithSole [tg] e pos.line X.env = pure false := by kernel_rfl) (hw : swappedStores [tg] e X.env = pure none := by kernel_rfl)
    (h1 : (assignEach [tg] X.env).map (·.2) = [assign tg X.env] := by kernel_rfl) : DS X en (.Assign [tg] e pos) P := fun B Bo Ho H σ f D t =>
  wS_of (ps_asg pe_w pg_w hs hw h1) (he B Bo Ho H σ f _ fun v Ho' H' g r => hg B Bo Ho' H' σ (f.gr g) v r _ fun σ' _ f' => t.nx σ' Ho' H' en' q f')
end

/-! ### what a for walks -/
def ItD (K : PySem.W.Frag) (J : It) (Ho : Hp) (ds : List PD) : Prop := ∀ Ho1 H1, Same Ho Ho1 → Same Ho1 H1 → ∀ i : Nat, (∀ d, ds[i]? = some d → J.go i H1 ∧ ∀ x H2, J.yld i H1 x H2 → ∃ H2o, Gr Ho1 H1 H2o H2 ∧ Rp K H2o x d) ∧ (ds.length ≤ i → J.stop i H1)
def DI (X : Cx) (en : En) (tg iter : Expr) (ds : List PD) : Prop := ∃ wi, PI X tg iter wi ∧ ∀ (B Bo Ho H : Hp) (σ : L2.St), Fit X.K B Bo Ho H σ en → ∀ R : It → Hp → Prop, (∀ J Ho' H', Gr Ho H Ho' H' → ItD X.K J Ho' ds → R J H') → wi σ H R
section
variable {X : Cx} {en : En} {tg e a b : Expr} {d : PD} {ds : List PD} {pos p : Pos} {k : Kd}
theorem di_list (h : DE X en e .c (.list ds)) : DI X en tg e ds := ⟨_, pi_list pe_w, fun B Bo Ho H σ f R q => by
  refine h B Bo Ho H σ f _ fun v Ho' H' g r => ?_
  obtain ⟨a, xs, rfl, ha, r⟩ := r.lst_inv
  refine ⟨a, rfl, ⟨xs, .inl (.inl (g.s.at _ _ ha))⟩, q _ Ho' H' g fun Ho1 H1 s1 s2 i => ⟨fun d hd => ?_, fun hi => ?_⟩⟩
  · obtain ⟨v, hv, rv⟩ := r.get hd
    have hq : SqL X.K H1 a xs := .inl (.inl (s2.at _ _ (s1.at _ _ ha)))
    refine ⟨⟨xs, v, hq, hv⟩, fun x H2 y => ?_⟩
    obtain ⟨rfl, y⟩ := y
    have := (y xs hq).symm.trans hv
    cases this
    exact ⟨Ho1, .refl s2, Rp.mono s1 rv⟩
  · exact ⟨xs, .inl (.inl (s2.at _ _ (s1.at _ _ ha))), by rw [r.len]; exact hi⟩⟩
theorem di_tup (h : DE X en e .c (.tuple ds)) : DI X en tg e ds := ⟨_, pi_tup pe_w, fun B Bo Ho H σ f R q => by
  refine h B Bo Ho H σ f _ fun v Ho' H' g r => ?_
  obtain ⟨a, xs, rfl, ha, r⟩ := r.tup_inv
  refine ⟨a, rfl, ⟨xs, .inl (.inl (g.s.at _ _ ha))⟩, q _ Ho' H' g fun Ho1 H1 s1 s2 i => ⟨fun d hd => ?_, fun hi => ?_⟩⟩
  · obtain ⟨v, hv, rv⟩ := r.get hd
    have hq : SqT X.K H1 a xs := .inl (.inl (s2.at _ _ (s1.at _ _ ha)))
    refine ⟨⟨xs, v, hq, hv⟩, fun x H2 y => ?_⟩
    obtain ⟨rfl, y⟩ := y
    have := (y xs hq).symm.trans hv
    cases this
    exact ⟨Ho1, .refl s2, Rp.mono s1 rv⟩
  · exact ⟨xs, .inl (.inl (s2.at _ _ (s1.at _ _ ha))), by rw [r.len]; exact hi⟩⟩
def rgD (n : Nat) : List PD := (List.range n).map fun (i : Nat) => PyData.int (i : Int)
theorem itD_range {K : PySem.W.Frag} {Ho : Hp} {n : Nat} : ItD K (Itr 0 n) Ho (rgD n) := fun Ho1 H1 s1 s2 i => by
  refine ⟨fun d hd => ?_, fun hi => ?_⟩
  · unfold rgD at hd
    rw [List.getElem?_map] at hd
    have hi : i < n := by
      cases q : (List.range n)[i]? with
      | none => rw [q] at hd; cases hd
      | some z => have := (List.getElem?_eq_some_iff.mp q).1; rw [List.length_range] at this; exact this
    rw [List.getElem?_range hi] at hd
    cases hd
    refine ⟨hi, fun x H2 y => ?_⟩
    obtain ⟨rfl, rfl⟩ := y
    exact ⟨Ho1, .refl s2, by rw [Int.zero_add]; exact .int _⟩
  · unfold rgD at hi
    rw [List.length_map, List.length_range] at hi
    exact hi
theorem di_range {j : Int} (hm : X.mg "range" = none) (h : DE X en a k (.int j)) (h1 : -(2 ^ 62) ≤ j) (h2 : j < 2 ^ 62) (hg : glB X "range" = true := by kernel_rfl) (hs : starEach [a] X.env = [(false, eval a X.env)] := by kernel_rfl) (hs' : starEach [a] X.env = (false, eval a X.env) :: starEach [] X.env := by kernel_rfl) :
    DI X en tg (.Call (.Name "range" p) [a] [] pos) (rgD j.toNat) := ⟨_, pi_range1 (gl_of hg) hm (pa_cons pe_w pa_nil hs') hs, fun B Bo Ho H σ f R q =>
  h B Bo Ho H σ f _ fun v Ho' H' g r => ⟨j, by rw [r.int_inv], h1, h2, q _ Ho' H' g itD_range⟩⟩
theorem di_rangeN {n : Nat} (hm : X.mg "range" = none) (h : DE X en a k (.int n)) (h2 : n ≤ 100000) (hg : glB X "range" = true := by kernel_rfl) (hs : starEach [a] X.env = [(false, eval a X.env)] := by kernel_rfl) (hs' : starEach [a] X.env = (false, eval a X.env) :: starEach [] X.env := by kernel_rfl) :
    DI X en tg (.Call (.Name "range" p) [a] [] pos) (rgD n) := by
  have := di_range (tg := tg) (p := p) (pos := pos) hm h (by omega) (by omega) hg hs hs'
  rw [Int.toNat_natCast] at this
  exact this
theorem DI.is {ds' : List PD} (h : DI X en tg e ds) (q : ds = ds') : DI X en tg e ds' := q ▸ h
end

/-! ### for -/
theorem ds_for {X : Cx} {en : En} {tg iter : Expr} {body : List Stmt} {P : Po} {pos : Pos} {α : Type} (xs : List α) (c : α → PD) (I : Nat → En) (hi : DI X en tg iter (xs.map c)) (h0 : Lee (I 0) en)
    (hb : ∀ (i : Nat) (x : α), xs[i]? = some x → ∃ is en', DG X (I i) tg (c x) is en' ∧ DSs X en' body { P with nx := Lee (I (i + 1)), ct := Lee (I (i + 1)), bk := P.nx })
    (hd : P.nx (I xs.length)) (hp : PassesOwn (model X.prog X.w) X.A X.env X.xe := by exact PassesOwn.never) (hc : X.calm = true := by kernel_rfl) (hs : ∀ x, foldedSetIterable iter X.env x = pure x := by intro _; rfl) : DS X en (.For tg iter body [] pos) P := fun B Bo Ho H σ f D t => by
  obtain ⟨wi, pi, hi⟩ := hi
  refine wS_of (ps_for hp hc pi pg_w pss_w hs) ?_
  refine hi B Bo Ho H σ f _ fun J Ho1 H1 g it => ?_
  have f1 := f.gr g
  have fb := f1.rebase
  refine ⟨fun i m σ2 H2 => ∃ H2o, m = xs.length - i ∧ i ≤ xs.length ∧ Fit X.K (both B Ho1) Ho1 H2o H2 σ2 (I i), ⟨xs.length, Ho1, by simp, Nat.zero_le _, fb.less h0⟩, ?_⟩
  rintro i m σ2 H2 ⟨H2o, rfl, hle, f2⟩
  have sat : Sat X.K (both B Ho1) Ho1 P D := ⟨fun σ' Ho' H' en' n f' => t.nx σ' Ho' H' en' n (f1.unbase f'), fun v d σ' Ho' H' en' n m f' r => t.rt v d σ' Ho' H' en' n m (f1.unbase f') r.unbase, fun σ' Ho' H' en' n f' => t.bk σ' Ho' H' en' n (f1.unbase f'), fun σ' Ho' H' en' n f' => t.ct σ' Ho' H' en' n (f1.unbase f')⟩
  obtain ⟨go, stop⟩ := it H2o H2 f2.boh f2.hoh i
  by_cases hlt : i < xs.length
  · have hx := List.getElem?_eq_getElem hlt
    obtain ⟨go, yl⟩ := go (c xs[i]) (by rw [List.getElem?_map, hx]; rfl)
    obtain ⟨is, en', dg, db⟩ := hb i _ hx
    refine .inr ⟨go, fun σ' H' => ∃ Ho', Fit X.K (both B Ho1) Ho1 Ho' H' σ' (I (i + 1)), fun σ' H' ⟨Ho', f'⟩ => ⟨_, by omega, Ho', rfl, hlt, f'⟩, fun x H3 y => ?_⟩
    obtain ⟨H3o, g3, r3⟩ := yl x H3 y
    refine dg _ _ _ _ _ (f2.gr g3) x r3 _ fun σ3 _ f3 => ?_
    refine db _ _ _ _ _ f3 _ ⟨fun σ' Ho' H' en' n f' => ⟨Ho', f'.less n⟩, sat.rt, sat.nx, fun σ' Ho' H' en' n f' => ⟨Ho', f'.less n⟩⟩
  · have e : i = xs.length := by omega
    subst e
    exact .inl ⟨stop (by rw [List.length_map]; exact Nat.le_refl _), sat.nx σ2 H2o H2 _ hd f2⟩

/-! ### list comprehensions -/
def wipeE (en : En) : List Nat → En
  | [] => en
  | v :: vs => (wipeE en vs).set v none
theorem Fit.wipe {K : PySem.W.Frag} {B Bo Ho H : Hp} {σ : L2.St} {en : En} (f : Fit K B Bo Ho H σ en) : ∀ vs : List Nat, Fit K B Bo Ho H (L2.wipe σ vs) (wipeE en vs)
  | [] => f
  | v :: vs => (Fit.wipe f vs).drop
theorem wipe_get (σ : L2.St) : ∀ (vs : List Nat) (j : Nat), (L2.wipe σ vs)[j]? = if j ∈ vs then σ[j]?.map (fun _ => none) else σ[j]?
  | [], j => by simp [L2.wipe]
  | v :: vs, j => by
    have ih := wipe_get σ vs j
    unfold L2.wipe
    by_cases hj : v = j
    · subst hj
      rw [if_pos List.mem_cons_self, List.getElem?_set]
      simp only [if_true]
      by_cases hl : v < σ.length
      · rw [if_pos (by rw [L2.wipe_length]; exact hl), List.getElem?_eq_getElem hl]; rfl
      · rw [if_neg (by rw [L2.wipe_length]; exact hl), List.getElem?_eq_none (by omega)]; rfl
    · rw [List.getElem?_set_ne hj, ih]
      have : (j ∈ v :: vs) ↔ j ∈ vs := by simp [List.mem_cons, Ne.symm hj]
      by_cases hm : j ∈ vs
      · rw [if_pos hm, if_pos (this.mpr hm)]
      · rw [if_neg hm, if_neg (fun z => hm (this.mp z))]
theorem wipe_eq {σ σ2 : L2.St} {vs is : List Nat} (h : WEq is (L2.wipe σ vs) σ2) (hs : ∀ i ∈ is, i ∈ vs) : L2.wipe σ2 vs = L2.wipe σ vs := by
  apply List.ext_getElem?
  intro j
  rw [wipe_get, wipe_get]
  by_cases hj : j ∈ vs
  · rw [if_pos hj, if_pos hj]
    have hl : σ2.length = σ.length := by rw [h.1, L2.wipe_length]
    by_cases hq : j < σ.length
    · rw [List.getElem?_eq_getElem hq, List.getElem?_eq_getElem (by omega)]; rfl
    · rw [List.getElem?_eq_none (by omega), List.getElem?_eq_none (by omega)]
  · rw [if_neg hj, if_neg hj, h.2 j (fun z => hj (hs j z)), wipe_get, if_neg hj]
def DTs (X : Cx) (en : En) (ifs : List Expr) (b : Bool) : Prop := ∃ t, PTs X ifs t ∧ ∀ (B Bo Ho H : Hp) (σ : L2.St), Fit X.K B Bo Ho H σ en → ∀ Q : Bool → Hp → Prop, (∀ Ho' H', Gr Ho H Ho' H' → Q b H') → t σ H Q
theorem dts_nil {X : Cx} {en : En} : DTs X en [] true := ⟨_, pts_nil, fun B Bo Ho H σ f Q q => q Ho H (.refl f.hoh)⟩
theorem dts_one {X : Cx} {en : En} {c : Expr} {b : Bool} (h : DT X en c b) : DTs X en [c] b := ⟨_, pts_one pt_w, h⟩
def wTs (X : Cx) (ifs : List Expr) : TT := fun σ H Q => ∃ t, PTs X ifs t ∧ t σ H Q
theorem pts_w {X : Cx} {ifs : List Expr} : PTs X ifs (wTs X ifs) := ⟨fun pins s σ H Q I ⟨t, h, q⟩ => h.run pins s σ H Q I q⟩

/-- a comprehension's reading: the list rs -/
def DLc (X : Cx) (en : En) (elt tg iter : Expr) (ifs : List Expr) (scope : Scope) (own : List (Str × Nat)) (rs : List PD) : Prop := ∃ wi g tt te, PI X tg iter wi ∧
  (∀ (s : Shared) (H : Hp) (C : Addr) (cl : List (Str × Addr)) (fp : List Addr), PG (X.blk s H scope (compEnvC scope cl C X.env) fp) tg g) ∧
  (∀ (s : Shared) (H : Hp) (C : Addr) (cl : List (Str × Addr)) (fp : List Addr), PTs (X.blk s H scope (compEnvC scope cl C X.env) fp) ifs tt) ∧
  (∀ (s : Shared) (H : Hp) (C : Addr) (cl : List (Str × Addr)) (fp : List Addr), PE (X.blk s H scope (compEnvC scope cl C X.env) fp) elt te) ∧
  ∀ (B Bo Ho H : Hp) (σ : L2.St), Fit X.K B Bo Ho H σ en → ∀ Q : VK, (∀ v Ho' H', Gr Ho H Ho' H' → Rs X.K .o H Ho' H' v (.list rs) → Q v H') → tLc wi g tt te (own.map (·.2)) σ H Q
theorem dlc_f {X : Cx} {en : En} {elt tg iter : Expr} {ifs : List Expr} {scope : Scope} {own : List (Str × Nat)} {α : Type} (xs : List α) (c : α → PD) (p : α → Bool) (f : α → PD) (hi : DI X en tg iter (xs.map c))
    (hb : ∀ x ∈ xs, ∃ is en', (∀ i ∈ is, i ∈ own.map (·.2)) ∧ ∀ (s : Shared) (H : Hp) (C : Addr) (cl : List (Str × Addr)) (fp : List Addr),
      DG (X.blk s H scope (compEnvC scope cl C X.env) fp) (wipeE en (own.map (·.2))) tg (c x) is en' ∧ DTs (X.blk s H scope (compEnvC scope cl C X.env) fp) en' ifs (p x) ∧ (p x = true → DE (X.blk s H scope (compEnvC scope cl C X.env) fp) en' elt .c (f x)))
    (hl : xs.length ≤ 100000) : DLc X en elt tg iter ifs scope own ((xs.filter p).map f) := by
  obtain ⟨wi, pi, hi⟩ := hi
  refine ⟨wi, fun v σ H Q => ∀ (s : Shared) (H0 : Hp) (C : Addr) (cl : List (Str × Addr)) (fp : List Addr), wG (X.blk s H0 scope (compEnvC scope cl C X.env) fp) tg v σ H Q,
    fun σ H Q => ∀ (s : Shared) (H0 : Hp) (C : Addr) (cl : List (Str × Addr)) (fp : List Addr), wTs (X.blk s H0 scope (compEnvC scope cl C X.env) fp) ifs σ H Q,
    fun σ H Q => ∀ (s : Shared) (H0 : Hp) (C : Addr) (cl : List (Str × Addr)) (fp : List Addr), wE (X.blk s H0 scope (compEnvC scope cl C X.env) fp) elt σ H Q, pi,
    fun s H0 C cl fp => ⟨fun pins s' σ H v u Q I r h => (h s H0 C cl fp).run pins s' u I r⟩, fun s H0 C cl fp => ⟨fun pins s' σ H Q I h => pts_w.run pins s' σ H Q I (h s H0 C cl fp)⟩, fun s H0 C cl fp => ⟨fun pins s' σ H Q I h => (h s H0 C cl fp).run pins s' I⟩, fun B Bo Ho H σ ft Q q => ?_⟩
  refine hi B Bo Ho H σ ft _ fun J Ho1 H1 g1 it => ?_
  intro D hD
  have n1 : Ho1 D = none := g1.s.free hD
  refine ⟨fun i m H2 => ∃ H2o acc, m = xs.length - i ∧ i ≤ xs.length ∧ Gr Ho1 H1 H2o H2 ∧ H2o D = none ∧ H2 D = some (.lst acc) ∧ acc.length ≤ i ∧ RpA X.K H2o acc (((xs.take i).filter p).map f),
    ⟨xs.length, Ho1, [], by simp, Nat.zero_le _, .tmp g1.s hD, n1, upd_same, Nat.le_refl _, .nil⟩, ?_⟩
  rintro i m H2 ⟨H2o, acc, rfl, hle, g2, n2, e2, hal, r2⟩
  obtain ⟨go, stop⟩ := it H2o H2 g2.o g2.s i
  by_cases hlt : i < xs.length
  · have hx := List.getElem?_eq_getElem hlt
    obtain ⟨go, yl⟩ := go (c xs[i]) (by rw [List.getElem?_map, hx]; rfl)
    obtain ⟨is, en', his, hb⟩ := hb xs[i] (List.getElem_mem hlt)
    have htk : xs.take (i + 1) = xs.take i ++ [xs[i]] := by rw [List.take_add_one, hx]; rfl
    refine .inr ⟨go, fun H' => ∃ m', m' < xs.length - i ∧ ∃ H2o acc, m' = xs.length - (i + 1) ∧ i + 1 ≤ xs.length ∧ Gr Ho1 H1 H2o H' ∧ H2o D = none ∧ H' D = some (.lst acc) ∧ acc.length ≤ i + 1 ∧ RpA X.K H2o acc (((xs.take (i + 1)).filter p).map f), fun H' h => h, fun x H3 y => ?_⟩
    obtain ⟨H3o, g3, r3⟩ := yl x H3 y
    intro s H0 C cl fp
    refine (hb s H0 C cl fp).1 B Bo H3o H3 _ (((ft.gr g1).gr (g2.trans g3)).wipe _) x r3 _ fun σ3 w3 f3 => ⟨wipe_eq w3 his, ?_⟩
    intro s H0 C cl fp
    obtain ⟨t, pt, ht⟩ := (hb s H0 C cl fp).2.1
    refine ⟨t, pt, ht B Bo H3o H3 σ3 f3 _ fun H4o H4 g4 => ?_⟩
    have e4 := (g3.trans g4).h.at _ _ e2
    have k3 : H3o D = none := (g3.fr D (by rw [e2]; intro z; cases z)).trans n2
    have k4 : H4o D = none := (g4.fr D (by rw [g3.h.at _ _ e2]; intro z; cases z)).trans k3
    cases hpx : p xs[i] with
    | false =>
      refine ⟨_, by omega, H4o, acc, rfl, hlt, (g2.trans g3).trans g4, k4, e4, by omega, ?_⟩
      rw [htk, List.filter_append, List.filter_cons, hpx]
      simp only [Bool.false_eq_true, if_false, List.filter_nil, List.append_nil]
      exact r2.mono (g3.trans g4).o
    | true =>
      show ∀ (s : Shared) (H0 : Hp) (C : Addr) (cl : List (Str × Addr)) (fp : List Addr), wE (X.blk s H0 scope (compEnvC scope cl C X.env) fp) elt σ3 H4 _
      intro s H0 C cl fp
      refine (hb s H0 C cl fp).2.2 hpx B Bo H4o H4 σ3 (f3.gr g4) _ fun v H5o H5 g5 r5 => ?_
      have e5 := g5.h.at _ _ e4
      have k5 : H5o D = none := (g5.fr D (by rw [e4]; intro z; cases z)).trans k4
      have g := ((g2.trans g3).trans g4).trans g5
      refine ⟨acc, e5, sz100l (by omega), _, by omega, H5o, acc ++ [v], rfl, hlt, g.poke hD k5 e5, k5, upd_same, by rw [List.length_append]; simp; omega, ?_⟩
      · rw [htk, List.filter_append, List.filter_cons, hpx]
        simp only [if_true, List.filter_nil, List.map_append, List.map_cons, List.map_nil]
        exact (r2.mono (g3.trans (g4.trans g5)).o).app (.one r5)
  · have e : i = xs.length := by omega
    subst e
    refine .inl ⟨stop (by rw [List.length_map]; exact Nat.le_refl _), ?_⟩
    rw [List.take_length] at r2
    exact q _ H2o H2 (g1.trans g2) ⟨D, rfl, g1.h.free hD, n2, acc, e2, r2⟩
theorem dlc {X : Cx} {en : En} {elt tg iter : Expr} {scope : Scope} {own : List (Str × Nat)} {α : Type} (xs : List α) (c : α → PD) (f : α → PD) (hi : DI X en tg iter (xs.map c))
    (hb : ∀ x ∈ xs, ∃ is en', (∀ i ∈ is, i ∈ own.map (·.2)) ∧ ∀ (s : Shared) (H : Hp) (C : Addr) (cl : List (Str × Addr)) (fp : List Addr),
      DG (X.blk s H scope (compEnvC scope cl C X.env) fp) (wipeE en (own.map (·.2))) tg (c x) is en' ∧ DE (X.blk s H scope (compEnvC scope cl C X.env) fp) en' elt .c (f x))
    (hl : xs.length ≤ 100000) : DLc X en elt tg iter [] scope own (xs.map f) := by
  have h := dlc_f (X := X) (en := en) (elt := elt) (tg := tg) (iter := iter) (ifs := []) (scope := scope) (own := own) xs c (fun _ => true) f hi (fun x hx => by
    obtain ⟨is, en', h1, h2⟩ := hb x hx
    exact ⟨is, en', h1, fun s H C cl fp => ⟨(h2 s H C cl fp).1, dts_nil, fun _ => (h2 s H C cl fp).2⟩⟩) hl
  have e : xs.filter (fun _ => true) = xs := List.filter_eq_self.mpr fun _ _ => rfl
  rw [e] at h
  exact h
theorem DLc.is {X : Cx} {en : En} {elt tg iter : Expr} {ifs : List Expr} {scope : Scope} {own : List (Str × Nat)} {rs rs' : List PD} (h : DLc X en elt tg iter ifs scope own rs) (e : rs = rs') : DLc X en elt tg iter ifs scope own rs' := e ▸ h
theorem de_lc {X : Cx} {en : En} {elt tg iter : Expr} {ifs : List Expr} {scope : Scope} {own : List (Str × Nat)} {pos : Pos} {rs : List PD} (h : DLc X en elt tg iter ifs scope own rs) (hN : X.N.Nodup) (ok : BlkOk X.N X.env.scope scope own) (hc : X.calm = true := by kernel_rfl)
    (hs : ∀ x, foldedSetIterable iter X.env x = pure x := by intro _; rfl) : DE X en (.ListComp elt [⟨tg, iter, ifs, 0⟩] scope pos) .o (.list rs) := fun B Bo Ho H σ ft Q q => by
  obtain ⟨wi, g, tt, te, pi, hg, ht, he, r⟩ := h
  exact wE_of (pe_lc (own := own) hc hN pi ok hg ht he hs) (r B Bo Ho H σ ft Q q)
/-- y = [..] on one line -/
theorem ds_setLc (i : Nat) {X : Cx} {en : En} {P : Po} {y : Str} {py : Pos} {elt tg iter : Expr} {ifs : List Expr} {scope : Scope} {own : List (Str × Nat)} {pos spos : Pos} {rs : List PD} (h : DLc X en elt tg iter ifs scope own rs) (q : P.nx (en.set i (some (.o (.list rs))))) (hN : X.N.Nodup)
    (ok : BlkOk X.N X.env.scope scope own) (hy : X.N[i]? = some y := by kernel_rfl) (hyl : X.env.scope.names.lookup y = some .local := by kernel_rfl)
    (hsw : swapsWith (.ListComp elt [⟨tg, iter, ifs, 0⟩] scope pos) (some (.Name y py)) spos.line X.env = pure true := by exact sw_true rfl rfl rfl (by decide +kernel)) (hc : X.calm = true := by kernel_rfl)
    (hs : ∀ x, foldedSetIterable iter X.env x = pure x := by intro _; rfl) : DS X en (.Assign [.Name y py] (.ListComp elt [⟨tg, iter, ifs, 0⟩] scope pos) spos) P := fun B Bo Ho H σ f D t => by
  obtain ⟨wi, g, tt, te, pi, hg, ht, he, r⟩ := h
  refine wS_of (ps_setLc (i := i) (own := own) hc hN hy hyl hsw pi ok hg ht he hs) (r B Bo Ho H σ f _ fun v Ho' H' g r => ?_)
  obtain ⟨p, rfl, n1, n2, w⟩ := r
  exact t.nx _ Ho' H' _ q (f.setO g n1 n2 w)

/-! ### defs -/
def startE (N : List Str) (ds : List PD) : En := (ds.map fun d => some (Sl.v d)) ++ List.replicate (N.length - ds.length) none
theorem fit_start {K : PySem.W.Frag} {Bo H : Hp} {N : List Str} {vs : List V} {ds : List PD} (s : Same Bo H) (tb : TbK H) (r : RpA K Bo vs ds) : Fit K H Bo Bo H (L2.start N vs) (startE N ds) := by
  have hl := r.len
  have far : ∀ (i : Nat) (x : Sl), (startE N ds)[i]? = some (some x) → ∃ d, ds[i]? = some d ∧ x = .v d := fun i x e => by
    unfold startE at e
    by_cases hi : i < ds.length
    · rw [List.getElem?_append_left (by rw [List.length_map]; exact hi), List.getElem?_map, List.getElem?_eq_getElem hi] at e
      have e2 : Sl.v ds[i] = x := Option.some.inj (Option.some.inj e)
      exact ⟨ds[i], List.getElem?_eq_getElem hi, e2.symm⟩
    · rw [List.getElem?_append_right (by rw [List.length_map]; omega), List.getElem?_replicate] at e
      split at e <;> cases e
  refine ⟨s, .refl _, .refl _, s, fun _ _ => rfl, tb, ?_, fun i x e => ?_, fun i j {_ _} d d' p e1 => ?_⟩
  · unfold L2.start startE
    rw [List.length_append, List.length_append, List.length_map, List.length_map, List.length_replicate, List.length_replicate, hl]
  · obtain ⟨d, hd, rfl⟩ := far i x e
    obtain ⟨v, hv, rv⟩ := r.get hd
    refine ⟨v, ?_, rv⟩
    unfold L2.start
    have hi : i < vs.length := (List.getElem?_eq_some_iff.mp hv).1
    rw [List.getElem?_append_left (by rw [List.length_map]; exact hi), List.getElem?_map, hv]
    rfl
  · obtain ⟨_, _, z⟩ := far i _ e1
    cases z
section
variable {P : Program} {w : World} {K : PySem.W.Frag} {mg : Str → Option Value} {base : Heap}
abbrev FnP (K : PySem.W.Frag) (x : Str) (st : Stmt) (f : Addr) (fd : FuncData) : Prop := FunD K x x (defArgs st) (defBody st) (defScope st) [] [] f fd
/-- THE RULE for a def over data -/
theorem fn_mk {qual : Str} {st : Stmt} {f : Addr} {fd : FuncData} {N ps : List Str} {k : Nat} (F : FnP K qual st f fd) (S : FnScope N ps (defScope st)) (R : List PD → PD → Prop) (kd : Kd) (hlen : ∀ ds d, R ds d → ds.length = ps.length)
    (hb : ∀ (cdv : Value) (A : Around) (outer : List Env) (s : Shared) (H : Hp) (E : XK), Room k (A.deeper (envOfC qual (defScope st) s.heap.objs.size f cdv)) → ∀ ds d, R ds d →
      DSs (cxOf CX0 P w K mg base N qual (defScope st) f cdv A outer s H E).nox (startE N ds) (defBody st) { nx := fun _ => False, rk := kd, rt := fun z => z = d }) : FnOk P w K mg base CX0 (k + 1) f fd ps (spF K R kd) := by
  refine F.ok S (fun vs H Q E h => ?_) (fun cdv A outer s H vs Q E hr h => ?_)
  · obtain ⟨Bo, ds, d, _, _, r, h, _⟩ := h
    rw [r.len]
    exact hlen ds d h
  · obtain ⟨Bo, ds, d, sb, tb, r, h, q⟩ := h
    refine ⟨_, PSs.nox pss_w, ?_⟩
    refine hb cdv A outer s H E hr ds d h H Bo Bo H _ (fit_start sb tb r) _ ⟨fun _ _ _ _ z => z.elim, fun v d' σ' Ho' H' en' e _ g r => ?_, fun _ _ _ _ z => z.elim, fun _ _ _ _ z => z.elim⟩
    have e : d' = d := e
    subst e
    exact q v Ho' H' g.gr0 r
theorem dn_mk {x : Str} {f : Addr} {fd : FuncData} {ps : List Str} {k : Nat} {R : List PD → PD → Prop} {kd : Kd} (h : FnOk P w K mg base CX0 k f fd ps (spF K R kd)) (hm : mg x = some (.ref f)) (hk : PySem.W.keepIn K (.ref f) = true) (hb : Binds K fd ps []) : Dn P w K mg base k x R kd := ⟨⟨f, fd, ps, h, hm, hk, hb⟩⟩
end
end DL

namespace DL
open PySem PySem.Spec PyProof.Rows L2
variable [Lam]

/-! ### the words -/
theorem nT {c : Bool} {α : Prop} (w : c = false) (h : c = true) : α := by rw [w] at h; cases h
theorem nF {c : Bool} {α : Prop} (w : c = true) (h : c = false) : α := by rw [w] at h; cases h
theorem deq {α : Type} [DecidableEq α] (x : α) : decide (x = x) = true := decide_eq_true rfl
theorem w_sum_stop : decide (("sum" : Str) = "stop") = false := by decide +kernel
theorem w_sum_pick : decide (("sum" : Str) = "pick") = false := by decide +kernel
theorem w_sum_not : decide (("sum" : Str) = "not") = false := by decide +kernel
theorem w_stop_sum : decide (("stop" : Str) = "sum") = false := by decide +kernel
theorem w_stop_pick : decide (("stop" : Str) = "pick") = false := by decide +kernel
theorem w_stop_not : decide (("stop" : Str) = "not") = false := by decide +kernel
theorem w_pick_sum : decide (("pick" : Str) = "sum") = false := by decide +kernel
theorem w_pick_stop : decide (("pick" : Str) = "stop") = false := by decide +kernel
theorem w_pick_not : decide (("pick" : Str) = "not") = false := by decide +kernel
theorem w_not_sum : decide (("not" : Str) = "sum") = false := by decide +kernel
theorem w_not_stop : decide (("not" : Str) = "stop") = false := by decide +kernel
theorem w_not_pick : decide (("not" : Str) = "pick") = false := by decide +kernel
/-! ### the mathematics of parts -/
inductive Pt | sum (a b : Nat) | stop (a b : Nat) | pick (a b c : Nat) | not (a : Nat)
def Pt.word : Pt → Str
  | .sum _ _ => "sum" | .stop _ _ => "stop" | .pick _ _ _ => "pick" | .not _ => "not"
def Pt.lines : Pt → List Nat
  | .sum a b => [a, b] | .stop a b => [a, b] | .pick a b c => [a, b, c] | .not a => [a]
def nD (n : Nat) : PD := .int n
def rowL (row : List Nat) : PD := .list (row.map nD)
def rowT (row : List Nat) : PD := .tuple (row.map nD)
def seqD (b : Bool) (row : List Nat) : PD := if b = true then rowL row else rowT row
def ptD (p : Pt) : PD := .tuple (.str p.word :: p.lines.map nD)
def give (ring : Nat) (p : Pt) (row : List Nat) : Nat := match p with
  | .sum a b => (row.getD a 0 + row.getD b 0) % ring
  | .stop a b => if row.getD b 0 = 0 then row.getD a 0 else 0
  | .pick a b c => if row.getD a 0 = 0 then row.getD b 0 else row.getD c 0
  | .not a => ring - 1 - row.getD a 0
theorem give_lt {ring : Nat} {p : Pt} {row : List Nat} (hr : 2 ≤ ring) (h : ∀ x ∈ row, x < ring) : give ring p row < ring := by
  have g : ∀ i, row.getD i 0 < ring := fun i => by
    rw [List.getD_eq_getElem?_getD]
    cases q : row[i]? with
    | none => show 0 < ring; omega
    | some x => exact h x (List.mem_of_getElem? q)
  cases p with
  | sum a b => exact Nat.mod_lt _ (by omega)
  | stop a b =>
    show (if row.getD b 0 = 0 then row.getD a 0 else 0) < ring
    split
    · exact g a
    · omega
  | pick a b c =>
    show (if row.getD a 0 = 0 then row.getD b 0 else row.getD c 0) < ring
    split
    · exact g b
    · exact g c
  | not a =>
    show ring - 1 - row.getD a 0 < ring
    omega
theorem atI_row {row : List Nat} {l : Nat} (h : l < row.length) : atI (row.map nD) (l : Int) = some (nD (row.getD l 0)) := by
  refine atI_nat ?_
  rw [List.getElem?_map, List.getElem?_eq_getElem h, List.getD_eq_getElem?_getD, List.getElem?_eq_getElem h]
  rfl
theorem atI_row0 {row : List Nat} {l : Nat} {x : Nat} (h : row[l]? = some x) : atI (row.map nD) (l : Int) = some (nD x) := by
  refine atI_nat ?_
  rw [List.getElem?_map, h]
  rfl
/-- an item of a list or a tuple of digits -/
theorem de_row {X : Cx} {en : En} {a b : Expr} {pos : Pos} {kb : Kd} {s : Bool} {row : List Nat} {l : Nat} (ha : DE X en a .e (seqD s row)) (hb : DE X en b kb (nD l)) (h : l < row.length) (hs : PlainIx b := by intro _ _; rfl) : DE X en (.Subscript a b pos) .c (nD (row.getD l 0)) := by
  cases s with
  | true => exact de_ixL ha hb (atI_row h) hs
  | false => exact de_ixT ha hb (atI_row h) hs
/-- the script's cells -/
def cellI (ns : List Int) (k : Nat) : Int := ns.getD k 0
theorem cell_cut (ns : List Int) (k : Nat) : cutA ns (some (k : Int)) (some ((k : Int) + 1)) = (ns.drop k).take 1 := by
  have e1 : HT.sIx ns.length 0 (some (k : Int)) = min k ns.length := HT.sIx_nat _ _ _
  have e2 : HT.sIx ns.length ns.length (some ((k : Int) + 1)) = min (k + 1) ns.length := HT.sIx_nat ns.length ns.length (k + 1)
  unfold cutA
  rw [e1, e2]
  by_cases h : k < ns.length
  · rw [Nat.min_eq_left (by omega), Nat.min_eq_left (by omega)]
    congr 1
    omega
  · rw [List.drop_of_length_le (show ns.length ≤ min k ns.length by omega), List.drop_of_length_le (show ns.length ≤ k by omega)]
    simp
theorem cell_at (ns : List Int) (k : Nat) : atI ((cutA ns (some (k : Int)) (some ((k : Int) + 1))).map PyData.int ++ [PyData.int 0]) 0 = some (.int (cellI ns k)) := by
  refine atI_nat (j := 0) ?_
  rw [cell_cut]
  unfold cellI
  by_cases h : k < ns.length
  · rw [List.drop_eq_getElem_cons h]
    show some (PyData.int ns[k]) = some (PyData.int (ns.getD k 0))
    rw [List.getD_eq_getElem?_getD, List.getElem?_eq_getElem h]
    rfl
  · rw [List.drop_of_length_le (show ns.length ≤ k by omega), List.getD_eq_getElem?_getD, List.getElem?_eq_none (show ns.length ≤ k by omega)]
    rfl
theorem cell_len (ns : List Int) (k : Nat) : ((cutA ns (some (k : Int)) (some ((k : Int) + 1))).map PyData.int).length + [PyData.int 0].length ≤ 100000 := by
  rw [cell_cut, List.length_map, List.length_take]
  simp only [List.length_cons, List.length_nil]
  omega
def mixI (ns : List Int) (k : Nat) : Int := (cellI ns k + 101 * (k : Int)) * 48271 % 2147483647
def mix (ns : List Int) (k : Nat) : Nat := (mixI ns k).toNat
theorem mix_nD (ns : List Int) (k : Nat) : PyData.int (mixI ns k) = nD (mix ns k) := by
  have h : 0 ≤ mixI ns k := Int.emod_nonneg _ (by decide)
  unfold nD mix
  rw [Int.toNat_of_nonneg h]
theorem mix_lt (ns : List Int) (k : Nat) : mix ns k < 2147483647 := by
  have h : 0 ≤ mixI ns k := Int.emod_nonneg _ (by decide)
  have h2 : mixI ns k < 2147483647 := Int.emod_lt_of_pos _ (by decide)
  unfold mix
  omega
end DL

namespace DL
open PySem PySem.Spec PyProof.Rows L2
variable [Lam]
section
variable {X : Cx} {en : En} {a b e : Expr} {es : List Expr} {p p2 pos : Pos} {k ka kb : Kd} {d da db : PD} {ds : List PD}
/-! ### isinstance -/
def typN : PD → Option String
  | .none => some "NoneType" | .bool _ => some "bool" | .int _ => some "int" | .str _ => some "str" | .list _ => some "list" | .tuple _ => some "tuple" | .dict _ => none
theorem Rp.ty {K : PySem.W.Frag} {H : Hp} {v : V} {t : String} (h : Rp K H v d) (ht : typN d = some t) : TyX K H v (.type t) := by
  cases h with
  | non => cases ht; exact .base .non
  | bl b => cases ht; exact .base (.bl b)
  | int i => cases ht; exact .base (.int i)
  | str x => cases ht; exact .base (.str x)
  | lst h r => cases ht; exact .base (.lst h)
  | tup h r =>
    cases ht
    exact .base (.tup h)
  | dct h r => cases ht
  | scr h => cases ht
  | tux h n r => cases ht
  | adr a => cases ht
  | obj h o r => cases ht
  | fact h => cases ht
theorem kit_ii : kitB "int" "int" = some true := by decide +kernel
theorem kit_ib : kitB "int" "bool" = some false := by decide +kernel
theorem kit_tt : kitB "tuple" "tuple" = some true := by decide +kernel
theorem kit_ll : kitB "list" "list" = some true := by decide +kernel
theorem de_isi {n t : String} {tx : Str} {r : Bool} (hm : X.mg "isinstance" = none) (hmT : X.mg tx = none) (ha : DE X en a k d) (ht : typN d = some t) (hr : kitB t n = some r) (hv : bootBuiltins tx = some (.type n)) (hg : glB X "isinstance" = true := by kernel_rfl) (hgT : glB X tx = true := by kernel_rfl)
    (hn : tx ≠ "__name__" := by decide) (hd : (tx == ("__debug__" : Str)) = false := by kernel_rfl) (he : starEach [a, .Name tx p2] X.env = (false, eval a X.env) :: starEach [.Name tx p2] X.env := by kernel_rfl) (he2 : starEach [.Name tx p2] X.env = (false, eval (.Name tx p2) X.env) :: starEach [] X.env := by kernel_rfl)
    (hpl : (backTo pos (starEach [.Name tx p2] X.env)).any (·.1) = false := by kernel_rfl) : DE X en (.Call (.Name "isinstance" p) [a, .Name tx p2] [] pos) .c (.bool r) := fun B Bo Ho H σ f Q q => by
  refine wE_of (pe_callB call_isi (gl_of hg) hm boot_isinstance (pa_cons pe_w (pa_cons (pe_bltn (v := .ty n) (gl_of hgT) hmT hv rfl hn hd) pa_nil he2) he) (he := he) (hpl := hpl)) ?_
  refine ha B Bo Ho H σ f _ fun v H1o H1 g1 r1 => ?_
  exact ⟨v, .ty n, .type t, .type n, r, rfl, .ty n, (r1.rpt g1.s).ty ht, kit_ty hr, q _ H1o H1 g1 (.bl _)⟩
end
end DL

namespace DL
open PySem PySem.Spec PyProof.Rows L2
variable [Lam]

/-! ### dicts -/
abbrev Ky := L2.Key
def dk (kvs : List (Ky × PD)) : PD := .dict (kvs.map fun p => (kD p.1, p.2))
def valD (kvs : List (Ky × PD)) (k : Ky) : Option PD := (kvs.find? fun kv => decide (kv.1 = k)).map (·.2)
def putD (kvs : List (Ky × PD)) (k : Ky) (d : PD) : List (Ky × PD) := if (kvs.any fun kv => decide (kv.1 = k)) = true then kvs.map (fun kv => if kv.1 = k then (kv.1, d) else kv) else kvs ++ [(k, d)]
theorem kD_inj {k l : Ky} (h : kD k = kD l) : k = l := by
  cases k <;> cases l <;> simp [kD] at h <;> rw [h]
section
variable {K : PySem.W.Frag} {Ho H : Hp}
theorem RpK.to : ∀ {kv : List (Ky × V)} {kvs : List (Ky × PD)}, RpK K H kv (kvs.map fun p => (kD p.1, p.2)) → kv.map (·.1) = kvs.map (·.1) ∧ RpA K H (kv.map (·.2)) (kvs.map (·.2))
  | [], [], _ => ⟨rfl, .nil⟩
  | [], p :: kvs, h => by cases h
  | q :: kv, [], h => by cases h
  | q :: kv, p :: kvs, h => by
    rw [List.map_cons] at h
    generalize e : (kD p.1, p.2) :: kvs.map (fun p => (kD p.1, p.2)) = l at h
    cases h with
    | cons h r =>
      have e1 := (List.cons.inj e).1
      have e2 := (List.cons.inj e).2
      subst e2
      obtain ⟨i1, i2⟩ := RpK.to r
      have e3 := kD_inj (Prod.mk.inj e1).1
      have e4 := (Prod.mk.inj e1).2
      subst e4
      refine ⟨?_, .cons h i2⟩
      rw [List.map_cons, List.map_cons, i1, e3]
theorem RpK.of : ∀ {kv : List (Ky × V)} {kvs : List (Ky × PD)}, kv.map (·.1) = kvs.map (·.1) → RpA K H (kv.map (·.2)) (kvs.map (·.2)) → RpK K H kv (kvs.map fun p => (kD p.1, p.2))
  | [], [], _, _ => .nil
  | [], p :: kvs, e, _ => by cases e
  | q :: kv, [], e, _ => by cases e
  | (k, v) :: kv, (l, d) :: kvs, e, r => by
    rw [List.map_cons, List.map_cons] at e r
    have e1 : k = l := (List.cons.inj e).1
    subst e1
    cases r with
    | cons h r => exact .cons h (RpK.of (List.cons.inj e).2 r)
theorem valD_rp : ∀ {kv : List (Ky × V)} {kvs : List (Ky × PD)} {k : Ky}, kv.map (·.1) = kvs.map (·.1) → RpA K H (kv.map (·.2)) (kvs.map (·.2)) → (valD kvs k = none ∧ valV kv k = none) ∨ ∃ v d, valD kvs k = some d ∧ valV kv k = some v ∧ Rp K H v d
  | [], [], _, _, _ => .inl ⟨rfl, rfl⟩
  | [], p :: kvs, _, e, _ => by cases e
  | q :: kv, [], _, e, _ => by cases e
  | (k1, v) :: kv, (l, d) :: kvs, k, e, r => by
    rw [List.map_cons, List.map_cons] at e r
    have e1 : k1 = l := (List.cons.inj e).1
    subst e1
    cases r with
    | cons h r =>
      unfold valD valV
      by_cases hk : k1 = k
      · simp only [List.find?_cons, hk, decide_true, Option.map_some]
        exact .inr ⟨v, d, rfl, rfl, h⟩
      · simp only [List.find?_cons, hk, decide_false]
        exact valD_rp (List.cons.inj e).2 r
theorem RpA.map_if : ∀ {kv : List (Ky × V)} {kvs : List (Ky × PD)} {k : Ky} {v : V} {d : PD}, kv.map (·.1) = kvs.map (·.1) → RpA K H (kv.map (·.2)) (kvs.map (·.2)) → Rp K H v d →
    (kv.map fun q => if q.1 = k then (q.1, v) else q).map (·.1) = (kvs.map fun q => if q.1 = k then (q.1, d) else q).map (·.1) ∧ RpA K H ((kv.map fun q => if q.1 = k then (q.1, v) else q).map (·.2)) ((kvs.map fun q => if q.1 = k then (q.1, d) else q).map (·.2))
  | [], [], _, _, _, _, _, _ => ⟨rfl, .nil⟩
  | [], p :: kvs, _, _, _, e, _, _ => by cases e
  | q :: kv, [], _, _, _, e, _, _ => by cases e
  | (k1, v1) :: kv, (l, d1) :: kvs, k, v, d, e, r, h => by
    rw [List.map_cons, List.map_cons] at e r
    have e1 : k1 = l := (List.cons.inj e).1
    subst e1
    cases r with
    | cons h1 r =>
      obtain ⟨i1, i2⟩ := RpA.map_if (k := k) (List.cons.inj e).2 r h
      by_cases hk : k1 = k
      · simp only [List.map_cons, hk, if_true]
        exact ⟨by rw [i1], .cons h i2⟩
      · simp only [List.map_cons, hk, if_false]
        exact ⟨by rw [i1], .cons h1 i2⟩
theorem any_keys {kv : List (Ky × V)} {kvs : List (Ky × PD)} {k : Ky} (e : kv.map (·.1) = kvs.map (·.1)) : (kv.any fun q => decide (q.1 = k)) = (kvs.any fun q => decide (q.1 = k)) := by
  have h1 : (kv.any fun q => decide (q.1 = k)) = (kv.map (·.1)).any (fun x => decide (x = k)) := by rw [List.any_map]; rfl
  have h2 : (kvs.any fun q => decide (q.1 = k)) = (kvs.map (·.1)).any (fun x => decide (x = k)) := by rw [List.any_map]; rfl
  rw [h1, h2, e]
theorem putD_rp {kv : List (Ky × V)} {kvs : List (Ky × PD)} {k : Ky} {v : V} {d : PD} (e : kv.map (·.1) = kvs.map (·.1)) (r : RpA K H (kv.map (·.2)) (kvs.map (·.2))) (h : Rp K H v d) :
    (putK kv k v).map (·.1) = (putD kvs k d).map (·.1) ∧ RpA K H ((putK kv k v).map (·.2)) ((putD kvs k d).map (·.2)) := by
  unfold putK putD
  rw [any_keys e]
  by_cases hk : (kvs.any fun q => decide (q.1 = k)) = true
  · rw [if_pos hk, if_pos hk]
    exact RpA.map_if e r h
  · rw [if_neg hk, if_neg hk, List.map_append, List.map_append, List.map_append, List.map_append, e]
    exact ⟨rfl, r.app (.one h)⟩
theorem putD_len (kvs : List (Ky × PD)) (k : Ky) (d : PD) : (putD kvs k d).length ≤ kvs.length + 1 := by
  unfold putD
  split
  · rw [List.length_map]; omega
  · rw [List.length_append]; simp
theorem Rp.dk_inv {v : V} {kvs : List (Ky × PD)} (h : Rp K H v (dk kvs)) : ∃ a kv, v = .ref a ∧ H a = some (.dK kv) ∧ kv.map (·.1) = kvs.map (·.1) ∧ RpA K H (kv.map (·.2)) (kvs.map (·.2)) := by
  unfold dk at h
  generalize e : (PyData.dict (kvs.map fun p => (kD p.1, p.2))) = d at h
  cases h with
  | dct h r =>
    cases e
    obtain ⟨i1, i2⟩ := r.to
    exact ⟨_, _, rfl, h, i1, i2⟩
  | scr h =>
    unfold DL.scr at e
    have e2 := PyData.dict.inj e
    cases kvs with
    | nil => cases e2
    | cons p r =>
      have e3 := (Prod.mk.inj (List.cons.inj e2).1).1
      obtain ⟨k, _⟩ := p
      cases k <;> cases e3
  | tux h n r =>
    unfold DL.tx at e
    have e2 := PyData.dict.inj e
    cases kvs with
    | nil => cases e2
    | cons p r =>
      have e3 := (Prod.mk.inj (List.cons.inj e2).1).1
      obtain ⟨k, _⟩ := p
      cases k <;> cases e3
  | adr b =>
    unfold DL.adD at e
    have e2 := PyData.dict.inj e
    cases kvs with
    | nil => cases e2
    | cons p r => exact absurd (Prod.mk.inj (List.cons.inj e2).1).1 kD_ne_tuple
  | obj h o r =>
    unfold DL.obD at e
    have e2 := PyData.dict.inj e
    cases kvs with
    | nil => cases e2
    | cons p r => exact absurd (Prod.mk.inj (List.cons.inj e2).1).1 kD_ne_tuple
  | fact h =>
    unfold DL.atD at e
    have e2 := PyData.dict.inj e
    cases kvs with
    | nil => cases e2
    | cons p r => exact absurd (Prod.mk.inj (List.cons.inj e2).1).1 kD_ne_tuple
  | _ => cases e
theorem RpE.dk_inv {v : V} {kvs : List (Ky × PD)} (h : RpE K Ho H v (dk kvs)) (s : Same Ho H) : ∃ a kv, v = .ref a ∧ H a = some (.dK kv) ∧ kv.map (·.1) = kvs.map (·.1) ∧ RpA K Ho (kv.map (·.2)) (kvs.map (·.2)) := by
  rcases h with ⟨a, kv, e, h, r⟩ | h
  · obtain ⟨i1, i2⟩ := r.to
    exact ⟨a, kv, e, h, i1, i2⟩
  · obtain ⟨a, kv, e, h, i1, i2⟩ := h.dk_inv
    exact ⟨a, kv, e, s.at _ _ h, i1, i2⟩
theorem Rs.key {k : Kd} {H0 Ho H : Hp} {v : V} {y : Ky} (h : Rs K k H0 Ho H v (kD y)) : v = kV y := by
  cases y with
  | inl i => exact h.int_inv
  | inr x => exact h.str_inv
end

section
variable {X : Cx} {en : En} {a b e : Expr} {es : List Expr} {p p2 pos apos cpos : Pos} {k ka kb : Kd} {d da db : PD} {ds : List PD} {kvs : List (Ky × PD)} {y : Ky} {n : Nat}
theorem hu1 {A : Around} {k : Nat} (hr : Room k A) : A.units + 1 < cLine := by have := hr.un; omega
/-- {} -/
theorem de_dnew : DE X en (.Dict [] [] pos) .o (dk []) := fun B Bo Ho H σ f Q q => wE_of pe_dnewK fun p hp => q _ _ _ (.tmp f.hoh hp) ⟨p, rfl, hp, f.hoh.free hp, [], upd_same, .nil⟩
/-- d[k], there -/
theorem de_dget (hr : Room n X.A) (ha : DE X en a .e (dk kvs)) (hb : DE X en b kb (kD y)) (h : valD kvs y = some d) (hs : NoSl b := by intro _ _; rfl) : DE X en (.Subscript a b pos) .c d := fun B Bo Ho H σ f Q q => by
  refine wE_of (pe_dget (hu1 hr) pe_w pe_w hs) ?_
  refine ha B Bo Ho H σ f _ fun v H1o H1 g1 r1 => ?_
  refine hb B Bo H1o H1 σ (f.gr g1) _ fun u H2o H2 g2 r2 => ?_
  obtain ⟨p, kv, rfl, hp, i1, i2⟩ := RpE.dk_inv r1 g1.s
  rcases valD_rp (k := y) i1 i2 with ⟨h0, _⟩ | ⟨w, d', h1, h2, h3⟩
  · rw [h0] at h; cases h
  · rw [h1] at h; cases h
    refine ⟨p, w, rfl, ?_, q _ H2o H2 (g1.trans g2) (Rp.mono g2.o h3)⟩
    rw [r2.key, ← h2]
    exact .k (g2.h.at _ _ hp)
/-- d.get(k, e) -/
theorem de_dget2 (hr : Room n X.A) (ha : DE X en a .e (dk kvs)) (hb : DE X en b kb (kD y)) (he : DE X en e .c d) (m : M2 X a "get" apos b e cpos := by exact ⟨rfl, rfl, rfl, rfl⟩) : DE X en (.Call (.Attribute a "get" apos) [b, e] [] cpos) .c ((valD kvs y).getD d) := fun B Bo Ho H σ f Q q => by
  refine wE_of (pe_dget2 (hu1 hr) pe_w pe_w pe_w m) ?_
  refine ha B Bo Ho H σ f _ fun v H1o H1 g1 r1 => ?_
  obtain ⟨p, kv, rfl, hp, i1, i2⟩ := RpE.dk_inv r1 g1.s
  refine ⟨p, rfl, .inl ⟨kv, .inl hp⟩, ?_⟩
  refine hb B Bo H1o H1 σ (f.gr g1) _ fun u H2o H2 g2 r2 => ?_
  refine he B Bo H2o H2 σ ((f.gr g1).gr g2) _ fun z H3o H3 g3 r3 => ?_
  refine ⟨valV kv y, ?_, ?_⟩
  · rw [r2.key]
    exact .k ((g2.trans g3).h.at _ _ hp)
  · rcases valD_rp (k := y) i1 i2 with ⟨h0, h1⟩ | ⟨w, d', h1, h2, h3⟩
    · rw [h1]
      refine q _ H3o H3 ((g1.trans g2).trans g3) ?_
      rw [h0]
      exact r3
    · rw [h2]
      refine q _ H3o H3 ((g1.trans g2).trans g3) ?_
      rw [h1]
      exact Rp.mono (g2.trans g3).o h3
theorem valD_some {kv : List (Ky × V)} {K : PySem.W.Frag} {H : Hp} (i1 : kv.map (·.1) = kvs.map (·.1)) (i2 : RpA K H (kv.map (·.2)) (kvs.map (·.2))) : (valV kv y).isSome = (valD kvs y).isSome := by
  rcases valD_rp (k := y) i1 i2 with ⟨h0, h1⟩ | ⟨w, d', h1, h2, h3⟩
  · rw [h0, h1]; rfl
  · rw [h1, h2]; rfl
/-- k in d, k not in d -/
theorem de_din (hr : Room n X.A) (hb : DE X en b kb (kD y)) (ha : DE X en a .e (dk kvs)) (hm : behindInMarks .In a = false := by kernel_rfl) : DE X en (.Compare b [.In] [a] pos) .c (.bool (valD kvs y).isSome) := fun B Bo Ho H σ f Q q => by
  refine wE_of (pe_cmp (pc_din (hu1 hr) pe_w pe_w) (h1 := hm)) ?_
  refine hb B Bo Ho H σ f _ fun u H1o H1 g1 r1 => ?_
  refine ha B Bo H1o H1 σ (f.gr g1) _ fun v H2o H2 g2 r2 => ?_
  obtain ⟨p, kv, rfl, hp, i1, i2⟩ := RpE.dk_inv r2 g2.s
  refine ⟨p, valV kv y, rfl, ?_, ?_⟩
  · rw [r1.key]; exact .k hp
  · rw [valD_some i1 i2]; exact q _ H2o H2 (g1.trans g2) (.bl _)
theorem dt_din (hr : Room n X.A) (hb : DE X en b kb (kD y)) (ha : DE X en a .e (dk kvs)) (hm : behindInMarks .In a = false := by kernel_rfl) : DT X en (.Compare b [.In] [a] pos) (valD kvs y).isSome := fun B Bo Ho H σ f Q q => by
  refine wT_of (pt_cmp (pc_din (hu1 hr) pe_w pe_w) (h1 := hm)) ?_
  refine hb B Bo Ho H σ f _ fun u H1o H1 g1 r1 => ?_
  refine ha B Bo H1o H1 σ (f.gr g1) _ fun v H2o H2 g2 r2 => ?_
  obtain ⟨p, kv, rfl, hp, i1, i2⟩ := RpE.dk_inv r2 g2.s
  refine ⟨p, valV kv y, rfl, ?_, _, rfl, ?_⟩
  · rw [r1.key]; exact .k hp
  · rw [valD_some i1 i2]; exact q H2o H2 (g1.trans g2)
theorem dt_dnin (hr : Room n X.A) (hb : DE X en b kb (kD y)) (ha : DE X en a .e (dk kvs)) (hm : behindInMarks .NotIn a = false := by kernel_rfl) : DT X en (.Compare b [.NotIn] [a] pos) (!(valD kvs y).isSome) := fun B Bo Ho H σ f Q q => by
  refine wT_of (pt_cmp (pc_dnotin (hu1 hr) pe_w pe_w) (h1 := hm)) ?_
  refine hb B Bo Ho H σ f _ fun u H1o H1 g1 r1 => ?_
  refine ha B Bo H1o H1 σ (f.gr g1) _ fun v H2o H2 g2 r2 => ?_
  obtain ⟨p, kv, rfl, hp, i1, i2⟩ := RpE.dk_inv r2 g2.s
  refine ⟨p, valV kv y, rfl, ?_, _, rfl, ?_⟩
  · rw [r1.key]; exact .k hp
  · rw [valD_some i1 i2]; exact q H2o H2 (g1.trans g2)
/-- dict(d) -/
theorem de_dictD (hm : X.mg "dict" = none) (ha : DE X en a .e (dk kvs)) (hg : glB X "dict" = true := by kernel_rfl) (he : starEach [a] X.env = (false, eval a X.env) :: starEach [] X.env := by kernel_rfl) : DE X en (.Call (.Name "dict" p) [a] [] pos) .o (dk kvs) := fun B Bo Ho H σ f Q q => by
  refine wE_of (pe_callTy call_dictD (gl_of hg) hm (by decide +kernel) (pa_cons pe_w pa_nil he) (he := he)) ?_
  refine ha B Bo Ho H σ f _ fun v H1o H1 g1 r1 => ?_
  obtain ⟨p, kv, rfl, hp, i1, i2⟩ := RpE.dk_inv r1 g1.s
  exact ⟨p, kv, rfl, .inl hp, fun c hc => q _ _ _ (g1.trans (.tmp g1.s hc)) ⟨c, rfl, g1.h.free hc, g1.s.free hc, kv, upd_same, .of i1 i2⟩⟩
/-- d[k] = e, d one's own -/
theorem ds_dput {P : Po} {x : Str} {pos' npos : Pos} (i : Nat) (hr : Room n X.A) (h : en[i]? = some (some (.o (dk kvs)))) (hb : DE X en b kb (kD y)) (he : DE X en e .c d) (hl : kvs.length < 100000) (q : P.nx (en.set i (some (.o (dk (putD kvs y d)))))) (hN : X.N[i]? = some x := by kernel_rfl)
    (hv : visB X.env.scope x = true := by kernel_rfl) (hd : (x == ("__debug__" : Str)) = false := by kernel_rfl) (hcd : (x == ("__classdict__" : Str)) = false := by kernel_rfl)
    (hs : swapsWith e (some (.Subscript (.Name x npos) b pos')) pos.line X.env = pure false := by kernel_rfl) : DS X en (.Assign [.Subscript (.Name x npos) b pos'] e pos) P := fun B Bo Ho H σ f D t => by
  obtain ⟨p, e1, n1, n2, w⟩ := f.own h
  obtain ⟨kv, q1, r1⟩ := w
  obtain ⟨i1, i2⟩ := RpK.to r1
  refine wS_of (ps_dput (hu1 hr) (pe_var hN (vis_of hv) hd hcd) pe_w pe_w hs) ?_
  refine he B Bo Ho H σ f _ fun v H1o H1 g1 rv => ?_
  refine ⟨_, e1, ?_⟩
  refine hb B Bo H1o H1 σ (f.gr g1) _ fun u H2o H2 g2 r2 => ?_
  have g := g1.trans g2
  have hl2 : kv.length = kvs.length := by have := congrArg List.length i1; rwa [List.length_map, List.length_map] at this
  refine ⟨p, _, rfl, by rw [r2.key]; exact .k (g.h.at _ _ q1) (sz100l (by rw [hl2]; exact hl)), ?_⟩
  obtain ⟨j1, j2⟩ := putD_rp (k := y) i1 (i2.mono g.o) (Rp.mono g2.o rv)
  exact t.nx _ H2o _ _ q ((f.gr g).write h e1 ⟨_, upd_same, .of j1 j2⟩)

/-! ### displays of dicts -/
def DPs (X : Cx) (en : En) (pos : Pos) (keys : List (Option Expr)) (values : List Expr) (kvs : List (Ky × PD)) : Prop := ∃ trs, PPs X pos keys values trs ∧ ∀ (B Bo Ho H : Hp) (σ : L2.St), Fit X.K B Bo Ho H σ en → ∀ Q : List (V × V) → Hp → Prop,
  (∀ (kv : List (Ky × V)) Ho' H', Gr Ho H Ho' H' → kv.map (·.1) = kvs.map (·.1) → RpA X.K Ho' (kv.map (·.2)) (kvs.map (·.2)) → Q (kv.map fun q => (kV q.1, q.2)) H') → tPairs trs σ H Q
theorem dps_nil : DPs X en pos [] [] [] := ⟨[], pps_nil, fun B Bo Ho H σ f Q q => q [] Ho H (.refl f.hoh) rfl .nil⟩
theorem dps_cons {ks : List (Option Expr)} {vs : List Expr} (hk : DE X en a ka (kD y)) (hv : DE X en b .c d) (hr : DPs X en pos ks vs kvs) : DPs X en pos (some a :: ks) (b :: vs) ((y, d) :: kvs) := by
  obtain ⟨trs, h, r⟩ := hr
  refine ⟨(wE X a, wE X b) :: trs, pps_cons pe_w pe_w h, fun B Bo Ho H σ f Q q => ?_⟩
  refine hk B Bo Ho H σ f _ fun v H1o H1 g1 r1 => ?_
  refine hv B Bo H1o H1 σ (f.gr g1) _ fun u H2o H2 g2 r2 => ?_
  refine r B Bo H2o H2 σ ((f.gr g1).gr g2) _ fun kv H3o H3 g3 i1 i2 => ?_
  have := q ((y, u) :: kv) H3o H3 ((g1.trans g2).trans g3) (by rw [List.map_cons, List.map_cons, i1]) (.cons (Rp.mono g3.o r2) i2)
  rw [List.map_cons] at this
  rw [r1.key]
  exact this
theorem mergeK_nd : ∀ (more acc : List (Ky × V)), ((acc ++ more).map (·.1)).Nodup → mergeK acc more = acc ++ more
  | [], acc, _ => by rw [List.append_nil]; rfl
  | (k, v) :: more, acc, h => by
    show mergeK (putK acc k v) more = _
    have hn : (acc.any fun q => decide (q.1 = k)) = false := by
      rw [List.any_eq_false]
      intro q hq z
      have hz : q.1 = k := of_decide_eq_true z
      rw [List.map_append, List.map_cons] at h
      have := (List.nodup_append.mp h).2.2 q.1 (List.mem_map.mpr ⟨q, hq, rfl⟩) k List.mem_cons_self
      exact this hz
    have e : putK acc k v = acc ++ [(k, v)] := by
      unfold putK
      rw [hn, if_neg (by decide)]
    rw [e, mergeK_nd more (acc ++ [(k, v)]) (by rw [List.append_assoc]; exact h), List.append_assoc]
    rfl
theorem de_disp {keys : List (Option Expr)} {values : List Expr} (h : DPs X en pos keys values kvs) (nd : (kvs.map (·.1)).Nodup) (hl : kvs.length ≤ 15) (hall : keys.all (·.isSome) = true := by kernel_rfl) (hll : keys.length = values.length := by kernel_rfl) (h0 : keys ≠ [] := by intro z; cases z) (h15 : keys.length ≤ 15 := by decide) :
    DE X en (.Dict keys values pos) .o (dk kvs) := fun B Bo Ho H σ f Q q => by
  obtain ⟨trs, pp, r⟩ := h
  refine wE_of (pe_disp pp hall hll h0 h15) fun p hp => ?_
  have g0 : Gr Ho H Ho (upd H p (.dK [])) := .tmp f.hoh hp
  refine r B Bo Ho _ σ (f.gr g0) _ fun kv H1o H1 g1 i1 i2 => ?_
  have e1 := g1.h.at _ _ (upd_same (H := H) (a := p) (o := .dK []))
  have k1 : H1o p = none := (g1.fr p (by rw [upd_same]; intro z; cases z)).trans (f.hoh.free hp)
  have hl2 : kv.length = kvs.length := by have := congrArg List.length i1; rwa [List.length_map, List.length_map] at this
  have em : mergeK [] kv = kv := by
    have := mergeK_nd kv [] (by rw [List.nil_append, i1]; exact nd)
    rwa [List.nil_append] at this
  refine ⟨e1, kv, rfl, by omega, ?_⟩
  rw [em]
  exact q _ H1o _ ((g0.trans g1).poke hp k1 e1) ⟨p, rfl, hp, k1, kv, upd_same, .of i1 i2⟩
end
end DL

namespace DL
open PySem PySem.Spec PyProof.Rows L2
variable [Lam]
/-! ### data without dicts, of a bounded depth -/
mutual
theorem eqv_refl : ∀ (d : PD), d.canLay0 = true → PyData.eqv d d = true
  | .none, _ => by simp [PyData.eqv]
  | .bool b, _ => by simp [PyData.eqv]
  | .int b, _ => by simp [PyData.eqv]
  | .str b, _ => by simp [PyData.eqv]
  | .list xs, h => by
    simp only [PyData.eqv]
    exact eqvAll_refl xs (by simpa [PyData.canLay0] using h)
  | .tuple xs, h => by
    simp only [PyData.eqv]
    exact eqvAll_refl xs (by simpa [PyData.canLay0] using h)
  | .dict xs, h => by simp [PyData.canLay0] at h
theorem eqvAll_refl : ∀ (ds : List PD), PyData.canLayAll0 ds = true → PyData.eqvAll ds ds = true
  | [], _ => by simp [PyData.eqvAll]
  | d :: ds, h => by
    simp only [PyData.canLayAll0, Bool.and_eq_true] at h
    simp only [PyData.eqvAll, Bool.and_eq_true]
    exact ⟨eqv_refl d h.1, eqvAll_refl ds h.2⟩
end
/-- plain data of depth at most n -/
def Pl (n : Nat) (d : PD) : Prop := d.canLay0 = true ∧ d.depth ≤ n
theorem Pl.shaped {n : Nat} {d : PD} (h : Pl n d) (hn : n ≤ 64) : SeqAt.shaped d = true := by
  unfold SeqAt.shaped
  rw [h.1, decide_eq_true (Nat.le_trans h.2 hn)]
  rfl
theorem Pl.refl {n : Nat} {d : PD} (h : Pl n d) : PyData.eqv d d = true := eqv_refl d h.1
theorem Pl.up {n m : Nat} {d : PD} (h : Pl n d) (l : n ≤ m) : Pl m d := ⟨h.1, Nat.le_trans h.2 l⟩
theorem pl_all {n : Nat} : ∀ {ds : List PD}, (∀ d ∈ ds, Pl n d) → PyData.canLayAll0 ds = true ∧ PyData.depthAll ds ≤ n
  | [], _ => ⟨by simp [PyData.canLayAll0], by simp [PyData.depthAll]⟩
  | d :: ds, h => by
    obtain ⟨h1, h2⟩ := h d List.mem_cons_self
    obtain ⟨i1, i2⟩ := pl_all fun x hx => h x (List.mem_cons_of_mem _ hx)
    simp only [PyData.canLayAll0, PyData.depthAll, Bool.and_eq_true]
    exact ⟨⟨h1, i1⟩, by omega⟩
theorem pl_list {n : Nat} {ds : List PD} (h : ∀ d ∈ ds, Pl n d) : Pl (n + 1) (.list ds) := by
  obtain ⟨i1, i2⟩ := pl_all h
  exact ⟨by simp only [PyData.canLay0]; exact i1, by simp only [PyData.depth]; omega⟩
theorem pl_tuple {n : Nat} {ds : List PD} (h : ∀ d ∈ ds, Pl n d) : Pl (n + 1) (.tuple ds) := by
  obtain ⟨i1, i2⟩ := pl_all h
  exact ⟨by simp only [PyData.canLay0]; exact i1, by simp only [PyData.depth]; omega⟩
theorem pl_int (n : Nat) (i : Int) : Pl n (.int i) := ⟨by simp only [PyData.canLay0], by simp only [PyData.depth]; omega⟩
theorem pl_str (n : Nat) {i : Str} (h : PyData.strOk i = true) : Pl n (.str i) := ⟨by simp only [PyData.canLay0]; exact h, by simp only [PyData.depth]; omega⟩
theorem pl_none (n : Nat) : Pl n .none := ⟨by simp only [PyData.canLay0], by simp only [PyData.depth]; omega⟩
theorem pl_rowL (row : List Nat) : Pl 1 (rowL row) := pl_list fun d hd => by
  obtain ⟨x, _, rfl⟩ := List.mem_map.mp hd
  exact pl_int 0 _
theorem pl_rowT (row : List Nat) : Pl 1 (rowT row) := pl_tuple fun d hd => by
  obtain ⟨x, _, rfl⟩ := List.mem_map.mp hd
  exact pl_int 0 _
theorem pl_pt (p : Pt) : Pl 1 (ptD p) := pl_tuple fun d hd => by
  rcases List.mem_cons.mp hd with rfl | hd
  · refine pl_str 0 ?_
    cases p with
    | sum a b => exact (by decide +kernel : PyData.strOk "sum" = true)
    | stop a b => exact (by decide +kernel : PyData.strOk "stop" = true)
    | pick a b c => exact (by decide +kernel : PyData.strOk "pick" = true)
    | not a => exact (by decide +kernel : PyData.strOk "not" = true)
  · obtain ⟨x, _, rfl⟩ := List.mem_map.mp hd
    exact pl_int 0 _
end DL

namespace DL
open PySem PySem.Spec PyProof.Rows L2
variable [Lam]
section
variable {X : Cx}
/-! ### type(x) == T -/
def Meta (a : String) : Prop := ∀ s' : Shared, s'.TypeIs (.type a) "type"
def rEqTy : R2 := fun x y H Q => ∃ a b, x = .ty a ∧ y = .ty b ∧ Meta a ∧ Meta b ∧ Q (.bl (decide (a = b))) H
theorem op_eqTy : OpR X (compareOp .Eq) rEqTy := by
  intro pins s σ H x y v u Q I rx ry h
  obtain ⟨a, b, rfl, rfl, ma, mb, q⟩ := h
  cases (show v = Value.type a from rx)
  cases (show u = Value.type b from ry)
  by_cases e : a = b
  · subst e
    exact PySem.TypeEq.eq_type_same ma (fin_bl I q (decide_eq_true rfl))
  · exact PySem.TypeEq.eq_type_other ma mb ((ty_beq a b).trans (decide_eq_false e)) (fin_bl I q (decide_eq_false e))
theorem meta_of {d : PD} {t : String} (h : typN d = some t) : Meta t := by
  cases d <;> simp only [typN, Option.some.injEq] at h
  · subst h; exact PySem.TypeEq.meta_NoneType
  · subst h; exact PySem.TypeEq.meta_bool
  · subst h; exact PySem.TypeEq.meta_int
  · subst h; exact PySem.TypeEq.meta_str
  · subst h; exact PySem.TypeEq.meta_list
  · subst h; exact PySem.TypeEq.meta_tuple
  · cases h
variable {en : En} {a b c e : Expr} {p p2 p3 pos : Pos} {k ka kb kc : Kd} {d da db dc : PD}
theorem Rp.tyb {K : PySem.W.Frag} {H : Hp} {v : V} {t : String} (h : Rp K H v d) (ht : typN d = some t) : TyB K H v t := by
  cases h with
  | non => cases ht; exact .non
  | bl b => cases ht; exact .bl b
  | int i => cases ht; exact .int i
  | str x => cases ht; exact .str x
  | lst h r => cases ht; exact .lst (.inl (.inl h))
  | tup h r => cases ht; exact .tup (.inl (.inl h))
  | dct h r => cases ht
  | scr h => cases ht
  | tux h n r => cases ht
  | adr a => cases ht
  | obj h o r => cases ht
  | fact h => cases ht
/-- type(e) == T -/
theorem de_tyEq {n t : String} {tx : Str} (hm : X.mg "type" = none) (hmT : X.mg tx = none) (ha : DE X en a k d) (ht : typN d = some t) (hn : Meta n) (hv : bootBuiltins tx = some (.type n)) (hg : glB X "type" = true := by kernel_rfl) (hgT : glB X tx = true := by kernel_rfl)
    (hnn : tx ≠ "__name__" := by decide) (hd : (tx == ("__debug__" : Str)) = false := by kernel_rfl) (he : starEach [a] X.env = (false, eval a X.env) :: starEach [] X.env := by kernel_rfl) (hmk : behindInMarks .Eq (.Name tx p2) = false := by kernel_rfl) :
    DE X en (.Compare (.Call (.Name "type" p) [a] [] p3) [.Eq] [.Name tx p2] pos) .c (.bool (decide (t = n))) := fun B Bo Ho H σ f Q q => by
  refine wE_of (pe_cmpR op_eqTy (pe_callTy call_type1 (gl_of hg) hm (by decide +kernel) (pa_cons pe_w pa_nil he) (he := he)) (pe_bltn (v := .ty n) (gl_of hgT) hmT hv rfl hnn hd) hmk) ?_
  refine ha B Bo Ho H σ f _ fun v H1o H1 g1 r1 => ?_
  refine ⟨v, t, rfl, (r1.rpt g1.s).tyb ht, ?_⟩
  exact ⟨t, n, rfl, rfl, meta_of ht, hn, q _ H1o H1 g1 (.bl _)⟩
theorem boot_int' : bootBuiltins "int" = some (.type "int") := boot_int
/-- a <= b <= c over ints -/
theorem de_chainLe {i j m : Int} (ha : DE X en a ka (.int i)) (hb : DE X en b kb (.int j)) (hc : DE X en c kc (.int m)) (hm : lastMarks [.LtE, .LtE] [b, c] = false := by with_unfolding_all rfl) : DE X en (.Compare a [.LtE, .LtE] [b, c] pos) .c (.bool (decide (i ≤ j) && decide (j ≤ m))) := fun B Bo Ho H σ f Q q => by
  refine wE_of (pe_chain op_le op_le pe_w pe_w pe_w hm) ?_
  refine ha B Bo Ho H σ f _ fun v H1o H1 g1 r1 => ?_
  refine hb B Bo H1o H1 σ (f.gr g1) _ fun u H2o H2 g2 r2 => ?_
  refine ⟨i, j, r1.int_inv, r2.int_inv, decide (i ≤ j), rfl, ?_⟩
  by_cases h : i ≤ j
  · rw [if_pos (decide_eq_true h)]
    refine hc B Bo H2o H2 σ ((f.gr g1).gr g2) _ fun w H3o H3 g3 r3 => ?_
    refine ⟨j, m, r2.int_inv, r3.int_inv, q _ H3o H3 ((g1.trans g2).trans g3) ?_⟩
    rw [decide_eq_true h, Bool.true_and]
    exact .bl _
  · rw [if_neg (fun z => h (of_decide_eq_true z))]
    refine q _ H2o H2 (g1.trans g2) ?_
    rw [decide_eq_false h, Bool.false_and]
    exact .bl _
theorem RpA.bools_inv {K : PySem.W.Frag} {H : Hp} : ∀ {vs : List V} {bs : List Bool}, RpA K H vs (bs.map .bool) → vs = bs.map V.bl
  | _, [], .nil => rfl
  | _, b :: bs, .cons h r => by
    cases h
    rw [List.map_cons, RpA.bools_inv r]
/-- all of a list of tests -/
theorem de_all {bs : List Bool} (hm : X.mg "all" = none) (hc : X.calm = true) (ha : DE X en a .e (.list (bs.map .bool))) (hg : glB X "all" = true := by kernel_rfl) (he : starEach [a] X.env = (false, eval a X.env) :: starEach [] X.env := by kernel_rfl) : DE X en (.Call (.Name "all" p) [a] [] pos) .c (.bool (bs.all id)) := fun B Bo Ho H σ f Q q => by
  refine wE_of (pe_callB (cr_all hc) (gl_of hg) hm (by decide +kernel) (pa_cons pe_w pa_nil he) (he := he)) ?_
  refine ha B Bo Ho H σ f _ fun v H1o H1 g1 r1 => ?_
  obtain ⟨p, xs, rfl, q1, r1⟩ := r1
  have e := RpA.bools_inv r1
  subst e
  exact ⟨p, bs, rfl, .inl (.inl q1), q _ H1o H1 g1 (.bl _)⟩
end
end DL

namespace DL
open PySem PySem.Spec PyProof.Rows L2
variable [Lam]
section
variable {X : Cx} {en : En} {a b e : Expr} {p p2 pos tpos : Pos} {elts : List Expr} {kk : Nat} {k : Kd} {d : PD} {ds es : List PD}
/-! ### enumerate, zip -/
def enumD (ds : List PD) : List PD := ds.zipIdx.map fun p => .tuple [.int (p.2 : Nat), p.1]
theorem enumD_get {ds : List PD} {i : Nat} {d : PD} (h : (enumD ds)[i]? = some d) : ∃ x, ds[i]? = some x ∧ d = .tuple [.int (i : Nat), x] := by
  unfold enumD at h
  rw [List.getElem?_map, List.getElem?_zipIdx] at h
  cases q : ds[i]? with
  | none => rw [q] at h; cases h
  | some x =>
    rw [q] at h
    refine ⟨x, rfl, ?_⟩
    have := Option.some.inj h
    rw [← this, Nat.zero_add]
theorem enumD_len (ds : List PD) : (enumD ds).length = ds.length := by unfold enumD; rw [List.length_map, List.length_zipIdx]
theorem di_enum (hm : X.mg "enumerate" = none) (h : DE X en e .c (.list ds)) (hg : glB X "enumerate" = true := by kernel_rfl) (hs : starEach [e] X.env = [(false, eval e X.env)] := by kernel_rfl) (hs' : starEach [e] X.env = (false, eval e X.env) :: starEach [] X.env := by kernel_rfl) :
    DI X en (.Tuple elts kk tpos) (.Call (.Name "enumerate" p) [e] [] pos) (enumD ds) := ⟨_, pi_enum (gl_of hg) hm (pa_cons pe_w pa_nil hs') hs, fun B Bo Ho H σ f R q => by
  refine h B Bo Ho H σ f _ fun v Ho' H' g r => ?_
  obtain ⟨a, xs, rfl, ha, r⟩ := r.lst_inv
  refine ⟨a, xs, rfl, .inl (.inl (g.s.at _ _ ha)), q _ Ho' H' g fun Ho1 H1 s1 s2 i => ⟨fun d hd => ?_, fun hi => ?_⟩⟩
  · obtain ⟨y, hy, rfl⟩ := enumD_get hd
    obtain ⟨v, hv, rv⟩ := r.get hy
    have hq : SqL X.K H1 a xs := .inl (.inl (s2.at _ _ (s1.at _ _ ha)))
    refine ⟨⟨xs, v, hq, hv⟩, fun x H2 y => ?_⟩
    obtain ⟨T, z, rfl, hT, rfl, hz⟩ := y
    have := (hz xs hq).symm.trans hv
    cases this
    exact ⟨_, .new s2 hT, .tup upd_same (.cons (.int _) (.one (Rp.mono (s1.trans (same_new (s2.free hT))) rv)))⟩
  · exact ⟨xs, .inl (.inl (s2.at _ _ (s1.at _ _ ha))), by rw [r.len]; rw [enumD_len] at hi; exact hi⟩⟩
def zipD (ds es : List PD) : List PD := (ds.zip es).map fun p => .tuple [p.1, p.2]
theorem zipD_get {i : Nat} {d : PD} (h : (zipD ds es)[i]? = some d) : ∃ x y, ds[i]? = some x ∧ es[i]? = some y ∧ d = .tuple [x, y] := by
  unfold zipD at h
  rw [List.getElem?_map] at h
  cases q : (ds.zip es)[i]? with
  | none => rw [q] at h; cases h
  | some z =>
    rw [q] at h
    obtain ⟨h1, h2⟩ := List.getElem?_zip_eq_some.mp q
    exact ⟨z.1, z.2, h1, h2, (Option.some.inj h).symm⟩
theorem zipD_len : (zipD ds es).length = min ds.length es.length := by unfold zipD; rw [List.length_map, List.length_zip]
theorem di_zipL (hm : X.mg "zip" = none) (h1 : DE X en a .c (.list ds)) (h2 : DE X en b .c (.list es)) (hg : glB X "zip" = true := by kernel_rfl) (hs : starEach [a, b] X.env = (false, eval a X.env) :: starEach [b] X.env := by kernel_rfl) (hs' : starEach [b] X.env = (false, eval b X.env) :: starEach [] X.env := by kernel_rfl)
    (hpl : (backTo pos (starEach [b] X.env)).any (·.1) = false := by kernel_rfl) : DI X en (.Tuple elts kk tpos) (.Call (.Name "zip" p) [a, b] [] pos) (zipD ds es) := ⟨_, RZ.pi_zipA (gl_of hg) hm (pa_cons pe_w (pa_cons pe_w pa_nil hs') hs) hs hpl, fun B Bo Ho H σ f R q => by
  refine h1 B Bo Ho H σ f _ fun v Ho1 H1 g1 r1 => ?_
  refine h2 B Bo Ho1 H1 σ (f.gr g1) _ fun u Ho2 H2 g2 r2 => ?_
  obtain ⟨a, xs, rfl, ha, r1⟩ := (Rp.mono g2.o r1).lst_inv
  obtain ⟨b, ys, rfl, hb, r2⟩ := r2.lst_inv
  refine ⟨a, b, xs, ys, rfl, .inl ⟨.inl (.inl (g2.s.at _ _ ha)), .inl (.inl (g2.s.at _ _ hb)), q _ Ho2 H2 (g1.trans g2) fun Ho3 H3 s1 s2 i => ⟨fun d hd => ?_, fun hi => ?_⟩⟩⟩
  · obtain ⟨x, y, hx, hy, rfl⟩ := zipD_get hd
    obtain ⟨v, hv, rv⟩ := r1.get hx
    obtain ⟨u, hu, ru⟩ := r2.get hy
    have q1 : SqL X.K H3 a xs := .inl (.inl (s2.at _ _ (s1.at _ _ ha)))
    have q2 : SqL X.K H3 b ys := .inl (.inl (s2.at _ _ (s1.at _ _ hb)))
    refine ⟨⟨xs, ys, v, u, q1, q2, hv, hu⟩, fun x H2 y => ?_⟩
    obtain ⟨T, z1, z2, rfl, hT, rfl, y1, y2⟩ := y
    have := (y1 xs q1).symm.trans hv
    cases this
    have := (y2 ys q2).symm.trans hu
    cases this
    have m := fun o => s1.trans (same_new (o := o) (s2.free hT))
    exact ⟨_, .new s2 hT, .tup upd_same (.cons (Rp.mono (m _) rv) (.one (Rp.mono (m _) ru)))⟩
  · refine ⟨xs, ys, .inl (.inl (s2.at _ _ (s1.at _ _ ha))), .inl (.inl (s2.at _ _ (s1.at _ _ hb))), ?_⟩
    rw [zipD_len] at hi
    rw [r1.len, r2.len]
    omega⟩
theorem di_zipT (hm : X.mg "zip" = none) (h1 : DE X en a .c (.tuple ds)) (h2 : DE X en b .c (.tuple es)) (hg : glB X "zip" = true := by kernel_rfl) (hs : starEach [a, b] X.env = (false, eval a X.env) :: starEach [b] X.env := by kernel_rfl) (hs' : starEach [b] X.env = (false, eval b X.env) :: starEach [] X.env := by kernel_rfl)
    (hpl : (backTo pos (starEach [b] X.env)).any (·.1) = false := by kernel_rfl) : DI X en (.Tuple elts kk tpos) (.Call (.Name "zip" p) [a, b] [] pos) (zipD ds es) := ⟨_, RZ.pi_zipA (gl_of hg) hm (pa_cons pe_w (pa_cons pe_w pa_nil hs') hs) hs hpl, fun B Bo Ho H σ f R q => by
  refine h1 B Bo Ho H σ f _ fun v Ho1 H1 g1 r1 => ?_
  refine h2 B Bo Ho1 H1 σ (f.gr g1) _ fun u Ho2 H2 g2 r2 => ?_
  obtain ⟨a, xs, rfl, ha, r1⟩ := (Rp.mono g2.o r1).tup_inv
  obtain ⟨b, ys, rfl, hb, r2⟩ := r2.tup_inv
  refine ⟨a, b, xs, ys, rfl, .inr ⟨.inl (.inl (g2.s.at _ _ ha)), .inl (.inl (g2.s.at _ _ hb)), q _ Ho2 H2 (g1.trans g2) fun Ho3 H3 s1 s2 i => ⟨fun d hd => ?_, fun hi => ?_⟩⟩⟩
  · obtain ⟨x, y, hx, hy, rfl⟩ := zipD_get hd
    obtain ⟨v, hv, rv⟩ := r1.get hx
    obtain ⟨u, hu, ru⟩ := r2.get hy
    have q1 : SqT X.K H3 a xs := .inl (.inl (s2.at _ _ (s1.at _ _ ha)))
    have q2 : SqT X.K H3 b ys := .inl (.inl (s2.at _ _ (s1.at _ _ hb)))
    refine ⟨⟨xs, ys, v, u, q1, q2, hv, hu⟩, fun x H2 y => ?_⟩
    obtain ⟨T, z1, z2, rfl, hT, rfl, y1, y2⟩ := y
    have := (y1 xs q1).symm.trans hv
    cases this
    have := (y2 ys q2).symm.trans hu
    cases this
    have m := fun o => s1.trans (same_new (o := o) (s2.free hT))
    exact ⟨_, .new s2 hT, .tup upd_same (.cons (Rp.mono (m _) rv) (.one (Rp.mono (m _) ru)))⟩
  · refine ⟨xs, ys, .inl (.inl (s2.at _ _ (s1.at _ _ ha))), .inl (.inl (s2.at _ _ (s1.at _ _ hb))), ?_⟩
    rw [zipD_len] at hi
    rw [r1.len, r2.len]
    omega⟩
end
end DL

namespace DL
open PySem PySem.Spec PyProof.Rows L2
variable [Lam]
/-! ### works -/
structure Wk where
  ring : Nat
  inputs : Nat
  parts : List Pt
def wkD (W : Wk) : PD := .tuple [nD W.ring, nD W.inputs, .list (W.parts.map ptD)]
structure Wk.Ok (W : Wk) : Prop where
  r2 : 2 ≤ W.ring
  r5 : W.ring ≤ 5
  i1 : 1 ≤ W.inputs
  i6 : W.inputs ≤ 6
  p1 : 1 ≤ W.parts.length
  p10 : W.parts.length ≤ 10
  lines : ∀ (k : Nat) (p : Pt), W.parts[k]? = some p → ∀ l ∈ p.lines, l < W.inputs + k
/-- digits of that many lines -/
def Row (ring n : Nat) (row : List Nat) : Prop := row.length = n ∧ ∀ x ∈ row, x < ring
theorem Row.app {ring n x : Nat} {row : List Nat} (h : Row ring n row) (hx : x < ring) : Row ring (n + 1) (row ++ [x]) :=
  ⟨by rw [List.length_append, h.1]; rfl, fun y hy => by
    rcases List.mem_append.mp hy with h1 | h1
    · exact h.2 y h1
    · rw [List.mem_singleton.mp h1]; exact hx⟩
/-! ### a thing that is a whole number between -/
def wholeIn (t : PD) (lo hi : Int) : Bool := match t with
  | .int n => decide (lo ≤ n) && decide (n ≤ hi)
  | _ => false
/-! ### the law's parts and works -/
def ptOf (w a b c : Nat) : Pt := match w with
  | 0 => .sum a b
  | 1 => .stop a b
  | 2 => .pick a b c
  | _ => .not a
def takeN (cell lines k : Nat) : Nat :=
  if cell / 4 / [1, 7, 49].getD k 1 % 2 = 0 then lines - 1 - cell / 4 / [1, 7, 49].getD k 1 / 2 % min lines 3 else cell / 4 / [1, 7, 49].getD k 1 / 2 % lines
def mkPt (cell lines : Nat) : Pt := ptOf (cell % 4) (takeN cell lines 0) (takeN cell lines 1) (takeN cell lines 2)
theorem takeN_lt {cell lines k : Nat} (h : 1 ≤ lines) : takeN cell lines k < lines := by
  unfold takeN
  split
  · omega
  · exact Nat.mod_lt _ (by omega)
theorem mkPt_lines {cell lines : Nat} (h : 1 ≤ lines) : ∀ l ∈ (mkPt cell lines).lines, l < lines := fun l hl => by
  unfold mkPt ptOf at hl
  split at hl <;> simp [Pt.lines] at hl
  · rcases hl with rfl | rfl <;> exact takeN_lt h
  · rcases hl with rfl | rfl <;> exact takeN_lt h
  · rcases hl with rfl | rfl | rfl <;> exact takeN_lt h
  · rw [hl]; exact takeN_lt h
def ringOf (f : Nat) : Nat := [2, 2, 3, 2, 3, 4, 5, 2].getD (f % 8) 2
def inputsOf (f : Nat) : Nat := if f / 24 % 8 = 1 then 1 + f / 192 % 6 else 1 + f / 8 % 3
def manyOf (ns : List Int) (most : Nat) : Nat := if 3 < ringOf (mix ns 0) ∧ most < 8 then min (1 + mix ns 1 % most) 4 else 1 + mix ns 1 % most
def workOf (ns : List Int) (most : Nat) : Wk := ⟨ringOf (mix ns 0), inputsOf (mix ns 0), (List.range (manyOf ns most)).map fun k => mkPt (mix ns (2 + k)) (inputsOf (mix ns 0) + k)⟩
theorem ringOf_b (f : Nat) : 2 ≤ ringOf f ∧ ringOf f ≤ 5 := by
  unfold ringOf
  have h : f % 8 < 8 := Nat.mod_lt _ (by decide)
  match e : f % 8, h with
  | 0, _ => decide
  | 1, _ => decide
  | 2, _ => decide
  | 3, _ => decide
  | 4, _ => decide
  | 5, _ => decide
  | 6, _ => decide
  | 7, _ => decide
theorem inputsOf_b (f : Nat) : 1 ≤ inputsOf f ∧ inputsOf f ≤ 6 := by
  unfold inputsOf
  split <;> omega
theorem manyOf_b (ns : List Int) {most : Nat} (h : 1 ≤ most) : 1 ≤ manyOf ns most ∧ manyOf ns most ≤ most := by
  have h1 : mix ns 1 % most < most := Nat.mod_lt _ (by omega)
  unfold manyOf
  split <;> omega
theorem workOf_len (ns : List Int) (most : Nat) : (workOf ns most).parts.length = manyOf ns most := by
  unfold workOf
  rw [List.length_map, List.length_range]
theorem workOf_ok (ns : List Int) {most : Nat} (h : 1 ≤ most) (h10 : most ≤ 10) : (workOf ns most).Ok := by
  have hm := manyOf_b ns h
  have hi := inputsOf_b (mix ns 0)
  refine ⟨(ringOf_b _).1, (ringOf_b _).2, hi.1, hi.2, by rw [workOf_len]; exact hm.1, by rw [workOf_len]; omega, fun k p e l hl => ?_⟩
  unfold workOf at e
  rw [List.getElem?_map] at e
  have hk : k < manyOf ns most := by
    cases q : (List.range (manyOf ns most))[k]? with
    | none => rw [q] at e; cases e
    | some z => have := (List.getElem?_eq_some_iff.mp q).1; rwa [List.length_range] at this
  rw [List.getElem?_range hk] at e
  cases e
  exact mkPt_lines (lines := inputsOf (mix ns 0) + k) (by omega) l hl
/-! ### a work run -/
def getN (told : List (Nat × Nat)) (k : Nat) : Option Nat := (told.find? fun p => decide (p.1 = k)).map (·.2)
def toldD (told : List (Nat × Nat)) : PD := dk (told.map fun p => (.inl (p.1 : Int), nD p.2))
def wrunN (W : Wk) (told : List (Nat × Nat)) (g : List Nat) : Nat → List Nat
  | 0 => g
  | n + 1 => wrunN W told g n ++ [(getN told n).getD (give W.ring (W.parts.getD n (.not 0)) (wrunN W told g n))]
theorem wrunN_succ (W : Wk) (told : List (Nat × Nat)) (g : List Nat) (n : Nat) : wrunN W told g (n + 1) = wrunN W told g n ++ [(getN told n).getD (give W.ring (W.parts.getD n (.not 0)) (wrunN W told g n))] := rfl
def wrunW (W : Wk) (told : List (Nat × Nat)) (g : List Nat) : List Nat := wrunN W told g W.parts.length
def ToldOk (ring : Nat) (told : List (Nat × Nat)) : Prop := ∀ p ∈ told, p.2 < ring
theorem getN_lt {ring k v : Nat} {told : List (Nat × Nat)} (h : ToldOk ring told) (e : getN told k = some v) : v < ring := by
  unfold getN at e
  cases q : told.find? (fun p => decide (p.1 = k)) with
  | none => rw [q] at e; cases e
  | some p =>
    rw [q] at e
    cases e
    exact h p (List.mem_of_find?_eq_some q)
theorem wrunN_row {W : Wk} {told : List (Nat × Nat)} {g : List Nat} (hW : W.Ok) (ht : ToldOk W.ring told) (hg : Row W.ring W.inputs g) : ∀ n, Row W.ring (W.inputs + n) (wrunN W told g n)
  | 0 => hg
  | n + 1 => by
    have ih := wrunN_row hW ht hg n
    refine ih.app ?_
    cases e : getN told n with
    | some v => exact getN_lt ht e
    | none => exact give_lt hW.r2 ih.2
theorem valD_told {told : List (Nat × Nat)} {k : Nat} : valD (told.map fun p => ((.inl (p.1 : Int) : Ky), nD p.2)) (.inl (k : Int)) = (getN told k).map nD := by
  unfold valD getN
  rw [List.find?_map]
  have e : ((fun kv : Ky × PD => decide (kv.1 = .inl (k : Int))) ∘ fun p : Nat × Nat => ((.inl (p.1 : Int) : Ky), nD p.2)) = fun p => decide (p.1 = k) := by
    funext p
    show decide ((.inl (p.1 : Int) : Ky) = .inl (k : Int)) = decide (p.1 = k)
    congr 1
    apply propext
    constructor
    · intro z
      have := Sum.inl.inj z
      omega
    · intro z; rw [z]
  rw [e]
  cases told.find? (fun p => decide (p.1 = k)) <;> rfl
end DL
namespace DL
open PySem PySem.Spec PyProof.Rows L2
variable [Lam]
/-! ### told digits, one put after another -/
def putN (told : List (Nat × Nat)) (k v : Nat) : List (Nat × Nat) := if (told.any fun p => decide (p.1 = k)) = true then told.map (fun p => if p.1 = k then (p.1, v) else p) else told ++ [(k, v)]
def tK (p : Nat × Nat) : Ky × PD := (.inl (p.1 : Int), nD p.2)
theorem key_eq {a k : Nat} : decide ((.inl (a : Int) : Ky) = .inl (k : Int)) = decide (a = k) := by
  congr 1
  apply propext
  constructor
  · intro z
    have := Sum.inl.inj z
    omega
  · intro z; rw [z]
theorem putN_D (told : List (Nat × Nat)) (k v : Nat) : putD (told.map tK) (.inl (k : Int)) (nD v) = (putN told k v).map tK := by
  have e : (fun kv : Ky × PD => decide (kv.1 = .inl (k : Int))) ∘ tK = fun p => decide (p.1 = k) := by
    funext p
    exact key_eq
  unfold putD putN
  rw [List.any_map, e]
  by_cases h : (told.any fun p => decide (p.1 = k)) = true
  · rw [if_pos h, if_pos h, List.map_map, List.map_map]
    congr 1
    funext p
    show (if (.inl (p.1 : Int) : Ky) = .inl (k : Int) then ((.inl (p.1 : Int) : Ky), nD v) else tK p) = tK (if p.1 = k then (p.1, v) else p)
    by_cases hk : p.1 = k
    · rw [if_pos (by rw [hk]), if_pos hk]; rfl
    · rw [if_neg (fun z => hk (by have := Sum.inl.inj z; omega)), if_neg hk]
  · rw [if_neg h, if_neg h, List.map_append]; rfl
theorem putN_len (told : List (Nat × Nat)) (k v : Nat) : (putN told k v).length ≤ told.length + 1 := by
  unfold putN
  split
  · rw [List.length_map]; omega
  · rw [List.length_append]; simp
theorem putN_ok {ring k v : Nat} {told : List (Nat × Nat)} (h : ToldOk ring told) (hv : v < ring) : ToldOk ring (putN told k v) := fun p hp => by
  unfold putN at hp
  split at hp
  · obtain ⟨q, hq, e⟩ := List.mem_map.mp hp
    split at e
    · rw [← e]; exact hv
    · rw [← e]; exact h q hq
  · rcases List.mem_append.mp hp with h1 | h1
    · exact h p h1
    · rw [List.mem_singleton.mp h1]; exact hv
theorem putN_nd {k v : Nat} {told : List (Nat × Nat)} (h : (told.map (·.1)).Nodup) : ((putN told k v).map (·.1)).Nodup := by
  unfold putN
  split
  · rw [List.map_map]
    have e : ((fun p : Nat × Nat => p.1) ∘ fun p => if p.1 = k then (p.1, v) else p) = fun p => p.1 := by
      funext p
      show (if p.1 = k then (p.1, v) else p).1 = p.1
      split <;> rfl
    rw [e]
    exact h
  · rename_i hn
    rw [List.map_append]
    refine List.nodup_append.mpr ⟨h, by simp, fun a ha b hb e => ?_⟩
    have hb' : b = k := by simpa using hb
    obtain ⟨p, hp, ep⟩ := List.mem_map.mp ha
    exact hn (List.any_eq_true.mpr ⟨p, hp, decide_eq_true (by rw [ep, e, hb'])⟩)
/-! ### what a row says further on -/
theorem wrunN_get {W : Wk} {told : List (Nat × Nat)} {g : List Nat} (hW : W.Ok) (ht : ToldOk W.ring told) (hg : Row W.ring W.inputs g) {j : Nat} : ∀ (n l : Nat), j ≤ n → l < W.inputs + j → (wrunN W told g n).getD l 0 = (wrunN W told g j).getD l 0
  | 0, l, hj, hl => by
    have : j = 0 := by omega
    rw [this]
  | n + 1, l, hj, hl => by
    by_cases e : j = n + 1
    · rw [e]
    · rw [wrunN_succ, List.getD_eq_getElem?_getD, List.getElem?_append_left (by rw [(wrunN_row hW ht hg n).1]; omega), ← List.getD_eq_getElem?_getD]
      exact wrunN_get hW ht hg n l (by omega) hl
theorem give_eq {ring : Nat} {p : Pt} {r s : List Nat} (h : ∀ l ∈ p.lines, r.getD l 0 = s.getD l 0) : give ring p r = give ring p s := by
  cases p with
  | sum a b => simp only [give, h a (by simp [Pt.lines]), h b (by simp [Pt.lines])]
  | stop a b => simp only [give, h a (by simp [Pt.lines]), h b (by simp [Pt.lines])]
  | pick a b c => simp only [give, h a (by simp [Pt.lines]), h b (by simp [Pt.lines]), h c (by simp [Pt.lines])]
  | not a => simp only [give, h a (by simp [Pt.lines])]
theorem wrunW_at {W : Wk} {told : List (Nat × Nat)} {g : List Nat} (hW : W.Ok) (ht : ToldOk W.ring told) (hg : Row W.ring W.inputs g) {j : Nat} (hj : j < W.parts.length) :
    (wrunW W told g).getD (W.inputs + j) 0 = (getN told j).getD (give W.ring (W.parts.getD j (.not 0)) (wrunW W told g)) := by
  have e1 : (wrunW W told g).getD (W.inputs + j) 0 = (wrunN W told g (j + 1)).getD (W.inputs + j) 0 := wrunN_get hW ht hg _ _ (by omega) (by omega)
  have hp : W.parts[j]? = some (W.parts.getD j (.not 0)) := by rw [List.getD_eq_getElem?_getD, List.getElem?_eq_getElem hj]; rfl
  have e2 : give W.ring (W.parts.getD j (.not 0)) (wrunW W told g) = give W.ring (W.parts.getD j (.not 0)) (wrunN W told g j) := give_eq fun l hl => wrunN_get hW ht hg _ l (by omega) (hW.lines j _ hp l hl)
  rw [e1, e2, wrunN_succ, List.getD_eq_getElem?_getD, List.getElem?_append_right (by rw [(wrunN_row hW ht hg j).1]; omega), (wrunN_row hW ht hg j).1, Nat.sub_self]
  rfl
theorem wrunW_in {W : Wk} {told : List (Nat × Nat)} {g : List Nat} (hW : W.Ok) (ht : ToldOk W.ring told) (hg : Row W.ring W.inputs g) {l : Nat} (hl : l < W.inputs) : (wrunW W told g).getD l 0 = g.getD l 0 :=
  wrunN_get (j := 0) hW ht hg _ l (Nat.zero_le _) (by omega)
theorem wrunW_row {W : Wk} {told : List (Nat × Nat)} {g : List Nat} (hW : W.Ok) (ht : ToldOk W.ring told) (hg : Row W.ring W.inputs g) : Row W.ring (W.inputs + W.parts.length) (wrunW W told g) := wrunN_row hW ht hg _
/-! ### more rules -/
section
variable {X : Cx} {en : En} {a b e : Expr} {p pos : Pos} {k ka kb : Kd} {d da db : PD} {ds es : List PD} {n : Nat}
/-- a tuple and a written one -/
theorem de_catT (ha : DE X en a .c (.tuple ds)) (hb : DE X en b .c (.tuple es)) (h1 : ds ≠ []) (h2 : es ≠ []) (hl : ds.length + es.length ≤ 100000) : DE X en (.BinOp a .Add b pos) .c (.tuple (ds ++ es)) :=
  de_op op_catT ha hb fun H0 H0' Ho H v u s r1 r2 Q q => by
    obtain ⟨p, xs, rfl, q1, r1⟩ := Rp.tup_inv r1
    obtain ⟨p', ys, rfl, q2, r2⟩ := Rp.tup_inv r2
    have hx : xs ≠ [] := fun z => h1 (by have := r1.len; rw [z] at this; exact List.eq_nil_of_length_eq_zero this.symm)
    have hy : ys ≠ [] := fun z => h2 (by have := r2.len; rw [z] at this; exact List.eq_nil_of_length_eq_zero this.symm)
    exact ⟨p, p', xs, ys, rfl, rfl, .inl (.inl (s.at _ _ q1)), .inl (.inl (s.at _ _ q2)), hx, sz100 (by rw [r1.len, r2.len]; exact hl), fun z => absurd z hy, fun _ c hc => q _ _ _ (.new s hc) (.tup upd_same ((r1.app r2).mono (same_new (s.free hc))))⟩
/-- two dicts of digits that are alike -/
theorem tK_inv {K : PySem.W.Frag} {H : Hp} : ∀ {kv : List (Ky × V)} {told : List (Nat × Nat)}, kv.map (·.1) = (told.map tK).map (·.1) → RpA K H (kv.map (·.2)) ((told.map tK).map (·.2)) → kv = told.map fun p => (.inl (p.1 : Int), V.int p.2)
  | [], [], _, _ => rfl
  | [], p :: kvs, e, _ => by cases e
  | q :: kv, [], e, _ => by cases e
  | (k, v) :: kv, t :: told, e, r => by
    simp only [List.map_cons] at e r ⊢
    have e1 : k = (tK t).1 := (List.cons.inj e).1
    cases r with
    | cons h r =>
      rw [tK_inv (List.cons.inj e).2 r, e1, Rp.int_inv h]
      rfl
theorem valV_nd {β : Type} : ∀ {l : List (Nat × Nat)} {p : Nat × Nat}, (l.map (·.1)).Nodup → p ∈ l → valV (l.map fun p => ((.inl (p.1 : Int) : Ky), V.int p.2)) (.inl (p.1 : Int)) = some (V.int p.2)
  | [], p, _, h => by cases h
  | q :: l, p, nd, h => by
    rw [List.map_cons] at nd ⊢
    obtain ⟨n1, n2⟩ := List.nodup_cons.mp nd
    rcases List.mem_cons.mp h with rfl | h
    · exact valV_pos rfl
    · rw [valV_neg]
      · exact valV_nd (β := β) n2 h
      · intro z
        have e1 : q.1 = p.1 := by have := Sum.inl.inj z; omega
        exact n1 (by rw [e1]; exact List.mem_map.mpr ⟨p, h, rfl⟩)
theorem dt_neTold {told : List (Nat × Nat)} (hr : Room n X.A) (nd : (told.map (·.1)).Nodup) (ha : DE X en a .e (toldD told)) (hb : DE X en b .e (toldD told)) (hm : behindInMarks .NotEq b = false := by kernel_rfl) : DT X en (.Compare a [.NotEq] [b] pos) false := fun B Bo Ho H σ f Q q => by
  refine wT_of (pt_cmpR (op_ne_dictA (by have := hr.un; omega)) pe_w pe_w hm) ?_
  refine ha B Bo Ho H σ f _ fun v H1o H1 g1 r1 => ?_
  refine hb B Bo H1o H1 σ (f.gr g1) _ fun u H2o H2 g2 r2 => ?_
  obtain ⟨p, kv, rfl, hp, i1, i2⟩ := RpE.dk_inv r1 g1.s
  obtain ⟨p', kv', rfl, hp', j1, j2⟩ := RpE.dk_inv r2 g2.s
  have e1 := tK_inv i1 i2
  have e2 := tK_inv j1 j2
  refine ⟨p, p', kv, kv', rfl, rfl, g2.h.at _ _ hp, hp', by rw [e1, e2], fun x hx => ?_, false, rfl, q H2o H2 (g1.trans g2)⟩
  rw [e1] at hx
  rw [e2]
  obtain ⟨t, ht, rfl⟩ := List.mem_map.mp hx
  exact ⟨valV_nd (β := Unit) nd ht, rfl⟩
end
end DL

namespace DL
open PySem PySem.Spec PyProof.Rows L2
variable [Lam]
section
variable {M : Model} {prog : Program} {w : World} {A : Around} {E : Value → Shared → Prop} {s : Shared} {Q : Value → Shared → Prop}
theorem slot_ty_ne : Slot "type" (cmpInfo .NotEq).2.1 "object.__ne__" := by
  refine .of (owner := "object") (n := "__ne__") (by rw [typeLookup_type, builtinLookup_eq_fast]; kernel_rfl) (by decide +kernel) (by decide +kernel) (by decide +kernel) ?_ (by rw [isSubtype_type]; kernel_rfl)
  first | exact .inl (by decide +kernel) | exact .inr (by decide +kernel)
theorem slot_ty_ne2 : Slot "type" (cmpInfo .NotEq).2.2 "object.__ne__" := by
  refine .of (owner := "object") (n := "__ne__") (by rw [typeLookup_type, builtinLookup_eq_fast]; kernel_rfl) (by decide +kernel) (by decide +kernel) (by decide +kernel) ?_ (by rw [isSubtype_type]; kernel_rfl)
  first | exact .inl (by decide +kernel) | exact .inr (by decide +kernel)
/-- object.__ne__ of two types, by what object.__eq__ says -/
theorem call_ty_ne {a b : String} {r : Value} (ma : Meta a) (hu : A.units + 1 < cLine) (he : ∀ (A : Around) (E : Value → Shared → Prop) (Q : Value → Shared → Prop), Q r s → wpAny (model prog w) A (call (.builtin "object.__eq__") [.type a, .type b]) Q E s)
    (h : Q (match r with | .bool x => .bool (!x) | _ => .notImplemented) s) (hr : r = .notImplemented ∨ ∃ x, r = .bool x) : wpAny (model prog w) A (call (.builtin "object.__ne__") [.type a, .type b]) Q E s := by
  refine wpAny_call_entry slot_ty_ne (ma s) PySem.F.entry_object_ne ?_ (PySem.F.args_object_ne_2 _ _)
  unfold Builtin.«object.__ne__»
  refine wpAny_bind (wpAny_pure ?_)
  refine wpAny_bind (wpAny_cRoomFor (by show A.units + 1 < cLine; exact hu) ?_)
  refine wpAny_bind (wpAny_callSpecialIfBound?_slot (name := Str.ofString "__eq__") (ma s) PySem.TypeEq.slot_type_eq (he _ _ _ ?_))
  rcases hr with rfl | ⟨x, rfl⟩
  · exact wpAny_pure ⟨_, rfl, h⟩
  · exact wpAny_bind (wpAny_truthy_bool (wpAny_pure ⟨_, rfl, h⟩))
end
section
variable {prog : Program} {w : World} {A : Around} {E : Value → Shared → Prop} {s : Shared} {Q : Value → Shared → Prop}
theorem rc_ty_ne {a b : String} (ma : Meta a) (mb : Meta b) (hu : A.units + 1 < cLine) (h : Q (.bool (!decide (a = b))) s) : wpAny (model prog w) A (compareOp .NotEq (.type a) (.type b)) Q E s := by
  show wpAny _ A (richCompare .NotEq _ _) Q E s
  by_cases e : a = b
  · subst e
    refine wpAny_richCompare_same (T := "type") (ma s) (ma s) slot_ty_ne (call_ty_ne ma hu (r := .bool true) (fun A' E' Q' q => ?_) ⟨(fun z => nomatch z), ?_⟩ (.inr ⟨_, rfl⟩))
    · exact call_gives PySem.TypeEq.slot_type_eq (ma s) PySem.F.entry_object_eq (PySem.F.args_object_eq_2 _ _) (PySem.TypeEq.object_eq_same rfl (by simp)) q
    · rw [decide_eq_true rfl] at h; exact h
  · have k1 : (Value.type a == Value.type b) = false := (ty_beq a b).trans (decide_eq_false e)
    have k2 : (Value.type b == Value.type a) = false := (ty_beq b a).trans (decide_eq_false fun z => e z.symm)
    have dec : ∀ (c d : String), Meta c → (Value.type c == Value.type d) = false → ∀ (A' : Around) (E' : Value → Shared → Prop) (Q' : Value → Shared → Prop), A'.units + 1 < cLine → Q' .notImplemented s → wpAny (model prog w) A' (call (.builtin "object.__ne__") [.type c, .type d]) Q' E' s :=
      fun c d mc k A' E' Q' hu' q => call_ty_ne mc hu' (r := .notImplemented) (fun A2 E2 Q2 q2 => call_gives PySem.TypeEq.slot_type_eq (mc s) PySem.F.entry_object_eq (PySem.F.args_object_eq_2 _ _) (PySem.TypeEq.object_eq_other rfl k) q2) q (.inl rfl)
    rcases hi : cmpInfo CmpOp.NotEq with ⟨y1, y2, y3⟩
    have s1 := slot_ty_ne
    have s2 := slot_ty_ne2
    rw [hi] at s1 s2
    simp only [richCompare, hi, (ma s).oneThing_none]
    try with_reducible refine wpAny_holding ?_
    refine wpAny_bind (wpAny_cRoomFor (Nat.lt_of_succ_lt hu) ?_)
    refine wpAny_bind (wpAny_typeOf (ma s) ?_)
    refine wpAny_bind (wpAny_typeOf (mb s) ?_)
    simp only [bne_self_eq_false, Bool.false_eq_true, if_false, pure_bind, Bool.not_false, if_true]
    refine wpAny_bind (m := tryCompare (.type a) _ (.type b)) ?_
    refine wpAny_tryCompare_declines (ma s) s1 ?_
    refine dec a b ma k1 _ _ _ hu ⟨rfl, ?_⟩
    refine wpAny_bind (m := tryCompare (.type b) _ (.type a)) ?_
    refine wpAny_tryCompare_declines (mb s) s2 ?_
    refine dec b a mb k2 _ _ _ hu ⟨rfl, ?_⟩
    refine wpAny_bind (wpAny_rule (wpAny_bind (wpAny_of_eq (a := false) ?_ (wpAny_pure ?_))))
    · rw [isSame_plain rfl, k1]
    · rw [decide_eq_false e] at h
      exact h
end
section
variable {X : Cx} {en : En} {a b c e : Expr} {p p2 p3 pos : Pos} {k ka kb kc : Kd} {d da db dc : PD}
def rNeTy : R2 := fun x y H Q => ∃ a b, x = .ty a ∧ y = .ty b ∧ Meta a ∧ Meta b ∧ Q (.bl (!decide (a = b))) H
theorem op_neTy (hu : X.A.units + 1 < cLine) : OpR X (compareOp .NotEq) rNeTy := by
  intro pins s σ H x y v u Q I rx ry h
  obtain ⟨a, b, rfl, rfl, ma, mb, q⟩ := h
  cases (show v = Value.type a from rx)
  cases (show u = Value.type b from ry)
  exact rc_ty_ne ma mb hu (fin_bl I q rfl)
/-- type(e) != T -/
theorem dt_tyNe {m : Nat} {n t : String} {tx : Str} (hr : Room m X.A) (hm : X.mg "type" = none) (hmT : X.mg tx = none) (ha : DE X en a k d) (ht : typN d = some t) (hn : Meta n) (hv : bootBuiltins tx = some (.type n)) (hg : glB X "type" = true := by kernel_rfl) (hgT : glB X tx = true := by kernel_rfl)
    (hnn : tx ≠ "__name__" := by decide) (hd : (tx == ("__debug__" : Str)) = false := by kernel_rfl) (he : starEach [a] X.env = (false, eval a X.env) :: starEach [] X.env := by kernel_rfl) (hmk : behindInMarks .NotEq (.Name tx p2) = false := by kernel_rfl) :
    DT X en (.Compare (.Call (.Name "type" p) [a] [] p3) [.NotEq] [.Name tx p2] pos) (!decide (t = n)) := fun B Bo Ho H σ f Q q => by
  refine wT_of (pt_cmpR (op_neTy (hu1 hr)) (pe_callTy call_type1 (gl_of hg) hm (by decide +kernel) (pa_cons pe_w pa_nil he) (he := he)) (pe_bltn (v := .ty n) (gl_of hgT) hmT hv rfl hnn hd) hmk) ?_
  refine ha B Bo Ho H σ f _ fun v H1o H1 g1 r1 => ?_
  refine ⟨v, t, rfl, (r1.rpt g1.s).tyb ht, ?_⟩
  exact ⟨t, n, rfl, rfl, meta_of ht, hn, _, rfl, q H1o H1 g1⟩
end
end DL

namespace DL
open PySem PySem.Spec PyProof.Rows L2
variable [Lam]
section
variable {X : Cx} {o e f : Expr} {td ty tx te : TE} {p pos apos cpos : Pos}
theorem kt_vals {H : Hp} : ∀ {kvs : List (List Key × V)} {xs : List (List Key × Addr × Value)}, KT H kvs xs → Vals (kvs.map (·.2)) (xs.map fun x => x.2.2)
  | _, _, .nil => .nil
  | _, _, .cons a t => .cons a.2.2 (kt_vals t)
/-- list(d.values()), d a dict whose keys are tuples -/
def tListVals (te : TE) : TE := fun σ H Q => te σ H fun x H1 => ∃ d kvs, x = .ref d ∧ H1 d = some (.dT kvs) ∧ ∀ q, H1 q = none → Q (.ref q) (upd H1 q (.lst (kvs.map (·.2))))
theorem pe_listVals (hc : X.calm = true) (he : PE X e te) (hg : Gl X "list") (hm : X.mg "list" = none) (hb : attributeBase e "values" X.env (eval e X.env) = eval e X.env) (hl : (apos.endLine == cpos.line) = true)
    (hs : starEach [.Call (.Attribute e "values" apos) [] [] cpos] X.env = (false, eval (.Call (.Attribute e "values" apos) [] [] cpos) X.env) :: starEach [] X.env) : PE X (.Call (.Name "list" p) [.Call (.Attribute e "values" apos) [] [] cpos] [] pos) (tListVals te) := by
  refine ⟨fun pins s σ H Q I h => ?_⟩
  refine wpAny_Call_Name_kw (ld_blt I hg hm boot_list ?_)
  refine PyProof.Rows.callWith_type1 ?_ hs rfl
  rw [hs]
  refine Calls.spliced_cons ?_
  have go := he.run pins s σ H _ I h
  refine wpAny_Call_method (T := "dict") (id := "dict.values") hb rfl hl PySem.F.plainAttrs_dict PySem.F.slot_dict_values PySem.F.type_dict_values ?_
  refine thn go fun u s1 ⟨x, H1, I1, rx, d, kvs, ex, hd, q⟩ => ?_
  subst ex
  obtain rfl : u = Value.ref d := rx
  obtain ⟨hz, hs0, xs, rel, hdo⟩ := dt_of I1.hok hd
  obtain ⟨ob, es, ep, ho, hx, hdat, hes, _, _⟩ := hdo
  have raw : s1.heap.DictRaw d es ep := ⟨ob, ho, hx, hdat⟩
  obtain ⟨t1, t2, _⟩ := isD_at I1 (.inr ⟨kvs, .inl hd⟩)
  refine ⟨t1, t2, ?_⟩
  refine method_meetsIn PySem.F.slot_dict_values PySem.F.entry_dict_values rfl ?_
  refine PySem.evalArgs_none ⟨rfl, raw.typeIs, PySem.F.args_dict_values_1 _, _, PySem.meets_dict_values_raw d hs0, ⟨es, ep, raw⟩, ?_⟩
  refine Calls.spliced_nil ?_
  have I2 : Inv X pins σ H1 { s1 with heap := s1.heap.push { cls := .type "dict_values", data := .fields #[.ref d] } } := by
    refine I1.kept (t' := s1.toks) fun c oc z => ?_
    exact Heap.get?_push_of_some _ z
  have hsz : es.size = kvs.length := by
    have h1 := congrArg List.length hes
    rw [Array.length_toList, List.length_map] at h1
    have h2 := Paired.length rel
    omega
  refine PySem.W.kdl_call (PySem.KdlSrc.rawValues (r := s1.heap.objs.size) (d := d) (es := es) (ep := ep)) (I1.ok.hd hc) ⟨⟨_, Heap.get?_push_size _ rfl, rfl, rfl⟩, raw.push _⟩ (by omega) fun h' tk acc c hk hS hacc => ?_
  have hn : H1 (s1.heap.push { cls := .type "dict_values", data := .fields #[.ref d] }).objs.size = none := I2.hok.fresh (Nat.le_refl _)
  have hv : acc.toList = xs.map fun x => x.2.2 := by
    apply List.ext_getElem?
    intro j
    rw [Array.getElem?_toList, List.getElem?_map]
    have hx2 : (xs[j]?).map (fun x => x.2.2) = (es.toList[j]?).map (fun e => e.val) := by
      rw [hes, List.getElem?_map, Option.map_map]
      rfl
    rw [hx2, Array.getElem?_toList]
    by_cases hj : j < acc.size
    · obtain ⟨hj2, ev⟩ := hacc.2 j _ (Array.getElem?_eq_getElem hj)
      rw [Array.getElem?_eq_getElem hj, Array.getElem?_eq_getElem hj2, ev]
      rfl
    · have := hacc.1
      rw [Array.getElem?_eq_none (by omega), Array.getElem?_eq_none (by omega)]
      rfl
  have rv : Vals (kvs.map (·.2)) acc.toList := by
    rw [hv]
    exact kt_vals rel
  refine ⟨.ref _, _, I2.laid (t' := tk) hk (Nat.le_refl _) ?_, rfl, q _ hn⟩
  refine ⟨by rw [List.length_map]; exact hz, acc.toList, c, rv, ?_⟩
  rw [Array.toArray_toList]
  exact hS
/-- d.setdefault(k, v), the keys tuples -/
def tDSetdT (td ty tx : TE) : TE := fun σ H Q => td σ H fun x H1 => ∃ a, x = .ref a ∧ IsD H1 a ∧ ty σ H1 fun y H2 => tx σ H2 fun z H3 => ∃ (kvs : List (List Key × V)) (k : List Key) (b : Addr), H3 a = some (.dT kvs) ∧ y = .ref b ∧ H3 b = some (.tup (k.map kV)) ∧ kvs.length < sizeLine ∧
  (∀ v, valV kvs k = some v → Q v H3) ∧ (valV kvs k = none → Q z (upd H3 a (.dT (putK kvs k z))))
theorem pe_dsetdT (hu : X.A.units + 1 < cLine) (ho : PE X o td) (he : PE X e ty) (hf : PE X f tx) (m : M2 X o "setdefault" apos e f cpos) : PE X (.Call (.Attribute o "setdefault" apos) [e, f] [] cpos) (tDSetdT td ty tx) := by
  refine ⟨fun pins s σ H Q I h => ?_⟩
  have go := ho.run pins s σ H _ I h
  refine wpAny_Call_method m.base m.few m.line PySem.F.plainAttrs_dict PySem.F.slot_dict_setdefault PySem.F.type_dict_setdefault ?_
  refine thn go fun u s1 ⟨x, H1, I1, rx, a, ex, d, q1⟩ => ?_
  subst ex
  obtain rfl : u = Value.ref a := rx
  obtain ⟨t1, t2, _⟩ := isD_at I1 d
  refine ⟨t1, t2, ?_⟩
  rw [m.trees]
  refine Calls.callWith_builtin rfl (Calls.evalArgs_plain (Calls.spliced_cons ?_))
  refine thn (he.run pins s1 σ H1 _ I1 q1) fun iv s2 ⟨y, H2, I2, ry, q2⟩ => Calls.spliced_cons ?_
  refine thn (hf.run pins s2 σ H2 _ I2 q2) fun fv s3 ⟨z, H3, I3, rz, kvs, k, b, ea, ey, eb, hl, q3, q4⟩ => Calls.spliced_nil ?_
  subst ey
  obtain rfl : iv = Value.ref b := ry
  obtain ⟨hz0, hd, xs, rel, dd⟩ := dt_of I3.hok ea
  have hz : xs.length ≤ sizeLine := by rw [← Paired.length rel]; exact hz0
  have hval := rel.val k
  refine call_setdefault_heap (hsz := hz) (tupleKind_room_in1 hu) (key_of I3.hok eb) hd dd (fun v hv => ?_) fun hn h' dd' hs => ?_
  · rw [hv] at hval
    cases q0 : valV kvs k with
    | none => rw [q0] at hval; exact (show False from hval).elim
    | some v0 =>
      rw [q0] at hval
      exact ⟨v0, H3, I3.tok _, hval, q3 v0 q0⟩
  · rw [hn] at hval
    cases q0 : valV kvs k with
    | some v0 => rw [q0] at hval; exact (show False from hval).elim
    | none =>
      have hl2 : (putK kvs k z).length ≤ sizeLine := by have := length_putK kvs k z; omega
      obtain ⟨q, es, ep, hq, h2, h3, h4, _, h5⟩ := dd'
      refine ⟨z, upd H3 a (.dT (putK kvs k z)), d_write I3 (by rw [ea]; exact True.intro) hs ⟨q, hq⟩ ⟨hl2, hd, _, (rel.put k eb rz).keeps fun c ys ec => ?_, q, es, ep, hq, h2, h3, h4, h5⟩, rz, q4 q0⟩
      rw [upd_ne (ne_of ec ea (fun z => nomatch z))]
      exact ec
end
end DL

namespace DL
open PySem PySem.Spec PyProof.Rows L2
variable [Lam]
/-! ### the first of each key -/
def thinStep {α κ : Type} [DecidableEq κ] (key : α → κ) (acc : List α) (x : α) : List α := if acc.any (fun y => decide (key y = key x)) then acc else acc ++ [x]
def thinA {α κ : Type} [DecidableEq κ] (key : α → κ) (rows : List α) : List α := rows.foldl (thinStep key) []
theorem thinA_snoc {α κ : Type} [DecidableEq κ] (key : α → κ) (rows : List α) (x : α) : thinA key (rows ++ [x]) = thinStep key (thinA key rows) x := by
  unfold thinA
  rw [List.foldl_append]
  rfl
theorem thinA_len {α κ : Type} [DecidableEq κ] (key : α → κ) : ∀ (rows : List α), (thinA key rows).length ≤ rows.length := fun rows => by
  suffices h : ∀ (rows acc : List α), (rows.foldl (thinStep key) acc).length ≤ acc.length + rows.length by
    have := h rows []
    unfold thinA
    simpa using this
  intro rows
  induction rows with
  | nil => intro acc; simp
  | cons x r ih =>
    intro acc
    have h1 := ih (thinStep key acc x)
    have h2 : (thinStep key acc x).length ≤ acc.length + 1 := by
      unfold thinStep
      split
      · omega
      · rw [List.length_append]; simp
    rw [List.foldl_cons, List.length_cons]
    omega
theorem Fit.poke {K : PySem.W.Frag} {B Bo Ho H : Hp} {σ : L2.St} {en : En} {p : Addr} {o : HO} {kvs : List (List L2.Key × V)} (f : Fit K B Bo Ho H σ en) (hb : B p = none) (ho : Ho p = none) (hp : H p = some (.dT kvs)) : Fit K B Bo Ho (upd H p o) σ en := by
  refine ⟨f.bo, same_poke f.bh hb, f.boh, same_poke f.hoh ho, f.fr, tb_poke hp trivial f.tb, f.len, fun i s e => ?_, f.dj⟩
  · have h := f.sl i s e
    cases s with
    | v d => exact h
    | w l d =>
      obtain ⟨q, e1, n1, n2, w, al⟩ := h
      refine ⟨q, e1, n1, n2, ?_, al⟩
      have nq : q ≠ p := fun z => by
        subst z
        cases d with
        | list ds => obtain ⟨vs, q, r⟩ := w; rw [hp] at q; cases q
        | tuple ds => obtain ⟨vs, q, r⟩ := w; rw [hp] at q; cases q
        | dict ds => obtain ⟨vs, q, r⟩ := w; rw [hp] at q; cases q
        | _ => exact w.elim
      cases d with
      | list ds => obtain ⟨vs, q, r⟩ := w; exact ⟨vs, (upd_ne nq).trans q, r⟩
      | tuple ds => obtain ⟨vs, q, r⟩ := w; exact ⟨vs, (upd_ne nq).trans q, r⟩
      | dict ds => obtain ⟨vs, q, r⟩ := w; exact ⟨vs, (upd_ne nq).trans q, r⟩
      | _ => exact w.elim
theorem keys_ints {K : PySem.W.Frag} {H : Hp} : ∀ {xs : List V} {ks : List L2.Key}, RpA K H xs (ks.map kD) → xs = ks.map kV
  | _, [], .nil => rfl
  | _, k :: ks, .cons h r => by
    rw [List.map_cons, keys_ints r]
    cases k with
    | inl i => rw [Rp.int_inv h]; rfl
    | inr x => rw [Rp.str_inv h]; rfl
theorem any_key {α κ : Type} [DecidableEq κ] (key : α → κ) (acc : List α) (kvs : List (κ × V)) (k : κ) (e : kvs.map (·.1) = acc.map key) : (valV kvs k).isSome = acc.any (fun y => decide (key y = k)) := by
  rw [← valV_any]
  have h1 : (kvs.any fun kv => decide (kv.1 = k)) = (kvs.map (·.1)).any (fun x => decide (x = k)) := by rw [List.any_map]; rfl
  have h2 : acc.any (fun y => decide (key y = k)) = (acc.map key).any (fun x => decide (x = k)) := by rw [List.any_map]; rfl
  rw [h1, h2, e]
section
variable {X : Cx} {en : En} {P : Po} {xf xr : Str} {keyE iter : Expr} {apos cpos apos2 cpos2 p1 p2 p3 p4 p5 p6 p7 p8 p9 p10 p11 pr : Pos} {α : Type} {n : Nat}
/-- first = {}; for row in rows: first.setdefault(key, row); return list(first.values()) -/
theorem dss_thin (i j : Nat) (rows : List α) (c : α → PD) (key : α → List L2.Key) (hr : Room n X.A) (hij : i ≠ j) (hi0 : i < en.length) (hi : DI X en (.Name xr pr) iter (rows.map c)) (hj : en[j]? = some none) (hei : en[i]? = some none)
    (hk : ∀ x ∈ rows, DE X (en.set j (some (.v (c x)))) keyE .c (.tuple ((key x).map kD))) (hl : rows.length < 100000) (hrk : P.rk = .o) (q : P.rt (.list ((thinA key rows).map c))) (hm : X.mg "list" = none) (hN : X.N.Nodup) (hre : ∀ d en, P.re d en := by intro _ _; exact trivial)
    (hNi : X.N[i]? = some xf := by kernel_rfl) (hNj : X.N[j]? = some xr := by kernel_rfl) (vi : visB X.env.scope xf = true := by kernel_rfl) (vj : visB X.env.scope xr = true := by kernel_rfl) (li : locB X.env.scope xf = true := by kernel_rfl) (lj : locB X.env.scope xr = true := by kernel_rfl)
    (fi : fnB X xf = true := by kernel_rfl) (fj : fnB X xr = true := by kernel_rfl) (di : (xf == ("__debug__" : Str)) = false := by kernel_rfl) (dci : (xf == ("__classdict__" : Str)) = false := by kernel_rfl) (dj : (xr == ("__debug__" : Str)) = false := by kernel_rfl) (dcj : (xr == ("__classdict__" : Str)) = false := by kernel_rfl)
    (hg : glB X "list" = true := by kernel_rfl) (hs1 : swapsWith (.Dict [] [] p2) (some (.Name xf p1)) p3.line X.env = pure false := by kernel_rfl) (m2 : M2 X (.Name xf p4) "setdefault" apos keyE (.Name xr p5) cpos := by exact ⟨rfl, rfl, rfl, rfl⟩)
    (hs2 : swapsWith (.Call (.Attribute (.Name xf p4) "setdefault" apos) [keyE, .Name xr p5] [] cpos) none p6.line X.env = pure false := by kernel_rfl) (hb : attributeBase (.Name xf p9) "values" X.env (eval (.Name xf p9) X.env) = eval (.Name xf p9) X.env := by rfl) (hline : (apos2.endLine == cpos2.line) = true := by kernel_rfl)
    (hst : starEach [.Call (.Attribute (.Name xf p9) "values" apos2) [] [] cpos2] X.env = (false, eval (.Call (.Attribute (.Name xf p9) "values" apos2) [] [] cpos2) X.env) :: starEach [] X.env := by rfl)
    (hp : PassesOwn (model X.prog X.w) X.A X.env X.xe := by exact PassesOwn.never) (hc : X.calm = true := by rfl) (hfs : ∀ x, foldedSetIterable iter X.env x = pure x := by intro _; rfl) :
    DSs X en [.Assign [.Name xf p1] (.Dict [] [] p2) p3, .For (.Name xr pr) iter [.Expr (.Call (.Attribute (.Name xf p4) "setdefault" apos) [keyE, .Name xr p5] [] cpos) p6] [] p7, .Return (some (.Call (.Name "list" p8) [.Call (.Attribute (.Name xf p9) "values" apos2) [] [] cpos2] [] p10)) p11] P := fun B Bo Ho H σ f D t => by
  obtain ⟨wi, pi, hi⟩ := hi
  refine wSs_of (pss_cons (ps_set hN hNi (loc_of li) pe_dnewT hs1 (fn_ofB fi)) (pss_cons (ps_for hp hc pi (pg_name hN hNj (loc_of lj) (fn_ofB fj)) (pss_one (ps_expr (pe_dsetdT (hu1 hr) (pe_var hNi (vis_of vi) di dci) pe_w (pe_var hNj (vis_of vj) dj dcj) m2) hs2)) hfs) (pss_one (ps_ret (pe_listVals hc (pe_var hNi (vis_of vi) di dci) (gl_of hg) hm hb hline hst))))) ?_
  intro p np
  have hB : B p = none := f.bh.free np
  have hHo : Ho p = none := f.hoh.free np
  have f1 : Fit X.K B Bo Ho (upd H p (.dT [])) (σ.set i (some (.ref p))) en := by
    have g := f.gr (Gr.tmp (o := .dT []) f.hoh np)
    have g2 := g.drop (i := i) (x := some (.ref p))
    have e : en.set i none = en := by
      apply List.ext_getElem?
      intro k
      by_cases hk : i = k
      · subst hk
        rw [List.getElem?_set_self hi0, hei]
      · rw [List.getElem?_set_ne hk]
    rwa [e] at g2
  have si : (σ.set i (some (V.ref p)))[i]? = some (some (.ref p)) := List.getElem?_set_self (by rw [f.len]; exact hi0)
  show tFor wi (gName j) _ _ (σ.set i (some (.ref p))) (upd H p (.dT []))
  refine hi B Bo Ho _ _ f1 _ fun J Ho1 H1 g it => ?_
  have f2 := f1.gr g
  have e1 : H1 p = some (.dT []) := g.h.at _ _ upd_same
  have o1 : Ho1 p = none := (g.fr p (by rw [upd_same]; intro z; cases z)).trans hHo
  have fb := f2.rebase
  have hb1 : both B Ho1 p = none := by
    unfold both
    rw [hB]
    exact o1
  refine ⟨fun k m σ2 H2 => ∃ H2o kvs, m = rows.length - k ∧ k ≤ rows.length ∧ Fit X.K (both B Ho1) Ho1 H2o H2 σ2 en ∧ σ2[i]? = some (some (.ref p)) ∧ H2 p = some (.dT kvs) ∧ H2o p = none ∧ kvs.map (·.1) = (thinA key (rows.take k)).map key ∧ RpA X.K H2o (kvs.map (·.2)) ((thinA key (rows.take k)).map c),
    ⟨rows.length, Ho1, [], by simp, Nat.zero_le _, fb, si, e1, o1, rfl, .nil⟩, ?_⟩
  rintro k m σ2 H2 ⟨H2o, kvs, rfl, hle, f3, s3, e3, o3, k3, r3⟩
  obtain ⟨go, stop⟩ := it H2o H2 f3.boh f3.hoh k
  by_cases hlt : k < rows.length
  · have hx := List.getElem?_eq_getElem hlt
    obtain ⟨go, yl⟩ := go (c rows[k]) (by rw [List.getElem?_map, hx]; rfl)
    have htk : rows.take (k + 1) = rows.take k ++ [rows[k]] := by rw [List.take_add_one, hx]; rfl
    refine .inr ⟨go, fun σ' H' => ∃ H2o kvs, k + 1 ≤ rows.length ∧ Fit X.K (both B Ho1) Ho1 H2o H' σ' en ∧ σ'[i]? = some (some (.ref p)) ∧ H' p = some (.dT kvs) ∧ H2o p = none ∧ kvs.map (·.1) = (thinA key (rows.take (k + 1))).map key ∧ RpA X.K H2o (kvs.map (·.2)) ((thinA key (rows.take (k + 1))).map c),
      fun σ' H' ⟨a1, a2, a3, a4⟩ => ⟨_, by omega, a1, a2, rfl, a3, a4⟩, fun x H3 y => ?_⟩
    obtain ⟨H3o, g3, rx⟩ := yl x H3 y
    have f4 := (f3.gr g3).setV (i := j) rx
    have sj : (σ2.set j (some x))[i]? = some (some (.ref p)) := by rw [List.getElem?_set_ne hij.symm]; exact s3
    have hjl : j < σ2.length := by
      rw [f3.len]
      exact (List.getElem?_eq_some_iff.mp hj).1
    have e4 := g3.h.at _ _ e3
    refine ⟨_, sj, p, rfl, .inr ⟨kvs, .inl e4⟩, ?_⟩
    refine hk rows[k] (List.getElem_mem hlt) _ _ _ _ _ f4 _ fun v H4o H4 g4 r4 => ?_
    have e5 := g4.h.at _ _ e4
    have o4 : H3o p = none := (g3.fr p (by rw [e3]; intro z; cases z)).trans o3
    have o5 : H4o p = none := (g4.fr p (by rw [e4]; intro z; cases z)).trans o4
    obtain ⟨b, ys, rfl, hb4, r4⟩ := Rp.tup_inv r4
    rw [keys_ints r4] at hb4
    have hlen : kvs.length = (thinA key (rows.take k)).length := by have := congrArg List.length k3; rwa [List.length_map, List.length_map] at this
    have hlen2 := thinA_len key (rows.take k)
    rw [List.length_take] at hlen2
    have f5 := f4.gr g4
    have f6 : Fit X.K (both B Ho1) Ho1 H4o H4 (σ2.set j (some x)) en := by
      have g2 := f5.drop (i := j) (x := some x)
      have e : (en.set j (some (Sl.v (c rows[k])))).set j none = en := by
        rw [List.set_set]
        apply List.ext_getElem?
        intro z
        by_cases hz : j = z
        · subst hz
          rw [List.getElem?_set_self (List.getElem?_eq_some_iff.mp hj).1, hj]
        · rw [List.getElem?_set_ne hz]
      rw [e, List.set_set] at g2
      exact g2
    have hrp : RpA X.K H4o (kvs.map (·.2)) ((thinA key (rows.take k)).map c) := r3.mono (g3.trans g4).o
    refine ⟨x, List.getElem?_set_self hjl, kvs, key rows[k], b, e5, rfl, f5.hoh.at _ _ hb4, sz100l (by omega), fun w hw => ?_, fun hn => ?_⟩
    · refine ⟨H4o, kvs, hlt, f6, sj, e5, o5, ?_, ?_⟩
      all_goals
        have ha : (thinA key (rows.take k)).any (fun y => decide (key y = key rows[k])) = true := by rw [← any_key key _ kvs _ k3, hw]; rfl
        rw [htk, thinA_snoc]
        unfold thinStep
        rw [if_pos ha]
        first | exact k3 | exact hrp
    · have ha : (thinA key (rows.take k)).any (fun y => decide (key y = key rows[k])) = false := by rw [← any_key key _ kvs _ k3, hn]; rfl
      have hany : (kvs.any fun kv => decide (kv.1 = key rows[k])) = false := by rw [valV_any, hn]; rfl
      have ep : putK kvs (key rows[k]) x = kvs ++ [(key rows[k], x)] := by
        unfold putK
        rw [hany, if_neg Bool.false_ne_true]
      rw [ep]
      refine ⟨H4o, _, hlt, f6.poke hb1 o5 e5, sj, upd_same, o5, ?_, ?_⟩
      all_goals
        rw [htk, thinA_snoc]
        unfold thinStep
        rw [ha, if_neg Bool.false_ne_true, List.map_append, List.map_append]
      · rw [k3]; rfl
      · exact hrp.app (.one (Rp.mono g4.o rx))
  · have e : k = rows.length := by omega
    subst e
    rw [List.take_length] at k3 r3
    refine .inl ⟨stop (by rw [List.length_map]; exact Nat.le_refl _), ?_⟩
    refine ⟨_, s3, p, kvs, rfl, e3, fun z hz => ?_⟩
    have f7 := f2.unbase f3
    have gg := Gr.tmp (o := .lst (kvs.map (·.2))) f3.hoh hz
    have f8 := f7.gr gg
    refine t.rt _ _ _ H2o _ _ q (hre _ _) f8 ?_
    rw [hrk]
    exact ⟨z, rfl, f7.bh.free hz, f3.hoh.free hz, _, upd_same, r3⟩
end
end DL

namespace DL
open PySem PySem.Spec PyProof.Rows L2
variable [Lam]
/-! ### [e for x in xs for y in ys(x)] -/
structure wI (X : Cx) (tg iter : Expr) (σ : L2.St) (H : Hp) (R : It → Hp → Prop) : Prop where
  run : ∀ (pins : List (Addr × Obj)) (s : Shared), Inv X pins σ H s → wpAny (model X.prog X.w) X.A (eval iter X.env) (fun v s1 => wpAny (model X.prog X.w) X.A (pyIter v) (PIE X pins σ tg R) X.xe s1) X.xe s
theorem wI_of {X : Cx} {tg iter : Expr} {wi : TI} {σ : L2.St} {H : Hp} {R : It → Hp → Prop} (h : PI X tg iter wi) (q : wi σ H R) : wI X tg iter σ H R := ⟨fun pins s I => h.run pins s σ H R I q⟩
/-! ### a new list that grows beside the slots -/
section
variable {K : PySem.W.Frag} {B Bo Ho H Ho' H' : Hp} {σ : L2.St} {en : En} {D : Addr} {o o' : HO}
theorem Fit.at_new (f : Fit K B Bo Ho H σ en) (hD : H D = none) (g : Gr Ho H Ho' H') (h2 : Ho' D = none) (e : H' D = some o) : Fit K (upd B D o) Bo Ho' H' σ en := by
  have f2 := f.gr g
  have hB := f.bh.free hD
  refine ⟨f.bo.trans (same_new hB), ⟨fun a u ea => ?_⟩, f2.boh, f2.hoh, fun a ha => ?_, f2.tb, f2.len, fun i s ei => ?_, f2.dj⟩
  · by_cases h : a = D
    · subst h; rw [upd_same] at ea; cases ea; exact ⟨_, e, .refl _⟩
    · rw [upd_ne h] at ea; exact f2.bh.ex _ _ ea
  · by_cases h : a = D
    · subst h
      rw [h2]
      exact (f.bo.free hB).symm
    · rw [upd_ne h] at ha; exact f2.fr a ha
  · have q := f2.sl i s ei
    have q0 := f.sl i s ei
    cases s with
    | v d => exact q
    | w l d =>
      obtain ⟨p, a1, a2, a3, w, al⟩ := q
      obtain ⟨p', b1, _, _, w', _⟩ := q0
      rw [a1] at b1
      cases b1
      obtain ⟨u, eu⟩ := w'.ex
      exact ⟨p, a1, a2, (upd_ne (ne_of_none eu hD)).trans a3, w, al⟩
theorem Fit.swapD (f : Fit K (upd B D o) Bo Ho H σ en) (hB : B D = none) (h2 : Ho' D = none) (g : ∀ b u, b ≠ D → H b = some u → H' b = some u) (gs : Same Ho Ho') (s : Same Ho' H') (fr : ∀ a, H a ≠ none → Ho' a = Ho a) (tb : TbK H') (e : H' D = some o') : Fit K (upd B D o') Bo Ho' H' σ en := by
  have hBo : Bo D = none := by
    have h1 := f.fr D (by rw [upd_same]; intro z; cases z)
    rw [← h1]
    exact gs.free h2
  refine ⟨⟨fun a u ea => ?_⟩, ⟨fun a u ea => ?_⟩, f.boh.trans gs, s, fun a ha => ?_, tb, f.len, fun i t ei => ?_, f.dj⟩
  · obtain ⟨u', h, l⟩ := f.bo.ex a u ea
    have hn : a ≠ D := fun z => by subst z; rw [hBo] at ea; cases ea
    rw [upd_ne hn] at h ⊢; exact ⟨u', h, l⟩
  · by_cases h : a = D
    · subst h; rw [upd_same] at ea; cases ea; exact ⟨_, e, .refl _⟩
    · rw [upd_ne h] at ea
      obtain ⟨u', h1, l⟩ := f.bh.ex a u ((upd_ne h).trans ea)
      exact ⟨u', g a u' h h1, l⟩
  · by_cases h : a = D
    · subst h; rw [h2, hBo]
    · have ha2 : upd B D o a ≠ none := by rw [upd_ne h] at ha ⊢; exact ha
      rw [fr a (ne_none f.bh ha2)]
      exact f.fr a ha2
  · have q := f.sl i t ei
    cases t with
    | v d => obtain ⟨v, a1, r⟩ := q; exact ⟨v, a1, r.mono gs⟩
    | w l d =>
      obtain ⟨p, a1, a2, a3, w, al⟩ := q
      have hp : p ≠ D := fun z => by subst z; rw [upd_same] at a3; cases a3
      obtain ⟨u, eu⟩ := w.ex
      have hn : Ho' p = none := (fr p (by rw [eu]; intro z; cases z)).trans a2
      refine ⟨p, a1, hn, by rw [upd_ne hp] at a3 ⊢; exact a3, ?_, al⟩
      cases d with
      | list ds => obtain ⟨vs, q1, q2⟩ := w; exact ⟨vs, g _ _ hp q1, q2.mono gs⟩
      | tuple ds => obtain ⟨vs, q1, q2⟩ := w; exact ⟨vs, g _ _ hp q1, q2.mono gs⟩
      | dict ds => obtain ⟨vs, q1, q2⟩ := w; exact ⟨vs, g _ _ hp q1, q2.mono gs⟩
      | _ => exact w.elim
end
/-- a double comprehension's reading -/
def DLc2 (X : Cx) (en : En) (elt tg iter tg1 iter1 : Expr) (scope : Scope) (own : List (Str × Nat)) (vs1 : List Nat) (rs : List PD) : Prop := ∃ wi g tt wi1 g1 tt1 te, PI X tg iter wi ∧
  (∀ (s : Shared) (H : Hp) (C : Addr) (cl : List (Str × Addr)) (fp : List Addr), PG (X.blk s H scope (compEnvC scope cl C X.env) fp) tg g) ∧
  (∀ (s : Shared) (H : Hp) (C : Addr) (cl : List (Str × Addr)) (fp : List Addr), PTs (X.blk s H scope (compEnvC scope cl C X.env) fp) [] tt) ∧
  (∀ (s : Shared) (H : Hp) (C : Addr) (cl : List (Str × Addr)) (fp : List Addr), PI (X.blk s H scope (compEnvC scope cl C X.env) fp) tg1 iter1 wi1) ∧
  (∀ (s : Shared) (H : Hp) (C : Addr) (cl : List (Str × Addr)) (fp : List Addr), PG (X.blk s H scope (compEnvC scope cl C X.env) fp) tg1 g1) ∧
  (∀ (s : Shared) (H : Hp) (C : Addr) (cl : List (Str × Addr)) (fp : List Addr), PTs (X.blk s H scope (compEnvC scope cl C X.env) fp) [] tt1) ∧
  (∀ (s : Shared) (H : Hp) (C : Addr) (cl : List (Str × Addr)) (fp : List Addr), PE (X.blk s H scope (compEnvC scope cl C X.env) fp) elt te) ∧
  ∀ (B Bo Ho H : Hp) (σ : L2.St), Fit X.K B Bo Ho H σ en → ∀ Q : VK, (∀ v Ho' H', Gr Ho H Ho' H' → Rs X.K .o H Ho' H' v (.list rs) → Q v H') → tLc2 wi g tt wi1 g1 tt1 te (own.map (·.2)) vs1 σ H Q
theorem dlc2 {X : Cx} {en : En} {elt tg iter tg1 iter1 : Expr} {scope : Scope} {own : List (Str × Nat)} {vs1 : List Nat} {α β : Type} (xs : List α) (c : α → PD) (ys : α → List β) (c1 : β → PD) (f : α → β → PD) (hi : DI X en tg iter (xs.map c))
    (hb : ∀ x ∈ xs, ∃ is en', (∀ i ∈ is, i ∈ own.map (·.2)) ∧ ∀ (s : Shared) (H : Hp) (C : Addr) (cl : List (Str × Addr)) (fp : List Addr),
      DG (X.blk s H scope (compEnvC scope cl C X.env) fp) (wipeE en (own.map (·.2))) tg (c x) is en' ∧ DI (X.blk s H scope (compEnvC scope cl C X.env) fp) en' tg1 iter1 ((ys x).map c1) ∧
      ∀ y ∈ ys x, ∃ js en2, (∀ i ∈ js, i ∈ vs1) ∧ ∀ (s : Shared) (H : Hp) (C : Addr) (cl : List (Str × Addr)) (fp : List Addr),
        DG (X.blk s H scope (compEnvC scope cl C X.env) fp) (wipeE en' vs1) tg1 (c1 y) js en2 ∧ DE (X.blk s H scope (compEnvC scope cl C X.env) fp) en2 elt .c (f x y))
    (hl : (xs.flatMap fun x => (ys x).map (f x)).length ≤ 100000) : DLc2 X en elt tg iter tg1 iter1 scope own vs1 (xs.flatMap fun x => (ys x).map (f x)) := by
  obtain ⟨wi, pi, hi⟩ := hi
  refine ⟨wi, fun v σ H Q => ∀ (s : Shared) (H0 : Hp) (C : Addr) (cl : List (Str × Addr)) (fp : List Addr), wG (X.blk s H0 scope (compEnvC scope cl C X.env) fp) tg v σ H Q, tYes,
    fun σ H R => ∀ (s : Shared) (H0 : Hp) (C : Addr) (cl : List (Str × Addr)) (fp : List Addr), wI (X.blk s H0 scope (compEnvC scope cl C X.env) fp) tg1 iter1 σ H R,
    fun v σ H Q => ∀ (s : Shared) (H0 : Hp) (C : Addr) (cl : List (Str × Addr)) (fp : List Addr), wG (X.blk s H0 scope (compEnvC scope cl C X.env) fp) tg1 v σ H Q, tYes,
    fun σ H Q => ∀ (s : Shared) (H0 : Hp) (C : Addr) (cl : List (Str × Addr)) (fp : List Addr), wE (X.blk s H0 scope (compEnvC scope cl C X.env) fp) elt σ H Q, pi,
    fun s H0 C cl fp => ⟨fun pins s' σ H v u Q I r h => (h s H0 C cl fp).run pins s' u I r⟩, fun s H0 C cl fp => pts_nil, fun s H0 C cl fp => ⟨fun pins s' σ H R I h => (h s H0 C cl fp).run pins s' I⟩,
    fun s H0 C cl fp => ⟨fun pins s' σ H v u Q I r h => (h s H0 C cl fp).run pins s' u I r⟩, fun s H0 C cl fp => pts_nil, fun s H0 C cl fp => ⟨fun pins s' σ H Q I h => (h s H0 C cl fp).run pins s' I⟩, fun B Bo Ho H σ ft Q q => ?_⟩
  refine hi B Bo Ho H σ ft _ fun J Ho1 H1 g1 it => ?_
  intro D hD
  have n1 : Ho1 D = none := g1.s.free hD
  have hmono : ∀ i, ((xs.take i).flatMap fun x => (ys x).map (f x)).length ≤ 100000 := fun i => by
    refine Nat.le_trans ?_ hl
    have e : (xs.flatMap fun x => (ys x).map (f x)) = ((xs.take i).flatMap fun x => (ys x).map (f x)) ++ ((xs.drop i).flatMap fun x => (ys x).map (f x)) := by
      rw [← List.flatMap_append, List.take_append_drop]
    rw [e, List.length_append]
    omega
  -- what stands of the new list
  let St2 (ds : List PD) (H2o H2 : Hp) : Prop := ∃ acc, Gr Ho1 H1 H2o H2 ∧ H2o D = none ∧ H2 D = some (.lst acc) ∧ RpA X.K H2o acc ds
  have grow : ∀ {ds H2o H2 H3o H3}, St2 ds H2o H2 → Gr H2o H2 H3o H3 → St2 ds H3o H3 := fun {ds H2o H2 H3o H3} ⟨acc, a1, a2, a3, a4⟩ g => ⟨acc, a1.trans g, (g.fr D (by rw [a3]; intro z; cases z)).trans a2, g.h.at _ _ a3, a4.mono g.o⟩
  refine ⟨fun i m H2 => ∃ H2o, m = xs.length - i ∧ i ≤ xs.length ∧ St2 ((xs.take i).flatMap fun x => (ys x).map (f x)) H2o H2, ⟨xs.length, Ho1, by simp, Nat.zero_le _, [], .tmp g1.s hD, n1, upd_same, .nil⟩, ?_⟩
  rintro i m H2 ⟨H2o, rfl, hle, st⟩
  have st0 := st
  obtain ⟨acc, g2, n2, e2, r2⟩ := st
  obtain ⟨go, stop⟩ := it H2o H2 g2.o g2.s i
  by_cases hlt : i < xs.length
  · have hx := List.getElem?_eq_getElem hlt
    obtain ⟨go, yl⟩ := go (c xs[i]) (by rw [List.getElem?_map, hx]; rfl)
    obtain ⟨is, en', his, hb⟩ := hb xs[i] (List.getElem_mem hlt)
    have htk : xs.take (i + 1) = xs.take i ++ [xs[i]] := by rw [List.take_add_one, hx]; rfl
    refine .inr ⟨go, fun H' => ∃ H2o, i + 1 ≤ xs.length ∧ St2 ((xs.take (i + 1)).flatMap fun x => (ys x).map (f x)) H2o H', fun H' ⟨a, b, c⟩ => ⟨_, by omega, a, rfl, b, c⟩, fun x H3 y => ?_⟩
    obtain ⟨H3o, g3, r3⟩ := yl x H3 y
    have hB : B D = none := (ft.gr g1).bh.free hD
    have e3 := g3.h.at _ _ e2
    have n3 : H3o D = none := (g3.fr D (by rw [e2]; intro z; cases z)).trans n2
    have fD := ((ft.gr g1).at_new hD (g2.trans g3) n3 e3).wipe (own.map (·.2))
    intro s H0 C cl fp
    refine (hb s H0 C cl fp).1 _ Bo H3o H3 _ fD x r3 _ fun σ3 w3 f3 => ⟨wipe_eq w3 his, ?_⟩
    show ∀ (s : Shared) (H0 : Hp) (C : Addr) (cl : List (Str × Addr)) (fp : List Addr), wI (X.blk s H0 scope (compEnvC scope cl C X.env) fp) tg1 iter1 σ3 H3 _
    intro s H0 C cl fp
    obtain ⟨wi1, pi1, hi1⟩ := (hb s H0 C cl fp).2.1
    have hy := (hb s H0 C cl fp).2.2
    refine wI_of pi1 (hi1 _ Bo H3o H3 σ3 f3 _ fun J1 H4o H4 g4 it1 => ?_)
    have st4 := grow (grow st0 g3) g4
    have f4 := f3.gr g4
    refine ⟨fun j k H5 => ∃ H5o o5, k = (ys xs[i]).length - j ∧ j ≤ (ys xs[i]).length ∧ Fit X.K (upd B D o5) Bo H5o H5 σ3 en' ∧ Same H4o H5o ∧ St2 (((xs.take i).flatMap fun x => (ys x).map (f x)) ++ ((ys xs[i]).take j).map (f xs[i])) H5o H5, ?_, ?_⟩
    · refine ⟨_, H4o, _, rfl, Nat.zero_le _, f4, .refl _, ?_⟩
      rw [List.take_zero, List.map_nil, List.append_nil]
      exact st4
    · rintro j k H5 ⟨H5o, o5, rfl, hje, f5, s45, st5⟩
      obtain ⟨acc5, k1, k2, k3, k4⟩ := st5
      obtain ⟨go1, stop1⟩ := it1 H5o H5 s45 f5.hoh j
      by_cases hjl : j < (ys xs[i]).length
      · have hyx := List.getElem?_eq_getElem hjl
        obtain ⟨go1, yl1⟩ := go1 (c1 (ys xs[i])[j]) (by rw [List.getElem?_map, hyx]; rfl)
        obtain ⟨js, en2, hjs, hb2⟩ := hy (ys xs[i])[j] (List.getElem_mem hjl)
        have htk1 : (ys xs[i]).take (j + 1) = (ys xs[i]).take j ++ [(ys xs[i])[j]] := by rw [List.take_add_one, hyx]; rfl
        refine .inr ⟨go1, fun H' => ∃ H5o o5, j + 1 ≤ (ys xs[i]).length ∧ Fit X.K (upd B D o5) Bo H5o H' σ3 en' ∧ Same H4o H5o ∧ St2 (((xs.take i).flatMap fun x => (ys x).map (f x)) ++ ((ys xs[i]).take (j + 1)).map (f xs[i])) H5o H',
          fun H' ⟨a, b, c, d⟩ => ⟨_, by omega, a, b, rfl, c, d⟩, fun x1 H6 y1 => ?_⟩
        obtain ⟨H6o, g6, r6⟩ := yl1 x1 H6 y1
        intro s H0 C cl fp
        refine (hb2 s H0 C cl fp).1 _ Bo H6o H6 _ ((f5.gr g6).wipe _) x1 r6 _ fun σ6 w6 f6 => ⟨wipe_eq w6 hjs, ?_⟩
        show ∀ (s : Shared) (H0 : Hp) (C : Addr) (cl : List (Str × Addr)) (fp : List Addr), wE (X.blk s H0 scope (compEnvC scope cl C X.env) fp) elt σ6 H6 _
        intro s H0 C cl fp
        refine (hb2 s H0 C cl fp).2 _ Bo H6o H6 σ6 f6 _ fun v H7o H7 g7 r7 => ?_
        have gg := g6.trans g7
        have e7 := gg.h.at _ _ k3
        have n7 : H7o D = none := (gg.fr D (by rw [k3]; intro z; cases z)).trans k2
        have hlen : acc5.length < 100000 := by
          rw [k4.len]
          have h1 := hmono (i + 1)
          rw [htk, List.flatMap_append] at h1
          simp only [List.flatMap_cons, List.flatMap_nil, List.append_nil, List.length_append, List.length_map] at h1 ⊢
          rw [List.length_take]
          omega
        have k17 := k1.trans gg
        have s8 : Same H7o (upd H7 D (.lst (acc5 ++ [v]))) := same_poke gg.s n7
        refine ⟨acc5, e7, sz100l hlen, H7o, .lst (acc5 ++ [v]), hjl, ?_, s45.trans gg.o, acc5 ++ [v], k17.poke hD n7 e7, n7, upd_same, ?_⟩
        · exact (f5.gr gg).swapD hB n7 (fun b u hb eb => (upd_ne hb).trans eb) (.refl _) s8 (fun _ _ => rfl) (tb_poke e7 trivial (gg.tb f5.tb)) upd_same
        · rw [htk1, List.map_append, ← List.append_assoc]
          exact (k4.mono gg.o).app (.one r7)
      · have e : j = (ys xs[i]).length := by omega
        subst e
        refine .inl ⟨stop1 (by rw [List.length_map]; exact Nat.le_refl _), H5o, hlt, ?_⟩
        rw [htk, List.flatMap_append]
        simp only [List.flatMap_cons, List.flatMap_nil, List.append_nil]
        rw [List.take_length] at k4
        exact ⟨acc5, k1, k2, k3, k4⟩
  · have e : i = xs.length := by omega
    subst e
    refine .inl ⟨stop (by rw [List.length_map]; exact Nat.le_refl _), ?_⟩
    rw [List.take_length] at r2
    exact q _ H2o H2 (g1.trans g2) ⟨D, rfl, g1.h.free hD, n2, acc, e2, r2⟩
theorem DLc2.is {X : Cx} {en : En} {elt tg iter tg1 iter1 : Expr} {scope : Scope} {own : List (Str × Nat)} {vs1 : List Nat} {rs rs' : List PD} (h : DLc2 X en elt tg iter tg1 iter1 scope own vs1 rs) (e : rs = rs') : DLc2 X en elt tg iter tg1 iter1 scope own vs1 rs' := e ▸ h
theorem de_lc2 {X : Cx} {en : En} {elt tg iter tg1 iter1 : Expr} {scope : Scope} {own : List (Str × Nat)} {vs1 : List Nat} {pos : Pos} {rs : List PD} (h : DLc2 X en elt tg iter tg1 iter1 scope own vs1 rs) (hN : X.N.Nodup) (ok : BlkOk X.N X.env.scope scope own) (hv : ∀ i ∈ vs1, i ∈ own.map (·.2)) (hc : X.calm = true := by kernel_rfl)
    (hs : ∀ x, foldedSetIterable iter X.env x = pure x := by intro _; rfl) (hs1 : ∀ env x, foldedSetIterable iter1 env x = pure x := by intro _ _; rfl) : DE X en (.ListComp elt [⟨tg, iter, [], 0⟩, ⟨tg1, iter1, [], 0⟩] scope pos) .o (.list rs) := fun B Bo Ho H σ ft Q q => by
  obtain ⟨wi, g, tt, wi1, g1, tt1, te, pi, hg, ht, hi1, hg1, ht1, he, r⟩ := h
  exact wE_of (pe_lc2 (own := own) hc hN pi ok hv hg ht hi1 hg1 ht1 he hs hs1) (r B Bo Ho H σ ft Q q)
theorem ds_setLc2 (i : Nat) {X : Cx} {en : En} {P : Po} {y : Str} {py : Pos} {elt tg iter tg1 iter1 : Expr} {scope : Scope} {own : List (Str × Nat)} {vs1 : List Nat} {pos spos : Pos} {rs : List PD} (h : DLc2 X en elt tg iter tg1 iter1 scope own vs1 rs) (q : P.nx (en.set i (some (.o (.list rs))))) (hN : X.N.Nodup)
    (ok : BlkOk X.N X.env.scope scope own) (hv : ∀ i ∈ vs1, i ∈ own.map (·.2)) (hy : X.N[i]? = some y := by kernel_rfl) (hyl : X.env.scope.names.lookup y = some .local := by kernel_rfl)
    (hsw : swapsWith (.ListComp elt [⟨tg, iter, [], 0⟩, ⟨tg1, iter1, [], 0⟩] scope pos) (some (.Name y py)) spos.line X.env = pure true := by exact sw_true rfl rfl rfl (by decide +kernel)) (hc : X.calm = true := by kernel_rfl)
    (hs : ∀ x, foldedSetIterable iter X.env x = pure x := by intro _; rfl) (hs1 : ∀ env x, foldedSetIterable iter1 env x = pure x := by intro _ _; rfl) : DS X en (.Assign [.Name y py] (.ListComp elt [⟨tg, iter, [], 0⟩, ⟨tg1, iter1, [], 0⟩] scope pos) spos) P := fun B Bo Ho H σ f D t => by
  obtain ⟨wi, g, tt, wi1, g1, tt1, te, pi, hg, ht, hi1, hg1, ht1, he, r⟩ := h
  refine wS_of (ps_setLc2 (i := i) (own := own) hc hN hy hyl hsw pi ok hv hg ht hi1 hg1 ht1 he hs hs1) (r B Bo Ho H σ f _ fun v Ho' H' g r => ?_)
  obtain ⟨p, rfl, n1, n2, w⟩ := r
  exact t.nx _ Ho' H' _ q (f.setO g n1 n2 w)
end DL

namespace DL
open PySem PySem.Spec PyProof.Rows L2
variable [Lam]
theorem RpE.tt {K : PySem.W.Frag} {Ho H : Hp} {v : V} {ds : List PD} (h : RpE K Ho H v (.tuple ds)) : ∃ p xs, v = .ref p ∧ H p = some (.tup xs) ∧ RpA K Ho xs ds := h
theorem row_vals {K : PySem.W.Frag} {H : Hp} : ∀ {xs : List V} {row : List Nat}, RpA K H xs (row.map nD) → xs = row.map fun (n : Nat) => V.int (n : Int)
  | _, [], .nil => rfl
  | _, n :: row, .cons h r => by rw [List.map_cons, row_vals r, Rp.int_inv h]
theorem inV_row (n : Nat) : ∀ row : List Nat, inV (.int (n : Int)) (row.map fun (n : Nat) => V.int (n : Int)) = decide (n ∈ row)
  | [] => by simp [inV]
  | m :: row => by
    have ih := inV_row n row
    unfold inV at ih ⊢
    rw [List.map_cons, List.any_cons, ih]
    show (((m : Int) == (n : Int)) || decide (n ∈ row)) = decide (n ∈ m :: row)
    by_cases h : n = m
    · subst h; simp
    · have h2 : ((m : Int) == (n : Int)) = false := by
        rw [beq_eq_false_iff_ne]
        omega
      rw [h2, Bool.false_or]
      have h3 : (n ∈ m :: row) ↔ n ∈ row := by simp [List.mem_cons, h]
      by_cases h4 : n ∈ row
      · rw [decide_eq_true h4, decide_eq_true (h3.mpr h4)]
      · rw [decide_eq_false h4, decide_eq_false (fun z => h4 (h3.mp z))]
theorem flat_row (row : List Nat) : (row.map fun (n : Nat) => V.int (n : Int)).all flatV = true := by
  rw [List.all_map, List.all_eq_true]
  intro x _
  rfl
theorem RpA.rev {K : PySem.W.Frag} {H : Hp} : ∀ {xs : List V} {ds : List PD}, RpA K H xs ds → RpA K H xs.reverse ds.reverse
  | _, _, .nil => .nil
  | _, _, .cons h r => by rw [List.reverse_cons, List.reverse_cons]; exact (RpA.rev r).app (.one h)
section
variable {X : Cx} {en : En} {P : Po} {a b e tg : Expr} {p p2 pos apos cpos npos : Pos} {k ka kb : Kd} {d : PD} {ds : List PD} {n m : Nat} {row : List Nat} {x : Str}
/-! ### in a tuple of numbers -/
theorem o2_inT : Op2 X.K (rIn X.K false) ka (nD n) .e (rowT row) .c (.bool (decide (n ∈ row))) := fun H0 H0' Ho H v u s r1 r2 Q q => by
  obtain ⟨p, xs, rfl, q2, r2⟩ := RpE.tt r2
  have e := row_vals r2
  subst e
  have e1 := r1.int_inv
  subst e1
  refine ⟨p, _, rfl, .inr (.inl (.inl q2)), rfl, flat_row row, ?_⟩
  rw [inV_row]
  exact q _ Ho H (.refl s) (.bl _)
theorem o2_notInT : Op2 X.K (rIn X.K true) ka (nD n) .e (rowT row) .c (.bool (!decide (n ∈ row))) := fun H0 H0' Ho H v u s r1 r2 Q q => by
  obtain ⟨p, xs, rfl, q2, r2⟩ := RpE.tt r2
  have e := row_vals r2
  subst e
  have e1 := r1.int_inv
  subst e1
  refine ⟨p, _, rfl, .inr (.inl (.inl q2)), rfl, flat_row row, ?_⟩
  rw [inV_row]
  exact q _ Ho H (.refl s) (.bl _)
theorem dt_inT (ha : DE X en a ka (nD n)) (hb : DE X en b .e (rowT row)) (hm : behindInMarks .In b = false := by kernel_rfl) : DT X en (.Compare a [.In] [b] pos) (decide (n ∈ row)) := dt_cmp op_in_seq ha hb o2_inT hm
theorem dt_notInT (ha : DE X en a ka (nD n)) (hb : DE X en b .e (rowT row)) (hm : behindInMarks .NotIn b = false := by kernel_rfl) : DT X en (.Compare a [.NotIn] [b] pos) (!decide (n ∈ row)) := dt_cmp op_notIn_seq ha hb o2_notInT hm
/-- d in a list of plain data -/
theorem o2_inD (h1 : SeqAt.shaped d = true) (h2 : SeqAt.shaped (.list ds) = true) : Op2 X.K (rInD X.K) ka d kb (.list ds) .c (.bool (ds.any fun z => PyData.eqv z d)) := fun H0 H0' Ho H v u s r1 r2 Q q => ⟨d, ds, (r1.rpt s).dp (SeqAt.canLay_of_shaped h1), (r2.rpt s).dp (SeqAt.canLay_of_shaped h2), h1, h2, q _ Ho H (.refl s) (.bl _)⟩
theorem o2_notInD (h1 : SeqAt.shaped d = true) (h2 : SeqAt.shaped (.list ds) = true) : Op2 X.K (rNotInD X.K) ka d kb (.list ds) .c (.bool (!(ds.any fun z => PyData.eqv z d))) := fun H0 H0' Ho H v u s r1 r2 Q q => ⟨d, ds, (r1.rpt s).dp (SeqAt.canLay_of_shaped h1), (r2.rpt s).dp (SeqAt.canLay_of_shaped h2), h1, h2, q _ Ho H (.refl s) (.bl _)⟩
theorem dt_inD (hr : Room m X.A) (ha : DE X en a ka d) (hb : DE X en b kb (.list ds)) (h1 : SeqAt.shaped d = true) (h2 : SeqAt.shaped (.list ds) = true) (hm : behindInMarks .In b = false := by kernel_rfl) : DT X en (.Compare a [.In] [b] pos) (ds.any fun z => PyData.eqv z d) :=
  dt_cmp (op_inD (hu65 hr)) ha hb (o2_inD h1 h2) hm
theorem dt_notInD (hr : Room m X.A) (ha : DE X en a ka d) (hb : DE X en b kb (.list ds)) (h1 : SeqAt.shaped d = true) (h2 : SeqAt.shaped (.list ds) = true) (hm : behindInMarks .NotIn b = false := by kernel_rfl) : DT X en (.Compare a [.NotIn] [b] pos) (!(ds.any fun z => PyData.eqv z d)) :=
  dt_cmp (op_notInD (hu65 hr)) ha hb (o2_notInD h1 h2) hm
/-! ### whether a list is empty -/
theorem dt_truL (h : DE X en e .e (.list ds)) (he : ∀ whole, isTrue e X.env whole = (do let v ← whole; standAt e.pos; holding [v] (truthy v)) := by intro _; rfl) : DT X en e (!ds.isEmpty) := fun B Bo Ho H σ f Q q => by
  refine wT_of (pt_truth pe_w he) (h B Bo Ho H σ f _ fun v H1o H1 g1 r1 => ?_)
  obtain ⟨p, xs, rfl, q1, r1⟩ := RpE.lt r1
  refine ⟨_, .inl ⟨xs, .inl (.inl q1), rfl⟩, ?_⟩
  have e : xs.isEmpty = ds.isEmpty := by
    have := r1.len
    cases xs <;> cases ds <;> first | rfl | cases this
  rw [e]
  exact q H1o H1 g1
/-! ### xs.clear(), xs.reverse() -/
theorem ds_clear (i : Nat) (h : en[i]? = some (some (.o (.list ds)))) (q : P.nx (en.set i (some (.o (.list []))))) (hN : X.N[i]? = some x := by kernel_rfl) (hv : visB X.env.scope x = true := by kernel_rfl)
    (hb : PE X (.Call (.Attribute (.Name x npos) "clear" apos) [] [] cpos) (tBM0 X.K "list" rClear (tVar i)) := by exact pe_bm0 PySem.F.plainAttrs_list PySem.F.slot_list_clear PySem.F.type_list_clear mt_clear (pv _)) :
    DS X en (.Expr (.Call (.Attribute (.Name x npos) "clear" apos) [] [] cpos) pos) P := fun B Bo Ho H σ f D t => by
  obtain ⟨p, e1, n1, n2, w⟩ := f.own h
  obtain ⟨vs, q1, r1⟩ := w
  refine wS_of (ps_expr hb) ?_
  refine ⟨_, e1, .inl ⟨rfl, _, .inl (.inl q1)⟩, p, vs, rfl, rfl, q1, ?_⟩
  exact t.nx _ Ho _ _ q (f.write h e1 ⟨_, upd_same, .nil⟩)
theorem ds_reverse (i : Nat) (h : en[i]? = some (some (.o (.list ds)))) (q : P.nx (en.set i (some (.o (.list ds.reverse))))) (hN : X.N[i]? = some x := by kernel_rfl) (hv : visB X.env.scope x = true := by kernel_rfl)
    (hb : PE X (.Call (.Attribute (.Name x npos) "reverse" apos) [] [] cpos) (tBM0 X.K "list" rReverse (tVar i)) := by exact pe_bm0 PySem.F.plainAttrs_list PySem.F.slot_list_reverse PySem.F.type_list_reverse mt_reverse (pv _)) :
    DS X en (.Expr (.Call (.Attribute (.Name x npos) "reverse" apos) [] [] cpos) pos) P := fun B Bo Ho H σ f D t => by
  obtain ⟨p, e1, n1, n2, w⟩ := f.own h
  obtain ⟨vs, q1, r1⟩ := w
  refine wS_of (ps_expr hb) ?_
  refine ⟨_, e1, .inl ⟨rfl, _, .inl (.inl q1)⟩, p, vs, rfl, rfl, q1, ?_⟩
  exact t.nx _ Ho _ _ q (f.write h e1 ⟨_, upd_same, r1.rev⟩)
/-! ### ranges -/
theorem rgV_rp {K : PySem.W.Frag} {H : Hp} (n : Nat) : RpA K H (rgV 0 (n : Int)) (rgD n) := by
  unfold rgV rgD
  rw [Int.sub_zero, Int.toNat_natCast]
  suffices h : ∀ l : List Nat, RpA K H (l.map fun (i : Nat) => V.int (0 + (i : Int))) (l.map fun (i : Nat) => PyData.int (i : Int)) from h _
  intro l
  induction l with
  | nil => exact .nil
  | cons x l ih => exact .cons (by show Rp K H (V.int (0 + (x : Int))) (PyData.int (x : Int)); rw [Int.zero_add]; exact .int _) ih
theorem de_listRg (hm : X.mg "range" = none) (hml : X.mg "list" = none) (hc : X.calm = true) (ha : DE X en a ka (.int n)) (hn : n ≤ 100000) (hg : glB X "range" = true := by kernel_rfl) (hgl : glB X "list" = true := by kernel_rfl) (na : starEach [a] X.env = (false, eval a X.env) :: starEach [] X.env := by kernel_rfl)
    (nb : starEach [.Call (.Name "range" p) [a] [] p2] X.env = (false, eval (.Call (.Name "range" p) [a] [] p2) X.env) :: starEach [] X.env := by kernel_rfl) : DE X en (.Call (.Name "list" npos) [.Call (.Name "range" p) [a] [] p2] [] pos) .o (.list (rgD n)) := fun B Bo Ho H σ f Q q => by
  refine wE_of (pe_listRg hc (gl_of hgl) hml (prg_1 (gl_of hg) hm pe_w na) nb) ?_
  refine ha B Bo Ho H σ f _ fun v H1o H1 g1 r1 => ⟨n, r1.int_inv, .of_le (by omega) (by omega) (by omega) (by omega), fun c hc => ?_⟩
  exact q _ _ _ (g1.trans (.tmp g1.s hc)) ⟨c, rfl, g1.h.free hc, g1.s.free hc, _, upd_same, rgV_rp n⟩
theorem de_tupRg (hm : X.mg "range" = none) (hml : X.mg "tuple" = none) (hc : X.calm = true) (ha : DE X en a ka (.int n)) (hn : n ≤ 100000) (hg : glB X "range" = true := by kernel_rfl) (hgl : glB X "tuple" = true := by kernel_rfl) (na : starEach [a] X.env = (false, eval a X.env) :: starEach [] X.env := by kernel_rfl)
    (nb : starEach [.Call (.Name "range" p) [a] [] p2] X.env = (false, eval (.Call (.Name "range" p) [a] [] p2) X.env) :: starEach [] X.env := by kernel_rfl) : DE X en (.Call (.Name "tuple" npos) [.Call (.Name "range" p) [a] [] p2] [] pos) .c (.tuple (rgD n)) := fun B Bo Ho H σ f Q q => by
  refine wE_of (pe_tupRg hc (gl_of hgl) hml (prg_1 (gl_of hg) hm pe_w na) nb) ?_
  refine ha B Bo Ho H σ f _ fun v H1o H1 g1 r1 => ⟨n, r1.int_inv, .of_le (by omega) (by omega) (by omega) (by omega), fun c hc => ?_⟩
  exact q _ _ _ (g1.trans (.new g1.s hc)) (.tup upd_same (rgV_rp n))
theorem itD_range2 {K : PySem.W.Frag} {Ho : Hp} {m n : Nat} : ItD K (Itr (m : Int) n) Ho ((List.range' m n).map nD) := fun Ho1 H1 s1 s2 i => by
  refine ⟨fun d hd => ?_, fun hi => ?_⟩
  · rw [List.getElem?_map] at hd
    have hi : i < n := by
      cases q : (List.range' m n)[i]? with
      | none => rw [q] at hd; cases hd
      | some z => have := (List.getElem?_eq_some_iff.mp q).1; rw [List.length_range'] at this; exact this
    rw [List.getElem?_range' hi] at hd
    cases hd
    refine ⟨hi, fun x H2 y => ?_⟩
    obtain ⟨rfl, rfl⟩ := y
    exact ⟨Ho1, .refl s2, by
      have e : (m : Int) + (i : Int) = ((m + 1 * i : Nat) : Int) := by omega
      rw [e]; exact .int _⟩
  · rw [List.length_map, List.length_range'] at hi
    exact hi
theorem di_range2 (hm : X.mg "range" = none) (ha : DE X en a ka (.int m)) (hb : DE X en b kb (.int n)) (h1 : m ≤ 100000) (h2 : n ≤ 100000) (hg : glB X "range" = true := by kernel_rfl) (hs : starEach [a, b] X.env = [(false, eval a X.env), (false, eval b X.env)] := by kernel_rfl) (hs2 : starEach [b] X.env = [(false, eval b X.env)] := by kernel_rfl)
    (na : starEach [a, b] X.env = (false, eval a X.env) :: starEach [b] X.env := by kernel_rfl) (nb : starEach [b] X.env = (false, eval b X.env) :: starEach [] X.env := by kernel_rfl) :
    DI X en tg (.Call (.Name "range" p) [a, b] [] pos) ((List.range' m (n - m)).map nD) := ⟨_, pi_range2 (gl_of hg) hm (pa_cons pe_w (pa_cons pe_w pa_nil nb) na) hs hs2, fun B Bo Ho H σ f R q => by
  refine ha B Bo Ho H σ f _ fun v H1o H1 g1 r1 => ?_
  refine hb B Bo H1o H1 σ (f.gr g1) _ fun u H2o H2 g2 r2 => ?_
  refine ⟨m, n, by rw [r1.int_inv, r2.int_inv], ⟨by omega, by omega, by omega, by omega⟩, ?_⟩
  have e : ((n : Int) - (m : Int)).toNat = n - m := by omega
  rw [e]
  exact q _ H2o H2 (g1.trans g2) itD_range2⟩
theorem itD_revR {K : PySem.W.Frag} {Ho : Hp} {n : Nat} : ItD K (Itc ((n : Int) - 1) (-1) n) Ho ((List.range n).reverse.map nD) := fun Ho1 H1 s1 s2 i => by
  refine ⟨fun d hd => ?_, fun hi => ?_⟩
  · rw [List.getElem?_map] at hd
    have hi : i < n := by
      cases q : (List.range n).reverse[i]? with
      | none => rw [q] at hd; cases hd
      | some z => have := (List.getElem?_eq_some_iff.mp q).1; rw [List.length_reverse, List.length_range] at this; exact this
    rw [List.getElem?_reverse (by rw [List.length_range]; exact hi), List.length_range, List.getElem?_range (by omega)] at hd
    cases hd
    refine ⟨hi, fun x H2 y => ?_⟩
    obtain ⟨rfl, rfl⟩ := y
    exact ⟨Ho1, .refl s2, by
      have e : (n : Int) - 1 + (i : Int) * (-1) = ((n - 1 - i : Nat) : Int) := by omega
      rw [e]; exact .int _⟩
  · rw [List.length_map, List.length_reverse, List.length_range] at hi
    exact hi
theorem di_revR (hm : X.mg "range" = none) (hmr : X.mg "reversed" = none) (ha : DE X en a ka (.int n)) (hn : n ≤ 100000) (hg : glB X "range" = true := by kernel_rfl) (hgr : glB X "reversed" = true := by kernel_rfl) (na : starEach [a] X.env = (false, eval a X.env) :: starEach [] X.env := by kernel_rfl)
    (nb : starEach [.Call (.Name "range" p) [a] [] p2] X.env = (false, eval (.Call (.Name "range" p) [a] [] p2) X.env) :: starEach [] X.env := by kernel_rfl) :
    DI X en tg (.Call (.Name "reversed" npos) [.Call (.Name "range" p) [a] [] p2] [] pos) ((List.range n).reverse.map nD) := ⟨_, pi_revR (gl_of hgr) hmr (prg_1 (gl_of hg) hm pe_w na) nb, fun B Bo Ho H σ f R q => by
  refine ha B Bo Ho H σ f _ fun v H1o H1 g1 r1 => ⟨n, r1.int_inv, by omega, by omega, by omega, by omega, ?_⟩
  have e1 : ((n : Int) - 0).toNat = n := by omega
  rw [e1, Int.zero_add]
  exact q _ H1o H1 g1 itD_revR⟩
end
end DL

namespace DL
open PySem PySem.Spec PyProof.Rows L2
variable [Lam]
/-! ### {k: v for x in xs}, the keys apart -/
theorem putK_new {kvs : List (Ky × V)} {k : Ky} {z : V} (h : k ∉ kvs.map (·.1)) : putK kvs k z = kvs ++ [(k, z)] := by
  have hn : (kvs.any fun q => decide (q.1 = k)) = false := by
    rw [List.any_eq_false]
    intro q hq e
    exact h (List.mem_map.mpr ⟨q, hq, of_decide_eq_true e⟩)
  unfold putK
  rw [hn, if_neg Bool.false_ne_true]
/-- a dict comprehension's reading -/
def DDc (X : Cx) (en : En) (kx vx tg iter : Expr) (scope : Scope) (own : List (Str × Nat)) (rs : PD) : Prop := ∃ wi g tt tk tv, PI X tg iter wi ∧
  (∀ (s : Shared) (H : Hp) (C : Addr) (cl : List (Str × Addr)) (fp : List Addr), PG (X.blk s H scope (compEnvC scope cl C X.env) fp) tg g) ∧
  (∀ (s : Shared) (H : Hp) (C : Addr) (cl : List (Str × Addr)) (fp : List Addr), PTs (X.blk s H scope (compEnvC scope cl C X.env) fp) [] tt) ∧
  (∀ (s : Shared) (H : Hp) (C : Addr) (cl : List (Str × Addr)) (fp : List Addr), PE (X.blk s H scope (compEnvC scope cl C X.env) fp) kx tk) ∧
  (∀ (s : Shared) (H : Hp) (C : Addr) (cl : List (Str × Addr)) (fp : List Addr), PE (X.blk s H scope (compEnvC scope cl C X.env) fp) vx tv) ∧
  ∀ (B Bo Ho H : Hp) (σ : L2.St), Fit X.K B Bo Ho H σ en → ∀ Q : VK, (∀ v Ho' H', Gr Ho H Ho' H' → Rs X.K .o H Ho' H' v rs → Q v H') → tDc wi g tt tk tv (own.map (·.2)) σ H Q
theorem ddc {X : Cx} {en : En} {kx vx tg iter : Expr} {scope : Scope} {own : List (Str × Nat)} {α : Type} {ka : Kd} (xs : List α) (c : α → PD) (key : α → Ky) (f : α → PD) (hi : DI X en tg iter (xs.map c))
    (hb : ∀ x ∈ xs, ∃ is en', (∀ i ∈ is, i ∈ own.map (·.2)) ∧ ∀ (s : Shared) (H : Hp) (C : Addr) (cl : List (Str × Addr)) (fp : List Addr),
      DG (X.blk s H scope (compEnvC scope cl C X.env) fp) (wipeE en (own.map (·.2))) tg (c x) is en' ∧ DE (X.blk s H scope (compEnvC scope cl C X.env) fp) en' kx ka (kD (key x)) ∧ DE (X.blk s H scope (compEnvC scope cl C X.env) fp) en' vx .c (f x))
    (hl : xs.length ≤ 100000) (nd : (xs.map key).Nodup) : DDc X en kx vx tg iter scope own (dk (xs.map fun x => (key x, f x))) := by
  obtain ⟨wi, pi, hi⟩ := hi
  refine ⟨wi, fun v σ H Q => ∀ (s : Shared) (H0 : Hp) (C : Addr) (cl : List (Str × Addr)) (fp : List Addr), wG (X.blk s H0 scope (compEnvC scope cl C X.env) fp) tg v σ H Q, tYes,
    fun σ H Q => ∀ (s : Shared) (H0 : Hp) (C : Addr) (cl : List (Str × Addr)) (fp : List Addr), wE (X.blk s H0 scope (compEnvC scope cl C X.env) fp) kx σ H Q,
    fun σ H Q => ∀ (s : Shared) (H0 : Hp) (C : Addr) (cl : List (Str × Addr)) (fp : List Addr), wE (X.blk s H0 scope (compEnvC scope cl C X.env) fp) vx σ H Q, pi,
    fun s H0 C cl fp => ⟨fun pins s' σ H v u Q I r h => (h s H0 C cl fp).run pins s' u I r⟩, fun s H0 C cl fp => pts_nil, fun s H0 C cl fp => ⟨fun pins s' σ H Q I h => (h s H0 C cl fp).run pins s' I⟩, fun s H0 C cl fp => ⟨fun pins s' σ H Q I h => (h s H0 C cl fp).run pins s' I⟩, fun B Bo Ho H σ ft Q q => ?_⟩
  refine hi B Bo Ho H σ ft _ fun J Ho1 H1 g1 it => ?_
  intro D hD
  have n1 : Ho1 D = none := g1.s.free hD
  refine ⟨fun i m H2 => ∃ H2o kvs, m = xs.length - i ∧ i ≤ xs.length ∧ Gr Ho1 H1 H2o H2 ∧ H2o D = none ∧ H2 D = some (.dK kvs) ∧ kvs.map (·.1) = (xs.take i).map key ∧ RpA X.K H2o (kvs.map (·.2)) ((xs.take i).map f),
    ⟨xs.length, Ho1, [], by simp, Nat.zero_le _, .tmp g1.s hD, n1, upd_same, rfl, .nil⟩, ?_⟩
  rintro i m H2 ⟨H2o, kvs, rfl, hle, g2, n2, e2, k2, r2⟩
  obtain ⟨go, stop⟩ := it H2o H2 g2.o g2.s i
  by_cases hlt : i < xs.length
  · have hx := List.getElem?_eq_getElem hlt
    obtain ⟨go, yl⟩ := go (c xs[i]) (by rw [List.getElem?_map, hx]; rfl)
    obtain ⟨is, en', his, hb⟩ := hb xs[i] (List.getElem_mem hlt)
    have htk : xs.take (i + 1) = xs.take i ++ [xs[i]] := by rw [List.take_add_one, hx]; rfl
    refine .inr ⟨go, fun H' => ∃ H2o kvs, i + 1 ≤ xs.length ∧ Gr Ho1 H1 H2o H' ∧ H2o D = none ∧ H' D = some (.dK kvs) ∧ kvs.map (·.1) = (xs.take (i + 1)).map key ∧ RpA X.K H2o (kvs.map (·.2)) ((xs.take (i + 1)).map f),
      fun H' ⟨a, b, h1, h2, h3, h4, h5, h6⟩ => ⟨_, by omega, a, b, rfl, h1, h2, h3, h4, h5, h6⟩, fun x H3 y => ?_⟩
    obtain ⟨H3o, g3, r3⟩ := yl x H3 y
    have f3 := (ft.gr ((g1.trans g2).trans g3)).wipe (own.map (·.2))
    intro s H0 C cl fp
    refine (hb s H0 C cl fp).1 _ Bo H3o H3 _ f3 x r3 _ fun σ3 w3 f3 => ⟨wipe_eq w3 his, ?_⟩
    show ∀ (s : Shared) (H0 : Hp) (C : Addr) (cl : List (Str × Addr)) (fp : List Addr), wE (X.blk s H0 scope (compEnvC scope cl C X.env) fp) kx σ3 H3 _
    intro s H0 C cl fp
    refine (hb s H0 C cl fp).2.1 _ Bo H3o H3 σ3 f3 _ fun u H4o H4 g4 r4 => ?_
    show ∀ (s : Shared) (H0 : Hp) (C : Addr) (cl : List (Str × Addr)) (fp : List Addr), wE (X.blk s H0 scope (compEnvC scope cl C X.env) fp) vx σ3 H4 _
    intro s H0 C cl fp
    refine (hb s H0 C cl fp).2.2 _ Bo H4o H4 σ3 (f3.gr g4) _ fun v H5o H5 g5 r5 => ?_
    have gg := (g3.trans g4).trans g5
    have e5 := gg.h.at _ _ e2
    have n5 : H5o D = none := (gg.fr D (by rw [e2]; intro z; cases z)).trans n2
    have g := g2.trans gg
    have hlen : kvs.length = i := by
      have := congrArg List.length k2
      rw [List.length_map, List.length_map, List.length_take] at this
      omega
    have hnew : key xs[i] ∉ kvs.map (·.1) := by
      rw [k2]
      have e : xs.map key = (xs.take i).map key ++ (key xs[i] :: (xs.drop (i + 1)).map key) := by
        rw [← List.map_cons, ← List.map_append]
        congr 1
        have h1 := List.take_append_drop i xs
        rw [List.drop_eq_getElem_cons hlt] at h1
        exact h1.symm
      rw [e] at nd
      intro hm
      exact (List.nodup_append.mp nd).2.2 _ hm _ List.mem_cons_self rfl
    refine ⟨kvs, key xs[i], r4.key, e5, sz100l (by omega), H5o, kvs ++ [(key xs[i], v)], hlt, g.poke hD n5 e5, n5, ?_, ?_, ?_⟩
    · rw [upd_same, putK_new hnew]
    · rw [List.map_append, k2, htk, List.map_append]; rfl
    · rw [List.map_append, htk, List.map_append]
      exact (r2.mono gg.o).app (.one r5)
  · have e : i = xs.length := by omega
    subst e
    refine .inl ⟨stop (by rw [List.length_map]; exact Nat.le_refl _), ?_⟩
    rw [List.take_length] at k2 r2
    exact q _ H2o H2 (g1.trans g2) ⟨D, rfl, g1.h.free hD, n2, kvs, e2, .of (by rw [k2, List.map_map]; rfl) (by rw [List.map_map]; exact r2)⟩
theorem DDc.is {X : Cx} {en : En} {kx vx tg iter : Expr} {scope : Scope} {own : List (Str × Nat)} {rs rs' : PD} (h : DDc X en kx vx tg iter scope own rs) (e : rs = rs') : DDc X en kx vx tg iter scope own rs' := e ▸ h
theorem de_dc {X : Cx} {en : En} {kx vx tg iter : Expr} {scope : Scope} {own : List (Str × Nat)} {pos : Pos} {rs : PD} (h : DDc X en kx vx tg iter scope own rs) (hN : X.N.Nodup) (ok : BlkOk X.N X.env.scope scope own) (hc : X.calm = true := by kernel_rfl)
    (hs : ∀ x, foldedSetIterable iter X.env x = pure x := by intro _; rfl) : DE X en (.DictComp kx vx [⟨tg, iter, [], 0⟩] scope pos) .o rs := fun B Bo Ho H σ ft Q q => by
  obtain ⟨wi, g, tt, tk, tv, pi, hg, ht, hk, he, r⟩ := h
  exact wE_of (pe_dc (own := own) hc hN pi ok hg ht hk he hs) (r B Bo Ho H σ ft Q q)
theorem sw_trueD {kx vx : Expr} {gs : List Comprehension} {scope : Scope} {pos py : Pos} {y : Str} {l : Nat} {env : Env} (hk : env.scope.kind = .function) (hy : env.scope.names.lookup y = some .local) (hl : (py.line == pos.line) = true)
    (ha : (scope.names.any fun (n, k) => n == y && (k == .local || k == .cell)) = false) : swapsWith (.DictComp kx vx gs scope pos) (some (.Name y py)) l env = pure true := by
  have ky : env.kindOf y = some .local := hy
  have hb : env.blockKind = .function := by unfold Env.blockKind; rw [hk]; rfl
  unfold swapsWith
  simp only [hb, ky, ha, Expr.pos, hl]
  rfl
theorem ps_setDc {X : Cx} {i : Nat} {y : Str} {py : Pos} {kx vx tg iter : Expr} {scope : Scope} {own : List (Str × Nat)} {pos spos : Pos} {wi : TI} {g : TG} {tt : TT} {tk tv : TE} (hc : X.calm = true) (hN : X.N.Nodup) (hy : X.N[i]? = some y) (hyl : X.env.scope.names.lookup y = some .local)
    (hsw : swapsWith (.DictComp kx vx [⟨tg, iter, [], 0⟩] scope pos) (some (.Name y py)) spos.line X.env = pure true) (hi : PI X tg iter wi) (ok : BlkOk X.N X.env.scope scope own)
    (hg : ∀ (s : Shared) (H : Hp) (C : Addr) (cl : List (Str × Addr)) (fp : List Addr), PG (X.blk s H scope (compEnvC scope cl C X.env) fp) tg g) (ht : ∀ (s : Shared) (H : Hp) (C : Addr) (cl : List (Str × Addr)) (fp : List Addr), PTs (X.blk s H scope (compEnvC scope cl C X.env) fp) [] tt)
    (hk : ∀ (s : Shared) (H : Hp) (C : Addr) (cl : List (Str × Addr)) (fp : List Addr), PE (X.blk s H scope (compEnvC scope cl C X.env) fp) kx tk)
    (he : ∀ (s : Shared) (H : Hp) (C : Addr) (cl : List (Str × Addr)) (fp : List Addr), PE (X.blk s H scope (compEnvC scope cl C X.env) fp) vx tv) (hs : ∀ x, foldedSetIterable iter X.env x = pure x) :
    PS X (.Assign [.Name y py] (.DictComp kx vx [⟨tg, iter, [], 0⟩] scope pos) spos) (tAsg (tDc wi g tt tk tv (own.map (·.2))) (gName i)) := by
  refine ⟨fun pins s σ H D I h => ?_⟩
  rw [exec_Assign_Name_used _ _ _ _ hsw]
  refine wpAny_bind (wpAny_standAt (wpAny_bind ?_))
  show wpAny _ X.A (do let _ ← comprehension (.DictComp kx vx [⟨tg, iter, [], 0⟩] scope pos) scope X.env (firstIterPos [⟨tg, iter, [], 0⟩] pos) newDict false (eval iter X.env) (some (assign (.Name y py) X.env))) _ _ s
  have h : tDc wi g tt tk tv (own.map (·.2)) σ H (fun x H1 => gName i x σ H1 D.nx) := h
  refine wpAny_bind (thn (dc_core (Qf := fun _ s' => SP X pins D .next s') hc hN I hi ok hg ht hk he hs h fun L C s' m H' I' q hn f => ?_) fun _ s' hq => wpAny_pure (wpAny_pure hq))
  show wpAny _ _ (assign (.Name y py) X.env (.ref L)) _ _ _
  refine wpAny_assign_Name (store_ok2 (v := V.ref L) I' hN hy (.inl hyl) rfl (fun s2 I2 ⟨a, sb, ha⟩ => ?_) (.inr hyl))
  obtain ⟨f0, f1, f2, f3, f4, f5⟩ := f
  have haC : C ≠ a := by
    rcases ha with z | z
    · rw [z]; exact f1
    · exact fun e => f4 y a z e.symm
  refine ⟨m, hn.sameBut sb haC, fun h3 sb3 => ?_⟩
  exact ⟨_, H', I2.turned (t' := s2.toks) (fun b o hb e => (sb3.2 b hb).trans e) f0 f1 f3 f4 f5, q⟩
theorem ds_setDc (i : Nat) {X : Cx} {en : En} {P : Po} {y : Str} {py : Pos} {kx vx tg iter : Expr} {scope : Scope} {own : List (Str × Nat)} {pos spos : Pos} {rs : PD} (h : DDc X en kx vx tg iter scope own rs) (q : P.nx (en.set i (some (.o rs)))) (hN : X.N.Nodup)
    (ok : BlkOk X.N X.env.scope scope own) (hy : X.N[i]? = some y := by kernel_rfl) (hyl : X.env.scope.names.lookup y = some .local := by kernel_rfl)
    (hsw : swapsWith (.DictComp kx vx [⟨tg, iter, [], 0⟩] scope pos) (some (.Name y py)) spos.line X.env = pure true := by exact sw_trueD rfl rfl rfl (by decide +kernel)) (hc : X.calm = true := by kernel_rfl)
    (hs : ∀ x, foldedSetIterable iter X.env x = pure x := by intro _; rfl) : DS X en (.Assign [.Name y py] (.DictComp kx vx [⟨tg, iter, [], 0⟩] scope pos) spos) P := fun B Bo Ho H σ f D t => by
  obtain ⟨wi, g, tt, tk, tv, pi, hg, ht, hk, he, r⟩ := h
  refine wS_of (ps_setDc (i := i) (own := own) hc hN hy hyl hsw pi ok hg ht hk he hs) (r B Bo Ho H σ f _ fun v Ho' H' g r => ?_)
  obtain ⟨p, rfl, n1, n2, w⟩ := r
  exact t.nx _ Ho' H' _ q (f.setO g n1 n2 w)
end DL

namespace DL
open PySem PySem.Spec PyProof.Rows L2 PySem PySem.W
variable [Lam]
/-! ### tuples that are known to the object -/
section
variable {X : Cx}
theorem call_tuple_x : CallR X (.type "tuple") (fun xs H Q => ∃ p ys, xs = [.ref p] ∧ SqL X.K H p ys ∧ ∀ q o, H q = none → o.dict = none → Q (.ref q) (upd H q (.frz o (.tup ys)))) := by
  intro pins s σ H xs us Q I r q
  obtain ⟨p, ys, rfl, hs, q⟩ := q
  obtain ⟨u, rfl, rx⟩ := vals1 r
  cases rx
  obtain ⟨its, rv, pl, hz⟩ := I.list hs
  refine call_tuple_list pl.isList (fun h' hk => ?_) (by rw [List.size_toArray, ← rv.length]; exact hz)
  have I1 : Inv X pins σ H { s with heap := h' } := I.kept (t' := s.toks) hk
  have I2 : Inv X pins σ (upd H h'.objs.size (.frz { cls := .type "tuple", data := .seq its.toArray } (.tup ys))) { s with heap := h'.push { cls := .type "tuple", data := .seq its.toArray } } :=
    I1.laid (t' := s.toks) (fun b o e => Heap.get?_push_of_some _ e) (Nat.le_refl _) (show ObjOk X.prog X.w _ _ _ (.frz _ (.tup ys)) from ⟨Heap.get?_push_size _ rfl, hz, its, rv, IsTup.new _ _⟩)
  exact ⟨.ref h'.objs.size, _, I2, rfl, q _ _ (I1.hok.fresh (Nat.le_refl _)) rfl⟩
theorem pairs_of2 {pins : List (Addr × Obj)} {σ : L2.St} {H : Hp} {s : Shared} (I : Inv X pins σ H s) : ∀ {ps : List Addr} {kvs : List (L2.Key × V)}, Paired (fun p kv => SqT X.K H p [kV kv.1, kv.2]) ps kvs →
    ∃ (prs : List (L2.Key × Value)) (pv : List (Value × Value)), KV kvs prs ∧ prs.length = ps.length ∧ pv.length = ps.length ∧ ∀ (j : Nat) (k v : Value), pv[j]? = some (k, v) → ∃ b y, ps[j]? = some b ∧ prs[j]? = some (y, v) ∧ IsTup s.heap b #[k, v] ∧ keyIs y k = true
  | _, _, .nil => ⟨[], [], .nil, rfl, rfl, fun j k v e => by simp at e⟩
  | _, _, .cons (a := p) (b := kv) h t => by
    obtain ⟨prs, pv, r, hl, hl2, hp⟩ := pairs_of2 I t
    obtain ⟨its, rv, ht, _⟩ := I.tuple h
    obtain ⟨u, y, ei, ru, ry⟩ := vals2 rv
    subst ei
    refine ⟨(kv.1, y) :: prs, (u, y) :: pv, .cons ⟨rfl, ry⟩ r, by rw [List.length_cons, List.length_cons, hl], by rw [List.length_cons, List.length_cons, hl2], fun j k v e => ?_⟩
    cases j with
    | zero =>
      have e' : (u, y) = (k, v) := Option.some.inj e
      cases e'
      exact ⟨p, kv.1, rfl, rfl, ht, kV_is (P := X.prog) (w := X.w) ru⟩
    | succ j =>
      obtain ⟨b, z, e1, e2, e3, e4⟩ := hp j k v (by simpa using e)
      exact ⟨b, z, by simpa using e1, by simpa using e2, e3, e4⟩
/-- dict(x), x a tuple of pairs that is known to the object -/
theorem call_dictX (hcalm : X.calm = true) : CallR X (.type "dict") (fun xs H Q => ∃ (a : Addr) (o : Obj) (ps : List Addr) (kvs : List (L2.Key × V)), xs = [.ref a] ∧ H a = some (.frz o (.tup (ps.map V.ref))) ∧ o.dict = none ∧ Paired (fun p kv => SqT X.K H p [kV kv.1, kv.2]) ps kvs ∧
    ∀ p, H p = none → Q (.ref p) (upd H p (.dK (mergeK [] kvs)))) := by
  intro pins s σ H xs us Q I r q
  obtain ⟨a, o, ps, kvs, ex, hq, hd, hp, q⟩ := q
  subst ex
  obtain ⟨u, eu, rx⟩ := vals1 r
  subst eu
  cases rx
  obtain ⟨ho, hz, its, rv, o', ho', hc, n, hdat⟩ : s.heap.get? a = some o ∧ (ps.map V.ref).length ≤ sizeLine ∧ ∃ its : List Value, Vals (ps.map V.ref) its ∧ IsTup s.heap a its.toArray := I.hok a _ hq
  rw [ho] at ho'
  cases ho'
  have ei := refs_at rv
  subst ei
  rw [List.length_map] at hz
  obtain ⟨prs, pv, rel, hl, hl2, hpr⟩ := pairs_of2 I hp
  refine PySem.call_dict_pairs (knd := mixKind X.prog X.w) (kvs := prs) (PairArg.tuple a (ps.map Value.ref).toArray (fun j => ps.getD j 0) pv) (I.ok.hd hcalm) ⟨⟨o, n, ho, hc, hd, hdat⟩, by simp [hl2], fun j k v e => ?_⟩ ⟨by rw [hl, hl2], fun j k v e => ?_⟩ (by rw [hl2]; exact hz) fun h' tk hd' k => ?_
  · obtain ⟨b, y, e1, e2, e3, e4⟩ := hpr j k v e
    have e5 : ps.getD j 0 = b := by rw [List.getD_eq_getElem?_getD, e1]; rfl
    refine ⟨by show _ = some (Value.ref (ps.getD j 0)); rw [e5]; simp [e1], .inl ?_⟩
    show s.heap.IsTuple (ps.getD j 0) #[k, v]
    rw [e5]
    exact e3
  · obtain ⟨b, y, e1, e2, e3, e4⟩ := hpr j k v e
    exact ⟨y, e2, e4⟩
  · have hm : (s.heap.objs.size == sysModules) = false := beq_eq_false_iff_ne.mpr (Nat.ne_of_gt I.big)
    have hlen : (mergeK [] kvs).length ≤ sizeLine := by
      refine Nat.le_trans (length_mergeK kvs []) ?_
      rw [List.length_nil, Nat.zero_add, rel.length, hl]
      exact hz
    exact ⟨.ref s.heap.objs.size, upd H s.heap.objs.size (.dK (mergeK [] kvs)), I.laid (t' := tk) (fun b o e => k b o (by simp) e) (Nat.le_refl _) (show ObjOk X.prog X.w _ _ _ (.dK (mergeK [] kvs)) from ⟨hlen, hm, merged [] prs, KV.merge rel .nil, hd'⟩), rfl, q _ (I.hok.fresh (Nat.le_refl _))⟩
end
def pqD (p : Nat × Nat) : PD := .tuple [nD p.1, nD p.2]
theorem prs_inv {K : PySem.W.Frag} {H : Hp} : ∀ {xs : List V} {ps : List (Nat × Nat)}, RpA K H xs (ps.map pqD) → ∃ as : List Addr, xs = as.map V.ref ∧ Paired (fun p (kv : L2.Key × V) => SqT K H p [kV kv.1, kv.2]) as (ps.map fun p => ((.inl (p.1 : Int) : L2.Key), V.int (p.2 : Int)))
  | _, [], .nil => ⟨[], rfl, .nil⟩
  | _, p :: ps, .cons h r => by
    obtain ⟨as, e, q⟩ := prs_inv r
    obtain ⟨a, ys, rfl, ha, r2⟩ := Rp.tup_inv h
    cases r2 with
    | cons h1 r2 => cases r2 with
      | cons h2 r2 =>
        cases r2
        rw [Rp.int_inv h1, Rp.int_inv h2] at ha
        exact ⟨a :: as, by rw [e]; rfl, .cons (.inl (.inl ha)) q⟩
section
variable {X : Cx} {en : En} {P : Po} {a b e tg : Expr} {p p2 p3 pos apos cpos npos : Pos} {k ka kb : Kd} {d : PD} {ds : List PD} {n m : Nat} {row : List Nat} {x : Str}
theorem de_tupX {p : Pos} (hm : X.mg "tuple" = none) (ha : DE X en a .e (.list ds)) (hg : glB X "tuple" = true := by kernel_rfl) (he : starEach [a] X.env = (false, eval a X.env) :: starEach [] X.env := by kernel_rfl) : DE X en (.Call (.Name "tuple" p) [a] [] pos) .c (tx ds) := fun B Bo Ho H σ f Q q => by
  refine wE_of (pe_callTy call_tuple_x (gl_of hg) hm (by decide +kernel) (pa_cons pe_w pa_nil he) (he := he)) ?_
  refine ha B Bo Ho H σ f _ fun v H1o H1 g1 r1 => ?_
  obtain ⟨p, xs, rfl, q1, r1⟩ := RpE.lt r1
  exact ⟨p, xs, rfl, .inl (.inl q1), fun c o hc hd => q _ _ _ (g1.trans (.new g1.s hc)) (.tux upd_same hd (r1.mono (same_new (g1.s.free hc))))⟩
theorem dt_tyNeX {m : Nat} {n : String} {txx : Str} (hr : Room m X.A) (hm : X.mg "type" = none) (hmT : X.mg txx = none) (ha : DE X en a .c (tx ds)) (hn : Meta n) (hv : bootBuiltins txx = some (.type n)) (hg : glB X "type" = true := by kernel_rfl) (hgT : glB X txx = true := by kernel_rfl)
    (hnn : txx ≠ "__name__" := by decide) (hd : (txx == ("__debug__" : Str)) = false := by kernel_rfl) (he : starEach [a] X.env = (false, eval a X.env) :: starEach [] X.env := by kernel_rfl) (hmk : behindInMarks .NotEq (.Name txx p2) = false := by kernel_rfl) :
    DT X en (.Compare (.Call (.Name "type" p) [a] [] p3) [.NotEq] [.Name txx p2] pos) (!decide ("tuple" = n)) := fun B Bo Ho H σ f Q q => by
  refine wT_of (pt_cmpR (op_neTy (hu1 hr)) (pe_callTy call_type1 (gl_of hg) hm (by decide +kernel) (pa_cons pe_w pa_nil he) (he := he)) (pe_bltn (v := .ty n) (gl_of hgT) hmT hv rfl hnn hd) hmk) ?_
  refine ha B Bo Ho H σ f _ fun v H1o H1 g1 r1 => ?_
  obtain ⟨p, xs, o, rfl, q1, q2, r1⟩ := Rp.tx_inv r1
  exact ⟨_, "tuple", rfl, .tup (.inl (.inr ⟨o, g1.s.at _ _ q1⟩)), "tuple", n, rfl, rfl, PySem.TypeEq.meta_tuple, hn, _, rfl, q H1o H1 g1⟩
theorem di_tupX (h : DE X en e .c (tx ds)) : DI X en tg e ds := ⟨_, pi_tup pe_w, fun B Bo Ho H σ f R q => by
  refine h B Bo Ho H σ f _ fun v Ho' H' g r => ?_
  obtain ⟨a, xs, o, rfl, ha, _, r⟩ := Rp.tx_inv r
  refine ⟨a, rfl, ⟨xs, .inl (.inr ⟨o, g.s.at _ _ ha⟩)⟩, q _ Ho' H' g fun Ho1 H1 s1 s2 i => ⟨fun d hd => ?_, fun hi => ?_⟩⟩
  · obtain ⟨v, hv, rv⟩ := r.get hd
    have hq : SqT X.K H1 a xs := .inl (.inr ⟨o, s2.at _ _ (s1.at _ _ ha)⟩)
    refine ⟨⟨xs, v, hq, hv⟩, fun x H2 y => ?_⟩
    obtain ⟨rfl, y⟩ := y
    have := (y xs hq).symm.trans hv
    cases this
    exact ⟨Ho1, .refl s2, Rp.mono s1 rv⟩
  · exact ⟨xs, .inl (.inr ⟨o, s2.at _ _ (s1.at _ _ ha)⟩), by rw [r.len]; exact hi⟩⟩
/-- dict(x), x a tuple of pairs of numbers -/
theorem de_dictX {ps : List (Nat × Nat)} (hc : X.calm = true) (hm : X.mg "dict" = none) (ha : DE X en a .c (tx (ps.map pqD))) (nd : (ps.map (·.1)).Nodup) (hg : glB X "dict" = true := by kernel_rfl) (he : starEach [a] X.env = (false, eval a X.env) :: starEach [] X.env := by kernel_rfl) :
    DE X en (.Call (.Name "dict" p) [a] [] pos) .o (toldD ps) := fun B Bo Ho H σ f Q q => by
  refine wE_of (pe_callTy (call_dictX hc) (gl_of hg) hm (by decide +kernel) (pa_cons pe_w pa_nil he) (he := he)) ?_
  refine ha B Bo Ho H σ f _ fun v H1o H1 g1 r1 => ?_
  obtain ⟨a, xs, o, rfl, q1, q2, r1⟩ := Rp.tx_inv r1
  obtain ⟨as, rfl, pp⟩ := prs_inv (r1.mono g1.s)
  refine ⟨a, o, as, _, rfl, g1.s.at _ _ q1, q2, pp, fun c hc => ?_⟩
  have em : mergeK [] (ps.map fun p => ((.inl (p.1 : Int) : L2.Key), V.int (p.2 : Int))) = ps.map fun p => ((.inl (p.1 : Int) : L2.Key), V.int (p.2 : Int)) := by
    have := mergeK_nd (ps.map fun p => ((.inl (p.1 : Int) : Ky), V.int (p.2 : Int))) [] (by
      rw [List.nil_append, List.map_map]
      have e : ((fun q : Ky × V => q.1) ∘ fun p : Nat × Nat => ((.inl (p.1 : Int) : Ky), V.int (p.2 : Int))) = (fun n : Nat => (.inl (n : Int) : Ky)) ∘ fun p : Nat × Nat => p.1 := rfl
      rw [e, ← List.map_map]
      exact (List.pairwise_map.mpr (nd.imp fun h z => h (by have := Sum.inl.inj z; omega))))
    rwa [List.nil_append] at this
  rw [em]
  refine q _ _ _ (g1.trans (.tmp g1.s hc)) ⟨c, rfl, g1.h.free hc, g1.s.free hc, _, upd_same, .of ?_ ?_⟩
  · rw [List.map_map, List.map_map]; rfl
  · rw [List.map_map, List.map_map]
    suffices h : ∀ l : List (Nat × Nat), RpA X.K H1o (l.map fun p => V.int (p.2 : Int)) (l.map fun p => nD p.2) from h ps
    intro l
    induction l with
    | nil => exact .nil
    | cons x l ih => exact .cons (.int _) ih
/-! ### the least of a list of lists of numbers -/
theorem call_minD (hc : X.calm = true) (hu : X.A.units + 64 < cLine) : CallR X (.builtin "min") (fun xs H Q => ∃ p ys d ds, xs = [.ref p] ∧ SqL X.K H p ys ∧ DpAll X.K H ys (d :: ds) ∧ AlikeAll (d :: ds) ∧ PyData.canLayAll0 (d :: ds) = true ∧ PyData.depthAll (d :: ds) ≤ 62 ∧
    ∀ (i : Nat) y, ys[i]? = some y → (d :: ds)[i]? = some (minD d ds) → Q y H) := by
  intro pins s σ H xs us Q I r q
  obtain ⟨p, ys, d, ds, ex, hs, hd, ha, hcl, hdp, q⟩ := q
  subst ex
  obtain ⟨u, rfl, rx⟩ := vals1 r
  cases rx
  obtain ⟨its, rv, pl, hz⟩ := I.list hs
  obtain ⟨as, hr⟩ := Dp.readsAll I (d :: ds) ys its hd rv
  refine min_list_data (I.ok.hd hc) pl.isList (vs := its.toArray) (x := d) (xs := ds) (as := as) hr ha (by omega) fun i v h' tk bs hv rd hk => ?_
  have hv' : its[i]? = some v := by rw [← hv]; simp
  obtain ⟨cs, r1, r2, r3, r4⟩ := readsAll_at hr i v (by simpa using hv')
  have e := SeqAt.Reads.unique _ _ _ _ _ (by
    have h1 : ∀ (l : List PyData) (z : PyData), PyData.canLayAll0 l = true → z ∈ l → z.canLay0 = true := fun l => by
      induction l with
      | nil => intro z _ hz; cases hz
      | cons w l ih =>
        intro z hc hz
        simp only [PyData.canLayAll0, Bool.and_eq_true] at hc
        rcases List.mem_cons.mp hz with rfl | hz
        · exact hc.1
        · exact ih z hc.2 hz
    exact h1 _ _ hcl r3) (Reads.keeps hk r1) rd
  have hy : ∃ y, ys[i]? = some y ∧ RelV y v := by
    have hl := rv.length
    have hi : i < its.length := (List.getElem?_eq_some_iff.mp hv').1
    have hy2 : ys[i]? = some ys[i] := List.getElem?_eq_getElem (by omega)
    obtain ⟨v', e1, e2⟩ := rv.get hy2
    rw [hv'] at e1
    cases e1
    exact ⟨_, hy2, e2⟩
  obtain ⟨y, hy, ry⟩ := hy
  refine ⟨y, H, I.kept (t' := tk) hk, ry, q i y hy ?_⟩
  rw [← e, List.getD_eq_getElem?_getD, List.getElem?_eq_getElem r2]
  rfl
theorem alike_rows (rows : List (List Nat)) : AlikeAll (rows.map rowL) := by
  have h : ∀ a b : List Nat, alikeAll (a.map nD) (b.map nD) = true := fun a => by
    induction a with
    | nil => intro b; simp [alikeAll]
    | cons x a ih =>
      intro b
      cases b with
      | nil => simp [alikeAll]
      | cons y b =>
        rw [List.map_cons, List.map_cons, alikeAll, ih b]
        simp [nD, alike]
  refine ⟨fun x hx y hy => ?_, fun x hx e => ?_⟩
  · obtain ⟨a, _, rfl⟩ := List.mem_map.mp hx
    obtain ⟨b, _, rfl⟩ := List.mem_map.mp hy
    show alike (.list _) (.list _) = true
    rw [alike]
    exact h a b
  · obtain ⟨a, _, rfl⟩ := List.mem_map.mp hx
    cases e
theorem de_minL {r0 : List Nat} {rows : List (List Nat)} (hr : Room m X.A) (hc : X.calm = true) (hm : X.mg "min" = none) (ha : DE X en a .c (.list ((r0 :: rows).map rowL))) (hg : glB X "min" = true := by kernel_rfl) (he : starEach [a] X.env = (false, eval a X.env) :: starEach [] X.env := by kernel_rfl) :
    DE X en (.Call (.Name "min" p) [a] [] pos) .c (minD (rowL r0) (rows.map rowL)) := fun B Bo Ho H σ f Q q => by
  refine wE_of (pe_callB (call_minD hc (hu64 hr)) (gl_of hg) hm boot_min (pa_cons pe_w pa_nil he) (he := he)) ?_
  refine ha B Bo Ho H σ f _ fun v H1o H1 g1 r1 => ?_
  obtain ⟨p, xs, rfl, q1, r1⟩ := Rp.lst_inv r1
  have pl : ∀ d ∈ (r0 :: rows).map rowL, Pl 1 d := fun d hd => by
    obtain ⟨x, _, rfl⟩ := List.mem_map.mp hd
    exact pl_rowL x
  obtain ⟨i1, i2⟩ := pl_all pl
  refine ⟨p, xs, rowL r0, rows.map rowL, rfl, .inl (.inl (g1.s.at _ _ q1)), RpA.dp (r1.mono g1.s) i1, alike_rows (r0 :: rows), i1, by exact Nat.le_trans i2 (by omega), fun i y hy hd => ?_⟩
  obtain ⟨y', e1, e2⟩ := r1.get (i := i) hd
  rw [hy] at e1
  cases e1
  exact q _ H1o H1 g1 e2
end
end DL

namespace DL
open PySem PySem.Spec PyProof.Rows L2
variable [Lam]
/-! ### looks and sets -/
structure Lk where
  g : List Nat
  seen : List (Nat × Nat)
def lkD (l : Lk) : PD := .tuple [rowT l.g, tx (l.seen.map pqD)]
structure Lk.Ok (W : Wk) (l : Lk) : Prop where
  g : Row W.ring W.inputs l.g
  lines : ∀ p ∈ l.seen, W.inputs ≤ p.1 ∧ p.1 < W.inputs + W.parts.length ∧ p.2 < W.ring
  rise : (l.seen.map (·.1)).Pairwise (· < ·)
  len : l.seen.length ≤ 100
structure SetOk (W : Wk) (b : List Nat) : Prop where
  lt : ∀ k ∈ b, k < W.parts.length
  rise : b.Pairwise (· < ·)
  len : b.length ≤ 100
theorem nodup_of_rise {l : List Nat} (h : l.Pairwise (· < ·)) : l.Nodup := h.imp fun h => Nat.ne_of_lt h
theorem Lk.Ok.nd {W : Wk} {l : Lk} (h : l.Ok W) : (l.seen.map (·.1)).Nodup := nodup_of_rise h.rise
theorem rise_zip : ∀ {l : List Nat}, l.Pairwise (· < ·) → ∀ p ∈ l.zip l.tail, p.1 < p.2
  | [], _, p, hp => by cases hp
  | [x], _, p, hp => by cases hp
  | x :: y :: l, h, p, hp => by
    have h2 := List.pairwise_cons.mp h
    rcases List.mem_cons.mp (show p ∈ (x, y) :: (y :: l).zip l from hp) with rfl | hp
    · exact h2.1 _ List.mem_cons_self
    · exact rise_zip h2.2 p hp
theorem cut1 {α : Type} : ∀ xs : List α, cutA xs (some 1) none = xs.tail
  | [] => by
    unfold cutA
    simp
  | x :: xs => cut_tail x xs
/-! ### the lines in use -/
def addU (us : List Nat) (l : Nat) : List Nat := if l ∈ us then us else us ++ [l]
def useC (W : Wk) (seen : List (Nat × Nat)) (b us : List Nat) (k : Nat) : Bool := !decide (k ∈ b) && (decide (W.inputs + k ∈ us) || (getN seen (W.inputs + k)).isSome)
def useS (W : Wk) (seen : List (Nat × Nat)) (b us : List Nat) (k : Nat) : List Nat := if useC W seen b us k = true then (W.parts.getD k (.not 0)).lines.foldl addU us else us
/-- the lines in use behind the m last parts -/
def usedN (W : Wk) (seen : List (Nat × Nat)) (b kept : List Nat) : Nat → List Nat
  | 0 => kept
  | m + 1 => useS W seen b (usedN W seen b kept m) (W.parts.length - 1 - m)
def inUse (W : Wk) (us : List Nat) (k : Nat) : List Nat := (List.range' W.inputs (k + 1)).filter fun l => decide (l ∈ us)
def useAt (W : Wk) (seen : List (Nat × Nat)) (b kept : List Nat) (k : Nat) : List Nat := inUse W (usedN W seen b kept (W.parts.length - 1 - k)) k
def useAll (W : Wk) (seen : List (Nat × Nat)) (b kept : List Nat) : List (List Nat) := (List.range W.parts.length).map (useAt W seen b kept)
def usedD (us : List Nat) : PD := dk (us.map fun (l : Nat) => (.inl (l : Int), .bool true))
theorem valD_used (us : List Nat) (l : Nat) : valD (us.map fun (l : Nat) => ((.inl (l : Int) : Ky), PyData.bool true)) (.inl (l : Int)) = if l ∈ us then some (.bool true) else none := by
  unfold valD
  induction us with
  | nil => rfl
  | cons x us ih =>
    rw [List.map_cons, List.find?_cons]
    by_cases h : x = l
    · subst h
      simp
    · have h2 : ¬ ((.inl (x : Int) : Ky) = .inl (l : Int)) := fun z => h (by have := Sum.inl.inj z; omega)
      simp only [h2, decide_false]
      rw [ih]
      have h3 : (l ∈ x :: us) ↔ l ∈ us := by simp [List.mem_cons, Ne.symm h]
      by_cases h4 : l ∈ us
      · rw [if_pos h4, if_pos (h3.mpr h4)]
      · rw [if_neg h4, if_neg (fun z => h4 (h3.mp z))]
theorem putD_used (us : List Nat) (l : Nat) : dk (putD (us.map fun (l : Nat) => ((.inl (l : Int) : Ky), PyData.bool true)) (.inl (l : Int)) (.bool true)) = usedD (addU us l) := by
  unfold usedD addU putD
  have ha : ((us.map fun (l : Nat) => ((.inl (l : Int) : Ky), PyData.bool true)).any fun q => decide (q.1 = .inl (l : Int))) = decide (l ∈ us) := by
    rw [List.any_map]
    induction us with
    | nil => rfl
    | cons x us ih =>
      rw [List.any_cons, ih]
      show (decide ((.inl (x : Int) : Ky) = .inl (l : Int)) || _) = _
      rw [key_eq]
      by_cases h : x = l
      · subst h; simp
      · by_cases h4 : l ∈ us
        · simp [h, h4]
        · simp [h, h4, Ne.symm h]
  rw [ha]
  by_cases h : l ∈ us
  · rw [decide_eq_true h, if_pos rfl, if_pos h]
    congr 1
    rw [List.map_map]
    apply List.map_congr_left
    intro x _
    show (if (.inl (x : Int) : Ky) = .inl (l : Int) then _ else _) = _
    split
    · rfl
    · rfl
  · rw [decide_eq_false h, if_neg Bool.false_ne_true, if_neg h, List.map_append]
    rfl
theorem addU_len (us : List Nat) (l : Nat) : (addU us l).length ≤ us.length + 1 := by
  unfold addU
  split
  · omega
  · rw [List.length_append]; simp
theorem addU_all : ∀ (ls us : List Nat), (ls.foldl addU us).length ≤ us.length + ls.length
  | [], us => Nat.le_refl _
  | l :: ls, us => by
    have h1 := addU_all ls (addU us l)
    have h2 := addU_len us l
    rw [List.foldl_cons, List.length_cons]
    omega
theorem lines_len (p : Pt) : p.lines.length ≤ 3 := by cases p <;> simp [Pt.lines]
theorem usedN_len (W : Wk) (seen : List (Nat × Nat)) (b kept : List Nat) : ∀ m, (usedN W seen b kept m).length ≤ kept.length + 3 * m
  | 0 => Nat.le_refl _
  | m + 1 => by
    have ih := usedN_len W seen b kept m
    show (useS W seen b (usedN W seen b kept m) (W.parts.length - 1 - m)).length ≤ _
    unfold useS
    split
    · have h1 := addU_all (W.parts.getD (W.parts.length - 1 - m) (.not 0)).lines (usedN W seen b kept m)
      have h2 := lines_len (W.parts.getD (W.parts.length - 1 - m) (.not 0))
      omega
    · omega
/-! ### the digits that fit -/
def candN (W : Wk) (b row : List Nat) (k : Nat) : List Nat := if k ∈ b then List.range W.ring else [give W.ring (W.parts.getD k (.not 0)) row]
def fitsN (W : Wk) (seen : List (Nat × Nat)) (k d : Nat) : Bool := decide ((getN seen (W.inputs + k)).getD d = d)
def fitN (W : Wk) (seen : List (Nat × Nat)) (b row : List Nat) (k : Nat) : List Nat := (candN W b row k).filter (fitsN W seen k)
def extN (W : Wk) (seen : List (Nat × Nat)) (b : List Nat) (k : Nat) (rows : List (List Nat)) : List (List Nat) := rows.flatMap fun row => (fitN W seen b row k).map fun d => row ++ [d]
theorem fitN_lt {W : Wk} {seen : List (Nat × Nat)} {b row : List Nat} {k d : Nat} (hW : W.Ok) (hr : ∀ x ∈ row, x < W.ring) (h : d ∈ fitN W seen b row k) : d < W.ring := by
  have h1 := (List.mem_filter.mp h).1
  unfold candN at h1
  split at h1
  · exact List.mem_range.mp h1
  · rw [List.mem_singleton.mp h1]
    exact give_lt hW.r2 hr
def Rows (W : Wk) (k : Nat) (rows : List (List Nat)) : Prop := ∀ row ∈ rows, Row W.ring (W.inputs + k) row
theorem extN_rows {W : Wk} {seen : List (Nat × Nat)} {b : List Nat} {k : Nat} {rows : List (List Nat)} (hW : W.Ok) (h : Rows W k rows) : Rows W (k + 1) (extN W seen b k rows) := fun r hr => by
  unfold extN at hr
  obtain ⟨row, h1, h2⟩ := List.mem_flatMap.mp hr
  obtain ⟨d, h3, rfl⟩ := List.mem_map.mp h2
  exact (h row h1).app (fitN_lt hW (h row h1).2 h3)
/-! ### the rows, thinned -/
def keyN (lines row : List Nat) : List L2.Key := lines.map fun l => .inl ((row.getD l 0 : Nat) : Int)
def rowsP (W : Wk) (l : Lk) (b kept : List Nat) : Nat → List (List Nat)
  | 0 => [l.g]
  | k + 1 => thinA (keyN (useAt W l.seen b kept k)) (extN W l.seen b k (rowsP W l b kept k))
theorem thinA_mem {α κ : Type} [DecidableEq κ] (key : α → κ) (rows : List α) : ∀ x ∈ thinA key rows, x ∈ rows := by
  suffices h : ∀ (rows acc : List α), ∀ x ∈ rows.foldl (thinStep key) acc, x ∈ acc ∨ x ∈ rows from fun x hx => by
    rcases h rows [] x hx with h | h
    · cases h
    · exact h
  intro rows
  induction rows with
  | nil => intro acc x hx; exact .inl hx
  | cons y r ih =>
    intro acc x hx
    rcases ih _ x hx with h | h
    · unfold thinStep at h
      split at h
      · exact .inl h
      · rcases List.mem_append.mp h with h | h
        · exact .inl h
        · rw [List.mem_singleton.mp h]; exact .inr List.mem_cons_self
    · exact .inr (List.mem_cons_of_mem _ h)
theorem rowsP_rows {W : Wk} {l : Lk} {b kept : List Nat} (hW : W.Ok) (hl : l.Ok W) : ∀ k, Rows W k (rowsP W l b kept k)
  | 0 => fun row h => by rw [List.mem_singleton.mp h]; exact hl.g
  | k + 1 => fun row h => extN_rows hW (rowsP_rows hW hl k) row (thinA_mem _ _ _ h)
end DL
namespace DL
open PySem PySem.Spec PyProof.Rows L2
variable [Lam]
/-! ### how many rows -/
theorem candN_len {W : Wk} (hW : W.Ok) (b row : List Nat) (k : Nat) : (candN W b row k).length ≤ W.ring := by
  unfold candN
  split
  · rw [List.length_range]; exact Nat.le_refl _
  · have := hW.r2; simp; omega
theorem extN_len {W : Wk} (hW : W.Ok) (seen : List (Nat × Nat)) (b : List Nat) (k : Nat) : ∀ rows : List (List Nat), (extN W seen b k rows).length ≤ rows.length * W.ring
  | [] => by simp [extN]
  | row :: rows => by
    have ih := extN_len hW seen b k rows
    have h1 : (fitN W seen b row k).length ≤ W.ring := Nat.le_trans (List.length_filter_le _ _) (candN_len hW b row k)
    unfold extN at ih ⊢
    rw [List.flatMap_cons, List.length_append, List.length_map, List.length_cons, Nat.add_mul, Nat.one_mul]
    omega
theorem rowsP_len {W : Wk} (hW : W.Ok) (l : Lk) (b kept : List Nat) : ∀ k, (rowsP W l b kept k).length ≤ W.ring ^ k
  | 0 => Nat.le_refl _
  | k + 1 => by
    have ih := rowsP_len hW l b kept k
    have h1 := thinA_len (keyN (useAt W l.seen b kept k)) (extN W l.seen b k (rowsP W l b kept k))
    have h2 := extN_len hW l.seen b k (rowsP W l b kept k)
    have h3 := Nat.mul_le_mul_right W.ring ih
    rw [Nat.pow_succ]
    show (thinA (keyN (useAt W l.seen b kept k)) (extN W l.seen b k (rowsP W l b kept k))).length ≤ _
    omega
def Wk.Small (W : Wk) : Prop := W.ring ^ W.parts.length < 100000
theorem Wk.Small.at {W : Wk} (h : W.Small) (hW : W.Ok) {k : Nat} (hk : k ≤ W.parts.length) : W.ring ^ k < 100000 := Nat.lt_of_le_of_lt (Nat.pow_le_pow_right (by have := hW.r2; omega) hk) h
theorem extP_len {W : Wk} (h : W.Small) (hW : W.Ok) (l : Lk) (b kept : List Nat) {k : Nat} (hk : k < W.parts.length) : (extN W l.seen b k (rowsP W l b kept k)).length < 100000 := by
  have h1 := h.at hW (k := k + 1) hk
  have h2 := extN_len hW l.seen b k (rowsP W l b kept k)
  have h3 := Nat.mul_le_mul_right W.ring (rowsP_len hW l b kept k)
  rw [Nat.pow_succ] at h1
  omega
end DL

namespace DL
open PySem PySem.Spec PyProof.Rows L2
variable [Lam]
/-- for, with a fact that grows along -/
theorem ds_forQ {X : Cx} {en : En} {tg iter : Expr} {body : List Stmt} {P : Po} {pos : Pos} {α : Type} (xs : List α) (c : α → PD) (I : Nat → En) (Q : Nat → Prop) (hi : DI X en tg iter (xs.map c)) (h0 : Lee (I 0) en) (q0 : Q 0)
    (hb : ∀ (i : Nat) (x : α), xs[i]? = some x → Q i → ∃ is en', DG X (I i) tg (c x) is en' ∧ DSs X en' body { P with nx := fun z => Lee (I (i + 1)) z ∧ Q (i + 1), ct := fun z => Lee (I (i + 1)) z ∧ Q (i + 1), bk := P.nx })
    (hd : Q xs.length → P.nx (I xs.length)) (hp : PassesOwn (model X.prog X.w) X.A X.env X.xe := by exact PassesOwn.never) (hc : X.calm = true := by kernel_rfl) (hs : ∀ x, foldedSetIterable iter X.env x = pure x := by intro _; rfl) : DS X en (.For tg iter body [] pos) P := fun B Bo Ho H σ f D t => by
  obtain ⟨wi, pi, hi⟩ := hi
  refine wS_of (ps_for hp hc pi pg_w pss_w hs) ?_
  refine hi B Bo Ho H σ f _ fun J Ho1 H1 g it => ?_
  have f1 := f.gr g
  have fb := f1.rebase
  refine ⟨fun i m σ2 H2 => ∃ H2o, m = xs.length - i ∧ i ≤ xs.length ∧ Q i ∧ Fit X.K (both B Ho1) Ho1 H2o H2 σ2 (I i), ⟨xs.length, Ho1, by simp, Nat.zero_le _, q0, fb.less h0⟩, ?_⟩
  rintro i m σ2 H2 ⟨H2o, rfl, hle, hq, f2⟩
  have sat : Sat X.K (both B Ho1) Ho1 P D := ⟨fun σ' Ho' H' en' n f' => t.nx σ' Ho' H' en' n (f1.unbase f'), fun v d σ' Ho' H' en' n m f' r => t.rt v d σ' Ho' H' en' n m (f1.unbase f') r.unbase, fun σ' Ho' H' en' n f' => t.bk σ' Ho' H' en' n (f1.unbase f'), fun σ' Ho' H' en' n f' => t.ct σ' Ho' H' en' n (f1.unbase f')⟩
  obtain ⟨go, stop⟩ := it H2o H2 f2.boh f2.hoh i
  by_cases hlt : i < xs.length
  · have hx := List.getElem?_eq_getElem hlt
    obtain ⟨go, yl⟩ := go (c xs[i]) (by rw [List.getElem?_map, hx]; rfl)
    obtain ⟨is, en', dg, db⟩ := hb i _ hx hq
    refine .inr ⟨go, fun σ' H' => ∃ Ho', Q (i + 1) ∧ Fit X.K (both B Ho1) Ho1 Ho' H' σ' (I (i + 1)), fun σ' H' ⟨Ho', q', f'⟩ => ⟨_, by omega, Ho', rfl, hlt, q', f'⟩, fun x H3 y => ?_⟩
    obtain ⟨H3o, g3, r3⟩ := yl x H3 y
    refine dg _ _ _ _ _ (f2.gr g3) x r3 _ fun σ3 _ f3 => ?_
    refine db _ _ _ _ _ f3 _ ⟨fun σ' Ho' H' en' n f' => ⟨Ho', n.2, f'.less n.1⟩, sat.rt, sat.nx, fun σ' Ho' H' en' n f' => ⟨Ho', n.2, f'.less n.1⟩⟩
  · have e : i = xs.length := by omega
    subst e
    exact .inl ⟨stop (by rw [List.length_map]; exact Nat.le_refl _), sat.nx σ2 H2o H2 _ (hd hq) f2⟩
section
variable {X : Cx} {en : En} {a : Expr} {pos pos2 : Pos} {ka : Kd} {d : PD}
def isNo : PD → Bool
  | .none => true
  | _ => false
theorem dt_isN (ha : DE X en a ka d) {j} (hs : ka ≠ .o := by decide) : DT X en (.Compare a [.Is] [.Constant .none j pos2] pos) (isNo d) := fun B Bo Ho H σ f Q q => by
  refine wT_of (pt_cmpR op_isN pe_w pe_non rfl) ?_
  refine ha B Bo Ho H σ f _ fun v H1o H1 g1 r1 => ?_
  refine ⟨rfl, isNo d, ?_, q H1o H1 g1⟩
  have r := r1.rpt g1.s
  cases r <;> rfl
theorem dt_isNot (ha : DE X en a ka d) {j} (hs : ka ≠ .o := by decide) : DT X en (.Compare a [.IsNot] [.Constant .none j pos2] pos) (!isNo d) := fun B Bo Ho H σ f Q q => by
  refine wT_of (pt_cmpR op_notN pe_w pe_non rfl) ?_
  refine ha B Bo Ho H σ f _ fun v H1o H1 g1 r1 => ?_
  refine ⟨rfl, !isNo d, ?_, q H1o H1 g1⟩
  have r := r1.rpt g1.s
  cases r <;> rfl
end
/-! ### rooms -/
def optD : Option (List Nat) → PD
  | none => .none
  | some r => rowT r
def roomO (W : Wk) (l : Lk) (b : List Nat) : Option (List Nat) := (rowsP W l b [] W.parts.length).head?
/-! ### the law's rows -/
def rowsL (W : Wk) (g : List Nat) (seen : List (Nat × Nat)) (b : List Nat) : Nat → List (List Nat)
  | 0 => [g]
  | k + 1 => extN W seen b k (rowsL W g seen b k)
theorem rowsL_rows {W : Wk} {g : List Nat} {seen : List (Nat × Nat)} {b : List Nat} (hW : W.Ok) (hg : Row W.ring W.inputs g) : ∀ k, Rows W k (rowsL W g seen b k)
  | 0 => fun row h => by rw [List.mem_singleton.mp h]; exact hg
  | k + 1 => extN_rows hW (rowsL_rows hW hg k)
theorem rowsL_len {W : Wk} (hW : W.Ok) (g : List Nat) (seen : List (Nat × Nat)) (b : List Nat) : ∀ k, (rowsL W g seen b k).length ≤ W.ring ^ k
  | 0 => Nat.le_refl _
  | k + 1 => by
    have ih := rowsL_len hW g seen b k
    have h2 := extN_len hW seen b k (rowsL W g seen b k)
    have h3 := Nat.mul_le_mul_right W.ring ih
    rw [Nat.pow_succ]
    exact Nat.le_trans h2 h3
def firstL (W : Wk) (g : List Nat) (seen : List (Nat × Nat)) (b : List Nat) : Option (List Nat) := (rowsL W g seen b W.parts.length).head?
end DL

namespace DL
open PySem PySem.Spec PyProof.Rows L2
variable [Lam]
/-! ### the law's inputs, looks, sets -/
def p5 : List Nat := [1, 5, 25, 125, 625, 3125]
def p3 : List Nat := [1, 3, 9, 27, 81, 243, 729, 2187, 6561, 19683]
theorem p5_at (k : Nat) (h : k < 6) : atI (p5.map nD) (k : Int) = some (nD (p5.getD k 1)) ∧ 0 < p5.getD k 1 ∧ p5.getD k 1 < 1073741824 := by
  match k, h with
  | 0, _ => exact ⟨rfl, by decide, by decide⟩
  | 1, _ => exact ⟨rfl, by decide, by decide⟩
  | 2, _ => exact ⟨rfl, by decide, by decide⟩
  | 3, _ => exact ⟨rfl, by decide, by decide⟩
  | 4, _ => exact ⟨rfl, by decide, by decide⟩
  | 5, _ => exact ⟨rfl, by decide, by decide⟩
theorem p3_at (k : Nat) (h : k < 10) : atI (p3.map nD) (k : Int) = some (nD (p3.getD k 1)) ∧ 0 < p3.getD k 1 ∧ p3.getD k 1 < 1073741824 := by
  match k, h with
  | 0, _ => exact ⟨rfl, by decide, by decide⟩
  | 1, _ => exact ⟨rfl, by decide, by decide⟩
  | 2, _ => exact ⟨rfl, by decide, by decide⟩
  | 3, _ => exact ⟨rfl, by decide, by decide⟩
  | 4, _ => exact ⟨rfl, by decide, by decide⟩
  | 5, _ => exact ⟨rfl, by decide, by decide⟩
  | 6, _ => exact ⟨rfl, by decide, by decide⟩
  | 7, _ => exact ⟨rfl, by decide, by decide⟩
  | 8, _ => exact ⟨rfl, by decide, by decide⟩
  | 9, _ => exact ⟨rfl, by decide, by decide⟩
def gvN (W : Wk) (cell : Nat) : List Nat := (List.range W.inputs).map fun k => cell / p5.getD k 1 % W.ring
theorem gvN_row {W : Wk} (cell : Nat) (hW : W.Ok) : Row W.ring W.inputs (gvN W cell) :=
  ⟨by unfold gvN; rw [List.length_map, List.length_range], fun x hx => by
    obtain ⟨k, _, rfl⟩ := List.mem_map.mp hx
    exact Nat.mod_lt _ (by have := hW.r2; omega)⟩
def tolL (W : Wk) (more : Nat) : Nat → List (Nat × Nat)
  | 0 => []
  | n + 1 => putN (tolL W more n) (more / 3 / (1 + 6 * n) % W.parts.length) (more / 40 / (1 + 4 * n) % W.ring)
theorem tolL_ok {W : Wk} (hW : W.Ok) (more : Nat) : ∀ n, ToldOk W.ring (tolL W more n) ∧ (tolL W more n).length ≤ n
  | 0 => ⟨(fun _ h => by cases h), Nat.le_refl _⟩
  | n + 1 => by
    obtain ⟨h1, h3⟩ := tolL_ok hW more n
    have hr := hW.r2
    refine ⟨putN_ok h1 (Nat.mod_lt _ (by omega)), ?_⟩
    have := putN_len (tolL W more n) (more / 3 / (1 + 6 * n) % W.parts.length) (more / 40 / (1 + 4 * n) % W.ring)
    show (putN _ _ _).length ≤ n + 1
    omega
def dg1 (W : Wk) (more d0 k : Nat) : Nat := if more / 11 % 9 = 5 then (d0 + more / (13 + k)) % W.ring else d0
def dg2 (W : Wk) (more d1 k : Nat) : Nat := if 5 < more / 11 % 9 ∧ k + 1 = W.parts.length then (d1 + 1) % W.ring else d1
def dgL (W : Wk) (more : Nat) (digits : List Nat) (k : Nat) : Nat := dg2 W more (dg1 W more (digits.getD (W.inputs + k) 0) k) k
def isL (W : Wk) (more k : Nat) : Bool := decide (more / 200 / (1 + k) % 3 = 1) || (decide (k + 1 = W.parts.length) && decide (0 < more / 7 % 4))
def seenL (W : Wk) (more : Nat) (digits : List Nat) : Nat → List (Nat × Nat)
  | 0 => []
  | k + 1 => seenL W more digits k ++ if isL W more k = true then [(W.inputs + k, dgL W more digits k)] else []
theorem dgL_lt {W : Wk} (hW : W.Ok) {more : Nat} {digits : List Nat} (hd : ∀ x ∈ digits, x < W.ring) (k : Nat) : dgL W more digits k < W.ring := by
  have hr := hW.r2
  have h0 : digits.getD (W.inputs + k) 0 < W.ring := by
    rw [List.getD_eq_getElem?_getD]
    cases q : digits[W.inputs + k]? with
    | none => show 0 < W.ring; omega
    | some x => exact hd x (List.mem_of_getElem? q)
  have h1 : dg1 W more (digits.getD (W.inputs + k) 0) k < W.ring := by
    unfold dg1
    split
    · exact Nat.mod_lt _ (by omega)
    · exact h0
  unfold dgL dg2
  split
  · exact Nat.mod_lt _ (by omega)
  · exact h1
theorem seenL_ok {W : Wk} (hW : W.Ok) {more : Nat} {digits : List Nat} (hd : ∀ x ∈ digits, x < W.ring) : ∀ n, (∀ p ∈ seenL W more digits n, W.inputs ≤ p.1 ∧ p.1 < W.inputs + n ∧ p.2 < W.ring) ∧ ((seenL W more digits n).map (·.1)).Pairwise (· < ·) ∧ (seenL W more digits n).length ≤ n
  | 0 => ⟨(fun _ h => by cases h), List.Pairwise.nil, Nat.le_refl _⟩
  | n + 1 => by
    obtain ⟨h1, h2, h3⟩ := seenL_ok hW hd n
    have e : seenL W more digits (n + 1) = seenL W more digits n ++ if isL W more n = true then [(W.inputs + n, dgL W more digits n)] else [] := rfl
    rw [e]
    by_cases c : isL W more n = true
    · rw [if_pos c]
      refine ⟨fun p hp => ?_, ?_, by rw [List.length_append]; simp; omega⟩
      · rcases List.mem_append.mp hp with h | h
        · have := h1 p h; omega
        · rw [List.mem_singleton.mp h]
          exact ⟨by show W.inputs ≤ W.inputs + n; omega, by show W.inputs + n < _; omega, dgL_lt hW hd n⟩
      · rw [List.map_append]
        refine List.pairwise_append.mpr ⟨h2, List.pairwise_singleton _ _, fun a ha b hb => ?_⟩
        obtain ⟨p, hp, rfl⟩ := List.mem_map.mp ha
        have hb' : b = W.inputs + n := by simpa using hb
        have := h1 p hp
        omega
    · rw [if_neg c, List.append_nil]
      exact ⟨fun p hp => by have := h1 p hp; omega, h2, by omega⟩
def lookL (W : Wk) (cell more : Nat) : Lk := ⟨gvN W cell, seenL W more (wrunW W (tolL W more (more % 3)) (gvN W cell)) W.parts.length⟩
theorem lookL_ok {W : Wk} (hW : W.Ok) (cell more : Nat) : (lookL W cell more).Ok W := by
  have hg := gvN_row cell hW
  have hr := wrunW_row hW (tolL_ok hW more (more % 3)).1 hg
  obtain ⟨h1, h2, h3⟩ := seenL_ok (more := more) hW hr.2 W.parts.length
  exact ⟨hg, h1, h2, by have := hW.p10; exact Nat.le_trans h3 (by omega)⟩
def looksL (W : Wk) (ns : List Int) (first m : Nat) : List Lk := (List.range m).map fun k => lookL W (mix ns (first + 1 + 2 * k)) (mix ns (first + 2 + 2 * k))
def drawL (cell many : Nat) : List Nat := (List.range many).filter fun p => decide (cell / p3.getD p 1 % 3 = 1)
theorem drawL_lt {cell many : Nat} : ∀ k ∈ drawL cell many, k < many := fun k h => List.mem_range.mp (List.mem_filter.mp h).1
theorem range_rise (n : Nat) : (List.range n).Pairwise (· < ·) := by
  induction n with
  | zero => exact List.Pairwise.nil
  | succ n ih =>
    rw [List.range_succ]
    exact List.pairwise_append.mpr ⟨ih, List.pairwise_singleton _ _, fun a ha b hb => by have h1 := List.mem_range.mp ha; have h2 : b = n := (by simpa using hb); omega⟩
theorem drawL_rise (cell many : Nat) : (drawL cell many).Pairwise (· < ·) := (range_rise many).filter _
end DL

namespace DL
open PySem PySem.Spec PyProof.Rows L2 PySem.W
variable [Lam]
/-! ### rows rise -/
def LtR : List Nat → List Nat → Prop
  | x :: xs, y :: ys => x < y ∨ (x = y ∧ LtR xs ys)
  | _, _ => False
theorem LtR.app : ∀ {a b : List Nat} (u v : List Nat), LtR a b → LtR (a ++ u) (b ++ v)
  | [], _, _, _, h => h.elim
  | _ :: _, [], _, _, h => h.elim
  | x :: xs, y :: ys, u, v, h => by
    rcases h with h | ⟨h, r⟩
    · exact .inl h
    · exact .inr ⟨h, LtR.app u v r⟩
theorem LtR.last : ∀ (a : List Nat) {d e : Nat}, d < e → LtR (a ++ [d]) (a ++ [e])
  | [], _, _, h => .inl h
  | x :: xs, _, _, h => .inr ⟨rfl, LtR.last xs h⟩
theorem fitN_rise (W : Wk) (seen : List (Nat × Nat)) (b row : List Nat) (k : Nat) : (fitN W seen b row k).Pairwise (· < ·) := by
  unfold fitN candN
  refine List.Pairwise.filter _ ?_
  split
  · exact range_rise _
  · exact List.pairwise_singleton _ _
theorem extN_rise {W : Wk} {seen : List (Nat × Nat)} {b : List Nat} {k : Nat} {rows : List (List Nat)} (h : rows.Pairwise LtR) : (extN W seen b k rows).Pairwise LtR := by
  unfold extN
  refine List.pairwise_flatMap.mpr ⟨fun row _ => ?_, h.imp fun {a c} h x hx y hy => ?_⟩
  · exact List.pairwise_map.mpr ((fitN_rise W seen b row k).imp fun h => LtR.last row h)
  · obtain ⟨d, _, rfl⟩ := List.mem_map.mp hx
    obtain ⟨e, _, rfl⟩ := List.mem_map.mp hy
    exact LtR.app _ _ h
theorem rowsL_rise (W : Wk) (g : List Nat) (seen : List (Nat × Nat)) (b : List Nat) : ∀ k, (rowsL W g seen b k).Pairwise LtR
  | 0 => List.pairwise_singleton _ _
  | k + 1 => extN_rise (rowsL_rise W g seen b k)
theorem lt_rows : ∀ {r s : List Nat}, LtR s r → PyProof.Rows.lexLt itemOrd (keyToksAll (r.map nD)) (keyToksAll (s.map nD)) = false
  | _, [], h => h.elim
  | [], _ :: _, h => h.elim
  | x :: r, y :: s, h => by
    rw [List.map_cons, List.map_cons]
    have ha : alike (nD x) (nD y) = true := rfl
    by_cases e : x = y
    · subst e
      rw [dataLt_all_yes ha (by simp [nD, PyData.eqv])]
      rcases h with h | ⟨_, h⟩
      · omega
      · exact lt_rows h
    · rw [dataLt_all_no ha (by show PyData.eqv (.int (x : Int)) (.int (y : Int)) = false; simp [PyData.eqv]; omega)]
      show dataLt (.int (x : Int)) (.int (y : Int)) = false
      rw [dataLt_int]
      rcases h with h | ⟨h, _⟩
      · exact decide_eq_false (by omega)
      · omega
theorem min_first {r : List Nat} {rows : List (List Nat)} (h : (r :: rows).Pairwise LtR) : minD (rowL r) (rows.map rowL) = rowL r := by
  have h1 := (List.pairwise_cons.mp h).1
  unfold minD
  suffices q : ∀ l : List (List Nat), (∀ s ∈ l, LtR r s) → (l.map rowL).foldl (fun a y => if dataLt y a = true then y else a) (rowL r) = rowL r from q rows h1
  intro l
  induction l with
  | nil => intro _; rfl
  | cons s l ih =>
    intro hl
    rw [List.map_cons, List.foldl_cons]
    have e : dataLt (rowL s) (rowL r) = false := by
      show dataLt (.list _) (.list _) = false
      rw [dataLt_list]
      exact lt_rows (hl s List.mem_cons_self)
    rw [e, if_neg Bool.false_ne_true]
    exact ih fun s hs => hl s (List.mem_cons_of_mem _ hs)
/-! ### going on from a row -/
def runN (W : Wk) (seen : List (Nat × Nat)) (b : List Nat) : Nat → Nat → List (List Nat) → List (List Nat)
  | 0, _, rows => rows
  | m + 1, k, rows => runN W seen b m (k + 1) (extN W seen b k rows)
theorem extN_flat (W : Wk) (seen : List (Nat × Nat)) (b : List Nat) (k : Nat) (rows : List (List Nat)) : extN W seen b k rows = rows.flatMap fun row => extN W seen b k [row] := by
  unfold extN
  congr 1
  funext row
  simp
theorem extN_app (W : Wk) (seen : List (Nat × Nat)) (b : List Nat) (k : Nat) (r s : List (List Nat)) : extN W seen b k (r ++ s) = extN W seen b k r ++ extN W seen b k s := by
  unfold extN
  exact List.flatMap_append
theorem runN_app (W : Wk) (seen : List (Nat × Nat)) (b : List Nat) : ∀ (m k : Nat) (r s : List (List Nat)), runN W seen b m k (r ++ s) = runN W seen b m k r ++ runN W seen b m k s
  | 0, _, _, _ => rfl
  | m + 1, k, r, s => by
    show runN W seen b m (k + 1) (extN W seen b k (r ++ s)) = _
    rw [extN_app, runN_app]
    rfl
theorem runN_nil (W : Wk) (seen : List (Nat × Nat)) (b : List Nat) : ∀ (m k : Nat), runN W seen b m k [] = []
  | 0, _ => rfl
  | m + 1, k => runN_nil W seen b m (k + 1)
theorem runN_flat (W : Wk) (seen : List (Nat × Nat)) (b : List Nat) (m k : Nat) : ∀ rows : List (List Nat), runN W seen b m k rows = rows.flatMap fun row => runN W seen b m k [row]
  | [] => runN_nil W seen b m k
  | r :: rows => by
    rw [List.flatMap_cons, ← runN_flat W seen b m k rows, ← runN_app]
    rfl
theorem runN_rowsL (W : Wk) (g : List Nat) (seen : List (Nat × Nat)) (b : List Nat) : ∀ (m k : Nat), runN W seen b m k (rowsL W g seen b k) = rowsL W g seen b (k + m)
  | 0, k => rfl
  | m + 1, k => by
    have := runN_rowsL W g seen b m (k + 1)
    rw [show k + (m + 1) = k + 1 + m by omega]
    exact this
/-! ### what is used -/
theorem mem_addU {us : List Nat} {l x : Nat} : x ∈ addU us l ↔ x ∈ us ∨ x = l := by
  unfold addU
  split
  · rename_i h
    constructor
    · exact .inl
    · rintro (h1 | h1)
      · exact h1
      · rw [h1]; exact h
  · rw [List.mem_append, List.mem_singleton]
theorem mem_addUs : ∀ {ls us : List Nat} {x : Nat}, x ∈ ls.foldl addU us ↔ x ∈ us ∨ x ∈ ls
  | [], us, x => by simp
  | l :: ls, us, x => by
    rw [List.foldl_cons, mem_addUs, mem_addU, List.mem_cons]
    constructor
    · rintro ((h | h) | h)
      · exact .inl h
      · exact .inr (.inl h)
      · exact .inr (.inr h)
    · rintro (h | h | h)
      · exact .inl (.inl h)
      · exact .inl (.inr h)
      · exact .inr h
theorem usedN_mono {W : Wk} {seen : List (Nat × Nat)} {b kept : List Nat} {m x : Nat} (h : x ∈ usedN W seen b kept m) : x ∈ usedN W seen b kept (m + 1) := by
  show x ∈ useS W seen b (usedN W seen b kept m) (W.parts.length - 1 - m)
  unfold useS
  split
  · exact mem_addUs.mpr (.inl h)
  · exact h
/-- two rows that go on alike -/
structure Agree (W : Wk) (l : Lk) (b kept : List Nat) (k : Nat) (r s : List Nat) : Prop where
  lr : r.length = W.inputs + k
  ls : s.length = W.inputs + k
  eq : ∀ x, x < W.inputs + k → (x < W.inputs ∨ x ∈ usedN W l.seen b kept (W.parts.length - k)) → r.getD x 0 = s.getD x 0
theorem getD_app {r : List Nat} {d x : Nat} (h : x < r.length) : (r ++ [d]).getD x 0 = r.getD x 0 := by
  rw [List.getD_eq_getElem?_getD, List.getElem?_append_left h, ← List.getD_eq_getElem?_getD]
theorem getD_last {r : List Nat} {d : Nat} : (r ++ [d]).getD r.length 0 = d := by
  rw [List.getD_eq_getElem?_getD, List.getElem?_append_right (Nat.le_refl _), Nat.sub_self]
  rfl
inductive All2 {α : Type} (R : α → α → Prop) : List α → List α → Prop
  | nil : All2 R [] []
  | cons {a b : α} {l m : List α} : R a b → All2 R l m → All2 R (a :: l) (b :: m)
theorem All2.app {α : Type} {R : α → α → Prop} : ∀ {a b c d : List α}, All2 R a b → All2 R c d → All2 R (a ++ c) (b ++ d)
  | _, _, _, _, .nil, h => h
  | _, _, _, _, .cons h r, q => .cons h (All2.app r q)
theorem All2.nil_iff {α : Type} {R : α → α → Prop} : ∀ {a b : List α}, All2 R a b → (a = [] ↔ b = [])
  | _, _, .nil => Iff.rfl
  | _, _, .cons _ _ => ⟨fun h => (by cases h), fun h => (by cases h)⟩
theorem All2.of_map {α β : Type} {R : α → α → Prop} (f g : β → α) : ∀ (l : List β), (∀ x ∈ l, R (f x) (g x)) → All2 R (l.map f) (l.map g)
  | [], _ => .nil
  | x :: l, h => .cons (h x List.mem_cons_self) (All2.of_map f g l fun y hy => h y (List.mem_cons_of_mem _ hy))
theorem agree_step {W : Wk} {l : Lk} {b kept : List Nat} {k : Nat} (hW : W.Ok) (hk : k < W.parts.length) {r s : List Nat} (h : Agree W l b kept k r s) : All2 (Agree W l b kept (k + 1)) (extN W l.seen b k [r]) (extN W l.seen b k [s]) := by
  have er : extN W l.seen b k [r] = (fitN W l.seen b r k).map fun d => r ++ [d] := by unfold extN; simp
  have es : extN W l.seen b k [s] = (fitN W l.seen b s k).map fun d => s ++ [d] := by unfold extN; simp
  have hm : W.parts.length - k = W.parts.length - (k + 1) + 1 := by omega
  have hp := List.getElem?_eq_getElem hk
  have hget : W.parts.getD k (.not 0) = W.parts[k] := by rw [List.getD_eq_getElem?_getD, hp]; rfl
  have hidx : W.parts.length - 1 - (W.parts.length - (k + 1)) = k := by omega
  -- the lines ahead agree
  have old : ∀ d e x, x < W.inputs + k → (x < W.inputs ∨ x ∈ usedN W l.seen b kept (W.parts.length - (k + 1))) → (r ++ [d]).getD x 0 = (s ++ [e]).getD x 0 := fun d e x hx hu => by
    rw [getD_app (by rw [h.lr]; exact hx), getD_app (by rw [h.ls]; exact hx)]
    exact h.eq x hx (hu.imp id fun q => by rw [hm]; exact usedN_mono q)
  have mk : ∀ d e, (d = e ∨ W.inputs + k ∉ usedN W l.seen b kept (W.parts.length - (k + 1))) → Agree W l b kept (k + 1) (r ++ [d]) (s ++ [e]) := fun d e hde => by
    refine ⟨by rw [List.length_append, h.lr]; rfl, by rw [List.length_append, h.ls]; rfl, fun x hx hu => ?_⟩
    by_cases hx2 : x < W.inputs + k
    · exact old d e x hx2 hu
    · have hx3 : x = W.inputs + k := by omega
      have e1 : (r ++ [d]).getD x 0 = d := by rw [hx3, ← h.lr]; exact getD_last
      have e2 : (s ++ [e]).getD x 0 = e := by rw [hx3, ← h.ls]; exact getD_last
      rw [e1, e2]
      rcases hde with q | q
      · exact q
      · rcases hu with hu | hu
        · omega
        · rw [hx3] at hu; exact absurd hu q
  rw [er, es]
  by_cases hb : k ∈ b
  · have e1 : fitN W l.seen b r k = fitN W l.seen b s k := by unfold fitN candN; rw [if_pos hb, if_pos hb]
    rw [e1]
    exact All2.of_map _ _ _ fun d _ => mk d d (.inl rfl)
  · by_cases hc : useC W l.seen b (usedN W l.seen b kept (W.parts.length - (k + 1))) k = true
    · have hu : usedN W l.seen b kept (W.parts.length - k) = (W.parts[k].lines).foldl addU (usedN W l.seen b kept (W.parts.length - (k + 1))) := by
        rw [hm]
        show useS W l.seen b _ (W.parts.length - 1 - (W.parts.length - (k + 1))) = _
        rw [hidx]
        unfold useS
        rw [if_pos hc, hget]
      have eg : give W.ring W.parts[k] r = give W.ring W.parts[k] s := give_eq fun x hx => h.eq x (hW.lines k _ hp x hx) (.inr (by rw [hu]; exact mem_addUs.mpr (.inr hx)))
      have e1 : fitN W l.seen b r k = fitN W l.seen b s k := by unfold fitN candN; rw [if_neg hb, if_neg hb, hget, eg]
      rw [e1]
      exact All2.of_map _ _ _ fun d _ => mk d d (.inl rfl)
    · -- nothing hangs on this line
      unfold useC at hc
      rw [decide_eq_false hb] at hc
      simp only [Bool.not_false, Bool.true_and, Bool.or_eq_true, decide_eq_true_eq, not_or] at hc
      have hn : getN l.seen (W.inputs + k) = none := by
        cases q : getN l.seen (W.inputs + k) with
        | none => rfl
        | some v => rw [q] at hc; exact absurd rfl hc.2
      have one : ∀ row : List Nat, fitN W l.seen b row k = [give W.ring W.parts[k] row] := fun row => by
        unfold fitN candN
        rw [if_neg hb, hget]
        refine List.filter_eq_self.mpr fun x _ => ?_
        unfold fitsN
        rw [hn]
        exact decide_eq_true rfl
      rw [one, one]
      exact .cons (mk _ _ (.inr hc.1)) .nil
theorem agree_all {W : Wk} {l : Lk} {b kept : List Nat} {k : Nat} (hW : W.Ok) (hk : k < W.parts.length) : ∀ {rs ss : List (List Nat)}, All2 (Agree W l b kept k) rs ss → All2 (Agree W l b kept (k + 1)) (extN W l.seen b k rs) (extN W l.seen b k ss)
  | _, _, .nil => .nil
  | r :: rs, s :: ss, .cons h q => by
    have e1 := extN_app W l.seen b k [r] rs
    have e2 := extN_app W l.seen b k [s] ss
    rw [show r :: rs = [r] ++ rs from rfl, show s :: ss = [s] ++ ss from rfl, e1, e2]
    exact (agree_step hW hk h).app (agree_all hW hk q)
theorem agree_run {W : Wk} {l : Lk} {b kept : List Nat} (hW : W.Ok) : ∀ (m k : Nat), k + m = W.parts.length → ∀ {rs ss : List (List Nat)}, All2 (Agree W l b kept k) rs ss → All2 (Agree W l b kept W.parts.length) (runN W l.seen b m k rs) (runN W l.seen b m k ss)
  | 0, k, e, _, _, h => by
    have : k = W.parts.length := by omega
    subst this
    exact h
  | m + 1, k, e, _, _, h => agree_run hW m (k + 1) (by omega) (agree_all hW (by omega) h)
/-! ### thinning -/
theorem thin_key {α κ : Type} [DecidableEq κ] (key : α → κ) (acc : List α) (x : α) (h : (acc.any fun y => decide (key y = key x)) = true) : ∃ y ∈ acc, key y = key x := by
  obtain ⟨y, hy, e⟩ := List.any_eq_true.mp h
  exact ⟨y, hy, of_decide_eq_true e⟩
theorem snoc_ind {α : Type} {P : List α → Prop} (h0 : P []) (h1 : ∀ l x, P l → P (l ++ [x])) (l : List α) : P l := by
  have q : ∀ l : List α, P l.reverse := fun l => by
    induction l with
    | nil => exact h0
    | cons x l ih => rw [List.reverse_cons]; exact h1 _ _ ih
  have := q l.reverse
  rwa [List.reverse_reverse] at this
theorem head_app {β : Type} (a b : List β) : (a ++ b).head? = if a = [] then b.head? else a.head? := by
  cases a with
  | nil => rfl
  | cons x a => rfl
theorem thin_head {α β κ : Type} [DecidableEq κ] (key : α → κ) (f : α → List β) (rows : List α) : (∀ x ∈ rows, ∀ y ∈ rows, key x = key y → (f x = [] ↔ f y = [])) → ((thinA key rows).flatMap f).head? = (rows.flatMap f).head? := by
  refine snoc_ind (P := fun rows => (∀ x ∈ rows, ∀ y ∈ rows, key x = key y → (f x = [] ↔ f y = [])) → ((thinA key rows).flatMap f).head? = (rows.flatMap f).head?) (fun _ => rfl) (fun l x ih h => ?_) rows
  have ih := ih fun a ha c hc e => h a (List.mem_append_left _ ha) c (List.mem_append_left _ hc) e
  have hnil : (thinA key l).flatMap f = [] ↔ l.flatMap f = [] := by
    rw [← List.head?_eq_none_iff, ← List.head?_eq_none_iff, ih]
  rw [thinA_snoc]
  unfold thinStep
  rw [List.flatMap_append, show [x].flatMap f = f x by simp]
  by_cases hk : (thinA key l).any (fun y => decide (key y = key x)) = true
  · rw [if_pos hk, ih, head_app]
    obtain ⟨y, hy, e⟩ := thin_key key _ x hk
    have hyl := thinA_mem key l y hy
    by_cases hl : l.flatMap f = []
    · rw [if_pos hl]
      have hfy : f y = [] := by
        have := List.flatMap_eq_nil_iff.mp hl y hyl
        exact this
      have hfx := (h y (List.mem_append_left _ hyl) x (List.mem_append_right _ (List.mem_singleton.mpr rfl)) e).mp hfy
      rw [hl, hfx]
    · rw [if_neg hl]
  · rw [if_neg hk, List.flatMap_append, show [x].flatMap f = f x by simp, head_app, head_app]
    by_cases hl : l.flatMap f = []
    · rw [if_pos hl, if_pos (hnil.mpr hl)]
    · rw [if_neg hl, if_neg (fun z => hl (hnil.mp z)), ih]
theorem thin_rep {α κ : Type} [DecidableEq κ] (key : α → κ) (rows : List α) : ∀ x ∈ rows, ∃ y ∈ thinA key rows, key y = key x := by
  refine snoc_ind (P := fun rows => ∀ x ∈ rows, ∃ y ∈ thinA key rows, key y = key x) (fun x h => by cases h) (fun l x ih z hz => ?_) rows
  rw [thinA_snoc]
  unfold thinStep
  rcases List.mem_append.mp hz with hz | hz
  · obtain ⟨y, hy, e⟩ := ih z hz
    split
    · exact ⟨y, hy, e⟩
    · exact ⟨y, List.mem_append_left _ hy, e⟩
  · rw [List.mem_singleton.mp hz]
    split
    · rename_i hk
      exact thin_key key _ x hk
    · exact ⟨x, List.mem_append_right _ (List.mem_singleton.mpr rfl), rfl⟩
/-! ### the rows begin with the inputs -/
theorem extN_pre {W : Wk} {seen : List (Nat × Nat)} {b g : List Nat} {k n : Nat} {rows : List (List Nat)} (hl : ∀ row ∈ rows, n ≤ row.length) (h : ∀ row ∈ rows, ∀ x, x < n → row.getD x 0 = g.getD x 0) : ∀ row ∈ extN W seen b k rows, ∀ x, x < n → row.getD x 0 = g.getD x 0 := fun row hr x hx => by
  unfold extN at hr
  obtain ⟨r0, h1, h2⟩ := List.mem_flatMap.mp hr
  obtain ⟨d, _, rfl⟩ := List.mem_map.mp h2
  rw [getD_app (by have := hl r0 h1; omega)]
  exact h r0 h1 x hx
theorem rowsP_pre {W : Wk} {l : Lk} {b kept : List Nat} (hW : W.Ok) (hl : l.Ok W) : ∀ k, ∀ row ∈ rowsP W l b kept k, ∀ x, x < W.inputs → row.getD x 0 = l.g.getD x 0
  | 0 => fun row h x _ => by rw [List.mem_singleton.mp h]
  | k + 1 => fun row h => extN_pre (fun r hr => by rw [(rowsP_rows hW hl k r hr).1]; omega) (rowsP_pre hW hl k) row (thinA_mem _ _ _ h)
theorem key_agree {W : Wk} {l : Lk} {b kept : List Nat} (hW : W.Ok) (hl : l.Ok W) {k : Nat} (hk : k < W.parts.length) {r s : List Nat} (hr : r ∈ extN W l.seen b k (rowsP W l b kept k)) (hs : s ∈ extN W l.seen b k (rowsP W l b kept k)) (e : keyN (useAt W l.seen b kept k) r = keyN (useAt W l.seen b kept k) s) : Agree W l b kept (k + 1) r s := by
  have h1 := extN_rows (seen := l.seen) (b := b) hW (rowsP_rows (b := b) (kept := kept) hW hl k)
  have pre := extN_pre (W := W) (seen := l.seen) (b := b) (g := l.g) (k := k) (n := W.inputs) (rows := rowsP W l b kept k) (fun r hr => by rw [(rowsP_rows hW hl k r hr).1]; omega) (rowsP_pre hW hl k)
  refine ⟨(h1 r hr).1, (h1 s hs).1, fun x hx hu => ?_⟩
  by_cases hi : x < W.inputs
  · rw [pre r hr x hi, pre s hs x hi]
  · have hu : x ∈ usedN W l.seen b kept (W.parts.length - (k + 1)) := by
      rcases hu with h | h
      · exact absurd h hi
      · exact h
    have hm : x ∈ useAt W l.seen b kept k := by
      unfold useAt inUse
      rw [show W.parts.length - 1 - k = W.parts.length - (k + 1) by omega]
      exact List.mem_filter.mpr ⟨List.mem_range'.mpr ⟨x - W.inputs, by omega, by omega⟩, decide_eq_true hu⟩
    have q : ∀ ls : List Nat, keyN ls r = keyN ls s → ∀ x ∈ ls, r.getD x 0 = s.getD x 0 := fun ls => by
      induction ls with
      | nil => intro _ x hx; cases hx
      | cons y ls ih =>
        intro e x hx
        unfold keyN at e ih
        rw [List.map_cons, List.map_cons] at e
        have e1 := (List.cons.inj e).1
        rcases List.mem_cons.mp hx with rfl | hx
        · have := Sum.inl.inj e1; omega
        · exact ih (List.cons.inj e).2 x hx
    exact q _ e x hm
/-- the completions of what stands behind k parts -/
def comps (W : Wk) (l : Lk) (b kept : List Nat) (k : Nat) : List (List Nat) := runN W l.seen b (W.parts.length - k) k (rowsP W l b kept k)
theorem comps_next (W : Wk) (l : Lk) (b kept : List Nat) {k : Nat} (hk : k < W.parts.length) : comps W l b kept k = (extN W l.seen b k (rowsP W l b kept k)).flatMap fun row => runN W l.seen b (W.parts.length - (k + 1)) (k + 1) [row] := by
  unfold comps
  rw [show W.parts.length - k = W.parts.length - (k + 1) + 1 by omega, ← runN_flat]
  rfl
theorem comps_succ (W : Wk) (l : Lk) (b kept : List Nat) (k : Nat) : comps W l b kept (k + 1) = (thinA (keyN (useAt W l.seen b kept k)) (extN W l.seen b k (rowsP W l b kept k))).flatMap fun row => runN W l.seen b (W.parts.length - (k + 1)) (k + 1) [row] := by
  unfold comps
  rw [← runN_flat]
  rfl
theorem comps_head {W : Wk} {l : Lk} {b kept : List Nat} (hW : W.Ok) (hl : l.Ok W) : ∀ k, k ≤ W.parts.length → (comps W l b kept k).head? = (rowsL W l.g l.seen b W.parts.length).head?
  | 0, _ => by
    have := runN_rowsL W l.g l.seen b W.parts.length 0
    rw [Nat.zero_add] at this
    rw [← this]
    rfl
  | k + 1, hk => by
    rw [← comps_head hW hl k (by omega), comps_succ, comps_next W l b kept hk]
    refine thin_head _ _ _ fun x hx y hy e => ?_
    exact (agree_run hW _ _ (by omega) (.cons (key_agree hW hl hk hx hy e) .nil)).nil_iff
theorem roomO_first {W : Wk} {l : Lk} {b : List Nat} (hW : W.Ok) (hl : l.Ok W) : roomO W l b = firstL W l.g l.seen b := by
  have h := comps_head (b := b) (kept := []) hW hl W.parts.length (Nat.le_refl _)
  unfold comps at h
  rw [Nat.sub_self] at h
  exact h
end DL

namespace DL
open PySem PySem.Spec PyProof.Rows L2
variable [Lam]
/-! ### lists of looks, beside themselves -/
def lkP (l : Lk) : PD := .tuple [rowT l.g, .tuple (l.seen.map pqD)]
theorem pl_pq (p : Nat × Nat) : Pl 1 (pqD p) := pl_tuple fun d hd => by
  rcases List.mem_cons.mp hd with rfl | hd
  · exact pl_int 0 _
  · rw [List.mem_singleton.mp hd]; exact pl_int 0 _
theorem pl_lk (l : Lk) : Pl 3 (lkP l) := pl_tuple fun d hd => by
  rcases List.mem_cons.mp hd with rfl | hd
  · exact (pl_rowT _).up (by decide)
  · rw [List.mem_singleton.mp hd]
    exact pl_tuple fun d hd => by
      obtain ⟨x, _, rfl⟩ := List.mem_map.mp hd
      exact pl_pq x
theorem pl_lks (ls : List Lk) : Pl 4 (.list (ls.map lkP)) := pl_list fun d hd => by
  obtain ⟨x, _, rfl⟩ := List.mem_map.mp hd
  exact pl_lk x
theorem lk_dp {K : PySem.W.Frag} {H : Hp} {v : V} {l : Lk} (h : Rp K H v (lkD l)) : Dp K H v (lkP l) := by
  obtain ⟨a, xs, rfl, ha, r⟩ := Rp.tup_inv h
  cases r with
  | cons h1 r => cases r with
    | cons h2 r =>
      cases r
      obtain ⟨c, ys, o, rfl, hc, _, r2⟩ := Rp.tx_inv h2
      refine .tup (.inl (.inl ha)) (.cons (Rp.dp h1 (pl_rowT l.g).1) (.cons (.tup (.inl (.inr ⟨o, hc⟩)) (RpA.dp r2 ?_)) .nil))
      exact (pl_all (n := 1) fun d hd => by obtain ⟨x, _, rfl⟩ := List.mem_map.mp hd; exact pl_pq x).1
theorem lks_dp {K : PySem.W.Frag} {H : Hp} {v : V} {ls : List Lk} (h : Rp K H v (.list (ls.map lkD))) : Dp K H v (.list (ls.map lkP)) := by
  obtain ⟨a, xs, rfl, ha, r⟩ := Rp.lst_inv h
  refine .lst (.inl (.inl ha)) ?_
  suffices q : ∀ (ls : List Lk) (xs : List V), RpA K H xs (ls.map lkD) → DpAll K H xs (ls.map lkP) from q ls xs r
  intro ls
  induction ls with
  | nil => intro xs r; cases r; exact .nil
  | cons l ls ih =>
    intro xs r
    cases r with
    | cons h1 r => exact .cons (lk_dp h1) (ih _ r)
section
variable {X : Cx} {en : En} {a b : Expr} {pos : Pos} {ka kb : Kd} {n : Nat}
theorem o2_neLks {ls : List Lk} : Op2 X.K (rNeD X.K) ka (.list (ls.map lkD)) kb (.list (ls.map lkD)) .c (.bool false) := fun H0 H0' Ho H v u s r1 r2 Q q => by
  have pl := pl_lks ls
  refine ⟨_, _, lks_dp (r1.rpt s), lks_dp (r2.rpt s), pl.shaped (by decide), pl.shaped (by decide), ?_⟩
  rw [pl.refl]
  exact q _ Ho H (.refl s) (.bl _)
theorem dt_neLks {ls : List Lk} (hr : Room n X.A) (ha : DE X en a ka (.list (ls.map lkD))) (hb : DE X en b kb (.list (ls.map lkD))) (hm : behindInMarks .NotEq b = false := by kernel_rfl) : DT X en (.Compare a [.NotEq] [b] pos) false := dt_cmp (op_neD (hu64 hr)) ha hb o2_neLks hm
end
theorem de_isNo {X : Cx} {en : En} {a : Expr} {pos pos2 : Pos} {ka : Kd} {d : PD} {c : Bool} (ha : DE X en a ka d) (e : isNo d = c) {j} (hs : ka ≠ .o := by decide) : DE X en (.Compare a [.Is] [.Constant .none j pos2] pos) .c (.bool c) := fun B Bo Ho H σ f Q q => by
  refine wE_of (pe_cmpR op_isN pe_w pe_non rfl) ?_
  refine ha B Bo Ho H σ f _ fun v H1o H1 g1 r1 => ?_
  refine ⟨rfl, q _ H1o H1 g1 ?_⟩
  have r := r1.rpt g1.s
  subst e
  cases r <;> exact .bl _
theorem cut3 {α : Type} (xs : List α) (k : Nat) : cutA xs none (some (k : Int)) = xs.take k := by
  unfold cutA
  rw [HT.sIx_none, HT.sIx_nat, List.drop_zero, Nat.sub_zero]
  by_cases h : k ≤ xs.length
  · rw [Nat.min_eq_left h]
  · rw [Nat.min_eq_right (by omega), List.take_length, List.take_of_length_le (by omega)]
end DL

namespace DL
open PySem PySem.Spec PyProof.Rows L2 PpSet
variable [Lam]
/-! ### sets of numbers: made by a comprehension, sorted -/
section
variable {X : Cx}
theorem grow_ok {pins : List (Addr × Obj)} {σ : L2.St} {H : Hp} {s : Shared} {E : Value → Shared → Prop} {D : Addr} {S : Int → Bool} {n : Nat} {k : Int} {tk : Tok} {Q : Value → Shared → Prop} (J : Inv X pins σ H s) (eD : H D = some (SetO X.w D S n)) (few : n + 1 < scanBound)
    (fin : ∀ s', Inv X pins σ (upd H D (SetO X.w D (fun j => S j || decide (j = k)) (if S k = true then n else n + 1))) s' → Q .none s') : wpAny (model X.prog X.w) X.A (call (.builtin "set.add") [.ref D, .int k tk]) Q E s := by
  refine setR_add (setO_get J eD) few fun g same new => fin _ ?_
  refine J.write (e := D) (t' := s.toks + 1) (by rw [eD]; trivial) (.inl rfl) (fun b u nb eu => (same.2 b nb).trans eu) ?_ (setO_new new)
  obtain ⟨o, _, _, _, eo, _⟩ := new
  exact ⟨o, eo⟩
/-- {elt for tg in iter}, elt a number -/
def tSi (w : World) (wi : TI) (g : TG) (te : TE) (vs : List Nat) : TE := fun σ H Q => wi σ H fun J H1 => ∀ D, H1 D = none → ∃ W : Nat → Nat → Hp → Prop, (∃ m, W 0 m (upd H1 D (SetO w D (fun _ => false) 0))) ∧ ∀ i m H, W i m H →
  (J.stop i H ∧ Q (.ref D) H) ∨ (J.go i H ∧ ∃ Nx : Hp → Prop, (∀ H', Nx H' → ∃ m', m' < m ∧ W (i + 1) m' H') ∧ ∀ x H', J.yld i H x H' → g x (wipe σ vs) H' fun σ2 H2 => L2.wipe σ2 vs = L2.wipe σ vs ∧
    te σ2 H2 fun y H3 => ∃ (k : Int) (S : Int → Bool) (n : Nat), y = .int k ∧ H3 D = some (SetO w D S n) ∧ n + 1 < scanBound ∧ Nx (upd H3 D (SetO w D (fun j => S j || decide (j = k)) (if S k = true then n else n + 1))))
/-- one block of a comprehension, its walk and its new set under way -/
structure Wlk (X : Cx) (u3 : Shared) (H3 : Hp) (scope : Scope) (ce : Env) (fp : List Addr) (tn : Nat → Heap → Prop) (ρ : L2.St) (i : Nat) (H : Hp) (u : Shared) : Prop where
  inv : Inv (X.blk u3 H3 scope ce fp) [] ρ H u
  st : tn i u.heap
  nf : ∀ b ∈ fp, H b = none
theorem Wlk.fp {u3 : Shared} {H3 : Hp} {scope : Scope} {ce : Env} {fp : List Addr} {tn : Nat → Heap → Prop} {ρ : L2.St} {i : Nat} {H : Hp} {u : Shared} (k : Wlk X u3 H3 scope ce fp tn ρ i H u) : ∀ b ∈ fp, FpOk (X.blk u3 H3 scope ce fp) [] H b := fun b hb => by
  have z := k.inv.ok.exf b hb
  refine ⟨k.nf b hb, z.1, k.inv.ok.exfs b hb, .inl hb, fun x c e => z.2 x c e, fun p hp => ?_⟩
  have hp2 : p ∈ ([] : List (Addr × Obj)) ++ [] := hp
  simp at hp2
theorem pe_si {elt tg iter : Expr} {scope : Scope} {own : List (Str × Nat)} {pos : Pos} {wi : TI} {g : TG} {te : TE} (hc : X.calm = true) (hN : X.N.Nodup) (hi : PI X tg iter wi) (ok : BlkOk X.N X.env.scope scope own)
    (hg : ∀ (s : Shared) (H : Hp) (C : Addr) (cl : List (Str × Addr)) (fp : List Addr), PG (X.blk s H scope (compEnvC scope cl C X.env) fp) tg g)
    (he : ∀ (s : Shared) (H : Hp) (C : Addr) (cl : List (Str × Addr)) (fp : List Addr), PE (X.blk s H scope (compEnvC scope cl C X.env) fp) elt te) (hs : ∀ x, foldedSetIterable iter X.env x = pure x) :
    PE X (.SetComp elt [⟨tg, iter, [], 0⟩] scope pos) (tSi X.w wi g te (own.map (·.2))) := by
  refine ⟨fun pins s σ H Q J0 h => ?_⟩
  rw [eval_SetComp]
  have cells : ∀ y ∈ scope.names, y.2 = .free → ∃ c, X.env.cells.lookup y.1 = some c := fun y hy e => (ok.free y hy e).elim (fun k => J0.ok.has _ (.inl k)) fun k => J0.ok.has _ (.inr k)
  refine wpAny_comprehension_free (use := none) rfl hs (closure_ok cells) ok.kind (fun y hy e => by rw [ok.uniq y hy, e]) (thn (hi.run pins s σ H _ J0 h) fun _ u1 hx => thn hx fun _ u2 hy => ?_)
  obtain ⟨it, fp, tn, J, H2, rfl, J2, T, t2, f2, q⟩ := hy
  refine newSet_ok (newEnv_comp ?_)
  obtain ⟨D, eD⟩ : ∃ D, D = u2.heap.objs.size := ⟨_, rfl⟩
  rw [← eD]
  have nD2 : H2 D = none := J2.hok.fresh (Nat.le_of_eq eD.symm)
  obtain ⟨W, ⟨m0, w0⟩, turn⟩ := q D nD2
  obtain ⟨u3, eu3⟩ : ∃ u3 : Shared, u3 = { u2 with heap := u2.heap.push { cls := .type "set", dict := none, data := .set #[] 0 (.fresh 0 0 (!X.w.params.followText "set-order")) } } := ⟨_, rfl⟩
  rw [← eu3]
  have J3 : Inv X pins σ (upd H2 D (SetO X.w D (fun _ => false) 0)) u3 := by
    subst eu3
    refine J2.laid (t' := u2.toks) (fun b o e => Heap.get?_push_of_some _ e) (Nat.le_of_eq eD.symm) ?_
    subst eD
    exact setO_new (setR_fresh X.w)
  have hp3 : u3.heap = u2.heap.push { cls := .type "set", dict := none, data := .set #[] 0 (.fresh 0 0 (!X.w.params.followText "set-order")) } := by rw [eu3]
  have fpo : ∀ b ∈ fp, FpOk X pins (upd H2 D (SetO X.w D (fun _ => false) 0)) b ∧ b < u3.heap.objs.size := fun b hb => by
    obtain ⟨o, eo, _⟩ := T.obj _ _ t2 b hb
    have lt := Heap.lt_size eo
    refine ⟨⟨(upd_ne (by rw [eD]; exact Nat.ne_of_lt lt)).trans (f2 b hb).1, (f2 b hb).2⟩, ?_⟩
    rw [hp3, Heap.size_push]
    exact Nat.lt_succ_of_lt lt
  have t3 : tn 0 u3.heap := T.keep _ _ _ t2 fun b _ o e => by rw [hp3]; exact Heap.get?_push_of_some _ e
  have J4 := block_start J3 ok hN fpo
  obtain ⟨C, eC⟩ : ∃ C, C = u3.heap.objs.size := ⟨_, rfl⟩
  rw [← eC] at J4 ⊢
  obtain ⟨ce, ece⟩ : ∃ ce, ce = compEnvC scope (cellsFrom (C + 1) scope.names (cloFrom X.env.cells scope.names [])) C X.env := ⟨_, rfl⟩
  obtain ⟨H3, eH⟩ : ∃ H3, H3 = upd H2 D (SetO X.w D (fun _ => false) 0) := ⟨_, rfl⟩
  rw [← eH] at J3 J4 w0 fpo
  have pg := hg u3 H3 C (cellsFrom (C + 1) scope.names (cloFrom X.env.cells scope.names [])) fp
  have pe := he u3 H3 C (cellsFrom (C + 1) scope.names (cloFrom X.env.cells scope.names [])) fp
  rw [← ece] at J4 pg pe
  have loc : ce.locals = C := by rw [ece]; rfl
  show codeAny _ _ (.compStart (.SetComp elt [⟨tg, iter, [], 0⟩] scope pos) 0 (.ref it) (.ref D) (compEnvC scope (cellsFrom (C + 1) scope.names (cloFrom X.env.cells scope.names [])) C X.env)) (compPost (model X.prog X.w) X.A X.xe none (EP X pins σ Q) (.ref D) C) _
  rw [← ece]
  obtain ⟨u4, eu4⟩ : ∃ u4 : Shared, u4 = { u3 with heap := pushCells (u3.heap.push { cls := .type "dict", data := .dict #[] }) scope.names } := ⟨_, rfl⟩
  rw [← eu4] at J4 ⊢
  have t4 : tn 0 u4.heap := T.keep _ _ _ t3 fun b _ o e => by rw [eu4]; exact pushCells_keeps _ _ _ _ (Heap.get?_push_of_some _ e)
  have start : Wlk X u3 H3 scope ce fp tn (L2.wipe σ (own.map (·.2))) 0 H3 u4 := ⟨J4, t4, fun b hb => (fpo b hb).1.1⟩
  have loop : codeAny (model X.prog X.w) X.A (.compLoop (.SetComp elt [⟨tg, iter, [], 0⟩] scope pos) 0 (.ref it) (.ref D) ce) (compPost (model X.prog X.w) X.A X.xe none (EP X pins σ Q) (.ref D) C) u4 := by
    refine compLoopS_any (fun m u => ∃ i G, Wlk X u3 H3 scope ce fp tn (L2.wipe σ (own.map (·.2))) i G u ∧ W i m G) ?_ m0 ⟨0, H3, start, w0⟩
    rintro m u5 ⟨i, G, k5, w5⟩
    rcases turn i m G w5 with ⟨stop, qq⟩ | ⟨go, Nx, hNx, step⟩
    · -- the walk is over: back in the def
      refine thnF (T.done (X.blk u3 H3 scope ce fp) rfl rfl rfl hc i [] u5 _ G (fun _ _ => False) k5.inv k5.fp k5.st stop) fun r u6 ⟨er, J6⟩ => ?_
      subst er
      have J7 : Inv X pins σ G u6 := J3.call' (ch := fp) J6.os J6.base J6.hok J6.bare fun b hb => by
        have z := (fpo b hb).1.2
        exact ⟨z.2.2.1, z.1, z.2.2.2.1, z.2.2.2.2⟩
      have gC : G C = none := by
        have z : G ce.locals = none := J6.free
        rwa [loc] at z
      obtain ⟨mp, hm, _⟩ := J6.loc
      have hm2 : u6.heap.Ns ce.locals mp := hm
      rw [loc] at hm2
      obtain ⟨f0, f1, f2, f3, f4, f5⟩ := J3.fpOk (H' := G) (b := C) (by rw [eC]; exact Nat.le_refl _) gC
      exact ⟨mp, hm2, fun h2 same => ⟨.ref D, G, J7.turned (t' := u6.toks) (fun b o nb e => (same.2 b nb).trans e) f0 f1 f3 f4 f5, rfl, qq⟩⟩
    · refine thnF (T.item (X.blk u3 H3 scope ce fp) rfl rfl rfl hc i [] u5 _ G (fun _ _ => False) k5.inv k5.fp k5.st go) fun r u6 ⟨v, er, h6⟩ => ?_
      subst er
      refine thnF h6 fun _ u7 ⟨x, H7, J7, r7, y7, t7, n7⟩ => ?_
      have k7 : Wlk X u3 H3 scope ce fp tn (L2.wipe σ (own.map (·.2))) (i + 1) H7 u7 := ⟨J7, t7, n7⟩
      refine thnF (pg.run _ u7 _ H7 x v _ (J7.pinned k7.fp (T.obj _ _ t7)) r7 (step x H7 y7)) fun _ u8 ⟨σ8, H8, J8, ew, q8⟩ => ?_
      refine wpAny_pure ?_
      show wpAny _ _ _ _ _ _
      refine thnF (pe.run _ u8 σ8 H8 _ J8 q8) fun z u9 ⟨y, H9, J9, r9, kk, S0, n0, ey, eD9, few, nx⟩ => ?_
      subst ey
      obtain ⟨tk, rfl⟩ := r9
      refine grow_ok (X := X.blk u3 H3 scope ce fp) J9 eD9 few fun ua Ja => ?_
      obtain ⟨m', lt, w'⟩ := hNx _ nx
      have pinned : ∀ b ∈ fp, ∀ o, u7.heap.get? b = some o → ua.heap.get? b = some o ∧ upd H9 D (SetO X.w D (fun j => S0 j || decide (j = kk)) (if S0 kk = true then n0 else n0 + 1)) b = none := fun b hb o e => by
        have z := Ja.pin (b, o) (List.mem_append_right _ (List.mem_append_right _ (mem_pinsAt hb e)))
        exact ⟨z.1, z.2.1⟩
      refine ⟨m', lt, i + 1, _, ⟨(Ja.unpinned (pins := [])).weak (by rw [← ew, L2.wipe_length]) fun j v e => ?_, T.keep _ _ _ t7 fun b hb o e => (pinned b hb o e).1, fun b hb => ?_⟩, w'⟩
      · rw [← ew] at e
        exact (wipe_some e).1
      · obtain ⟨o, e, _⟩ := T.obj _ _ t7 b hb
        exact (pinned b hb o e).2
  exact codeAny_compStart_set loop (T.self X.A 0 _ _ _ t4 loop)
end
end DL

namespace DL
open PySem PySem.Spec PyProof.Rows L2 PpSet
variable [Lam]
theorem setO_ne {w : World} {D : Addr} {S : Int → Bool} {n : Nat} (q : Str) : SetO w D S n ≠ LamX.CodeO D q := fun e => by
  unfold SetO LamX.CodeO at e
  have e2 := HO.ext.inj e
  let o : Obj := { cls := .none, data := .fields #[.none, .str q 0] }
  let h : Heap := { objs := Array.replicate (D + 1) o }
  have g : h.get? D = some o := by
    have g1 : h.objs[D]? = some o := by
      show (Array.replicate (D + 1) o)[D]? = some o
      rw [Array.getElem?_replicate, if_pos (Nat.lt_succ_self D)]
    unfold Heap.get?
    rw [g1]
  have z : SetR w h D S n := by
    have := congrFun e2 h
    rw [this]
    exact ⟨o, #[.none, .str q 0], 0, g, rfl, rfl⟩
  obtain ⟨o2, es, ep, t, h1, _, h2, _⟩ := z
  rw [g] at h1
  cases h1
  cases h2
/-! ### lists that rise, told by their members -/
theorem rise_ext : ∀ {a b : List Int}, a.Pairwise (· < ·) → b.Pairwise (· < ·) → (∀ k, k ∈ a ↔ k ∈ b) → a = b
  | [], [], _, _, _ => rfl
  | [], y :: b, _, _, h => by have := (h y).mpr List.mem_cons_self; cases this
  | x :: a, [], _, _, h => by have := (h x).mp List.mem_cons_self; cases this
  | x :: a, y :: b, pa, pb, h => by
    obtain ⟨a1, a2⟩ := List.pairwise_cons.mp pa
    obtain ⟨b1, b2⟩ := List.pairwise_cons.mp pb
    have e : x = y := by
      rcases List.mem_cons.mp ((h x).mp List.mem_cons_self) with q | q
      · exact q
      · rcases List.mem_cons.mp ((h y).mpr List.mem_cons_self) with r | r
        · exact r.symm
        · have := b1 x q
          have := a1 y r
          omega
    subst e
    rw [rise_ext a2 b2 fun k => ?_]
    constructor
    · intro hk
      have lt := a1 k hk
      rcases List.mem_cons.mp ((h k).mp (List.mem_cons_of_mem _ hk)) with q | q
      · omega
      · exact q
    · intro hk
      have lt := b1 k hk
      rcases List.mem_cons.mp ((h k).mpr (List.mem_cons_of_mem _ hk)) with q | q
      · omega
      · exact q
theorem sub_len : ∀ {a b : List Int}, a.Nodup → (∀ k ∈ a, k ∈ b) → a.length ≤ b.length
  | [], _, _, _ => Nat.zero_le _
  | x :: a, b, nd, h => by
    obtain ⟨n1, n2⟩ := List.nodup_cons.mp nd
    have hx := h x List.mem_cons_self
    have ih := sub_len (b := b.erase x) n2 fun k hk => (List.mem_erase_of_ne (fun e => n1 (by rw [← e]; exact hk))).mpr (h k (List.mem_cons_of_mem _ hk))
    have hl := List.length_erase_of_mem hx
    have hp : 0 < b.length := List.length_pos_of_mem hx
    rw [List.length_cons]
    omega
def asI (l : List Nat) : List Int := l.map fun (n : Nat) => (n : Int)
theorem asI_rise {l : List Nat} (h : l.Pairwise (· < ·)) : (asI l).Pairwise (· < ·) := List.pairwise_map.mpr (h.imp fun h => by omega)
theorem mem_asI {l : List Nat} {k : Int} : k ∈ asI l ↔ ∃ n ∈ l, (n : Int) = k := List.mem_map
/-- sorted({elt for tg in iter}), elt a number -/
theorem de_sortSi {X : Cx} {en : En} {elt tg iter : Expr} {scope : Scope} {own : List (Str × Nat)} {p p2 pos : Pos} {α : Type} (xs : List α) (c : α → PD) (f : α → Nat) (res : List Nat) (hi : DI X en tg iter (xs.map c))
    (hb : ∀ x ∈ xs, ∃ is en', (∀ i ∈ is, i ∈ own.map (·.2)) ∧ ∀ (s : Shared) (H : Hp) (C : Addr) (cl : List (Str × Addr)) (fp : List Addr),
      DG (X.blk s H scope (compEnvC scope cl C X.env) fp) (wipeE en (own.map (·.2))) tg (c x) is en' ∧ DE (X.blk s H scope (compEnvC scope cl C X.env) fp) en' elt .c (nD (f x)))
    (h1 : res.Pairwise (· < ·)) (h2 : ∀ d, d ∈ res ↔ ∃ x ∈ xs, f x = d) (h3 : res.length < 60) (hm : X.mg "sorted" = none) (hN : X.N.Nodup) (ok : BlkOk X.N X.env.scope scope own) (hc : X.calm = true := by kernel_rfl) (hg : glB X "sorted" = true := by kernel_rfl)
    (he : starEach [.SetComp elt [⟨tg, iter, [], 0⟩] scope p2] X.env = (false, eval (.SetComp elt [⟨tg, iter, [], 0⟩] scope p2) X.env) :: starEach [] X.env := by kernel_rfl) (hs : ∀ x, foldedSetIterable iter X.env x = pure x := by intro _; rfl) :
    DE X en (.Call (.Name "sorted" p) [.SetComp elt [⟨tg, iter, [], 0⟩] scope p2] [] pos) .o (.list (res.map nD)) := fun B Bo Ho H σ ft Q q => by
  obtain ⟨wi, pi, hi⟩ := hi
  refine wE_of (pe_callB (cr_sortedSet hc) (gl_of hg) hm (by decide +kernel) (pa_cons (pe_si (own := own)
    (g := fun v σ H Q => ∀ (s : Shared) (H0 : Hp) (C : Addr) (cl : List (Str × Addr)) (fp : List Addr), wG (X.blk s H0 scope (compEnvC scope cl C X.env) fp) tg v σ H Q)
    (te := fun σ H Q => ∀ (s : Shared) (H0 : Hp) (C : Addr) (cl : List (Str × Addr)) (fp : List Addr), wE (X.blk s H0 scope (compEnvC scope cl C X.env) fp) elt σ H Q) hc hN pi ok
    (fun s H0 C cl fp => ⟨fun pins s' σ H v u Q I r h => (h s H0 C cl fp).run pins s' u I r⟩) (fun s H0 C cl fp => ⟨fun pins s' σ H Q I h => (h s H0 C cl fp).run pins s' I⟩) hs) pa_nil he) (he := he)) ?_
  refine hi B Bo Ho H σ ft _ fun J Ho1 H1 g1 it => ?_
  intro D hD
  have n1 : Ho1 D = none := g1.s.free hD
  refine ⟨fun i m H2 => ∃ H2o S n L, m = xs.length - i ∧ i ≤ xs.length ∧ Gr Ho1 H1 H2o H2 ∧ H2o D = none ∧ H2 D = some (SetO X.w D S n) ∧ L.Nodup ∧ L.length = n ∧ (∀ k, k ∈ L ↔ S k = true) ∧ ∀ k, k ∈ L ↔ ∃ x ∈ xs.take i, (f x : Int) = k,
    ⟨xs.length, Ho1, _, 0, [], by simp, Nat.zero_le _, .tmp g1.s hD, n1, upd_same, List.nodup_nil, rfl, fun k => by simp, fun k => by simp⟩, ?_⟩
  rintro i m H2 ⟨H2o, S, n, L, rfl, hle, g2, n2, e2, nd, len, hS, hL⟩
  have small : n < 60 := by
    have h := sub_len (b := asI res) nd fun k hk => by
      obtain ⟨x, hx, e⟩ := (hL k).mp hk
      exact mem_asI.mpr ⟨f x, (h2 _).mpr ⟨x, List.mem_of_mem_take hx, rfl⟩, e⟩
    unfold asI at h
    rw [List.length_map] at h
    omega
  obtain ⟨go, stop⟩ := it H2o H2 g2.o g2.s i
  by_cases hlt : i < xs.length
  · have hx := List.getElem?_eq_getElem hlt
    obtain ⟨go, yl⟩ := go (c xs[i]) (by rw [List.getElem?_map, hx]; rfl)
    obtain ⟨is, en', his, hb⟩ := hb xs[i] (List.getElem_mem hlt)
    have htk : xs.take (i + 1) = xs.take i ++ [xs[i]] := by rw [List.take_add_one, hx]; rfl
    refine .inr ⟨go, fun H' => ∃ H2o S n L, i + 1 ≤ xs.length ∧ Gr Ho1 H1 H2o H' ∧ H2o D = none ∧ H' D = some (SetO X.w D S n) ∧ L.Nodup ∧ L.length = n ∧ (∀ k, k ∈ L ↔ S k = true) ∧ ∀ k, k ∈ L ↔ ∃ x ∈ xs.take (i + 1), (f x : Int) = k,
      fun H' ⟨a, b, c, d, h1, h2, h3, h4, h5, h6, h7, h8⟩ => ⟨_, by omega, a, b, c, d, rfl, h1, h2, h3, h4, h5, h6, h7, h8⟩, fun x H3 y => ?_⟩
    obtain ⟨H3o, g3, r3⟩ := yl x H3 y
    have f3 := (ft.gr ((g1.trans g2).trans g3)).wipe (own.map (·.2))
    intro s H0 C cl fp
    refine (hb s H0 C cl fp).1 _ Bo H3o H3 _ f3 x r3 _ fun σ3 w3 f3 => ⟨wipe_eq w3 his, ?_⟩
    show ∀ (s : Shared) (H0 : Hp) (C : Addr) (cl : List (Str × Addr)) (fp : List Addr), wE (X.blk s H0 scope (compEnvC scope cl C X.env) fp) elt σ3 H3 _
    intro s H0 C cl fp
    refine (hb s H0 C cl fp).2 _ Bo H3o H3 σ3 f3 _ fun v H4o H4 g4 r4 => ?_
    have gg := g3.trans g4
    have e4 := gg.h.at _ _ e2
    have n4 : H4o D = none := (gg.fr D (by rw [e2]; intro z; cases z)).trans n2
    have g := g2.trans gg
    have hk : ∀ k : Int, (∃ x ∈ xs.take (i + 1), (f x : Int) = k) ↔ k ∈ L ∨ k = (f xs[i] : Int) := fun k => by
      rw [hL, htk]
      constructor
      · rintro ⟨x, hx, e⟩
        rcases List.mem_append.mp hx with h | h
        · exact .inl ⟨x, h, e⟩
        · rw [List.mem_singleton.mp h] at e; exact .inr e.symm
      · rintro (⟨x, hx, e⟩ | e)
        · exact ⟨x, List.mem_append_left _ hx, e⟩
        · exact ⟨xs[i], List.mem_append_right _ (List.mem_singleton.mpr rfl), e.symm⟩
    have gr : Gr Ho1 H1 H4o (upd H4 D (SetO X.w D (fun j => S j || decide (j = (f xs[i] : Int))) (if S (f xs[i] : Int) = true then n else n + 1))) :=
      g.poke2 hD n4 e4 trivial setO_ne
    refine ⟨(f xs[i] : Int), S, n, r4.int_inv, e4, by unfold scanBound; omega, H4o, _, _, if S (f xs[i] : Int) = true then L else L ++ [(f xs[i] : Int)], hlt, gr, n4, upd_same, ?_, ?_, fun k => ?_, fun k => ?_⟩
    · split
      · exact nd
      · rename_i hn
        exact List.nodup_append.mpr ⟨nd, by simp, fun a ha b hb e => hn ((hS _).mp (by rw [← List.mem_singleton.mp hb, ← e]; exact ha))⟩
    · split
      · exact len
      · rw [List.length_append, len]; rfl
    · rw [Bool.or_eq_true, decide_eq_true_eq, ← hS k]
      split
      · rename_i hy
        exact ⟨.inl, fun z => z.elim id fun e => e ▸ (hS _).mpr hy⟩
      · rw [List.mem_append, List.mem_singleton]
    · rw [hk]
      split
      · rename_i hy
        exact ⟨.inl, fun z => z.elim id fun e => e ▸ (hS _).mpr hy⟩
      · rw [List.mem_append, List.mem_singleton]
  · have e : i = xs.length := by omega
    subst e
    refine .inl ⟨stop (by rw [List.length_map]; exact Nat.le_refl _), D, S, n, rfl, e2, by omega, fun ns a hr hmem _ ha => ?_⟩
    have ens : ns = asI res := rise_ext hr (asI_rise h1) fun k => by
      rw [hmem, ← hS, hL, List.take_length, mem_asI]
      constructor
      · rintro ⟨x, hx, e⟩
        exact ⟨f x, (h2 _).mpr ⟨x, hx, rfl⟩, e⟩
      · rintro ⟨d, hd, e⟩
        obtain ⟨x, hx, ex⟩ := (h2 d).mp hd
        exact ⟨x, hx, by rw [ex]; exact e⟩
    subst ens
    have g := g1.trans g2
    refine q _ H2o _ (g.trans (.tmp g2.s ha)) ⟨a, rfl, g.h.free ha, g2.s.free ha, _, upd_same, ?_⟩
    unfold asI
    rw [List.map_map]
    suffices h : ∀ l : List Nat, RpA X.K H2o (l.map (V.int ∘ fun (n : Nat) => (n : Int))) (l.map nD) from h res
    intro l
    induction l with
    | nil => exact .nil
    | cons x l ih => exact .cons (.int _) ih
end DL

namespace DL
open PySem PySem.Spec PyProof.Rows L2
variable [Lam]
/-! ### the digits that a line may show -/
def digitsOf (ring line : Nat) (rows : List (List Nat)) : List Nat := (List.range ring).filter fun d => rows.any fun row => decide (row.getD line 0 = d)
theorem digitsOf_rise (ring line : Nat) (rows : List (List Nat)) : (digitsOf ring line rows).Pairwise (· < ·) := (range_rise ring).filter _
theorem digitsOf_len (ring line : Nat) (rows : List (List Nat)) : (digitsOf ring line rows).length ≤ ring := by
  have h := List.length_filter_le (fun d => rows.any fun row => decide (row.getD line 0 = d)) (List.range ring)
  rw [List.length_range] at h
  exact h
theorem digitsOf_mem {ring line n : Nat} {rows : List (List Nat)} (h : ∀ row ∈ rows, Row ring n row) (hl : line < n) (d : Nat) : d ∈ digitsOf ring line rows ↔ ∃ row ∈ rows, row.getD line 0 = d := by
  unfold digitsOf
  rw [List.mem_filter, List.mem_range, List.any_eq_true]
  constructor
  · rintro ⟨_, row, hr, e⟩
    exact ⟨row, hr, of_decide_eq_true e⟩
  · rintro ⟨row, hr, e⟩
    refine ⟨?_, row, hr, decide_eq_true e⟩
    obtain ⟨h1, h2⟩ := h row hr
    rw [← e, List.getD_eq_getElem?_getD, List.getElem?_eq_getElem (by omega)]
    exact h2 _ (List.getElem_mem _)
theorem digitsOf_ext {ring line : Nat} {a b : List (List Nat)} (h : ∀ d, (∃ row ∈ a, row.getD line 0 = d) ↔ ∃ row ∈ b, row.getD line 0 = d) : digitsOf ring line a = digitsOf ring line b := by
  unfold digitsOf
  apply List.filter_congr
  intro d _
  rw [Bool.eq_iff_iff, List.any_eq_true, List.any_eq_true]
  constructor
  · rintro ⟨row, hr, e⟩
    obtain ⟨r2, h2, e2⟩ := (h d).mp ⟨row, hr, of_decide_eq_true e⟩
    exact ⟨r2, h2, decide_eq_true e2⟩
  · rintro ⟨row, hr, e⟩
    obtain ⟨r2, h2, e2⟩ := (h d).mpr ⟨row, hr, of_decide_eq_true e⟩
    exact ⟨r2, h2, decide_eq_true e2⟩
theorem All2.left {α : Type} {R : α → α → Prop} : ∀ {a b : List α}, All2 R a b → ∀ x ∈ a, ∃ y ∈ b, R x y
  | _, _, .nil, x, h => by cases h
  | _, _, .cons h r, x, hx => by
    rcases List.mem_cons.mp hx with rfl | hx
    · exact ⟨_, List.mem_cons_self, h⟩
    · obtain ⟨y, hy, q⟩ := All2.left r x hx
      exact ⟨y, List.mem_cons_of_mem _ hy, q⟩
theorem comps_dig {W : Wk} {l : Lk} {b : List Nat} {line : Nat} (hW : W.Ok) (hl : l.Ok W) (hline : line < W.inputs + W.parts.length) (d : Nat) : ∀ k, k ≤ W.parts.length → ((∃ row ∈ comps W l b [line] k, row.getD line 0 = d) ↔ ∃ row ∈ rowsL W l.g l.seen b W.parts.length, row.getD line 0 = d)
  | 0, _ => by
    have := runN_rowsL W l.g l.seen b W.parts.length 0
    rw [Nat.zero_add] at this
    rw [← this]
    exact Iff.rfl
  | k + 1, hk => by
    rw [← comps_dig hW hl hline d k (by omega), comps_succ, comps_next W l b [line] hk]
    constructor
    · rintro ⟨row, hr, e⟩
      obtain ⟨r, h1, h2⟩ := List.mem_flatMap.mp hr
      exact ⟨row, List.mem_flatMap.mpr ⟨r, thinA_mem _ _ _ h1, h2⟩, e⟩
    · rintro ⟨row, hr, e⟩
      obtain ⟨r, h1, h2⟩ := List.mem_flatMap.mp hr
      obtain ⟨r2, h3, h4⟩ := thin_rep (keyN (useAt W l.seen b [line] k)) _ r h1
      have ag := agree_run (b := b) (kept := [line]) (l := l) hW (W.parts.length - (k + 1)) (k + 1) (by omega) (.cons (key_agree hW hl hk h1 (thinA_mem _ _ _ h3) h4.symm) .nil)
      obtain ⟨row2, h5, h6⟩ := ag.left row h2
      refine ⟨row2, List.mem_flatMap.mpr ⟨r2, h3, h5⟩, ?_⟩
      rw [← e]
      refine (h6.eq line hline (.inr ?_)).symm
      rw [Nat.sub_self]
      exact List.mem_singleton.mpr rfl
theorem shown_same {W : Wk} {l : Lk} {b : List Nat} {line : Nat} (hW : W.Ok) (hl : l.Ok W) (hline : line < W.inputs + W.parts.length) : digitsOf W.ring line (rowsP W l b [line] W.parts.length) = digitsOf W.ring line (rowsL W l.g l.seen b W.parts.length) :=
  digitsOf_ext fun d => by
    have h := comps_dig (b := b) hW hl hline d W.parts.length (Nat.le_refl _)
    unfold comps at h
    rw [Nat.sub_self] at h
    exact h
end DL

namespace DL
open PySem PySem.Spec PyProof.Rows L2
variable [Lam]
/-! ### set(xs), xs a list of numbers -/
abbrev set0 (w : World) : Obj := { cls := .type "set", dict := none, data := .set #[] 0 (.fresh 0 0 (!w.params.followText "set-order")) }
section
variable {P : Program} {w : World} {A : Around} {E : Value → Shared → Prop} {s : Shared}
/-- what the filling of the new set leaves -/
structure Filled (w : World) (s : Shared) (ns : List Int) (u : Shared) : Prop where
  is : ∃ h' tk, u = { s with heap := h', toks := tk }
  set : ∃ c, SetR w u.heap s.heap.objs.size (fun j => decide (j ∈ ns)) c
  keep : ∀ b o, s.heap.get? b = some o → u.heap.get? b = some o
theorem fill_list {B : Around} {l : Addr} {items : Array Value} (ns : List Int) (hh : B.handled = none) (hl : s.heap.IsList l items) (hit : IntsAre items.toList ns) (hb : ns.length + 1 < scanBound) {Q : Shared → Prop} (hQ : ∀ u, Filled w s ns u → Q u) :
    codeAny (model P w) B (.call (.builtin "set.__init__") ⟨[.ref s.heap.objs.size, .ref l], []⟩) (wants (fun r u => r = .none ∧ Q u) E) { s with heap := s.heap.push (set0 w) } := by
  have hz : items.size = ns.length := by have q := IntsAre.length hit; rwa [Array.length_toList] at q
  have new : (s.heap.push (set0 w)).get? s.heap.objs.size = some (set0 w) := Heap.get?_push_size _ rfl
  have ty : Shared.TypeIs { s with heap := s.heap.push (set0 w) } (.ref s.heap.objs.size) "set" := ⟨_, new, rfl⟩
  refine codeAny_call_builtin F.called_set.init.plain F.entry_set_init (check_set_init_1 ty ?_)
  obtain ⟨⟨lc, ld, lda, lsl⟩, lo, e1, ln, e2⟩ := hl
  simp only at e1 e2
  subst e1 e2
  have lo2 : (s.heap.push (set0 w)).get? l = some { cls := .type "list", dict := ld, data := .seq items ln, slots := lsl } := Heap.get?_push_of_some _ lo
  have ls2 : (s.heap.push (set0 w)).IsList l items := ⟨_, lo2, rfl, ln, rfl⟩
  have n1 := F.sub_list_set; have n2 := F.sub_list_frozenset; have n3 : (Value.type "list" == Value.type "dict") = false := by decide
  unfold Builtin.«set.__init__» noKeywords Builtin.Frozenset.updateFrom; generalize ePI : pyIter = PI; wp_walk; subst ePI
  refine wpAny_pyIter_list ls2 (wpAny_bind (wpAny_runValue ?_))
  have ll : l < s.heap.objs.size := Heap.lt_size lo
  have sz : (s.heap.push (set0 w)).objs.size = s.heap.objs.size + 1 := Heap.size_push ..
  have h3 : B.in1.in1.handled = none := by simp [hh]
  have below : ∀ b : Addr, b < s.heap.objs.size → b ≠ (s.heap.push (set0 w)).objs.size := fun b hb => by rw [sz]; exact Nat.ne_of_lt (Nat.lt_succ_of_lt hb)
  have apart : s.heap.objs.size ∉ [(s.heap.push (set0 w)).objs.size, l] := fun z => by
    rcases List.mem_cons.mp z with z | z
    · rw [sz] at z; exact Nat.ne_of_lt (Nat.lt_succ_self _) z
    · exact Nat.ne_of_gt ll (List.mem_singleton.mp z)
  have vals : ∀ (i : Nat) (v : Value), items[i]? = some v → ∃ k t, ns[i]? = some k ∧ v = .int k t := fun i v hv => by
    have hi : i < ns.length := by rw [← hz]; exact (Array.getElem?_eq_some_iff.mp hv).1
    obtain ⟨t, e⟩ := IntsAre.int_at hit i v (by rw [Array.getElem?_toList]; exact hv)
    exact ⟨ns[i], t, List.getElem?_eq_getElem hi, by rw [e, List.getD_eq_getElem?_getD, List.getElem?_eq_getElem hi]; rfl⟩
  refine set_update_ints ((Walks.list h3 _ l (below l ll) items).toS) s.heap.objs.size apart ns hz hb vals (items.size - 0) 0 _ (by omega) (Nat.zero_le _) ⟨⟨_, Heap.get?_push_size _ rfl, rfl, rfl⟩, ls2.push _⟩ ⟨0, Nat.le_refl 0, ?_⟩ fun u c mv hc R => ?_
  · exact setR_new_at (Heap.get?_push_of_some _ new)
  show wpAny _ _ _ _ _ _
  refine wpAny_pure ?_
  show wpAny _ _ (ret Value.none) _ _ _
  refine wpAny_pure ⟨rfl, hQ u ⟨?_, ⟨c, R⟩, fun b o e => mv.heap b o (fun z => ?_) (Heap.get?_push_of_some _ (Heap.get?_push_of_some _ e))⟩⟩
  · obtain ⟨hp, g, d, tk, os⟩ := u
    have a1 : g = s.gens := mv.gens
    have a2 : d = s.drawn := mv.drawn
    have a3 : os = s.os := mv.os
    subst a1 a2 a3
    exact ⟨hp, tk, rfl⟩
  · have lt : b < s.heap.objs.size := Heap.lt_size e
    rcases List.mem_cons.mp z with z | z
    · exact Nat.ne_of_lt lt z
    · exact below b lt (List.mem_singleton.mp z)
/-- T(..) by its two codes -/
theorem call_type_by {T newId initId : String} {args : List Value} {Q Q1 : Value → Shared → Prop} (ft : TypeCalled T newId initId) (hct : checkTypeCall T ⟨args, []⟩ = pure ()) (hnew : codeAny (model P w) A.in1 (.call (.builtin newId) ⟨.type T :: args, []⟩) (wants Q1 E) s)
    (hinit : ∀ obj u, Q1 obj u → u.TypeIs obj T ∧ codeAny (model P w) A.in1 (.call (.builtin initId) ⟨obj :: args, []⟩) (wants (fun r u2 => r = .none ∧ Q obj u2) E) u) : wpAny (model P w) A (call (.type T) args) Q E s := by
  obtain ⟨mc, mt, mro⟩ := ft.mro
  have a1 := ft.made; have a2 := ft.sub; have a3 := ft.notType; have a4 := ft.canCreate
  refine wpAny_call (codeAny_of_tree (show wpAny _ _ (callAny (.type T) _) _ _ _ from wpAny_pure ⟨Code.quiet_builtin _ (by decide +kernel), codeAny_builtin F.entry_type_call ?_⟩))
  rw [Around.under_plain (weight_type_call_type T args []) rfl]; repeat (any_goals (first | assumption | wp_step))
  refine codeAny_mono hnew fun r u hr => ?_
  match r, hr with
  | .error e, hr => exact hr
  | .ok (.ret obj), hr =>
    obtain ⟨ty, hi⟩ := hinit _ _ hr
    have b1 := ft.init.lookup; have b2 := ft.init.bind obj; repeat (any_goals (first | assumption | wp_step))
    refine codeAny_mono hi fun r2 u2 hr2 => ?_
    match r2, hr2 with
    | .error e, hr2 => exact hr2
    | .ok (.ret r3), hr2 =>
      obtain ⟨rfl, q⟩ := hr2; repeat (any_goals (first | assumption | wp_step))
    | .ok .next, hr2 => exact hr2.elim
    | .ok .brk, hr2 => exact hr2.elim
    | .ok .cont, hr2 => exact hr2.elim
  | .ok .next, hr => exact hr.elim
  | .ok .brk, hr => exact hr.elim
  | .ok .cont, hr => exact hr.elim
theorem call_set_listI {l : Addr} {items : Array Value} (ns : List Int) {Q : Value → Shared → Prop} (hh : A.handled = none) (hl : s.heap.IsList l items) (hit : IntsAre items.toList ns) (hb : ns.length + 1 < scanBound)
    (h : ∀ u, Filled w s ns u → Q (.ref s.heap.objs.size) u) : wpAny (model P w) A (call (.type "set") [.ref l]) Q E s := by
  refine call_type_by (Q1 := fun obj u => obj = .ref s.heap.objs.size ∧ u = { s with heap := s.heap.push (set0 w) }) F.called_set (F.typeCall_set_1 (.ref l)) (code_set_led1 (.ref l) ⟨rfl, rfl⟩) ?_
  rintro obj u ⟨rfl, rfl⟩
  exact ⟨⟨_, Heap.get?_push_size _ rfl, rfl⟩, fill_list (B := A.in1) ns (by simp [hh]) hl hit hb h⟩
end
section
variable {X : Cx}
theorem cr_setL (hc : X.calm = true) : CallR X (.type "set") (fun xs H Q => ∃ (l : Addr) (ns : List Int), xs = [.ref l] ∧ SqL X.K H l (ns.map V.int) ∧ ns.length + 1 < scanBound ∧
    ∀ (a : Addr) (S : Int → Bool) (n : Nat), H a = none → (∀ k, S k = true ↔ k ∈ ns) → (∀ res : List Int, (∀ k ∈ ns, k ∈ res) → n ≤ res.length) → Q (.ref a) (upd H a (SetO X.w a S n))) := by
  intro pins s σ H xs us Q I r q
  obtain ⟨l, ns, rfl, hs, hb, q⟩ := q
  obtain ⟨u, rfl, rx⟩ := vals1 r
  cases rx
  obtain ⟨its, rv, pl, hz⟩ := I.list hs
  refine call_set_listI (P := X.prog) (w := X.w) ns (I.ok.hd hc) pl.isList (by simpa using ints_of_vals rv) hb fun u f => ?_
  obtain ⟨⟨h', tk, rfl⟩, ⟨c, R⟩, keep⟩ := f
  refine ⟨.ref s.heap.objs.size, _, I.laid (t' := tk) keep (Nat.le_refl _) (setO_new R), rfl, q _ _ c (I.hok.fresh (Nat.le_refl _)) (fun k => by simp) fun res hres => ?_⟩
  obtain ⟨o, es, ep, t, _, _, _, _, nd, hm, _, _, hn, _⟩ := R
  have h := sub_len (b := res) nd fun k hk => hres k (of_decide_eq_true ((hm k).mpr hk))
  rw [List.length_map, Array.length_toList] at h
  omega
theorem de_sortSet {en : En} {a : Expr} {p p2 p3 pos : Pos} {ms : List Nat} (res : List Nat) (hm : X.mg "sorted" = none) (hm2 : X.mg "set" = none) (ha : DE X en a .e (.list (ms.map nD))) (hb : ms.length + 1 < scanBound) (h1 : res.Pairwise (· < ·)) (h2 : ∀ d, d ∈ res ↔ d ∈ ms) (h3 : res.length < 60)
    (hc : X.calm = true := by kernel_rfl) (hg : glB X "sorted" = true := by kernel_rfl) (hg2 : glB X "set" = true := by kernel_rfl) (he : starEach [.Call (.Name "set" p2) [a] [] p3] X.env = (false, eval (.Call (.Name "set" p2) [a] [] p3) X.env) :: starEach [] X.env := by kernel_rfl)
    (he2 : starEach [a] X.env = (false, eval a X.env) :: starEach [] X.env := by kernel_rfl) : DE X en (.Call (.Name "sorted" p) [.Call (.Name "set" p2) [a] [] p3] [] pos) .o (.list (res.map nD)) := fun B Bo Ho H σ f Q q => by
  refine wE_of (pe_callB (cr_sortedSet hc) (gl_of hg) hm (by decide +kernel) (pa_cons (pe_callTy (cr_setL hc) (gl_of hg2) hm2 (by decide +kernel) (pa_cons pe_w pa_nil he2) (he := he2)) pa_nil he) (he := he)) ?_
  refine ha B Bo Ho H σ f _ fun v H1o H1 g1 r1 => ?_
  obtain ⟨l, xs, rfl, q1, r1⟩ := RpE.lt r1
  have ex := row_vals r1
  subst ex
  refine ⟨l, asI ms, rfl, .inl (.inl (by unfold asI; rw [List.map_map]; exact q1)), by unfold asI; rw [List.length_map]; exact hb, fun D S n hD hS hn => ?_⟩
  have small := hn (asI res) fun k hk => by
    obtain ⟨d, hd, e⟩ := mem_asI.mp hk
    exact mem_asI.mpr ⟨d, (h2 d).mpr hd, e⟩
  unfold asI at small
  rw [List.length_map] at small
  refine ⟨D, S, n, rfl, upd_same, by omega, fun ns b hr hmem _ hb => ?_⟩
  have ens : ns = asI res := rise_ext hr (asI_rise h1) fun k => by
    rw [hmem, hS, mem_asI, mem_asI]
    exact ⟨fun ⟨d, hd, e⟩ => ⟨d, (h2 d).mpr hd, e⟩, fun ⟨d, hd, e⟩ => ⟨d, (h2 d).mp hd, e⟩⟩
  subst ens
  have g := g1.trans (Gr.tmp (o := SetO X.w D S n) g1.s hD)
  refine q _ H1o _ (g.trans (.tmp g.s hb)) ⟨b, rfl, g.h.free hb, g.s.free hb, _, upd_same, ?_⟩
  unfold asI
  rw [List.map_map]
  suffices h : ∀ l : List Nat, RpA X.K H1o (l.map (V.int ∘ fun (n : Nat) => (n : Int))) (l.map nD) from h res
  intro l
  induction l with
  | nil => exact .nil
  | cons x l ih => exact .cons (.int _) ih
end
end DL

namespace DL
open PySem PySem.Spec PyProof.Rows L2
variable [Lam]
/-- for a test, one's own thing may be looked at as if it stayed -/
theorem DT.frz {X : Cx} {en : En} {e : Expr} {b : Bool} {d : PD} (i : Nat) (h : DT X (en.set i (some (.v d))) e b) (hi : en[i]? = some (some (.o d)) := by rfl) : DT X en e b := fun B Bo Ho H σ f Q q => by
  obtain ⟨Ho', f', so⟩ := f.freeze hi
  exact h B Bo Ho' H σ f' Q fun H1o H1 g => q Ho H1 ⟨g.h, .refl _, f.hoh.trans g.h, fun _ _ => rfl, g.tb⟩
end DL

namespace DL
open PySem PySem.Spec PyProof.Rows L2
variable [Lam]
/-! ### a lambda of one parameter, made here and handed to a def that calls it -/
theorem among_more {pos : Pos} {cv : Value} (l m : List Value) (t : TriplesOk l) (h : codeAmong pos l = some cv) : codeAmong pos (l ++ m) = some cv := by
  fun_induction TriplesOk l with
  | case1 => simp [codeAmong] at h
  | case2 a t b u x rest ih =>
    simp only [List.cons_append, codeAmong] at h ⊢
    by_cases q : (a == (pos.line : Int) && b == (pos.col : Int)) = true
    · rw [if_pos q] at h ⊢; exact h
    · rw [if_neg q] at h ⊢; exact ih t h
  | case3 l h1 h2 => exact t.elim
section
variable {X : Cx} {pins : List (Addr × Obj)} {σ : L2.St} {H : Hp} {s : Shared}
/-- what is known of a new lambda at f -/
structure Made (X : Cx) (H H1 : Hp) (s' : Shared) (params : Arguments) (body : Expr) (scope : Scope) (P f c' : Addr) (pos : Pos) (pm ctv : Value) : Prop where
  same : Same H H1
  tb : TbK H1
  obj : s'.heap.get? f = some (PySem.W.kla_obj "<lambda>" (X.env.qual ++ "<lambda>") params body scope (cloFrom X.env.cells scope.names []) pm c' ctv)
  none : H1 f = none
  nofr : f ∉ frs X.stack
  row : ∃ ps, H1 P = some (.tbl ps) ∧ TriplesOk ps.toList ∧ codeAmong pos ps.toList = some (.ref c')
theorem lam_made {c P : Addr} {params : Arguments} {body : Expr} {scope : Scope} {pos : Pos} {E : Value → Shared → Prop} {Q : Value → Shared → Prop} (I : Inv X pins σ H s) (TB : LamX.TabB X.base X.mg c P) (hcode : X.env.code = .ref c)
    (hm : (P, X.env.qual ++ "<lambda>") ∈ Lam.T) (hu : ∀ p ∈ Lam.T, p.1 = P → p.2 = X.env.qual ++ "<lambda>") (hT : TbK H) (hdef : defaultsOf params X.env = ([], [])) (hfree : ∀ y ∈ scope.names, y.2 = .free → ∃ c, X.env.cells.lookup y.1 = some c)
    (h : ∀ (f c' : Addr) (pm ctv : Value) (H1 : Hp) (s' : Shared), Inv X pins σ H1 s' → Made X H H1 s' params body scope P f c' pos pm ctv → Q (.ref f) s') : wpAny (model X.prog X.w) X.A (eval (.Lambda params body scope pos) X.env) Q E s := by
  obtain ⟨ps, hP, ht, ha⟩ := hT _ hm
  refine PySem.W.kla_eval hdef ?_
  have nofr : ∀ f, s.heap.objs.size ≤ f → f ∉ frs X.stack := fun f hf z => (List.mem_cons.mp (I.stkSub _ z)).elim (fun e => by have h1 := I.lt; rw [← e] at h1; exact absurd (Nat.lt_of_lt_of_le h1 hf) (Nat.lt_irrefl _)) fun e => I.nofs hf e
  have hP' : s.heap.get? P = some { cls := .none, data := .fields ps } := I.hok P _ hP
  cases hc : codeAmong pos ps.toList with
  | some cv =>
    obtain ⟨c', rfl, hco⟩ := ha pos cv hc
    refine PySem.W.kla_makeFunctionHit (mg := X.mg) (c := c) (P := P) (ps := ps) (closure_ok hfree) I.ok.glob (I.mod.glob.keeps I.bk) hcode (TB.code.keeps I.bk) hP' ht hc (TB.bm.keeps I.bk) fun ctv h' tk hx hsz => ?_
    refine h h'.objs.size c' ((X.mg "__name__").getD .none) ctv H _ (I.kept (t' := tk) fun b o e => Heap.get?_push_of_some _ (hx b o e)) ⟨.refl _, hT, Heap.get?_push_size _ rfl, I.hok.fresh hsz, nofr _ hsz, ps, hP, ht, hc⟩
  | none =>
    refine PySem.W.kla_makeFunction (mg := X.mg) (c := c) (P := P) (ps := ps) (closure_ok hfree) I.ok.glob (I.mod.glob.keeps I.bk) hcode (TB.code.keeps I.bk) hP' ht hc TB.gP (TB.bm.keeps I.bk) fun c' ctv h' tk hx hge hlt hrec htb => ?_
    obtain ⟨c2, oc, vs, t, e2, hoc, hd, hv⟩ := hrec
    cases e2
    have nC : H c' = none := I.hok.fresh hge
    have nP : P ≠ c' := ne_of_none hP nC
    have I1 := LamX.inv_table (t' := tk) (more := #[rawInt pos.line, rawInt pos.col, .ref c']) (h' := h'.push (PySem.W.kla_obj "<lambda>" (X.env.qual ++ "<lambda>") params body scope (cloFrom X.env.cells scope.names []) ((X.mg "__name__").getD .none) c' ctv)) I hP (fun b o hb e => Heap.get?_push_of_some _ (hx b o hb e)) (Heap.get?_push_of_some _ htb) hge ⟨oc, vs, t, Heap.get?_push_of_some _ hoc, hd, hv⟩
    have hle : s.heap.objs.size ≤ h'.objs.size := Nat.le_trans hge (Nat.le_of_lt hlt)
    have at_ : ∀ b, b ≠ P → b ≠ c' → upd (upd H P (.tbl (ps ++ #[rawInt pos.line, rawInt pos.col, .ref c']))) c' (LamX.CodeO c' (X.env.qual ++ "<lambda>")) b = H b := fun b h1 h2 => by rw [upd_ne h2, upd_ne h1]
    have atP : upd (upd H P (.tbl (ps ++ #[rawInt pos.line, rawInt pos.col, .ref c']))) c' (LamX.CodeO c' (X.env.qual ++ "<lambda>")) P = some (.tbl (ps ++ #[rawInt pos.line, rawInt pos.col, .ref c'])) := by rw [upd_ne nP, upd_same]
    have eL : (ps ++ #[rawInt pos.line, rawInt pos.col, .ref c']).toList = ps.toList ++ [rawInt pos.line, rawInt pos.col, .ref c'] := by simp
    have kp : ∀ b q, H b = some (LamX.CodeO b q) → upd (upd H P (.tbl (ps ++ #[rawInt pos.line, rawInt pos.col, .ref c']))) c' (LamX.CodeO c' (X.env.qual ++ "<lambda>")) b = some (LamX.CodeO b q) := fun b q e => by
      rw [at_ b (fun z => by rw [z, hP] at e; cases e) (ne_of_none e nC)]; exact e
    refine h h'.objs.size c' ((X.mg "__name__").getD .none) ctv _ _ I1 ⟨⟨fun b o e => ?_⟩, fun p hp => ?_, Heap.get?_push_size _ rfl, ?_, nofr _ hle, _, atP, by rw [eL]; exact TriplesOk_snoc _ _ _ _ ht, by rw [eL]; exact codeAmong_snoc _ ht hc⟩
    · by_cases hb : b = P
      · rw [hb, hP] at e; cases e
        exact ⟨.tbl (ps ++ #[rawInt pos.line, rawInt pos.col, .ref c']), by rw [hb]; exact atP, trivial⟩
      · exact ⟨o, by rw [at_ b hb (ne_of_none e nC)]; exact e, .refl _⟩
    · by_cases hb : p.1 = P
      · refine ⟨_, by rw [hb]; exact atP, by rw [eL]; exact TriplesOk_snoc _ _ _ _ ht, fun p' cv hcv => ?_⟩
        rw [eL] at hcv
        rcases LamX.among_app _ ht hcv with z | z
        · obtain ⟨c0, e1, e2⟩ := ha p' cv z
          exact ⟨c0, e1, by rw [hu p hp hb]; exact kp _ _ e2⟩
        · exact ⟨c', z, by rw [hu p hp hb]; exact upd_same⟩
      · obtain ⟨qs, a1, a2, a3⟩ := hT p hp
        refine ⟨qs, by rw [at_ p.1 hb (ne_of_none a1 nC)]; exact a1, a2, fun p' cv hcv => ?_⟩
        obtain ⟨c0, e1, e2⟩ := a3 p' cv hcv
        exact ⟨c0, e1, kp _ _ e2⟩
    · rw [at_ _ (Nat.ne_of_gt (Nat.lt_of_lt_of_le (Heap.lt_size hP') hle)) (Nat.ne_of_gt hlt)]
      exact I.hok.fresh hle
end
/-! ### its names -/
structure LamS (sc scope : Scope) (z : Str) : Prop where
  kind : scope.kind = .function
  co : scope.isCoroutine = false
  gen : scope.isGenerator = false
  own : ∀ y ∈ scope.names, y.2 ≠ .cell
  par : scope.names.lookup z = some .local
  loc : ∀ y, scope.names.lookup y = some .local → y = z
  free : ∀ y ∈ scope.names, y.2 = .free → sc.names.lookup y.1 = some .cell ∨ sc.names.lookup y.1 = some .free
def lamSB (sc scope : Scope) (z : Str) : Bool :=
  decide (scope.kind = .function) && !scope.isCoroutine && !scope.isGenerator && decide (scope.names.lookup z = some .local) && scope.names.all fun y => !decide (y.2 = .cell) && (!decide (y.2 = .local) || decide (y.1 = z)) && (!decide (y.2 = .free) || decide (sc.names.lookup y.1 = some .cell) || decide (sc.names.lookup y.1 = some .free))
theorem lamS_by {sc scope : Scope} {z : Str} (h : lamSB sc scope z = true) : LamS sc scope z := by
  unfold lamSB at h
  simp only [Bool.and_eq_true, Bool.or_eq_true, Bool.not_eq_true', decide_eq_true_eq, decide_eq_false_iff_not, List.all_eq_true] at h
  obtain ⟨⟨⟨⟨h1, h2⟩, h3⟩, h5⟩, h4⟩ := h
  refine ⟨h1, h2, h3, fun y hy => (h4 y hy).1.1, h5, fun y hy => ?_, fun y hy e => ?_⟩
  · rcases (h4 _ (PySem.mem_of_lookup hy)).1.2 with q | q
    · exact absurd rfl q
    · exact q
  · rcases (h4 y hy).2 with (q | q) | q
    · exact absurd e q
    · exact .inl q
    · exact .inr q
theorem LamS.has {X : Cx} {scope : Scope} {z : Str} (L : LamS X.env.scope scope z) (ok : X.Ok) : ∀ y ∈ scope.names, y.2 = .free → ∃ c, X.env.cells.lookup y.1 = some c := fun y hy e => (L.free y hy e).elim (fun k => ok.has _ (.inl k)) fun k => ok.has _ (.inr k)
section
variable {X : Cx} {pins : List (Addr × Obj)} {σ : L2.St} {H HZ : Hp} {s s1 : Shared}
theorem lam_begin {A : Around} {outer : List Env} {E : XK} {scope : Scope} {f c' : Addr} {h₁ : Heap} {tk j : Nat} {z : Str} {v : V} {u : Value} (I : Inv X pins σ H s) (L : LamS X.env.scope scope z) (hN : X.N.Nodup) (hj : X.N[j]? = some z) (rv : RelV v u)
    (e0 : Env0 X.prog X.w X.K X.mg X.base A outer s1 HZ) (hd : A.handled = none) (un : Un (frs X.stack) [] H HZ s.heap s1.heap) (hns : h₁.Ns s1.heap.objs.size fun y => [(z, u)].reverse.lookup y) (kp : ∀ b o, s1.heap.get? b = some o → h₁.get? b = some o) :
    Inv (LamX.lamCx X A outer s1 HZ E scope f c') [] (σ.set j (some v)) HZ { s1 with heap := h₁, toks := tk } := by
  have hfree := L.has I.ok
  have cm : ∀ {y c}, (cloFrom X.env.cells scope.names []).lookup y = some c → X.env.cells.lookup y = some c := fun {y c} e => by
    rcases cloFrom_mem (PySem.mem_of_lookup e) with hm | ⟨h1, h2⟩
    · cases hm
    · obtain ⟨c1, hc⟩ := hfree _ h1 rfl
      have hc2 : X.env.cells.lookup y = some c1 := hc
      have e2 : c = c1 := by rw [h2, hc2] <;> rfl
      rw [e2, hc2]
  have look : ∀ {y}, scope.names.lookup y = some .free → ∃ c, (cloFrom X.env.cells scope.names []).lookup y = some c := fun {y} hl => mem_lookup (cloFrom_has (cells := X.env.cells) (acc := []) (PySem.mem_of_lookup hl))
  have cellK : ∀ {c : Addr} {w : Option Value}, H c = none → s.heap.IsCell c w → h₁.IsCell c w := fun {c w} n ⟨o, ho, hd⟩ => by
    obtain ⟨sl, q⟩ := un.any ho n (by simp)
    exact ⟨_, kp _ _ q, hd⟩
  have noA : ∀ b : Addr, b ∉ (LamX.lamCx X A outer s1 HZ E scope f c').ex := fun b q => by cases (show b ∈ ([] : List Addr) from q)
  have ok : (LamX.lamCx X A outer s1 HZ E scope f c').Ok := {
    mod := e0.mod, kind := L.kind, glob := rfl, blt := rfl, above := Nat.le_refl _
    inj := fun x y c e1 e2 => I.ok.inj x y c (cm e1) (cm e2)
    has := fun y hy => hy.elim (fun k => absurd rfl (L.own _ (PySem.mem_of_lookup (show scope.names.lookup y = some .cell from k)))) fun k => look k
    cab := fun y c q _ => Bool.noConfusion (show false = true from q)
    hd := fun _ => hd, frames := Around.frames_deeper e0.frames, stk := .inr ⟨rfl, rfl⟩
    exf := fun b q => absurd q (noA b), bs := e0.bs, bsz := e0.bsz, noex := fun b _ _ => noA b, exfs := fun b q => absurd q (noA b), funs := e0.funs, frf := e0.frf }
  refine { ok := ok, os := rfl, bare := e0.bare, base := Un.kept kp, loc := ⟨_, hns, fun i y w e1 e2 e3 => ?_⟩, cell := fun y c e => ?_, free := e0.hok.fresh (Nat.le_refl _), freeC := fun y c e => ?_, pin := fun q hq => ?_, hok := e0.hok.kept kp, len := (by rw [List.length_set]; exact I.len) }
  · have e1 : X.N[i]? = some y := e1
    have e3 : Vis scope y := e3
    by_cases hij : j = i
    · subst hij
      have ey : y = z := Option.some.inj (e1.symm.trans hj)
      have hlt : j < σ.length := by
        have := (List.getElem?_eq_some_iff.mp e2).1
        rwa [List.length_set] at this
      rw [List.getElem?_set_self hlt] at e2
      have ev := Option.some.inj (Option.some.inj e2)
      subst ev ey
      exact ⟨u, rv, .inl ⟨L.par, by simp⟩⟩
    · rw [List.getElem?_set_ne hij] at e2
      have ny : y ≠ z := fun e => hij ((nodup_ix hN e1 (e ▸ hj)).symm)
      rcases e3 with k | k | k
      · exact absurd (L.loc y k) ny
      · exact absurd rfl (L.own _ (PySem.mem_of_lookup k))
      · obtain ⟨m, hn, hl⟩ := I.loc
        have kX := L.free _ (PySem.mem_of_lookup k) rfl
        obtain ⟨w', r, q⟩ := hl i y w e1 e2 (kX.elim (fun q => .inr (.inl q)) fun q => .inr (.inr q))
        obtain ⟨c2, h2⟩ := look k
        refine ⟨w', r, .inr ⟨.inr k, c2, h2, ?_⟩⟩
        have c1 := cm h2
        rcases q with ⟨k', _⟩ | ⟨_, c3, e', iz⟩
        · have k' : X.env.scope.names.lookup y = some .local := k'
          rcases kX with k2 | k2 <;> rw [show X.env.scope.names.lookup y = _ from k2] at k' <;> cases k'
        · rw [c1] at e'
          cases e'
          exact cellK (I.freeC y _ c1) iz
  · obtain ⟨w', q⟩ := I.cell y c (cm e)
    exact ⟨w', cellK (I.freeC y c (cm e)) q⟩
  · obtain ⟨w, o, ho, hd⟩ := I.cell y c (cm e)
    exact un.free c o ho (I.freeC y c (cm e)) (by simp)
  · cases (show q ∈ ([] : List (Addr × Obj)) from hq)
/-- x(e), x the lambda: in the def Z that got it, entered at s -/
theorem pe_lact {CXg : CXT} {Eg : XK} {Ng : List Str} {qg : Str} {sg : Scope} {g f c' P : Addr} {cdg pm ctv : Value} {params : Arguments} {body : Expr} {scope : Scope} {k i j : Nat} {a z : Str} {e : Expr} {te : TE} {tb : TE} {lpos p1 p2 : Pos} {ps : Array Value}
    (I : Inv X pins σ H s) (L : LamS X.env.scope scope z) (hNd : X.N.Nodup) (hj : X.N[j]? = some z) (hf : s.heap.get? f = some (PySem.W.kla_obj "<lambda>" (X.env.qual ++ "<lambda>") params body scope (cloFrom X.env.cells scope.names []) pm c' ctv)) (hfn : H f = none) (hfr : f ∉ frs X.stack)
    (hm : (P, X.env.qual ++ "<lambda>") ∈ Lam.T) (hP : H P = some (.tbl ps)) (hps : TriplesOk ps.toList) (hpc : codeAmong lpos ps.toList = some (.ref c'))
    (hbind : ∀ u, bindArgs (PySem.W.kla_fn "<lambda>" (X.env.qual ++ "<lambda>") params body scope (cloFrom X.env.cells scope.names []) pm (.ref c') ctv) ⟨[u], []⟩ = pure [(z, u)])
    (hr : Room (k + 1) (X.A.deeper (envOfC qg sg s.heap.objs.size g cdg)))
    (hbody : ∀ (A : Around) (outer : List Env) (s : Shared) (H : Hp), Room k (A.deeper (LamX.lamEnv X scope s.heap.objs.size f c')) → PE (LamX.lamCx X A outer s H (fun _ _ _ => False) scope f c') body tb)
    (hN : Ng[i]? = some a) (hv : Vis sg a) (he : PE (cxOf CXg X.prog X.w X.K X.mg X.base Ng qg sg g cdg X.A X.stack s H Eg).nox e te)
    (hes : starEach [e] (cxOf CXg X.prog X.w X.K X.mg X.base Ng qg sg g cdg X.A X.stack s H Eg).nox.env = (false, eval e (cxOf CXg X.prog X.w X.K X.mg X.base Ng qg sg g cdg X.A X.stack s H Eg).nox.env) :: starEach [] (cxOf CXg X.prog X.w X.K X.mg X.base Ng qg sg g cdg X.A X.stack s H Eg).nox.env)
    (hd : (a == ("__debug__" : Str)) = false := by decide) (hcd : (a == ("__classdict__" : Str)) = false := by decide) :
    PE (cxOf CXg X.prog X.w X.K X.mg X.base Ng qg sg g cdg X.A X.stack s H Eg).nox (.Call (.Name a p1) [e] [] p2) (fun σZ HZ Q => σZ[i]? = some (some (.ref f)) ∧ te σZ HZ fun v H2 => TbK H2 ∧ tb (σ.set j (some v)) H2 Q) := by
  refine ⟨fun pinsZ sZ σZ HZ Q IZ h => ?_⟩
  obtain ⟨hs, ht⟩ := h
  refine wpAny_Call_Name_kw (thn ((pe_var (pos := p1) (i := i) hN hv hd hcd).run pinsZ sZ σZ HZ (fun v H1 => v = .ref f ∧ H1 = HZ) IZ ⟨.ref f, hs, rfl, rfl⟩) fun u s1 ⟨v, H1, I1, r1, q1⟩ => ?_)
  obtain ⟨ev, eH⟩ := q1
  subst ev
  rw [eH] at I1
  obtain rfl : u = Value.ref f := r1
  have atf : ∀ {pn : List (Addr × Obj)} {ρ : L2.St} {H2 : Hp} {s2 : Shared}, Inv (cxOf CXg X.prog X.w X.K X.mg X.base Ng qg sg g cdg X.A X.stack s H Eg).nox pn ρ H2 s2 → s2.heap.get? f = some (PySem.W.kla_obj "<lambda>" (X.env.qual ++ "<lambda>") params body scope (cloFrom X.env.cells scope.names []) pm c' ctv) :=
    fun J => J.base.keep f _ hf hfn hfr (fun z => nomatch (show f ∈ ([] : List Addr) from z))
  refine PySem.W.callWith_F ⟨_, _, _, _, atf I1⟩ (thn ((pa_cons he pa_nil hes).run p2 pinsZ s1 σZ HZ (fun vs H2 => match vs with | [v] => TbK H2 ∧ tb (σ.set j (some v)) H2 Q | _ => False) I1 ht) fun us s2 ⟨vs, H2, I2, r2, q2⟩ => ⟨⟨_, _, _, _, atf I2⟩, ?_⟩) hes rfl
  cases vs with
  | nil => exact q2.elim
  | cons v rest =>
    cases rest with
    | cons _ _ => exact q2.elim
    | nil =>
      obtain ⟨tbk, q3⟩ := q2
      obtain ⟨u, eu, rv⟩ := vals1 r2
      subst eu
      have of2 := atf I2
      have un : Un (frs X.stack) [] H H2 s.heap s2.heap := I2.base
      have hco : H2 c' = some (LamX.CodeO c' (X.env.qual ++ "<lambda>")) := by
        obtain ⟨more, hP2⟩ := un.tbls P ps hP
        obtain ⟨qs, a1, a2, a3⟩ := tbk _ hm
        have eq : ps ++ more = qs := by
          have e := hP2.symm.trans a1
          exact HO.tbl.inj (Option.some.inj e)
        obtain ⟨c3, e3, e4⟩ := a3 lpos (.ref c') (by rw [← eq, Array.toList_append]; exact among_more _ _ hps hpc)
        cases e3
        exact e4
      obtain ⟨⟨oc, ws, t, hoc, hdc, hvc⟩, _, _⟩ := I2.hok c' _ hco
      have rc : codeAny (model X.prog X.w) (X.A.deeper (envOfC qg sg s.heap.objs.size g cdg)) (.call (.ref f) ⟨[u], []⟩) (CR (L2.CX X.prog X.w) (envOfC qg sg s.heap.objs.size g cdg :: X.stack) X.prog X.w H2 s2 Q fun _ _ _ => False) s2 := by
        refine PySem.W.kla_callFunE hr.depth of2 rfl L.co L.gen rfl ⟨c', oc, ws, t, rfl, hoc, hdc, hvc⟩ ?_
        rw [hbind]
        refine wpAny_pure (wpAny_newFunctionEnv L.own (fun y hy => ?_) (fun h₁ hns hsb => ⟨I2.nolimit.fresh _ hsb, ?_⟩) L.kind)
        · rw [List.mem_singleton.mp hy]; exact L.par
        · show codeAny _ _ (.expr body (LamX.lamEnv X scope s2.heap.objs.size f c')) _ _
          have kp : ∀ b o, s2.heap.get? b = some o → h₁.get? b = some o := fun b o e => hsb.extBut b o (Nat.ne_of_lt (Heap.lt_size e)) (Heap.get?_push_of_some _ e)
          have J := lam_begin (tk := s2.toks + [(z, u)].length) (E := fun _ _ _ => False) (f := f) (c' := c') I L hNd hj rv I2.env0 hr.hd un hns kp
          refine PySem.W.kla_codeExpr (wpAny_mono ((hbody _ _ s2 H2 (hr.deeper _)).run [] _ _ H2 Q J q3) (fun v s' hq => ?_) fun e s' hq => hq)
          obtain ⟨w', H', J', rv', q⟩ := hq
          exact ⟨w', H', J'.os, J'.bare, J'.base, J'.hok, rv', q⟩
      refine wpAny_call (codeAny_mono rc fun r s' hq => ?_)
      cases r with
      | error e =>
        obtain ⟨_, _, _, _, _, _, _, _, _, _, _, _, bad⟩ := hq
        exact bad.elim
      | ok fl =>
        cases fl with
        | ret u => exact I2.after hq
        | next => exact False.elim hq
        | brk => exact False.elim hq
        | cont => exact False.elim hq
end
end DL

namespace DL
open PySem PySem.Spec PyProof.Rows L2
variable [Lam]
/-! ### slots that the text doesn't name -/
theorem Inv.ghost {X : Cx} {pins : List (Addr × Obj)} {σ : L2.St} {H : Hp} {s : Shared} {i : Nat} {x : Option V} (I : L2.Inv X pins σ H s) (h : ∀ y, X.N[i]? = some y → ¬ Vis X.env.scope y) : L2.Inv X pins (σ.set i x) H s := by
  obtain ⟨m, hm, hl⟩ := id I.loc
  refine { ok := I.ok, os := I.os, bare := I.bare, base := I.base, loc := ⟨m, hm, fun j y v e1 e2 e3 => ?_⟩, cell := I.cell, free := I.free, freeC := I.freeC, pin := I.pin, hok := I.hok, len := (by rw [List.length_set]; exact I.len) }
  by_cases e : i = j
  · subst e; exact absurd e3 (h y e1)
  · rw [List.getElem?_set_ne e] at e2; exact hl j y v e1 e2 e3
/-- what a lambda captures: the maker's slot, the ghost slot of the def that gets it, its data -/
abbrev Caps := List (Nat × Nat × PD)
def gStart (σ : L2.St) : Caps → L2.St → L2.St
  | [], ρ => ρ
  | c :: r, ρ => (gStart σ r ρ).set c.2.1 ((σ[c.1]?).getD none)
def adOf : Option V → Addr
  | some (.ref a) => a
  | _ => 0
def gEn (σ : L2.St) : Caps → En → En
  | [], en => en
  | c :: r, en => (gEn σ r en).set c.2.1 (some (.v (atD (adOf ((σ[c.1]?).getD none)) c.2.2)))
/-- the ghosts stand in the slots -/
def GhostOk (σ : L2.St) (cs : Caps) (en : En) : Prop := ∀ c ∈ cs, en[c.2.1]? = some (some (.v (atD (adOf ((σ[c.1]?).getD none)) c.2.2)))
def capEn : Caps → En → En
  | [], en => en
  | c :: r, en => (capEn r en).set c.1 (some (.v c.2.2))
/-- the slots of the lambda's body -/
def lamEn (n : Nat) (cs : Caps) (j : Nat) (d : PD) : En := (capEn cs (List.replicate n none)).set j (some (.v d))
theorem capEn_at {n : Nat} : ∀ {cs : Caps} {i : Nat} {s : Sl}, (capEn cs (List.replicate n none))[i]? = some (some s) → ∃ c ∈ cs, c.1 = i ∧ s = .v c.2.2
  | [], i, s, e => by
    unfold capEn at e
    rw [List.getElem?_replicate] at e
    split at e <;> cases e
  | c :: r, i, s, e => by
    unfold capEn at e
    rcases get_set e with ⟨h1, h2⟩ | ⟨h1, h2⟩
    · exact ⟨c, List.mem_cons_self, h1, Option.some.inj h2⟩
    · obtain ⟨c', m, q⟩ := capEn_at h2
      exact ⟨c', List.mem_cons_of_mem _ m, q⟩
theorem capEn_len : ∀ (cs : Caps) (en : En), (capEn cs en).length = en.length
  | [], en => rfl
  | c :: r, en => by unfold capEn; rw [List.length_set]; exact capEn_len r en
def isSeq : PD → Bool
  | .list _ => true
  | .tuple _ => true
  | _ => false
theorem Rp.ref {K : PySem.W.Frag} {H : Hp} {v : V} {d : PD} (h : Rp K H v d) (hs : isSeq d = true) : ∃ a, v = .ref a := by
  cases h <;> first | exact ⟨_, rfl⟩ | cases hs
/-- what the maker knows of what is captured -/
def CapOk (en : En) (cs : Caps) : Prop := ∀ c ∈ cs, en[c.1]? = some (some (.v c.2.2)) ∧ isSeq c.2.2 = true
theorem Fit.lam {K : PySem.W.Frag} {B Bo Ho H : Hp} {ρ σ : L2.St} {en : En} {cs : Caps} {j : Nat} {v : V} {d : PD} (f : Fit K B Bo Ho H ρ en) (g : GhostOk σ cs en) (hc : ∀ c ∈ cs, ∃ a, σ[c.1]? = some (some (.ref a))) (hj : j < σ.length) (r : Rp K Ho v d) :
    Fit K H Ho Ho H (σ.set j (some v)) (lamEn σ.length cs j d) := by
  refine ⟨f.hoh, .refl _, .refl _, f.hoh, fun _ _ => rfl, f.tb, by unfold lamEn; rw [List.length_set, List.length_set, capEn_len, List.length_replicate], fun i s e => ?_, fun i i' {_ _} d1 d2 p e1 e2 e3 e4 => ?_⟩
  · unfold lamEn at e
    rcases get_set e with ⟨rfl, h2⟩ | ⟨h1, h2⟩
    · cases h2
      exact ⟨v, List.getElem?_set_self hj, r⟩
    · obtain ⟨c, hm, rfl, rfl⟩ := capEn_at h2
      obtain ⟨a, ha⟩ := hc c hm
      have hg := g c hm
      rw [ha] at hg
      obtain ⟨w, _, rw⟩ := f.var hg
      obtain ⟨_, r2⟩ := rw.at_inv
      exact ⟨.ref a, by rw [List.getElem?_set_ne h1]; exact ha, r2⟩
  · unfold lamEn at e1
    rcases get_set e1 with ⟨_, h2⟩ | ⟨_, h2⟩
    · cases h2
    · obtain ⟨c, _, _, q⟩ := capEn_at h2
      cases q
theorem Inv.ghosts {X : Cx} {pins : List (Addr × Obj)} {σ : L2.St} {H : Hp} {s : Shared} : ∀ {cs : Caps} {ρ : L2.St}, (∀ c ∈ cs, ∀ y, X.N[c.2.1]? = some y → ¬ Vis X.env.scope y) → L2.Inv X pins ρ H s → L2.Inv X pins (gStart σ cs ρ) H s
  | [], _, _, J => J
  | c :: r, _, h, J => Inv.ghost (Inv.ghosts (fun c' hc => h c' (List.mem_cons_of_mem _ hc)) J) (h c List.mem_cons_self)
theorem Fit.ghosts {K : PySem.W.Frag} {B Bo Ho H : Hp} {σ ρ : L2.St} {en : En} (f : Fit K B Bo Ho H ρ en) : ∀ {cs : Caps}, (∀ c ∈ cs, ∃ a, σ[c.1]? = some (some (.ref a)) ∧ Rp K Ho (.ref a) c.2.2) → Fit K B Bo Ho H (gStart σ cs ρ) (gEn σ cs en)
  | [], _ => f
  | c :: r, h => by
    obtain ⟨a, e, q⟩ := h c List.mem_cons_self
    have ih := Fit.ghosts f (cs := r) fun c' hc => h c' (List.mem_cons_of_mem _ hc)
    unfold gStart gEn
    rw [e]
    exact ih.setV (.fact q)
/-- the call of what was handed in -/
def CallsD {α : Type} (Z : Cx) (σ : L2.St) (cs : Caps) (i : Nat) (f : Addr) (a : Str) (Dm : α → Prop) (c : α → PD) (p : α → Bool) : Prop :=
  ∀ (en : En) (e : Expr) (p1 p2 : Pos) (b : α), GhostOk σ cs en → en[i]? = some (some (.v (adD f))) → Dm b → DE Z en e .c (c b) → starEach [e] Z.env = (false, eval e Z.env) :: starEach [] Z.env → DE Z en (.Call (.Name a p1) [e] [] p2) .c (.bool (p b))
section
variable {X : Cx} {en : En} {k : Kd} {d : PD} {α : Type} {Dm : α → Prop} {cb : α → PD} {pr : α → Bool}
/-- x(e1, lambda z: body) -/
theorem de_lamcall {x a1 a2 z : Str} {st : Stmt} {g c P : Addr} {gd : FuncData} {n j i : Nat} {Ng : List Str} {e1 : Expr} {d1 : PD} {params : Arguments} {body : Expr} {scope : Scope} {cs : Caps} {lpos p pos : Pos}
    (G : FnP X.K x st g gd) (Sg : FnScope Ng [a1, a2] (defScope st)) (hb : Binds X.K gd [a1, a2] []) (hm : X.mg x = some (.ref g)) (hx : X.stack = X.env :: X.outer) (TB : LamX.TabB X.base X.mg c P) (hcode : X.env.code = .ref c) (hT : (P, X.env.qual ++ "<lambda>") ∈ Lam.T)
    (hu : ∀ p ∈ Lam.T, p.1 = P → p.2 = X.env.qual ++ "<lambda>") (hr : Room (n + 2) X.A) (L : LamS X.env.scope scope z) (hN : X.N.Nodup) (he1 : DE X en e1 .c d1) (hcap : CapOk en cs)
    (hgz : ∀ c ∈ cs, ∀ y, Ng[c.2.1]? = some y → ¬ Vis (defScope st) y)
    (hbind : ∀ (q : Str) (cl : List (Str × Addr)) (pm cv ctv u : Value), bindArgs (PySem.W.kla_fn "<lambda>" q params body scope cl pm cv ctv) ⟨[u], []⟩ = pure [(z, u)])
    (hbody : ∀ (A : Around) (outer : List Env) (s : Shared) (H : Hp) (f c' : Addr), Room n (A.deeper (LamX.lamEnv X scope s.heap.objs.size f c')) → ∀ b, Dm b → DE (LamX.lamCx X A outer s H (fun _ _ _ => False) scope f c') (lamEn X.N.length cs j (cb b)) body .c (.bool (pr b)))
    (hG : ∀ (cdg : Value) (s : Shared) (H : Hp) (f : Addr) (σ : L2.St), Room (n + 1) (X.A.deeper (envOfC x (defScope st) s.heap.objs.size g cdg)) →
      CallsD (cxOf CX0 X.prog X.w X.K X.mg X.base Ng x (defScope st) g cdg X.A X.stack s H (fun _ _ _ => False)).nox σ cs 1 f a2 Dm cb pr →
      DSs (cxOf CX0 X.prog X.w X.K X.mg X.base Ng x (defScope st) g cdg X.A X.stack s H (fun _ _ _ => False)).nox (gEn σ cs (startE Ng [d1, adD f])) (defBody st) { nx := fun _ => False, rk := k, rt := fun z => z = d })
    (hj : X.N[j]? = some z := by kernel_rfl) (hg : glB X x = true := by kernel_rfl) (hdef : defaultsOf params X.env = ([], []) := by rfl) (hNg : Ng[1]? = some a2 := by kernel_rfl) (hva : visB (defScope st) a2 = true := by kernel_rfl)
    (hdb : (x == ("__debug__" : Str)) = false := by kernel_rfl) (hda : (a2 == ("__debug__" : Str)) = false := by kernel_rfl) (hcda : (a2 == ("__classdict__" : Str)) = false := by kernel_rfl)
    (he : starEach [e1, .Lambda params body scope lpos] X.env = (false, eval e1 X.env) :: starEach [.Lambda params body scope lpos] X.env := by kernel_rfl)
    (he2 : starEach [.Lambda params body scope lpos] X.env = (false, eval (.Lambda params body scope lpos) X.env) :: starEach [] X.env := by kernel_rfl)
    (hpl : (backTo pos (starEach [.Lambda params body scope lpos] X.env)).any (·.1) = false := by kernel_rfl) :
    DE X en (.Call (.Name x p) [e1, .Lambda params body scope lpos] [] pos) k d := fun B Bo Ho H σ ft Q q => ⟨fun pins s I => by
  obtain ⟨oc, od, dV, kV, doc, pm, an, cdv, ct, osl, rfl, lk, hcg, _, _⟩ := G.ex
  refine wpAny_Call_Name_kw (ld_glob I (gl_of hg) hm ?_ hdb)
  refine PySem.W.callWith_K (h₀ := X.base) I.ok.mod.kin G.kp ?_ he hpl
  rw [he]
  refine Calls.spliced_cons ?_
  have h1 := (he1 B Bo Ho H σ ft (fun v H1 => ∃ H1o, Gr Ho H H1o H1 ∧ Rp X.K H1o v d1) (fun v H1o H1 g1 r1 => ⟨H1o, g1, r1⟩)).run pins s I
  refine thn h1 fun u1 s1 ⟨v1, H1, I1, r1, H1o, g1, rp1⟩ => ?_
  have f1 := ft.gr g1
  rw [he2]
  refine Calls.spliced_cons (lam_made I1 TB hcode hT hu f1.tb hdef (L.has I.ok) fun f c' pm' ctv H2 s2 I2 M => ?_)
  refine Calls.spliced_nil ⟨I2.kIn, ?_⟩
  have g2 : Gr H1o H1 H1o H2 := ⟨M.same, .refl _, f1.hoh.trans M.same, fun _ _ => rfl, fun _ => M.tb⟩
  have f2 := f1.gr g2
  have g12 := g1.trans g2
  obtain ⟨ps, hP, hps, hpc⟩ := M.row
  have hcr : ∀ c ∈ cs, ∃ a, σ[c.1]? = some (some (.ref a)) ∧ Rp X.K H1o (.ref a) c.2.2 := fun c hc => by
    obtain ⟨h1, h2⟩ := hcap c hc
    obtain ⟨v, e1, e2⟩ := f2.var h1
    obtain ⟨a, rfl⟩ := e2.ref h2
    exact ⟨a, e1, e2⟩
  have hjl : j < σ.length := by rw [I.len]; exact (List.getElem?_eq_some_iff.mp hj).1
  have rc : codeAny (model X.prog X.w) X.A (.call (.ref g) ⟨[u1, .ref f], []⟩) (CR CX0 X.stack X.prog X.w H2 s2 Q fun _ _ _ => False) s2 := by
    refine LamX.run_ofS (N := Ng) (ps := [a1, a2]) (us := [u1, .ref f]) (vs := [v1, .ref f]) lk hcg Sg hr I2.env0 (hb s2 [u1, .ref f] I2.kIn rfl) (.cons r1 (.cons rfl .nil)) rfl fun hr' => ?_
    refine ⟨fun D ρ H' => wSs (cxOf CX0 X.prog X.w X.K X.mg X.base Ng x (defScope st) g cdv X.A X.stack s2 H2 (fun _ _ _ => False)).nox (defBody st) D (gStart σ cs ρ) H', PSs.nox ⟨fun pins' s' ρ H' D J h => h.run pins' s' ?_⟩, ?_⟩
    · exact Inv.ghosts (X := (cxOf CX0 X.prog X.w X.K X.mg X.base Ng x (defScope st) g cdv X.A X.stack s2 H2 (fun _ _ _ => False)).nox) hgz J
    · have calls : CallsD (cxOf CX0 X.prog X.w X.K X.mg X.base Ng x (defScope st) g cdv X.A X.stack s2 H2 (fun _ _ _ => False)).nox σ cs 1 f a2 Dm cb pr := fun enZ e p1 p2 b gok hen hd hE hes => fun BZ BoZ HoZ HZ σZ fZ QZ qZ => by
        obtain ⟨v0, e0, r0⟩ := fZ.var hen
        have ev := r0.ad_inv
        subst ev
        refine wE_of (pe_lact (tb := fun σ' H' Q' => ∀ (A : Around) (outer : List Env) (s : Shared) (Hs : Hp), Room n (A.deeper (LamX.lamEnv X scope s.heap.objs.size f c')) → wE (LamX.lamCx X A outer s Hs (fun _ _ _ => False) scope f c') body σ' H' Q') I2 L hN hj M.obj M.none M.nofr hT hP hps hpc (fun u => hbind _ _ _ _ _ u) hr' (fun A outer s Hs hroom => ⟨fun pins s' σ' H' Q' J h => (h A outer s Hs hroom).run pins s' J⟩) hNg (vis_of hva) pe_w hes hda hcda) ⟨e0, ?_⟩
        refine hE BZ BoZ HoZ HZ σZ fZ _ fun v Ho' H' g r => ⟨(fZ.gr g).tb, fun A outer s Hs hroom => ?_⟩
        have fl := (fZ.gr g).lam (σ := σ) (cs := cs) (j := j) gok (fun c hc => let ⟨a, e, _⟩ := hcr c hc; ⟨a, e⟩) hjl r
        rw [I.len] at fl
        exact hbody A outer s Hs f c' hroom b hd _ _ _ _ _ fl _ fun v' Ho2 H2' g' r' => qZ v' Ho2 H2' (g.trans g') r'
      have f0 : Fit X.K H2 H1o H1o H2 (gStart σ cs (L2.start Ng [v1, .ref f])) (gEn σ cs (startE Ng [d1, adD f])) := (fit_start f2.hoh f2.tb (.cons rp1 (.one (.adr f)))).ghosts hcr
      refine hG cdv s2 H2 f σ hr' calls H2 H1o H1o H2 _ f0 _ ⟨fun _ _ _ _ z => z.elim, fun v d' σ' Ho' H' en' e _ g r => ?_, fun _ _ _ _ z => z.elim, fun _ _ _ _ z => z.elim⟩
      have e : d' = d := e
      subst e
      exact q v Ho' H' (g12.trans g.gr0) (r.base g12.h)
  refine wpAny_call (codeAny_mono rc fun r s' hq => ?_)
  cases r with
  | error e => exact (show False from hq).elim
  | ok fl =>
    cases fl with
    | ret u => exact I2.after hq
    | next => exact False.elim hq
    | brk => exact False.elim hq
    | cont => exact False.elim hq⟩
end
end DL

namespace DL
open PySem PySem.Spec PyProof.Rows L2
open Sem (wp)
/-! ### itertools.combinations, at the library's level -/
theorem cmb_mro : mroOf (.type "itertools.combinations") = pure [.type "itertools.combinations", .type "object"] := by rw [mroOf_type]; kernel_rfl
theorem cmb_new : typeLookup (.type "itertools.combinations") "__new__" = pure (some (.builtin "itertools.combinations.__new__")) := by rw [typeLookup_type, builtinLookup_eq_fast]; kernel_rfl
theorem cmb_sub : isSubtype (.type "itertools.combinations") (.type "itertools.combinations") = pure true := by rw [isSubtype_type]; kernel_rfl
theorem cmb_init : Slot "itertools.combinations" "__init__" "object.__init__" := .of (owner := "object") (n := "__init__") (by rw [typeLookup_type, builtinLookup_eq_fast]; kernel_rfl) (by decide +kernel) (by decide +kernel) (by decide +kernel) (by first | exact .inl (by decide +kernel) | exact .inr (by decide +kernel)) (by rw [isSubtype_type]; kernel_rfl)
theorem cmb_called : TypeCalled "itertools.combinations" "itertools.combinations.__new__" "object.__init__" := ⟨by decide +kernel, by decide +kernel, ⟨_, _, cmb_mro⟩, madeBy_type cmb_mro cmb_new (by decide +kernel), by decide +kernel, cmb_sub, cmb_init⟩
theorem cmb_tcall (a b : Value) : checkTypeCall "itertools.combinations" ⟨[a, b], []⟩ = pure () := by kernel_rfl
theorem cmb_ncall (a b : Value) : checkBuiltinCall "itertools.combinations.__new__" ⟨[.type "itertools.combinations", a, b], []⟩ = pure () := by kernel_rfl
theorem cmb_entry_new : entryFor table "itertools.combinations.__new__" = some Builtin.«itertools.combinations.__new__» := entryFor_of_tree (by kernel_rfl)
theorem cmb_slot_iter : Slot "itertools.combinations" "__iter__" "itertools.combinations.__iter__" := .of (owner := "itertools.combinations") (n := "__iter__") (by rw [typeLookup_type, builtinLookup_eq_fast]; kernel_rfl) (by decide +kernel) (by decide +kernel) (by decide +kernel) (by first | exact .inl (by decide +kernel) | exact .inr (by decide +kernel)) cmb_sub
theorem cmb_slot_next : Slot "itertools.combinations" "__next__" "itertools.combinations.__next__" := .of (owner := "itertools.combinations") (n := "__next__") (by rw [typeLookup_type, builtinLookup_eq_fast]; kernel_rfl) (by decide +kernel) (by decide +kernel) (by decide +kernel) (by first | exact .inl (by decide +kernel) | exact .inr (by decide +kernel)) cmb_sub
theorem cmb_entry_iter : entryFor table "itertools.combinations.__iter__" = some Builtin.«dict_keyiterator.__iter__» :=
  entryFor_alias (id' := "dict_keyiterator.__iter__") (by kernel_rfl) (by first | rfl | decide +kernel | (unfold String.splitOn; simp +decide [String.splitOnAux])) (by decide +kernel) (by kernel_rfl)
theorem cmb_entry_next : entryFor table "itertools.combinations.__next__" = some Builtin.«itertools.combinations.__next__» := entryFor_of_tree (by kernel_rfl)
theorem cmb_owner : Manifest.owners.lookup (String.ofList ['s', 'n', 'o', 'i', 't', 'a', 'n', 'i', 'b', 'm', 'o', 'c', '.', 's', 'l', 'o', 'o', 't', 'r', 'e', 't', 'i'].reverse) = some Manifest.sig_itertools_combinations := by kernel_rfl
theorem cmb_args_iter (a : Value) : argsOk "itertools.combinations.__iter__" ⟨[a], []⟩ := by
  unfold argsOk; rw [signature?_of (id := "itertools.combinations.__iter__") (n := ['_', '_', 'r', 'e', 't', 'i', '_', '_']) (o := ['s', 'n', 'o', 'i', 't', 'a', 'n', 'i', 'b', 'm', 'o', 'c', '.', 's', 'l', 'o', 'o', 't', 'r', 'e', 't', 'i']) (by kernel_rfl) cmb_owner]; kernel_rfl
theorem cmb_args_next (a : Value) : argsOk "itertools.combinations.__next__" ⟨[a], []⟩ := by
  unfold argsOk; rw [signature?_of (id := "itertools.combinations.__next__") (n := ['_', '_', 't', 'x', 'e', 'n', '_', '_']) (o := ['s', 'n', 'o', 'i', 't', 'a', 'n', 'i', 'b', 'm', 'o', 'c', '.', 's', 'l', 'o', 'o', 't', 'r', 'e', 't', 'i']) (by kernel_rfl) cmb_owner]; kernel_rfl
theorem cmb_noDict : typeHasDict (.type "itertools.combinations") = false := by decide +kernel
/-- such an object: its tuple, whether it began, what it gave last, its places -/
def cmbO (pool : Addr) (st : Int) (last : Value) (ix : List Nat) : Obj := { cls := .type "itertools.combinations", dict := none, data := .fields ([.ref pool, rawInt st, last] ++ ix.map fun (i : Nat) => rawInt i).toArray, slots := #[] }
/-- the places behind these, of n -/
def nextC (n : Nat) (ix : List Nat) : Option (List Nat) :=
  match (List.range ix.length).reverse.find? fun i => ix.getD i 0 != i + n - ix.length with
  | none => none
  | some i => some (ix.take i ++ (List.range (ix.length - i)).map (ix.getD i 0 + 1 + ·))
end DL

namespace DL
open PySem PySem.Spec PyProof.Rows L2
open Sem (wp)
section
variable {prog : Program} {w : World} {A : Around} {E : Value → Shared → Prop} {s : Shared}
theorem cmb_make {r : Addr} {n k : Nat} {t1 t2 t3 tk : Tok} {R : Result → Shared → Prop} (hh : A.handled = none) (hr : IsRange s.heap r 0 n 1 t1 t2 t3) (hn : n ≤ 1000) (hk : k ≤ n)
    (h : ∀ (h' : Heap) (tok : Nat) (acc : Array Value), (∀ b o, s.heap.get? b = some o → h'.get? b = some o) → ItemsOf (fun i v => ∃ t, v = .int ((0 : Int) + i * 1) t) acc n →
      R (.ok (.ret (.ref (h'.objs.size + 1)))) { s with heap := (h'.push { cls := .type "tuple", data := .seq acc }).push (cmbO h'.objs.size 0 .none (List.range k)), toks := tok }) :
    wpAny (model prog w) A (Builtin.«itertools.combinations.__new__» ⟨[.type "itertools.combinations", .ref r, .int k tk], []⟩) (fun f s' => ∃ v, f = .done (.ret v) ∧ R (.ok (.ret v)) s') E s := by
  unfold Builtin.«itertools.combinations.__new__»
  have hsub := cmb_sub
  have hd := cmb_noDict
  have hT : ("itertools." ++ "combinations" : String) = "itertools.combinations" := by decide +kernel
  have h63 : ¬ ((decide ((k : Int) < -(2 ^ 63 : Int)) || decide ((k : Int) ≥ 2 ^ 63)) = true) := by
    rw [decide_eq_false (by omega), decide_eq_false (by omega)]; decide
  have h0 : ¬ ((k : Int) < 0) := by omega
  have hm : ¬ (Builtin.Itertools.itTooMany (k : Int) = true) := by
    unfold Builtin.Itertools.itTooMany
    rw [decide_eq_true_eq]; omega
  repeat (first
    | wp_step
    | simp only [hT]
    | simp only [List.head?_cons, Option.some_or, List.getElem?_cons_succ, List.getElem?_cons_zero, List.length_cons, List.length_nil, List.forIn_nil])
  rw [if_neg h63]
  refine wpAny_pure (wpAny_bind ?_)
  have hsz : Builtin.Range.rangeSize 0 (n : Int) 1 = n := by
    unfold Builtin.Range.rangeSize
    simp
    omega
  have hsm : Builtin.Range.small 0 (n : Int) 1 = true := by
    unfold Builtin.Range.small
    rw [hsz]
    have f : ∀ i : Int, 0 ≤ i → i ≤ 2000 → Builtin.Range.rangeFitsLong i = true := fun i a b => by
      unfold Builtin.Range.rangeFitsLong
      simp
      omega
    rw [f 0 (by omega) (by omega), f n (by omega) (by omega), f 1 (by omega) (by omega), if_pos (by omega), f _ (by omega) (by omega)]
    simp
  refine collect_range (n := n) hh hr hsm hsz (by omega) fun h' tok acc kp it => ?_
  rw [if_neg h0, if_neg hm]
  refine wpAny_bind (wpAny_newTuple ?_ (by rw [Array.length_toList]; have := it.1; rw [sizeLine_eq]; omega))
  refine wpAny_pure ?_
  have e1 : ¬ (k > acc.toList.length) := by rw [Array.length_toList]; have := it.1; omega
  show wpAny _ _ (Builtin.Itertools.itNewRecord _ _ >>= _) _ _ _
  unfold Builtin.Itertools.itNewRecord
  rw [hd]
  refine wpAny_bind ?_
  rw [if_pos (by decide)]
  dsimp only
  refine wpAny_newObj_type ?_ ?_
  · have h2 := h h' tok acc kp it
    rw [Int.toNat_natCast, if_neg e1, Array.toArray_toList]
    refine wpAny_pure ⟨_, rfl, ?_⟩
    rw [Heap.size_push]
    exact h2
  · rw [Int.toNat_natCast]
    show (_ : Array Value).size ≤ _
    rw [List.size_toArray, List.length_append, List.length_map, List.length_range, sizeLine_eq]
    simp only [List.length_cons, List.length_nil]
    omega
end
end DL

namespace DL
open PySem PySem.Spec PyProof.Rows L2
open Sem (wp)
theorem meets_cmb {r : Addr} {n k : Nat} {t1 t2 t3 tk : Tok} (hn : n ≤ 1000) (hk : k ≤ n) : Meets (Builtin.«itertools.combinations.__new__» ⟨[.type "itertools.combinations", .ref r, .int k tk], []⟩)
    (fun A R s => A.handled = none ∧ IsRange s.heap r 0 n 1 t1 t2 t3 ∧ ∀ (h' : Heap) (tok : Nat) (acc : Array Value), (∀ b o, s.heap.get? b = some o → h'.get? b = some o) → ItemsOf (fun i v => ∃ t, v = .int ((0 : Int) + i * 1) t) acc n →
      R (.ok (.ret (.ref (h'.objs.size + 1)))) { s with heap := (h'.push { cls := .type "tuple", data := .seq acc }).push (cmbO h'.objs.size 0 .none (List.range k)), toks := tok }) :=
  .of_wp fun prog w A R s h => cmb_make (prog := prog) (w := w) (A := A.in1) (E := fun e s' => R (.error e) s') (tk := tk) h.1 h.2.1 hn hk h.2.2
theorem cmb_f1 (pool : Addr) (st : Int) (last : Value) (ix : List Nat) (n : Int) : (cmbO pool st last ix).mapFields (·.setIfInBounds 1 (rawInt n)) = cmbO pool n last ix := rfl
theorem cmb_f2 (pool : Addr) (st : Int) (last v : Value) (ix : List Nat) : (cmbO pool st last ix).mapFields (·.setIfInBounds 2 v) = cmbO pool st v ix := rfl
theorem cmb_f3 (pool : Addr) (st : Int) (last : Value) (ix jx : List Nat) : (cmbO pool st last ix).mapFields (fun fs => fs.extract 0 3 ++ (jx.map fun (n : Nat) => rawInt n).toArray) = cmbO pool st last jx := by
  unfold cmbO Obj.mapFields
  simp
theorem cmb_ix (pool : Addr) (st : Int) (last : Value) (ix : List Nat) : (match (cmbO pool st last ix).data with
    | Data.fields fs => (pure (List.map (fun x => match x with | Value.int n tok => n.toNat | x => 0) (List.drop 3 fs.toList)) : Sem (List Nat))
    | x => unsupported "internal:itertools.numbers") = pure ix := by
  show pure _ = pure ix
  congr 1
  show List.map _ (ix.map fun (i : Nat) => rawInt i) = ix
  rw [List.map_map]
  have e : ∀ l : List Nat, l.map ((fun x => match x with | Value.int n tok => n.toNat | x => 0) ∘ fun (i : Nat) => rawInt i) = l := fun l => by
    induction l with
    | nil => rfl
    | cons x l ih =>
      rw [List.map_cons, ih]
      rfl
  exact e ix
section
variable {prog : Program} {w : World} {A : Around} {E : Value → Shared → Prop} {s : Shared}
theorem call_cmb {r : Addr} {n k : Nat} {t1 t2 t3 tk : Tok} {Q : Value → Shared → Prop} (hh : A.handled = none) (hr : IsRange s.heap r 0 n 1 t1 t2 t3) (hn : n ≤ 1000) (hk : k ≤ n)
    (h : ∀ (h' : Heap) (tok : Nat) (acc : Array Value), (∀ b o, s.heap.get? b = some o → h'.get? b = some o) → ItemsOf (fun i v => ∃ t, v = .int (i : Int) t) acc n →
      Q (.ref (h'.objs.size + 1)) { s with heap := (h'.push { cls := .type "tuple", data := .seq acc }).push (cmbO h'.objs.size 0 .none (List.range k)), toks := tok }) :
    wpAny (model prog w) A (call (.type "itertools.combinations") [.ref r, .int k tk]) Q E s := by
  refine callType_new cmb_called (by decide +kernel) (cmb_tcall _ _) (cmb_ncall _ _) (fun obj => F.args_object_init_3 obj _ _) cmb_entry_new (meets_cmb (t1 := t1) (t2 := t2) (t3 := t3) hn hk) ⟨by simp [hh], hr, fun h' tok acc kp it => ?_⟩
  have e : (h'.push { cls := .type "tuple", data := .seq acc }).objs.size = h'.objs.size + 1 := by rw [Heap.size_push]
  have g : ((h'.push { cls := .type "tuple", data := .seq acc }).push (cmbO h'.objs.size 0 .none (List.range k))).get? (h'.objs.size + 1) = some (cmbO h'.objs.size 0 .none (List.range k)) := by
    rw [← e]; exact Heap.get?_push_size _ rfl
  show _ ∧ _
  refine ⟨⟨_, g, rfl⟩, h h' tok acc kp ⟨it.1, fun i v q => ?_⟩⟩
  obtain ⟨t, q2⟩ := it.2 i v q
  exact ⟨t, by rw [q2]; congr 1; omega⟩
abbrev IsCmb (h : Heap) (it pool : Addr) (st : Int) (last : Value) (ix : List Nat) : Prop := h.get? it = some (cmbO pool st last ix)
theorem cmb_ty {it pool : Addr} {st : Int} {last : Value} {ix : List Nat} (h : IsCmb s.heap it pool st last ix) : s.TypeIs (.ref it) "itertools.combinations" := ⟨_, h, rfl⟩
theorem iter_cmb {it pool : Addr} {st : Int} {last : Value} {ix : List Nat} {Q : Value → Shared → Prop} (hit : IsCmb s.heap it pool st last ix) (h : Q (.ref it) s) : wpAny (model prog w) A (pyIter (.ref it)) Q E s := by
  refine wpAny_pyIter_slot (cmb_ty hit) cmb_slot_iter (wpAny_call_entry cmb_slot_iter (cmb_ty hit) cmb_entry_iter ?_ (cmb_args_iter _))
  show wpAny _ _ (ret (.ref it)) _ _ s
  exact wpAny_pure ⟨_, rfl, "itertools.combinations", _, cmb_ty hit, cmb_slot_next.lookup, h⟩
theorem cmb_out {it pool : Addr} {st : Int} {last : Value} {ix : List Nat} {acc : Array Value} {Q : Fin → Shared → Prop} (hit : IsCmb s.heap it pool st last ix) (hp : s.heap.get? pool = some { cls := .type "tuple", data := .seq acc }) (hl : ix.length ≤ 1000)
    (h : ∀ h', IsCmb h' it pool st (.ref s.heap.objs.size) ix → h'.get? s.heap.objs.size = some { cls := .type "tuple", data := .seq (ix.map fun i => acc.getD i .none).toArray } → (∀ b o, b ≠ it → s.heap.get? b = some o → h'.get? b = some o) → Q (.done (.ret (.ref s.heap.objs.size))) { s with heap := h' }) :
    wpAny (model prog w) A (do
      let result ← (do let items ← Builtin.Itertools.itPoolItems (.ref pool); newTuple (ix.map fun i => items.getD i .none))
      let before ← field (.ref it) 2
      setField (.ref it) 2 result
      letGo [before] [result]
      ret result) Q E s := by
  unfold Builtin.Itertools.itPoolItems
  refine wpAny_bind (wpAny_bind (wpAny_bind ?_))
  show wpAny _ _ (do match (← load pool).data with | .seq xs _ => pure (some xs) | _ => pure none) _ _ _
  refine wpAny_bind (wpAny_load hp (wpAny_pure ?_))
  refine wpAny_pure ?_
  refine wpAny_newTuple ?_ (by rw [List.length_map, sizeLine_eq]; omega)
  have k1 : ∀ b o, s.heap.get? b = some o → (s.heap.push { cls := .type "tuple", data := .seq (ix.map fun i => acc.getD i .none).toArray }).get? b = some o := fun b o e => Heap.get?_push_of_some _ e
  have hit1 := k1 _ _ hit
  refine wpAny_bind (wpAny_field hit1 rfl (x := last) rfl ?_)
  have ne : s.heap.objs.size ≠ it := Nat.ne_of_gt (Heap.lt_size hit)
  refine wpAny_bind (wpAny_setField hit1 rfl (by show 2 < (_ : List Value).toArray.size; rw [List.size_toArray, List.length_append]; simp; omega) ?_)
  refine wpAny_bind (wpAny_letGo (wpAny_pure ?_))
  have oth := fun b (hb : b ≠ it) => Heap.get?_update_other (s.heap.push { cls := .type "tuple", data := .seq (ix.map fun i => acc.getD i .none).toArray }) (Obj.mapFields (·.setIfInBounds 2 (Value.ref s.heap.objs.size))) (Ne.symm hb)
  exact h _ (Heap.get?_update_self _ hit1 rfl) ((oth _ ne).trans (Heap.get?_push_size _ rfl)) fun b o hb e => (oth b hb).trans (k1 b o e)
theorem next_cmb0 {it pool : Addr} {last : Value} {ix : List Nat} {acc : Array Value} {Q : Option Value → Shared → Prop} (hit : IsCmb s.heap it pool 0 last ix) (hp : s.heap.get? pool = some { cls := .type "tuple", data := .seq acc }) (hl : ix.length ≤ 1000) (hne : pool ≠ it)
    (h : ∀ (h' : Heap) (t : Addr), s.heap.objs.size ≤ t → IsCmb h' it pool 1 (.ref t) ix → h'.get? t = some { cls := .type "tuple", data := .seq (ix.map fun i => acc.getD i .none).toArray } → (∀ b o, b ≠ it → s.heap.get? b = some o → h'.get? b = some o) → Q (some (.ref t)) { s with heap := h' }) :
    wpAny (model prog w) A (pyNext (.ref it)) Q E s := by
  unfold pyNext
  refine wpAny_bind (wpAny_attempt (wpAny_callSpecial?_slot (name := Str.ofString "__next__") (cmb_ty hit) cmb_slot_next (wpAny_call_entry cmb_slot_next (cmb_ty hit) cmb_entry_next ?_ (cmb_args_next _))))
  unfold Builtin.«itertools.combinations.__next__»
  refine wpAny_bind (wpAny_of_eq (a := ((Value.ref it : Value), ([] : List Value))) (by simp only [slotArgs]; rfl) ?_)
  refine wpAny_bind (wpAny_field hit rfl (x := .ref pool) rfl ?_)
  refine wpAny_bind ?_
  unfold Builtin.Itertools.itNumbersFrom
  refine wpAny_bind (wpAny_load hit ?_)
  refine wpAny_of_eq (cmb_ix pool 0 last ix) ?_
  unfold Builtin.Itertools.itIntField
  refine wpAny_bind (wpAny_bind (wpAny_field hit rfl (x := rawInt 0) rfl (wpAny_pure ?_)))
  refine wpAny_bind (wpAny_setField hit rfl (by show 1 < (_ : List Value).toArray.size; rw [List.size_toArray, List.length_append]; simp; omega) ?_)
  have oth := fun b (hb : b ≠ it) => Heap.get?_update_other s.heap (Obj.mapFields (·.setIfInBounds 1 (rawInt 1))) (Ne.symm hb)
  have hit1 : IsCmb (s.heap.update it (Obj.mapFields (·.setIfInBounds 1 (rawInt 1)))) it pool 1 last ix := Heap.get?_update_self _ hit rfl
  refine cmb_out (s := { s with heap := s.heap.update it (Obj.mapFields (·.setIfInBounds 1 (rawInt 1))) }) hit1 ((oth pool hne).trans hp) hl fun h' a b c => ⟨_, rfl, wpAny_pure ?_⟩
  have hs : (s.heap.update it (Obj.mapFields (·.setIfInBounds 1 (rawInt 1)))).objs.size = s.heap.objs.size := by
    unfold Heap.update
    simp
  exact h h' _ (by show s.heap.objs.size ≤ (s.heap.update it _).objs.size; rw [hs]; exact Nat.le_refl _) a b fun b' o hb e => c b' o hb ((oth b' hb).trans e)
theorem next_cmb1 {it pool : Addr} {last : Value} {ix jx : List Nat} {acc : Array Value} {Q : Option Value → Shared → Prop} (hit : IsCmb s.heap it pool 1 last ix) (hp : s.heap.get? pool = some { cls := .type "tuple", data := .seq acc }) (hj : nextC acc.size ix = some jx) (hl : jx.length ≤ 1000) (hne : pool ≠ it)
    (h : ∀ (h' : Heap) (t : Addr), s.heap.objs.size ≤ t → IsCmb h' it pool 1 (.ref t) jx → h'.get? t = some { cls := .type "tuple", data := .seq (jx.map fun i => acc.getD i .none).toArray } → (∀ b o, b ≠ it → s.heap.get? b = some o → h'.get? b = some o) → Q (some (.ref t)) { s with heap := h' }) :
    wpAny (model prog w) A (pyNext (.ref it)) Q E s := by
  unfold pyNext
  refine wpAny_bind (wpAny_attempt (wpAny_callSpecial?_slot (name := Str.ofString "__next__") (cmb_ty hit) cmb_slot_next (wpAny_call_entry cmb_slot_next (cmb_ty hit) cmb_entry_next ?_ (cmb_args_next _))))
  unfold Builtin.«itertools.combinations.__next__»
  refine wpAny_bind (wpAny_of_eq (a := ((Value.ref it : Value), ([] : List Value))) (by simp only [slotArgs]; rfl) ?_)
  refine wpAny_bind (wpAny_field hit rfl (x := .ref pool) rfl ?_)
  refine wpAny_bind ?_
  unfold Builtin.Itertools.itNumbersFrom
  refine wpAny_bind (wpAny_load hit ?_)
  refine wpAny_of_eq (cmb_ix pool 1 last ix) ?_
  unfold Builtin.Itertools.itIntField
  refine wpAny_bind (wpAny_bind (wpAny_field hit rfl (x := rawInt 1) rfl (wpAny_pure ?_)))
  refine wpAny_bind (wpAny_bind ?_)
  show wpAny _ _ (do match (← load pool).data with | .seq xs _ => pure (some xs) | _ => pure none) _ _ _
  refine wpAny_bind (wpAny_load hp (wpAny_pure (wpAny_pure ?_)))
  show wpAny _ _ (match nextC acc.size ix with | some next => _ | none => _) _ _ _
  rw [hj]
  show wpAny _ _ (Builtin.Itertools.itSetNumbersFrom (Value.ref it) 3 jx >>= _) _ _ _
  unfold Builtin.Itertools.itSetNumbersFrom
  refine wpAny_bind (wpAny_updateFields hit rfl ?_ (by
    show ((_ : List Value).toArray.extract 0 3 ++ (_ : List Value).toArray).size ≤ _
    rw [Array.size_append, Array.size_extract, List.size_toArray, List.size_toArray, List.length_map, sizeLine_eq]
    omega))
  have oth := fun b (hb : b ≠ it) => Heap.get?_update_other s.heap (Obj.mapFields (fun fs => fs.extract 0 3 ++ (jx.map fun (n : Nat) => rawInt n).toArray)) (Ne.symm hb)
  have hit1 : IsCmb (s.heap.update it (Obj.mapFields (fun fs => fs.extract 0 3 ++ (jx.map fun (n : Nat) => rawInt n).toArray))) it pool 1 last jx := (Heap.get?_update_self _ hit rfl).trans (congrArg some (cmb_f3 pool 1 last ix jx))
  refine cmb_out (s := { s with heap := s.heap.update it (Obj.mapFields (fun fs => fs.extract 0 3 ++ (jx.map fun (n : Nat) => rawInt n).toArray)) }) hit1 ((oth pool hne).trans hp) hl fun h' a b c => ⟨_, rfl, wpAny_pure ?_⟩
  have hs : (s.heap.update it (Obj.mapFields (fun fs => fs.extract 0 3 ++ (jx.map fun (n : Nat) => rawInt n).toArray))).objs.size = s.heap.objs.size := by
    unfold Heap.update
    simp
  exact h h' _ (by show s.heap.objs.size ≤ (s.heap.update it _).objs.size; rw [hs]; exact Nat.le_refl _) a b fun b' o hb e => c b' o hb ((oth b' hb).trans e)
theorem next_cmbE {it pool : Addr} {last : Value} {ix : List Nat} {acc : Array Value} {Q : Option Value → Shared → Prop} (hh : A.handled = none) (hit : IsCmb s.heap it pool 1 last ix) (hp : s.heap.get? pool = some { cls := .type "tuple", data := .seq acc }) (hj : nextC acc.size ix = none)
    (h : ∀ (h' : Heap), (∀ b o, b ≠ it → s.heap.get? b = some o → h'.get? b = some o) → (∃ o, h'.get? it = some o) → Q none { s with heap := h' }) :
    wpAny (model prog w) A (pyNext (.ref it)) Q E s := by
  unfold pyNext
  refine wpAny_bind (wpAny_attempt (wpAny_callSpecial?_slot (name := Str.ofString "__next__") (cmb_ty hit) cmb_slot_next (wpAny_call_entry cmb_slot_next (cmb_ty hit) cmb_entry_next ?_ (cmb_args_next _))))
  unfold Builtin.«itertools.combinations.__next__»
  refine wpAny_bind (wpAny_of_eq (a := ((Value.ref it : Value), ([] : List Value))) (by simp only [slotArgs]; rfl) ?_)
  refine wpAny_bind (wpAny_field hit rfl (x := .ref pool) rfl ?_)
  refine wpAny_bind ?_
  unfold Builtin.Itertools.itNumbersFrom
  refine wpAny_bind (wpAny_load hit ?_)
  refine wpAny_of_eq (cmb_ix pool 1 last ix) ?_
  unfold Builtin.Itertools.itIntField
  refine wpAny_bind (wpAny_bind (wpAny_field hit rfl (x := rawInt 1) rfl (wpAny_pure ?_)))
  refine wpAny_bind (wpAny_bind ?_)
  show wpAny _ _ (do match (← load pool).data with | .seq xs _ => pure (some xs) | _ => pure none) _ _ _
  refine wpAny_bind (wpAny_load hp (wpAny_pure (wpAny_pure ?_)))
  show wpAny _ _ (match nextC acc.size ix with | some next => _ | none => _) _ _ _
  rw [hj]
  refine wpAny_bind (wpAny_setField hit rfl (by show 1 < (_ : List Value).toArray.size; rw [List.size_toArray, List.length_append]; simp; omega) ?_)
  have oth := fun b (hb : b ≠ it) => Heap.get?_update_other s.heap (Obj.mapFields (·.setIfInBounds 1 (rawInt 2))) (Ne.symm hb)
  have hit1 : IsCmb (s.heap.update it (Obj.mapFields (·.setIfInBounds 1 (rawInt 2)))) it pool 2 last ix := Heap.get?_update_self _ hit rfl
  show wpAny _ _ (newExc (.type "StopIteration") [] >>= _) _ _ _
  refine wpAny_bind ?_
  simp only [newExc, newTuple]
  refine wpAny_bind (wpAny_newObj_type ?_ (by size_fits))
  refine wpAny_bind (m := firstArgMember _ _) (wpAny_of_eq (a := Value.none) (by first | rfl | (simp only [firstArgMember]; rfl)) ?_)
  refine wpAny_newObj_type ?_ (by size_fits)
  simp only [raiseNew]
  refine wpAny_bind (wpAny_handled ?_)
  rw [show A.in1.handled = none from hh]
  refine wpAny_bind (wpAny_pure (wpAny_throw ?_))
  refine wpAny_bind (wpAny_isInstance (T := "StopIteration") (b := true) ⟨_, Heap.get?_push_size _ rfl, rfl⟩ isSubtype_stop ?_)
  exact wpAny_pure (h _ (fun b o hb e => Heap.get?_push_of_some _ (Heap.get?_push_of_some _ ((oth b hb).trans e))) ⟨_, Heap.get?_push_of_some _ (Heap.get?_push_of_some _ hit1)⟩)
end
end DL

namespace DL
open PySem PySem.Spec PyProof.Rows L2
variable [Lam]
/-! ### for c in combinations(range(n), k) -/
/-- all that come, one behind another -/
structure Chain (n k : Nat) (xs : List (List Nat)) : Prop where
  hd : xs[0]? = some (List.range k)
  nx : ∀ i c, xs[i]? = some c → nextC n c = xs[i + 1]?
  lt : ∀ c ∈ xs, ∀ x ∈ c, x < n
  len : ∀ c ∈ xs, c.length ≤ 1000
def rowV (c : List Nat) : List V := c.map fun (n : Nat) => V.int (n : Int)
def ItCm (xs : List (List Nat)) : It := ⟨fun i _ => i < xs.length, fun i H v H' => ∃ T c, xs[i]? = some c ∧ v = .ref T ∧ H T = none ∧ H' = upd H T (.tup (rowV c)), fun i _ => xs.length ≤ i⟩
theorem vals_pick {acc : Array Value} {n : Nat} (ha : ItemsOf (fun i v => ∃ t, v = .int (i : Int) t) acc n) : ∀ {c : List Nat}, (∀ x ∈ c, x < n) → Vals (rowV c) (c.map fun i => acc.getD i .none)
  | [], _ => .nil
  | x :: c, h => by
    have hx := h x List.mem_cons_self
    have hs : x < acc.size := by rw [ha.1]; exact hx
    obtain ⟨t, e⟩ := ha.2 x acc[x] (Array.getElem?_eq_getElem hs)
    refine .cons ⟨t, ?_⟩ (vals_pick ha fun y hy => h y (List.mem_cons_of_mem _ hy))
    show acc.getD x .none = _
    rw [← e]
    simp [Array.getD, hs]
theorem turn_cmb {P : Program} {w : World} {K : PySem.W.Frag} {tg : Expr} {it pool : Addr} {n k : Nat} {xs : List (List Nat)} {acc : Array Value} (C : Chain n k xs) (hne : pool ≠ it) (ha : ItemsOf (fun i v => ∃ t, v = .int (i : Int) t) acc n) :
    Turn P w K tg (ItCm xs) [it, pool] it (fun i h => (∃ last, (i = 0 ∧ IsCmb h it pool 0 last (List.range k)) ∨ ∃ c j, i = j + 1 ∧ xs[j]? = some c ∧ IsCmb h it pool 1 last c) ∧ h.get? pool = some { cls := .type "tuple", data := .seq acc }) where
  mem := by simp
  obj := fun i h st c hc => by
    obtain ⟨⟨last, st⟩, hp⟩ := st
    have e : c = it ∨ c = pool := by simpa using hc
    rcases e with q | q
    · rw [q]
      rcases st with ⟨_, z⟩ | ⟨_, _, _, _, z⟩ <;> exact ⟨_, z, fun v q => nomatch q⟩
    · rw [q]; exact ⟨_, hp, fun v q => nomatch q⟩
  keep := fun i h h' st kp => by
    obtain ⟨⟨last, st⟩, hp⟩ := st
    refine ⟨⟨last, ?_⟩, kp pool (by simp) _ hp⟩
    rcases st with ⟨e, z⟩ | ⟨c, j, e, f, z⟩
    · exact .inl ⟨e, kp it (by simp) _ z⟩
    · exact .inr ⟨c, j, e, f, kp it (by simp) _ z⟩
  item := by
    intro X hP hw hK hc i pins s σ H E I hf st hg
    subst hP hw hK
    have hg : i < xs.length := hg
    have hx := List.getElem?_eq_getElem hg
    obtain ⟨⟨last, st⟩, hp⟩ := st
    have hm := List.getElem_mem hg
    have fin : ∀ (h' : Heap) (t : Addr), s.heap.objs.size ≤ t → IsCmb h' it pool 1 (.ref t) xs[i] → h'.get? t = some { cls := .type "tuple", data := .seq (xs[i].map fun i => acc.getD i .none).toArray } → (∀ b o, b ≠ it → s.heap.get? b = some o → h'.get? b = some o) →
        ∃ u, some (Value.ref t) = some u ∧ wpAny (model X.prog X.w) X.A (letOwnedTupleGo tg (.ref it) u) (fun _ s2 => ∃ x H', L2.Inv X pins σ H' s2 ∧ L2.RelV x u ∧ (ItCm xs).yld i H x H' ∧
          ((∃ last, (i + 1 = 0 ∧ IsCmb s2.heap it pool 0 last (List.range k)) ∨ ∃ c j, i + 1 = j + 1 ∧ xs[j]? = some c ∧ IsCmb s2.heap it pool 1 last c) ∧ s2.heap.get? pool = some { cls := .type "tuple", data := .seq acc }) ∧ ∀ b ∈ [it, pool], H' b = none) E { s with heap := h' } := fun h' t ht a1 a2 a3 => by
      refine ⟨_, rfl, go_of (s := { s with heap := h' }) a1 rfl rfl (by decide) ?_⟩
      have hv := vals_pick ha (C.lt _ hm)
      have new : ObjOk X.prog X.w (upd H t (.tup (rowV xs[i]))) h' t (.tup (rowV xs[i])) := ⟨by unfold rowV; rw [List.length_map, sizeLine_eq]; have := C.len _ hm; omega, _, hv, ⟨_, a2, rfl, _, rfl⟩⟩
      have J : L2.Inv X pins σ (upd H t (.tup (rowV xs[i]))) { s with heap := h' } :=
        I.turnedNew (t' := s.toks) (ch := [it]) (fun b o hb e => a3 b o (fun q => hb (by simp [q])) e) (fun b hb => hf b (List.mem_cons.mpr (.inl (List.mem_singleton.mp hb)))) ht new
      have nt : ∀ b ∈ [it, pool], b ≠ t := fun b hb z => by
        subst z
        obtain ⟨o, ho⟩ : ∃ o, s.heap.get? b = some o := by
          have e : b = it ∨ b = pool := by simpa using hb
          rcases e with q | q
          · rw [q]
            rcases st with ⟨_, z⟩ | ⟨_, _, _, _, z⟩ <;> exact ⟨_, z⟩
          · rw [q]; exact ⟨_, hp⟩
        exact absurd (Nat.lt_of_lt_of_le (Heap.lt_size ho) ht) (Nat.lt_irrefl _)
      refine ⟨.ref t, _, J, rfl, ⟨t, _, hx, rfl, I.hok.fresh ht, rfl⟩, ⟨⟨_, .inr ⟨_, i, rfl, hx, a1⟩⟩, a3 pool _ hne hp⟩, fun b hb => ?_⟩
      rw [upd_ne (nt b hb)]
      exact (hf b hb).1
    rcases st with ⟨rfl, z⟩ | ⟨c, j, rfl, f, z⟩
    · have e : xs[0] = List.range k := Option.some.inj (hx.symm.trans C.hd)
      refine next_cmb0 (ix := List.range k) z hp (by rw [← e]; exact C.len _ hm) hne fun h' t ht a1 a2 a3 => ?_
      rw [← e] at a1 a2
      exact fin h' t ht a1 a2 a3
    · have hn := C.nx j c f
      rw [hx] at hn
      exact next_cmb1 z hp (by rw [ha.1]; exact hn) (C.len _ hm) hne fin
  done := by
    intro X hP hw hK hc i pins s σ H E I hf st hg
    subst hP hw hK
    have hg : xs.length ≤ i := hg
    obtain ⟨⟨last, st⟩, hp⟩ := st
    rcases st with ⟨rfl, z⟩ | ⟨c, j, rfl, f, z⟩
    · have := C.hd
      rw [List.getElem?_eq_none hg] at this
      cases this
    · refine next_cmbE (I.ok.hd hc) z hp (by rw [ha.1, C.nx j c f, List.getElem?_eq_none hg]) fun h' a1 _ => ⟨rfl, I.turnedL (t' := s.toks) (ch := [it]) (fun b o hb e => a1 b o (fun q => hb (by simp [q])) e) (fun b hb => hf b (List.mem_cons.mpr (.inl (List.mem_singleton.mp hb))))⟩
  self := fun A i s Q E st h => by
    obtain ⟨⟨last, st⟩, hp⟩ := st
    rcases st with ⟨_, z⟩ | ⟨_, _, _, _, z⟩ <;> exact iter_cmb z h
theorem cr_range1 {X : Cx} : CallR X (.type "range") (fun vs H Q => ∃ j, vs = [V.int j] ∧ ∀ p, H p = none → Q (.ref p) (upd H p (.rng 0 j))) := by
  intro pins s σ H vs us Q I r h
  obtain ⟨j, rfl, q⟩ := h
  obtain ⟨u1, rfl, ri⟩ := vals1 r
  obtain ⟨t, rfl⟩ := ri
  refine call_range_1 ⟨.ref s.heap.objs.size, upd H s.heap.objs.size (.rng 0 j), I.laid (t' := s.toks + 1 + 1) (fun b o e => Heap.get?_push_of_some _ e) (Nat.le_refl _) ⟨_, _, _, Heap.get?_push_size _ rfl⟩, rfl, q _ (I.hok.fresh (Nat.le_refl _))⟩
def iCmb (n k : Nat) (xs : List (List Nat)) (ta : TA) : TI := fun σ H R => ta σ H fun vs H1 => ∃ r, vs = [.ref r, .int (k : Int)] ∧ H1 r = some (.rng 0 (n : Int)) ∧ R (ItCm xs) H1
theorem pi_cmb {X : Cx} {e e2 tg : Expr} {ta : TA} {p pos : Pos} {x : Str} {n k : Nat} {xs : List (List Nat)} (hcalm : X.calm = true) (C : Chain n k xs) (hn : n ≤ 1000) (hk : k ≤ n) (hg : Gl X x) (hm : X.mg x = some (.type "itertools.combinations")) (ha : PA X [e, e2] ta) (hdb : (x == ("__debug__" : Str)) = false)
    (hs : starEach [e, e2] X.env = (false, eval e X.env) :: starEach [e2] X.env) (hpl : (backTo pos (starEach [e2] X.env)).any (·.1) = false) :
    PI X tg (.Call (.Name x p) [e, e2] [] pos) (iCmb n k xs ta) := by
  refine ⟨fun pins s σ H R I h => ?_⟩
  refine Call_ (ld_glob I hg hm (PyProof.Rows.callWith_type1 (thn (ha.run pos pins s σ H _ I h) fun us s1 ⟨vs, H1, I1, r1, q1⟩ => ?_) hs hpl) hdb)
  obtain ⟨r, ex, hr, q⟩ := q1
  subst ex
  obtain ⟨u1, u2, rfl, ri, rj⟩ := vals2 r1
  cases ri
  obtain ⟨tk, rfl⟩ := rj
  obtain ⟨t1, t2, t3, ho⟩ := I1.hok r _ hr
  refine call_cmb (I1.ok.hd hcalm) ho hn hk fun h' tok acc kp it => ?_
  have I2 : L2.Inv X pins σ H1 { s1 with heap := h', toks := tok } := I1.kept kp
  have e : (h'.push { cls := .type "tuple", data := .seq acc }).objs.size = h'.objs.size + 1 := by rw [Heap.size_push]
  have gi : IsCmb ((h'.push { cls := .type "tuple", data := .seq acc }).push (cmbO h'.objs.size 0 .none (List.range k))) (h'.objs.size + 1) h'.objs.size 0 .none (List.range k) := by
    unfold IsCmb
    rw [← e]; exact Heap.get?_push_size _ rfl
  have gp : ((h'.push { cls := .type "tuple", data := .seq acc }).push (cmbO h'.objs.size 0 .none (List.range k))).get? h'.objs.size = some { cls := .type "tuple", data := .seq acc } := Heap.get?_push_of_some _ (Heap.get?_push_size _ rfl)
  refine iter_cmb gi ⟨h'.objs.size + 1, [h'.objs.size + 1, h'.objs.size], _, _, H1, rfl, I2.kept (t' := tok) fun b o q => Heap.get?_push_of_some _ (Heap.get?_push_of_some _ q), turn_cmb C (Nat.ne_of_lt (Nat.lt_succ_self _)) it, ⟨⟨_, .inl ⟨rfl, gi⟩⟩, gp⟩, fun b hb => ?_, q⟩
  have hle : h'.objs.size ≤ b := by
    have e' : b = h'.objs.size + 1 ∨ b = h'.objs.size := by simpa using hb
    rcases e' with q | q <;> rw [q] <;> omega
  exact I2.fpOk hle (I2.hok.fresh hle)
theorem RpA.row {K : PySem.W.Frag} {H : Hp} : ∀ (c : List Nat), RpA K H (rowV c) (c.map nD)
  | [] => .nil
  | x :: c => .cons (.int _) (RpA.row c)
/-- for c in combinations(range(n), k), over data -/
theorem di_cmb {X : Cx} {en : En} {a b tg : Expr} {p p2 p3 pos : Pos} {x : Str} {n k : Nat} {ka kb : Kd} {xs : List (List Nat)} (C : Chain n k xs) (hn : n ≤ 1000) (hk : k ≤ n) (hm : X.mg x = some (.type "itertools.combinations")) (hmr : X.mg "range" = none) (ha : DE X en a ka (nD n)) (hb : DE X en b kb (nD k)) (hcalm : X.calm = true := by kernel_rfl)
    (hg : glB X x = true := by kernel_rfl) (hgr : glB X "range" = true := by kernel_rfl) (hdb : (x == ("__debug__" : Str)) = false := by kernel_rfl)
    (h1 : starEach [.Call (.Name "range" p2) [a] [] p3, b] X.env = (false, eval (.Call (.Name "range" p2) [a] [] p3) X.env) :: starEach [b] X.env := by kernel_rfl) (h2 : starEach [b] X.env = (false, eval b X.env) :: starEach [] X.env := by kernel_rfl)
    (h3 : starEach [a] X.env = (false, eval a X.env) :: starEach [] X.env := by kernel_rfl) (hpl : (backTo pos (starEach [b] X.env)).any (·.1) = false := by kernel_rfl) : DI X en tg (.Call (.Name x p) [.Call (.Name "range" p2) [a] [] p3, b] [] pos) (xs.map rowT) :=
  ⟨_, pi_cmb hcalm C hn hk (gl_of hg) hm (pa_cons (pe_callTy cr_range1 (gl_of hgr) hmr (by decide +kernel) (pa_cons pe_w pa_nil h3) (he := h3)) (pa_cons pe_w pa_nil h2) h1) hdb h1 hpl, fun B Bo Ho H σ f R q => by
    refine ha B Bo Ho H σ f _ fun v H1o H1 g1 r1 => ⟨n, by rw [r1.int_inv], fun r hr => ?_⟩
    have g2 := g1.trans (.tmp (o := .rng 0 (n : Int)) g1.s hr)
    refine hb B Bo _ _ σ (f.gr g2) _ fun u H2o H2 g3 r2 => ?_
    refine ⟨r, by rw [r2.int_inv], g3.h.at _ _ upd_same, q _ H2o H2 (g2.trans g3) fun Ho1 H1 s1 s2 i => ⟨fun d hd => ?_, fun hi => ?_⟩⟩
    · rw [List.getElem?_map] at hd
      have hi : i < xs.length := by
        cases e : xs[i]? with
        | none => rw [e] at hd; cases hd
        | some z => exact (List.getElem?_eq_some_iff.mp e).1
      refine ⟨hi, fun x H2 y => ?_⟩
      obtain ⟨T, c, hc, rfl, hT, rfl⟩ := y
      rw [hc] at hd
      cases hd
      exact ⟨_, .new s2 hT, .tup upd_same (RpA.row c)⟩
    · rw [List.length_map] at hi; exact hi⟩
end DL

namespace DL
open PySem PySem.Spec PyProof.Rows L2 He
/-! ### the head's facts, with tables of code objects left out -/
def isTab (g : Addr → Option Obj) (a : Addr) : Bool := match g a with
  | some ⟨.none, none, .fields ⟨[]⟩, ⟨[]⟩⟩ => true
  | _ => false
theorem isTab_eq {g : Addr → Option Obj} {a : Addr} (h : isTab g a = true) : g a = some { cls := .none, data := .fields #[] } := by
  unfold isTab at h
  split at h
  · assumption
  · cases h
def frT (g : Addr → Option Obj) (n : Nat) : PySem.W.Frag := frG g ((asD g n).filter fun a => !isTab g a)
/-- a def's code object, its table -/
def cdA (K : PySem.W.Frag) (x : Str) : Addr := match K.lookup (ga K x) with
  | some ⟨_, _, .func fd, _⟩ => (match fd.code with
    | .ref c => c
    | _ => 0)
  | _ => 0
def tbA (K : PySem.W.Frag) (c : Addr) : Addr := match K.lookup c with
  | some ⟨_, _, .fields vs, _⟩ => (match vs.toList[11]? with
    | some (Value.ref P) => P
    | _ => 0)
  | _ => 0
def lamOk (g : Addr → Option Obj) (K : PySem.W.Frag) (x : Str) : Bool := (match K.lookup (ga K x) with
  | some ⟨_, _, .func fd, _⟩ => (match fd.code with
    | .ref _ => true
    | _ => false)
  | _ => false) && (PySem.W.codeHdIn K (cdA K x) (tbA K (cdA K x)) && ((K.lookup (tbA K (cdA K x))).isNone && (decide (mainGlobals ≠ tbA K (cdA K x)) && isTab g (tbA K (cdA K x)))))
def obsX (fa : List Fa) (fn : List DefD) (more : List (PySem.W.Frag → Bool)) (lam : List Str) (K : PySem.W.Frag) (g : Addr → Option Obj) : AlD × Bool :=
  (obsD fa fn K, (more.all fun f => f K) && ((lam.all fun x => lamOk g K x) && decide ((lam.map fun x => tbA K (cdA K x)).Nodup)))
def hookX (n : Nat) (fa : List Fa) (fn : List DefD) (more : List (PySem.W.Frag → Bool)) (lam : List Str) : PySem.W.Hook where
  α := AlD × Bool
  obs := fun s => obsX fa fn more lam (frT s.heap.get? n) s.heap.get?
  val := fun _ => (He.valD fn, true)
  says := fun _ h => ∃ (K : PySem.W.Frag) (g : Addr → Option Obj), K.In h ∧ (∀ a o, g a = some o → h.get? a = some o) ∧ obsX fa fn more lam K g = (He.valD fn, true)
  of := fun _ s e => ⟨_, s.heap.get?, frG_in, fun _ _ e => e, e⟩
  keeps := fun _ _ _ ⟨K, g, hK, hg, c⟩ k => ⟨K, g, PySem.W.Frag.In.keeps hK k, fun a o e => k a o (hg a o e), c⟩
def obX (n : Nat) (fa : List Fa) (fn : List DefD) (more : List (PySem.W.Frag → Bool)) (lam : List Str) (g : Addr → Option Obj) : AlD × Bool := obsX fa fn more lam (frT g n) g
theorem obX_eq {n : Nat} {fa : List Fa} {fn : List DefD} {more : List (PySem.W.Frag → Bool)} {lam : List Str} {g : Addr → Option Obj} {s : Shared} (h : ∀ a, g a = s.heap.get? a) : obX n fa fn more lam g = (hookX n fa fn more lam).obs s := by
  have e : g = s.heap.get? := funext h
  rw [e] <;> rfl
section
variable {fa : List Fa} {fn : List DefD} {more : List (PySem.W.Frag → Bool)} {lam : List Str} {K : PySem.W.Frag} {g : Addr → Option Obj}
theorem sx_d (c : obsX fa fn more lam K g = (He.valD fn, true)) : SaysD fa fn K := congrArg (fun z : AlD × Bool => z.1) c
theorem sx_more (c : obsX fa fn more lam K g = (He.valD fn, true)) (i : Nat) {f : PySem.W.Frag → Bool} (h : more[i]? = some f := by rfl) : f K = true := by
  have e := (ba (congrArg (fun z : AlD × Bool => z.2) c)).1
  exact List.all_eq_true.mp e f (List.mem_of_getElem? h)
theorem sx_lam (c : obsX fa fn more lam K g = (He.valD fn, true)) {x : Str} (h : x ∈ lam) : lamOk g K x = true := by
  have e := (ba (ba (congrArg (fun z : AlD × Bool => z.2) c)).2).1
  exact List.all_eq_true.mp e x h
theorem sx_nd (c : obsX fa fn more lam K g = (He.valD fn, true)) : (lam.map fun x => tbA K (cdA K x)).Nodup := of_decide_eq_true (ba (ba (congrArg (fun z : AlD × Bool => z.2) c)).2).2
/-- what lamOk says -/
structure LamO (g : Addr → Option Obj) (K : PySem.W.Frag) (x : Str) : Prop where
  hd : PySem.W.codeHdIn K (cdA K x) (tbA K (cdA K x)) = true
  no : K.lookup (tbA K (cdA K x)) = none
  gp : mainGlobals ≠ tbA K (cdA K x)
  tb : g (tbA K (cdA K x)) = some { cls := .none, data := .fields #[] }
theorem lamO_of {x : Str} (h : lamOk g K x = true) : LamO g K x := by
  unfold lamOk at h
  obtain ⟨_, h⟩ := ba h
  obtain ⟨h1, h⟩ := ba h
  obtain ⟨h2, h⟩ := ba h
  obtain ⟨h3, h4⟩ := ba h
  exact ⟨h1, Option.isNone_iff_eq_none.mp h2, of_decide_eq_true h3, isTab_eq h4⟩
theorem lam_code {x qual : Str} {params : Arguments} {body : List Stmt} {scope : Scope} {dvs : List V} {kws : List (Str × V)} {fd : FuncData} (h : lamOk g K x = true) (F : FunD K x qual params body scope dvs kws (ga K x) fd) : fd.code = .ref (cdA K x) := by
  obtain ⟨oc, od, dV, kV, doc, pm, an, cdv, ct, osl, rfl, lk, _⟩ := F.ex
  have h1 := (ba h).1
  unfold cdA
  rw [lk] at h1 ⊢
  dsimp only at h1 ⊢
  cases cdv <;> first | rfl | cases h1
end
/-! ### the end -/
theorem walk_lam {l : PySem.W.OpenLaw} {n k : Nat} {q : Program} {loose : List Str} {XP : (Str → Option Value) → Heap → Prop} {YP : World → Heap → Prop} {d : DefRec} {CX : CXT} {x : Str}
    (hn : l.most = some n) (hn2 : n ≤ sizeLine) (hdf : d.params.defaults = []) (hr : Room k callerA)
    (F : ∀ (w : World) (mg : Str → Option Value) (fa : Addr) (h : Heap), YP w h → h.Ns mainGlobals mg → mg d.name = some (.ref fa) →
      ∃ (K : PySem.W.Frag) (fd : FuncData) (sp : Sp) (cs : List (Addr × Addr)), K.In h ∧ (∀ (s : Shared) (u : Value), BindsTo s fd ⟨[u], []⟩ [(x, u)]) ∧ (∀ p ∈ cs, h.get? p.2 = some { cls := .none, data := .fields #[] }) ∧ (∀ p ∈ cs, K.lookup p.2 = none) ∧ (∀ p ∈ cs, PySem.W.CodeHd h p.1 p.2) ∧
        (∀ (H : Hp) (a : Addr) (ns : List Int), ns.length ≤ n → (∀ p ∈ cs, H p.2 = some (.tbl #[])) → SqL K H a (ns.map V.int) → sp [.ref a] H (fun v _ => v = .bl true) fun _ _ _ => False) ∧
        ∀ base : Heap, K.In base → base.Ns mainGlobals mg → (∀ p ∈ cs, LamX.TabB base mg p.1 p.2) → FnOk l.prog w K mg base CX k fa fd [x] sp)
    (hCX : ∀ (H : Hp) (s : Shared) (e : Value) (s' : Shared), CX [] H s (fun _ _ _ => False) e s' → False) :
    PySem.W.WalkO q loose XP YP l.row.toRowW d [] (fun f vs => PySem.call f vs) := by
  refine Att.attach_call hn hdf fun w s₀ s₁ mg mb fa o pm cd doc a vs ns G Y ho hd hcd hmg hobj hints hlen hg => ?_
  obtain ⟨K, fd, sp, cs, KX, hb, hT, nT, C, hsp, hF⟩ := F w mg fa _ Y G.T.g hmg
  exact LamX.law_callTs KX G.T.g G.T.b G.T.builtins G.T.nolimit hg hT nT C G.T.bmain hobj hints (Nat.le_trans hlen hn2) hr hF hb (fun H hH hS => hsp H a ns hlen hH hS) fun H e s' => hCX H s₁ e s'
/-- the code object and the table of a def that makes a lambda -/
structure LamT [Lam] (base : Heap) (mg : Str → Option Value) (code : Value) (q : Str) : Prop where
  ex : ∃ c P, code = .ref c ∧ LamX.TabB base mg c P ∧ (P, q) ∈ Lam.T ∧ ∀ p ∈ Lam.T, p.1 = P → p.2 = q
def lamTs (K : PySem.W.Frag) (lam : List Str) : List (Addr × Str) := lam.map fun x => (tbA K (cdA K x), x ++ ".<locals>." ++ "<lambda>")
/-- a def as it stands -/
structure Raw (K : PySem.W.Frag) (mg : Str → Option Value) (x : Str) (st : Stmt) (ps : List Str) : Prop where
  ex : ∃ f fd, FnP K x st f fd ∧ mg x = some (.ref f) ∧ Binds K fd ps []
section
variable [Lam] {P : Program} {w : World} {K : PySem.W.Frag} {mg : Str → Option Value} {base : Heap}
/-- the rule for a def over data, its code told -/
theorem fn_mkC {qual : Str} {st : Stmt} {f : Addr} {fd : FuncData} {N ps : List Str} {k : Nat} (F : FnP K qual st f fd) (S : FnScope N ps (defScope st)) (R : List PD → PD → Prop) (kd : Kd) (hlen : ∀ ds d, R ds d → ds.length = ps.length)
    (hb : ∀ (A : Around) (outer : List Env) (s : Shared) (H : Hp) (E : XK), Room k (A.deeper (envOfC qual (defScope st) s.heap.objs.size f fd.code)) → ∀ ds d, R ds d →
      DSs (cxOf CX0 P w K mg base N qual (defScope st) f fd.code A outer s H E).nox (startE N ds) (defBody st) { nx := fun _ => False, rk := kd, rt := fun z => z = d }) : FnOk P w K mg base CX0 (k + 1) f fd ps (spF K R kd) := by
  obtain ⟨oc, od, dV, kV, doc, pm, an, cdv, ct, osl, rfl, lk, hcd, _, _⟩ := F.ex
  refine fn_of lk hcd S (fun vs H Q E h => ?_) fun A outer s H vs Q E hr h => ?_
  · obtain ⟨Bo, ds, d, _, _, r, h, _⟩ := h
    rw [r.len]
    exact hlen ds d h
  · obtain ⟨Bo, ds, d, sb, tb, r, h, q⟩ := h
    refine ⟨_, PSs.nox pss_w, ?_⟩
    refine hb A outer s H E hr ds d h H Bo Bo H _ (fit_start sb tb r) _ ⟨fun _ _ _ _ z => z.elim, fun v d' σ' Ho' H' en' e _ g r => ?_, fun _ _ _ _ z => z.elim, fun _ _ _ _ z => z.elim⟩
    have e : d' = d := e
    subst e
    exact q v Ho' H' g.gr0 r
end
end DL

namespace DL
open PySem PySem.Spec PyProof.Rows L2
variable [Lam]
/-! ### all sets of n, by how many, then in order -/
def subs : List Nat → Nat → List (List Nat)
  | _, 0 => [[]]
  | [], _ + 1 => []
  | x :: xs, k + 1 => (subs xs k).map (x :: ·) ++ subs xs (k + 1)
def combs (n k : Nat) : List (List Nat) := subs (List.range n) k
def allTo (n : Nat) : Nat → List (List Nat)
  | 0 => []
  | k + 1 => allTo n k ++ combs n k
def allSets (n : Nat) : List (List Nat) := allTo n (n + 1)
def chainB (n k : Nat) (xs : List (List Nat)) : Bool := decide (xs[0]? = some (List.range k)) && (decide (xs.map (nextC n) = xs.tail.map some ++ [none]) && xs.all fun c => c.all fun x => decide (x < n))
theorem chain_by {n k : Nat} {xs : List (List Nat)} (h : chainB n k xs = true) (hl : ∀ c ∈ xs, c.length ≤ 1000) : Chain n k xs := by
  unfold chainB at h
  simp only [Bool.and_eq_true, decide_eq_true_eq, List.all_eq_true] at h
  obtain ⟨h1, h2, h3⟩ := h
  refine ⟨h1, fun i c hc => ?_, h3, hl⟩
  have hi : i < xs.length := (List.getElem?_eq_some_iff.mp hc).1
  have e1 : (xs.map (nextC n))[i]? = some (nextC n c) := by rw [List.getElem?_map, hc]; rfl
  rw [h2] at e1
  by_cases hq : i + 1 < xs.length
  · rw [List.getElem?_append_left (by rw [List.length_map, List.length_tail]; omega), List.getElem?_map, List.getElem?_tail] at e1
    rw [List.getElem?_eq_getElem hq] at e1 ⊢
    exact (Option.some.inj e1).symm
  · rw [List.getElem?_append_right (by rw [List.length_map, List.length_tail]; omega)] at e1
    rw [List.getElem?_eq_none (show xs.length ≤ i + 1 by omega)]
    rw [List.length_map, List.length_tail, show i - (xs.length - 1) = 0 by omega] at e1
    exact (Option.some.inj e1).symm
theorem subs_len : ∀ (l : List Nat) (k : Nat), ∀ c ∈ subs l k, c.length = k
  | l, 0, c, h => by cases l <;> (rw [subs] at h; rw [List.mem_singleton.mp h]; rfl)
  | [], k + 1, c, h => by rw [subs] at h; cases h
  | x :: xs, k + 1, c, h => by
    rw [subs] at h
    rcases List.mem_append.mp h with h | h
    · obtain ⟨d, hd, rfl⟩ := List.mem_map.mp h
      rw [List.length_cons, subs_len xs k d hd]
    · exact subs_len xs (k + 1) c h
theorem subs_sub : ∀ (l : List Nat) (k : Nat), ∀ c ∈ subs l k, c.Sublist l
  | l, 0, c, h => by cases l <;> (rw [subs] at h; rw [List.mem_singleton.mp h]; exact List.nil_sublist _)
  | [], k + 1, c, h => by rw [subs] at h; cases h
  | x :: xs, k + 1, c, h => by
    rw [subs] at h
    rcases List.mem_append.mp h with h | h
    · obtain ⟨d, hd, rfl⟩ := List.mem_map.mp h
      exact (subs_sub xs k d hd).cons_cons x
    · exact (subs_sub xs (k + 1) c h).cons x
theorem subs_mem : ∀ (l c : List Nat), c.Sublist l → c ∈ subs l c.length
  | l, [], _ => by cases l <;> (rw [List.length_nil, subs]; exact List.mem_singleton.mpr rfl)
  | [], x :: c, h => by cases h
  | y :: l, x :: c, h => by
    rw [List.length_cons, subs]
    cases h with
    | cons _ h =>
      have := subs_mem l (x :: c) h
      rw [List.length_cons] at this
      exact List.mem_append_right _ this
    | cons_cons _ h => exact List.mem_append_left _ (List.mem_map.mpr ⟨c, subs_mem l c h, rfl⟩)
theorem rise_sub : ∀ {n : Nat} {c : List Nat} {m : Nat}, c.Pairwise (· < ·) → (∀ x ∈ c, m ≤ x ∧ x < m + n) → c.Sublist (List.range' m n)
  | 0, c, m, _, h => by
    cases c with
    | nil => exact List.nil_sublist _
    | cons x c => have := h x List.mem_cons_self; omega
  | n + 1, c, m, hr, h => by
    rw [List.range'_succ]
    cases c with
    | nil => exact List.nil_sublist _
    | cons x c =>
      obtain ⟨h1, h2⟩ := List.pairwise_cons.mp hr
      by_cases e : x = m
      · subst e
        refine (rise_sub h2 fun y hy => ?_).cons_cons x
        have := h y (List.mem_cons_of_mem _ hy)
        have := h1 y hy
        omega
      · refine (rise_sub hr fun y hy => ?_).cons m
        have := h y hy
        rcases List.mem_cons.mp hy with rfl | hy2
        · omega
        · have := h1 y hy2
          have := h x List.mem_cons_self
          omega
theorem mem_allTo {n : Nat} {c : List Nat} : ∀ {m : Nat}, c ∈ allTo n m ↔ c.length < m ∧ c.Sublist (List.range n)
  | 0 => by simp [allTo]
  | m + 1 => by
    rw [allTo, List.mem_append, mem_allTo]
    constructor
    · rintro (⟨h1, h2⟩ | h)
      · exact ⟨by omega, h2⟩
      · have := subs_len _ _ c h
        exact ⟨by omega, subs_sub _ _ c h⟩
    · rintro ⟨h1, h2⟩
      by_cases e : c.length = m
      · exact .inr (by rw [← e]; exact subs_mem _ c h2)
      · exact .inl ⟨by omega, h2⟩
theorem mem_allSets {n : Nat} {c : List Nat} : c ∈ allSets n ↔ c.Sublist (List.range n) := by
  unfold allSets
  rw [mem_allTo]
  constructor
  · exact fun h => h.2
  · intro h
    have := h.length_le
    rw [List.length_range] at this
    exact ⟨by omega, h⟩
theorem allSets_ok {n : Nat} {c : List Nat} (h : c ∈ allSets n) : (∀ x ∈ c, x < n) ∧ c.Pairwise (· < ·) ∧ c.length ≤ n := by
  have s := mem_allSets.mp h
  refine ⟨fun x hx => List.mem_range.mp (s.subset hx), (range_rise n).sublist s, ?_⟩
  have := s.length_le
  rwa [List.length_range] at this
theorem rise_all {n : Nat} {c : List Nat} (h1 : ∀ x ∈ c, x < n) (h2 : c.Pairwise (· < ·)) : c ∈ allSets n := by
  rw [mem_allSets, List.range_eq_range']
  exact rise_sub h2 fun x hx => ⟨Nat.zero_le _, by have := h1 x hx; omega⟩
theorem combs_chain {n k : Nat} (hn : n ≤ 7) (hk : k ≤ n) : Chain n k (combs n k) := by
  have all : ∀ n, n < 8 → ∀ k, k < 8 → k ≤ n → chainB n k (combs n k) = true := by decide +kernel
  refine chain_by (all n (by omega) k (by omega) hk) fun c hc => ?_
  have := subs_len _ _ c hc
  omega
/-! ### the least ones -/
def hasAll (c known : List Nat) : Bool := known.all fun x => decide (x ∈ c)
def leastS (p : List Nat → Bool) (acc : List (List Nat)) (c : List Nat) : List (List Nat) := if (!(acc.any fun k => hasAll c k) && p c) = true then acc ++ [c] else acc
def leastP (n : Nat) (p : List Nat → Bool) : List (List Nat) := (allSets n).foldl (leastS p) []
theorem leastF_mem (p : List Nat → Bool) : ∀ (cs acc : List (List Nat)), ∀ c ∈ cs.foldl (leastS p) acc, c ∈ acc ∨ (c ∈ cs ∧ p c = true)
  | [], acc, c, h => .inl h
  | x :: cs, acc, c, h => by
    rw [List.foldl_cons] at h
    rcases leastF_mem p cs _ c h with h | ⟨h, q⟩
    · unfold leastS at h
      split at h
      · rename_i hc
        rcases List.mem_append.mp h with h | h
        · exact .inl h
        · rw [List.mem_singleton.mp h]
          exact .inr ⟨List.mem_cons_self, (Bool.and_eq_true_iff.mp hc).2⟩
      · exact .inl h
    · exact .inr ⟨List.mem_cons_of_mem _ h, q⟩
theorem leastP_mem {n : Nat} {p : List Nat → Bool} {c : List Nat} (h : c ∈ leastP n p) : c ∈ allSets n ∧ p c = true := by
  rcases leastF_mem p _ _ c h with h | h
  · cases h
  · exact h
theorem leastF_len (p : List Nat → Bool) : ∀ (cs acc : List (List Nat)), (cs.foldl (leastS p) acc).length ≤ acc.length + cs.length
  | [], acc => Nat.le_refl _
  | x :: cs, acc => by
    rw [List.foldl_cons, List.length_cons]
    have h1 := leastF_len p cs (leastS p acc x)
    have h2 : (leastS p acc x).length ≤ acc.length + 1 := by
      unfold leastS
      split
      · rw [List.length_append]; simp
      · omega
    omega
theorem allSets_len {n : Nat} (hn : n ≤ 7) : (allSets n).length ≤ 128 := by
  have all : ∀ n, n < 8 → (allSets n).length ≤ 128 := by decide +kernel
  exact all n (by omega)
theorem allTo_le {n : Nat} : ∀ {m k : Nat}, m ≤ k → (allTo n m).length ≤ (allTo n k).length
  | m, 0, h => by rw [show m = 0 by omega]; exact Nat.le_refl _
  | m, k + 1, h => by
    by_cases e : m = k + 1
    · rw [e]; exact Nat.le_refl _
    · have := allTo_le (n := n) (m := m) (k := k) (by omega)
      rw [allTo, List.length_append]
      omega
theorem leastA_ok {n x j : Nat} {p : List Nat → Bool} (hn : n ≤ 7) (hx : x < n + 1) : (((combs n x).take j).foldl (leastS p) ((allTo n x).foldl (leastS p) [])).length ≤ 256 ∧ ∀ c ∈ ((combs n x).take j).foldl (leastS p) ((allTo n x).foldl (leastS p) []), c.length ≤ 1000 := by
  rw [← List.foldl_append]
  have h1 := leastF_len p (allTo n x ++ (combs n x).take j) []
  have h2 := allTo_le (n := n) (m := x + 1) (k := n + 1) (by omega)
  have h3 := allSets_len hn
  rw [allTo, List.length_append] at h2
  rw [List.length_append, List.length_nil, List.length_take] at h1
  unfold allSets at h3
  refine ⟨by omega, fun c hc => ?_⟩
  rcases leastF_mem p _ _ c hc with h | ⟨h, _⟩
  · cases h
  · rcases List.mem_append.mp h with h | h
    · have := (mem_allTo.mp h).1
      omega
    · have := subs_len _ _ c (List.mem_of_mem_take h)
      omega
theorem leastP_len {n : Nat} {p : List Nat → Bool} (hn : n ≤ 7) : (leastP n p).length ≤ 128 := by
  have h1 := leastF_len p (allSets n) []
  have h2 := allSets_len hn
  unfold leastP
  rw [List.length_nil] at h1
  omega
theorem leastP_ext {n : Nat} {p q : List Nat → Bool} (h : ∀ c ∈ allSets n, p c = q c) : leastP n p = leastP n q := by
  unfold leastP
  have : ∀ (cs acc : List (List Nat)), (∀ c ∈ cs, p c = q c) → cs.foldl (leastS p) acc = cs.foldl (leastS q) acc := fun cs => by
    induction cs with
    | nil => intro acc _; rfl
    | cons x cs ih =>
      intro acc hc
      rw [List.foldl_cons, List.foldl_cons]
      have e : leastS p acc x = leastS q acc x := by unfold leastS; rw [hc x List.mem_cons_self]
      rw [e]
      exact ih _ fun c hm => hc c (List.mem_cons_of_mem _ hm)
  exact this _ _ h
def roomsB (W : Wk) (ls : List Lk) (b : List Nat) : Bool := ls.all fun l => (roomO W l b).isSome
def setsOf (W : Wk) (ls : List Lk) : List (List Nat) := leastP W.parts.length (roomsB W ls)
def setsD (cs : List (List Nat)) : PD := .list (cs.map rowT)
end DL

namespace DL
open PySem PySem.Spec PyProof.Rows L2
variable [Lam]
section
variable {X : Cx} {en : En} {a b : Expr} {p pos pos2 : Pos} {ka kb : Kd} {d : PD} {n : Nat} {row : List Nat}
theorem de_any {bs : List Bool} (hm : X.mg "any" = none) (hc : X.calm = true) (ha : DE X en a .e (.list (bs.map .bool))) (hg : glB X "any" = true := by kernel_rfl) (he : starEach [a] X.env = (false, eval a X.env) :: starEach [] X.env := by kernel_rfl) : DE X en (.Call (.Name "any" p) [a] [] pos) .c (.bool (bs.any id)) := fun B Bo Ho H σ f Q q => by
  refine wE_of (pe_callB (cr_any hc) (gl_of hg) hm (by decide +kernel) (pa_cons pe_w pa_nil he) (he := he)) ?_
  refine ha B Bo Ho H σ f _ fun v H1o H1 g1 r1 => ?_
  obtain ⟨p, xs, rfl, q1, r1⟩ := r1
  have e := RpA.bools_inv r1
  subst e
  exact ⟨p, bs, rfl, .inl (.inl q1), q _ H1o H1 g1 (.bl _)⟩
theorem de_inT (ha : DE X en a ka (nD n)) (hb : DE X en b .e (rowT row)) (hm : behindInMarks .In b = false := by kernel_rfl) : DE X en (.Compare a [.In] [b] pos) .c (.bool (decide (n ∈ row))) := de_cmp op_in_seq ha hb o2_inT hm
theorem de_notInT (ha : DE X en a ka (nD n)) (hb : DE X en b .e (rowT row)) (hm : behindInMarks .NotIn b = false := by kernel_rfl) : DE X en (.Compare a [.NotIn] [b] pos) .c (.bool (!decide (n ∈ row))) := de_cmp op_notIn_seq ha hb o2_notInT hm
theorem de_isNot (ha : DE X en a ka d) {j} (hs : ka ≠ .o := by decide) : DE X en (.Compare a [.IsNot] [.Constant .none j pos2] pos) .c (.bool (!isNo d)) := fun B Bo Ho H σ f Q q => by
  refine wE_of (pe_cmpR op_notN pe_w pe_non rfl) ?_
  refine ha B Bo Ho H σ f _ fun v H1o H1 g1 r1 => ?_
  refine ⟨rfl, q _ H1o H1 g1 ?_⟩
  have r := r1.rpt g1.s
  cases r <;> exact .bl _
end
/-- slots forgotten, for an expression -/
theorem DE.less {X : Cx} {en en' : En} {e : Expr} {k : Kd} {d : PD} (h : DE X en' e k d) (l : Lee en' en) : DE X en e k d := fun B Bo Ho H σ f Q q => h B Bo Ho H σ (f.less l) Q q
end DL

namespace DL
open PySem PySem.Spec PyProof.Rows L2
variable [Lam]
section
variable {X : Cx} {en : En} {a b e : Expr} {p pos : Pos} {k ka kb : Kd} {d da db : PD} {ds es : List PD} {n : Nat}
/-- a tuple, perhaps empty, and one -/
theorem de_catTA (ha : DE X en a .c (.tuple ds)) (hb : DE X en b .c (.tuple es)) (hl : ds.length + es.length ≤ 100000) : DE X en (.BinOp a .Add b pos) .c (.tuple (ds ++ es)) :=
  de_op op_catA ha hb fun H0 H0' Ho H v u s r1 r2 Q q => by
    obtain ⟨p, xs, rfl, q1, r1⟩ := Rp.tup_inv r1
    obtain ⟨p', ys, rfl, q2, r2⟩ := Rp.tup_inv r2
    refine ⟨p, p', xs, ys, rfl, rfl, .inl (.inl (s.at _ _ q1)), .inl (.inl (s.at _ _ q2)), sz100 (by rw [r1.len, r2.len]; exact hl), fun z => ?_, fun _ z => ?_, fun _ _ c hc => q _ _ _ (.new s hc) (.tup upd_same ((r1.app r2).mono (same_new (s.free hc))))⟩
    · subst z
      cases r1
      exact q _ Ho H (.refl s) (.tup q2 r2)
    · subst z
      cases r2
      exact q _ Ho H (.refl s) (.tup q1 (by rw [List.append_nil]; exact r1))
end
/-! ### sorted(xs), of data -/
theorem zip_vals : ∀ {ys : List V} {ds : List PD} {its : List Value}, ys.length = ds.length → Vals ys its → PySem.W.EachIs (fun v (b : V × PD) => RelV b.1 v) its (ys.zip ds)
  | [], [], _, _, r => by cases r; exact .nil
  | [], _ :: _, _, h, _ => by cases h
  | _ :: _, [], _, h, _ => by cases h
  | y :: ys, d :: ds, _, h, r => by
    cases r with
    | cons r1 r2 => exact .cons r1 (zip_vals (Nat.succ.inj h) r2)
theorem vals_zip : ∀ {zs : List (V × PD)} {out : List Value}, PySem.W.EachIs (fun v (b : V × PD) => RelV b.1 v) out zs → Vals (zs.map (·.1)) out
  | _, _, .nil => .nil
  | _, _, .cons h t => .cons h (vals_zip t)
theorem zip_each {h : Heap} : ∀ {ys : List V} {ds : List PD} {its : List Value}, ys.length = ds.length → PySem.W.EachIs (fun v d => ∃ as, Reads h v d as) its ds → PySem.W.EachIs (fun v (b : V × PD) => ∃ as, Reads h v b.2 as) its (ys.zip ds)
  | [], [], _, _, r => by cases r; exact .nil
  | [], _ :: _, _, h, _ => by cases h
  | _ :: _, [], _, h, _ => by cases h
  | y :: ys, d :: ds, _, h, r => by
    cases r with
    | cons r1 r2 => exact .cons r1 (zip_each (Nat.succ.inj h) r2)
theorem each_map_id {h : Heap} {its : List Value} {ds : List PD} (e : PySem.W.EachIs (fun v d => ∃ as, Reads h v (id d) as) its ds) : PySem.W.EachIs (fun v d => ∃ as, Reads h v d as) its ds := e
theorem zip_snd : ∀ {ys : List V} {ds : List PD}, ys.length = ds.length → (ys.zip ds).map (·.2) = ds
  | [], [], _ => rfl
  | [], _ :: _, h => by cases h
  | _ :: _, [], h => by cases h
  | y :: ys, d :: ds, h => by rw [List.zip_cons_cons, List.map_cons, zip_snd (Nat.succ.inj h)]
theorem cr_sortD {X : Cx} (hu : X.A.units + 64 < cLine) : CallR X (.builtin "sorted") (fun xs H Q => ∃ a ys ds, xs = [.ref a] ∧ SqL X.K H a ys ∧ DpAll X.K H ys ds ∧ ys.length = ds.length ∧ PySem.W.AllAlike ds ∧ PySem.W.Sortable ds ∧ (∀ d ∈ ds, d.depth ≤ 60) ∧
    ∀ zs : List (V × PD), zs = (ys.zip ds).mergeSort (PySem.W.dataLe false (·.2)) → ∀ p, H p = none → Q (.ref p) (upd H p (.lst (zs.map (·.1))))) := by
  intro pins s σ H xs us Q I r q
  obtain ⟨a, ys, ds, rfl, hs, hd, hl, ha, hk, hdp, q⟩ := q
  obtain ⟨its, rv, pl, hz⟩ := I.list hs
  rw [Vals.ref1 r]
  obtain ⟨as, hr⟩ := Dp.readsAll I ds ys its hd rv
  have e1 := zip_vals hl rv
  have e2 : PySem.W.EachIs (fun v d => ∃ as, Reads s.heap v d as) its ds := by
    have := PySem.W.readsAll_each (h := s.heap) (β := PD) id (vs := its) (bs := ds) (as := as) (by rw [List.map_id]; exact hr)
    exact this
  have em : (ys.zip ds).map (fun b : V × PD => b.2) = ds := zip_snd hl
  refine PySem.W.sorted_data (enc := fun b : V × PD => b.2) pl.isList e1 (zip_each hl e2) (by rw [em]; exact ha) (by rw [em]; exact hk) (by rw [List.length_zip, ← hl, Nat.min_self]; exact hz) (fun b hb => ?_) fun out ho eo => ?_
  · have h1 : b.2 ∈ ds := by rw [← em]; exact List.mem_map.mpr ⟨b, hb, rfl⟩
    have := hdp _ h1
    omega
  · obtain ⟨ep, he'⟩ := PyProof.Rows.sortedAll_at s.heap its out.toArray
    have hlen : (((ys.zip ds).mergeSort (PySem.W.dataLe false (·.2))).map (·.1)).length ≤ sizeLine := by
      rw [List.length_map, List.length_mergeSort, List.length_zip, ← hl, Nat.min_self]
      exact hz
    exact ⟨.ref _, upd H (s.heap.objs.size + 1) (.lst _), I.laid (t' := s.toks) (fun _ _ => PyProof.Rows.sortedAll_old) (Nat.le_succ _) ⟨hlen, out, ep, vals_zip eo, he'⟩, rfl, q _ rfl _ (I.hok.fresh (Nat.le_succ _))⟩
theorem RpA.zip {K : PySem.W.Frag} {H : Hp} : ∀ {ys : List V} {ds : List PD}, RpA K H ys ds → ∀ z ∈ ys.zip ds, Rp K H z.1 z.2
  | _, _, .nil, z, h => by cases h
  | _, _, .cons r t, z, h => by
    rcases List.mem_cons.mp h with rfl | h
    · exact r
    · exact t.zip z h
theorem RpA.of_zip {K : PySem.W.Frag} {H : Hp} : ∀ {zs : List (V × PD)}, (∀ z ∈ zs, Rp K H z.1 z.2) → RpA K H (zs.map (·.1)) (zs.map (·.2))
  | [], _ => .nil
  | z :: zs, h => .cons (h z List.mem_cons_self) (RpA.of_zip fun y hy => h y (List.mem_cons_of_mem _ hy))
theorem de_sortD {X : Cx} {en : En} {a : Expr} {p pos : Pos} {n : Nat} {α : Type} {xs : List α} {c : α → PD} (hr : Room n X.A) (hm : X.mg "sorted" = none) (ha : DE X en a .e (.list (xs.map c))) (h1 : PySem.W.AllAlike (xs.map c)) (h2 : PySem.W.Sortable (xs.map c)) (h3 : ∀ x ∈ xs, Pl 60 (c x))
    (hg : glB X "sorted" = true := by kernel_rfl) (he : starEach [a] X.env = (false, eval a X.env) :: starEach [] X.env := by kernel_rfl) :
    DE X en (.Call (.Name "sorted" p) [a] [] pos) .o (.list ((xs.mergeSort (PySem.W.dataLe false c)).map c)) := fun B Bo Ho H σ f Q q => by
  refine wE_of (pe_callB (cr_sortD (hu64 hr)) (gl_of hg) hm (by decide +kernel) (pa_cons pe_w pa_nil he) (he := he)) ?_
  refine ha B Bo Ho H σ f _ fun v H1o H1 g1 r1 => ?_
  obtain ⟨p, ys, rfl, q1, r1⟩ := r1
  have pl : ∀ d ∈ xs.map c, Pl 60 d := fun d hd => by
    obtain ⟨x, hx, rfl⟩ := List.mem_map.mp hd
    exact h3 x hx
  refine ⟨p, ys, _, rfl, .inl (.inl q1), RpA.dp (r1.mono g1.s) (pl_all pl).1, r1.len, h1, h2, fun d hd => (pl d hd).2, fun zs ez c' hc => ?_⟩
  refine q _ _ _ (g1.trans (.tmp g1.s hc)) ⟨c', rfl, g1.h.free hc, g1.s.free hc, _, upd_same, ?_⟩
  have e1 : zs.map (·.2) = (xs.mergeSort (PySem.W.dataLe false c)).map c := by
    have k1 := List.map_mergeSort (r := PySem.W.dataLe false (fun x : V × PD => x.2)) (s := PySem.W.dataLe false (id : PD → PD)) (f := fun x : V × PD => x.2) (l := ys.zip (xs.map c)) (fun a _ b _ => rfl)
    have k2 := List.map_mergeSort (r := PySem.W.dataLe false c) (s := PySem.W.dataLe false (id : PD → PD)) (f := c) (l := xs) (fun a _ b _ => rfl)
    rw [ez, k1, k2, zip_snd r1.len]
  rw [← e1]
  exact RpA.of_zip fun z hz => r1.zip z (by rw [ez] at hz; exact List.mem_mergeSort.mp hz)
/-! ### a call over a list of one's own, that stays one's own -/
def del (H : Hp) (p : Addr) : Hp := fun a => if a = p then none else H a
theorem del_at {H : Hp} {p a : Addr} (h : a ≠ p) : del H p a = H a := if_neg h
theorem del_no {H : Hp} {p : Addr} : del H p p = none := if_pos rfl
theorem Fit.freezeP {K : PySem.W.Frag} {B Bo Ho H : Hp} {σ : L2.St} {en : En} {i : Nat} {ds : List PD} (f : Fit K B Bo Ho H σ en) {l : Option Addr} (h : en[i]? = some (some (.w l (.list ds)))) : ∃ p vs, Ho p = none ∧ AtL l p ∧ H p = some (.lst vs) ∧ Fit K B Bo (upd Ho p (.lst vs)) H σ (en.set i (some (.v (.list ds)))) := by
  obtain ⟨p, e, n1, n2, w, al0⟩ := f.ownL h
  obtain ⟨vs, eo, rr⟩ := id w
  have m := same_new (o := .lst vs) n1
  refine ⟨p, vs, n1, al0, eo, f.bo, f.bh, f.boh.trans m, ⟨fun b x eb => ?_⟩, fun a ha => ?_, f.tb, by rw [List.length_set]; exact f.len, fun j s ej => ?_, fun j k {_ _} d1 d2 q e1 e2 e3 e4 => ?_⟩
  · by_cases hb : b = p
    · subst hb; rw [upd_same] at eb; cases eb; exact ⟨_, eo, .refl _⟩
    · rw [upd_ne hb] at eb; exact f.hoh.ex _ _ eb
  · rw [upd_ne (fun e => ha (by rw [e]; exact n2))]
    exact f.fr a ha
  · rcases get_set ej with ⟨rfl, e5⟩ | ⟨n, e5⟩
    · cases e5
      exact ⟨_, e, w.rp eo n1⟩
    · have q := f.sl j s e5
      cases s with
      | v d1 => obtain ⟨v, a, r⟩ := q; exact ⟨v, a, r.mono m⟩
      | w l1 d1 =>
        obtain ⟨p1, a, b1, b2, w1, al⟩ := q
        have np : p1 ≠ p := fun z => by
          subst z
          exact n (f.dj i j _ _ _ h e5 e a)
        exact ⟨p1, a, (upd_ne np).trans b1, b2, w1.mono m (.refl _), al⟩
  · rcases get_set e1 with ⟨_, z⟩ | ⟨n1, e1⟩
    · cases z
    rcases get_set e2 with ⟨_, z⟩ | ⟨n2, e2⟩
    · cases z
    exact f.dj j k d1 d2 q e1 e2 e3 e4
theorem RpA.nD_inv {K : PySem.W.Frag} {H : Hp} : ∀ {vs : List V} {row : List Nat}, RpA K H vs (row.map nD) → vs = row.map fun (n : Nat) => V.int n
  | _, [], h => by cases h; rfl
  | _, x :: row, h => by
    cases h with
    | cons r t => rw [r.int_inv, t.nD_inv]; rfl
theorem RpA.of_nD {K : PySem.W.Frag} {H : Hp} : ∀ (row : List Nat), RpA K H (row.map fun (n : Nat) => V.int n) (row.map nD)
  | [] => .nil
  | x :: row => .cons (.int _) (RpA.of_nD row)
theorem sets_del {K : PySem.W.Frag} {H : Hp} {p : Addr} {vs : List V} (hp : H p = some (.lst vs)) : ∀ {cs : List (List Nat)} {us : List V}, RpA K H us (cs.map rowT) → RpA K (del H p) us (cs.map rowT)
  | [], _, h => by cases h; exact .nil
  | c :: cs, _, h => by
    cases h with
    | cons r t =>
      refine .cons ?_ (sets_del hp t)
      obtain ⟨a, ys, rfl, ha, ry⟩ := Rp.tup_inv r
      have np : a ≠ p := fun e => by subst e; rw [hp] at ha; cases ha
      rw [ry.nD_inv] at ha
      exact .tup ((del_at np).trans ha) (RpA.of_nD c)
/-- what is made over the frozen list does not hold it -/
theorem de_thaw {X : Cx} {en : En} {e : Expr} {ds : List PD} {cs : List (List Nat)} (i : Nat) (h : DE X (en.set i (some (.v (.list ds)))) e .o (setsD cs)) (hi : en[i]? = some (some (.o (.list ds))) := by rfl) : DE X en e .o (setsD cs) := fun B Bo Ho H σ f Q q => by
  obtain ⟨p, vs, n1, _, eo, f2⟩ := f.freezeP hi
  refine h B Bo _ H σ f2 Q fun v H2o H2 g r => ?_
  obtain ⟨p', rfl, a1, a2, us, a3, a4⟩ := r
  have ep : H2o p = some (.lst vs) := g.o.at _ _ upd_same
  refine q _ (del H2o p) H2 ⟨g.h, ⟨fun b o e => ?_⟩, ⟨fun b o e => ?_⟩, fun b hb => ?_, g.tb⟩ ⟨p', rfl, a1, ?_, us, a3, sets_del ep a4⟩
  · have np : b ≠ p := fun z => by subst z; rw [n1] at e; cases e
    rw [del_at np]
    exact g.o.ex b o ((upd_ne np).trans e)
  · by_cases np : b = p
    · subst np; rw [del_no] at e; cases e
    · rw [del_at np] at e
      exact g.s.ex b o e
  · by_cases np : b = p
    · subst np; rw [del_no, n1]
    · rw [del_at np]
      exact (g.fr b hb).trans (upd_ne np)
  · by_cases np : p' = p
    · subst np; exact del_no
    · rw [del_at np]; exact a2
end DL

namespace DL
open PySem PySem.Spec PySem.W PyProof.Rows L2
variable [Lam]
/-! ### all sets, doubled and sorted -/
def subL : Nat → List (List Nat)
  | 0 => [[]]
  | k + 1 => subL k ++ (subL k).map fun c => c ++ [k]
def pairC (c : List Nat) : PD := .tuple [nD c.length, rowT c]
def codeC (c : List Nat) : Nat := c.length * 16777216 + c.foldl (fun acc x => acc * 8 + x) 0
def natLt : List Nat → List Nat → Bool
  | [], [] => false
  | [], _ :: _ => true
  | _ :: _, [] => false
  | x :: xs, y :: ys => if x = y then natLt xs ys else decide (x < y)
theorem natLt_ints : ∀ xs ys : List Nat, PySem.W.rowLt (xs.map nD) (ys.map nD) = natLt xs ys
  | [], [] => lex_irrefl _
  | [], y :: ys => by
    have := PySem.W.dataLt_ints [] (((y :: ys).map fun (n : Nat) => (n : Int)))
    rw [List.map_map] at this
    exact this.trans (by simp [natLt])
  | x :: xs, [] => by
    have := PySem.W.dataLt_ints (((x :: xs).map fun (n : Nat) => (n : Int))) []
    rw [List.map_map] at this
    exact this.trans (by simp [natLt])
  | x :: xs, y :: ys => by
    have ih := natLt_ints xs ys
    have e : PySem.W.rowLt ((x :: xs).map nD) ((y :: ys).map nD) = if (x : Int) = y then PySem.W.rowLt (xs.map nD) (ys.map nD) else decide ((x : Int) < y) := by
      show PySem.W.rowLt (PyData.int x :: xs.map nD) (PyData.int y :: ys.map nD) = _
      unfold PySem.W.rowLt
      rw [PySem.W.dataLt_cons (by simp [alike]), dataLt_int]
      simp only [PyData.eqv, beq_iff_eq]
    rw [e, ih, natLt]
    by_cases h : x = y
    · rw [if_pos (by omega), if_pos h]
    · rw [if_neg (by omega), if_neg h]
      congr 1
      apply propext
      omega
def leC (a b : List Nat) : Bool := if a.length = b.length then !natLt b a else decide (a.length ≤ b.length)
theorem natLt_irr : ∀ a : List Nat, natLt a a = false
  | [] => rfl
  | x :: xs => by rw [natLt, if_pos rfl]; exact natLt_irr xs
theorem eqv_row (a b : List Nat) : PyData.eqv (rowT a) (rowT b) = decide (a = b) := by
  have h : ∀ a b : List Nat, PyData.eqvAll (a.map nD) (b.map nD) = decide (a = b) := fun a => by
    induction a with
    | nil => intro b; cases b <;> simp [PyData.eqvAll]
    | cons x a ih =>
      intro b
      cases b with
      | nil => simp [PyData.eqvAll]
      | cons y b =>
        rw [List.map_cons, List.map_cons, PyData.eqvAll, ih b]
        have e : PyData.eqv (nD x) (nD y) = decide (x = y) := by
          show PyData.eqv (.int (x : Int)) (.int (y : Int)) = _
          simp only [PyData.eqv]
          by_cases h : x = y
          · subst h; simp
          · have : ¬ (x : Int) = y := by omega
            simp [h, this]
        rw [e]
        by_cases h1 : x = y <;> by_cases h2 : a = b <;> simp [h1, h2]
  show PyData.eqv (.tuple (a.map nD)) (.tuple (b.map nD)) = _
  rw [PyData.eqv]
  exact h a b
theorem alike_row : ∀ a b : List Nat, alikeAll (a.map nD) (b.map nD) = true
  | [], _ => by simp [alikeAll]
  | _ :: _, [] => by simp [alikeAll]
  | x :: a, y :: b => by
    rw [List.map_cons, List.map_cons, alikeAll, alike_row a b]
    simp [nD, alike]
theorem alike_rowT (a b : List Nat) : alike (rowT a) (rowT b) = true := by
  show alike (.tuple _) (.tuple _) = true
  rw [alike]
  exact alike_row a b
theorem lt_rowT (a b : List Nat) : dataLt (rowT a) (rowT b) = natLt a b := by
  show dataLt (.tuple (a.map nD)) (.tuple (b.map nD)) = _
  rw [dataLt_tuple]
  exact natLt_ints a b
theorem le_pair : PySem.W.dataLe false pairC = leC := by
  funext a b
  rw [PySem.W.dataLe_eq]
  show (!dataLt (.tuple [nD b.length, rowT b]) (.tuple [nD a.length, rowT a])) = _
  rw [PySem.W.dataLt_pair (by simp [nD, alike]) (alike_rowT _ _)]
  have e : PyData.eqv (nD b.length) (nD a.length) = decide (a.length = b.length) := by
    show PyData.eqv (.int (b.length : Int)) (.int (a.length : Int)) = _
    simp only [PyData.eqv]
    by_cases h : a.length = b.length
    · simp [h]
    · have : ¬ (b.length : Int) = a.length := by omega
      simp [h, this]
  have e2 : dataLt (nD b.length) (nD a.length) = decide (b.length < a.length) := by
    show dataLt (.int (b.length : Int)) (.int (a.length : Int)) = _
    rw [dataLt_int]
    congr 1
    apply propext
    omega
  rw [e, e2, eqv_row, lt_rowT]
  unfold leC
  by_cases h : a.length = b.length
  · rw [if_pos (by simp [h]), if_pos h]
    by_cases h2 : b = a
    · subst h2; simp [natLt_irr]
    · simp [h2]
  · rw [if_neg (by simp [h]), if_neg h]
    by_cases h2 : b.length < a.length
    · have : ¬ a.length ≤ b.length := by omega
      simp [h2, this]
    · have : a.length ≤ b.length := by omega
      simp [h2, this]
def codeOk (n : Nat) : Bool := (subL n).all fun a => (subL n).all fun b => (leC a b == decide (codeC a ≤ codeC b)) && (!decide (codeC a = codeC b) || decide (a = b))
theorem code_all : ∀ n, n < 8 → codeOk n = true := by decide +kernel
def riseB : List (List Nat) → Bool
  | [] => true
  | [_] => true
  | a :: b :: r => decide (codeC a < codeC b) && riseB (b :: r)
theorem rise_pw : ∀ {l : List (List Nat)}, riseB l = true → l.Pairwise fun a b => codeC a < codeC b
  | [], _ => .nil
  | [_], _ => List.pairwise_singleton _ _
  | a :: b :: r, h => by
    rw [riseB, Bool.and_eq_true, decide_eq_true_eq] at h
    have ih := rise_pw h.2
    refine List.pairwise_cons.mpr ⟨fun x hx => ?_, ih⟩
    rcases List.mem_cons.mp hx with rfl | hx
    · exact h.1
    · exact Nat.lt_trans h.1 ((List.pairwise_cons.mp ih).1 x hx)
theorem all_rise : ∀ n, n < 8 → riseB (allSets n) = true := by decide +kernel
theorem all_perm : ∀ n, n < 8 → (subL n).isPerm (allSets n) = true := by decide +kernel
theorem subL_len : ∀ n, (subL n).length = 2 ^ n
  | 0 => rfl
  | n + 1 => by rw [subL, List.length_append, List.length_map, subL_len n]; omega
theorem subL_small {n : Nat} (h : n ≤ 7) : (subL n).length ≤ 128 := by
  rw [subL_len]
  exact Nat.pow_le_pow_right (by decide) h
theorem subL_ok : ∀ n, ∀ c ∈ subL n, c.length ≤ n
  | 0, c, h => by rw [List.mem_singleton.mp h]; exact Nat.le_refl _
  | n + 1, c, h => by
    rcases List.mem_append.mp h with h | h
    · have := subL_ok n c h; omega
    · obtain ⟨d, hd, rfl⟩ := List.mem_map.mp h
      have := subL_ok n d hd
      rw [List.length_append, List.length_singleton]; omega
theorem subL_sort {n : Nat} (h : n ≤ 7) : (subL n).mergeSort leC = allSets n := by
  have hc := code_all n (by omega)
  unfold codeOk at hc
  have k : ∀ a ∈ subL n, ∀ b ∈ subL n, leC a b = decide (codeC a ≤ codeC b) ∧ (codeC a = codeC b → a = b) := fun a ha b hb => by
    have := List.all_eq_true.mp (List.all_eq_true.mp hc a ha) b hb
    rw [Bool.and_eq_true, beq_iff_eq] at this
    refine ⟨this.1, fun e => ?_⟩
    have h2 := this.2
    simpa [e] using h2
  have e1 := List.map_mergeSort (r := leC) (s := fun a b => decide (codeC a ≤ codeC b)) (f := id) (l := subL n) (fun a ha b hb => (k a ha b hb).1)
  rw [List.map_id, List.map_id] at e1
  rw [e1]
  have p1 : ((subL n).mergeSort fun a b => decide (codeC a ≤ codeC b)).Perm (allSets n) := (List.mergeSort_perm _ _).trans (List.isPerm_iff.mp (all_perm n (by omega)))
  have s1 : ((subL n).mergeSort fun a b => decide (codeC a ≤ codeC b)).Pairwise fun a b => decide (codeC a ≤ codeC b) = true := List.pairwise_mergeSort (fun a b c h1 h2 => by simp at *; omega) (fun a b => by simp; omega) _
  have s2 : (allSets n).Pairwise fun a b => decide (codeC a ≤ codeC b) = true := (rise_pw (all_rise n (by omega))).imp fun h => by simp; omega
  refine List.Perm.eq_of_pairwise (le := fun a b => decide (codeC a ≤ codeC b) = true) (fun a b ha hb h1 h2 => ?_) s1 s2 p1
  have ha' : a ∈ subL n := List.mem_mergeSort.mp ha
  have hb' : b ∈ subL n := List.mem_mergeSort.mp (p1.mem_iff.mpr hb)
  refine (k a ha' b hb').2 ?_
  simp at h1 h2
  omega
theorem cut_last {α : Type} (xs : List α) : cutA xs none (some (-1)) = xs.dropLast := by
  unfold cutA
  have e1 : HT.sIx xs.length 0 none = 0 := rfl
  have e2 : HT.sIx xs.length xs.length (some (-1)) = xs.length - 1 := by
    show (if (-1 : Int) < 0 then ((-1 : Int) + (xs.length : Int)).toNat else min (-1 : Int).toNat xs.length) = _
    rw [if_pos (by decide)]
    omega
  rw [e1, e2, List.dropLast_eq_take]
  rfl
theorem least_true {n : Nat} (h : n ≤ 7) : leastP n (fun _ => true) = [[]] := by
  have all : ∀ n, n < 8 → leastP n (fun _ => true) = [[]] := by decide +kernel
  exact all n (by omega)
/-! ### the work of a script, at most seven parts -/
def WD (ns : List Int) : Wk := if mix ns 30 % 8 = 1 then ⟨2, (workOf ns 5).inputs, (workOf ns 7).parts⟩ else workOf ns 5
theorem WD_ok (ns : List Int) : (WD ns).Ok := by
  unfold WD
  split
  · have h := workOf_ok ns (most := 7) (by decide) (by decide)
    exact ⟨Nat.le_refl 2, by show 2 ≤ 5; decide, h.i1, h.i6, h.p1, h.p10, h.lines⟩
  · exact workOf_ok ns (by decide) (by decide)
theorem WD_p7 (ns : List Int) : (WD ns).parts.length ≤ 7 := by
  unfold WD
  split
  · exact (workOf_len ns 7).symm ▸ (manyOf_b ns (most := 7) (by decide)).2
  · have := (manyOf_b ns (most := 5) (by decide)).2
    rw [workOf_len]
    omega
theorem WD_small (ns : List Int) : (WD ns).Small := by
  unfold WD
  split
  · have h : (workOf ns 7).parts.length ≤ 7 := (workOf_len ns 7).symm ▸ (manyOf_b ns (most := 7) (by decide)).2
    show 2 ^ (workOf ns 7).parts.length < 100000
    exact Nat.lt_of_le_of_lt (Nat.pow_le_pow_right (by decide) h) (by decide)
  · have h : (workOf ns 5).parts.length ≤ 5 := (workOf_len ns 5).symm ▸ (manyOf_b ns (most := 5) (by decide)).2
    have hr : (workOf ns 5).ring ≤ 5 := (ringOf_b (mix ns 0)).2
    show (workOf ns 5).ring ^ (workOf ns 5).parts.length < 100000
    exact Nat.lt_of_le_of_lt (Nat.le_trans (Nat.pow_le_pow_left hr _) (Nat.pow_le_pow_right (by decide) h)) (by decide)
theorem lam_one {K : PySem.W.Frag} {lam : List Str} {x : Str} (nd : (lam.map fun x => tbA K (cdA K x)).Nodup) (hx : x ∈ lam) : ∀ p ∈ lamTs K lam, p.1 = tbA K (cdA K x) → p.2 = x ++ ".<locals>." ++ "<lambda>" := fun p hp e => by
  obtain ⟨y, hy, rfl⟩ := List.mem_map.mp hp
  have h : y = x := by
    by_cases h : y = x
    · exact h
    · have hq := List.pairwise_map.mp nd
      exact absurd e (by
        obtain ⟨i, hi, rfl⟩ := List.mem_iff_getElem.mp hx
        obtain ⟨j, hj, rfl⟩ := List.mem_iff_getElem.mp hy
        have hne : i ≠ j := fun z => h (by subst z; rfl)
        rcases Nat.lt_or_gt_of_ne hne with l | l
        · exact fun z => List.pairwise_iff_getElem.mp hq i j hi hj l z.symm
        · exact fun z => List.pairwise_iff_getElem.mp hq j i hj hi l z)
  rw [h]
end DL

namespace DL
open PySem PySem.Spec PySem.W PyProof.Rows L2
variable [Lam]
/-! ### a >= b, of data -/
section
variable {X : Cx} {en : En} {a b : Expr} {p p2 p3 pos : Pos} {k ka kb : Kd} {da db : PD} {n : Nat}
def rGeD (K : PySem.W.Frag) : R2 := fun x y H Q => ∃ d e, Dp K H x d ∧ Dp K H y e ∧ PySem.W.alike d e = true ∧ d ≠ .none ∧ min d.depth e.depth ≤ 60 ∧ Q (.bl (!dataLt d e)) H
theorem op_geD (hu : X.A.units + 64 < cLine) : OpR X (compareOp .GtE) (rGeD X.K) := by
  intro pins s σ H x y v u Q I rx ry h
  obtain ⟨d, e, hd, he, sd, se, hp, q⟩ := h
  obtain ⟨as, r1⟩ := Dp.reads I d x v hd rx
  obtain ⟨bs, r2⟩ := Dp.reads I e y u he ry
  exact PySem.W.ge_data r1 r2 sd se (by omega) ⟨.bl _, H, I, rfl, q⟩
theorem dt_geD (hr : Room n X.A) (ha : DE X en a ka da) (hb : DE X en b kb db) (h1 : Pl 60 da) (h2 : Pl 60 db) (h3 : PySem.W.alike da db = true) (h4 : da ≠ .none) (hm : behindInMarks .GtE b = false := by kernel_rfl) : DT X en (.Compare a [.GtE] [b] pos) (!dataLt da db) :=
  dt_cmp (op_geD (hu64 hr)) ha hb (k := .c) (fun H0 H0' Ho H v u s r1 r2 Q q => ⟨da, db, (r1.rpt s).dp h1.1, (r2.rpt s).dp h2.1, h3, h4, Nat.le_trans (Nat.min_le_left _ _) h1.2, q _ Ho H (.refl s) (.bl _)⟩) hm
/-! ### sorted(set(t)), t a tuple of numbers -/
theorem cr_setT (hc : X.calm = true) : CallR X (.type "set") (fun xs H Q => ∃ (l : Addr) (ns : List Int), xs = [.ref l] ∧ SqT X.K H l (ns.map V.int) ∧ ns.length + 1 < scanBound ∧
    ∀ (a : Addr) (S : Int → Bool) (n : Nat), H a = none → (∀ k, S k = true ↔ k ∈ ns) → n ≤ ns.length → Q (.ref a) (upd H a (SetO X.w a S n))) := by
  intro pins s σ H xs us Q I r q
  obtain ⟨l, ns, rfl, hs, hb, q⟩ := q
  obtain ⟨u, rfl, rx⟩ := vals1 r
  cases rx
  obtain ⟨its, rv, pl, hz⟩ := I.tuple hs
  refine call_set_tupI (P := X.prog) (w := X.w) ns (I.ok.hd hc) pl (by simpa using ints_of_vals rv) hb fun h' tk c R hcn keep => ?_
  exact ⟨.ref s.heap.objs.size, _, I.laid (t' := tk) keep (Nat.le_refl _) (setO_new R), rfl, q _ _ c (I.hok.fresh (Nat.le_refl _)) (fun k => by simp) hcn⟩
theorem de_sortSetT {row : List Nat} (hm : X.mg "sorted" = none) (hm2 : X.mg "set" = none) (ha : DE X en a .c (rowT row)) (hb : row.length < 60) (h1 : row.Pairwise (· < ·))
    (hc : X.calm = true := by kernel_rfl) (hg : glB X "sorted" = true := by kernel_rfl) (hg2 : glB X "set" = true := by kernel_rfl) (he : starEach [.Call (.Name "set" p2) [a] [] p3] X.env = (false, eval (.Call (.Name "set" p2) [a] [] p3) X.env) :: starEach [] X.env := by kernel_rfl)
    (he2 : starEach [a] X.env = (false, eval a X.env) :: starEach [] X.env := by kernel_rfl) : DE X en (.Call (.Name "sorted" p) [.Call (.Name "set" p2) [a] [] p3] [] pos) .o (.list (row.map nD)) := fun B Bo Ho H σ f Q q => by
  refine wE_of (pe_callB (cr_sortedSet hc) (gl_of hg) hm (by decide +kernel) (pa_cons (pe_callTy (cr_setT hc) (gl_of hg2) hm2 (by decide +kernel) (pa_cons pe_w pa_nil he2) (he := he2)) pa_nil he) (he := he)) ?_
  refine ha B Bo Ho H σ f _ fun v H1o H1 g1 r1 => ?_
  obtain ⟨l, xs, rfl, q1, r1⟩ := Rp.tup_inv r1
  have ex := r1.nD_inv
  subst ex
  refine ⟨l, asI row, rfl, .inl (.inl (by unfold asI; rw [List.map_map]; exact g1.s.at _ _ q1)), by unfold asI scanBound; rw [List.length_map]; omega, fun D S n hD hS hn => ?_⟩
  unfold asI at hn
  rw [List.length_map] at hn
  refine ⟨D, S, n, rfl, upd_same, by omega, fun ns b hr hmem _ hb => ?_⟩
  have ens : ns = asI row := rise_ext hr (asI_rise h1) fun k => by rw [hmem, hS]
  subst ens
  have g := g1.trans (Gr.tmp (o := SetO X.w D S n) g1.s hD)
  refine q _ H1o _ (g.trans (.tmp g.s hb)) ⟨b, rfl, g.h.free hb, g.s.free hb, _, upd_same, ?_⟩
  unfold asI
  rw [List.map_map]
  exact RpA.of_nD row
end
end DL

namespace DL
open PySem PySem.Spec PySem.W PyProof.Rows L2
variable [Lam]
/-! ### the least sets, and those that meet them -/
def meetsB (S : List (List Nat)) (c : List Nat) : Bool := S.all fun k => k.any fun x => decide (x ∈ c)
def hasB (S : List (List Nat)) (c : List Nat) : Bool := S.any fun k => hasAll c k
def clashOf (W : Wk) (ls : List Lk) : List (List Nat) := leastP W.parts.length (meetsB (setsOf W ls))
def restOf (n : Nat) (c : List Nat) : List Nat := (List.range n).filter fun x => !decide (x ∈ c)
theorem hasAll_iff {c k : List Nat} : hasAll c k = true ↔ ∀ x ∈ k, x ∈ c := by
  unfold hasAll
  rw [List.all_eq_true]
  exact ⟨fun h x hx => of_decide_eq_true (h x hx), fun h x hx => decide_eq_true (h x hx)⟩
theorem meetsB_iff {S : List (List Nat)} {c : List Nat} : meetsB S c = true ↔ ∀ k ∈ S, ∃ x ∈ k, x ∈ c := by
  unfold meetsB
  rw [List.all_eq_true]
  refine ⟨fun h k hk => ?_, fun h k hk => ?_⟩
  · obtain ⟨x, hx, e⟩ := List.any_eq_true.mp (h k hk)
    exact ⟨x, hx, of_decide_eq_true e⟩
  · obtain ⟨x, hx, e⟩ := h k hk
    exact List.any_eq_true.mpr ⟨x, hx, decide_eq_true e⟩
theorem hasB_iff {S : List (List Nat)} {c : List Nat} : hasB S c = true ↔ ∃ k ∈ S, ∀ x ∈ k, x ∈ c := by
  unfold hasB
  rw [List.any_eq_true]
  exact ⟨fun ⟨k, hk, e⟩ => ⟨k, hk, hasAll_iff.mp e⟩, fun ⟨k, hk, e⟩ => ⟨k, hk, hasAll_iff.mpr e⟩⟩
theorem leastS_sub {p : List Nat → Bool} {acc : List (List Nat)} {c k : List Nat} (h : k ∈ acc) : k ∈ leastS p acc c := by
  unfold leastS
  split
  · exact List.mem_append_left _ h
  · exact h
theorem leastF_sub {p : List Nat → Bool} : ∀ (cs acc : List (List Nat)), ∀ k ∈ acc, k ∈ cs.foldl (leastS p) acc
  | [], acc, k, h => h
  | c :: cs, acc, k, h => leastF_sub cs _ k (leastS_sub h)
theorem leastF_has {p : List Nat → Bool} {c : List Nat} (hp : p c = true) : ∀ (cs acc : List (List Nat)), c ∈ cs → ∃ k ∈ cs.foldl (leastS p) acc, ∀ x ∈ k, x ∈ c
  | [], _, h => by cases h
  | d :: cs, acc, h => by
    rcases List.mem_cons.mp h with rfl | h
    · by_cases e : (acc.any fun k => hasAll c k) = true
      · obtain ⟨k, hk, q⟩ := List.any_eq_true.mp e
        exact ⟨k, leastF_sub cs (leastS p acc c) k (leastS_sub hk), hasAll_iff.mp q⟩
      · refine ⟨c, leastF_sub cs (leastS p acc c) c ?_, fun x hx => hx⟩
        unfold leastS
        rw [if_pos (by rw [Bool.eq_false_iff.mpr e, hp]; rfl)]
        exact List.mem_append_right _ (List.mem_singleton.mpr rfl)
    · exact leastF_has hp cs _ h
theorem least_has {n : Nat} {p : List Nat → Bool} {c : List Nat} (h : c ∈ allSets n) (hp : p c = true) : ∃ k ∈ leastP n p, ∀ x ∈ k, x ∈ c := leastF_has hp _ _ h
theorem leastF_pre {p : List Nat → Bool} : ∀ (cs acc : List (List Nat)), ∃ l, cs.foldl (leastS p) acc = acc ++ l ∧ l.Sublist cs
  | [], acc => ⟨[], by simp, .slnil⟩
  | c :: cs, acc => by
    obtain ⟨l, e, s⟩ := leastF_pre cs (leastS p acc c)
    rw [List.foldl_cons, e]
    unfold leastS
    split
    · exact ⟨c :: l, by rw [List.append_assoc]; rfl, s.cons_cons c⟩
    · exact ⟨l, rfl, s.cons c⟩
theorem leastP_sub {n : Nat} {p : List Nat → Bool} : (leastP n p).Sublist (allSets n) := by
  obtain ⟨l, e, s⟩ := leastF_pre (p := p) (allSets n) []
  unfold leastP
  rw [e]
  exact s
theorem leastF_anti {p : List Nat → Bool} : ∀ (cs acc : List (List Nat)), acc.Pairwise (fun a b => hasAll b a = false) → (cs.foldl (leastS p) acc).Pairwise (fun a b => hasAll b a = false)
  | [], acc, h => h
  | c :: cs, acc, h => by
    refine leastF_anti cs _ ?_
    unfold leastS
    split
    · rename_i hc
      have hn := (Bool.and_eq_true_iff.mp hc).1
      refine List.pairwise_append.mpr ⟨h, List.pairwise_singleton _ _, fun a ha b hb => ?_⟩
      rw [List.mem_singleton.mp hb]
      have : (acc.any fun k => hasAll c k) = false := by simpa using hn
      exact Bool.eq_false_iff.mpr (List.any_eq_false.mp this a ha)
    · exact h
def pairB : List (List Nat) → Bool
  | [] => true
  | a :: r => (r.all fun b => !hasAll a b && !leC b a) && pairB r
theorem pair_pw : ∀ {l : List (List Nat)}, pairB l = true → l.Pairwise fun a b => hasAll a b = false ∧ leC b a = false
  | [], _ => .nil
  | a :: r, h => by
    rw [pairB, Bool.and_eq_true] at h
    refine List.pairwise_cons.mpr ⟨fun b hb => ?_, pair_pw h.2⟩
    have := List.all_eq_true.mp h.1 b hb
    simpa using this
theorem all_pair : ∀ n, n < 8 → pairB (allSets n) = true := by decide +kernel
/-- no one of the least ones has another, each is ahead of those behind -/
theorem least_pw {n : Nat} {p : List Nat → Bool} (h : n ≤ 7) : (leastP n p).Pairwise fun a b => hasAll a b = false ∧ hasAll b a = false ∧ leC b a = false := by
  have h1 := (pair_pw (all_pair n (by omega))).sublist (leastP_sub (p := p))
  have h2 := leastF_anti (p := p) (allSets n) [] .nil
  exact (h1.and h2).imp fun ⟨⟨a, b⟩, c⟩ => ⟨a, c, b⟩
theorem least_ne {n : Nat} {p : List Nat → Bool} (h : n ≤ 7) {a b : List Nat} (ha : a ∈ leastP n p) (hb : b ∈ leastP n p) (e : b ≠ a) : hasAll a b = false := by
  obtain ⟨i, hi, rfl⟩ := List.mem_iff_getElem.mp ha
  obtain ⟨j, hj, rfl⟩ := List.mem_iff_getElem.mp hb
  have hne : i ≠ j := fun z => e (by subst z; rfl)
  have pw := List.pairwise_iff_getElem.mp (least_pw (p := p) h)
  rcases Nat.lt_or_gt_of_ne hne with l | l
  · exact (pw i j hi hj l).1
  · exact (pw j i hj hi l).2.1
theorem meets_mono {S : List (List Nat)} {c d : List Nat} (h : ∀ x ∈ c, x ∈ d) (m : meetsB S c = true) : meetsB S d = true := meetsB_iff.mpr fun k hk => by
  obtain ⟨x, h1, h2⟩ := meetsB_iff.mp m k hk
  exact ⟨x, h1, h x h2⟩
theorem rest_ok {n : Nat} {c : List Nat} : restOf n c ∈ allSets n := mem_allSets.mpr List.filter_sublist
theorem mem_rest {n x : Nat} {c : List Nat} : x ∈ restOf n c ↔ x < n ∧ x ∉ c := by
  unfold restOf
  rw [List.mem_filter, List.mem_range]
  simp
section
variable {W : Wk} {ls : List Lk}
theorem has_clash {d : List Nat} (hd : d ∈ allSets W.parts.length) : hasB (clashOf W ls) d = meetsB (setsOf W ls) d := by
  rw [Bool.eq_iff_iff, hasB_iff]
  constructor
  · rintro ⟨k, hk, e⟩
    exact meets_mono e (leastP_mem hk).2
  · exact fun h => least_has hd h
theorem sets_meet {d : List Nat} (h : hasB (setsOf W ls) d = true) : meetsB (clashOf W ls) d = true := meetsB_iff.mpr fun c hc => by
  obtain ⟨s, hs, e⟩ := hasB_iff.mp h
  obtain ⟨x, h1, h2⟩ := meetsB_iff.mp (leastP_mem hc).2 s hs
  exact ⟨x, h2, e x h1⟩
theorem has_sets {d : List Nat} (hd : d ∈ allSets W.parts.length) : hasB (setsOf W ls) d = meetsB (clashOf W ls) d := by
  cases h : hasB (setsOf W ls) d with
  | true => exact (sets_meet h).symm
  | false =>
    have m : meetsB (setsOf W ls) (restOf W.parts.length d) = true := meetsB_iff.mpr fun s hs => by
      have hn : ¬ ∀ x ∈ s, x ∈ d := fun z => by
        have := hasB_iff.mpr ⟨s, hs, z⟩
        rw [h] at this
        cases this
      have hx : ∃ x ∈ s, x ∉ d := Classical.byContradiction fun z => hn fun x hx => Classical.byContradiction fun y => z ⟨x, hx, y⟩
      obtain ⟨x, h1, h2⟩ := hx
      exact ⟨x, h1, mem_rest.mpr ⟨(allSets_ok (leastP_mem hs).1).1 x h1, h2⟩⟩
    obtain ⟨k, hk, e⟩ := least_has (p := meetsB (setsOf W ls)) rest_ok m
    refine (Bool.eq_false_iff.mpr fun z => ?_).symm
    obtain ⟨x, h1, h2⟩ := meetsB_iff.mp z k hk
    exact (mem_rest.mp (e x h1)).2 h2
theorem set_meets {s : List Nat} (h : s ∈ setsOf W ls) : meetsB (clashOf W ls) s = true := sets_meet (hasB_iff.mpr ⟨s, h, fun x hx => hx⟩)
theorem clash_rest {c : List Nat} (h : c ∈ clashOf W ls) : roomsB W ls (restOf W.parts.length c) = false := Bool.eq_false_iff.mpr fun z => by
  obtain ⟨s, hs, e⟩ := least_has (p := roomsB W ls) rest_ok z
  obtain ⟨x, h1, h2⟩ := meetsB_iff.mp (leastP_mem h).2 s hs
  exact (mem_rest.mp (e x h1)).2 h2
end
end DL

namespace DL
open PySem PySem.Spec PySem.W PyProof.Rows L2
variable [Lam]
theorem any_emptyG {α : Type} {cs : List α} {f : α → PD} {q : α → Bool} : PyData.eqv (.list ((cs.filter q).map f)) (.list []) = !cs.any q := by
  cases e : cs.filter q with
  | nil =>
    have h : cs.any q = false := List.any_eq_false.mpr fun x hx => List.filter_eq_nil_iff.mp e x hx
    rw [h]
    simp [PyData.eqv, PyData.eqvAll]
  | cons y ys =>
    have hy : y ∈ cs.filter q := by rw [e]; exact List.mem_cons_self
    have h : cs.any q = true := List.any_eq_true.mpr ⟨y, (List.mem_filter.mp hy).1, (List.mem_filter.mp hy).2⟩
    rw [h]
    simp [PyData.eqv, PyData.eqvAll]
theorem pl_sets (cs : List (List Nat)) : Pl 2 (setsD cs) := pl_list fun d hd => by
  obtain ⟨x, _, rfl⟩ := List.mem_map.mp hd
  exact pl_rowT x
theorem sets_ok {W : Wk} {ls : List Lk} (h : W.parts.length ≤ 7) : ∀ c ∈ setsOf W ls, c.length ≤ 1000 := fun c hc => by
  have := (allSets_ok (leastP_mem hc).1).2.2
  omega
theorem sh_bool {b : Bool} : SeqAt.shaped (PyData.bool b) = true := Pl.shaped (n := 0) ⟨by simp only [PyData.canLay0], by simp only [PyData.depth]; omega⟩ (by decide)
theorem ne_bool (b : Bool) : (!PyData.eqv (.bool b) (.bool b)) = false := by cases b <;> simp [PyData.eqv]
/-! ### for, over a list of one's own that the body leaves alone -/
section
variable {K : PySem.W.Frag} {B Ho H H2o H2 : Hp} {σ σ2 : L2.St} {en : En} {j : Nat} {p : Addr} {vs : List V} {ds : List PD}
theorem Fit.lock (f : Fit K B Ho Ho H σ en) (h : en[j]? = some (some (.o (.list ds)))) (e : σ[j]? = some (some (.ref p))) (n1 : Ho p = none) (n2 : B p = none) (eo : H p = some (.lst vs)) : Fit K (upd B p (.lst vs)) Ho Ho H σ (en.set j (some (.v (adD p)))) := by
  refine ⟨f.bo.trans (same_new n2), ⟨fun a u ea => ?_⟩, f.boh, f.hoh, fun _ _ => rfl, f.tb, by rw [List.length_set]; exact f.len, fun i s ei => ?_, fun i k {_ _} d1 d2 q e1 e2 e3 e4 => ?_⟩
  · by_cases h : a = p
    · subst h; rw [upd_same] at ea; cases ea; exact ⟨_, eo, .refl _⟩
    · rw [upd_ne h] at ea; exact f.bh.ex _ _ ea
  · rcases get_set ei with ⟨rfl, e5⟩ | ⟨n, e5⟩
    · cases e5
      exact ⟨_, e, .adr p⟩
    · have q := f.sl i s e5
      cases s with
      | v d1 => exact q
      | w l1 d1 =>
        obtain ⟨p1, a, b1, b2, w1⟩ := q
        have np : p1 ≠ p := fun z => by
          subst z
          exact n (f.dj j i _ _ _ h e5 e a)
        exact ⟨p1, a, b1, (upd_ne np).trans b2, w1⟩
  · rcases get_set e1 with ⟨_, z⟩ | ⟨n1, e1⟩
    · cases z
    rcases get_set e2 with ⟨_, z⟩ | ⟨n2, e2⟩
    · cases z
    exact f.dj i k d1 d2 q e1 e2 e3 e4
theorem Fit.unlock {en2 : En} (bo : Same Ho B) (g : Fit K (upd B p (.lst vs)) Ho H2o H2 σ2 (en2.set j (some (.v (adD p))))) (h : en2[j]? = some (some (.o (.list ds)))) (n1 : Ho p = none) (n2 : B p = none) (r : RpA K Ho vs ds) : Fit K B Ho H2o H2 σ2 en2 := by
  have ep : H2 p = some (.lst vs) := g.bh.at _ _ upd_same
  have hlt : j < en2.length := (List.getElem?_eq_some_iff.mp h).1
  have es : σ2[j]? = some (some (.ref p)) := by
    obtain ⟨v, e, rv⟩ := g.sl j (.v (adD p)) (by rw [List.getElem?_set_self hlt])
    rw [rv.ad_inv] at e
    exact e
  have no : H2o p = none := (g.fr p (by rw [upd_same]; intro z; cases z)).trans n1
  have oth : ∀ (i : Nat) (s : Sl), i ≠ j → en2[i]? = some (some s) → SlOk K (upd B p (.lst vs)) H2o H2 σ2[i]? s := fun i s hn e => g.sl i s (by rw [List.getElem?_set_ne (fun z => hn z.symm)]; exact e)
  have far : ∀ (i : Nat) {l1 : Option Addr} (d : PD), i ≠ j → en2[i]? = some (some (.w l1 d)) → σ2[i]? ≠ some (some (.ref p)) := fun i {l1} d hn e z => by
    obtain ⟨p1, a, b1, b2, w1⟩ := oth i _ hn e
    rw [z] at a
    cases a
    rw [upd_same] at b2
    cases b2
  refine ⟨bo, ⟨fun a u ea => ?_⟩, g.boh, g.hoh, fun a ha => ?_, g.tb, by rw [g.len, List.length_set], fun i s ei => ?_, fun i k {_ _} d1 d2 q e1 e2 e3 e4 => ?_⟩
  · have hn : a ≠ p := fun z => by subst z; rw [n2] at ea; cases ea
    exact g.bh.ex a u ((upd_ne hn).trans ea)
  · have hn : a ≠ p := fun z => by subst z; exact ha n2
    exact g.fr a (by rw [upd_ne hn]; exact ha)
  · by_cases hn : i = j
    · subst hn
      rw [h] at ei
      cases ei
      exact ⟨p, es, no, n2, ⟨vs, ep, r.mono g.boh⟩, trivial⟩
    · have q := oth i s hn ei
      cases s with
      | v d => exact q
      | w l1 d =>
        obtain ⟨p1, a, b1, b2, w1⟩ := q
        have np : p1 ≠ p := fun z => by subst z; rw [upd_same] at b2; cases b2
        rw [upd_ne np] at b2
        exact ⟨p1, a, b1, b2, w1⟩
  · by_cases hi : i = j
    · by_cases hk : k = j
      · rw [hi, hk]
      · subst hi
        rw [es] at e3
        cases e3
        exact absurd e4 (far k d2 hk e2)
    · by_cases hk : k = j
      · subst hk
        rw [es] at e4
        cases e4
        exact absurd e3 (far i d1 hi e1)
      · exact g.dj i k d1 d2 q (by rw [List.getElem?_set_ne (fun z => hi z.symm)]; exact e1) (by rw [List.getElem?_set_ne (fun z => hk z.symm)]; exact e2) e3 e4
theorem Fit.bare (bo : Same Ho B) (g : Fit K (upd B p (.lst vs)) Ho H2o H2 σ2 en) (n2 : B p = none) : Fit K B Ho H2o H2 σ2 (List.replicate en.length none) := by
  refine ⟨bo, ⟨fun a u ea => ?_⟩, g.boh, g.hoh, fun a ha => ?_, g.tb, by rw [List.length_replicate]; exact g.len, fun i s ei => ?_, fun i k {_ _} d1 d2 q e1 e2 e3 e4 => ?_⟩
  · have hn : a ≠ p := fun z => by subst z; rw [n2] at ea; cases ea
    exact g.bh.ex a u ((upd_ne hn).trans ea)
  · have hn : a ≠ p := fun z => by subst z; exact ha n2
    exact g.fr a (by rw [upd_ne hn]; exact ha)
  · rw [List.getElem?_replicate] at ei
    split at ei <;> cases ei
  · rw [List.getElem?_replicate] at e1
    split at e1 <;> cases e1
theorem unlockG {H3o H3 : Hp} (n2 : B p = none) (g : Gr Ho (upd B p (.lst vs)) H3o H3) : Gr Ho B H3o H3 := by
  refine ⟨⟨fun a u ea => ?_⟩, g.o, g.s, fun a ha => ?_, fun t => g.tb (tb_new n2 t)⟩
  · have hn : a ≠ p := fun z => by subst z; rw [n2] at ea; cases ea
    exact g.h.ex a u ((upd_ne hn).trans ea)
  · have hn : a ≠ p := fun z => by subst z; exact ha n2
    exact g.fr a (by rw [upd_ne hn]; exact ha)
theorem unlockR {k : Kd} {H3o H3 : Hp} {v : V} {d : PD} (n2 : B p = none) (h : Rs K k (upd B p (.lst vs)) H3o H3 v d) : Rs K k B H3o H3 v d := by
  cases k with
  | o =>
    obtain ⟨p', e, n, r⟩ := h
    refine ⟨p', e, ?_, r⟩
    by_cases hn : p' = p
    · subst hn; exact n2
    · rw [upd_ne hn] at n; exact n
  | _ => exact h
end
theorem ds_forO {X : Cx} {en : En} {tg : Expr} {body : List Stmt} {P : Po} {pos npos : Pos} {y : Str} {α : Type} (j : Nat) (xs : List α) (c : α → PD) (I : Nat → En) (hj : en[j]? = some (some (.o (.list (xs.map c))))) (hI : ∀ i, (I i)[j]? = some (some (.o (.list (xs.map c))))) (h0 : Lee (I 0) en)
    (hb : ∀ (i : Nat) (x : α), xs[i]? = some x → ∀ p : Addr, ∃ is en', DG X ((I i).set j (some (.v (adD p)))) tg (c x) is en' ∧ DSs X en' body { P with nx := Lee ((I (i + 1)).set j (some (.v (adD p)))), ct := Lee ((I (i + 1)).set j (some (.v (adD p)))), bk := fun _ => False })
    (hd : P.nx (I xs.length)) (hre : ∀ d en, P.re d en := by intro _ _; exact trivial) (hN : X.N[j]? = some y := by kernel_rfl) (hv : visB X.env.scope y = true := by kernel_rfl)
    (hdb : (y == ("__debug__" : Str)) = false := by kernel_rfl) (hcd : (y == ("__classdict__" : Str)) = false := by kernel_rfl)
    (hp : PassesOwn (model X.prog X.w) X.A X.env X.xe := by exact PassesOwn.never) (hc : X.calm = true := by kernel_rfl) (hs : ∀ x, foldedSetIterable (.Name y npos) X.env x = pure x := by intro _; rfl) : DS X en (.For tg (.Name y npos) body [] pos) P := fun B Bo Ho H σ f D t => by
  refine wS_of (ps_for hp hc (pi_list (pe_var hN (vis_of hv) hdb hcd)) pg_w pss_w hs) ?_
  obtain ⟨p, e1, n1, n2, vs, eo, r⟩ := f.own hj
  have fb := f.rebase
  have n3 : both B Ho p = none := by unfold both; rw [n2]; exact n1
  have fl := (fb.less h0).lock (hI 0) e1 n1 n3 eo
  refine ⟨_, e1, p, rfl, ⟨vs, .inl (.inl eo)⟩, ?_⟩
  refine ⟨fun i m σ2 H2 => ∃ H2o, m = xs.length - i ∧ i ≤ xs.length ∧ Fit X.K (upd (both B Ho) p (.lst vs)) Ho H2o H2 σ2 ((I i).set j (some (.v (adD p)))), ⟨xs.length, Ho, by simp, Nat.zero_le _, fl⟩, ?_⟩
  rintro i m σ2 H2 ⟨H2o, rfl, hle, f2⟩
  have back : ∀ {σ' Ho' H' en'}, en'[j]? = some (some (.o (.list (xs.map c)))) → Fit X.K (upd (both B Ho) p (.lst vs)) Ho Ho' H' σ' (en'.set j (some (.v (adD p)))) → Fit X.K B Bo Ho' H' σ' en' := fun h g => f.unbase (g.unlock fb.bo h n1 n3 r)
  have hq : SqL X.K H2 p vs := .inl (.inl (f2.bh.at _ _ upd_same))
  by_cases hlt : i < xs.length
  · have hx := List.getElem?_eq_getElem hlt
    obtain ⟨v, hv1, rv⟩ := r.get (i := i) (d := c xs[i]) (by rw [List.getElem?_map, hx]; rfl)
    obtain ⟨is, en', dg, db⟩ := hb i _ hx p
    refine .inr ⟨⟨vs, v, hq, hv1⟩, fun σ' H' => ∃ Ho', Fit X.K (upd (both B Ho) p (.lst vs)) Ho Ho' H' σ' ((I (i + 1)).set j (some (.v (adD p)))), fun σ' H' ⟨Ho', f'⟩ => ⟨_, by omega, Ho', rfl, hlt, f'⟩, fun x H3 y => ?_⟩
    obtain ⟨rfl, y⟩ := y
    have := (y vs hq).symm.trans hv1
    cases this
    refine dg _ _ _ _ _ f2 _ (rv.mono f2.boh) _ fun σ3 _ f3 => ?_
    refine db _ _ _ _ _ f3 _ ⟨fun σ' Ho' H' en' n f' => ⟨Ho', f'.less n⟩, fun v d σ' Ho' H' en' n _ g' r => t.rt v d σ' Ho' H' _ n (hre _ _) (f.unbase (g'.bare fb.bo n3)) (unlockR n3 r).unbase, fun _ _ _ _ z => z.elim, fun σ' Ho' H' en' n f' => ⟨Ho', f'.less n⟩⟩
  · have e : i = xs.length := by omega
    subst e
    exact .inl ⟨⟨vs, hq, by rw [r.len, List.length_map]; exact Nat.le_refl _⟩, t.nx σ2 H2o H2 _ hd (back (hI _) f2)⟩
end DL

namespace DL
open PySem PySem.Spec PyProof.Rows L2 HotX
/-! ### the ends of walks while an exception is handled -/
section
variable {P : Program} {w : World} {A : Around} {E : Value → Shared → Prop} {s : Shared}
theorem list_end_hot {it l x1 : Addr} {i : Nat} {items : Array Value} {Q : Option Value → Shared → Prop} (hot : HotAt A x1 s.heap) (hn : x1 ≠ it) (ki : s.heap.IsListIter it l i) (kl : s.heap.IsList l items) (hx : items[i]? = none)
    (hQ : ∀ h', Heap.ExtBut it s.heap h' → Q none { s with heap := h' }) : wpAny (model P w) A (pyNext (.ref it)) Q E s := by
  obtain ⟨u, hu, cu, du⟩ := id ki
  obtain ⟨ul, hul, _, nl, dl⟩ := kl
  obtain ⟨hh, o1, vs1, h1, d1, c1⟩ := hot
  unfold pyNext
  refine wpAny_bind (wpAny_attempt (wpAny_callSpecial?_slot (name := "__next__") ki.typeIs slot_listiter_next (wpAny_call_entry slot_listiter_next ki.typeIs entry_listiter_next ?_ (args_listiter_next _))))
  show wpAny _ _ (field (.ref it) 0 >>= _) _ _ s
  refine wpAny_bind (wpAny_field hu du (x := .ref l) rfl ?_)
  show wpAny _ _ (if (Value.ref l == Value.none) = true then _ else _) _ _ s
  rw [if_neg (show ¬ (Value.ref l == Value.none) = true from nofun)]
  show wpAny _ _ (field (.ref it) 1 >>= _) _ _ s
  refine wpAny_bind (wpAny_field hu du (x := .int i 0) rfl ?_)
  show wpAny _ _ (seqItems? (.ref l) >>= _) _ _ s
  refine wpAny_bind (wpAny_seqItems hul dl ?_)
  simp only [Int.toNat_natCast, hx]
  refine wpAny_bind (wpAny_rule (wpAny_bind (wpAny_setField hu du (by simp) ?_)))
  show wpAny _ _ (newExc (.type "StopIteration") [] >>= _) _ _ _
  have g1 : (s.heap.update it (Obj.mapFields (·.setIfInBounds 0 .none))).get? x1 = some o1 := by rw [Heap.get?_update_other _ _ (fun z => hn z.symm)]; exact h1
  refine wpAny_bind ?_
  simp only [newExc, newTuple]
  refine wpAny_bind (wpAny_newObj_type ?_ (by size_fits))
  refine wpAny_bind (m := firstArgMember _ _) (wpAny_of_eq (a := Value.none) (by simp only [firstArgMember]; rfl) ?_)
  refine wpAny_newObj_type ?_ (by size_fits)
  refine raiseNew_hot ⟨hh, o1, vs1, Heap.get?_push_of_some _ (Heap.get?_push_of_some _ g1), d1, c1⟩ (Nat.ne_of_lt (Heap.lt_size (Heap.get?_push_of_some _ g1))) (Heap.get?_push_size _ rfl) rfl (by first | (simp; done) | (simp; omega) | (simp only [Array.size_append]; simp; omega)) ?_
  refine wpAny_bind (wpAny_isInstance (T := "StopIteration") (b := true) ⟨_, Heap.get?_update_self _ (Heap.get?_push_size _ rfl) rfl, rfl⟩ isSubtype_stop ?_)
  refine wpAny_pure (hQ _ fun b o hb e => ?_)
  have g2 : (s.heap.update it (Obj.mapFields (·.setIfInBounds 0 .none))).get? b = some o := by rw [Heap.get?_update_other _ _ (fun z => hb z.symm)]; exact e
  have g3 := Heap.get?_push_of_some { cls := .type "tuple", data := .seq #[] } g2
  rw [Heap.get?_update_other _ _ (Nat.ne_of_gt (Heap.lt_size g3))]
  exact Heap.get?_push_of_some _ g3
theorem tuple_end_hot {it l x1 : Addr} {i : Nat} {items : Array Value} {Q : Option Value → Shared → Prop} (hot : HotAt A x1 s.heap) (hn : x1 ≠ it) (ki : IsTupIter s.heap it l i) (kl : IsTup s.heap l items) (hx : items[i]? = none)
    (hQ : ∀ h', Heap.ExtBut it s.heap h' → Q none { s with heap := h' }) : wpAny (model P w) A (pyNext (.ref it)) Q E s := by
  obtain ⟨u, hu, cu, du⟩ := id ki
  obtain ⟨ul, hul, _, nl, dl⟩ := kl
  obtain ⟨hh, o1, vs1, h1, d1, c1⟩ := hot
  unfold pyNext
  refine wpAny_bind (wpAny_attempt (wpAny_callSpecial?_slot (name := "__next__") ki.typeIs slot_tupleiter_next (wpAny_call_entry slot_tupleiter_next ki.typeIs entry_tupleiter_next ?_ (args_tupleiter_next _))))
  show wpAny _ _ (field (.ref it) 0 >>= _) _ _ s
  refine wpAny_bind (wpAny_field hu du (x := .ref l) rfl ?_)
  show wpAny _ _ (if (Value.ref l == Value.none) = true then _ else _) _ _ s
  rw [if_neg (show ¬ (Value.ref l == Value.none) = true from nofun)]
  show wpAny _ _ (field (.ref it) 1 >>= _) _ _ s
  refine wpAny_bind (wpAny_field hu du (x := .int i 0) rfl ?_)
  show wpAny _ _ (seqItems? (.ref l) >>= _) _ _ s
  refine wpAny_bind (wpAny_seqItems hul dl ?_)
  simp only [Int.toNat_natCast, hx]
  refine wpAny_bind (wpAny_rule (wpAny_bind (wpAny_setField hu du (by simp) ?_)))
  show wpAny _ _ (newExc (.type "StopIteration") [] >>= _) _ _ _
  have g1 : (s.heap.update it (Obj.mapFields (·.setIfInBounds 0 .none))).get? x1 = some o1 := by rw [Heap.get?_update_other _ _ (fun z => hn z.symm)]; exact h1
  refine wpAny_bind ?_
  simp only [newExc, newTuple]
  refine wpAny_bind (wpAny_newObj_type ?_ (by size_fits))
  refine wpAny_bind (m := firstArgMember _ _) (wpAny_of_eq (a := Value.none) (by simp only [firstArgMember]; rfl) ?_)
  refine wpAny_newObj_type ?_ (by size_fits)
  refine raiseNew_hot ⟨hh, o1, vs1, Heap.get?_push_of_some _ (Heap.get?_push_of_some _ g1), d1, c1⟩ (Nat.ne_of_lt (Heap.lt_size (Heap.get?_push_of_some _ g1))) (Heap.get?_push_size _ rfl) rfl (by first | (simp; done) | (simp; omega) | (simp only [Array.size_append]; simp; omega)) ?_
  refine wpAny_bind (wpAny_isInstance (T := "StopIteration") (b := true) ⟨_, Heap.get?_update_self _ (Heap.get?_push_size _ rfl) rfl, rfl⟩ isSubtype_stop ?_)
  refine wpAny_pure (hQ _ fun b o hb e => ?_)
  have g2 : (s.heap.update it (Obj.mapFields (·.setIfInBounds 0 .none))).get? b = some o := by rw [Heap.get?_update_other _ _ (fun z => hb z.symm)]; exact e
  have g3 := Heap.get?_push_of_some { cls := .type "tuple", data := .seq #[] } g2
  rw [Heap.get?_update_other _ _ (Nat.ne_of_gt (Heap.lt_size g3))]
  exact Heap.get?_push_of_some _ g3
theorem hot_keeps {x1 : Addr} {h h' : Heap} (hot : HotAt A x1 h) (k : ∀ b o, h.get? b = some o → h'.get? b = some o) : HotAt A x1 h' := by
  obtain ⟨hh, o1, vs1, h1, d1, c1⟩ := hot
  exact ⟨hh, o1, vs1, k _ _ h1, d1, c1⟩
theorem hot_lt {x1 : Addr} {h : Heap} (hot : HotAt A x1 h) : x1 < h.objs.size := by
  obtain ⟨hh, o1, vs1, h1, d1, c1⟩ := hot
  exact Heap.lt_size h1
/-- (a, b) = t, while an exception is handled -/
theorem unpack_hot {t x1 : Addr} {items : Array Value} {tgs : List (Bool × (Value → Sem Unit))} {Q : Unit → Shared → Prop} (hot : HotAt A x1 s.heap) (ht : IsTup s.heap t items) (hn : tgs.length = items.size) (hs : tgs.findIdx? (·.1) = none)
    (h : ∀ h', Heap.ExtBut s.heap.objs.size s.heap h' → wpAny (model P w) A (assignInOrder (tgs.map (·.2)) items.toList) Q E { s with heap := h' }) : wpAny (model P w) A (unpack (.ref t) tgs) Q E s := by
  have lt : t ≠ s.heap.objs.size := by obtain ⟨u, e, _⟩ := ht; exact Nat.ne_of_lt (Heap.lt_size e)
  have lx : x1 ≠ s.heap.objs.size := Nat.ne_of_lt (hot_lt hot)
  unfold unpack
  rw [hn, hs]
  refine wpAny_bind (wpAny_holding ?_)
  unfold unpackItems
  refine wpAny_bind ?_
  unfold notIterableAtAll
  refine wpAny_bind (wpAny_specialOf ht.typeIs slot_tuple_iter.lookup (wpAny_pure ?_))
  simp only [Bool.false_eq_true, if_false]
  refine wpAny_bind (wpAny_holding (iter_tuple ht (wpAny_bind (wpAny_holding (draw_tuple lt items.size 0 _ _ ⟨_, Heap.get?_push_size _ rfl, rfl, rfl⟩ (ht.push _) (by omega) fun h1 k1 s1 => ?_)))))
  rw [show List.take items.size (List.drop 0 items.toList) = items.toList from by rw [List.drop_zero]; exact List.take_of_length_le (by simp)]
  rw [if_neg (by simp)]
  have hot1 : HotAt A x1 h1 := by
    obtain ⟨hh, o1, vs1, e1, d1, c1⟩ := hot
    exact ⟨hh, o1, vs1, s1.extBut _ _ lx (Heap.get?_push_of_some _ e1), d1, c1⟩
  refine wpAny_bind (wpAny_holding (tuple_end_hot (s := { s with heap := h1 }) hot1 lx k1 ((ht.push _).extBut s1.extBut lt) (by simp) fun h2 e2 => ?_))
  simp only [Option.isSome_none, Bool.false_eq_true, if_false]
  exact wpAny_pure (h h2 fun b o hb e => e2 b o hb (s1.extBut b o hb (Heap.get?_push_of_some _ e)))
end
section
variable {X : Cx}
open L2H
theorem pg_tupH {es : List Expr} {k n : Nat} {t : TGs} {pos : Pos} (hc : HotC X) (h : PGs X es t) (hn : (assignEach es X.env).length = n := by rfl) (hs : (assignEach es X.env).findIdx? (·.1) = none := by rfl) : PG X (.Tuple es k pos) (gTup X.K n t) := by
  refine ⟨fun pins s σ H v u Q I r hw => ?_⟩
  obtain ⟨a, xs, rfl, hq, hl, hw⟩ := hw
  cases r
  obtain ⟨its, rv, ht, hz⟩ := I.tuple hq
  obtain ⟨x1, hot⟩ := hc.at I
  rw [assign_Tuple]
  refine wpAny_bind (wpAny_standAt (unpack_hot hot ht (by simp [hn, ← hl, rv.length]) hs fun h' hx => ?_))
  exact h.run pins _ σ H xs _ Q (I.kept (t' := s.toks) fun b o e => hx b o (Nat.ne_of_lt (Heap.lt_size e)) e) (by simpa using rv) hw
end
end DL

namespace DL
open PySem PySem.Spec PyProof.Rows L2 L2H HotX
/-! ### [elt for tg in a list if ..], while an exception is handled -/
abbrev blkH (X : Cx) (s : Shared) (H : Hp) (scope : Scope) (ce : Env) (fp : List Addr) : Cx := { X.blk s H scope ce fp with pn := X.pn }
section
variable {X : Cx}
theorem inv_blkH {s0 s1 : Shared} {H0 H1 : Hp} {scope : Scope} {ce : Env} {fp : List Addr} {pl : List (Addr × Obj)} {σ : L2.St} (J : Inv (X.blk s0 H0 scope ce fp) pl σ H1 s1) (h : ∀ p ∈ X.pn ++ pl, s1.heap.get? p.1 = some p.2 ∧ H1 p.1 = none ∧ p.1 ≠ ce.locals ∧ p.1 ∉ frs X.stack ∧ ∀ v, p.2.data ≠ .cell v) :
    Inv (blkH X s0 H0 scope ce fp) pl σ H1 s1 :=
  { ok := { mod := J.ok.mod, kind := J.ok.kind, glob := J.ok.glob, blt := J.ok.blt, above := J.ok.above, inj := J.ok.inj, has := J.ok.has, cab := J.ok.cab, hd := J.ok.hd, frames := J.ok.frames, stk := J.ok.stk, exf := J.ok.exf, bs := J.ok.bs, bsz := J.ok.bsz, noex := J.ok.noex, exfs := J.ok.exfs, funs := J.ok.funs, frf := J.ok.frf }
    os := J.os, bare := J.bare, base := J.base, loc := J.loc, cell := J.cell, free := J.free, freeC := J.freeC, pin := h, hok := J.hok, len := J.len }
theorem lcH_core {pins : List (Addr × Obj)} {s : Shared} {σ : L2.St} {H : Hp} {Q : VK} {elt tg iter : Expr} {ifs : List Expr} {scope : Scope} {own : List (Str × Nat)} {pos ps2 : Pos} {tl : TE} {g : TG} {tt : TT} {te : TE} {us : Option (Value → Sem Unit)} {Qz : Value → Shared → Prop} (hc : HotC X) (hN : X.N.Nodup) (I : Inv X pins σ H s) (hi : PE X iter tl)
    (ok : BlkOk X.N X.env.scope scope own)
    (hg : ∀ (s : Shared) (H : Hp) (C : Addr) (cl : List (Str × Addr)) (fp : List Addr), PG (blkH X s H scope (compEnvC scope cl C X.env) fp) tg g)
    (ht : ∀ (s : Shared) (H : Hp) (C : Addr) (cl : List (Str × Addr)) (fp : List Addr), PTs (blkH X s H scope (compEnvC scope cl C X.env) fp) ifs tt)
    (he : ∀ (s : Shared) (H : Hp) (C : Addr) (cl : List (Str × Addr)) (fp : List Addr), PE (blkH X s H scope (compEnvC scope cl C X.env) fp) elt te) (hs : ∀ x, foldedSetIterable iter X.env x = pure x)
    (h : tLc (iList X.K tl) g tt te (own.map (·.2)) σ H Q)
    (fin : ∀ D C s' m H', Inv X pins σ H' s' → Q (.ref D) H' → s'.heap.Ns C m → FpOk X pins H' C → compPost (model X.prog X.w) X.A X.xe us Qz (.ref D) C (.ok .next) s') :
    wpAny (model X.prog X.w) X.A (comprehension (.ListComp elt [⟨tg, iter, ifs, 0⟩] scope pos) scope X.env ps2 (newList []) false (eval iter X.env) us) Qz X.xe s := by
  obtain ⟨px, ⟨hh, vx, dx, cx⟩, hpx⟩ := hc
  have fr : ∀ y ∈ scope.names, y.2 = .free → ∃ c, X.env.cells.lookup y.1 = some c := fun y hy e => (ok.free y hy e).elim (fun z => I.ok.has _ (.inl z)) fun z => I.ok.has _ (.inr z)
  refine wpAny_comprehension_free (use := us) rfl hs (closure_ok fr) ok.kind (fun y hy e => by rw [ok.uniq y hy, e]) (thn (hi.run pins s σ H _ I h) fun xv s1 hx => ?_)
  obtain ⟨x, H1, I1, r1, a, rfl, ⟨ys, hq⟩, q⟩ := hx
  cases r1
  obtain ⟨is0, rv0, pl0, hz0⟩ := I1.list hq
  have key : wpAny (model X.prog X.w) X.A (pyIter (.ref a)) (fun iv s2 => ∃ it, iv = .ref it ∧ Inv X pins σ H1 s2 ∧ s2.heap.IsListIter it a 0 ∧ FpOk X pins H1 it ∧ it < s2.heap.objs.size) X.xe s1 := by
    refine wpAny_pyIter_list pl0.isList ⟨_, rfl, I1.kept (t' := s1.toks) fun b o e => Heap.get?_push_of_some _ e, ⟨_, Heap.get?_push_size _ rfl, rfl, rfl⟩, I1.fpOk (Nat.le_refl _) (I1.hok.fresh (Nat.le_refl _)), ?_⟩
    rw [Heap.size_push]
    exact Nat.lt_succ_self _
  refine thn key fun iv s2 hk => ?_
  obtain ⟨it, rfl, I2, li, f2, lt2⟩ := hk
  refine wpAny_newObj_type (newEnv_comp ?_) (by show 0 ≤ sizeLine; decide)
  have dn : H1 s2.heap.objs.size = none := I2.hok.fresh (Nat.le_refl _)
  obtain ⟨W, ⟨m0, w0⟩, turn⟩ := q _ dn
  generalize e3 : ({ s2 with heap := s2.heap.push { cls := .type "list", data := .seq ([] : List Value).toArray } } : Shared) = s3
  have h3 : s3.heap = s2.heap.push { cls := .type "list", data := .seq ([] : List Value).toArray } := by rw [← e3]
  have k3 : ∀ b o, s2.heap.get? b = some o → s3.heap.get? b = some o := fun b o e => by rw [h3]; exact Heap.get?_push_of_some _ e
  have I3 : Inv X pins σ (upd H1 s2.heap.objs.size (.lst [])) s3 := by
    rw [← e3]
    exact I2.laid (t' := s2.toks) (fun b o e => Heap.get?_push_of_some _ e) (Nat.le_refl _) ⟨Nat.zero_le _, [], 0, .nil, Heap.get?_push_size _ rfl⟩
  have lt3 : it < s3.heap.objs.size := by rw [h3, Heap.size_push]; exact Nat.lt_succ_of_lt lt2
  have f3 : FpOk X pins (upd H1 s2.heap.objs.size (.lst [])) it := ⟨by rw [upd_ne (Nat.ne_of_lt lt2)]; exact f2.1, f2.2⟩
  have I4 := block_start (fp := [it]) I3 ok hN fun b hb => by rw [List.mem_singleton.mp hb]; exact ⟨f3, lt3⟩
  have pg := hg s3 (upd H1 s2.heap.objs.size (.lst [])) s3.heap.objs.size (cellsFrom (s3.heap.objs.size + 1) scope.names (cloFrom X.env.cells scope.names [])) [it]
  have pt := ht s3 (upd H1 s2.heap.objs.size (.lst [])) s3.heap.objs.size (cellsFrom (s3.heap.objs.size + 1) scope.names (cloFrom X.env.cells scope.names [])) [it]
  have pe := he s3 (upd H1 s2.heap.objs.size (.lst [])) s3.heap.objs.size (cellsFrom (s3.heap.objs.size + 1) scope.names (cloFrom X.env.cells scope.names [])) [it]
  have lp := I3.pin px (List.mem_append_left _ hpx)
  have np : px.1 ≠ it := f3.2.2.2.2.2 px (List.mem_append_left _ hpx)
  show codeAny _ _ (.compStart (.ListComp elt [⟨tg, iter, ifs, 0⟩] scope pos) 0 (.ref it) (.ref s2.heap.objs.size) (compEnvC scope (cellsFrom (s3.heap.objs.size + 1) scope.names (cloFrom X.env.cells scope.names [])) s3.heap.objs.size X.env)) (compPost (model X.prog X.w) X.A X.xe us Qz (.ref s2.heap.objs.size) s3.heap.objs.size) { s3 with heap := pushCells (s3.heap.push { cls := .type "dict", data := .dict #[] }) scope.names }
  generalize ec : compEnvC scope (cellsFrom (s3.heap.objs.size + 1) scope.names (cloFrom X.env.cells scope.names [])) s3.heap.objs.size X.env = ce at I4 pg pt pe ⊢
  have cl : ce.locals = s3.heap.objs.size := by subst ec; rfl
  generalize eH : upd H1 s2.heap.objs.size (.lst []) = H3 at I3 I4 pg pt pe w0 f3 lp
  generalize e4 : ({ s3 with heap := pushCells (s3.heap.push { cls := .type "dict", data := .dict #[] }) scope.names } : Shared) = s4 at I4 ⊢
  have k4 : ∀ b o, s3.heap.get? b = some o → s4.heap.get? b = some o := fun b o e => by rw [← e4]; exact pushCells_keeps _ _ _ _ (Heap.get?_push_of_some _ e)
  have J4 : Inv (blkH X s3 H3 scope ce [it]) [] (L2.wipe σ (own.map (·.2))) H3 s4 := inv_blkH I4 fun p hp => by
    have hp2 : p ∈ X.pn ++ pins := List.mem_append_left _ (by simpa using hp)
    obtain ⟨a1, a2, a3, a4, a5⟩ := I3.pin p hp2
    refine ⟨k4 _ _ a1, a2, fun z => ?_, fun z => ?_, a5⟩
    · rw [cl] at z
      exact absurd (Heap.lt_size a1) (by rw [z]; exact Nat.lt_irrefl _)
    · rcases List.mem_cons.mp (I3.stkSub _ z) with z | z
      · exact a3 z
      · exact a4 z
  have l4 : s4.heap.IsListIter it a 0 := by
    obtain ⟨o, e, c, d⟩ := li
    exact ⟨o, k4 _ _ (k3 _ _ e), c, d⟩
  have fpo : ∀ {σ' : L2.St} {H' : Hp} {s' : Shared} {pl : List (Addr × Obj)}, Inv (blkH X s3 H3 scope ce [it]) [] σ' H' s' → H' it = none → FpOk (blkH X s3 H3 scope ce [it]) [] H' it := fun {σ' H' s' pl} J hn =>
    ⟨hn, (J.ok.exf it (List.mem_singleton.mpr rfl)).1, J.ok.exfs it (List.mem_singleton.mpr rfl), .inl (List.mem_singleton.mpr rfl), (J.ok.exf it (List.mem_singleton.mpr rfl)).2, fun p hp => f3.2.2.2.2.2 p (List.mem_append_left _ (by simpa using hp))⟩
  have loop : codeAny (model X.prog X.w) X.A (.compLoop (.ListComp elt [⟨tg, iter, ifs, 0⟩] scope pos) 0 (.ref it) (.ref s2.heap.objs.size) ce) (compPost (model X.prog X.w) X.A X.xe us Qz (.ref s2.heap.objs.size) s3.heap.objs.size) s4 := by
    refine compLoop_any (fun n s' => ∃ i H', Inv (blkH X s3 H3 scope ce [it]) [] (L2.wipe σ (own.map (·.2))) H' s' ∧ s'.heap.IsListIter it a i ∧ H' it = none ∧ W i n H') ?_ m0 ⟨0, H3, J4, l4, f3.1, w0⟩
    rintro n s5 ⟨i, H5, J5, l5, n5, w5⟩
    obtain ⟨g0, g1, g2, g3, g4, g5⟩ := fpo (pl := []) J5 n5
    have p5 := J5.pin px (List.mem_append_left _ hpx)
    have hot5 : HotAt X.A px.1 s5.heap := ⟨hh, px.2, vx, p5.1, dx, cx⟩
    rcases turn i n H5 w5 with ⟨⟨zs, sq, hle⟩, qq⟩ | ⟨⟨zs, v, sq, hv⟩, Nx, hNx, step⟩
    · obtain ⟨iz, rz, pz, _⟩ := J5.list sq
      refine list_end_hot hot5 np l5 pz.isList (by have := rz.length; simp; omega) fun h' eb => ?_
      have J6 : Inv (blkH X s3 H3 scope ce [it]) [] (L2.wipe σ (own.map (·.2))) H5 { s5 with heap := h' } := J5.turned (t' := s5.toks) (fun b o hb e => eb b o hb e) g0 g1 g3 g4 g5
      have I7 : Inv X pins σ H5 { s5 with heap := h' } := I3.call' (ch := [it]) J6.os J6.base J6.hok J6.bare fun b hb => by
        rw [List.mem_singleton.mp hb]
        exact ⟨f3.2.2.2.1, f3.2.1, f3.2.2.2.2.1, f3.2.2.2.2.2⟩
      have nC : H5 s3.heap.objs.size = none := by
        have z : H5 ce.locals = none := J6.free
        rwa [cl] at z
      obtain ⟨m, hm, _⟩ := J6.loc
      have hm : Heap.Ns h' ce.locals m := hm
      rw [cl] at hm
      exact fin s2.heap.objs.size s3.heap.objs.size _ m H5 I7 qq hm (I3.fpOk (H' := H5) (Nat.le_refl _) nC)
    · obtain ⟨iz, rz, pz, _⟩ := J5.list sq
      obtain ⟨u, hu, ru⟩ := rz.get hv
      refine wpAny_pyNext_list_item l5 pz.isList (x := u) (by simpa using hu) fun h' l6 sb => ?_
      have J6 : Inv (blkH X s3 H3 scope ce [it]) [] (L2.wipe σ (own.map (·.2))) H5 { s5 with heap := h' } := J5.turned (t' := s5.toks) (fun b o hb e => (sb.2 b hb).trans e) g0 g1 g3 g4 g5
      obtain ⟨oi, ei, ci, di⟩ := _root_.id l6
      refine go_of (s := { s5 with heap := h' }) ei ci di (by decide) ?_
      have J7 := J6.pinned (fp := [it]) (fun b hb => by rw [List.mem_singleton.mp hb]; exact fpo (pl := []) J6 n5) fun b hb => by rw [List.mem_singleton.mp hb]; exact ⟨oi, ei, fun v z => by rw [di] at z; cases z⟩
      refine thnF (pg.run _ _ _ H5 v u _ J7 ru (step v H5 ⟨rfl, fun xs hxs => by rw [J5.list_inj hxs sq]; exact hv⟩)) fun _ s8 ⟨σ8, H8, J8, hw8, q8⟩ => ?_
      refine thnF (pt.run _ s8 σ8 H8 _ J8 q8) fun b s9 ⟨H9, J9, q9⟩ => ?_
      have fine : ∀ {s' : Shared} {H' : Hp}, Inv (blkH X s3 H3 scope ce [it]) ([] ++ pinsAt [it] h') σ8 H' s' → Nx H' → ∃ m, m < n ∧ ∃ i H', Inv (blkH X s3 H3 scope ce [it]) [] (L2.wipe σ (own.map (·.2))) H' s' ∧ s'.heap.IsListIter it a i ∧ H' it = none ∧ W i m H' := fun {s' H'} J nx => by
        obtain ⟨m', lm, w'⟩ := hNx H' nx
        have pi := J.pin (it, oi) (List.mem_append_right _ (List.mem_append_right _ (mem_pinsAt (List.mem_singleton.mpr rfl) ei)))
        refine ⟨m', lm, i + 1, H', (J.unpinned (pins := [])).weak (by rw [← hw8, L2.wipe_length]) (fun j y e => ?_), ⟨oi, pi.1, ci, di⟩, pi.2.1, w'⟩
        rw [← hw8] at e
        exact (L2.wipe_some e).1
      cases b with
      | false =>
        rw [if_neg (by decide)] at q9 ⊢
        exact fine J9 q9
      | true =>
        rw [if_pos rfl] at q9 ⊢
        refine thnF (pe.run _ s9 σ8 H9 _ J9 q9) fun z s10 ⟨y, H10, J10, r10, acc, hD, hlen, nx⟩ => ?_
        exact app_ok (X := blkH X s3 H3 scope ce [it]) J10 hD hlen r10 fun s11 J11 => fine J11 nx
  exact codeAny_compStart_list loop (wpAny_pyIter_listiter l4 loop)
theorem pe_lcH {elt tg iter : Expr} {ifs : List Expr} {scope : Scope} {own : List (Str × Nat)} {pos : Pos} {tl : TE} {g : TG} {tt : TT} {te : TE} (hc : HotC X) (hN : X.N.Nodup) (hi : PE X iter tl) (ok : BlkOk X.N X.env.scope scope own)
    (hg : ∀ (s : Shared) (H : Hp) (C : Addr) (cl : List (Str × Addr)) (fp : List Addr), PG (blkH X s H scope (compEnvC scope cl C X.env) fp) tg g)
    (ht : ∀ (s : Shared) (H : Hp) (C : Addr) (cl : List (Str × Addr)) (fp : List Addr), PTs (blkH X s H scope (compEnvC scope cl C X.env) fp) ifs tt)
    (he : ∀ (s : Shared) (H : Hp) (C : Addr) (cl : List (Str × Addr)) (fp : List Addr), PE (blkH X s H scope (compEnvC scope cl C X.env) fp) elt te) (hs : ∀ x, foldedSetIterable iter X.env x = pure x := by intro _; rfl) :
    PE X (.ListComp elt [⟨tg, iter, ifs, 0⟩] scope pos) (tLc (iList X.K tl) g tt te (own.map (·.2))) := ⟨fun pins s σ H Q I h => by
  rw [eval_ListComp]
  refine lcH_core hc hN I hi ok hg ht he hs h fun D C s' m H' J q hm f => ⟨m, hm, fun h2 sb => ?_⟩
  obtain ⟨c0, c1, c2, c3, c4, c5⟩ := f
  exact ⟨.ref D, H', J.turned (t' := s'.toks) (fun b o hb e => (sb.2 b hb).trans e) c0 c1 c3 c4 c5, rfl, q⟩⟩
theorem ps_setLcH {i : Nat} {y : Str} {py : Pos} {elt tg iter : Expr} {ifs : List Expr} {scope : Scope} {own : List (Str × Nat)} {pos sp : Pos} {tl : TE} {g : TG} {tt : TT} {te : TE} (hc : HotC X) (hN : X.N.Nodup) (hy : X.N[i]? = some y) (hl : X.env.scope.names.lookup y = some .local)
    (sw : swapsWith (.ListComp elt [⟨tg, iter, ifs, 0⟩] scope pos) (some (.Name y py)) sp.line X.env = pure true) (hi : PE X iter tl) (ok : BlkOk X.N X.env.scope scope own)
    (hg : ∀ (s : Shared) (H : Hp) (C : Addr) (cl : List (Str × Addr)) (fp : List Addr), PG (blkH X s H scope (compEnvC scope cl C X.env) fp) tg g)
    (ht : ∀ (s : Shared) (H : Hp) (C : Addr) (cl : List (Str × Addr)) (fp : List Addr), PTs (blkH X s H scope (compEnvC scope cl C X.env) fp) ifs tt)
    (he : ∀ (s : Shared) (H : Hp) (C : Addr) (cl : List (Str × Addr)) (fp : List Addr), PE (blkH X s H scope (compEnvC scope cl C X.env) fp) elt te) (hs : ∀ x, foldedSetIterable iter X.env x = pure x := by intro _; rfl) :
    PS X (.Assign [.Name y py] (.ListComp elt [⟨tg, iter, ifs, 0⟩] scope pos) sp) (tAsg (tLc (iList X.K tl) g tt te (own.map (·.2))) (gName i)) := ⟨fun pins s σ H D I h => by
  rw [exec_Assign_Name_used _ _ _ _ sw]
  refine wpAny_bind (wpAny_standAt (wpAny_bind ?_))
  show wpAny _ X.A (comprehension (.ListComp elt [⟨tg, iter, ifs, 0⟩] scope pos) scope X.env (firstIterPos [⟨tg, iter, ifs, 0⟩] pos) (newList []) false (eval iter X.env) (some (assign (.Name y py) X.env)) >>= fun _ => pure ()) _ _ s
  have h : tLc (iList X.K tl) g tt te (own.map (·.2)) σ H (fun x H1 => gName i x σ H1 D.nx) := h
  refine wpAny_bind (thn (lcH_core (Qz := fun _ s2 => SP X pins D .next s2) hc hN I hi ok hg ht he hs h fun L C s2 m H2 J q hm f => ?_) fun _ s2 hq => wpAny_pure (wpAny_pure hq))
  show wpAny _ _ (assign (.Name y py) X.env (.ref L)) _ _ _
  refine wpAny_assign_Name (store_ok2 (v := V.ref L) J hN hy (.inl hl) rfl (fun s3 J3 ⟨a, sb, ha⟩ => ?_) (.inr hl))
  obtain ⟨c0, c1, c2, c3, c4, c5⟩ := f
  have na : C ≠ a := ha.elim (fun z => by rw [z]; exact c1) fun z e => c4 y a z e.symm
  exact ⟨m, hm.sameBut sb na, fun h3 sb3 => ⟨_, H2, J3.turned (t' := s3.toks) (fun b o hb e => (sb3.2 b hb).trans e) c0 c1 c3 c4 c5, q⟩⟩⟩
end
end DL

namespace DL
open PySem PySem.Spec PyProof.Rows L2 L2H HotX
variable [Lam]
/-! ### the comprehension over data, while an exception is handled -/
section
variable {X : Cx} {en : En}
def DLcH (X : Cx) (en : En) (elt tg iter : Expr) (ifs : List Expr) (scope : Scope) (own : List (Str × Nat)) (rs : List PD) : Prop := ∃ tl g tt te, PE X iter tl ∧
  (∀ (s : Shared) (H : Hp) (C : Addr) (cl : List (Str × Addr)) (fp : List Addr), PG (blkH X s H scope (compEnvC scope cl C X.env) fp) tg g) ∧ (∀ (s : Shared) (H : Hp) (C : Addr) (cl : List (Str × Addr)) (fp : List Addr), PTs (blkH X s H scope (compEnvC scope cl C X.env) fp) ifs tt) ∧
  (∀ (s : Shared) (H : Hp) (C : Addr) (cl : List (Str × Addr)) (fp : List Addr), PE (blkH X s H scope (compEnvC scope cl C X.env) fp) elt te) ∧
  ∀ (B Bo Ho H : Hp) (σ : L2.St), Fit X.K B Bo Ho H σ en → ∀ Q : VK, (∀ v Ho' H', Gr Ho H Ho' H' → Rs X.K .o H Ho' H' v (.list rs) → Q v H') → tLc (iList X.K tl) g tt te (own.map (·.2)) σ H Q
theorem dlc_h {elt tg iter : Expr} {ifs : List Expr} {scope : Scope} {own : List (Str × Nat)} {α : Type} (xs : List α) (c : α → PD) (p : α → Bool) (f : α → PD) (hi : DE X en iter .c (.list (xs.map c)))
    (hb : ∀ x ∈ xs, ∃ is en', (∀ i ∈ is, i ∈ own.map (·.2)) ∧ ∀ (s : Shared) (H : Hp) (C : Addr) (cl : List (Str × Addr)) (fp : List Addr),
      DG (blkH X s H scope (compEnvC scope cl C X.env) fp) (wipeE en (own.map (·.2))) tg (c x) is en' ∧ DTs (blkH X s H scope (compEnvC scope cl C X.env) fp) en' ifs (p x) ∧ (p x = true → DE (blkH X s H scope (compEnvC scope cl C X.env) fp) en' elt .c (f x)))
    (hl : xs.length ≤ 100000) : DLcH X en elt tg iter ifs scope own ((xs.filter p).map f) := by
  refine ⟨wE X iter, fun v σ H Q => ∀ (s : Shared) (H0 : Hp) (C : Addr) (cl : List (Str × Addr)) (fp : List Addr), wG (blkH X s H0 scope (compEnvC scope cl C X.env) fp) tg v σ H Q,
    fun σ H Q => ∀ (s : Shared) (H0 : Hp) (C : Addr) (cl : List (Str × Addr)) (fp : List Addr), wTs (blkH X s H0 scope (compEnvC scope cl C X.env) fp) ifs σ H Q,
    fun σ H Q => ∀ (s : Shared) (H0 : Hp) (C : Addr) (cl : List (Str × Addr)) (fp : List Addr), wE (blkH X s H0 scope (compEnvC scope cl C X.env) fp) elt σ H Q, pe_w,
    fun s H0 C cl fp => ⟨fun pins s' σ H v u Q I r h => (h s H0 C cl fp).run pins s' u I r⟩, fun s H0 C cl fp => ⟨fun pins s' σ H Q I h => pts_w.run pins s' σ H Q I (h s H0 C cl fp)⟩, fun s H0 C cl fp => ⟨fun pins s' σ H Q I h => (h s H0 C cl fp).run pins s' I⟩, fun B Bo Ho H σ ft Q q => ?_⟩
  refine hi B Bo Ho H σ ft _ fun v Ho1 H1 g1 r0 => ?_
  obtain ⟨a, ys, rfl, ha, ry⟩ := Rp.lst_inv r0
  refine ⟨a, rfl, ⟨ys, .inl (.inl (g1.s.at _ _ ha))⟩, ?_⟩
  intro D hD
  have n1 : Ho1 D = none := g1.s.free hD
  refine ⟨fun i m H2 => ∃ H2o acc, m = xs.length - i ∧ i ≤ xs.length ∧ Gr Ho1 H1 H2o H2 ∧ H2o D = none ∧ H2 D = some (.lst acc) ∧ acc.length ≤ i ∧ RpA X.K H2o acc (((xs.take i).filter p).map f),
    ⟨xs.length, Ho1, [], by simp, Nat.zero_le _, .tmp g1.s hD, n1, upd_same, Nat.le_refl _, .nil⟩, ?_⟩
  rintro i m H2 ⟨H2o, acc, rfl, hle, g2, n2, e2, hal, r2⟩
  have sq : SqL X.K H2 a ys := .inl (.inl (g2.s.at _ _ (g2.o.at _ _ ha)))
  by_cases hlt : i < xs.length
  · have hx := List.getElem?_eq_getElem hlt
    obtain ⟨v, hv, rv⟩ := ry.get (i := i) (d := c xs[i]) (by rw [List.getElem?_map, hx]; rfl)
    obtain ⟨is, en', his, hb⟩ := hb xs[i] (List.getElem_mem hlt)
    have htk : xs.take (i + 1) = xs.take i ++ [xs[i]] := by rw [List.take_add_one, hx]; rfl
    refine .inr ⟨⟨ys, v, sq, hv⟩, fun H' => ∃ m', m' < xs.length - i ∧ ∃ H2o acc, m' = xs.length - (i + 1) ∧ i + 1 ≤ xs.length ∧ Gr Ho1 H1 H2o H' ∧ H2o D = none ∧ H' D = some (.lst acc) ∧ acc.length ≤ i + 1 ∧ RpA X.K H2o acc (((xs.take (i + 1)).filter p).map f), fun H' h => h, fun x H3 y => ?_⟩
    obtain ⟨rfl, y⟩ := y
    have := (y ys sq).symm.trans hv
    cases this
    intro s H0 C cl fp
    refine (hb s H0 C cl fp).1 B Bo H2o H3 _ (((ft.gr g1).gr g2).wipe _) _ (rv.mono g2.o) _ fun σ3 w3 f3 => ⟨wipe_eq w3 his, ?_⟩
    intro s H0 C cl fp
    obtain ⟨t, pt, ht⟩ := (hb s H0 C cl fp).2.1
    refine ⟨t, pt, ht B Bo H2o H3 σ3 f3 _ fun H4o H4 g4 => ?_⟩
    have e4 := g4.h.at _ _ e2
    have k4 : H4o D = none := (g4.fr D (by rw [e2]; intro z; cases z)).trans n2
    cases hpx : p xs[i] with
    | false =>
      refine ⟨_, by omega, H4o, acc, rfl, hlt, g2.trans g4, k4, e4, by omega, ?_⟩
      rw [htk, List.filter_append, List.filter_cons, hpx]
      simp only [Bool.false_eq_true, if_false, List.filter_nil, List.append_nil]
      exact r2.mono g4.o
    | true =>
      show ∀ (s : Shared) (H0 : Hp) (C : Addr) (cl : List (Str × Addr)) (fp : List Addr), wE (blkH X s H0 scope (compEnvC scope cl C X.env) fp) elt σ3 H4 _
      intro s H0 C cl fp
      refine (hb s H0 C cl fp).2.2 hpx B Bo H4o H4 σ3 (f3.gr g4) _ fun v H5o H5 g5 r5 => ?_
      have e5 := g5.h.at _ _ e4
      have k5 : H5o D = none := (g5.fr D (by rw [e4]; intro z; cases z)).trans k4
      have g := (g2.trans g4).trans g5
      refine ⟨acc, e5, sz100l (by omega), _, by omega, H5o, acc ++ [v], rfl, hlt, g.poke hD k5 e5, k5, upd_same, by rw [List.length_append]; simp; omega, ?_⟩
      rw [htk, List.filter_append, List.filter_cons, hpx]
      simp only [if_true, List.filter_nil, List.map_append, List.map_cons, List.map_nil]
      exact (r2.mono (g4.trans g5).o).app (.one r5)
  · have e : i = xs.length := by omega
    subst e
    refine .inl ⟨⟨ys, sq, by rw [ry.len, List.length_map]; exact Nat.le_refl _⟩, ?_⟩
    rw [List.take_length] at r2
    exact q _ H2o H2 (g1.trans g2) ⟨D, rfl, g1.h.free hD, n2, acc, e2, r2⟩
theorem de_lcH {elt tg iter : Expr} {ifs : List Expr} {scope : Scope} {own : List (Str × Nat)} {pos : Pos} {rs : List PD} (h : DLcH X en elt tg iter ifs scope own rs) (hc : HotC X) (hN : X.N.Nodup) (ok : BlkOk X.N X.env.scope scope own) (hs : ∀ x, foldedSetIterable iter X.env x = pure x := by intro _; rfl) :
    DE X en (.ListComp elt [⟨tg, iter, ifs, 0⟩] scope pos) .o (.list rs) := fun B Bo Ho H σ ft Q q => by
  obtain ⟨tl, g, tt, te, hi, hg, ht, he, r⟩ := h
  exact wE_of (pe_lcH (own := own) hc hN hi ok hg ht he hs) (r B Bo Ho H σ ft Q q)
theorem ds_setLcH (i : Nat) {P : Po} {y : Str} {py : Pos} {elt tg iter : Expr} {ifs : List Expr} {scope : Scope} {own : List (Str × Nat)} {pos sp : Pos} {rs : List PD} (h : DLcH X en elt tg iter ifs scope own rs) (hc : HotC X) (q : P.nx (en.set i (some (.o (.list rs))))) (hN : X.N.Nodup) (ok : BlkOk X.N X.env.scope scope own)
    (hy : X.N[i]? = some y := by kernel_rfl) (hyl : X.env.scope.names.lookup y = some .local := by kernel_rfl) (sw : swapsWith (.ListComp elt [⟨tg, iter, ifs, 0⟩] scope pos) (some (.Name y py)) sp.line X.env = pure true := by exact sw_true rfl rfl rfl (by decide +kernel))
    (hs : ∀ x, foldedSetIterable iter X.env x = pure x := by intro _; rfl) : DS X en (.Assign [.Name y py] (.ListComp elt [⟨tg, iter, ifs, 0⟩] scope pos) sp) P := fun B Bo Ho H σ f D t => by
  obtain ⟨tl, g, tt, te, hi, hg, ht, he, r⟩ := h
  refine wS_of (ps_setLcH (i := i) (own := own) hc hN hy hyl sw hi ok hg ht he hs) (r B Bo Ho H σ f _ fun v Ho' H' g r => ?_)
  obtain ⟨p, rfl, n1, n2, w⟩ := r
  exact t.nx _ Ho' H' _ q (f.setO g n1 n2 w)
theorem dg_tupH {ts : List Expr} {ds : List PD} {is : List Nat} {en' : En} {k : Nat} {pos : Pos} (hc : HotC X) (h : DGs X en ts ds is en') (hn : (assignEach ts X.env).length = ds.length := by kernel_rfl) (hst : (assignEach ts X.env).findIdx? (·.1) = none := by kernel_rfl) : DG X en (.Tuple ts k pos) (.tuple ds) is en' := fun B Bo Ho H σ f v r Q q => by
  obtain ⟨a, xs, rfl, hq, r⟩ := r.tup_inv
  exact wG_of (pg_tupH hc pgs_w hn hst) ⟨a, xs, rfl, .inl (.inl (f.hoh.at _ _ hq)), r.len, h B Bo Ho H σ f xs r Q q⟩
/-! ### isinstance(e, C) of the exception that is handled -/
theorem call_isH {a D : Addr} {oe : Obj} (hp : (a, oe) ∈ X.pn) (C : ExcC X.K D) (hz : Zc (.ref D) none oe) (hf : ∃ vs, oe.data = .fields vs) : CallR X (.builtin "isinstance") (rIsE X.K D a) := by
  intro pins s σ H xs us Q I r h
  obtain ⟨c, cv, b, rfl, hcv, e, q⟩ := h
  obtain ⟨u1, u2, rfl, r1, r2⟩ : ∃ u1 u2, us = [u1, u2] ∧ RelV (.ref a) u1 ∧ RelV c u2 := by
    cases r with
    | cons p q =>
      cases q with
      | cons p' q' => cases q'; exact ⟨_, _, rfl, p, p'⟩
  cases r1
  rw [hcv _ r2]
  have hget := (I.pin (a, oe) (List.mem_append_left _ hp)).1
  obtain ⟨vs, hv⟩ := hf
  have J : PySem.W.InstAt s.heap a oe D none := by
    obtain ⟨oc, od, oda, osl⟩ := oe
    obtain ⟨h1, h2⟩ := hz
    subst h1 h2
    cases hv
    exact ⟨hget, rfl, rfl, trivial⟩
  exact PySem.W.kia_one (PySem.W.handS_kitx_exc C.hg C.hk C.hs C.hd C.ha C.hn C.ht C.hm) I.kIn J e nofun fun tk => ⟨.bl b, H, I.kept (t' := tk) fun _ _ z => z, rfl, q⟩
end
end DL

namespace DL
open PySem PySem.Spec PyProof.Rows L2 L2H HotX
variable [Lam]
/-! ### defs that are called with the exception that is handled -/
abbrev SpW := (Addr × Obj) → List V → Hp → VK → Prop
structure FnW (P : Program) (w : World) (K : PySem.W.Frag) (mg : Str → Option Value) (base : Heap) (k : Nat) (f : Addr) (fd : FuncData) (ps : List Str) (sp : SpW) : Prop where
  run : ∀ (A : Around) (outer : List Env) (s : Shared) (H : Hp) (args : Args) (us : List Value) (vs : List V) (Q : VK) (p : Addr × Obj), RoomH k A → Hot1 A p → PinOk outer H s p → Env0 P w K mg base A outer s H → BindsTo s fd args (ps.zip us) → Vals vs us → vs.length = ps.length → sp p vs H Q →
    codeAny (model P w) A (.call (.ref f) args) (CR CX0 outer P w H s Q fun _ _ _ => False) s
section
variable {P : Program} {w : World} {K : PySem.W.Frag} {mg : Str → Option Value} {base : Heap}
theorem fn_mkW {qual : Str} {st : Stmt} {f : Addr} {fd : FuncData} {N ps : List Str} {k : Nat} {sp : SpW} (F : FnP K qual st f fd) (S : FnScope N ps (defScope st))
    (hb : ∀ (cdv : Value) (A : Around) (outer : List Env) (s : Shared) (H : Hp) (vs : List V) (Q : VK) (p : Addr × Obj), Hot1 A p → RoomH k (A.deeper (envOfC qual (defScope st) s.heap.objs.size f cdv)) → sp p vs H Q →
      wSs (cxH CX0 P w K mg base N qual (defScope st) f cdv A outer s H (fun _ _ _ => False) p).nox (defBody st) { nx := fun _ H' => Q .non H', rt := Q } (L2.start N vs) H) : FnW P w K mg base (k + 1) f fd ps sp := by
  obtain ⟨oc, od, dV, kV, doc, pm, an, cdv, ct, osl, rfl, lk, hcd, _, _⟩ := F.ex
  refine ⟨fun A outer s H args us vs Q p hr hot pin e0 bt rv hl h => ?_⟩
  have kin : K.In s.heap := e0.mod.kin.keeps fun a o e => (e0.bs a o e).1
  have nol : s.heap.NoLimit := e0.mod.nolimit.keeps fun a o e => (e0.bs a o e).1
  have kinds : ∀ y ∈ ps.zip us, (defScope st).names.lookup y.1 = some .local ∨ ((defScope st).names.lookup y.1 = some .cell ∧ ((cellsFrom (s.heap.objs.size + 1) (defScope st).names []).lookup y.1).isSome = true) := fun y hy => (S.par y.1 (List.of_mem_zip hy).1).elim .inl fun z => .inr ⟨z, PySem.W.cellsFrom_some _ _ _ (.inl z)⟩
  refine codeAny_call_function hr.depth (kin _ _ lk) rfl S.co S.gen rfl (PySem.W.codeRec_of kin hcd) (bt _ _ _ _ (wpAny_newFunctionEnv_cells S.kind kinds fun env he s1 x => ?_))
  subst he
  refine ⟨nol.keeps x.toInCall.keep, codeAny_func ?_⟩
  have J := inv_startH (CX := CX0) (mg := mg) (base := base) (N := N) (qual := qual) (f := f) (cd := cdv) (E := fun _ _ _ => False) S pin e0 hl rv x
  refine wpAny_mono ((PSs.nox pss_w).run [] s1 _ H _ J (hb cdv A outer s H vs Q p hot (hr.deeper _) h)) (fun fl s2 z => ?_) fun e s2 z => z
  have out : ∀ {σ' : L2.St} {H' : Hp} {v : V} {u : Value}, Inv (cxH CX0 P w K mg base N qual (defScope st) f cdv A outer s H (fun _ _ _ => False) p) [] σ' H' s2 → RelV v u → Q v H' → CE outer P w H s Q u s2 := fun {σ' H' v u} Z r q => ⟨v, H', Z.os, Z.bare, Z.base, Z.hok, r, q⟩
  cases fl with
  | ret u => obtain ⟨v, σ', H', Z, r, q⟩ := z; exact out Z r q
  | next => obtain ⟨σ', H', Z, q⟩ := z; exact out (v := V.non) (u := Value.none) Z rfl q
  | brk => obtain ⟨_, _, _, q⟩ := z; exact q.elim
  | cont => obtain ⟨_, _, _, q⟩ := z; exact q.elim
end
/-- what such a def gives: data, from the exception's class -/
def spW (K : PySem.W.Frag) (D : Addr) (d : PD) : SpW := fun p vs H Q => ∃ Bo, vs = [.ref p.1] ∧ Zc (.ref D) none p.2 ∧ Same Bo H ∧ TbK H ∧ ∀ v Ho' H', Gr Bo H Ho' H' → Rp K Ho' v d → Q v H'
structure WDn (P : Program) (w : World) (K : PySem.W.Frag) (mg : Str → Option Value) (base : Heap) (k : Nat) (x : Str) (D : Addr) (d : PD) : Prop where
  ex : ∃ f fd ps, FnW P w K mg base k f fd ps (spW K D d) ∧ ps.length = 1 ∧ mg x = some (.ref f) ∧ PySem.W.keepIn K (.ref f) = true ∧ Binds K fd ps []
section
variable {X : Cx} {en : En} {x y : Str} {p p2 pos : Pos} {a D : Addr} {oe : Obj} {d : PD} {k : Nat}
theorem de_callW (G : WDn X.prog X.w X.K X.mg X.base k x D d) (i : Nat) (hr : RoomH k X.A) (hh : X.A.handled = some (.ref a)) (hp : (a, oe) ∈ X.pn) (hz : L2N.Zn (.ref D) none oe) (hf : ∃ vs, oe.data = .fields vs) (h : en[i]? = some (some (.v (adD a))) := by rfl) (hN : X.N[i]? = some y := by kernel_rfl)
    (hv : visB X.env.scope y = true := by kernel_rfl) (hd : (y == ("__debug__" : Str)) = false := by kernel_rfl) (hcd : (y == ("__classdict__" : Str)) = false := by kernel_rfl) (hg : glB X x = true := by kernel_rfl) (hdb : (x == ("__debug__" : Str)) = false := by kernel_rfl)
    (he : starEach [.Name y p2] X.env = (false, eval (.Name y p2) X.env) :: starEach [] X.env := by kernel_rfl) (hpl : (backTo pos (starEach [] X.env)).any (·.1) = false := by kernel_rfl) : DE X en (.Call (.Name x p) [.Name y p2] [] pos) .c d := fun B Bo Ho H σ f Q q => by
  obtain ⟨v, e1, rv⟩ := f.var h
  have ev := rv.ad_inv
  subst ev
  obtain ⟨g, fd, ps, F, hl, hm, hk, hb⟩ := G
  have ha : PA X [.Name y p2] _ := pa_cons (pe_var hN (vis_of hv) hd hcd) pa_nil he
  have fin : spW X.K D d (a, oe) [.ref a] H Q := ⟨Ho, rfl, hz.zc, f.hoh, f.tb, fun v Ho' H' g' r => q v Ho' H' g' r⟩
  refine ⟨fun pins s I => ?_⟩
  refine wpAny_Call_Name_kw (ld_glob I (gl_of hg) hm ?_ hdb)
  refine PySem.W.callWith_K (h₀ := X.base) I.ok.mod.kin hk (thn (ha.run pos pins s σ H (fun vs H1 => vs = [.ref a] ∧ H1 = H) I ⟨_, e1, rfl, rfl⟩) fun us s1 hx => ?_) he hpl
  obtain ⟨vs, H1, I1, r, rfl, rfl⟩ := hx
  refine ⟨I1.kIn, ?_⟩
  have hot : Hot1 X.A (a, oe) := ⟨hh, by obtain ⟨vs, ev⟩ := hf; exact ⟨vs, ev, hz.2.2 vs ev⟩⟩
  have P1 := I1.pin (a, oe) (List.mem_append_left _ hp)
  have pin : PinOk X.stack H1 s1 (a, oe) := ⟨P1.1, P1.2.1, fun z => (List.mem_cons.mp (I1.stkSub a z)).elim P1.2.2.1 P1.2.2.2.1, P1.2.2.2.2⟩
  have b := hb s1 us I1.kIn (by rw [List.append_nil, ← r.length, hl]; rfl)
  rw [List.append_nil] at b
  refine wpAny_call (codeAny_mono (F.run X.A X.stack s1 H1 ⟨us, []⟩ us [.ref a] Q (a, oe) hr hot pin I1.env0 b r (by rw [hl]; rfl) fin) fun z s2 hq => ?_)
  cases z with
  | error e => exact False.elim hq
  | ok fl =>
    cases fl with
    | ret u => exact I1.after hq
    | next => exact False.elim hq
    | brk => exact False.elim hq
    | cont => exact False.elim hq
end
end DL

namespace DL
open PySem PySem.Spec PyProof.Rows L2 L2H HotX
variable [Lam]
/-! ### the errors' classes -/
def excNs : List (Str × Str) := [("work", "BadWork"), ("given", "BadGiven"), ("look", "BadLook"), ("set", "BadSet"), ("room", "HasRoom"), ("line", "NoLine"), ("none", "NoLook"), ("text", "BadText")]
structure ExcK (K : PySem.W.Frag) (mg : Str → Option Value) (D : Addr) (b : Str → Bool) : Prop where
  cls : ∀ q ∈ excNs, ∃ c, mg q.2 = some (.ref c) ∧ PySem.W.kitOne K (.ref D) (.ref c) = some (b q.2)
  ve : PySem.W.kitOne K (.ref D) (.type "ValueError") = some true
  mv : mg "ValueError" = none
  ec : ExcC K D
def wordD (q : Str × Bool) : PD := .tuple [.str q.1, .bool q.2]
section
variable {X : Cx} {en : En} {e : Expr} {p p2 pos : Pos} {k : Kd} {a D : Addr} {oe : Obj} {cx : Str} {b : Bool}
theorem de_isE (hm : X.mg "isinstance" = none) (hp : (a, oe) ∈ X.pn) (C : ExcC X.K D) (hz : Zc (.ref D) none oe) (hf : ∃ vs, oe.data = .fields vs) (ha : DE X en e .c (adD a)) (hk : ∃ c, X.mg cx = some (.ref c) ∧ PySem.W.kitOne X.K (.ref D) (.ref c) = some b) (hg : glB X "isinstance" = true := by kernel_rfl) (hgT : glB X cx = true := by kernel_rfl)
    (hd : (cx == ("__debug__" : Str)) = false := by kernel_rfl) (he : starEach [e, .Name cx p2] X.env = (false, eval e X.env) :: starEach [.Name cx p2] X.env := by kernel_rfl) (he2 : starEach [.Name cx p2] X.env = (false, eval (.Name cx p2) X.env) :: starEach [] X.env := by kernel_rfl)
    (hpl : (backTo pos (starEach [.Name cx p2] X.env)).any (·.1) = false := by kernel_rfl) : DE X en (.Call (.Name "isinstance" p) [e, .Name cx p2] [] pos) .c (.bool b) := fun B Bo Ho H σ f Q q => by
  obtain ⟨c, hc, hk⟩ := hk
  refine wE_of (pe_callB (call_isH hp C hz hf) (gl_of hg) hm boot_isinstance (pa_cons pe_w (pa_cons (pe_glob (v := .ref c) (gl_of hgT) hc rfl hd) pa_nil he2) he) (he := he) (hpl := hpl)) ?_
  refine ha B Bo Ho H σ f _ fun v H1o H1 g1 r1 => ?_
  rw [r1.ad_inv]
  exact ⟨.ref c, .ref c, b, rfl, (fun u z => z), hk, q _ H1o H1 g1 (.bl _)⟩
theorem de_isEV (hm : X.mg "isinstance" = none) (hmV : X.mg "ValueError" = none) (hp : (a, oe) ∈ X.pn) (C : ExcC X.K D) (hz : Zc (.ref D) none oe) (hf : ∃ vs, oe.data = .fields vs) (ha : DE X en e .c (adD a)) (hk : PySem.W.kitOne X.K (.ref D) (.type "ValueError") = some b) (hg : glB X "isinstance" = true := by kernel_rfl) (hgT : glB X "ValueError" = true := by kernel_rfl)
    (he : starEach [e, .Name "ValueError" p2] X.env = (false, eval e X.env) :: starEach [.Name "ValueError" p2] X.env := by kernel_rfl) (he2 : starEach [.Name "ValueError" p2] X.env = (false, eval (.Name "ValueError" p2) X.env) :: starEach [] X.env := by kernel_rfl)
    (hpl : (backTo pos (starEach [.Name "ValueError" p2] X.env)).any (·.1) = false := by kernel_rfl) : DE X en (.Call (.Name "isinstance" p) [e, .Name "ValueError" p2] [] pos) .c (.bool b) := fun B Bo Ho H σ f Q q => by
  refine wE_of (pe_callB (call_isH hp C hz hf) (gl_of hg) hm boot_isinstance (pa_cons pe_w (pa_cons (pe_bltn (v := .ty "ValueError") (gl_of hgT) hmV boot_ValueError rfl (by decide) (by kernel_rfl)) pa_nil he2) he) (he := he) (hpl := hpl)) ?_
  refine ha B Bo Ho H σ f _ fun v H1o H1 g1 r1 => ?_
  rw [r1.ad_inv]
  exact ⟨.ty "ValueError", .type "ValueError", b, rfl, (fun u z => z), hk, q _ H1o H1 g1 (.bl _)⟩
end
end DL

namespace DL
open PySem PySem.Spec PyProof.Rows L2 L2H HotX
variable [Lam]
/-! ### statements that certainly raise -/
def DSsR (X : Cx) (en : En) (ss : List Stmt) (C : Addr) (enR : En) : Prop := ∀ W : WX, L2N.Takes X W → ∀ (B Bo Ho H : Hp) (σ : L2.St), Fit X.K B Bo Ho H σ en → (∀ σ' Ho' H', Fit X.K B Bo Ho' H' σ' enR → W (.ref C) none σ' H') → ∀ D : Ends, wSs X ss D σ H
/-- the promise of a def that raises -/
def spR (K : PySem.W.Frag) (R : List PD → Prop) (C : Addr) : Sp := fun vs H _ E => ∃ Bo ds, Same Bo H ∧ TbK H ∧ RpA K Bo vs ds ∧ R ds ∧ ∀ Ho' H', Gr Bo H Ho' H' → E (.ref C) none H'
structure RDn (P : Program) (w : World) (K : PySem.W.Frag) (mg : Str → Option Value) (base : Heap) (n : Nat) (x : Str) (R : List PD → Prop) (C : Addr) : Prop where
  ex : ∃ f fd ps, FnOk P w K mg base (L2N.CX P w) n f fd ps (spR K R C) ∧ mg x = some (.ref f) ∧ PySem.W.keepIn K (.ref f) = true ∧ Binds K fd ps []
theorem RDn.up {P : Program} {w : World} {K : PySem.W.Frag} {mg : Str → Option Value} {base : Heap} {n m : Nat} {x : Str} {R : List PD → Prop} {C : Addr} (h : RDn P w K mg base n x R C) (l : n ≤ m) : RDn P w K mg base m x R C := by
  obtain ⟨f, fd, ps, F, r⟩ := h
  exact ⟨f, fd, ps, F.mono l, r⟩
section
variable {X : Cx} {en enR : En} {e : Expr} {es : List Expr} {s : Stmt} {ss : List Stmt} {p p2 pos pos' : Pos} {C : Addr} {x : Str} {n : Nat} {R : List PD → Prop} {ds : List PD}
theorem dsr_cons (en' : En) (h : DS X en s { nx := fun z => z = en' }) (h2 : DSsR X en' ss C enR) : DSsR X en (s :: ss) C enR := fun W tk B Bo Ho H σ f q D =>
  wSs_of (pss_cons ps_w pss_w) (h B Bo Ho H σ f _ ⟨fun σ' Ho' H' z e f' => h2 W tk B Bo Ho' H' σ' (e ▸ f') q D, fun _ _ _ _ _ _ z => z.elim, fun _ _ _ _ z => z.elim, fun _ _ _ _ z => z.elim⟩)
theorem dsr_if {t : Expr} {A Z : List Stmt} (ht : DT X en t true) (h : DSsR X en A C enR) : DSsR X en (.If t A Z pos :: ss) C enR := fun W tk B Bo Ho H σ f q D => by
  refine wSs_of (pss_cons (ps_if pt_w pss_w pss_w) pss_w) ?_
  refine ht B Bo Ho H σ f _ fun Ho' H' g => ?_
  exact h W tk B Bo Ho' H' σ (f.gr g) q _
theorem dsr_raise {m : Str} {j : Nat} (hc : X.calm = true) (hx : PySem.W.excIn X.K C He.veBase "ValueError.__new__" = true) (gC : X.mg x = some (.ref C)) (kC : PySem.W.keepIn X.K (.ref C) = true) (h1 : PySem.W.subIn X.K (.ref C) (.type "BaseException") = some true) (h2 : PySem.W.typeIn X.K (.ref C) = some (.type "type")) (hg : glB X x = true := by kernel_rfl)
    (hdb : (x == ("__debug__" : Str)) = false := by kernel_rfl) : DSsR X en [.Raise (some (.Call (.Name x p) [.Constant (.str m) j p2] [] pos)) none pos'] C en := fun W tk B Bo Ho H σ f q D =>
  wSs_of (pss_one (L2N.ps_raise hc tk (L2N.pmk_own F.excBase_ValueError hx gC kC (raises_own h1 h2) (gl_of hg) hdb))) (q σ Ho H f)
theorem dsr_ret (G : RDn X.prog X.w X.K X.mg X.base n x R C) (hr : Room n X.A) (ha : DA X en (e :: es) .c ds) (h : R ds) (hg : glB X x = true := by kernel_rfl) (hdb : (x == ("__debug__" : Str)) = false := by kernel_rfl) (he : starEach (e :: es) X.env = (false, eval e X.env) :: starEach es X.env := by kernel_rfl)
    (hpl : (backTo pos (starEach es X.env)).any (·.1) = false := by kernel_rfl) : DSsR X en [.Return (some (.Call (.Name x p) (e :: es) [] pos)) pos'] C en := fun W tk B Bo Ho H σ f q D => by
  obtain ⟨fa, fd, ps, F, hm, hk, hb⟩ := G
  refine wSs_of (pss_one (ps_ret (pe_callS (E := WE W) F hr (gl_of hg) hm hk hb (fun σ => L2N.passAt tk σ) pa_w hdb he hpl))) ?_
  refine ha B Bo Ho H σ f _ fun vs H1o H1 g1 r1 => ?_
  exact ⟨H1o, ds, g1.s, g1.tb f.tb, r1, h, fun H2o H2 g2 => q σ H2o H2 ((f.gr g1).gr g2)⟩
end
section
variable {P : Program} {w : World} {K : PySem.W.Frag} {mg : Str → Option Value} {base : Heap}
theorem fn_mkR {qual : Str} {st : Stmt} {f : Addr} {fd : FuncData} {N ps : List Str} {k : Nat} {C : Addr} (F : FnP K qual st f fd) (S : FnScope N ps (defScope st)) (R : List PD → Prop) (hlen : ∀ ds, R ds → ds.length = ps.length)
    (hb : ∀ (cdv : Value) (A : Around) (outer : List Env) (s : Shared) (H : Hp) (E : XK), Room k (A.deeper (envOfC qual (defScope st) s.heap.objs.size f cdv)) → ∀ ds, R ds →
      ∃ enR, DSsR (cxOf (L2N.CX P w) P w K mg base N qual (defScope st) f cdv A outer s H E) (startE N ds) (defBody st) C enR) : FnOk P w K mg base (L2N.CX P w) (k + 1) f fd ps (spR K R C) := by
  refine F.ok S (fun vs H Q E h => ?_) (fun cdv A outer s H vs Q E hr h => ?_)
  · obtain ⟨Bo, ds, _, _, r, h, _⟩ := h
    rw [r.len]
    exact hlen ds h
  · obtain ⟨Bo, ds, sb, tb, r, h, q⟩ := h
    obtain ⟨enR, hb⟩ := hb cdv A outer s H E hr ds h
    refine ⟨_, pss_w, ?_⟩
    exact hb _ (L2N.takes_of rfl rfl rfl rfl) H Bo Bo H _ (fit_start sb tb r) (fun σ' Ho' H' f' => q Ho' H' f'.gr0) _
theorem rdn_mk {x : Str} {f : Addr} {fd : FuncData} {ps : List Str} {k : Nat} {R : List PD → Prop} {C : Addr} (h : FnOk P w K mg base (L2N.CX P w) k f fd ps (spR K R C)) (hm : mg x = some (.ref f)) (hk : PySem.W.keepIn K (.ref f) = true) (hb : Binds K fd ps []) : RDn P w K mg base k x R C := ⟨⟨f, fd, ps, h, hm, hk, hb⟩⟩
end
/-! ### try: .. except x as n: .. -/
section
variable {X : Cx} {en : En} {P : Po} {cx n : Str} {C Wc : Addr} {i : Nat} {body suite : List Stmt} {b₀ : Stmt} {np pos pos' : Pos}
theorem ds_tryR (i : Nat) (hb : ∀ (pn : List (Addr × Obj)) (xe : Value → Shared → Prop), DSsR (X.tr pn xe) en body C en) (hW : X.mg cx = some (.ref Wc)) (hm : PySem.W.exmOne X.K (.ref C) (.ref Wc) = some true)
    (hsu : ∀ (a : Addr) (oe : Obj) (pn : List (Addr × Obj)), L2N.Zn (.ref C) none oe → (∃ vs, oe.data = .fields vs) → DSs (X.suite a ((a, oe) :: pn)) (en.set i (some (.v (adD a)))) (b₀ :: suite) { P with nx := fun _ => False, bk := fun _ => False, ct := fun _ => False })
    (hN : X.N.Nodup) (hs : X.stack = X.env :: X.outer := by rfl) (hf : X.env.frame = some X.env.locals := by rfl) (hi : X.N[i]? = some n := by kernel_rfl) (hl : X.env.kindOf n = some .local := by kernel_rfl) (hg : glB X cx = true := by kernel_rfl) (hdb : (cx == ("__debug__" : Str)) = false := by kernel_rfl) :
    DS X en (.Try body [.ExceptHandler (some (.Name cx np)) (some n) (b₀ :: suite) pos'] [] [] pos) P := fun B Bo Ho H σ f D t => by
  refine wS_of (L2N.ps_try_as (c := .ref Wc) (i := i) (Wout := fun _ _ _ _ => False)
    (tb := fun W D σ H => ∃ B Bo Ho, Fit X.K B Bo Ho H σ en ∧ ∀ σ' Ho' H', Fit X.K B Bo Ho' H' σ' en → W (.ref C) none σ' H')
    (ts := fun a cls d D σ H => cls = .ref C ∧ d = none ∧ ∀ oe pn, L2N.Zn (.ref C) none oe → (∃ vs, oe.data = .fields vs) → wSs (X.suite a ((a, oe) :: pn)) (b₀ :: suite) D σ H)
    hs hf hN hi hl ⟨gl_of hg, hdb, .inl hW⟩ (fun u s' z => ?_) (fun W pn xe tk _ => ⟨fun pins s σ H D I h => ?_⟩) (fun a oe cls d pn hz hf => ⟨fun pins s σ H D I h => ?_⟩)) ⟨B, Bo, Ho, f, fun σ' Ho' H' f' => ⟨true, hm, fun _ a ha => ⟨rfl, rfl, fun oe pn hz hf => ?_⟩, fun z => by cases z⟩⟩
  · obtain ⟨a, B, sI, pins, σ, H, cls, d, e, I, nb, up, sky, na, os, ag, w⟩ := z
    exact w.elim
  · obtain ⟨B, Bo, Ho, f, q⟩ := h
    exact (hb pn xe W tk B Bo Ho H σ f q D).run pins s I
  · obtain ⟨rfl, rfl, h⟩ := h
    exact (h oe pn hz hf).run pins s I
  · exact hsu a oe pn hz hf B Bo Ho' H' _ (f'.setV (.adr a)) _ ⟨fun _ _ _ _ z => z.elim, t.rt, fun _ _ _ _ z => z.elim, fun _ _ _ _ z => z.elim⟩
theorem ds_tryN (i : Nat) (hb : ∀ (pn : List (Addr × Obj)) (xe : Value → Shared → Prop), DSs (X.tr pn xe) en body P) (hW : X.mg cx = some (.ref Wc))
    (hN : X.N.Nodup) (hs : X.stack = X.env :: X.outer := by rfl) (hf : X.env.frame = some X.env.locals := by rfl) (hi : X.N[i]? = some n := by kernel_rfl) (hl : X.env.kindOf n = some .local := by kernel_rfl) (hg : glB X cx = true := by kernel_rfl) (hdb : (cx == ("__debug__" : Str)) = false := by kernel_rfl) :
    DS X en (.Try body [.ExceptHandler (some (.Name cx np)) (some n) (b₀ :: suite) pos'] [] [] pos) P := fun B Bo Ho H σ f D t => by
  refine wS_of (L2N.ps_try_as (c := .ref Wc) (i := i) (Wout := fun _ _ _ _ => False) (tb := fun W D σ H => wSs (X.tr [] X.xe) body D σ H ∧ ∃ B Bo Ho, Fit X.K B Bo Ho H σ en ∧ Sat X.K B Bo P D) (ts := fun _ _ _ _ _ _ => False)
    hs hf hN hi hl ⟨gl_of hg, hdb, .inl hW⟩ (fun u s' z => ?_) (fun W pn xe tk _ => ⟨fun pins s σ H D I h => ?_⟩) (fun a oe cls d pn hz hf => ⟨fun pins s σ H D I h => h.elim⟩)) ⟨hb [] X.xe B Bo Ho H σ f D t, B, Bo, Ho, f, t⟩
  · obtain ⟨a, B, sI, pins, σ, H, cls, d, e, I, nb, up, sky, na, os, ag, w⟩ := z
    exact w.elim
  · obtain ⟨_, B, Bo, Ho, f, q⟩ := h
    exact (hb pn xe B Bo Ho H σ f D q).run pins s I
end
end DL

namespace DL
open PySem PySem.Spec PyProof.Rows L2
variable [Lam]
/-! ### more broken parts, more rows -/
theorem candN_mono {W : Wk} {b b' row : List Nat} {k d : Nat} (hW : W.Ok) (hb : ∀ x ∈ b, x ∈ b') (hr : ∀ x ∈ row, x < W.ring) (h : d ∈ candN W b row k) : d ∈ candN W b' row k := by
  unfold candN at h ⊢
  by_cases k1 : k ∈ b
  · rw [if_pos k1] at h
    rw [if_pos (hb k k1)]
    exact h
  · rw [if_neg k1] at h
    by_cases k2 : k ∈ b'
    · rw [if_pos k2, List.mem_singleton.mp h]
      exact List.mem_range.mpr (give_lt hW.r2 hr)
    · rw [if_neg k2]
      exact h
theorem rowsL_mono {W : Wk} {g : List Nat} {seen : List (Nat × Nat)} {b b' : List Nat} (hW : W.Ok) (hg : Row W.ring W.inputs g) (hb : ∀ x ∈ b, x ∈ b') : ∀ k, ∀ row ∈ rowsL W g seen b k, row ∈ rowsL W g seen b' k
  | 0 => fun row h => h
  | k + 1 => fun row h => by
    rw [rowsL, extN, List.mem_flatMap] at h ⊢
    obtain ⟨r, hr, h⟩ := h
    refine ⟨r, rowsL_mono hW hg hb k r hr, ?_⟩
    obtain ⟨d, hd, rfl⟩ := List.mem_map.mp h
    unfold fitN at hd ⊢
    obtain ⟨h1, h2⟩ := List.mem_filter.mp hd
    exact List.mem_map.mpr ⟨d, List.mem_filter.mpr ⟨candN_mono hW hb (rowsL_rows hW hg k r hr).2 h1, h2⟩, rfl⟩
theorem roomO_some {W : Wk} {l : Lk} {b : List Nat} (hW : W.Ok) (hl : l.Ok W) : (roomO W l b).isSome = true ↔ ∃ row, row ∈ rowsL W l.g l.seen b W.parts.length := by
  rw [roomO_first hW hl]
  unfold firstL
  cases rowsL W l.g l.seen b W.parts.length with
  | nil => simp
  | cons r rs => simp
theorem roomsB_mono {W : Wk} {ls : List Lk} {b b' : List Nat} (hW : W.Ok) (hl : ∀ l ∈ ls, l.Ok W) (hb : ∀ x ∈ b, x ∈ b') (h : roomsB W ls b = true) : roomsB W ls b' = true := by
  unfold roomsB at h ⊢
  rw [List.all_eq_true] at h ⊢
  intro l hm
  obtain ⟨row, hr⟩ := (roomO_some hW (hl l hm)).mp (h l hm)
  exact (roomO_some hW (hl l hm)).mpr ⟨row, rowsL_mono hW (hl l hm).g hb _ row hr⟩
/-! ### a clash, by leaving out -/
def lessOf (l : List Nat) (p : Nat) : List Nat := l.filter fun x => !decide (x = p)
def keepStep (W : Wk) (ls : List Lk) (l : List Nat) (p : Nat) : List Nat := if roomsB W ls (restOf W.parts.length (lessOf l p)) = true then l else lessOf l p
def keptOf (W : Wk) (ls : List Lk) (b : List Nat) : List Nat := (restOf W.parts.length b).foldl (keepStep W ls) (restOf W.parts.length b)
theorem rest_rest {n : Nat} {b : List Nat} (h : b ∈ allSets n) : restOf n (restOf n b) = b := by
  have h1 := (allSets_ok (rest_ok (n := n) (c := restOf n b))).2.1
  have h2 := (allSets_ok h).2.1
  have e : asI (restOf n (restOf n b)) = asI b := rise_ext (asI_rise h1) (asI_rise h2) fun k => by
    rw [mem_asI, mem_asI]
    constructor
    · rintro ⟨x, hx, e⟩
      obtain ⟨q1, q2⟩ := mem_rest.mp hx
      exact ⟨x, Classical.byContradiction fun z => q2 (mem_rest.mpr ⟨q1, z⟩), e⟩
    · rintro ⟨x, hx, e⟩
      exact ⟨x, mem_rest.mpr ⟨(allSets_ok h).1 x hx, fun z => (mem_rest.mp z).2 hx⟩, e⟩
  unfold asI at e
  exact (List.map_inj_right (fun a b h => by have h : (a : Int) = b := h; omega)).mp e
theorem keep_sub {W : Wk} {ls : List Lk} : ∀ (ps l : List Nat), (ps.foldl (keepStep W ls) l).Sublist l
  | [], l => .refl l
  | p :: ps, l => (keep_sub ps _).trans (by
    unfold keepStep
    split
    · exact .refl l
    · exact List.filter_sublist)
theorem mem_less {l : List Nat} {x p : Nat} : x ∈ lessOf l p ↔ x ∈ l ∧ x ≠ p := by
  unfold lessOf
  rw [List.mem_filter]
  simp
theorem rest_anti {n : Nat} {c d : List Nat} (h : ∀ x ∈ c, x ∈ d) : ∀ x ∈ restOf n d, x ∈ restOf n c := fun x hx => by
  obtain ⟨a, b⟩ := mem_rest.mp hx
  exact mem_rest.mpr ⟨a, fun z => b (h x z)⟩
theorem keep_min {W : Wk} {ls : List Lk} (hW : W.Ok) (hl : ∀ l ∈ ls, l.Ok W) : ∀ (ps l : List Nat), ∀ p ∈ ps, p ∈ ps.foldl (keepStep W ls) l → roomsB W ls (restOf W.parts.length (lessOf (ps.foldl (keepStep W ls) l) p)) = true
  | [], _, p, h, _ => by cases h
  | q :: ps, l, p, h, hp => by
    rw [List.foldl_cons] at hp ⊢
    by_cases e : p ∈ ps
    · exact keep_min hW hl ps _ p e hp
    · have epq : p = q := (List.mem_cons.mp h).resolve_right e
      subst epq
      have hs := keep_sub (W := W) (ls := ls) ps (keepStep W ls l p)
      by_cases c : roomsB W ls (restOf W.parts.length (lessOf l p)) = true
      · refine roomsB_mono hW hl (rest_anti fun x hx => ?_) c
        obtain ⟨h1, h2⟩ := mem_less.mp hx
        have h3 := hs.subset h1
        unfold keepStep at h3
        rw [if_pos c] at h3
        exact mem_less.mpr ⟨h3, h2⟩
      · have h3 := hs.subset hp
        unfold keepStep at h3
        rw [if_neg c] at h3
        exact absurd rfl (mem_less.mp h3).2
theorem kept_min {W : Wk} {ls : List Lk} {b : List Nat} (hW : W.Ok) (hl : ∀ l ∈ ls, l.Ok W) : ∀ p ∈ keptOf W ls b, roomsB W ls (restOf W.parts.length (lessOf (keptOf W ls b) p)) = true := fun p hp =>
  keep_min hW hl _ _ p ((keep_sub _ _).subset hp) hp
theorem kept_all {W : Wk} {ls : List Lk} {b : List Nat} : keptOf W ls b ∈ allSets W.parts.length := mem_allSets.mpr ((keep_sub _ _).trans List.filter_sublist)
theorem all_set {W : Wk} (hW : W.Ok) {b : List Nat} (h : b ∈ allSets W.parts.length) : SetOk W b := by
  obtain ⟨h1, h2, h3⟩ := allSets_ok h
  exact ⟨h1, h2, by have := hW.p10; omega⟩
theorem any_nD {l : List Nat} {x : Nat} : ((l.map nD).any fun z => PyData.eqv z (nD x)) = decide (x ∈ l) := by
  rw [List.any_map, Bool.eq_iff_iff, List.any_eq_true, decide_eq_true_iff]
  constructor
  · rintro ⟨y, hy, e⟩
    have e : PyData.eqv (.int (y : Int)) (.int (x : Int)) = true := e
    simp only [PyData.eqv, beq_iff_eq] at e
    have : y = x := by omega
    subst this
    exact hy
  · intro h
    exact ⟨x, h, (pl_int 0 _).refl⟩
end DL

namespace DL
open PySem PySem.Spec PyProof.Rows L2
variable [Lam]
section
variable {X : Cx} {en : En} {e : Expr} {es : List Expr} {p pos : Pos} {d : PD} {ds : List PD} {x : Str} {n : Nat} {R1 R2 : List PD → PD → Prop}
/-- a def of two promises -/
theorem de_two (G1 : Dn X.prog X.w X.K X.mg X.base n x R1 .c) (G2 : Dn X.prog X.w X.K X.mg X.base n x R2 .o) (hr : Room n X.A) (ha : DA X en (e :: es) .c ds) (h : R1 ds d ∨ R2 ds d) (hg : glB X x = true := by kernel_rfl) (hdb : (x == ("__debug__" : Str)) = false := by kernel_rfl) (he : starEach (e :: es) X.env = (false, eval e X.env) :: starEach es X.env := by kernel_rfl)
    (hpl : (backTo pos (starEach es X.env)).any (·.1) = false := by kernel_rfl) : DE X en (.Call (.Name x p) (e :: es) [] pos) .c d := by
  rcases h with h | h
  · exact de_call G1 hr ha h hg hdb he hpl
  · exact (de_call G2 hr ha h hg hdb he hpl).kc
end
def roomD : PD := .list [.str "room"]
theorem kit_lt : kitB "list" "tuple" = some false := by decide +kernel
theorem kit_tl : kitB "tuple" "list" = some false := by decide +kernel
/-- what isinstance asks of an error's class -/
def excCB (K : PySem.W.Frag) (D : Addr) : Bool := decide (PySem.W.findIn K (.ref D) "__getattribute__" = some (some (.builtin "BaseException.__getattribute__"))) && (decide (PySem.W.findIn K (.ref D) "__getattr__" = some none) && (decide (PySem.W.subIn K (.ref D) (.type "BaseException") = some true) && (PySem.W.hasDictIn K D && (decide (PySem.W.findIn K (.ref D) "__class__" = some (some (.builtin "object.__class__"))) &&
  (decide (PySem.W.specialIn K (.builtin "object.__class__") "__get__" = some (some (.builtin "getset_descriptor.__get__"))) && (decide (PySem.W.takesIn K (.builtin "object.__class__") = some true) && decide (PySem.W.mroIn K D (.type "object") = some true)))))))
theorem excC_of {K : PySem.W.Frag} {D : Addr} (h : excCB K D = true) : ExcC K D := by
  unfold excCB at h
  simp only [Bool.and_eq_true, decide_eq_true_eq] at h
  obtain ⟨h1, h2, h3, h4, h5, h6, h7, h8⟩ := h
  exact ⟨h1, h2, h3, h4, h5, h6, h7, h8⟩
def kitX (K : PySem.W.Frag) (D : Addr) (b : Str → Bool) : Bool := excNs.all fun q => decide (PySem.W.kitOne K (.ref D) (.ref (He.ga K q.2)) = some (b q.2))
theorem excK_of {K : PySem.W.Frag} {mg : Str → Option Value} {D : Addr} {b : Str → Bool} (h1 : kitX K D b = true) (hg : ∀ q ∈ excNs, mg q.2 = some (.ref (He.ga K q.2))) (h2 : decide (PySem.W.kitOne K (.ref D) (.type "ValueError") = some true) = true) (h3 : mg "ValueError" = none) (h4 : excCB K D = true) : ExcK K mg D b :=
  ⟨fun q hq => ⟨_, hg q hq, of_decide_eq_true (List.all_eq_true.mp h1 q hq)⟩, of_decide_eq_true h2, h3, excC_of h4⟩
theorem FnW.mono {P : Program} {w : World} {K : PySem.W.Frag} {mg : Str → Option Value} {base : Heap} {k m : Nat} {f : Addr} {fd : FuncData} {ps : List Str} {sp : SpW} (h : FnW P w K mg base k f fd ps sp) (l : k ≤ m) : FnW P w K mg base m f fd ps sp :=
  ⟨fun A outer s H args us vs Q p hr => h.run A outer s H args us vs Q p (hr.mono l)⟩
theorem WDn.up {P : Program} {w : World} {K : PySem.W.Frag} {mg : Str → Option Value} {base : Heap} {k m : Nat} {x : Str} {D : Addr} {d : PD} (h : WDn P w K mg base k x D d) (l : k ≤ m) : WDn P w K mg base m x D d := by
  obtain ⟨f, fd, ps, F, r⟩ := h
  exact ⟨f, fd, ps, F.mono l, r⟩
theorem exc_names {K : PySem.W.Frag} {mg : Str → Option Value} (h1 : mg "BadWork" = some (.ref (He.ga K "BadWork"))) (h2 : mg "BadGiven" = some (.ref (He.ga K "BadGiven"))) (h3 : mg "BadLook" = some (.ref (He.ga K "BadLook"))) (h4 : mg "BadSet" = some (.ref (He.ga K "BadSet"))) (h5 : mg "HasRoom" = some (.ref (He.ga K "HasRoom")))
    (h6 : mg "NoLine" = some (.ref (He.ga K "NoLine"))) (h7 : mg "NoLook" = some (.ref (He.ga K "NoLook"))) (h8 : mg "BadText" = some (.ref (He.ga K "BadText"))) : ∀ q ∈ excNs, mg q.2 = some (.ref (He.ga K q.2)) := fun q hq => by
  unfold excNs at hq
  rcases List.mem_cons.mp hq with rfl | hq
  · exact h1
  rcases List.mem_cons.mp hq with rfl | hq
  · exact h2
  rcases List.mem_cons.mp hq with rfl | hq
  · exact h3
  rcases List.mem_cons.mp hq with rfl | hq
  · exact h4
  rcases List.mem_cons.mp hq with rfl | hq
  · exact h5
  rcases List.mem_cons.mp hq with rfl | hq
  · exact h6
  rcases List.mem_cons.mp hq with rfl | hq
  · exact h7
  rcases List.mem_cons.mp hq with rfl | hq
  · exact h8
  cases hq
end DL

namespace DL
open PySem PySem.Spec PyProof.Rows L2
variable [Lam]
/-! ### the words of parts, a dict of the module -/
def takesN (z : Str) : Option Nat := if z = "sum" then some 2 else if z = "stop" then some 2 else if z = "pick" then some 3 else if z = "not" then some 1 else none
def wordsK : List Str := ["sum", "stop", "pick", "not", "sums", "stops", "picks", "nots"].map PySem.Str.ofString
structure TakesK (K : PySem.W.Frag) (w : World) (mg : Str → Option Value) : Prop where
  ex : ∃ d es n, mg "TAKES" = some (.ref d) ∧ KDict K w d es n ∧ ∀ z : Str, (takesN z = none ∧ PySem.W.nsIn K d z = some none) ∨ ∃ k t, takesN z = some k ∧ PySem.W.nsIn K d z = some (some (.int (k : Nat) t))
section
variable {X : Cx} {en : En} {a b : Expr} {p pos : Pos} {z : Str} {n : Nat} {ka kb : Kd}
theorem ix_kdT {d : Addr} {es : Array DictEntry} {n : Nat} (D : KDict X.K X.w d es n) : IxR X (fun x y H Q => ∃ (z : Str) (u0 : Value) (v0 : V), x = .ref d ∧ y = .str z ∧ PySem.W.nsIn X.K d z = some (some u0) ∧ RelV v0 u0 ∧ Q v0 H) := by
  intro value slice pins s σ H x y v u Q I rx ry h hs
  obtain ⟨z, u0, v0, rfl, rfl, e, r, q⟩ := h
  cases rx
  refine tail_any (kd_type D I) slot_dict_getitem.lookup (op_item_kd D pins s σ H (.ref d) _ _ _ Q I (show RelV (.ref d) (.ref d) from rfl) ry ⟨z, u0, v0, rfl, rfl, e, r, q⟩) hs
theorem dt_notInK (T : TakesK X.K X.w X.mg) (ha : DE X en a ka (.str z)) (hk : ka ≠ .o := by decide) (hg : glB X "TAKES" = true := by kernel_rfl) (hm : behindInMarks .NotIn (.Name "TAKES" p) = false := by kernel_rfl) : DT X en (.Compare a [.NotIn] [.Name "TAKES" p] pos) (takesN z).isNone := fun B Bo Ho H σ f Q q => by
  obtain ⟨d, es, n, gd, D, h⟩ := T.ex
  refine wT_of (pt_cmpR (op_notIn_kd D) pe_w (pe_glob (v := .ref d) (gl_of hg) gd rfl (by kernel_rfl)) hm) ?_
  refine ha B Bo Ho H σ f _ fun v H1o H1 g1 r1 => ?_
  have r := r1.rpt g1.s
  rw [r.str_inv]
  rcases h z with ⟨e1, e2⟩ | ⟨k, t, e1, e2⟩
  · exact ⟨z, none, rfl, rfl, e2, _, rfl, by rw [e1] at q; exact q H1o H1 g1⟩
  · exact ⟨z, _, rfl, rfl, e2, _, rfl, by rw [e1] at q; exact q H1o H1 g1⟩
theorem de_takes (T : TakesK X.K X.w X.mg) (hn : takesN z = some n) (hb : DE X en b kb (.str z)) (hg : glB X "TAKES" = true := by kernel_rfl) (hs : PlainIx b := by intro _ _; rfl) : DE X en (.Subscript (.Name "TAKES" p) b pos) .c (nD n) := fun B Bo Ho H σ f Q q => by
  obtain ⟨d, es, m, gd, D, h⟩ := T.ex
  refine wE_of (pe_ix (ix_kdT D) (pe_glob (v := .ref d) (gl_of hg) gd rfl (by kernel_rfl)) pe_w hs) ?_
  refine hb B Bo Ho H σ f _ fun v H1o H1 g1 r1 => ?_
  have r := r1.rpt g1.s
  rw [r.str_inv]
  rcases h z with ⟨e1, e2⟩ | ⟨k, t, e1, e2⟩
  · rw [e1] at hn; cases hn
  · rw [e1] at hn
    cases hn
    exact ⟨z, _, .int (n : Nat), rfl, rfl, e2, ⟨t, rfl⟩, q _ H1o H1 g1 (.int _)⟩
end
/-! ### what is a part, a work, of any data -/
def typO (t : PD) : Bool := match t with
  | .dict l => l.isEmpty
  | _ => true
def partOk (t : PD) : Bool := match t with
  | .tuple (.str _ :: xs) => xs.all fun x => (typN x).isSome
  | .tuple (x :: _) => (typN x).isSome
  | t => (typN t).isSome
def partB (t : PD) (line : Int) : Bool := match t with
  | .tuple (.str z :: xs) => (match takesN z with
    | some k => decide (xs.length = k) && xs.all fun x => wholeIn x 0 (line - 1)
    | none => false)
  | _ => false
def workOk (t : PD) : Bool := match t with
  | .tuple [r, i, ps] => (typN r).isSome && ((typN i).isSome && (match ps with
    | .list l => decide (l.length ≤ 1000) && l.all fun p => partOk p && (match p with
      | .tuple xs => decide (xs.length ≤ 1000)
      | _ => true)
    | .dict l => l.isEmpty
    | _ => true))
  | t => (typN t).isSome
def workB (t : PD) : Bool := match t with
  | .tuple [.int r, .int i, .list ps] => (decide (2 ≤ r) && decide (r ≤ 5)) && ((decide (1 ≤ i) && decide (i ≤ 6)) && ((decide (1 ≤ ps.length) && decide (ps.length ≤ 10)) && ps.zipIdx.all fun q => partB q.1 (i + (q.2 : Nat))))
  | _ => false
theorem Rp.tyb0 {K : PySem.W.Frag} {H : Hp} {v : V} (h : Rp K H v (.dict [])) : TyB K H v "dict" := by
  generalize e : PyData.dict [] = d at h
  cases h with
  | dct h r => exact .dK h
  | scr h => simp [DL.scr] at e
  | tux h n r => simp [DL.tx] at e
  | adr a => simp [DL.adD] at e
  | obj h o r => simp [DL.obD] at e
  | fact h => simp [DL.atD] at e
  | _ => cases e
section
variable {X : Cx} {en : En} {a : Expr} {p p2 p3 pos : Pos} {k : Kd}
theorem dt_tyNe0 {m : Nat} {n : String} {tx : Str} (hr : Room m X.A) (hm : X.mg "type" = none) (hmT : X.mg tx = none) (ha : DE X en a k (.dict [])) (hd0 : n ≠ "dict") (hn : Meta n) (hv : bootBuiltins tx = some (.type n)) (hg : glB X "type" = true := by kernel_rfl) (hgT : glB X tx = true := by kernel_rfl)
    (hnn : tx ≠ "__name__" := by decide) (hd : (tx == ("__debug__" : Str)) = false := by kernel_rfl) (he : starEach [a] X.env = (false, eval a X.env) :: starEach [] X.env := by kernel_rfl) (hmk : behindInMarks .NotEq (.Name tx p2) = false := by kernel_rfl) :
    DT X en (.Compare (.Call (.Name "type" p) [a] [] p3) [.NotEq] [.Name tx p2] pos) true := fun B Bo Ho H σ f Q q => by
  refine wT_of (pt_cmpR (op_neTy (hu1 hr)) (pe_callTy call_type1 (gl_of hg) hm (by decide +kernel) (pa_cons pe_w pa_nil he) (he := he)) (pe_bltn (v := .ty n) (gl_of hgT) hmT hv rfl hnn hd) hmk) ?_
  refine ha B Bo Ho H σ f _ fun v H1o H1 g1 r1 => ?_
  refine ⟨v, "dict", rfl, (r1.rpt g1.s).tyb0, ?_⟩
  exact ⟨"dict", n, rfl, rfl, PySem.TypeEq.meta_dict, hn, _, rfl, by rw [decide_eq_false (fun z => hd0 z.symm)]; exact q H1o H1 g1⟩
end
section
variable {X : Cx} {en : En} {a b c : Expr} {pos : Pos} {ka kb kc : Kd}
theorem dt_chainLe {i j m : Int} (ha : DE X en a ka (.int i)) (hb : DE X en b kb (.int j)) (hc : DE X en c kc (.int m)) (hm : lastMarks [.LtE, .LtE] [b, c] = false := by with_unfolding_all rfl) : DT X en (.Compare a [.LtE, .LtE] [b, c] pos) (decide (i ≤ j) && decide (j ≤ m)) := fun B Bo Ho H σ f Q q => by
  refine wT_of (pt_chain op_le op_le pe_w pe_w pe_w hm) ?_
  refine ha B Bo Ho H σ f _ fun v H1o H1 g1 r1 => ?_
  refine hb B Bo H1o H1 σ (f.gr g1) _ fun u H2o H2 g2 r2 => ?_
  refine ⟨i, j, r1.int_inv, r2.int_inv, decide (i ≤ j), rfl, ?_⟩
  by_cases h : i ≤ j
  · rw [if_pos (decide_eq_true h)]
    refine hc B Bo H2o H2 σ ((f.gr g1).gr g2) _ fun w H3o H3 g3 r3 => ?_
    refine ⟨j, m, r2.int_inv, r3.int_inv, _, rfl, ?_⟩
    have := q H3o H3 ((g1.trans g2).trans g3)
    rw [decide_eq_true h, Bool.true_and] at this
    exact this
  · rw [if_neg (fun z => h (of_decide_eq_true z))]
    refine ⟨_, rfl, ?_⟩
    have := q H2o H2 (g1.trans g2)
    rw [decide_eq_false h, Bool.false_and] at this
    exact this
end
section
variable {X : Cx} {en : En} {a : Expr} {pos pos2 : Pos} {ka kb : Kd} {d : PD} {b : Expr}
/-- a is True, a a truth value -/
theorem de_isTr {c : Bool} (ha : DE X en a ka (.bool c)) {j} : DE X en (.Compare a [.Is] [.Constant (.bool true) j pos2] pos) .c (.bool c) := fun B Bo Ho H σ f Q q => by
  refine wE_of (pe_cmpR op_is_bl pe_w pe_bl rfl) ?_
  refine ha B Bo Ho H σ f _ fun v H1o H1 g1 r1 => ?_
  have r := r1.rpt g1.s
  exact ⟨c, true, r.bool_inv, rfl, by rw [show decide (c = true) = c by cases c <;> rfl]; exact q _ H1o H1 g1 (.bl _)⟩
theorem dt_isTr {c : Bool} (ha : DE X en a ka (.bool c)) {j} : DT X en (.Compare a [.Is] [.Constant (.bool true) j pos2] pos) c := fun B Bo Ho H σ f Q q => by
  refine wT_of (pt_cmpR op_is_bl pe_w pe_bl rfl) ?_
  refine ha B Bo Ho H σ f _ fun v H1o H1 g1 r1 => ?_
  have r := r1.rpt g1.s
  exact ⟨c, true, r.bool_inv, rfl, _, rfl, by rw [show decide (c = true) = c by cases c <;> rfl]; exact q H1o H1 g1⟩
theorem dt_isntTr {c : Bool} (ha : DE X en a ka (.bool c)) {j} : DT X en (.Compare a [.IsNot] [.Constant (.bool true) j pos2] pos) (!c) := fun B Bo Ho H σ f Q q => by
  refine wT_of (pt_cmpR op_isnot_bl pe_w pe_bl rfl) ?_
  refine ha B Bo Ho H σ f _ fun v H1o H1 g1 r1 => ?_
  have r := r1.rpt g1.s
  exact ⟨c, true, r.bool_inv, rfl, _, rfl, by rw [show decide (c = true) = c by cases c <;> rfl]; exact q H1o H1 g1⟩
/-- s + t, texts -/
theorem de_catS {x y : Str} (ha : DE X en a ka (.str x)) (hb : DE X en b kb (.str y)) (hl : x.length + y.length ≤ 100000) : DE X en (.BinOp a .Add b pos) .c (.str (x ++ y)) :=
  de_op op_add_str ha hb fun H0 H0' Ho H v u s r1 r2 Q q => ⟨x, y, (r1.rpt s).str_inv, (r2.rpt s).str_inv, sz100 hl, q _ Ho H (.refl s) (.str _)⟩
theorem rep_rp {K : PySem.W.Frag} {H : Hp} {xs : List V} {es : List PD} (r : RpA K H xs es) : ∀ n : Nat, RpA K H (List.replicate n xs).flatten (List.replicate n es).flatten
  | 0 => .nil
  | n + 1 => by
    rw [List.replicate_succ, List.replicate_succ, List.flatten_cons, List.flatten_cons]
    exact r.app (rep_rp r n)
/-- xs * n -/
theorem de_repL {es : List PD} {n : Nat} (ha : DE X en a ka (.list es)) (hb : DE X en b kb (.int (n : Nat))) (hl : es.length * n ≤ 100000) (hn : n ≤ 1000) (h1 : ka ≠ .t := by decide) : DE X en (.BinOp a .Mult b pos) .o (.list (List.replicate n es).flatten) :=
  de_op op_rep ha hb fun H0 H0' Ho H v u s r1 r2 Q q => by
    obtain ⟨p, xs, rfl, q1, r1⟩ := r1.rpe s h1
    rw [(r2.rpt s).int_inv]
    refine ⟨p, (n : Nat), xs, rfl, rfl, q1, by omega, by omega, sz100 (by rw [r1.len]; simpa using hl), ?_⟩
    rw [Int.toNat_natCast]
    refine fun p hp => q _ _ _ (.tmp s hp) ⟨p, rfl, hp, s.free hp, _, upd_same, ?_⟩
    exact rep_rp r1 n
end
end DL

namespace DL
open PySem PySem.Spec PyProof.Rows L2
variable [Lam]
/-! ### a class whose __init__ raises -/
section
variable {P : Program} {w : World} {K : PySem.W.Frag} {mg : Str → Option Value} {base : Heap}
theorem fn_mkR2 {nm qual : Str} {st : Stmt} {f : Addr} {fd : FuncData} {N ps : List Str} {k : Nat} {C : Addr} (F : FunD K nm qual (defArgs st) (defBody st) (defScope st) [] [] f fd) (S : FnScope N ps (defScope st)) (R : List PD → Prop) (hlen : ∀ ds, R ds → ds.length = ps.length)
    (hb : ∀ (cdv : Value) (A : Around) (outer : List Env) (s : Shared) (H : Hp) (E : XK), Room k (A.deeper (envOfC qual (defScope st) s.heap.objs.size f cdv)) → ∀ ds, R ds →
      ∃ enR, DSsR (cxOf (L2N.CX P w) P w K mg base N qual (defScope st) f cdv A outer s H E) (startE N ds) (defBody st) C enR) : FnOk P w K mg base (L2N.CX P w) (k + 1) f fd ps (spR K R C) := by
  refine F.ok S (fun vs H Q E h => ?_) (fun cdv A outer s H vs Q E hr h => ?_)
  · obtain ⟨Bo, ds, _, _, r, h, _⟩ := h
    rw [r.len]
    exact hlen ds h
  · obtain ⟨Bo, ds, sb, tb, r, h, q⟩ := h
    obtain ⟨enR, hb⟩ := hb cdv A outer s H E hr ds h
    refine ⟨_, pss_w, ?_⟩
    exact hb _ (L2N.takes_of rfl rfl rfl rfl) H Bo Bo H _ (fit_start sb tb r) (fun σ' Ho' H' f' => q Ho' H' f'.gr0) _
end
structure MkR (P : Program) (w : World) (K : PySem.W.Frag) (mg : Str → Option Value) (base : Heap) (n : Nat) (x : Str) (R : List PD → Prop) (C : Addr) : Prop where
  ex : ∃ D f fd ps, FnOk P w K mg base (L2N.CX P w) n f fd ps (spR K R C) ∧ mg x = some (.ref D) ∧ Mk K D f ∧ Binds K fd ps []
theorem MkR.up {P : Program} {w : World} {K : PySem.W.Frag} {mg : Str → Option Value} {base : Heap} {n m : Nat} {x : Str} {R : List PD → Prop} {C : Addr} (h : MkR P w K mg base n x R C) (l : n ≤ m) : MkR P w K mg base m x R C := by
  obtain ⟨D, f, fd, ps, F, r⟩ := h
  exact ⟨D, f, fd, ps, F.mono l, r⟩
section
variable {X : Cx} {en enR : En} {e : Expr} {es : List Expr} {ss : List Stmt} {p pos pos' : Pos} {C D : Addr} {x : Str} {n : Nat} {R : List PD → Prop} {ds : List PD}
theorem dsr_expr (G : RDn X.prog X.w X.K X.mg X.base n x R C) (hr : Room n X.A) (ha : DA X en (e :: es) .c ds) (h : R ds) (hg : glB X x = true := by kernel_rfl) (hdb : (x == ("__debug__" : Str)) = false := by kernel_rfl) (he : starEach (e :: es) X.env = (false, eval e X.env) :: starEach es X.env := by kernel_rfl)
    (hpl : (backTo pos (starEach es X.env)).any (·.1) = false := by kernel_rfl) (hs : swapsWith (.Call (.Name x p) (e :: es) [] pos) none pos'.line X.env = pure false := by kernel_rfl) : DSsR X en (.Expr (.Call (.Name x p) (e :: es) [] pos) pos' :: ss) C en := fun W tk B Bo Ho H σ f q Z => by
  obtain ⟨fa, fd, ps, F, hm, hk, hb⟩ := G
  refine wSs_of (pss_cons (ps_expr (pe_callS (E := WE W) F hr (gl_of hg) hm hk hb (fun σ => L2N.passAt tk σ) pa_w hdb he hpl) hs) pss_w) ?_
  refine ha B Bo Ho H σ f _ fun vs H1o H1 g1 r1 => ?_
  exact ⟨H1o, ds, g1.s, g1.tb f.tb, r1, h, fun H2o H2 g2 => q σ H2o H2 ((f.gr g1).gr g2)⟩
/-- C(..), what its __init__ lets out may ask of the slots -/
theorem made_at {pl : List (Addr × Obj)} {σ : L2.St} {H : Hp} {s : Shared} {Q : VK} {us : List Value} {vs : List V} {f : Addr} {fd : FuncData} {ps : List Str} {sp : Sp} {CX : CXT} {E : XK} (M : Mk X.K D f) (F : FnOk X.prog X.w X.K X.mg X.base CX n f fd ps sp) (hr : Room (n + 1) X.A) (hb : Binds X.K fd ps [])
    (hx : PassesAt CX X σ E) (I : Inv X pl σ H s) (r : Vals vs us) (h : ∀ a dx, H a = none → H dx = none → dx ≠ a → sp (.ref a :: vs) (upd (upd H dx (.own a)) a (.ins D dx [])) (fun v H2 => v = .non ∧ Q (.ref a) H2) E) :
    wpAny (model X.prog X.w) X.A (call (.ref D) us) (EP X pl σ Q) X.xe s := by
  have hz := h (s.heap.objs.size + 1) s.heap.objs.size (I.hok.fresh (Nat.le_succ _)) (I.hok.fresh (Nat.le_refl _)) (Nat.ne_of_lt (Nat.lt_succ_self _))
  have J := Inv.made (C := D) I
  have rr : Vals (V.ref (s.heap.objs.size + 1) :: vs) (Value.ref (s.heap.objs.size + 1) :: us) := .cons rfl r
  have hl : (Value.ref (s.heap.objs.size + 1) :: us ++ []).length = ps.length := by
    rw [List.append_nil, ← rr.length]
    exact F.len _ _ _ _ hz
  have bb := hb _ (Value.ref (s.heap.objs.size + 1) :: us) J.kIn hl
  rw [List.append_nil] at bb
  refine wpAny_call (make_map (f := f) I.kIn M.makes M.init (beq_iff_eq.mp M.fn) (codeAny_mono (F.run _ X.stack _ _ ⟨Value.ref (s.heap.objs.size + 1) :: us, []⟩ (Value.ref (s.heap.objs.size + 1) :: us) _ _ E (hr.make D us []) (J.env0.make D us []) bb rr hz) fun z s2 q2 => ?_))
  cases z with
  | error e => exact hx pl _ _ e s2 J q2
  | ok fl =>
    cases fl with
    | ret u =>
      obtain ⟨v, H2, J2, rv, ev, q3⟩ := J.after q2
      subst ev
      exact ⟨rv, ⟨V.ref (s.heap.objs.size + 1), H2, J2, rfl, q3⟩⟩
    | next => exact False.elim q2
    | brk => exact False.elim q2
    | cont => exact False.elim q2
theorem dsr_make (G : MkR X.prog X.w X.K X.mg X.base n x R C) (hr : Room (n + 1) X.A) (ha : DA X en (e :: es) .c ds) (h : ∀ a, R (adD a :: ds)) (hg : glB X x = true := by kernel_rfl) (hdb : (x == ("__debug__" : Str)) = false := by kernel_rfl) (he : starEach (e :: es) X.env = (false, eval e X.env) :: starEach es X.env := by kernel_rfl)
    (hpl : (backTo pos (starEach es X.env)).any (·.1) = false := by kernel_rfl) (hs : swapsWith (.Call (.Name x p) (e :: es) [] pos) none pos'.line X.env = pure false := by kernel_rfl) : DSsR X en (.Expr (.Call (.Name x p) (e :: es) [] pos) pos' :: ss) C en := fun W tk B Bo Ho H σ f q Z => by
  obtain ⟨D, fa, fd, ps, F, hm, M, hb⟩ := G
  have pe : PE X (.Call (.Name x p) (e :: es) [] pos) (fun σ H Q => wA X (e :: es) σ H fun vs H1 => ∀ a dx, H1 a = none → H1 dx = none → dx ≠ a → spR X.K R C (.ref a :: vs) (upd (upd H1 dx (.own a)) a (.ins D dx [])) (fun v H2 => v = .non ∧ Q (.ref a) H2) (WE W σ)) := by
    refine ⟨fun pl s σ H Q I h => ?_⟩
    refine wpAny_Call_Name_kw (ld_glob I (gl_of hg) hm ?_ hdb)
    refine PySem.W.callWith_K (h₀ := X.base) I.ok.mod.kin M.kp (thn (pa_w.run pos pl s σ H _ I h) fun us s1 z => ?_) he hpl
    obtain ⟨vs, H1, I1, r, q⟩ := z
    exact ⟨I1.kIn, made_at M F hr hb (L2N.passAt tk σ) I1 r q⟩
  refine wSs_of (pss_cons (ps_expr pe hs) pss_w) ?_
  refine ha B Bo Ho H σ f _ fun vs H1o H1 g1 r1 => fun a dx na nd ne => ?_
  have g2 : Gr H1o H1 H1o (upd H1 dx (.own a)) := .tmp g1.s nd
  have g3 : Gr H1o (upd H1 dx (.own a)) H1o (upd (upd H1 dx (.own a)) a (.ins D dx [])) := .tmp g2.s (by rw [upd_ne (fun z => ne z.symm)]; exact na)
  have g := (g1.trans g2).trans g3
  exact ⟨H1o, adD a :: ds, g.s, g.tb f.tb, .cons (.adr a) r1, h a, fun H2o H2 g4 => q σ H2o H2 ((f.gr g).gr g4)⟩
end
def clsBody (s : Stmt) : List Stmt := match s with
  | .ClassDef _ _ _ b _ _ _ _ _ _ _ => b
  | _ => []
theorem de_eqU {X : Cx} {en : En} {a b : Expr} {pos : Pos} {ka kb : Kd} {da db : PD} (hu : X.A.units + 64 < cLine) (ha : DE X en a ka da) (hb : DE X en b kb db) (h1 : SeqAt.shaped da = true) (h2 : SeqAt.shaped db = true) (hm : behindInMarks .Eq b = false := by kernel_rfl) : DE X en (.Compare a [.Eq] [b] pos) .c (.bool (PyData.eqv da db)) :=
  de_cmp (op_eqD hu) ha hb (o2_eqD h1 h2) hm
/-! ### the head's facts, with a dict of the module -/
def takesB (K : PySem.W.Frag) : Bool := wordsK.all fun z => match takesN z, PySem.W.nsIn K (He.ga K "TAKES") z with
  | none, some none => true
  | some k, some (some (.int j _)) => decide (j = (k : Nat))
  | _, _ => false
theorem find_no {P : Params} {z : Str} : ∀ {l : List DictEntry} {ks : List Str}, l.map He.keyOf = He.keysIn P ks → z ∉ ks → l.find? (·.key.isStr z) = none ∧ l.any (·.refKey) = false
  | [], _, _, _ => ⟨rfl, rfl⟩
  | e :: r, [], h, _ => by cases h
  | e :: r, k :: ks, h, hz => by
    have h1 : He.keyOf e :: r.map He.keyOf = some (k, PyData.keyHash P k) :: He.keysIn P ks := h
    injection h1 with h2 h3
    obtain ⟨i1, i2⟩ := find_no h3 fun m => hz (List.mem_cons_of_mem _ m)
    obtain ⟨hh, kk, vv⟩ := e
    cases kk with
    | str x t =>
      have h4 := Option.some.inj h2
      have h5 : x = k := (Prod.mk.inj h4).1
      subst h5
      have nz : (Value.str x t).isStr z = false := by
        cases q : (Value.str x t).isStr z with
        | false => rfl
        | true =>
          exfalso
          apply hz
          have : x = z := by
            unfold Value.isStr at q
            first | exact of_decide_eq_true q | exact beq_iff_eq.mp q | simpa using q
          rw [← this]
          exact List.mem_cons_self
      refine ⟨?_, ?_⟩
      · rw [List.find?_cons]
        show (match (Value.str x t).isStr z with | true => _ | false => _) = _
        rw [nz]
        exact i1
      · rw [List.any_cons, i2]
        rfl
    | _ => cases h2
theorem nsIn_no {K : PySem.W.Frag} {P : Params} {a : Addr} {ks : List Str} {z : Str} (hd : He.dicW K a = some (He.keysIn P ks)) (hz : z ∉ ks) : PySem.W.nsIn K a z = some none := by
  unfold He.dicW at hd
  unfold PySem.W.nsIn
  split at hd
  · rename_i c es n sl e
    split at hd
    · obtain ⟨i1, i2⟩ := find_no (Option.some.inj hd) hz
      rw [e]
      simp only [i1, i2]
      rfl
    · cases hd
  · cases hd
theorem takesN_words (z : Str) (h : takesN z ≠ none) : z ∈ wordsK := by
  unfold takesN at h
  by_cases h1 : z = "sum"
  · subst h1; decide +kernel
  by_cases h2 : z = "stop"
  · subst h2; decide +kernel
  by_cases h3 : z = "pick"
  · subst h3; decide +kernel
  by_cases h4 : z = "not"
  · subst h4; decide +kernel
  rw [if_neg h1, if_neg h2, if_neg h3, if_neg h4] at h
  exact absurd rfl h
theorem takesK_of {K : PySem.W.Frag} {w : World} {mg : Str → Option Value} {ks : List Str} (h : takesB K = true) (hd : He.dicW K (He.ga K "TAKES") = some (He.keysIn w.params ks)) (hg : mg "TAKES" = some (.ref (He.ga K "TAKES"))) (hk : ∀ z, takesN z ≠ none → z ∈ wordsK) (hk2 : ∀ z ∈ ks, takesN z ≠ none) : TakesK K w mg := by
  obtain ⟨es, n, D⟩ := He.dicW_ok hd
  refine ⟨⟨_, es, n, hg, D, fun z => ?_⟩⟩
  by_cases hz0 : takesN z = none
  · exact .inl ⟨hz0, nsIn_no hd fun hm => hk2 z hm hz0⟩
  have q := List.all_eq_true.mp h z (hk z hz0)
  revert q
  cases e1 : takesN z with
  | none =>
    cases e2 : PySem.W.nsIn K (He.ga K "TAKES") z with
    | none => intro q; cases q
    | some o =>
      cases o with
      | none => intro _; exact .inl ⟨rfl, rfl⟩
      | some v => intro q; cases q
  | some k =>
    cases e2 : PySem.W.nsIn K (He.ga K "TAKES") z with
    | none => intro q; cases q
    | some o =>
      cases o with
      | none => intro q; cases q
      | some v =>
        cases v with
        | int j t => intro q; have q : decide (j = (k : Nat)) = true := q; exact .inr ⟨k, t, rfl, by rw [of_decide_eq_true q]⟩
        | _ => intro q; cases q
end DL

namespace DL
open PySem PySem.Spec PyProof.Rows L2
/-! ### the head's facts, with a dict of the module beside -/
abbrev AlY : Type := (He.AlD × Bool) × Option (List (Option (Str × Int)))
def obsY (fa : List He.Fa) (fn : List He.DefD) (more : List (PySem.W.Frag → Bool)) (lam : List Str) (tab : Str) (K : PySem.W.Frag) (g : Addr → Option Obj) : AlY := (obsX fa fn more lam K g, He.dicW K (He.ga K tab))
def hookY (n : Nat) (fa : List He.Fa) (fn : List He.DefD) (more : List (PySem.W.Frag → Bool)) (lam : List Str) (tab : Str) (ks : List Str) : PySem.W.Hook where
  α := AlY
  obs := fun s => obsY fa fn more lam tab (frT s.heap.get? n) s.heap.get?
  val := fun w => ((He.valD fn, true), some (He.keysIn w.params ks))
  says := fun w h => ∃ (K : PySem.W.Frag) (g : Addr → Option Obj), K.In h ∧ (∀ a o, g a = some o → h.get? a = some o) ∧ obsY fa fn more lam tab K g = ((He.valD fn, true), some (He.keysIn w.params ks))
  of := fun _ s e => ⟨_, s.heap.get?, He.frG_in, fun _ _ e => e, e⟩
  keeps := fun _ _ _ ⟨K, g, hK, hg, c⟩ k => ⟨K, g, PySem.W.Frag.In.keeps hK k, fun a o e => k a o (hg a o e), c⟩
def obY (n : Nat) (fa : List He.Fa) (fn : List He.DefD) (more : List (PySem.W.Frag → Bool)) (lam : List Str) (tab : Str) (g : Addr → Option Obj) : AlY := obsY fa fn more lam tab (frT g n) g
theorem obY_eq {n : Nat} {fa : List He.Fa} {fn : List He.DefD} {more : List (PySem.W.Frag → Bool)} {lam : List Str} {tab : Str} {ks : List Str} {g : Addr → Option Obj} {s : Shared} (h : ∀ a, g a = s.heap.get? a) : obY n fa fn more lam tab g = (hookY n fa fn more lam tab ks).obs s := by
  have e : g = s.heap.get? := funext h
  rw [e] <;> rfl
end DL

/-! K4: texts: split, join, isdigit (for k14). -/
namespace DL
open PySem PySem.Spec PyProof.Rows L2
section
variable [Lam] {X : Cx} {en : En} {a b : Expr} {ka kb : Kd} {apos pos : Pos}
theorem rpa_strs {K : PySem.W.Frag} {H : Hp} : ∀ ys : List Str, RpA K H (ys.map V.str) (ys.map PyData.str)
  | [] => .nil
  | _ :: r => .cons (.str _) (rpa_strs r)
theorem rpa_strs_inv {K : PySem.W.Frag} {H : Hp} : ∀ {xs : List V} {ys : List Str}, RpA K H xs (ys.map PyData.str) → xs = ys.map V.str
  | [], [], _ => rfl
  | _ :: _, [], h => nomatch h
  | [], _ :: _, h => nomatch h
  | _ :: _, _ :: _, .cons h r => by rw [h.str_inv, rpa_strs_inv r]; rfl
/-- a.split(b) -/
theorem de_split {x y : Str} (ha : DE X en a .c (.str x)) (hb : DE X en b .c (.str y)) (hy : (y.length == 0) = false) (hl : x.length ≤ 90000)
    (hs : starEach [b] X.env = [(false, eval b X.env)] := by rfl) (hbase : attributeBase a "split" X.env (eval a X.env) = eval a X.env := by rfl) (hline : (apos.endLine == pos.line) = true := by rfl) :
    DE X en (.Call (.Attribute a "split" apos) [b] [] pos) .o (.list ((Txt.split x y).map PyData.str)) := fun B Bo Ho H σ f Q q => by
  refine wE_of (pe_split pe_w pe_w hs hbase hline) ?_
  refine ha B Bo Ho H σ f _ fun v H1o H1 g1 r1 => ⟨⟨x, r1.str_inv⟩, ?_⟩
  refine hb B Bo H1o H1 σ (f.gr g1) _ fun u H2o H2 g2 r2 => ?_
  rw [r1.str_inv, r2.str_inv]
  refine ⟨x, y, rfl, rfl, hy, by rw [sizeLine_eq]; omega, fun p hp => ?_⟩
  have g := g1.trans g2
  exact q _ _ _ (g.trans (.tmp g2.s hp)) ⟨p, rfl, g.h.free hp, g.s.free hp, _, upd_same, rpa_strs _⟩
/-- a.join(list of texts) -/
theorem de_joinL {x : Str} {ys : List Str} (ha : DE X en a .c (.str x)) (hb : DE X en b .e (.list (ys.map PyData.str))) (hl : (ys.map (·.length)).sum + ys.length * x.length ≤ 16777216)
    (hs : starEach [b] X.env = [(false, eval b X.env)] := by rfl) (hbase : attributeBase a "join" X.env (eval a X.env) = eval a X.env := by rfl) (hline : (apos.endLine == pos.line) = true := by rfl) :
    DE X en (.Call (.Attribute a "join" apos) [b] [] pos) .c (.str (Str.join x ys)) := fun B Bo Ho H σ f Q q => by
  rw [← StrLaws.glued_eq_join] at q
  refine wE_of (pe_join pe_w pe_w hs hbase hline) ?_
  refine ha B Bo Ho H σ f _ fun v H1o H1 g1 r1 => ⟨⟨x, r1.str_inv⟩, ?_⟩
  refine hb B Bo H1o H1 σ (f.gr g1) _ fun u H2o H2 g2 r2 => ?_
  rw [r1.str_inv]
  obtain ⟨p, xs, rfl, q1, r2⟩ := RpE.lt r2
  refine ⟨x, p, ys, rfl, rfl, .inl ?_, hl, q _ _ _ (g1.trans g2) (.str _)⟩
  rw [← rpa_strs_inv r2]
  exact .inl (.inl q1)
/-- a.isdigit() -/
theorem de_isdigit {x : Str} (ha : DE X en a .c (.str x)) (hbase : attributeBase a "isdigit" X.env (eval a X.env) = eval a X.env := by rfl) (hline : (apos.endLine == pos.line) = true := by rfl) :
    DE X en (.Call (.Attribute a "isdigit" apos) [] [] pos) .c (.bool (Txt.isdigit x)) := fun B Bo Ho H σ f Q q => by
  refine wE_of (pe_m0 F.slot_str_isdigit F.type_str_isdigit mt_isdigit pe_w hbase hline) ?_
  refine ha B Bo Ho H σ f _ fun v H1o H1 g1 r1 => ⟨⟨x, r1.str_inv⟩, ?_⟩
  rw [r1.str_inv]
  exact ⟨x, rfl, rfl, trivial, q _ _ _ g1 (.bl _)⟩
/-- a.isascii() -/
theorem de_isascii {x : Str} (ha : DE X en a .c (.str x)) (hbase : attributeBase a "isascii" X.env (eval a X.env) = eval a X.env := by rfl) (hline : (apos.endLine == pos.line) = true := by rfl) :
    DE X en (.Call (.Attribute a "isascii" apos) [] [] pos) .c (.bool (Txt.isascii x)) := fun B Bo Ho H σ f Q q => by
  refine wE_of (pe_m0 F.slot_str_isascii F.type_str_isascii mt_isascii pe_w hbase hline) ?_
  refine ha B Bo Ho H σ f _ fun v H1o H1 g1 r1 => ⟨⟨x, r1.str_inv⟩, ?_⟩
  rw [r1.str_inv]
  exact ⟨x, rfl, rfl, trivial, q _ _ _ g1 (.bl _)⟩
/-- a.upper() -/
theorem de_upper {x : Str} (ha : DE X en a .c (.str x)) (hl : x.length ≤ 90000) (hbase : attributeBase a "upper" X.env (eval a X.env) = eval a X.env := by rfl) (hline : (apos.endLine == pos.line) = true := by rfl) :
    DE X en (.Call (.Attribute a "upper" apos) [] [] pos) .c (.str (Txt.upper x)) := fun B Bo Ho H σ f Q q => by
  refine wE_of (pe_upper pe_w hbase hline) ?_
  refine ha B Bo Ho H σ f _ fun v H1o H1 g1 r1 => ⟨⟨x, r1.str_inv⟩, ?_⟩
  rw [r1.str_inv]
  exact ⟨x, rfl, rfl, by omega, q _ _ _ g1 (.str _)⟩
/-- a.rfind(b) -/
theorem de_rfind {x y : Str} (ha : DE X en a .c (.str x)) (hb : DE X en b .c (.str y)) (hs : starEach [b] X.env = [(false, eval b X.env)] := by rfl) (hbase : attributeBase a "rfind" X.env (eval a X.env) = eval a X.env := by rfl) (hline : (apos.endLine == pos.line) = true := by rfl) :
    DE X en (.Call (.Attribute a "rfind" apos) [b] [] pos) .c (.int (Txt.rfind x y)) := fun B Bo Ho H σ f Q q => by
  refine wE_of (pe_m1 F.slot_str_rfind F.type_str_rfind mt_rfind pe_w pe_w hs hbase hline) ?_
  refine ha B Bo Ho H σ f _ fun v H1o H1 g1 r1 => ⟨⟨x, r1.str_inv⟩, ?_⟩
  refine hb B Bo H1o H1 σ (f.gr g1) _ fun u H2o H2 g2 r2 => ?_
  rw [r1.str_inv, r2.str_inv]
  exact ⟨x, y, rfl, rfl, q _ _ _ (g1.trans g2) (.int _)⟩
/-- int(a), a a text of digits -/
theorem de_intS {p : Pos} {x : Str} {n : Int} (hm : X.mg "int" = none) (ha : DE X en a .c (.str x)) (hn : PySem.intText? x = some n) (hl : x.length ≤ 640) (hg : glB X "int" = true := by kernel_rfl) (he : starEach [a] X.env = (false, eval a X.env) :: starEach [] X.env := by kernel_rfl) :
    DE X en (.Call (.Name "int" p) [a] [] pos) .c (.int n) := fun B Bo Ho H σ f Q q => by
  refine wE_of (pe_callTy call_int_str (gl_of hg) hm (by decide +kernel) (pa_cons pe_w pa_nil he) (he := he)) ?_
  refine ha B Bo Ho H σ f _ fun v H1o H1 g1 r1 => ?_
  rw [r1.str_inv]
  exact ⟨x, n, rfl, hn, hl, q _ _ _ g1 (.int _)⟩
/-- len(a), a a text -/
theorem de_lenS {p : Pos} {x : Str} (hm : X.mg "len" = none) (ha : DE X en a .c (.str x)) (hl : x.length ≤ 90000) (hg : glB X "len" = true := by kernel_rfl) (he : starEach [a] X.env = (false, eval a X.env) :: starEach [] X.env := by kernel_rfl) :
    DE X en (.Call (.Name "len" p) [a] [] pos) .c (.int (x.length : Nat)) := fun B Bo Ho H σ f Q q => by
  refine wE_of (pe_callB call_len_str (gl_of hg) hm (by decide +kernel) (pa_cons pe_w pa_nil he) (he := he)) ?_
  refine ha B Bo Ho H σ f _ fun v H1o H1 g1 r1 => ?_
  rw [r1.str_inv]
  exact ⟨x, rfl, by rw [sizeLine_eq]; omega, q _ _ _ g1 (.int _)⟩
end
end DL

/-! K5: the mathematics of written works. -/
namespace DL
open PySem PySem.Spec PyProof.Rows L2
/-! ### join and split by one sign -/
theorem join_cons2 (sep x y : Str) (r : List Str) : Str.join sep (x :: y :: r) = x ++ sep ++ Str.join sep (y :: r) := rfl
theorem cut_at {c : Nat} : ∀ {a b s t : List Nat}, c ∉ a → c ∉ b → a ++ c :: s = b ++ c :: t → a = b ∧ s = t
  | [], [], s, t, _, _, h => ⟨rfl, (List.cons.inj h).2⟩
  | [], y :: b, s, t, _, hb, h => absurd (by rw [(List.cons.inj h).1]; exact List.mem_cons_self) hb
  | x :: a, [], s, t, ha, _, h => absurd (by rw [← (List.cons.inj h).1]; exact List.mem_cons_self) ha
  | x :: a, y :: b, s, t, ha, hb, h => by
    obtain ⟨h1, h2⟩ := List.cons.inj h
    obtain ⟨h3, h4⟩ := cut_at (fun m => ha (List.mem_cons_of_mem _ m)) (fun m => hb (List.mem_cons_of_mem _ m)) h2
    exact ⟨by rw [h1, h3], h4⟩
theorem join_cut (c : Nat) (x y : Str) (r : List Str) : (Str.join ⟨#[c]⟩ (x :: y :: r)).cps.toList = x.cps.toList ++ c :: (Str.join ⟨#[c]⟩ (y :: r)).cps.toList := by
  rw [join_cons2, Str.cps_append, Str.cps_append]
  simp
theorem str_ext {a b : Str} (h : a.cps.toList = b.cps.toList) : a = b := Str.ext' (Array.toList_inj.mp h)
theorem join_inj (c : Nat) : ∀ (xs ys : List Str), xs ≠ [] → ys ≠ [] → (∀ x ∈ xs, c ∉ x.cps.toList) → (∀ y ∈ ys, c ∉ y.cps.toList) → Str.join ⟨#[c]⟩ xs = Str.join ⟨#[c]⟩ ys → xs = ys
  | [], _, h, _, _, _, _ => absurd rfl h
  | _, [], _, h, _, _, _ => absurd rfl h
  | [x], [y], _, _, _, _, h => by
    have h : x = y := h
    rw [h]
  | [x], y :: y2 :: r, _, _, hx, _, h => by
    have h1 := congrArg (fun s : Str => s.cps.toList) h
    rw [join_cut] at h1
    have h2 : x.cps.toList = y.cps.toList ++ c :: (Str.join ⟨#[c]⟩ (y2 :: r)).cps.toList := h1
    exact absurd (by rw [h2]; simp) (hx x List.mem_cons_self)
  | x :: x2 :: r, [y], _, _, _, hy, h => by
    have h1 := congrArg (fun s : Str => s.cps.toList) h
    rw [join_cut] at h1
    have h2 : x.cps.toList ++ c :: (Str.join ⟨#[c]⟩ (x2 :: r)).cps.toList = y.cps.toList := h1
    exact absurd (by rw [← h2]; simp) (hy y List.mem_cons_self)
  | x :: x2 :: r, y :: y2 :: s, _, _, hx, hy, h => by
    have h1 := congrArg (fun s : Str => s.cps.toList) h
    rw [join_cut, join_cut] at h1
    obtain ⟨h2, h3⟩ := cut_at (hx x List.mem_cons_self) (hy y List.mem_cons_self) h1
    have ih := join_inj c (x2 :: r) (y2 :: s) (fun z => by cases z) (fun z => by cases z) (fun z hz => hx z (List.mem_cons_of_mem _ hz)) (fun z hz => hy z (List.mem_cons_of_mem _ hz)) (str_ext h3)
    rw [ih, str_ext h2]
theorem split_ne (x y : Str) : Txt.split x y ≠ [] := by
  unfold Txt.split
  split
  · exact fun z => by cases z
  · split
    · exact fun z => by cases z
    · rw [StrLaws.partsBetween_eq]
      obtain ⟨p, r, e⟩ := StrLaws.partsFrom_ne x y.length 0 (Builtin.Str.occurrences x y 0 x.length (x.length + 1))
      rw [e]
      exact fun z => by cases z
theorem split_join {c : Nat} {rows : List Str} (h : rows ≠ []) (hf : ∀ r ∈ rows, c ∉ r.cps.toList) : Txt.split (Str.join ⟨#[c]⟩ rows) ⟨#[c]⟩ = rows :=
  join_inj c _ _ (split_ne _ _) h (StrLaws.split_free _ c) hf (StrLaws.join_split _ _)
theorem mem_join {c : Nat} {sep : Str} : ∀ {xs : List Str}, c ∈ (Str.join sep xs).cps.toList → c ∈ sep.cps.toList ∨ ∃ x ∈ xs, c ∈ x.cps.toList
  | [], h => by simp [Str.join, Str.empty] at h
  | [x], h => .inr ⟨x, List.mem_cons_self, h⟩
  | x :: y :: r, h => by
    rw [join_cons2, Str.cps_append, Str.cps_append] at h
    simp only [Array.toList_append, List.mem_append] at h
    rcases h with (h | h) | h
    · exact .inr ⟨x, List.mem_cons_self, h⟩
    · exact .inl h
    · rcases mem_join h with h | ⟨z, hz, h⟩
      · exact .inl h
      · exact .inr ⟨z, List.mem_cons_of_mem _ hz, h⟩
/-! ### numbers and words -/
def blS : Str := ⟨#[32]⟩
def nlS : Str := ⟨#[10]⟩
theorem blS_eq : (" " : Str) = blS := by decide +kernel
theorem nlS_eq : ("\n" : Str) = nlS := by decide +kernel
def strN (n : Nat) : Str := Str.ofString (toString (n : Int))
def numB (x : Str) : Bool := decide (2 < x.length) || !Txt.isascii x || !Txt.isdigit x
theorem strN_ok : ∀ n, n < 100 → (strN n).length ≤ 2 ∧ 32 ∉ (strN n).cps.toList ∧ 10 ∉ (strN n).cps.toList ∧ numB (strN n) = false ∧ PySem.intText? (strN n) = some (n : Int) := by decide +kernel
def dec (w : Str) : Option Nat := (List.range 100).find? fun n => decide (strN n = w)
theorem dec_str : ∀ n, n < 100 → dec (strN n) = some n := by decide +kernel
theorem dec_eq {w : Str} {n : Nat} (h : dec w = some n) : strN n = w ∧ n < 100 := by
  unfold dec at h
  have h1 := List.find?_some h
  exact ⟨of_decide_eq_true h1, List.mem_range.mp (List.mem_of_find?_eq_some h)⟩
theorem dig_c : ∀ c, c < 128 → Unicode.isDigit c = true → 48 ≤ c ∧ c ≤ 57 := by decide +kernel
theorem int_1 : ∀ a, a < 10 → (PySem.intText? ⟨#[48 + a]⟩).isSome = true := by decide +kernel
theorem int_2 : ∀ a, a < 10 → ∀ b, b < 10 → (PySem.intText? ⟨#[48 + a, 48 + b]⟩).isSome = true := by decide +kernel
theorem numB_int {x : Str} (h : numB x = false) : (PySem.intText? x).isSome = true := by
  unfold numB at h
  simp only [Bool.or_eq_false_iff, decide_eq_false_iff_not, Bool.not_eq_false'] at h
  obtain ⟨⟨h1, h2⟩, h3⟩ := h
  unfold Txt.isascii at h2
  unfold Txt.isdigit at h3
  rw [Bool.and_eq_true] at h3
  obtain ⟨h3, h4⟩ := h3
  have h3 := of_decide_eq_true h3
  obtain ⟨⟨l⟩⟩ := x
  rw [List.all_toArray, List.all_eq_true] at h2 h4
  have cc : ∀ c ∈ l, ∃ a, a < 10 ∧ c = 48 + a := fun c hc => by
    obtain ⟨q1, q2⟩ := dig_c c (of_decide_eq_true (h2 c hc)) (h4 c hc)
    exact ⟨c - 48, by omega, by omega⟩
  have hl : (⟨⟨l⟩⟩ : Str).length = l.length := rfl
  rw [hl] at h1 h3
  match l, h1, h3, cc with
  | [c], _, _, cc =>
    obtain ⟨a, ha, rfl⟩ := cc c List.mem_cons_self
    exact int_1 a ha
  | [c, d], _, _, cc =>
    obtain ⟨a, ha, rfl⟩ := cc c List.mem_cons_self
    obtain ⟨b, hb, rfl⟩ := cc d (List.mem_cons_of_mem _ List.mem_cons_self)
    exact int_2 a ha b hb
  | [], _, h3, _ => exact absurd h3 (by simp)
  | _ :: _ :: _ :: _, h1, _, _ => (exfalso; simp at h1)
theorem word_ok (p : Pt) : p.word.length ≤ 4 ∧ 32 ∉ p.word.cps.toList ∧ 10 ∉ p.word.cps.toList := by
  cases p with
  | sum a b => exact (by decide +kernel : ("sum" : Str).length ≤ 4 ∧ 32 ∉ ("sum" : Str).cps.toList ∧ 10 ∉ ("sum" : Str).cps.toList)
  | stop a b => exact (by decide +kernel : ("stop" : Str).length ≤ 4 ∧ 32 ∉ ("stop" : Str).cps.toList ∧ 10 ∉ ("stop" : Str).cps.toList)
  | pick a b c => exact (by decide +kernel : ("pick" : Str).length ≤ 4 ∧ 32 ∉ ("pick" : Str).cps.toList ∧ 10 ∉ ("pick" : Str).cps.toList)
  | not a => exact (by decide +kernel : ("not" : Str).length ≤ 4 ∧ 32 ∉ ("not" : Str).cps.toList ∧ 10 ∉ ("not" : Str).cps.toList)
/-! ### what is written -/
def rowW (p : Pt) : List Str := p.word :: p.lines.map strN
def headW (W : Wk) : List Str := ["ring", strN W.ring, "inputs", strN W.inputs]
def wordsW (W : Wk) : List (List Str) := headW W :: W.parts.map rowW
def wrText (W : Wk) : Str := Str.join nlS ((wordsW W).map (Str.join blS))
theorem lines100 {W : Wk} (h : W.Ok) : ∀ p ∈ W.parts, ∀ l ∈ p.lines, l < 100 := fun p hp l hl => by
  obtain ⟨k, hk⟩ := List.getElem?_of_mem hp
  have := h.lines k p hk l hl
  have hk2 := (List.getElem?_eq_some_iff.mp hk).1
  have := h.i6
  have := h.p10
  omega
theorem words_free {W : Wk} (h : W.Ok) : ∀ ws ∈ wordsW W, ws ≠ [] ∧ ∀ w ∈ ws, w.length ≤ 6 ∧ 32 ∉ w.cps.toList ∧ 10 ∉ w.cps.toList := fun ws hws => by
  have hr := h.r5
  have hi := h.i6
  rcases List.mem_cons.mp hws with rfl | hws
  · refine ⟨List.cons_ne_nil _ _, fun w hw => ?_⟩
    have h1 : ("ring" : Str).length ≤ 6 ∧ 32 ∉ ("ring" : Str).cps.toList ∧ 10 ∉ ("ring" : Str).cps.toList := by decide +kernel
    have h2 : ("inputs" : Str).length ≤ 6 ∧ 32 ∉ ("inputs" : Str).cps.toList ∧ 10 ∉ ("inputs" : Str).cps.toList := by decide +kernel
    have q1 := strN_ok W.ring (by omega)
    have q2 := strN_ok W.inputs (by omega)
    simp only [headW, List.mem_cons, List.not_mem_nil, or_false] at hw
    rcases hw with rfl | rfl | rfl | rfl
    · exact h1
    · exact ⟨by omega, q1.2.1, q1.2.2.1⟩
    · exact h2
    · exact ⟨by omega, q2.2.1, q2.2.2.1⟩
  · obtain ⟨p, hp, rfl⟩ := List.mem_map.mp hws
    refine ⟨List.cons_ne_nil _ _, fun w hw => ?_⟩
    rcases List.mem_cons.mp hw with rfl | hw
    · have := word_ok p
      exact ⟨by omega, this.2⟩
    · obtain ⟨l, hl, rfl⟩ := List.mem_map.mp hw
      have q := strN_ok l (lines100 h p hp l hl)
      exact ⟨by omega, q.2.1, q.2.2.1⟩
theorem rows_free {W : Wk} (h : W.Ok) : ∀ r ∈ (wordsW W).map (Str.join blS), 10 ∉ r.cps.toList := fun r hr hm => by
  obtain ⟨ws, hws, rfl⟩ := List.mem_map.mp hr
  rcases mem_join hm with z | ⟨w, hw, z⟩
  · exact absurd z (by decide)
  · exact ((words_free h ws hws).2 w hw).2.2 z
/-- the words of a text -/
def wordsOf (x : Str) : List (List Str) := (Txt.split x nlS).map fun r => Txt.split r blS
theorem wordsOf_wr {W : Wk} (h : W.Ok) : wordsOf (wrText W) = wordsW W := by
  unfold wordsOf wrText
  rw [show nlS = ⟨#[10]⟩ from rfl, split_join (fun z => by cases z) (rows_free h), List.map_map]
  have e : ∀ ws ∈ wordsW W, ((fun r => Txt.split r blS) ∘ Str.join blS) ws = id ws := fun ws hws => by
    have q := words_free h ws hws
    exact split_join q.1 fun w hw => (q.2 w hw).2.1
  rw [List.map_congr_left e, List.map_id]
theorem wr_wordsOf (x : Str) : Str.join nlS ((wordsOf x).map (Str.join blS)) = x := by
  unfold wordsOf
  rw [List.map_map]
  have e : ∀ r ∈ Txt.split x nlS, (Str.join blS ∘ fun r => Txt.split r blS) r = id r := fun r _ => StrLaws.join_split r blS
  rw [List.map_congr_left e, List.map_id]
  exact StrLaws.join_split x nlS
theorem wordsOf_iff {W : Wk} (h : W.Ok) {x : Str} : wordsOf x = wordsW W ↔ x = wrText W :=
  ⟨fun e => by rw [← wr_wordsOf x, e]; rfl, fun e => by rw [e, wordsOf_wr h]⟩
/-! ### its length -/
theorem join_len {sep : Str} {B : Nat} (xs : List Str) (h : ∀ x ∈ xs, x.length ≤ B) : (Str.join sep xs).length ≤ xs.length * B + xs.length * sep.length := by
  have h1 := StrLaws.join_length_le sep xs
  have h2 := StrLaws.sumLen_le xs h
  omega
theorem wrText_len {W : Wk} (h : W.Ok) : (wrText W).length ≤ 300 := by
  have hp := h.p10
  have hr := h.r5
  have hi := h.i6
  have hb : blS.length = 1 := rfl
  have hn : nlS.length = 1 := rfl
  have a1 : (Str.join blS (headW W)).length ≤ 28 := by
    have q := words_free h (headW W) List.mem_cons_self
    have := join_len (sep := blS) (headW W) fun w hw => (q.2 w hw).1
    rw [hb] at this
    have hl : (headW W).length = 4 := rfl
    omega
  have a2 : ∀ r ∈ (W.parts.map rowW).map (Str.join blS), r.length ≤ 20 := fun r hr => by
    obtain ⟨ws, hws, rfl⟩ := List.mem_map.mp hr
    obtain ⟨p, hp, rfl⟩ := List.mem_map.mp hws
    have := join_len (sep := blS) (B := 4) (rowW p) fun w hw => by
      rcases List.mem_cons.mp hw with rfl | hw
      · exact (word_ok p).1
      · obtain ⟨l, hl, rfl⟩ := List.mem_map.mp hw
        have := (strN_ok l (lines100 h p hp l hl)).1
        omega
    have hl : (rowW p).length ≤ 4 := by cases p <;> (unfold rowW; rw [List.length_cons, List.length_map]; simp [Pt.lines])
    rw [hb] at this
    omega
  have a3 := join_len (sep := nlS) _ a2
  rw [List.length_map, List.length_map, hn] at a3
  unfold wrText wordsW
  rw [List.map_cons]
  cases e : (W.parts.map rowW).map (Str.join blS) with
  | nil => show (Str.join blS (headW W)).length ≤ _; omega
  | cons x r =>
    rw [join_cons2, Str.length_append, Str.length_append, ← e]
    omega
end DL

/-! K6: a text looked at. -/
namespace DL
open PySem PySem.Spec PyProof.Rows L2
def numD (x : Str) : PD := if numB x = true then .none else .int ((PySem.intText? x).getD 0)
theorem numD_str {n : Nat} (h : n < 100) : numD (strN n) = nD n := by
  obtain ⟨_, _, _, h1, h2⟩ := strN_ok n h
  unfold numD
  rw [h1, h2]
  rfl
def decs : List Str → Option (List Nat)
  | [] => some []
  | w :: r => match dec w with
    | some n => (decs r).map (n :: ·)
    | none => none
theorem decs_eq : ∀ {ws : List Str} {ns : List Nat}, decs ws = some ns → ws = ns.map strN ∧ ∀ n ∈ ns, n < 100
  | [], ns, h => by
    cases h
    exact ⟨rfl, fun n hn => by cases hn⟩
  | w :: r, ns, h => by
    unfold decs at h
    cases e : dec w with
    | none => rw [e] at h; cases h
    | some n =>
      rw [e] at h
      cases e2 : decs r with
      | none => rw [e2] at h; cases h
      | some ms =>
        rw [e2] at h
        cases h
        obtain ⟨h1, h2⟩ := decs_eq e2
        obtain ⟨h3, h4⟩ := dec_eq e
        refine ⟨by rw [List.map_cons, h3, ← h1], fun m hm => ?_⟩
        rcases List.mem_cons.mp hm with rfl | hm
        · exact h4
        · exact h2 m hm
theorem decs_str : ∀ {ns : List Nat}, (∀ n ∈ ns, n < 100) → decs (ns.map strN) = some ns
  | [], _ => rfl
  | n :: ns, h => by
    rw [List.map_cons]
    unfold decs
    rw [dec_str n (h n List.mem_cons_self), decs_str fun m hm => h m (List.mem_cons_of_mem _ hm)]
    rfl
theorem decs_len {ws : List Str} {ns : List Nat} (h : decs ws = some ns) : ns.length = ws.length := by
  rw [(decs_eq h).1, List.length_map]
theorem decs_get {ws : List Str} {ns : List Nat} (h : decs ws = some ns) {i : Nat} {w : Str} (hw : ws[i]? = some w) : ∃ n, ns[i]? = some n ∧ w = strN n ∧ n < 100 := by
  obtain ⟨h1, h2⟩ := decs_eq h
  rw [h1, List.getElem?_map] at hw
  cases e : ns[i]? with
  | none => rw [e] at hw; cases hw
  | some n =>
    rw [e] at hw
    exact ⟨n, rfl, (Option.some.inj hw).symm, h2 n (List.mem_of_getElem? e)⟩
/-- the first word that is no number -/
theorem decs_bad : ∀ {ws : List Str}, decs ws = none → ∃ pre w post ns, ws = pre ++ w :: post ∧ decs pre = some ns ∧ dec w = none
  | [], h => by cases h
  | w :: r, h => by
    unfold decs at h
    cases e : dec w with
    | none => exact ⟨[], w, r, [], rfl, rfl, e⟩
    | some n =>
      rw [e] at h
      cases e2 : decs r with
      | some ms => rw [e2] at h; cases h
      | none =>
        obtain ⟨pre, w', post, ns, h1, h2, h3⟩ := decs_bad e2
        refine ⟨w :: pre, w', post, n :: ns, by rw [h1]; rfl, ?_, h3⟩
        show (match dec w with
          | some n => (decs pre).map (n :: ·)
          | none => none) = _
        rw [e, h2]
        rfl
def mkP (w : Str) (ns : List Nat) : Option Pt := match ns with
  | [a] => some (.not a)
  | [a, b] => if w = "sum" then some (.sum a b) else some (.stop a b)
  | [a, b, c] => some (.pick a b c)
  | _ => none
theorem takes_p (p : Pt) : takesN p.word = some p.lines.length ∧ mkP p.word p.lines = some p := by
  cases p with
  | sum a b => exact ⟨(by decide +kernel : takesN "sum" = some 2), (if_pos rfl : (if ("sum" : Str) = "sum" then some (Pt.sum a b) else some (.stop a b)) = some (.sum a b))⟩
  | stop a b => exact ⟨(by decide +kernel : takesN "stop" = some 2), (if_neg (by decide +kernel : ¬ ("stop" : Str) = "sum") : (if ("stop" : Str) = "sum" then some (Pt.sum a b) else some (.stop a b)) = some (.stop a b))⟩
  | pick a b c => exact ⟨(by decide +kernel : takesN "pick" = some 3), rfl⟩
  | not a => exact ⟨(by decide +kernel : takesN "not" = some 1), rfl⟩
theorem mkP_ok {w : Str} {ns : List Nat} (h : takesN w = some ns.length) : ∃ p, mkP w ns = some p ∧ p.word = w ∧ p.lines = ns := by
  unfold takesN at h
  by_cases h1 : w = "sum"
  · rw [if_pos h1] at h
    match ns, h with
    | [a, b], _ => exact ⟨.sum a b, if_pos h1, h1.symm, rfl⟩
  rw [if_neg h1] at h
  by_cases h2 : w = "stop"
  · rw [if_pos h2] at h
    match ns, h with
    | [a, b], _ => exact ⟨.stop a b, if_neg h1, h2.symm, rfl⟩
  rw [if_neg h2] at h
  by_cases h3 : w = "pick"
  · rw [if_pos h3] at h
    match ns, h with
    | [a, b, c], _ => exact ⟨.pick a b c, rfl, h3.symm, rfl⟩
  rw [if_neg h3] at h
  by_cases h4 : w = "not"
  · rw [if_pos h4] at h
    match ns, h with
    | [a], _ => exact ⟨.not a, rfl, h4.symm, rfl⟩
  rw [if_neg h4] at h
  cases h
theorem takes_pos {w : Str} {n : Nat} (h : takesN w = some n) : 1 ≤ n ∧ n ≤ 3 := by
  unfold takesN at h
  split at h
  · cases h; omega
  split at h
  · cases h; omega
  split at h
  · cases h; omega
  split at h
  · cases h; omega
  · cases h
def partW (line : Nat) (ws : List Str) : Option Pt := match ws with
  | [] => none
  | w :: ls => match decs ls with
    | none => none
    | some ns => if takesN w = some ns.length ∧ ns.all (fun n => decide (n < line)) = true then mkP w ns else none
theorem partW_eq {line : Nat} {ws : List Str} {p : Pt} (h : partW line ws = some p) : ws = rowW p ∧ ∀ l ∈ p.lines, l < line ∧ l < 100 := by
  unfold partW at h
  split at h
  · cases h
  · split at h
    · cases h
    · rename_i w ls ns e
      split at h
      · rename_i hc
        obtain ⟨q, h1, h2, h3⟩ := mkP_ok hc.1
        rw [h1] at h
        cases h
        obtain ⟨h4, h5⟩ := decs_eq e
        unfold rowW
        rw [h2, h3, ← h4]
        exact ⟨rfl, fun l hl => ⟨of_decide_eq_true (List.all_eq_true.mp hc.2 l hl), h5 l hl⟩⟩
      · cases h
theorem partW_row {line : Nat} {p : Pt} (h : ∀ l ∈ p.lines, l < line ∧ l < 100) : partW line (rowW p) = some p := by
  have e := decs_str (ns := p.lines) fun l hl => (h l hl).2
  obtain ⟨h1, h2⟩ := takes_p p
  show (match decs (p.lines.map strN) with
    | none => none
    | some ns => if takesN p.word = some ns.length ∧ ns.all (fun n => decide (n < line)) = true then mkP p.word ns else none) = some p
  rw [e]
  show (if takesN p.word = some p.lines.length ∧ p.lines.all (fun n => decide (n < line)) = true then mkP p.word p.lines else none) = some p
  rw [if_pos ⟨h1, List.all_eq_true.mpr fun l hl => decide_eq_true (h l hl).1⟩, h2]
def lookP : Nat → List (List Str) → Option (List Pt)
  | _, [] => some []
  | line, ws :: r => match partW line ws with
    | some p => (lookP (line + 1) r).map (p :: ·)
    | none => none
theorem lookP_eq : ∀ {line : Nat} {rows : List (List Str)} {ps : List Pt}, lookP line rows = some ps → rows = ps.map rowW ∧ ∀ k p, ps[k]? = some p → ∀ l ∈ p.lines, l < line + k
  | line, [], ps, h => by
    cases h
    exact ⟨rfl, fun k p e => by simp at e⟩
  | line, ws :: r, ps, h => by
    unfold lookP at h
    cases e : partW line ws with
    | none => rw [e] at h; cases h
    | some q =>
      rw [e] at h
      cases e2 : lookP (line + 1) r with
      | none => rw [e2] at h; cases h
      | some qs =>
        rw [e2] at h
        cases h
        obtain ⟨h1, h2⟩ := lookP_eq e2
        obtain ⟨h3, h4⟩ := partW_eq e
        refine ⟨by rw [List.map_cons, ← h1, h3], fun k p hk l hl => ?_⟩
        cases k with
        | zero =>
          simp at hk
          subst hk
          exact (h4 l hl).1
        | succ k =>
          have := h2 k p (by simpa using hk) l hl
          omega
theorem lookP_rows : ∀ {line : Nat} {ps : List Pt}, (∀ k p, ps[k]? = some p → ∀ l ∈ p.lines, l < line + k ∧ l < 100) → lookP line (ps.map rowW) = some ps
  | line, [], _ => rfl
  | line, p :: ps, h => by
    rw [List.map_cons]
    unfold lookP
    rw [partW_row (line := line) (p := p) fun l hl => ⟨(h 0 p rfl l hl).1, (h 0 p rfl l hl).2⟩, lookP_rows fun k q hk l hl => by
      have := h (k + 1) q (by simpa using hk) l hl
      omega]
    rfl
def headOk (hd : List Str) (n : Nat) : Bool := decide (hd.length = 4) && (decide (hd.getD 0 Str.empty = "ring") && (decide (hd.getD 2 Str.empty = "inputs") && (decide (1 ≤ n) && decide (n ≤ 10))))
def lookR (rows : List (List Str)) : Option Wk := match rows with
  | [] => none
  | hd :: rest => if headOk hd rest.length = true then (match decs [hd.getD 1 Str.empty, hd.getD 3 Str.empty] with
    | some [r, i] => if (2 ≤ r ∧ r ≤ 5) ∧ (1 ≤ i ∧ i ≤ 6) then (lookP i rest).map fun ps => ⟨r, i, ps⟩ else none
    | _ => none) else none
theorem lookR_iff {rows : List (List Str)} {W : Wk} : lookR rows = some W ↔ rows = wordsW W ∧ W.Ok := by
  constructor
  · intro h
    unfold lookR at h
    split at h
    · cases h
    rename_i hd rest
    split at h
    · rename_i hh
      simp only [headOk, Bool.and_eq_true, decide_eq_true_eq] at hh
      obtain ⟨h4, hr, hi, h1, h10⟩ := hh
      split at h
      · rename_i r i e
        split at h
        · rename_i hb
          cases e2 : lookP i rest with
          | none => rw [e2] at h; cases h
          | some ps =>
            rw [e2] at h
            cases h
            obtain ⟨q1, q2⟩ := lookP_eq e2
            obtain ⟨d1, d2⟩ := decs_eq e
            match hd, h4 with
            | [a, b, c, d], _ =>
              have hr : a = "ring" := hr
              have hi : c = "inputs" := hi
              have d1 : [b, d] = [strN r, strN i] := d1
              have d3 : b = strN r := (List.cons.inj d1).1
              have d4 : d = strN i := (List.cons.inj (List.cons.inj d1).2).1
              clear d1 e
              subst hr hi d3 d4
              have hl : ps.length = rest.length := by rw [q1, List.length_map]
              exact ⟨by rw [q1]; rfl, hb.1.1, hb.1.2, hb.2.1, hb.2.2, by show 1 ≤ ps.length; omega, by show ps.length ≤ 10; omega, q2⟩
        · cases h
      · cases h
    · cases h
  · rintro ⟨rfl, h⟩
    have hr := h.r2
    have hr5 := h.r5
    have hi := h.i1
    have hi6 := h.i6
    have hp := h.p1
    have hp10 := h.p10
    show (if headOk (headW W) (W.parts.map rowW).length = true then _ else _) = _
    rw [if_pos (by
      unfold headOk
      rw [List.length_map, decide_eq_true hp, decide_eq_true hp10]
      rfl)]
    show (match decs ([W.ring, W.inputs].map strN) with
      | some [r, i] => if (2 ≤ r ∧ r ≤ 5) ∧ (1 ≤ i ∧ i ≤ 6) then (lookP i (W.parts.map rowW)).map fun ps => Wk.mk r i ps else none
      | _ => none) = _
    rw [decs_str (by intro n hn; simp at hn; rcases hn with rfl | rfl <;> omega)]
    show (if (2 ≤ W.ring ∧ W.ring ≤ 5) ∧ (1 ≤ W.inputs ∧ W.inputs ≤ 6) then (lookP W.inputs (W.parts.map rowW)).map fun ps => Wk.mk W.ring W.inputs ps else none) = _
    rw [if_pos ⟨⟨hr, hr5⟩, hi, hi6⟩, lookP_rows fun k p hk l hl => ⟨h.lines k p hk l hl, lines100 h p (List.mem_of_getElem? hk) l hl⟩]
    rfl
def lookW (x : Str) : Option Wk := lookR (wordsOf x)
theorem lookW_iff {x : Str} {W : Wk} : lookW x = some W ↔ W.Ok ∧ x = wrText W := by
  unfold lookW
  rw [lookR_iff]
  exact ⟨fun ⟨a, b⟩ => ⟨b, (wordsOf_iff b).mp a⟩, fun ⟨a, b⟩ => ⟨(wordsOf_iff a).mpr b, a⟩⟩
theorem split_len (x : Str) (y : Str) (hy : 1 ≤ y.length) : (Txt.split x y).length ≤ x.length + 1 ∧ ∀ w ∈ Txt.split x y, w.length ≤ x.length := by
  have e := StrLaws.join_split x y
  have key : ∀ (ys : List Str), ys ≠ [] → ys.length ≤ (Str.join y ys).length + 1 ∧ ∀ w ∈ ys, w.length ≤ (Str.join y ys).length := by
    intro ys
    induction ys with
    | nil => intro h; exact absurd rfl h
    | cons a r ih =>
      intro _
      cases r with
      | nil =>
        refine ⟨by simp, fun w hw => ?_⟩
        rw [List.mem_singleton.mp hw]
        exact Nat.le_refl _
      | cons b r =>
        obtain ⟨i1, i2⟩ := ih (List.cons_ne_nil _ _)
        have hl : (Str.join y (a :: b :: r)).length = a.length + y.length + (Str.join y (b :: r)).length := by
          rw [join_cons2, Str.length_append, Str.length_append]
        refine ⟨by rw [hl, List.length_cons]; omega, fun w hw => ?_⟩
        rcases List.mem_cons.mp hw with rfl | hw
        · omega
        · have := i2 w hw
          omega
  have := key _ (split_ne x y)
  rw [e] at this
  exact this
end DL

/-! E1: try: .. except x as n: .. else: .. -/
namespace DL
open PySem PySem.Spec PyProof.Rows L2 L2N
section
variable {X : Cx} {cx n : Str} {cv : Value} {i : Nat} {body suite orelse : List Stmt} {b₀ : Stmt} {np pos pos' : Pos}
/-- the way of what was raised: through the clause or past it -/
theorem catch_as {pl : List (Addr × Obj)} {D : Ends} {ts : Addr → Value → Option Addr → TS} {Wo : WX} {u : Value} {t : Shared} {xe' : Value → Shared → Prop} (ok : X.Ok) (hs : X.stack = X.env :: X.outer) (hf : X.env.frame = some X.env.locals) (hN : X.N.Nodup) (hi : X.N[i]? = some n) (hl : X.env.kindOf n = some .local) (hc : Names X cx cv) (tk : L2N.Takes X Wo)
    (hsu : ∀ (a : Addr) (oe : Obj) (cls : Value) (d : Option Addr) (pn : List (Addr × Obj)), Zn cls d oe → (∃ vs, oe.data = .fields vs) → PSs (X.suite a ((a, oe) :: pn)) (b₀ :: suite) (ts a cls d))
    (xx : L2N.XE (X.tr (X.pn ++ pl) xe') (wAs X.K cv i ts Wo D) u t) :
    wpAny (model X.prog X.w) X.A (noteFrame u X.env) (fun _ t2 => wpAny (model X.prog X.w) X.A (setFlight u none) (fun _ t3 => wpAny (model X.prog X.w) X.A (handleBy u X.env [.ExceptHandler (some (.Name cx np)) (some n) (b₀ :: suite) pos']) (SP X pl D) X.xe t3) X.xe t2) X.xe t := by
  obtain ⟨a, G, tI, pl', σ1, H1, cls, dd, rfl, JT, nbs, up1, sky0, na1, hos, hag, bb, hbb, yes, no⟩ := xx
  have fr0 : X.A.frames = some (X.env :: X.outer) := hs ▸ ok.frames
  have JX : Inv X pl σ1 H1 tI := JT.ofTry ok
  have skyX : Sky G (X.env :: X.outer) a (Zn cls dd) X.env.locals t.heap := hs ▸ sky0
  refine Sky.land Zn.steady fr0 hf skyX fun k1 fly1 upA => ?_
  have JA : Inv X pl σ1 H1 { t with heap := k1 } := JX.landed nbs fly1.1 (up1.trans upA) hos hag
  have mem : ∀ {k : Heap}, HandSPX.FlyingZ G (X.env :: X.outer) a (Zn cls dd) k → ∃ ob vs, k.get? a = some ob ∧ Zn cls dd ob ∧ ob.data = .fields vs := fun fl => fl.there
  obtain ⟨obA, vsA, getA, zA, dA⟩ := mem fly1
  have far : a ∉ frs (X.env :: X.outer) := fun hm => by
    obtain ⟨_, o2, e2, no2⟩ := fly1.2.2.1.mem hm
    have : obA = o2 := Option.some.inj (getA.symm.trans e2)
    subst this
    exact no2 _ dA
  have farL : a ≠ X.env.locals := fun z => far (List.mem_filterMap.mpr ⟨X.env, List.mem_cons_self, hf.trans (congrArg some z.symm)⟩)
  have farF : a ∉ X.fs := fun hm => by
    obtain ⟨ev, hev, qe⟩ := List.mem_filterMap.mp hm
    exact far (List.mem_filterMap.mpr ⟨ev, List.mem_cons_of_mem _ hev, qe⟩)
  have JS := JA.suite getA dA na1 farL farF
  refine wpAny_handleBy_cons (codeAny_handlers_test ?_) nofun
  have tyA : PySem.W.Looks (model X.prog X.w) k1 (typeOf (.ref a)) cls := fun _ _ _ _ kk qq => wpAny_typeOf_ref (kk _ _ getA) (zA.1.symm ▸ qq)
  have mat := PySem.W.exm_one (M := model X.prog X.w) JA.kIn tyA hbb
  have nameC : ∀ {Q1 : Value → Shared → Prop} {E1 : Value → Shared → Prop}, Q1 cv { t with heap := k1 } → wpAny (model X.prog X.w) (X.A.mark (some (.ref a))) (eval (.Name cx np) X.env) Q1 E1 { t with heap := k1 } := fun qq => by
    rcases hc with ⟨hg, hd, hm | ⟨hm, hv, hn⟩⟩
    · exact ld_glob (X := X.suite a ((a, obA) :: (X.pn ++ pl))) JS hg hm qq hd
    · exact ld_blt (X := X.suite a ((a, obA) :: (X.pn ++ pl))) JS hg hm hv qq hn hd
  refine nameC (mat.here ?_)
  cases bb with
  | false =>
    show wpAny _ X.A (handleBy (.ref a) X.env []) _ _ _
    refine wpAny_handleBy_nil ?_
    have flyC := fly1
    obtain ⟨_, _, _, oz, vz, Tz, oTz, tz, getz, _, dz, atz, _⟩ := flyC
    have out : wpAny (model X.prog X.w) X.A (setFlight (.ref a) X.env.frame) (fun _ t5 => wpAny (model X.prog X.w) X.A (throw (.ref a) : Sem Flow) (SP X pl D) X.xe t5) X.xe { t with heap := k1 } := by
      rw [hf]
      exact HandSPX.setFlight_upZ fly1 fun k2 held up2 => wpAny_throw (tk _ _ ⟨a, G, tI, pl, σ1, H1, cls, dd, rfl, JX, nbs, (up1.trans upA).trans up2, .inr (.inr (hs ▸ held)), na1, hos, hag, no rfl⟩)
    unfold PySem.passOn
    refine wpAny_bind (wpAny_field getz dz atz ?_)
    rw [if_neg (by simp)]
    first
      | exact wpAny_bind out
      | exact wpAny_bind (wpAny_pure (wpAny_bind out))
  | true =>
    refine codeAny_handlers_suite_as (HandSPX.lands_againZ fly1 fun k2 fly2 upB => ?_)
    have JB : Inv X pl σ1 H1 { t with heap := k2 } := JX.landed nbs fly2.1 ((up1.trans upA).trans upB) hos hag
    obtain ⟨obB, vsB, getB, zB, dB⟩ := mem fly2
    refine store_ok (X := X.suite a ((a, obB) :: (X.pn ++ pl))) (v := .ref a) (JB.suite getB dB na1 farL farF) hN hi (.inl hl) rfl (fun t4 J4 => ?_) (.inr hl)
    refine wpAny_mono ((hsu a obB cls dd (X.pn ++ pl) zB ⟨_, dB⟩).run [] t4 _ H1 _ J4 (yes rfl a na1)) (fun fl t5 he => ?_) (fun _ _ z => z.elim)
    have gone : ∀ {σ9 : L2.St} {H9 : Hp} {R : Shared → Prop}, Inv (X.suite a ((a, obB) :: (X.pn ++ pl))) [] σ9 H9 t5 → (∀ t6, Inv X pl (σ9.set i none) H9 t6 → R t6) →
        wpAny (model X.prog X.w) X.A (do bindName X.env n .none; unbindBehindTheSuite X.env n pos') (fun _ t6 => R t6) X.xe t5 := fun J9 rr => gone_ok (J9.unsuite ok) hN hi hl rr
    cases fl with
    | ret v9 =>
      obtain ⟨w9, σ9, H9, J9, rv, qv⟩ := he
      exact gone J9 fun t6 J6 => ⟨w9, _, H9, J6, rv, qv⟩
    | next =>
      obtain ⟨σ9, H9, J9, qv⟩ := he
      exact gone J9 fun t6 J6 => ⟨_, H9, J6, qv⟩
    | brk =>
      obtain ⟨σ9, H9, J9, qv⟩ := he
      exact gone J9 fun t6 J6 => ⟨_, H9, J6, qv⟩
    | cont =>
      obtain ⟨σ9, H9, J9, qv⟩ := he
      exact gone J9 fun t6 J6 => ⟨_, H9, J6, qv⟩
/-- try: body, except cx as n: suite, else: orelse -/
theorem ps_try_asE {tb : WX → TS} {tu : TS} {ts : Addr → Value → Option Addr → TS} {Wo : WX} (ho : PSs X orelse tu) (hs : X.stack = X.env :: X.outer) (hf : X.env.frame = some X.env.locals) (hN : X.N.Nodup) (hi : X.N[i]? = some n) (hl : X.env.kindOf n = some .local) (hc : Names X cx cv) (tk : L2N.Takes X Wo)
    (hb : ∀ (W : WX) (pn : List (Addr × Obj)) (xe' : Value → Shared → Prop), L2N.Takes (X.tr pn xe') W → PassesOwn (model X.prog X.w) X.A X.env xe' → PSs (X.tr pn xe') body (tb W))
    (hsu : ∀ (a : Addr) (oe : Obj) (cls : Value) (d : Option Addr) (pn : List (Addr × Obj)), Zn cls d oe → (∃ vs, oe.data = .fields vs) → PSs (X.suite a ((a, oe) :: pn)) (b₀ :: suite) (ts a cls d)) :
    PS X (.Try body [.ExceptHandler (some (.Name cx np)) (some n) (b₀ :: suite) pos'] orelse [] pos) (fun D σ H => tb (wAs X.K cv i ts Wo D) { D with nx := tu D } σ H) := ⟨fun pl t σ H D I h => by
  have ok := I.ok
  refine wpAny_Try_except (wpAny_mono ((hb (wAs X.K cv i ts Wo D) (X.pn ++ pl) _ (fun u t1 xx => catch_as ok hs hf hN hi hl hc tk hsu xx) PassesOwn.looking).run [] t σ H { D with nx := tu D } (I.toTry _) h) (fun fl t1 he => ?_) fun _ _ z => z)
  cases fl with
  | ret v9 =>
    obtain ⟨w9, σ9, H9, J9, rv, qv⟩ := he
    exact ⟨w9, σ9, H9, J9.ofTry ok, rv, qv⟩
  | next =>
    obtain ⟨σ9, H9, J9, qv⟩ := he
    exact ho.run pl t1 σ9 H9 D (J9.ofTry ok) qv
  | brk =>
    obtain ⟨σ9, H9, J9, qv⟩ := he
    exact ⟨σ9, H9, J9.ofTry ok, qv⟩
  | cont =>
    obtain ⟨σ9, H9, J9, qv⟩ := he
    exact ⟨σ9, H9, J9.ofTry ok, qv⟩⟩
end
end DL

/-! E2: x, *y = a list. -/
namespace DL
open PySem PySem.Spec PyProof.Rows L2
section
variable {P : Program} {w : World} {A : Around} {E : Value → Shared → Prop} {t : Shared}
theorem star1_list {l : Addr} {its : Array Value} {z : Value} {zs : List Value} {R : List Value → Shared → Prop} (pl : t.heap.IsList l its) (hd : A.handled = none) (hz : its.size ≤ 100000) (e : its.toList = z :: zs)
    (h : ∀ h' tk D, (∀ b o, t.heap.get? b = some o → h'.get? b = some o) → t.heap.get? D = none → h'.get? D = some { cls := .type "list", data := .seq zs.toArray } → R [z, .ref D] { t with heap := h', toks := tk }) : wpAny (model P w) A (unpackItems (.ref l) 2 (some 1)) R E t := by
  have ln : its.size = zs.length + 1 := by rw [← Array.length_toList, e]; rfl
  have ne : l ≠ t.heap.objs.size := by obtain ⟨o, ho, _⟩ := pl; exact Nat.ne_of_lt (Heap.lt_size ho)
  unfold unpackItems notIterableAtAll
  refine wpAny_bind (wpAny_bind (wpAny_specialOf pl.typeIs slot_list_iter.lookup (wpAny_pure ?_)))
  simp only [Bool.false_eq_true, if_false]
  refine wpAny_bind (wpAny_holding (wpAny_pyIter_list pl (wpAny_bind (wpAny_holding (PySem.W.kun_draw ne 1 0 _ _ ⟨_, Heap.get?_push_size _ rfl, rfl, rfl⟩ (pl.push _) (by omega) fun h1 it1 sb1 => ?_)))))
  have pl1 : h1.IsList l its := (pl.push _).extBut sb1.extBut ne
  have it2 := it1
  obtain ⟨oi, hoi, _⟩ := it2
  have pl2 := pl1
  obtain ⟨ol, hol, _⟩ := pl2
  rw [show List.take 1 (List.drop 0 its.toList) = [z] from by rw [e]; rfl]
  rw [if_neg (show ¬ [z].length < 1 from Nat.lt_irrefl 1)]
  refine wpAny_bind (wpAny_holding (PySem.W.kun_collect (s := { t with heap := h1 }) (T := "list_iterator") (.inr (.inr (.inl rfl))) (Walks.list (A := A.in1) hd t.heap.objs.size l ne its) (fun j u st => st.1.typeIs) (k := 1) (by omega) ⟨it1, pl1⟩ (Heap.lt_size hoi) (Heap.lt_size hol) (fun h2 tk kk => ?_) (by rw [sizeLine_eq]; omega)))
  rw [show List.drop 1 its.toList = zs from by rw [e]; rfl]
  rw [if_neg (by omega)]
  have keep : ∀ b o, t.heap.get? b = some o → h2.get? b = some o := fun b o eb => kk b o (Nat.ne_of_lt (Heap.lt_size eb)) (sb1.extBut b o (Nat.ne_of_lt (Heap.lt_size eb)) (Heap.get?_push_of_some _ eb))
  have new : t.heap.get? h2.objs.size = none := by
    cases q : t.heap.get? h2.objs.size with
    | none => rfl
    | some o => exact absurd (Heap.lt_size (keep _ _ q)) (Nat.lt_irrefl _)
  show wpAny _ _ (newList (List.take (zs.length - (2 - 1 - 1)) zs) >>= fun d => pure ([z] ++ [d] ++ List.drop (zs.length - (2 - 1 - 1)) zs)) _ _ _
  rw [show zs.length - (2 - 1 - 1) = zs.length from by omega, List.take_length, List.drop_length]
  refine wpAny_bind (wpAny_newList (wpAny_pure (h _ _ _ (fun b o eb => Heap.get?_push_of_some _ (keep b o eb)) new (Heap.get?_push_size _ rfl))) (by rw [sizeLine_eq]; omega))
theorem here_of {H : Hp} {h : Heap} {a : Addr} {o : HO} (x : ObjOk P w H h a o) : ∃ u, h.get? a = some u := by
  cases o with
  | lst _ => rcases x with ⟨_, _, _, _, e⟩; exact ⟨_, e⟩
  | tup _ => rcases x with ⟨_, _, _, u, e, _⟩; exact ⟨u, e⟩
  | dK _ => rcases x with ⟨_, _, _, _, u, _, _, e, _⟩; exact ⟨u, e⟩
  | dT _ => rcases x with ⟨_, _, _, _, u, _, _, e, _⟩; exact ⟨u, e⟩
  | set _ _ => rcases x with ⟨u, _, _, _, e, _⟩; exact ⟨u, e⟩
  | ins _ _ _ => rcases x with ⟨_, _, _, e, _⟩; exact ⟨_, e⟩
  | own _ => exact x
  | xd _ => rcases x with ⟨_, ⟨u, _, _, e, _⟩, _⟩; exact ⟨u, e⟩
  | rng _ _ => rcases x with ⟨_, _, _, e⟩; exact ⟨_, e⟩
  | frz _ _ => exact ⟨_, x.1⟩
  | tbl _ => exact ⟨_, x⟩
  | met _ _ => exact ⟨_, x⟩
  | ext _ => exact x.2.1
end
section
variable {X : Cx} {i j k : Nat} {x y : Str} {px py ps pos : Pos}
/-- x, *y = v, v a list -/
def gStar1 (K : PySem.W.Frag) (i j : Nat) : TG := fun v σ H Q => ∃ a z zs, v = .ref a ∧ SqL K H a (z :: zs) ∧ zs.length ≤ 90000 ∧ ∀ D, H D = none → Q ((σ.set i (some z)).set j (some (.ref D))) (upd H D (.lst zs))
theorem pg_star1 (hc : X.calm = true) (hN : X.N.Nodup) (hi : X.N[i]? = some x) (hx : Loc X.env.scope x) (hj : X.N[j]? = some y) (hy : Loc X.env.scope y) (fi : X.fn x = true ∨ X.env.scope.names.lookup x = some .local) (fj : X.fn y = true ∨ X.env.scope.names.lookup y = some .local)
    (hn : (assignEach [.Name x px, .Starred (.Name y py) ps] X.env).length = 2) (hst : (assignEach [.Name x px, .Starred (.Name y py) ps] X.env).findIdx? (·.1) = some 1) (hs : (assignEach [.Name x px, .Starred (.Name y py) ps] X.env).map (·.2) = [assign (.Name x px) X.env, assign (.Name y py) X.env]) :
    PG X (.Tuple [.Name x px, .Starred (.Name y py) ps] k pos) (gStar1 X.K i j) := ⟨fun pl s σ H v u Q I r h => by
  obtain ⟨a, z, zs, rfl, hq, hl, h⟩ := h
  cases r
  obtain ⟨its, rv, pL, hz⟩ := I.list hq
  rw [assign_Tuple]
  refine wpAny_bind (wpAny_standAt ?_)
  unfold unpack
  rw [hn, hst]
  cases rv with
  | cons r1 r2 =>
    rename_i z' zs'
    have l2 := r2.length
    refine wpAny_bind (wpAny_holding (star1_list (z := z') (zs := zs') pL.isList (I.ok.hd hc) (by simp; omega) rfl fun h' tk D kp nw atD => ?_))
    have hD : H D = none := by
      cases q : H D with
      | none => rfl
      | some o =>
        obtain ⟨u, e⟩ := here_of (I.hok D o q)
        rw [nw] at e
        cases e
    have I1 : Inv X pl σ (upd H D (.lst zs)) { s with heap := h', toks := tk } := Inv.laidN I kp nw hD ⟨by rw [sizeLine_eq]; omega, zs', 0, r2, atD⟩
    rw [hs]
    have g1 := pg_name (X := X) (pos := px) hN hi hx fi
    have g2 := pg_name (X := X) (pos := py) hN hj hy fj
    exact (pgs_cons (X := X) (es := [.Name y py]) g1 (pgs_cons g2 pgs_nil)).run pl _ σ _ [z, .ref D] [z', .ref D] Q I1 (.cons r1 (.cons rfl .nil)) ⟨z, _, rfl, ⟨.ref D, _, rfl, rfl, h D hD⟩⟩⟩
end
end DL

/-! E3: texts over data. -/
namespace DL
open PySem PySem.Spec PyProof.Rows L2
variable [Lam]
section
variable {X : Cx} {en : En} {a b e : Expr} {es : List Expr} {p p2 p3 px py ps tp pos : Pos} {k ka kb : Kd} {d zd : PD} {ds zs : List PD} {x y : Str} {i j kk : Nat}
/-- x, *y = e -/
theorem ds_star1 {P : Po} (i j : Nat) (he : DE X en e .e (.list (zd :: zs))) (hl : zs.length ≤ 90000) (q : P.nx ((en.set i (some (.v zd))).set j (some (.v (.list zs))))) (hN : X.N.Nodup) (hi : X.N[i]? = some x := by kernel_rfl) (hx : locB X.env.scope x = true := by kernel_rfl) (hj : X.N[j]? = some y := by kernel_rfl) (hy : locB X.env.scope y = true := by kernel_rfl)
    (fi : fnB X x = true := by kernel_rfl) (fj : fnB X y = true := by kernel_rfl) (hc : X.calm = true := by kernel_rfl) (hs : swapsWithSole [.Tuple [.Name x px, .Starred (.Name y py) ps] kk tp] e pos.line X.env = pure false := by kernel_rfl) (hw : swappedStores [.Tuple [.Name x px, .Starred (.Name y py) ps] kk tp] e X.env = pure none := by kernel_rfl)
    (h1 : (assignEach [.Tuple [.Name x px, .Starred (.Name y py) ps] kk tp] X.env).map (·.2) = [assign (.Tuple [.Name x px, .Starred (.Name y py) ps] kk tp) X.env] := by kernel_rfl) (hn : (assignEach [.Name x px, .Starred (.Name y py) ps] X.env).length = 2 := by kernel_rfl)
    (hst : (assignEach [.Name x px, .Starred (.Name y py) ps] X.env).findIdx? (·.1) = some 1 := by kernel_rfl) (hm : (assignEach [.Name x px, .Starred (.Name y py) ps] X.env).map (·.2) = [assign (.Name x px) X.env, assign (.Name y py) X.env] := by kernel_rfl) :
    DS X en (.Assign [.Tuple [.Name x px, .Starred (.Name y py) ps] kk tp] e pos) P := fun B Bo Ho H σ f D t =>
  wS_of (ps_asg pe_w (pg_star1 (pos := tp) (k := kk) (ps := ps) hc hN hi (loc_of hx) hj (loc_of hy) (fn_ofB fi) (fn_ofB fj) hn hst hm) hs hw h1) (he B Bo Ho H σ f _ fun v Ho' H' g r => by
    obtain ⟨p, xs, rfl, q1, r1⟩ := r
    cases r1 with
    | cons r1 r2 =>
      rename_i z' zs'
      refine ⟨p, z', zs', rfl, .inl (.inl q1), by rw [r2.len]; exact hl, fun D' hD => ?_⟩
      have f1 := f.gr (g.trans (Gr.new (o := .lst zs') g.s hD))
      have m := same_new (o := .lst zs') (g.s.free hD)
      exact t.nx _ _ _ _ q ((f1.setV (i := i) (Rp.mono m r1)).setV (i := j) (.lst upd_same (r2.mono m))))
/-- *xs in a display, xs a list -/
theorem da_starL {p : Pos} {xs : List PD} (ha : DE X en a .e (.list xs)) (hr : DA X en es .c ds) (hs : starEach (.Starred a p :: es) X.env = (true, eval a X.env) :: starEach es X.env := by kernel_rfl) : DA X en (.Starred a p :: es) .c (xs ++ ds) := fun B Bo Ho H σ f Q q => by
  refine wA_of (StX.pa_star pe_w pa_w hs) ?_
  refine ha B Bo Ho H σ f _ fun v H1o H1 g1 r1 => ?_
  obtain ⟨p, vs1, rfl, q1, r1⟩ := r1
  refine ⟨p, vs1, rfl, .inr (.inl (.inl q1)), ?_⟩
  refine hr B Bo H1o H1 σ (f.gr g1) _ fun vs H2o H2 g2 r2 => ?_
  exact q _ H2o H2 (g1.trans g2) ((r1.mono g2.o).app r2)
/-- str(e) -/
theorem de_strI {n : Int} (hm : X.mg "str" = none) (ha : DE X en a k (.int n)) (hn : n.natAbs.log2 < 1920) (hg : glB X "str" = true := by kernel_rfl) (he : starEach [a] X.env = (false, eval a X.env) :: starEach [] X.env := by kernel_rfl) : DE X en (.Call (.Name "str" p) [a] [] pos) .c (.str (Str.ofString (toString n))) := fun B Bo Ho H σ f Q q => by
  refine wE_of (pe_callTy call_str_int (gl_of hg) hm (by decide +kernel) (pa_cons pe_w pa_nil he) (he := he)) ?_
  refine ha B Bo Ho H σ f _ fun v H1o H1 g1 r1 => ?_
  exact ⟨n, by rw [r1.int_inv], hn, q _ H1o H1 g1 (.str _)⟩
theorem log_small {n : Nat} (h : n < 1000) : ((n : Int)).natAbs.log2 < 1920 := by
  rw [Int.natAbs_natCast]
  have h1 : n.log2 ≤ n := Nat.log2_le_self n
  omega
theorem de_strN {n : Nat} (hm : X.mg "str" = none) (ha : DE X en a k (nD n)) (hn : n < 1000) (hg : glB X "str" = true := by kernel_rfl) (he : starEach [a] X.env = (false, eval a X.env) :: starEach [] X.env := by kernel_rfl) : DE X en (.Call (.Name "str" p) [a] [] pos) .c (.str (strN n)) := de_strI hm ha (log_small hn) hg he
theorem de_strS (hm : X.mg "str" = none) (ha : DE X en a k (.str x)) (hg : glB X "str" = true := by kernel_rfl) (he : starEach [a] X.env = (false, eval a X.env) :: starEach [] X.env := by kernel_rfl) : DE X en (.Call (.Name "str" p) [a] [] pos) .c (.str x) := fun B Bo Ho H σ f Q q => by
  refine wE_of (pe_callTy SkE.call_str_str (gl_of hg) hm (by decide +kernel) (pa_cons pe_w pa_nil he) (he := he)) ?_
  refine ha B Bo Ho H σ f _ fun v H1o H1 g1 r1 => ?_
  exact ⟨x, by rw [r1.str_inv], q _ H1o H1 g1 (.str _)⟩
/-- x[i], x[i:j], texts -/
theorem de_ixS {i : Int} {c : Nat} (ha : DE X en a ka (.str x)) (hb : DE X en b kb (.int i)) (hl : x.length ≤ 90000) (h : atI x.cps.toList i = some c) (hs : PlainIx b := by intro _ _; rfl) : DE X en (.Subscript a b pos) .c (.str ⟨#[c]⟩) := fun B Bo Ho H σ f Q q => by
  refine wE_of (pe_ix ix_str pe_w pe_w hs) ?_
  refine ha B Bo Ho H σ f _ fun v H1o H1 g1 r1 => ?_
  refine hb B Bo H1o H1 σ (f.gr g1) _ fun u H2o H2 g2 r2 => ?_
  exact ⟨x, i, c, by rw [r1.str_inv], by rw [r2.int_inv], sz100 (by omega), h, q _ H2o H2 (g1.trans g2) (.str _)⟩
theorem cutS_len (z : Str) (lo hi : Option Int) : (cutS z lo hi).length ≤ z.length := by
  show (List.toArray _).size ≤ _
  rw [List.size_toArray, List.length_take, List.length_drop, Array.length_toList]
  show _ ≤ z.cps.size
  omega
variable {lo hi : Option Expr} {l h : Option Int}
theorem de_cutS (ha : DE X en a ka (.str x)) (hlen : x.length ≤ 90000) (hl : DO X en lo l) (hh : DO X en hi h) : DE X en (.Subscript a (.Slice lo hi none p2) pos) .c (.str (cutS x l h)) := fun B Bo Ho H σ f Q q => by
  obtain ⟨tl, pl, ql⟩ := hl
  obtain ⟨th, ph, qh⟩ := hh
  refine wE_of (pe_slice sl_str pe_w pl ph) ?_
  refine ha B Bo Ho H σ f _ fun v H1o H1 g1 r1 => ?_
  refine ql B Bo H1o H1 σ (f.gr g1) _ fun H2o H2 g2 => ?_
  refine qh B Bo H2o H2 σ ((f.gr g1).gr g2) _ fun H3o H3 g3 => ?_
  exact ⟨x, by rw [r1.str_inv], sz100 (by omega), q _ _ _ ((g1.trans g2).trans g3) (.str _)⟩
theorem dt_neT (ha : DE X en a ka (.str x)) (hb : DE X en b kb (.str y)) (hm : behindInMarks .NotEq b = false := by kernel_rfl) : DT X en (.Compare a [.NotEq] [b] pos) (!decide (x = y)) :=
  (dt_cmp op_ne ha hb (o2_neS rfl rfl rfl) hm).is (by simp [toV])
/-- xs[::-1] -/
theorem de_revL {kq : Nat} {p1 : Pos} (ha : DE X en a .e (.list ds)) : DE X en (.Subscript a (.Slice none none (some (.UnaryOp .USub (.Constant (.int 1) kq p1) p2)) p3) pos) .o (.list ds.reverse) := fun B Bo Ho H σ f Q q => by
  refine wE_of (pe_revL pe_w) ?_
  refine ha B Bo Ho H σ f _ fun v H1o H1 g1 r1 => ?_
  obtain ⟨p, xs, rfl, q1, r1⟩ := r1
  exact ⟨p, xs, rfl, .inl (.inl q1), fun c hc => q _ _ _ (g1.trans (.tmp g1.s hc)) ⟨c, rfl, g1.h.free hc, g1.s.free hc, _, upd_same, r1.rev⟩⟩
theorem inV_strs (x : Str) : ∀ ys : List Str, inV (.str x) (ys.map V.str) = decide (x ∈ ys)
  | [] => rfl
  | y :: ys => by
    have ih := inV_strs x ys
    unfold inV at ih ⊢
    rw [List.map_cons, List.any_cons, ih]
    show ((y == x) || decide (x ∈ ys)) = decide (x ∈ y :: ys)
    by_cases e : y = x
    · subst e; simp
    · rw [beq_false_of_ne e, Bool.false_or]
      exact decide_eq_decide.mpr ⟨fun m => List.mem_cons_of_mem _ m, fun m => (List.mem_cons.mp m).resolve_left fun z => e z.symm⟩
theorem flat_strs (ys : List Str) : (ys.map V.str).all flatV = true := by
  rw [List.all_map, List.all_eq_true]
  exact fun _ _ => rfl
/-- x not in a list of texts -/
theorem dt_notInS {ys : List Str} (ha : DE X en a ka (.str x)) (hb : DE X en b .e (.list (ys.map PyData.str))) (hm : behindInMarks .NotIn b = false := by kernel_rfl) : DT X en (.Compare a [.NotIn] [b] pos) (!decide (x ∈ ys)) :=
  dt_cmp (k := .c) op_notIn_seq ha hb (fun H0 H0' Ho H v u s r1 r2 Q q => by
    obtain ⟨p, xs, rfl, q2, r2⟩ := RpE.lt r2
    have e := rpa_strs_inv r2
    subst e
    rw [r1.str_inv]
    refine ⟨p, _, rfl, .inl (.inl (.inl q2)), rfl, flat_strs ys, ?_⟩
    show Q (V.bl (!inV _ _)) H
    rw [inV_strs]
    exact q _ Ho H (.refl s) (.bl _)) hm
theorem kit_ss : kitB "str" "str" = some true := by decide +kernel
end
end DL

/-! E4: lists of one's own at a told address, in slots that the text doesn't name. -/
namespace DL
open PySem PySem.Spec PyProof.Rows L2
variable [Lam]
/-! ### data without lists and dicts -/
mutual
def flatD : PD → Bool
  | .list _ => false
  | .dict _ => false
  | .tuple xs => flatA xs
  | _ => true
def flatA : List PD → Bool
  | [] => true
  | x :: xs => flatD x && flatA xs
end
section
variable {K : PySem.W.Frag} {H : Hp} {p : Addr} {ws : List V}
mutual
theorem Rp.del (hp : H p = some (.lst ws)) : ∀ {v : V} {d : PD}, Rp K H v d → flatD d = true → Rp K (DL.del H p) v d
  | _, _, .non, _ => .non
  | _, _, .bl b, _ => .bl b
  | _, _, .int i, _ => .int i
  | _, _, .str x, _ => .str x
  | _, _, .lst _ _, c => by simp [flatD] at c
  | _, _, .tup (a := a) h r, c => .tup ((del_at (fun e => by subst e; rw [hp] at h; cases h)).trans h) (RpA.del hp r (by simpa [flatD] using c))
  | _, _, .dct _ _, c => by simp [flatD] at c
  | _, _, .scr _, c => by simp [DL.scr, flatD] at c
  | _, _, .tux _ _ _, c => by simp [DL.tx, flatD] at c
  | _, _, .adr _, c => by simp [DL.adD, flatD] at c
  | _, _, .obj _ _ _, c => by simp [DL.obD, flatD] at c
  | _, _, .fact _, c => by simp [DL.atD, flatD] at c
theorem RpA.del (hp : H p = some (.lst ws)) : ∀ {v : List V} {d : List PD}, RpA K H v d → flatA d = true → RpA K (DL.del H p) v d
  | _, _, .nil, _ => .nil
  | _, _, .cons h r, c => by
    simp only [flatA, Bool.and_eq_true] at c
    exact .cons (Rp.del hp h c.1) (RpA.del hp r c.2)
end
end
theorem flatA_map {α : Type} {f : α → PD} : ∀ {xs : List α}, (∀ x ∈ xs, flatD (f x) = true) → flatA (xs.map f) = true
  | [], _ => rfl
  | x :: xs, h => by
    rw [List.map_cons, flatA, h x List.mem_cons_self, flatA_map fun y hy => h y (List.mem_cons_of_mem _ hy)]
    rfl
theorem flatRow (row : List Nat) : flatD (rowT row) = true := by
  rw [rowT, flatD]
  exact flatA_map fun _ _ => by simp [nD, flatD]
/-! ### what an address stands for -/
def Wkn (l : Addr) (ds : List PD) (d d' : PD) : Prop := ∀ (K : PySem.W.Frag) (H : Hp) (vs : List V) (v : V), H l = some (.lst vs) → RpA K H vs ds → Rp K H v d → Rp K H v d'
theorem wkn_refl {l : Addr} {ds : List PD} {d : PD} : Wkn l ds d d := fun _ _ _ _ _ _ r => r
theorem wkn_ad {l : Addr} {ds : List PD} : Wkn l ds (adD l) (.list ds) := fun K H vs v e r q => by
  rw [q.ad_inv]
  exact .lst e r
inductive WknA (l : Addr) (ds : List PD) : List PD → List PD → Prop
  | nil : WknA l ds [] []
  | cons {d d' : PD} {xs ys : List PD} : Wkn l ds d d' → WknA l ds xs ys → WknA l ds (d :: xs) (d' :: ys)
theorem WknA.go {l : Addr} {ds : List PD} {K : PySem.W.Frag} {H : Hp} {vs : List V} (e : H l = some (.lst vs)) (r : RpA K H vs ds) : ∀ {xs ys : List PD} {us : List V}, WknA l ds xs ys → RpA K H us xs → RpA K H us ys
  | _, _, _, .nil, .nil => .nil
  | _, _, _, .cons w t, .cons q s => .cons (w K H vs _ e r q) (WknA.go e r t s)
theorem wkn_tup {l : Addr} {ds xs ys : List PD} (h : WknA l ds xs ys) : Wkn l ds (.tuple xs) (.tuple ys) := fun K H vs v e r q => by
  obtain ⟨a, us, rfl, ha, ru⟩ := q.tup_inv
  exact .tup ha (h.go e r ru)
inductive WknK (l : Addr) (ds : List PD) : List (PD × PD) → List (PD × PD) → Prop
  | nil : WknK l ds [] []
  | cons {k d d' : PD} {xs ys : List (PD × PD)} : Wkn l ds d d' → WknK l ds xs ys → WknK l ds ((k, d) :: xs) ((k, d') :: ys)
theorem WknK.go {l : Addr} {ds : List PD} {K : PySem.W.Frag} {H : Hp} {vs : List V} (e : H l = some (.lst vs)) (r : RpA K H vs ds) : ∀ {xs ys : List (PD × PD)} {us : List (L2.Key × V)}, WknK l ds xs ys → RpK K H us xs → RpK K H us ys
  | _, _, _, .nil, .nil => .nil
  | _, _, _, .cons w t, .cons q s => .cons (w K H vs _ e r q) (WknK.go e r t s)
theorem wkn_ob {l C : Addr} {ds : List PD} {xs ys : List (PD × PD)} (h : WknK l ds xs ys) : Wkn l ds (obD C xs) (obD C ys) := fun K H vs v e r q => by
  obtain ⟨a, dx, fs, rfl, ha, ho, ru⟩ := q.ob_inv
  exact .obj ha ho (h.go e r ru)
section
variable {K : PySem.W.Frag} {B Bo Ho H : Hp} {σ : L2.St} {en : En} {i g : Nat} {l : Addr} {d d' : PD} {ds : List PD}
theorem Fit.reV (f : Fit K B Bo Ho H σ en) (h : en[i]? = some (some (.v d))) (w : ∀ v, Rp K Ho v d → Rp K Ho v d') : Fit K B Bo Ho H σ (en.set i (some (.v d'))) := by
  refine ⟨f.bo, f.bh, f.boh, f.hoh, f.fr, f.tb, by rw [List.length_set]; exact f.len, fun j s e => ?_, fun j k {_ _} d1 d2 p e1 e2 e3 e4 => ?_⟩
  · rcases get_set e with ⟨rfl, e5⟩ | ⟨n, e5⟩
    · cases e5
      obtain ⟨v, e1, r⟩ := f.var h
      exact ⟨v, e1, w v r⟩
    · exact f.sl j s e5
  · rcases get_set e1 with ⟨_, e⟩ | ⟨n1, e1⟩
    · cases e
    rcases get_set e2 with ⟨_, e⟩ | ⟨n2, e2⟩
    · cases e
    exact f.dj j k d1 d2 p e1 e2 e3 e4
/-- the list is frozen: what holds its address holds the list -/
theorem Fit.freezeG (f : Fit K B Bo Ho H σ en) (hg : en[g]? = some (some (.a l (.list ds)))) (hi : en[i]? = some (some (.v d))) (ne : i ≠ g) (w : Wkn l ds d d') :
    ∃ vs, Ho l = none ∧ H l = some (.lst vs) ∧ Fit K B Bo (upd Ho l (.lst vs)) H σ ((en.set g (some (.v (.list ds)))).set i (some (.v d'))) := by
  obtain ⟨p, _, _, _, ⟨us, e0, r0⟩, al⟩ := f.ownL hg
  have al : p = l := al
  subst al
  obtain ⟨p', vs, n1, al, eo, f2⟩ := f.freezeP hg
  have al : p' = p := al
  subst al
  rw [e0] at eo
  cases eo
  refine ⟨us, n1, e0, f2.reV (d := d) (by rw [List.getElem?_set_ne (fun z => ne z.symm)]; exact hi) fun v r => w K _ us v upd_same (r0.mono (same_new n1)) r⟩
theorem Gr.thaw {vs : List V} {Ho' H' : Hp} (n1 : Ho l = none) (gr : Gr (upd Ho l (.lst vs)) H Ho' H') : Gr Ho H (del Ho' l) H' :=
  ⟨gr.h, ⟨fun b o e => by
    have np : b ≠ l := fun z => by subst z; rw [n1] at e; cases e
    rw [del_at np]
    exact gr.o.ex b o ((upd_ne np).trans e)⟩, ⟨fun b o e => by
    by_cases np : b = l
    · subst np; rw [del_no] at e; cases e
    · rw [del_at np] at e
      exact gr.s.ex b o e⟩, fun b hb => by
    by_cases np : b = l
    · subst np; rw [del_no, n1]
    · rw [del_at np]
      exact (gr.fr b hb).trans (upd_ne np), gr.tb⟩
end
section
variable {X : Cx} {en : En} {P : Po} {e a b c : Expr} {es : List Expr} {ss : List Stmt} {i g : Nat} {l : Addr} {d d' d1 d2 z : PD} {ds zs : List PD} {dl : Addr → PD} {k : Kd} {x y : Str} {p pos pos' : Pos}
/-- what is made over the frozen list does not hold it -/
theorem de_thawC (g i : Nat) (hw : Wkn l ds d d') (h : DE X ((en.set g (some (.v (.list ds)))).set i (some (.v d'))) e .c z) (hz : flatD z = true) (ne : i ≠ g := by decide) (hg : en[g]? = some (some (.a l (.list ds))) := by rfl) (hi : en[i]? = some (some (.v d)) := by rfl) : DE X en e .c z := fun B Bo Ho H σ f Q q => by
  obtain ⟨vs, n1, eo, f2⟩ := f.freezeG hg hi ne hw
  refine h B Bo _ H σ f2 Q fun v H2o H2 gr r => q v _ H2 (gr.thaw n1) (Rp.del (gr.o.at _ _ upd_same) r hz)
theorem de_thawO (g i : Nat) (hw : Wkn l ds d d') (h : DE X ((en.set g (some (.v (.list ds)))).set i (some (.v d'))) e .o (.list zs)) (hz : flatA zs = true) (ne : i ≠ g := by decide) (hg : en[g]? = some (some (.a l (.list ds))) := by rfl) (hi : en[i]? = some (some (.v d)) := by rfl) : DE X en e .o (.list zs) := fun B Bo Ho H σ f Q q => by
  obtain ⟨vs, n1, eo, f2⟩ := f.freezeG hg hi ne hw
  refine h B Bo _ H σ f2 Q fun v H2o H2 gr r => ?_
  have ep : H2o l = some (.lst vs) := gr.o.at _ _ upd_same
  obtain ⟨p', rfl, a1, a2, us, a3, a4⟩ := r
  refine q _ _ H2 (gr.thaw n1) ⟨p', rfl, a1, ?_, us, a3, RpA.del ep a4 hz⟩
  by_cases np : p' = l
  · subst np; exact del_no
  · rw [del_at np]; exact a2
theorem dt_thaw {bb : Bool} (g i : Nat) (hw : Wkn l ds d d') (h : DT X ((en.set g (some (.v (.list ds)))).set i (some (.v d'))) e bb) (ne : i ≠ g := by decide) (hg : en[g]? = some (some (.a l (.list ds))) := by rfl) (hi : en[i]? = some (some (.v d)) := by rfl) : DT X en e bb := fun B Bo Ho H σ f Q q => by
  obtain ⟨vs, n1, eo, f2⟩ := f.freezeG hg hi ne hw
  exact h B Bo _ H σ f2 Q fun H2o H2 gr => q _ H2 (gr.thaw n1)
/-! ### a value that holds a new list -/
def hidB (X : Cx) (g : Nat) : Bool := match X.N[g]? with
  | some y => !visB X.env.scope y
  | none => true
theorem hid_of (h : hidB X g = true) : ∀ y, X.N[g]? = some y → ¬ Vis X.env.scope y := fun y e v => by
  unfold hidB at h
  rw [e] at h
  have : visB X.env.scope y = true := by
    unfold visB
    rcases v with v | v | v <;> rw [v]
  simp [this] at h
theorem wSs_ghost {σ : L2.St} {H : Hp} {D : Ends} {o : Option V} (hg : hidB X g = true) (h : wSs X ss D (σ.set g o) H) : wSs X ss D σ H := ⟨fun pins s I => h.run pins s (Inv.ghost I (hid_of hg))⟩
def DEG (X : Cx) (en : En) (e : Expr) (dl : Addr → PD) (ds : List PD) : Prop := ∀ (B Bo Ho H : Hp) (σ : L2.St), Fit X.K B Bo Ho H σ en → ∀ Q : VK, (∀ v l Ho' H', Gr Ho H Ho' H' → Rp X.K Ho' v (dl l) → H l = none → Ho' l = none → Own X.K Ho' H' l (.list ds) → Q v H') → wE X e σ H Q
theorem deg_tup3 {x1} (h1 : DE X en a .c d1) (h2 : DE X en b .c d2) (h3 : DE X en c .o (.list ds)) (s1 : starEach [a, b, c] X.env = (false, eval a X.env) :: starEach [b, c] X.env := by kernel_rfl) (s2 : starEach [b, c] X.env = (false, eval b X.env) :: starEach [c] X.env := by kernel_rfl) (s3 : starEach [c] X.env = (false, eval c X.env) :: starEach [] X.env := by kernel_rfl) :
    DEG X en (.Tuple [a, b, c] x1 pos) (fun l => .tuple [d1, d2, adD l]) ds := fun B Bo Ho H σ f Q q => by
  refine wE_of (pe_tup (pa_cons pe_w (pa_cons pe_w (pa_cons pe_w pa_nil s3) s2) s1)) ?_
  refine h1 B Bo Ho H σ f _ fun v1 H1o H1 g1 r1 => ?_
  refine h2 B Bo H1o H1 σ (f.gr g1) _ fun v2 H2o H2 g2 r2 => ?_
  refine h3 B Bo H2o H2 σ ((f.gr g1).gr g2) _ fun v3 H3o H3 g3 r3 => ?_
  obtain ⟨l, rfl, n1, n2, w⟩ := r3
  refine ⟨sz100 (by simp), fun p hp => ?_⟩
  have g12 := g1.trans g2
  have gg := g12.trans g3
  obtain ⟨o, eo⟩ := w.ex
  have ne : l ≠ p := fun z => by subst z; rw [hp] at eo; cases eo
  have m := same_new (o := .tup [v1, v2, .ref l]) (g3.s.free hp)
  refine q _ l _ _ (gg.trans (.new gg.s hp)) (.tup upd_same (.cons (Rp.mono (g2.o.trans (g3.o.trans m)) r1) (.cons (Rp.mono (g3.o.trans m) r2) (.one (.adr l))))) (g12.h.free n1) ((upd_ne ne).trans n2) (w.mono m (same_new hp))
theorem dss_setG (i g : Nat) (he : DEG X en e dl ds) (h : ∀ l, DSs X ((en.set g (some (.a l (.list ds)))).set i (some (.v (dl l)))) ss P) (hN : X.N.Nodup) (ne : g ≠ i := by decide) (hg : hidB X g = true := by kernel_rfl) (hi : X.N[i]? = some x := by kernel_rfl) (hx : locB X.env.scope x = true := by kernel_rfl)
    (hs : swapsWith e (some (.Name x pos')) pos.line X.env = pure false := by kernel_rfl) (hf : fnB X x = true := by kernel_rfl) : DSs X en (.Assign [.Name x pos'] e pos :: ss) P := fun B Bo Ho H σ f D t =>
  wSs_of (pss_cons (ps_set hN hi (loc_of hx) pe_w hs (fn_ofB hf)) pss_w) (he B Bo Ho H σ f _ fun v l Ho' H' gr r n1 n2 w => by
    refine wSs_ghost (o := some (.ref l)) hg ?_
    have f2 := (f.setL (i := g) (l := some l) gr n1 n2 w rfl).setV (i := i) r
    have f2 := List.set_comm (a := some (V.ref l)) (b := some v) (l := σ) ne ▸ f2
    exact h l B Bo Ho' H' _ f2 D t)
end
/-- the promise of a def that returns such a value -/
def spG (K : PySem.W.Frag) (R : List PD → (Addr → PD) → List PD → Prop) : Sp := fun vs H Q _ => ∃ Bo ds dl ls, Same Bo H ∧ TbK H ∧ RpA K Bo vs ds ∧ R ds dl ls ∧ ∀ v l Ho' H', Gr Bo H Ho' H' → Rp K Ho' v (dl l) → H l = none → Ho' l = none → Own K Ho' H' l (.list ls) → Q v H'
structure GDn (P : Program) (w : World) (K : PySem.W.Frag) (mg : Str → Option Value) (base : Heap) (n : Nat) (x : Str) (R : List PD → (Addr → PD) → List PD → Prop) : Prop where
  ex : ∃ f fd ps, FnOk P w K mg base CX0 n f fd ps (spG K R) ∧ mg x = some (.ref f) ∧ PySem.W.keepIn K (.ref f) = true ∧ Binds K fd ps []
theorem GDn.up {P : Program} {w : World} {K : PySem.W.Frag} {mg : Str → Option Value} {base : Heap} {n m : Nat} {x : Str} {R : List PD → (Addr → PD) → List PD → Prop} (h : GDn P w K mg base n x R) (l : n ≤ m) : GDn P w K mg base m x R := by
  obtain ⟨f, fd, ps, F, r⟩ := h
  exact ⟨f, fd, ps, F.mono l, r⟩
section
variable {X : Cx} {en : En} {e : Expr} {es : List Expr} {ds ls : List PD} {dl : Addr → PD} {x : Str} {p pos : Pos} {n : Nat} {R : List PD → (Addr → PD) → List PD → Prop}
theorem deg_call (G : GDn X.prog X.w X.K X.mg X.base n x R) (hr : Room n X.A) (ha : DA X en (e :: es) .c ds) (h : R ds dl ls) (hg : glB X x = true := by kernel_rfl) (hdb : (x == ("__debug__" : Str)) = false := by kernel_rfl) (he : starEach (e :: es) X.env = (false, eval e X.env) :: starEach es X.env := by kernel_rfl)
    (hpl : (backTo pos (starEach es X.env)).any (·.1) = false := by kernel_rfl) : DEG X en (.Call (.Name x p) (e :: es) [] pos) dl ls := fun B Bo Ho H σ f Q q => by
  obtain ⟨fa, fd, ps, F, hm, hk, hb⟩ := G
  refine wE_of (pe_call F hr (gl_of hg) hm hk hb .nil pass0 pa_w hdb he hpl) ?_
  refine ha B Bo Ho H σ f _ fun vs H1o H1 g1 r1 => ?_
  exact ⟨H1o, ds, dl, ls, g1.s, g1.tb f.tb, by rw [List.append_nil]; exact r1, h, fun v l H2o H2 g2 r2 n1 n2 w => q v l H2o H2 (g1.trans g2) r2 (g1.h.free n1) n2 w⟩
end
section
variable {P : Program} {w : World} {K : PySem.W.Frag} {mg : Str → Option Value} {base : Heap}
/-- the rule for such a def: g its ghost slot -/
theorem fn_mkG {qual : Str} {st : Stmt} {f : Addr} {fd : FuncData} {N ps : List Str} {k : Nat} (g : Nat) (F : FnP K qual st f fd) (S : FnScope N ps (defScope st)) (R : List PD → (Addr → PD) → List PD → Prop) (hlen : ∀ ds dl ls, R ds dl ls → ds.length = ps.length)
    (hb : ∀ (cdv : Value) (A : Around) (outer : List Env) (s : Shared) (H : Hp) (E : XK), Room k (A.deeper (envOfC qual (defScope st) s.heap.objs.size f cdv)) → ∀ ds dl ls, R ds dl ls →
      DSs (cxOf CX0 P w K mg base N qual (defScope st) f cdv A outer s H E).nox (startE N ds) (defBody st) { nx := fun _ => False, rt := fun _ => True, re := fun z en => ∃ l, z = dl l ∧ en[g]? = some (some (.a l (.list ls))) }) : FnOk P w K mg base CX0 (k + 1) f fd ps (spG K R) := by
  refine F.ok S (fun vs H Q E h => ?_) (fun cdv A outer s H vs Q E hr h => ?_)
  · obtain ⟨Bo, ds, dl, ls, _, _, r, h, _⟩ := h
    rw [r.len]
    exact hlen ds dl ls h
  · obtain ⟨Bo, ds, dl, ls, sb, tb, r, h, q⟩ := h
    refine ⟨_, PSs.nox pss_w, ?_⟩
    refine hb cdv A outer s H E hr ds dl ls h H Bo Bo H _ (fit_start sb tb r) _ ⟨fun _ _ _ _ z => z.elim, fun v d' σ' Ho' H' en' _ e f' r => ?_, fun _ _ _ _ z => z.elim, fun _ _ _ _ z => z.elim⟩
    obtain ⟨l, rfl, hg⟩ := e
    obtain ⟨p, _, n1, n2, w, al⟩ := f'.ownL hg
    have al : p = l := al
    subst al
    exact q v p Ho' H' f'.gr0 r n2 n1 w
theorem gdn_mk {x : Str} {f : Addr} {fd : FuncData} {ps : List Str} {k : Nat} {R : List PD → (Addr → PD) → List PD → Prop} (h : FnOk P w K mg base CX0 k f fd ps (spG K R)) (hm : mg x = some (.ref f)) (hk : PySem.W.keepIn K (.ref f) = true) (hb : Binds K fd ps []) : GDn P w K mg base k x R := ⟨⟨f, fd, ps, h, hm, hk, hb⟩⟩
end
/-! ### the list at the address is written -/
section
variable {X : Cx} {en : En} {P : Po} {e : Expr} {g : Nat} {l : Addr} {ds : List PD} {apos cpos pos : Pos}
theorem ds_clearG (g : Nat) (he : DE X en e .c (adD l)) (q : P.nx (en.set g (some (.a l (.list []))))) (hg : en[g]? = some (some (.a l (.list ds))) := by rfl)
    (hb : PE X (.Call (.Attribute e "clear" apos) [] [] cpos) (tBM0 X.K "list" rClear (wE X e)) := by exact pe_bm0 PySem.F.plainAttrs_list PySem.F.slot_list_clear PySem.F.type_list_clear mt_clear pe_w) :
    DS X en (.Expr (.Call (.Attribute e "clear" apos) [] [] cpos) pos) P := fun B Bo Ho H σ f D t => by
  refine wS_of (ps_expr hb) ?_
  refine he B Bo Ho H σ f _ fun v Ho' H' gr r => ?_
  rw [r.ad_inv]
  have f2 := f.gr gr
  obtain ⟨p, e1, n1, n2, ⟨vs, q1, r1⟩, al⟩ := f2.ownL hg
  have al : p = l := al
  subst al
  exact ⟨.inl ⟨rfl, _, .inl (.inl q1)⟩, p, vs, rfl, rfl, q1, t.nx _ _ _ _ q (f2.write hg e1 ⟨_, upd_same, .nil⟩)⟩
end
end DL

/-! E5: try: .. except x as n: .. else: .., over data. -/
namespace DL
open PySem PySem.Spec PyProof.Rows L2 L2H HotX
variable [Lam]
section
variable {X : Cx} {en : En} {P : Po} {cx n : Str} {C Wc : Addr} {i : Nat} {body suite orelse : List Stmt} {b₀ : Stmt} {np pos pos' : Pos}
theorem ds_tryEN (i : Nat) (N : En → Prop) (hb : ∀ (pn : List (Addr × Obj)) (xe : Value → Shared → Prop), DSs (X.tr pn xe) en body { P with nx := N }) (he : ∀ en', N en' → DSs X en' orelse P) (hW : X.mg cx = some (.ref Wc))
    (hN : X.N.Nodup) (hs : X.stack = X.env :: X.outer := by rfl) (hf : X.env.frame = some X.env.locals := by rfl) (hi : X.N[i]? = some n := by kernel_rfl) (hl : X.env.kindOf n = some .local := by kernel_rfl) (hg : glB X cx = true := by kernel_rfl) (hdb : (cx == ("__debug__" : Str)) = false := by kernel_rfl) :
    DS X en (.Try body [.ExceptHandler (some (.Name cx np)) (some n) (b₀ :: suite) pos'] orelse [] pos) P := fun B Bo Ho H σ f D t => by
  refine wS_of (ps_try_asE (cv := .ref Wc) (i := i) (Wo := fun _ _ _ _ => False) (tu := fun D σ H => wSs X orelse D σ H) (tb := fun W D σ H => ∃ B Bo Ho, Fit X.K B Bo Ho H σ en ∧ Sat X.K B Bo { P with nx := N } D) (ts := fun _ _ _ _ _ _ => False)
    pss_w hs hf hN hi hl ⟨gl_of hg, hdb, .inl hW⟩ (fun u s' z => ?_) (fun W pn xe tk _ => ⟨fun pins s σ H D I h => ?_⟩) (fun a oe cls d pn hz hf => ⟨fun pins s σ H D I h => h.elim⟩)) ⟨B, Bo, Ho, f, ⟨fun σ' Ho' H' en' n f' => he en' n B Bo Ho' H' σ' f' D t, t.rt, t.bk, t.ct⟩⟩
  · obtain ⟨a, B, sI, pins, σ, H, cls, d, e, I, nb, up, sky, na, os, ag, w⟩ := z
    exact w.elim
  · obtain ⟨B, Bo, Ho, f, q⟩ := h
    exact (hb pn xe B Bo Ho H σ f D q).run pins s I
theorem ds_tryER (i : Nat) (hb : ∀ (pn : List (Addr × Obj)) (xe : Value → Shared → Prop), DSsR (X.tr pn xe) en body C en) (hW : X.mg cx = some (.ref Wc)) (hm : PySem.W.exmOne X.K (.ref C) (.ref Wc) = some true)
    (hsu : ∀ (a : Addr) (oe : Obj) (pn : List (Addr × Obj)), L2N.Zn (.ref C) none oe → (∃ vs, oe.data = .fields vs) → DSs (X.suite a ((a, oe) :: pn)) (en.set i (some (.v (adD a)))) (b₀ :: suite) { P with nx := fun en' => P.nx (en'.set i none), bk := fun _ => False, ct := fun _ => False })
    (hN : X.N.Nodup) (hs : X.stack = X.env :: X.outer := by rfl) (hf : X.env.frame = some X.env.locals := by rfl) (hi : X.N[i]? = some n := by kernel_rfl) (hl : X.env.kindOf n = some .local := by kernel_rfl) (hg : glB X cx = true := by kernel_rfl) (hdb : (cx == ("__debug__" : Str)) = false := by kernel_rfl) :
    DS X en (.Try body [.ExceptHandler (some (.Name cx np)) (some n) (b₀ :: suite) pos'] orelse [] pos) P := fun B Bo Ho H σ f D t => by
  refine wS_of (ps_try_asE (cv := .ref Wc) (i := i) (Wo := fun _ _ _ _ => False) (tu := fun D σ H => wSs X orelse D σ H)
    (tb := fun W D σ H => ∃ B Bo Ho, Fit X.K B Bo Ho H σ en ∧ ∀ σ' Ho' H', Fit X.K B Bo Ho' H' σ' en → W (.ref C) none σ' H')
    (ts := fun a cls d D σ H => cls = .ref C ∧ d = none ∧ ∀ oe pn, L2N.Zn (.ref C) none oe → (∃ vs, oe.data = .fields vs) → wSs (X.suite a ((a, oe) :: pn)) (b₀ :: suite) D σ H)
    pss_w hs hf hN hi hl ⟨gl_of hg, hdb, .inl hW⟩ (fun u s' z => ?_) (fun W pn xe tk _ => ⟨fun pins s σ H D I h => ?_⟩) (fun a oe cls d pn hz hf => ⟨fun pins s σ H D I h => ?_⟩)) ⟨B, Bo, Ho, f, fun σ' Ho' H' f' => ⟨true, hm, fun _ a ha => ⟨rfl, rfl, fun oe pn hz hf => ?_⟩, fun z => by cases z⟩⟩
  · obtain ⟨a, B, sI, pins, σ, H, cls, d, e, I, nb, up, sky, na, os, ag, w⟩ := z
    exact w.elim
  · obtain ⟨B, Bo, Ho, f, q⟩ := h
    exact (hb pn xe W tk B Bo Ho H σ f q D).run pins s I
  · obtain ⟨rfl, rfl, h⟩ := h
    exact (h oe pn hz hf).run pins s I
  · exact hsu a oe pn hz hf B Bo Ho' H' _ (f'.setV (.adr a)) _ ⟨fun σ2 Ho2 H2 en2 n f2 => t.nx _ _ _ _ n f2.drop, t.rt, fun _ _ _ _ z => z.elim, fun _ _ _ _ z => z.elim⟩
theorem dt_neU {a b : Expr} {ka kb : Kd} {da db : PD} (hu : X.A.units + 64 < cLine) (ha : DE X en a ka da) (hb : DE X en b kb db) (h1 : SeqAt.shaped da = true) (h2 : SeqAt.shaped db = true) (hm : behindInMarks .NotEq b = false := by kernel_rfl) : DT X en (.Compare a [.NotEq] [b] pos) (!PyData.eqv da db) :=
  dt_cmp (op_neD hu) ha hb (o2_neD h1 h2) hm
end
end DL
namespace DL
open PySem PySem.Spec PyProof.Rows L2
variable [Lam]
section
variable {X : Cx} {en enR enR' : En} {e : Expr} {ss : List Stmt} {i g : Nat} {ds : List PD} {dl : Addr → PD} {x : Str} {pos pos' : Pos} {C : Addr}
theorem DSsR.less2 (h : DSsR X en ss C enR) (l : Lee enR' enR) : DSsR X en ss C enR' := fun W tk B Bo Ho H σ f q D => h W tk B Bo Ho H σ f (fun σ' Ho' H' f' => q σ' Ho' H' (f'.less l)) D
theorem dsr_setG (i g : Nat) (he : DEG X en e dl ds) (h : ∀ l, DSsR X ((en.set g (some (.a l (.list ds)))).set i (some (.v (dl l)))) ss C enR) (hN : X.N.Nodup) (ne : g ≠ i := by decide) (hg : hidB X g = true := by kernel_rfl) (hi : X.N[i]? = some x := by kernel_rfl) (hx : locB X.env.scope x = true := by kernel_rfl)
    (hs : swapsWith e (some (.Name x pos')) pos.line X.env = pure false := by kernel_rfl) (hf : fnB X x = true := by kernel_rfl) : DSsR X en (.Assign [.Name x pos'] e pos :: ss) C enR := fun W tk B Bo Ho H σ f q D =>
  wSs_of (pss_cons (ps_set hN hi (loc_of hx) pe_w hs (fn_ofB hf)) pss_w) (he B Bo Ho H σ f _ fun v l Ho' H' gr r n1 n2 w => by
    refine wSs_ghost (o := some (.ref l)) hg ?_
    have f2 := (f.setL (i := g) (l := some l) gr n1 n2 w rfl).setV (i := i) r
    have f2 := List.set_comm (a := some (V.ref l)) (b := some v) (l := σ) ne ▸ f2
    exact h l W tk B Bo Ho' H' _ f2 q D)
end
end DL
namespace DL
open PySem PySem.Spec PyProof.Rows L2
variable [Lam]
section
variable {X : Cx} {en : En} {e : Expr} {es : List Expr} {ss : List Stmt} {i : Nat} {d : PD} {ds ls : List PD} {dl : Addr → PD} {x y : Str} {p pos pos' sp : Pos} {C : Addr} {n : Nat} {R : List PD → Prop}
/-- y = x(..), x raises -/
theorem dsr_asg (i : Nat) (G : RDn X.prog X.w X.K X.mg X.base n x R C) (hr : Room n X.A) (ha : DA X en (e :: es) .c ds) (h : R ds) (hN : X.N.Nodup) (hi : X.N[i]? = some y := by kernel_rfl) (hy : locB X.env.scope y = true := by kernel_rfl) (hf : fnB X y = true := by kernel_rfl) (hg : glB X x = true := by kernel_rfl) (hdb : (x == ("__debug__" : Str)) = false := by kernel_rfl)
    (he : starEach (e :: es) X.env = (false, eval e X.env) :: starEach es X.env := by kernel_rfl) (hpl : (backTo pos (starEach es X.env)).any (·.1) = false := by kernel_rfl) (hs : swapsWith (.Call (.Name x p) (e :: es) [] pos) (some (.Name y pos')) sp.line X.env = pure false := by kernel_rfl) :
    DSsR X en (.Assign [.Name y pos'] (.Call (.Name x p) (e :: es) [] pos) sp :: ss) C en := fun W tk B Bo Ho H σ f q D => by
  obtain ⟨fa, fd, ps, F, hm, hk, hb⟩ := G
  refine wSs_of (pss_cons (ps_set hN hi (loc_of hy) (pe_callS (E := WE W) F hr (gl_of hg) hm hk hb (fun σ => L2N.passAt tk σ) pa_w hdb he hpl) hs (fn_ofB hf)) pss_w) ?_
  refine ha B Bo Ho H σ f _ fun vs H1o H1 g1 r1 => ?_
  exact ⟨H1o, ds, g1.s, g1.tb f.tb, r1, h, fun H2o H2 g2 => q σ H2o H2 ((f.gr g1).gr g2)⟩
/-- the new list stays -/
theorem DEG.de (h : DEG X en e dl ls) (hw : ∀ l, Wkn l ls (dl l) d) : DE X en e .c d := fun B Bo Ho H σ f Q q => h B Bo Ho H σ f Q fun v l Ho' H' g r n1 n2 w => by
  obtain ⟨vs, e1, rl⟩ := w
  have m := same_new (o := .lst vs) n2
  exact q v _ H' (g.keep n1 n2 e1) (hw l _ _ vs v upd_same (rl.mono m) (Rp.mono m r))
end
end DL

/-! E6: the greatest, the least of numbers. -/
namespace DL
open PySem PySem.Spec PyProof.Rows L2
variable [Lam]
def maxN : List Nat → Nat
  | [] => 0
  | [a] => a
  | a :: r => max a (maxN r)
def minN : List Nat → Nat
  | [] => 0
  | [a] => a
  | a :: r => min a (minN r)
theorem maxN_spec : ∀ {ns : List Nat}, ns ≠ [] → maxN ns ∈ ns ∧ ∀ n ∈ ns, n ≤ maxN ns
  | [], h => absurd rfl h
  | [a], _ => ⟨List.mem_cons_self, fun n hn => by rw [List.mem_singleton.mp hn]; exact Nat.le_refl _⟩
  | a :: b :: r, _ => by
    obtain ⟨h1, h2⟩ := maxN_spec (ns := b :: r) (List.cons_ne_nil _ _)
    have e : maxN (a :: b :: r) = max a (maxN (b :: r)) := rfl
    rw [e]
    refine ⟨?_, fun n hn => ?_⟩
    · by_cases h : a ≤ maxN (b :: r)
      · rw [Nat.max_eq_right h]; exact List.mem_cons_of_mem _ h1
      · rw [Nat.max_eq_left (by omega)]; exact List.mem_cons_self
    · rcases List.mem_cons.mp hn with rfl | hn
      · exact Nat.le_max_left _ _
      · exact Nat.le_trans (h2 n hn) (Nat.le_max_right _ _)
theorem minN_spec : ∀ {ns : List Nat}, ns ≠ [] → minN ns ∈ ns ∧ ∀ n ∈ ns, minN ns ≤ n
  | [], h => absurd rfl h
  | [a], _ => ⟨List.mem_cons_self, fun n hn => by rw [List.mem_singleton.mp hn]; exact Nat.le_refl _⟩
  | a :: b :: r, _ => by
    obtain ⟨h1, h2⟩ := minN_spec (ns := b :: r) (List.cons_ne_nil _ _)
    have e : minN (a :: b :: r) = min a (minN (b :: r)) := rfl
    rw [e]
    refine ⟨?_, fun n hn => ?_⟩
    · by_cases h : a ≤ minN (b :: r)
      · rw [Nat.min_eq_left h]; exact List.mem_cons_self
      · rw [Nat.min_eq_right (by omega)]; exact List.mem_cons_of_mem _ h1
    · rcases List.mem_cons.mp hn with rfl | hn
      · exact Nat.min_le_left _ _
      · exact Nat.le_trans (Nat.min_le_right _ _) (h2 n hn)
section
variable {X : Cx} {en : En} {a : Expr} {p pos : Pos} {ns : List Nat}
theorem de_maxN (hc : X.calm = true) (hm : X.mg "max" = none) (ha : DE X en a .e (.list (ns.map nD))) (hn : ns ≠ []) (hg : glB X "max" = true := by kernel_rfl) (he : starEach [a] X.env = (false, eval a X.env) :: starEach [] X.env := by kernel_rfl) :
    DE X en (.Call (.Name "max" p) [a] [] pos) .c (nD (maxN ns)) := fun B Bo Ho H σ f Q q => by
  refine wE_of (pe_callB (cr_max hc) (gl_of hg) hm (by decide +kernel) (pa_cons pe_w pa_nil he) (he := he)) ?_
  refine ha B Bo Ho H σ f _ fun v H1o H1 g1 r1 => ?_
  obtain ⟨p, xs, rfl, q1, r1⟩ := RpE.lt r1
  have e := row_vals r1
  subst e
  refine ⟨p, ns.map fun (n : Nat) => (n : Int), rfl, .inl (.inl (by rw [List.map_map]; exact q1)), by rw [List.length_map]; exact List.length_pos_iff.mpr hn, fun m hm hall => ?_⟩
  obtain ⟨h1, h2⟩ := maxN_spec hn
  obtain ⟨j, hj, rfl⟩ := List.mem_map.mp hm
  have h3 := hall _ (List.mem_map_of_mem h1)
  have h4 := h2 j hj
  have e : j = maxN ns := by omega
  rw [e]
  exact q _ H1o H1 g1 (.int _)
theorem de_minN (hc : X.calm = true) (hm : X.mg "min" = none) (ha : DE X en a .e (.list (ns.map nD))) (hn : ns ≠ []) (hg : glB X "min" = true := by kernel_rfl) (he : starEach [a] X.env = (false, eval a X.env) :: starEach [] X.env := by kernel_rfl) :
    DE X en (.Call (.Name "min" p) [a] [] pos) .c (nD (minN ns)) := fun B Bo Ho H σ f Q q => by
  refine wE_of (pe_callB (cr_min hc) (gl_of hg) hm (by decide +kernel) (pa_cons pe_w pa_nil he) (he := he)) ?_
  refine ha B Bo Ho H σ f _ fun v H1o H1 g1 r1 => ?_
  obtain ⟨p, xs, rfl, q1, r1⟩ := RpE.lt r1
  have e := row_vals r1
  subst e
  refine ⟨p, ns.map fun (n : Nat) => (n : Int), rfl, .inl (.inl (by rw [List.map_map]; exact q1)), by rw [List.length_map]; exact List.length_pos_iff.mpr hn, fun m hm hall => ?_⟩
  obtain ⟨h1, h2⟩ := minN_spec hn
  obtain ⟨j, hj, rfl⟩ := List.mem_map.mp hm
  have h3 := hall _ (List.mem_map_of_mem h1)
  have h4 := h2 j hj
  have e : j = minN ns := by omega
  rw [e]
  exact q _ H1o H1 g1 (.int _)
end
end DL

/-! O1: objects with a list that changes: attributes, methods, defs that write the list. -/
namespace DL
open PySem PySem.Spec PyProof.Rows L2
variable [Lam]
/-! ### instances -/
theorem RpK.inv1 {K : PySem.W.Frag} {H : Hp} {k x : Str} {v : V} {d : PD} {kvs : List (L2.Key × V)} {ds : List (PD × PD)} (h : RpK K H ((.inr k, v) :: kvs) ((.str x, d) :: ds)) : k = x ∧ Rp K H v d ∧ RpK K H kvs ds := by
  generalize e : ((.str x, d) :: ds : List (PD × PD)) = ks at h
  cases h with
  | cons r t =>
    obtain ⟨e1, e2⟩ := List.cons.inj e
    obtain ⟨e3, e4⟩ := Prod.mk.inj e1
    have e3 : x = k := PyData.str.inj e3
    subst e3 e4 e2
    exact ⟨rfl, r, t⟩
theorem RpK.two {K : PySem.W.Frag} {H : Hp} {fs : List (Str × V)} {x1 x2 : Str} {d1 d2 : PD} (h : RpK K H (fs.map fun p => (.inr p.1, p.2)) [(.str x1, d1), (.str x2, d2)]) : ∃ v1 v2, fs = [(x1, v1), (x2, v2)] ∧ Rp K H v1 d1 ∧ Rp K H v2 d2 := by
  cases fs with
  | nil => cases h
  | cons p fs =>
    obtain ⟨y1, v1⟩ := p
    obtain ⟨e1, r1, h1⟩ := RpK.inv1 h
    cases fs with
    | nil => cases h1
    | cons q fs =>
      obtain ⟨y2, v2⟩ := q
      obtain ⟨e2, r2, h2⟩ := RpK.inv1 h1
      subst e1 e2
      cases fs with
      | nil => exact ⟨v1, v2, rfl, r1, r2⟩
      | cons q fs => exact nomatch (show RpK K H ((.inr q.1, q.2) :: fs.map fun p => (.inr p.1, p.2)) [] from h2)
def oD (C : Addr) (x1 : Str) (d1 : PD) (x2 : Str) (d2 : PD) : PD := obD C [(.str x1, d1), (.str x2, d2)]
theorem Rp.o_inv {K : PySem.W.Frag} {H : Hp} {v : V} {C : Addr} {x1 x2 : Str} {d1 d2 : PD} (h : Rp K H v (oD C x1 d1 x2 d2)) : ∃ a dx v1 v2, v = .ref a ∧ H a = some (.ins C dx [(x1, v1), (x2, v2)]) ∧ H dx = some (.own a) ∧ Rp K H v1 d1 ∧ Rp K H v2 d2 := by
  obtain ⟨a, dx, fs, rfl, h1, h2, h3⟩ := h.ob_inv
  obtain ⟨v1, v2, rfl, r1, r2⟩ := h3.two
  exact ⟨a, dx, v1, v2, rfl, h1, h2, r1, r2⟩
theorem Rp.o_mk {K : PySem.W.Frag} {H : Hp} {a dx C : Addr} {x1 x2 : Str} {v1 v2 : V} {d1 d2 : PD} (h1 : H a = some (.ins C dx [(x1, v1), (x2, v2)])) (h2 : H dx = some (.own a)) (r1 : Rp K H v1 d1) (r2 : Rp K H v2 d2) : Rp K H (.ref a) (oD C x1 d1 x2 d2) :=
  .obj h1 h2 (.cons (k := .inr x1) r1 (.cons (k := .inr x2) r2 .nil))
theorem wkn_o {l C : Addr} {ds : List PD} {x1 x2 : Str} {d1 d2 e1 e2 : PD} (h1 : Wkn l ds d1 e1) (h2 : Wkn l ds d2 e2) : Wkn l ds (oD C x1 d1 x2 d2) (oD C x1 e1 x2 e2) := wkn_ob (.cons h1 (.cons h2 .nil))
section
variable {X : Cx} {en : En} {o a e : Expr} {es : List Expr} {x f m : Str} {pos apos : Pos} {C : Addr} {x1 x2 : Str} {d1 d2 d : PD} {ds : List PD} {k : Kd}
theorem de_fld1 (c : Cls X.K C) (n : NoAttr X.K C x1) (ha : DE X en a .c (oD C x1 d1 x2 d2)) (hb : attributeBase a x1 X.env (eval a X.env) = eval a X.env := by rfl) : DE X en (.Attribute a x1 pos) .c d1 := fun B Bo Ho H σ f Q q => by
  refine wE_of (pe_fld pe_w hb) ?_
  refine ha B Bo Ho H σ f _ fun v H1o H1 g1 r1 => ?_
  obtain ⟨b, dx, v1, v2, rfl, h1, h2, q1, q2⟩ := Rp.o_inv r1
  exact ⟨b, C, dx, _, v1, rfl, g1.s.at _ _ h1, c, n, by simp, q _ H1o H1 g1 q1⟩
theorem de_fld2 (c : Cls X.K C) (n : NoAttr X.K C x2) (hx : ¬ x2 = x1) (ha : DE X en a .c (oD C x1 d1 x2 d2)) (hb : attributeBase a x2 X.env (eval a X.env) = eval a X.env := by rfl) : DE X en (.Attribute a x2 pos) .c d2 := fun B Bo Ho H σ f Q q => by
  refine wE_of (pe_fld pe_w hb) ?_
  refine ha B Bo Ho H σ f _ fun v H1o H1 g1 r1 => ?_
  obtain ⟨b, dx, v1, v2, rfl, h1, h2, q1, q2⟩ := Rp.o_inv r1
  exact ⟨b, C, dx, _, v2, rfl, g1.s.at _ _ h1, c, n, by simp [List.lookup, beq_false_of_ne hx], q _ H1o H1 g1 q2⟩
end
/-! ### methods over data -/
structure MDn (P : Program) (w : World) (K : PySem.W.Frag) (mg : Str → Option Value) (base : Heap) (n : Nat) (C : Addr) (m : Str) (R : List PD → PD → Prop) (k : Kd) : Prop where
  ex : ∃ f fd ps, FnOk P w K mg base CX0 n f fd ps (spF K R k) ∧ Meth K C m f ∧ Binds K fd ps []
theorem MDn.up {P : Program} {w : World} {K : PySem.W.Frag} {mg : Str → Option Value} {base : Heap} {n j : Nat} {C : Addr} {m : Str} {R : List PD → PD → Prop} {k : Kd} (h : MDn P w K mg base n C m R k) (l : n ≤ j) : MDn P w K mg base j C m R k := by
  obtain ⟨f, fd, ps, F, r⟩ := h
  exact ⟨f, fd, ps, F.mono l, r⟩
section
variable {X : Cx} {en : En} {o e : Expr} {es : List Expr} {m : Str} {pos apos : Pos} {C : Addr} {x1 x2 : Str} {d1 d2 d : PD} {ds : List PD} {k : Kd} {n : Nat} {R : List PD → PD → Prop}
theorem de_meth {pl : Sem Bool} (G : MDn X.prog X.w X.K X.mg X.base n C m R k) (c : Cls X.K C) (hr : Room n X.A) (ho : DE X en o .c (oD C x1 d1 x2 d2)) (ha : DA X en (e :: es) .c ds) (h : R (oD C x1 d1 x2 d2 :: ds) d) (h1 : (m == x1) = false := by decide +kernel) (h2 : (m == x2) = false := by decide +kernel)
    (hst : starEach (e :: es) X.env = (false, eval e X.env) :: starEach es X.env := by kernel_rfl) (hpl : (backTo pos (starEach es X.env)).any (·.1) = false := by kernel_rfl)
    (ht : eval (.Call (.Attribute o m apos) (e :: es) [] pos) X.env = (do
      let ov ← eval o X.env
      standAt apos.atName
      let (f, first) ← holding [ov] (getMethod ov m pl)
      callWith pos f first (backTo pos (starEach (e :: es) X.env)) (backToKw pos (keywordEach [] X.env))) := by rfl) : DE X en (.Call (.Attribute o m apos) (e :: es) [] pos) k d := fun B Bo Ho H σ f Q q => by
  obtain ⟨fa, fd, ps, F, hm, hb⟩ := G
  refine wE_of (pe_meth (CX := CX0) (E := fun _ _ _ => False) pe_w c hm F hr hb .nil pass0 pa_w hst hpl ht) ?_
  refine ho B Bo Ho H σ f _ fun v H1o H1 g1 r1 => ?_
  obtain ⟨b, dx, v1, v2, rfl, q1, q2, q3, q4⟩ := Rp.o_inv r1
  refine ⟨b, dx, _, rfl, g1.s.at _ _ q1, by simp [List.lookup, h1, h2], ?_⟩
  refine ha B Bo H1o H1 σ (f.gr g1) _ fun vs H2o H2 g2 r2 => ?_
  have g := g1.trans g2
  exact ⟨H2o, oD C x1 d1 x2 d2 :: ds, d, g.s, g.tb f.tb, by rw [List.append_nil]; exact .cons (Rp.mono g2.o r1) r2, h, fun v H3o H3 g3 r3 => q v H3o H3 (g.trans g3) (r3.base g.h)⟩
theorem de_meth0 {pl : Sem Bool} (G : MDn X.prog X.w X.K X.mg X.base n C m R k) (c : Cls X.K C) (hr : Room n X.A) (ho : DE X en o .c (oD C x1 d1 x2 d2)) (h : R [oD C x1 d1 x2 d2] d) (h1 : (m == x1) = false := by decide +kernel) (h2 : (m == x2) = false := by decide +kernel)
    (ht : eval (.Call (.Attribute o m apos) [] [] pos) X.env = (do
      let ov ← eval o X.env
      standAt apos.atName
      let (f, first) ← holding [ov] (getMethod ov m pl)
      callWith pos f first (backTo pos (starEach [] X.env)) (backToKw pos (keywordEach [] X.env))) := by rfl) : DE X en (.Call (.Attribute o m apos) [] [] pos) k d := fun B Bo Ho H σ f Q q => by
  obtain ⟨fa, fd, ps, F, hm, hb⟩ := G
  refine wE_of (pe_meth0 (CX := CX0) (E := fun _ _ _ => False) pe_w c hm F hr hb .nil pass0 ht) ?_
  refine ho B Bo Ho H σ f _ fun v H1o H1 g1 r1 => ?_
  obtain ⟨b, dx, v1, v2, rfl, q1, q2, q3, q4⟩ := Rp.o_inv r1
  refine ⟨b, dx, _, rfl, g1.s.at _ _ q1, by simp [List.lookup, h1, h2], ?_⟩
  exact ⟨H1o, [oD C x1 d1 x2 d2], d, g1.s, g1.tb f.tb, .one r1, h, fun v H3o H3 g3 r3 => q v H3o H3 (g1.trans g3) (r3.base g1.h)⟩
end
/-! ### defs that write the list at an address -/
section
variable {K : PySem.W.Frag} {B Bo Ho H Ho' H' : Hp} {σ : L2.St} {en : En} {g : Nat} {l : Addr} {ds ds' : List PD}
theorem Fit.unB (f : Fit K B Bo Ho H σ en) (h : Bo l = none) : Fit K (del B l) Bo Ho H σ en := by
  refine ⟨⟨fun b o e => ?_⟩, ⟨fun b o e => ?_⟩, f.boh, f.hoh, fun a ha => ?_, f.tb, f.len, fun i s e => ?_, f.dj⟩
  · have np : b ≠ l := fun z => by subst z; rw [h] at e; cases e
    rw [del_at np]
    exact f.bo.ex _ _ e
  · by_cases np : b = l
    · subst np; rw [del_no] at e; cases e
    · rw [del_at np] at e; exact f.bh.ex _ _ e
  · by_cases np : a = l
    · subst np; exact absurd del_no ha
    · rw [del_at np] at ha; exact f.fr a ha
  · have q := f.sl i s e
    cases s with
    | v d => exact q
    | w t d =>
      obtain ⟨p, a, n1, n2, w⟩ := q
      refine ⟨p, a, n1, ?_, w⟩
      by_cases np : p = l
      · subst np; exact del_no
      · rw [del_at np]; exact n2
/-- an own list that stands already -/
theorem Fit.adopt {d : PD} (f : Fit K B Bo Ho H σ en) (n1 : Ho l = none) (n2 : B l = none) (w : Own K Ho H l d) (far : ∀ (j : Nat) (t : Option Addr) (d' : PD), en[j]? = some (some (.w t d')) → σ[j]? ≠ some (some (.ref l))) : Fit K B Bo Ho H (σ.set g (some (.ref l))) (en.set g (some (.a l d))) := by
  refine ⟨f.bo, f.bh, f.boh, f.hoh, f.fr, f.tb, by rw [List.length_set, List.length_set]; exact f.len, fun j s e => ?_, fun j k {_ _} d1 d2 q e1 e2 e3 e4 => ?_⟩
  · have hj : j < (en.set g (some (.a l d))).length := (List.getElem?_eq_some_iff.mp e).1
    rw [List.length_set, ← f.len] at hj
    rcases get_set e with ⟨rfl, e5⟩ | ⟨n, e5⟩
    · cases e5
      exact ⟨l, by rw [List.getElem?_set_self hj], n1, n2, w, rfl⟩
    · rw [List.getElem?_set_ne n]
      exact f.sl j s e5
  · rcases get_set e1 with ⟨z1, _⟩ | ⟨z1, a1⟩
    · rcases get_set e2 with ⟨z2, _⟩ | ⟨z2, a2⟩
      · rw [← z1, ← z2]
      · rcases get_set e3 with ⟨_, b3⟩ | ⟨b3, _⟩
        · cases b3
          rw [List.getElem?_set_ne z2] at e4
          exact absurd e4 (far _ _ _ a2)
        · exact absurd z1 b3
    · rcases get_set e2 with ⟨z2, _⟩ | ⟨z2, a2⟩
      · rcases get_set e4 with ⟨_, b3⟩ | ⟨b3, _⟩
        · cases b3
          rw [List.getElem?_set_ne z1] at e3
          exact absurd e3 (far _ _ _ a1)
        · exact absurd z2 b3
      · rw [List.getElem?_set_ne z1] at e3
        rw [List.getElem?_set_ne z2] at e4
        exact f.dj _ _ _ _ _ a1 a2 e3 e4
/-- behind a call that wrote it -/
theorem Fit.mut (f : Fit K B Bo Ho H σ en) (hg : en[g]? = some (some (.a l (.list ds)))) (gr : Gr Ho (del H l) Ho' H') (tb : TbK H') (n1 : Ho' l = none) (w : Own K Ho' H' l (.list ds')) : Fit K B Bo Ho' H' σ (en.set g (some (.a l (.list ds')))) := by
  obtain ⟨p, e, m1, m2, w0, al⟩ := f.ownL hg
  have al : p = l := al
  subst al
  have bd : Same B (del H p) := ⟨fun b o eb => by
    obtain ⟨o', h1, h2⟩ := f.bh.ex b o eb
    have np : b ≠ p := fun z => by subst z; rw [m2] at eb; cases eb
    exact ⟨o', by rw [del_at np]; exact h1, h2⟩⟩
  refine ⟨f.bo, bd.trans gr.h, f.boh.trans gr.o, gr.s, fun a ha => ?_, tb, by rw [List.length_set]; exact f.len, fun j s ej => ?_, fun j k {_ _} d1 d2 q e1 e2 e3 e4 => ?_⟩
  · exact (gr.fr a (ne_none bd ha)).trans (f.fr a ha)
  · rcases get_set ej with ⟨rfl, e5⟩ | ⟨n, e5⟩
    · cases e5
      exact ⟨p, e, n1, m2, w, rfl⟩
    · have q := f.sl j s e5
      cases s with
      | v d1 => obtain ⟨v, a, r⟩ := q; exact ⟨v, a, r.mono gr.o⟩
      | w l1 d1 =>
        obtain ⟨p1, a, b1, b2, w1, al1⟩ := q
        have np : p1 ≠ p := fun z => by
          subst z
          exact n (f.dj g j _ _ _ hg e5 e a)
        have w2 : Own K Ho (del H p) p1 d1 := by
          cases d1 with
          | list ds => obtain ⟨vs, q, r⟩ := w1; exact ⟨vs, (del_at np).trans q, r⟩
          | tuple ds => obtain ⟨vs, q, r⟩ := w1; exact ⟨vs, (del_at np).trans q, r⟩
          | dict ds => obtain ⟨vs, q, r⟩ := w1; exact ⟨vs, (del_at np).trans q, r⟩
          | _ => exact w1.elim
        obtain ⟨o2, eo2⟩ := w2.ex
        exact ⟨p1, a, (gr.fr p1 (by rw [eo2]; intro z; cases z)).trans b1, b2, w2.mono gr.o gr.h, al1⟩
  · have back : ∀ {j : Nat} {l1 : Option Addr} {d1 : PD}, (en.set g (some (.a p (.list ds'))))[j]? = some (some (.w l1 d1)) → ∃ (l2 : Option Addr) (d2 : PD), en[j]? = some (some (.w l2 d2)) := fun {j l1 d1} z => by
      rcases get_set z with ⟨z1, _⟩ | ⟨n, z1⟩
      · exact ⟨_, _, by rw [← z1]; exact hg⟩
      · exact ⟨l1, d1, z1⟩
    obtain ⟨_, _, a1⟩ := back e1
    obtain ⟨_, _, a2⟩ := back e2
    exact f.dj j k _ _ q a1 a2 e3 e4
end
/-- the promise of a def that writes the list at the address l, which its arguments hold -/
def spM (K : PySem.W.Frag) (R : Addr → List PD → List PD → List PD → PD → Prop) : Sp := fun vs H Q _ => ∃ Bo l ds xs xs' d, Same Bo H ∧ TbK H ∧ RpA K Bo vs ds ∧ Bo l = none ∧ Own K Bo H l (.list xs) ∧ R l ds xs xs' d ∧
  ∀ v Ho' H', Gr Bo (del H l) Ho' H' → TbK H' → Ho' l = none → Own K Ho' H' l (.list xs') → Rp K Ho' v d → Q v H'
structure FMn (P : Program) (w : World) (K : PySem.W.Frag) (mg : Str → Option Value) (base : Heap) (n : Nat) (x : Str) (R : Addr → List PD → List PD → List PD → PD → Prop) : Prop where
  ex : ∃ f fd ps, FnOk P w K mg base CX0 n f fd ps (spM K R) ∧ mg x = some (.ref f) ∧ PySem.W.keepIn K (.ref f) = true ∧ Binds K fd ps []
structure MMn (P : Program) (w : World) (K : PySem.W.Frag) (mg : Str → Option Value) (base : Heap) (n : Nat) (C : Addr) (m : Str) (R : Addr → List PD → List PD → List PD → PD → Prop) : Prop where
  ex : ∃ f fd ps, FnOk P w K mg base CX0 n f fd ps (spM K R) ∧ Meth K C m f ∧ Binds K fd ps []
theorem FMn.up {P : Program} {w : World} {K : PySem.W.Frag} {mg : Str → Option Value} {base : Heap} {n j : Nat} {x : Str} {R : Addr → List PD → List PD → List PD → PD → Prop} (h : FMn P w K mg base n x R) (l : n ≤ j) : FMn P w K mg base j x R := by
  obtain ⟨f, fd, ps, F, r⟩ := h
  exact ⟨f, fd, ps, F.mono l, r⟩
theorem MMn.up {P : Program} {w : World} {K : PySem.W.Frag} {mg : Str → Option Value} {base : Heap} {n j : Nat} {C : Addr} {m : Str} {R : Addr → List PD → List PD → List PD → PD → Prop} (h : MMn P w K mg base n C m R) (l : n ≤ j) : MMn P w K mg base j C m R := by
  obtain ⟨f, fd, ps, F, r⟩ := h
  exact ⟨f, fd, ps, F.mono l, r⟩
/-- an expression that writes a list in a slot -/
def DM (X : Cx) (en : En) (e : Expr) (k : Kd) (d : PD) (en' : En) : Prop := ∀ (B Bo Ho H : Hp) (σ : L2.St), Fit X.K B Bo Ho H σ en → ∀ Q : VK, (∀ v Ho' H', Fit X.K B Bo Ho' H' σ en' → Rs X.K k B Ho' H' v d → Q v H') → wE X e σ H Q
def DTM (X : Cx) (en : En) (e : Expr) (b : Bool) (en' : En) : Prop := ∀ (B Bo Ho H : Hp) (σ : L2.St), Fit X.K B Bo Ho H σ en → ∀ Q : Bool → Hp → Prop, (∀ Ho' H', Fit X.K B Bo Ho' H' σ en' → Q b H') → wT X e σ H Q
def DWM (X : Cx) (en : En) (e : Expr) (b : Bool) (en' : En) : Prop := ∀ (B Bo Ho H : Hp) (σ : L2.St), Fit X.K B Bo Ho H σ en → ∀ Q : Bool → Hp → Prop, (∀ Ho' H', Fit X.K B Bo Ho' H' σ en' → Q b H') → wW X e σ H Q
section
variable {X : Cx} {en en' : En} {P : Po} {o a b e : Expr} {es : List Expr} {m x : Str} {p pos pos' apos : Pos} {C l : Addr} {x1 x2 : Str} {d1 d2 d : PD} {ds xs xs' : List PD} {k kb : Kd} {n i g : Nat} {R : Addr → List PD → List PD → List PD → PD → Prop}
theorem dm_meth {pl : Sem Bool} (g : Nat) (G : MMn X.prog X.w X.K X.mg X.base n C m R) (c : Cls X.K C) (hr : Room n X.A) (ho : DE X en o .c (oD C x1 d1 x2 d2)) (ha : DA X en (e :: es) .c ds) (h : R l (oD C x1 d1 x2 d2 :: ds) xs xs' d) (hg : en[g]? = some (some (.a l (.list xs))) := by rfl) (h1 : (m == x1) = false := by decide +kernel) (h2 : (m == x2) = false := by decide +kernel)
    (hst : starEach (e :: es) X.env = (false, eval e X.env) :: starEach es X.env := by kernel_rfl) (hpl : (backTo pos (starEach es X.env)).any (·.1) = false := by kernel_rfl)
    (ht : eval (.Call (.Attribute o m apos) (e :: es) [] pos) X.env = (do
      let ov ← eval o X.env
      standAt apos.atName
      let (f, first) ← holding [ov] (getMethod ov m pl)
      callWith pos f first (backTo pos (starEach (e :: es) X.env)) (backToKw pos (keywordEach [] X.env))) := by rfl) : DM X en (.Call (.Attribute o m apos) (e :: es) [] pos) .c d (en.set g (some (.a l (.list xs')))) := fun B Bo Ho H σ f Q q => by
  obtain ⟨fa, fd, ps, F, hm, hb⟩ := G
  refine wE_of (pe_meth (CX := CX0) (E := fun _ _ _ => False) pe_w c hm F hr hb .nil pass0 pa_w hst hpl ht) ?_
  refine ho B Bo Ho H σ f _ fun v H1o H1 g1 r1 => ?_
  obtain ⟨b, dx, v1, v2, rfl, q1, q2, q3, q4⟩ := Rp.o_inv r1
  refine ⟨b, dx, _, rfl, g1.s.at _ _ q1, by simp [List.lookup, h1, h2], ?_⟩
  refine ha B Bo H1o H1 σ (f.gr g1) _ fun vs H2o H2 g2 r2 => ?_
  have f2 := (f.gr g1).gr g2
  obtain ⟨p', _, n1, n2, w, al⟩ := f2.ownL hg
  have al : p' = l := al
  subst al
  exact ⟨H2o, p', oD C x1 d1 x2 d2 :: ds, xs, xs', d, f2.hoh, f2.tb, by rw [List.append_nil]; exact .cons (Rp.mono g2.o r1) r2, n1, w, h, fun v H3o H3 g3 tb n3 w3 r3 => q v H3o H3 (f2.mut hg g3 tb n3 w3) r3⟩
theorem dm_meth0 {pl : Sem Bool} (g : Nat) (G : MMn X.prog X.w X.K X.mg X.base n C m R) (c : Cls X.K C) (hr : Room n X.A) (ho : DE X en o .c (oD C x1 d1 x2 d2)) (h : R l [oD C x1 d1 x2 d2] xs xs' d) (hg : en[g]? = some (some (.a l (.list xs))) := by rfl) (h1 : (m == x1) = false := by decide +kernel) (h2 : (m == x2) = false := by decide +kernel)
    (ht : eval (.Call (.Attribute o m apos) [] [] pos) X.env = (do
      let ov ← eval o X.env
      standAt apos.atName
      let (f, first) ← holding [ov] (getMethod ov m pl)
      callWith pos f first (backTo pos (starEach [] X.env)) (backToKw pos (keywordEach [] X.env))) := by rfl) : DM X en (.Call (.Attribute o m apos) [] [] pos) .c d (en.set g (some (.a l (.list xs')))) := fun B Bo Ho H σ f Q q => by
  obtain ⟨fa, fd, ps, F, hm, hb⟩ := G
  refine wE_of (pe_meth0 (CX := CX0) (E := fun _ _ _ => False) pe_w c hm F hr hb .nil pass0 ht) ?_
  refine ho B Bo Ho H σ f _ fun v H1o H1 g1 r1 => ?_
  obtain ⟨b, dx, v1, v2, rfl, q1, q2, q3, q4⟩ := Rp.o_inv r1
  refine ⟨b, dx, _, rfl, g1.s.at _ _ q1, by simp [List.lookup, h1, h2], ?_⟩
  have f2 := f.gr g1
  obtain ⟨p', _, n1, n2, w, al⟩ := f2.ownL hg
  have al : p' = l := al
  subst al
  exact ⟨H1o, p', [oD C x1 d1 x2 d2], xs, xs', d, f2.hoh, f2.tb, .one r1, n1, w, h, fun v H3o H3 g3 tb n3 w3 r3 => q v H3o H3 (f2.mut hg g3 tb n3 w3) r3⟩
theorem dm_call (g : Nat) (G : FMn X.prog X.w X.K X.mg X.base n x R) (hr : Room n X.A) (ha : DA X en (e :: es) .c ds) (h : R l ds xs xs' d) (hg : en[g]? = some (some (.a l (.list xs))) := by rfl) (hgl : glB X x = true := by kernel_rfl) (hdb : (x == ("__debug__" : Str)) = false := by kernel_rfl) (he : starEach (e :: es) X.env = (false, eval e X.env) :: starEach es X.env := by kernel_rfl)
    (hpl : (backTo pos (starEach es X.env)).any (·.1) = false := by kernel_rfl) : DM X en (.Call (.Name x p) (e :: es) [] pos) .c d (en.set g (some (.a l (.list xs')))) := fun B Bo Ho H σ f Q q => by
  obtain ⟨fa, fd, ps, F, hm, hk, hb⟩ := G
  refine wE_of (pe_call F hr (gl_of hgl) hm hk hb .nil pass0 pa_w hdb he hpl) ?_
  refine ha B Bo Ho H σ f _ fun vs H1o H1 g1 r1 => ?_
  have f2 := f.gr g1
  obtain ⟨p', _, n1, n2, w, al⟩ := f2.ownL hg
  have al : p' = l := al
  subst al
  exact ⟨H1o, p', ds, xs, xs', d, f2.hoh, f2.tb, by rw [List.append_nil]; exact r1, n1, w, h, fun v H3o H3 g3 tb n3 w3 r3 => q v H3o H3 (f2.mut hg g3 tb n3 w3) r3⟩
theorem ds_exprM (h : DM X en e k d en') (q : P.nx en') (hs : swapsWith e none pos.line X.env = pure false := by kernel_rfl) : DS X en (.Expr e pos) P := fun B Bo Ho H σ f D t =>
  wS_of (ps_expr pe_w hs) (h B Bo Ho H σ f _ fun v Ho' H' f' r => t.nx _ Ho' H' _ q f')
theorem ds_setM (i : Nat) (h : DM X en e .c d en') (q : P.nx (en'.set i (some (.v d)))) (hN : X.N.Nodup) (hi : X.N[i]? = some x := by kernel_rfl) (hx : locB X.env.scope x = true := by kernel_rfl)
    (hs : swapsWith e (some (.Name x pos')) pos.line X.env = pure false := by kernel_rfl) (hf : fnB X x = true := by kernel_rfl) : DS X en (.Assign [.Name x pos'] e pos) P := fun B Bo Ho H σ f D t =>
  wS_of (ps_set hN hi (loc_of hx) pe_w hs (fn_ofB hf)) (h B Bo Ho H σ f _ fun v Ho' H' f' r => t.nx _ Ho' H' _ q (f'.setV r))
theorem ds_retM (h : DM X en e .c d en') (hk : P.rk = .c) (q : P.rt d) (qe : P.re d en') : DS X en (.Return (some e) pos) P := fun B Bo Ho H σ f D t =>
  wS_of (ps_ret pe_w) (h B Bo Ho H σ f _ fun v Ho' H' f' r => t.rt v d σ Ho' H' en' q qe f' (by rw [hk]; exact r))
theorem ds_ifM {t : Expr} {A Z : List Stmt} {c : Bool} (ht : DTM X en t c en') (h1 : c = true → DSs X en' A P) (h2 : c = false → DSs X en' Z P) : DS X en (.If t A Z pos) P := fun B Bo Ho H σ f D q =>
  wS_of (ps_if pt_w pss_w pss_w) (ht B Bo Ho H σ f _ fun Ho' H' f' => by
    cases c with
    | true => exact h1 rfl B Bo Ho' H' σ f' D q
    | false => exact h2 rfl B Bo Ho' H' σ f' D q)
theorem DWM.dt {c : Bool} (h : DWM X en e c en') : DTM X en e c en' := fun B Bo Ho H σ f Q q => wT_of (PW.pt pw_w) (h B Bo Ho H σ f Q q)
theorem dtm_of {c : Bool} (h : DT X en e c) : DTM X en e c en := fun B Bo Ho H σ f Q q => h B Bo Ho H σ f Q fun Ho' H' g => q Ho' H' (f.gr g)
theorem dtm_not {c : Bool} (h : DTM X en e c en') : DTM X en (.UnaryOp .Not e pos) (!c) en' := fun B Bo Ho H σ f Q q => wT_of (pt_not pt_w) (h B Bo Ho H σ f _ fun H1o H1 g1 => q H1o H1 g1)
theorem dtm_val {c : Bool} (h : DM X en e k (.bool c) en') (he : ∀ whole, isTrue e X.env whole = (do let v ← whole; standAt e.pos; holding [v] (truthy v)) := by intro _; rfl) : DTM X en e c en' := fun B Bo Ho H σ f Q q =>
  wT_of (pt_val pe_w he) (h B Bo Ho H σ f _ fun v H1o H1 f1 r1 => ⟨c, r1.bool_inv, q H1o H1 f1⟩)
theorem dwm_or1 {c : Bool} (h : DTM X en e c en') : DWM X en (.BoolOp .Or [e] pos) c en' := fun B Bo Ho H σ f Q q => wW_of (pw_or1 pt_w) (h B Bo Ho H σ f Q q)
theorem dwm_and1 {c : Bool} (h : DTM X en e c en') : DWM X en (.BoolOp .And [e] pos) c en' := fun B Bo Ho H σ f Q q => wW_of (pw_and1 pt_w) (h B Bo Ho H σ f Q q)
/-- the first is false: the rest decides -/
theorem dwm_or {rest : List Expr} {c : Bool} {en1 : En} (ha : DTM X en a false en1) (hb : DWM X en1 (.BoolOp .Or (b :: rest) pos) c en') : DWM X en (.BoolOp .Or (a :: b :: rest) pos) c en' := fun B Bo Ho H σ f Q q => by
  refine wW_of (pw_or pt_w pw_w) (ha B Bo Ho H σ f _ fun H1o H1 f1 => ?_)
  show wW X _ σ H1 Q
  exact hb B Bo H1o H1 σ f1 Q q
/-- a op b, a writes -/
theorem dtm_cmp {op : CmpOp} {r : R2} {c : Bool} {ka : Kd} {da db : PD} (ho : OpR X (compareOp op) r) (ha : DM X en a ka da en') (hb : DE X en' b kb db) (hr : Op2 X.K r ka da kb db .c (.bool c)) (hm : behindInMarks op b = false := by kernel_rfl) : DTM X en (.Compare a [op] [b] pos) c en' := fun B Bo Ho H σ f Q q => by
  refine wT_of (pt_cmpR ho pe_w pe_w hm) ?_
  refine ha B Bo Ho H σ f _ fun v H1o H1 f1 r1 => ?_
  refine hb B Bo H1o H1 σ f1 _ fun u H2o H2 g2 r2 => ?_
  exact hr B H1 H2o H2 v u g2.s (r1.gr g2) r2 _ fun z H3o H3 g3 r3 => ⟨c, r3.bool_inv, q H3o H3 (f1.gr (g2.trans g3))⟩
end
section
variable {P : Program} {w : World} {K : PySem.W.Frag} {mg : Str → Option Value} {base : Heap}
/-- methods over data -/
theorem fn_mkN {nm qual : Str} {st : Stmt} {f : Addr} {fd : FuncData} {N ps : List Str} {k : Nat} (F : FunD K nm qual (defArgs st) (defBody st) (defScope st) [] [] f fd) (S : FnScope N ps (defScope st)) (R : List PD → PD → Prop) (kd : Kd) (hlen : ∀ ds d, R ds d → ds.length = ps.length)
    (hb : ∀ (cdv : Value) (A : Around) (outer : List Env) (s : Shared) (H : Hp) (E : XK), Room k (A.deeper (envOfC qual (defScope st) s.heap.objs.size f cdv)) → ∀ ds d, R ds d →
      DSs (cxOf CX0 P w K mg base N qual (defScope st) f cdv A outer s H E).nox (startE N ds) (defBody st) { nx := fun _ => kd = .c ∧ d = .none, rk := kd, rt := fun z => z = d }) : FnOk P w K mg base CX0 (k + 1) f fd ps (spF K R kd) := by
  refine F.ok S (fun vs H Q E h => ?_) (fun cdv A outer s H vs Q E hr h => ?_)
  · obtain ⟨Bo, ds, d, _, _, r, h, _⟩ := h
    rw [r.len]
    exact hlen ds d h
  · obtain ⟨Bo, ds, d, sb, tb, r, h, q⟩ := h
    refine ⟨_, PSs.nox pss_w, ?_⟩
    refine hb cdv A outer s H E hr ds d h H Bo Bo H _ (fit_start sb tb r) _ ⟨fun σ' Ho' H' en' e g => ?_, fun v d' σ' Ho' H' en' e _ g r => ?_, fun _ _ _ _ z => z.elim, fun _ _ _ _ z => z.elim⟩
    · obtain ⟨e1, e2⟩ := e
      subst e1 e2
      exact q .non Ho' H' g.gr0 .non
    · have e : d' = d := e
      subst e
      exact q v Ho' H' g.gr0 r
/-- the rule for a def that writes the list: g its ghost slot -/
theorem fn_mkM {nm qual : Str} {st : Stmt} {f : Addr} {fd : FuncData} {N ps : List Str} {k : Nat} (g : Nat) (F : FunD K nm qual (defArgs st) (defBody st) (defScope st) [] [] f fd) (S : FnScope N ps (defScope st)) (R : Addr → List PD → List PD → List PD → PD → Prop) (hlen : ∀ l ds xs xs' d, R l ds xs xs' d → ds.length = ps.length)
    (hh : ∀ y, N[g]? = some y → ¬ Vis (defScope st) y)
    (hb : ∀ (cdv : Value) (A : Around) (outer : List Env) (s : Shared) (H : Hp) (E : XK), Room k (A.deeper (envOfC qual (defScope st) s.heap.objs.size f cdv)) → ∀ l ds xs xs' d, R l ds xs xs' d →
      DSs (cxOf CX0 P w K mg base N qual (defScope st) f cdv A outer s H E).nox ((startE N ds).set g (some (.a l (.list xs)))) (defBody st) { nx := fun en' => d = .none ∧ en'[g]? = some (some (.a l (.list xs'))), rt := fun z => z = d, re := fun _ en' => en'[g]? = some (some (.a l (.list xs'))) }) : FnOk P w K mg base CX0 (k + 1) f fd ps (spM K R) := by
  refine F.ok S (fun vs H Q E h => ?_) (fun cdv A outer s H vs Q E hr h => ?_)
  · obtain ⟨Bo, l, ds, xs, xs', d, _, _, r, _, _, h, _⟩ := h
    rw [r.len]
    exact hlen l ds xs xs' d h
  · obtain ⟨Bo, l, ds, xs, xs', d, sb, tb, r, nl, w0, h, q⟩ := h
    refine ⟨fun D σ H' => wSs (cxOf CX0 P w K mg base N qual (defScope st) f cdv A outer s H E).nox (defBody st) D (σ.set g (some (.ref l))) H', PSs.nox ⟨fun pins' s' ρ H' D J hq => hq.run pins' s' (Inv.ghost J hh)⟩, ?_⟩
    have f0 := ((fit_start (N := N) sb tb r).unB (l := l) nl).adopt (g := g) nl del_no w0 fun j t d' e => by
      exfalso
      unfold startE at e
      by_cases hi : j < ds.length
      · rw [List.getElem?_append_left (by rw [List.length_map]; exact hi), List.getElem?_map, List.getElem?_eq_getElem hi] at e
        cases Option.some.inj (Option.some.inj e)
      · rw [List.getElem?_append_right (by rw [List.length_map]; omega), List.getElem?_replicate] at e
        split at e <;> cases e
    refine hb cdv A outer s H E hr l ds xs xs' d h (del H l) Bo Bo H _ f0 _ ⟨fun σ' Ho' H' en' e f' => ?_, fun v d' σ' Ho' H' en' e e2 f' r => ?_, fun _ _ _ _ z => z.elim, fun _ _ _ _ z => z.elim⟩
    · obtain ⟨e, hg⟩ := e
      subst e
      obtain ⟨p, _, n1, n2, w, al⟩ := f'.ownL hg
      have al : p = l := al
      subst al
      exact q .non Ho' H' f'.gr0 f'.tb n1 w .non
    · have e : d' = d := e
      subst e
      obtain ⟨p, _, n1, n2, w, al⟩ := f'.ownL e2
      have al : p = l := al
      subst al
      exact q v Ho' H' f'.gr0 f'.tb n1 w r
end
end DL

/-! O2: searches: their objects, how one is made, their list of looks. -/
namespace DL
open PySem PySem.Spec PyProof.Rows L2
variable [Lam]
def seA (C : Addr) (W : Wk) (l : Addr) : PD := oD C "_work" (wkD W) "_looks" (adD l)
def seD (C : Addr) (W : Wk) (ls : List Lk) : PD := oD C "_work" (wkD W) "_looks" (.list (ls.map lkD))
structure SeK (K : PySem.W.Frag) (C : Addr) : Prop where
  cls : Cls K C
  nw : NoAttr K C "_work"
  nl : NoAttr K C "_looks"
theorem wkn_se {l C : Addr} {W : Wk} {ls : List Lk} : Wkn l (ls.map lkD) (seA C W l) (seD C W ls) := wkn_o wkn_refl wkn_ad
theorem wl_ne : ¬ ("_looks" : Str) = "_work" := by decide +kernel
section
variable {X : Cx} {en : En} {P : Po} {o a b e : Expr} {es : List Expr} {x : Str} {p pos pos' apos cpos : Pos} {C l : Addr} {W : Wk} {ls : List Lk} {d dx : PD} {ds : List PD} {k kb : Kd} {n i g : Nat}
/-! ### the list at the address: its items, its length, a copy; an item more, an item in another's place, the last one out -/
theorem de_ixG (g : Nat) {i : Int} (ha : DE X en a .c (adD l)) (hb : DE X en b kb (.int i)) (h : atI ds i = some d) (hg : en[g]? = some (some (.a l (.list ds))) := by rfl) (hs : PlainIx b := by intro _ _; rfl) : DE X en (.Subscript a b pos) .c d := fun B Bo Ho H σ f Q q => by
  refine wE_of (pe_ix ix_list pe_w pe_w hs) ?_
  refine ha B Bo Ho H σ f _ fun v H1o H1 g1 r1 => ?_
  refine hb B Bo H1o H1 σ (f.gr g1) _ fun u H2o H2 g2 r2 => ?_
  obtain ⟨p', _, n1, n2, ⟨vs, w1, w2⟩, al⟩ := ((f.gr g1).gr g2).ownL hg
  have al : p' = l := al
  subst al
  obtain ⟨w, hw, rw1⟩ := atI_rp w2 h
  exact ⟨p', vs, i, w, r1.ad_inv, r2.int_inv, .inl (.inl w1), hw, q _ H2o H2 (g1.trans g2) rw1⟩
theorem de_lenG (g : Nat) {p : Pos} (hm : X.mg "len" = none) (ha : DE X en a .c (adD l)) (hgs : en[g]? = some (some (.a l (.list ds))) := by rfl) (hg : glB X "len" = true := by kernel_rfl) (he : starEach [a] X.env = (false, eval a X.env) :: starEach [] X.env := by kernel_rfl) : DE X en (.Call (.Name "len" p) [a] [] pos) .c (.int ds.length) := fun B Bo Ho H σ f Q q => by
  refine wE_of (pe_callB call_len_seq (gl_of hg) hm PySem.boot_len (pa_cons pe_w pa_nil he) (he := he)) ?_
  refine ha B Bo Ho H σ f _ fun v H1o H1 g1 r1 => ?_
  obtain ⟨p', _, n1, n2, ⟨vs, w1, w2⟩, al⟩ := (f.gr g1).ownL hgs
  have al : p' = l := al
  subst al
  exact ⟨p', vs, by rw [r1.ad_inv], .inl (.inl (.inl w1)), q _ H1o H1 g1 (by rw [w2.len]; exact .int _)⟩
theorem ds_appendG (g : Nat) (ho : DE X en o .c (adD l)) (he : DE X en e .c d) (hl : ds.length < 100000) (q : P.nx (en.set g (some (.a l (.list (ds ++ [d])))))) (hg : en[g]? = some (some (.a l (.list ds))) := by rfl)
    (hs : starEach [e] X.env = (false, eval e X.env) :: starEach [] X.env := by kernel_rfl)
    (hb : PE X (.Call (.Attribute o "append" apos) [e] [] cpos) (tBM X.K "list" rAppend (wE X o) (tCons (wE X e) tNil)) := by exact pe_bm PySem.F.plainAttrs_list PySem.F.slot_list_append PySem.F.type_list_append mt_append pe_w (pa_cons pe_w pa_nil)) :
    DS X en (.Expr (.Call (.Attribute o "append" apos) [e] [] cpos) pos) P := fun B Bo Ho H σ f D t => by
  refine wS_of (ps_expr hb) ?_
  refine ho B Bo Ho H σ f _ fun v H1o H1 g1 r1 => ?_
  rw [r1.ad_inv]
  have f1 := f.gr g1
  obtain ⟨p', e1, n1, n2, ⟨vs, w1, w2⟩, al⟩ := f1.ownL hg
  have al : p' = l := al
  subst al
  refine ⟨.inl ⟨rfl, _, .inl (.inl w1)⟩, ?_⟩
  refine he B Bo H1o H1 σ f1 _ fun u H2o H2 g2 r2 => ?_
  have w3 := g2.h.at _ _ w1
  refine ⟨p', vs, u, rfl, rfl, w3, sz100l (by rw [w2.len]; exact hl), ?_⟩
  exact t.nx _ H2o _ _ q ((f1.gr g2).write hg e1 ⟨_, upd_same, (w2.mono g2.o).app (.one r2)⟩)
theorem RpA.set {K : PySem.W.Frag} {H : Hp} {v : V} : ∀ {vs : List V} {ds : List PD} (i : Nat), RpA K H vs ds → Rp K H v d → RpA K H (vs.set i v) (ds.set i d)
  | _, _, _, .nil, _ => .nil
  | _, _, 0, .cons _ r, q => .cons q r
  | _, _, i + 1, .cons h r, q => .cons h (RpA.set i r q)
theorem ds_setItemG (g : Nat) {i : Int} {j : Nat} {tpos : Pos} (he : DE X en e .c d) (ho : DE X en o .c (adD l)) (hi : DE X en b kb (.int i)) (hj : ixN ds.length i = some j) (q : P.nx (en.set g (some (.a l (.list (ds.set j d)))))) (hg : en[g]? = some (some (.a l (.list ds))) := by rfl)
    (ha : ∀ v, assign (.Subscript o b tpos) X.env v = (do
      let ov ← holding [v] (eval o X.env)
      let iv ← holding [v, ov] (eval b X.env)
      standAt tpos
      holding [v, ov, iv] (setItem ov iv v)
      release [v, ov, iv] []) := by intro _; rfl)
    (hs : swapsWithSole [.Subscript o b tpos] e pos.line X.env = pure false := by kernel_rfl) (hw : swappedStores [.Subscript o b tpos] e X.env = pure none := by kernel_rfl) (h1 : (assignEach [.Subscript o b tpos] X.env).map (·.2) = [assign (.Subscript o b tpos) X.env] := by kernel_rfl) :
    DS X en (.Assign [.Subscript o b tpos] e pos) P := fun B Bo Ho H σ f D t => by
  refine wS_of (ps_asg pe_w (pg_sub pe_w pe_w set_list ha) hs hw h1) ?_
  refine he B Bo Ho H σ f _ fun v H1o H1 g1 r1 => ?_
  refine ho B Bo H1o H1 σ (f.gr g1) _ fun u H2o H2 g2 r2 => ?_
  refine hi B Bo H2o H2 σ ((f.gr g1).gr g2) _ fun z H3o H3 g3 r3 => ?_
  have f3 := ((f.gr g1).gr g2).gr g3
  obtain ⟨p', e1, n1, n2, ⟨vs, w1, w2⟩, al⟩ := f3.ownL hg
  have al : p' = l := al
  subst al
  refine ⟨p', vs, i, j, r2.ad_inv, r3.int_inv, w1, by rw [w2.len]; exact hj, ?_⟩
  exact t.nx _ H3o _ _ q (f3.write hg e1 ⟨_, upd_same, w2.set j (Rp.mono (g2.trans g3).o r1)⟩)
theorem dm_popG (g : Nat) (ho : DE X en o .c (adD l)) (hl : ds[ds.length - 1]? = some d) (hg : en[g]? = some (some (.a l (.list ds))) := by rfl)
    (hb : PE X (.Call (.Attribute o "pop" apos) [] [] cpos) (tBM0 X.K "list" rPop (wE X o)) := by exact pe_bm0 PySem.F.plainAttrs_list PySem.F.slot_list_pop PySem.F.type_list_pop mt_pop pe_w) :
    DM X en (.Call (.Attribute o "pop" apos) [] [] cpos) .c d (en.set g (some (.a l (.list ds.dropLast)))) := fun B Bo Ho H σ f Q q => by
  refine wE_of hb ?_
  refine ho B Bo Ho H σ f _ fun v H1o H1 g1 r1 => ?_
  rw [r1.ad_inv]
  have f1 := f.gr g1
  obtain ⟨p', e1, n1, n2, ⟨vs, w1, w2⟩, al⟩ := f1.ownL hg
  have al : p' = l := al
  subst al
  obtain ⟨y, hy, ry⟩ := w2.get hl
  refine ⟨.inl ⟨rfl, _, .inl (.inl w1)⟩, p', vs, y, rfl, rfl, w1, by rw [w2.len]; exact hy, ?_⟩
  refine q y H1o _ (f1.write hg e1 ⟨_, upd_same, ?_⟩) ry
  rw [List.dropLast_eq_take, List.dropLast_eq_take, w2.len]
  exact w2.take _
end
/-! ### Search(work) -/
def spI (K : PySem.W.Frag) (C : Addr) : Sp := fun vs H Q _ => ∃ Bo H0 a dx vw W, vs = [.ref a, vw] ∧ H = upd (upd H0 dx (.own a)) a (.ins C dx []) ∧ H0 a = none ∧ H0 dx = none ∧ dx ≠ a ∧ Same Bo H0 ∧ TbK H0 ∧ Rp K Bo vw (wkD W) ∧ W.Ok ∧
  ∀ l Ho' H', Gr Bo H0 Ho' H' → Rp K Ho' (.ref a) (seA C W l) → H0 l = none → Ho' l = none → Own K Ho' H' l (.list []) → Q .non H'
structure MkS (P : Program) (w : World) (K : PySem.W.Frag) (mg : Str → Option Value) (base : Heap) (n : Nat) (x : Str) (C : Addr) : Prop where
  ex : ∃ f fd ps, FnOk P w K mg base CX0 n f fd ps (spI K C) ∧ mg x = some (.ref C) ∧ Mk K C f ∧ Binds K fd ps []
theorem MkS.up {P : Program} {w : World} {K : PySem.W.Frag} {mg : Str → Option Value} {base : Heap} {n j : Nat} {x : Str} {C : Addr} (h : MkS P w K mg base n x C) (l : n ≤ j) : MkS P w K mg base j x C := by
  obtain ⟨f, fd, ps, F, r⟩ := h
  exact ⟨f, fd, ps, F.mono l, r⟩
theorem deg_make {X : Cx} {en : En} {e : Expr} {x : Str} {p pos : Pos} {C : Addr} {W : Wk} {n : Nat} (G : MkS X.prog X.w X.K X.mg X.base n x C) (hr : Room (n + 1) X.A) (ha : DE X en e .c (wkD W)) (hW : W.Ok) (hg : glB X x = true := by kernel_rfl) (hdb : (x == ("__debug__" : Str)) = false := by kernel_rfl)
    (he : starEach [e] X.env = (false, eval e X.env) :: starEach [] X.env := by kernel_rfl) : DEG X en (.Call (.Name x p) [e] [] pos) (fun l => seA C W l) [] := fun B Bo Ho H σ f Q q => by
  obtain ⟨fa, fd, ps, F, hm, M, hb⟩ := G
  refine wE_of (pe_make (CX := CX0) (E := fun _ _ _ => False) M F hr (gl_of hg) hm hb .nil pass0 (pa_cons pe_w pa_nil he) hdb he rfl) ?_
  refine ha B Bo Ho H σ f _ fun v H1o H1 g1 r1 => fun a dx na nd ne => ?_
  exact ⟨H1o, H1, a, dx, v, W, rfl, rfl, na, nd, ne, g1.s, g1.tb f.tb, r1, hW, fun l Ho' H' gr r n1 n2 w => ⟨rfl, q _ l Ho' H' (g1.trans gr) r (g1.h.free n1) n2 w⟩⟩
section
variable {K : PySem.W.Frag} {B Bo Ho H : Hp} {σ : L2.St} {en : En} {a dx C : Addr} {fs : List (Str × V)} {o : HO}
/-- an instance is written that no slot holds as its own -/
theorem Fit.pokeI (f : Fit K B Bo Ho H σ en) (nb : B a = none) (no : Ho a = none) (e : H a = some (.ins C dx fs)) : Fit K B Bo Ho (upd H a o) σ en := by
  refine ⟨f.bo, same_poke f.bh nb, f.boh, same_poke f.hoh no, f.fr, tb_poke e trivial f.tb, f.len, fun i s ei => ?_, f.dj⟩
  have q := f.sl i s ei
  cases s with
  | v d => exact q
  | w t d =>
    obtain ⟨p, e1, n1, n2, w, al⟩ := q
    refine ⟨p, e1, n1, n2, ?_, al⟩
    cases d with
    | list ds => obtain ⟨vs, q, r⟩ := w; exact ⟨vs, (upd_ne (fun z => by subst z; rw [e] at q; cases q)).trans q, r⟩
    | tuple ds => obtain ⟨vs, q, r⟩ := w; exact ⟨vs, (upd_ne (fun z => by subst z; rw [e] at q; cases q)).trans q, r⟩
    | dict ds => obtain ⟨vs, q, r⟩ := w; exact ⟨vs, (upd_ne (fun z => by subst z; rw [e] at q; cases q)).trans q, r⟩
    | _ => exact w.elim
theorem wss_cons {X : Cx} {s : Stmt} {ss : List Stmt} {D : Ends} (en' : En) (f : Fit X.K B Bo Ho H σ en) (h : DS X en s { nx := fun z => z = en' }) (h2 : ∀ σ' Ho' H', Fit X.K B Bo Ho' H' σ' en' → wSs X ss D σ' H') : wSs X (s :: ss) D σ H :=
  wSs_of (pss_cons ps_w pss_w) (h B Bo Ho H σ f _ ⟨fun σ' Ho' H' z e f' => h2 σ' Ho' H' (e ▸ f'), fun _ _ _ _ _ _ z => z.elim, fun _ _ _ _ z => z.elim, fun _ _ _ _ z => z.elim⟩)
end
end DL

/-! O3: a line more seen. -/
namespace DL
open PySem PySem.Spec PySem.W PyProof.Rows L2
variable [Lam]
/-! ### a pair put where its line belongs -/
def leP (a b : Nat × Nat) : Bool := if a.1 = b.1 then decide (a.2 ≤ b.2) else decide (a.1 ≤ b.1)
theorem le_pq : PySem.W.dataLe false pqD = leP := by
  have := PySem.W.dataLe_ii (fun p : Nat × Nat => (p.1 : Int)) (fun p => (p.2 : Int))
  refine this.trans ?_
  funext a b
  unfold leP
  by_cases h : a.1 = b.1
  · rw [if_pos h]
    exact decide_eq_decide.mpr (by omega)
  · rw [if_neg h]
    exact decide_eq_decide.mpr (by omega)
def insS (q : Nat × Nat) : List (Nat × Nat) → List (Nat × Nat)
  | [] => [q]
  | p :: r => if p.1 < q.1 then p :: insS q r else q :: p :: r
theorem insS_perm (q : Nat × Nat) : ∀ s, (insS q s).Perm (q :: s)
  | [] => .refl _
  | p :: r => by
    unfold insS
    split
    · exact ((insS_perm q r).cons p).trans (.swap q p r)
    · exact .refl _
theorem insS_mem {q x : Nat × Nat} {s : List (Nat × Nat)} : x ∈ insS q s ↔ x = q ∨ x ∈ s := by
  rw [(insS_perm q s).mem_iff, List.mem_cons]
theorem insS_rise {q : Nat × Nat} : ∀ {s : List (Nat × Nat)}, (s.map (·.1)).Pairwise (· < ·) → q.1 ∉ s.map (·.1) → ((insS q s).map (·.1)).Pairwise (· < ·)
  | [], _, _ => List.pairwise_singleton _ _
  | p :: r, h, hq => by
    rw [List.map_cons] at h hq
    obtain ⟨h1, h2⟩ := List.pairwise_cons.mp h
    unfold insS
    split
    · rename_i hlt
      rw [List.map_cons]
      refine List.pairwise_cons.mpr ⟨fun x hx => ?_, insS_rise h2 fun m => hq (List.mem_cons_of_mem _ m)⟩
      obtain ⟨y, hy, rfl⟩ := List.mem_map.mp hx
      rcases insS_mem.mp hy with rfl | hy
      · exact hlt
      · exact h1 _ (List.mem_map_of_mem hy)
    · rename_i hge
      have hne : p.1 ≠ q.1 := fun z => hq (by rw [← z]; exact List.mem_cons_self)
      rw [List.map_cons, List.map_cons]
      refine List.pairwise_cons.mpr ⟨fun x hx => ?_, h⟩
      rcases List.mem_cons.mp hx with rfl | hx
      · omega
      · have := h1 x hx; omega
theorem sort_ins {q : Nat × Nat} {s : List (Nat × Nat)} (h : (s.map (·.1)).Pairwise (· < ·)) (hq : q.1 ∉ s.map (·.1)) : (s ++ [q]).mergeSort leP = insS q s := by
  have s1 : ((s ++ [q]).mergeSort leP).Pairwise fun a b => leP a b = true := List.pairwise_mergeSort (fun a b c h1 h2 => by
    unfold leP at *
    split at h1 <;> split at h2 <;> split <;> simp at * <;> omega) (fun a b => by
    unfold leP
    by_cases e : a.1 = b.1
    · rw [if_pos e, if_pos e.symm]; simp; omega
    · rw [if_neg e, if_neg (fun z => e z.symm)]; simp; omega) _
  have s2 : (insS q s).Pairwise fun a b => leP a b = true := by
    have := insS_rise h hq
    rw [List.pairwise_map] at this
    exact this.imp fun {a b} l => by
      unfold leP
      rw [if_neg (by omega)]
      simp; omega
  refine List.Perm.eq_of_pairwise (le := fun a b => leP a b = true) (fun a b _ _ h1 h2 => ?_) s1 s2 ((List.mergeSort_perm _ _).trans ((List.perm_append_singleton q s).trans (insS_perm q s).symm))
  unfold leP at h1 h2
  by_cases e : a.1 = b.1
  · rw [if_pos e] at h1
    rw [if_pos e.symm] at h2
    simp at h1 h2
    exact Prod.ext e (by omega)
  · rw [if_neg e] at h1
    rw [if_neg (fun z => e z.symm)] at h2
    simp at h1 h2
    exact absurd (by omega) e
theorem getN_ins {q : Nat × Nat} {s : List (Nat × Nat)} (h : (s.map (·.1)).Pairwise (· < ·)) (hq : q.1 ∉ s.map (·.1)) (k : Nat) : getN (insS q s) k = if q.1 = k then some q.2 else getN s k := by
  induction s with
  | nil =>
    unfold insS getN
    by_cases e : q.1 = k <;> simp [e]
  | cons p r ih =>
    rw [List.map_cons] at h hq
    obtain ⟨h1, h2⟩ := List.pairwise_cons.mp h
    have ih := ih h2 fun m => hq (List.mem_cons_of_mem _ m)
    have hne : p.1 ≠ q.1 := fun z => hq (by rw [← z]; exact List.mem_cons_self)
    unfold insS
    split
    · unfold getN at ih ⊢
      rw [List.find?_cons, List.find?_cons]
      by_cases e : p.1 = k
      · have : ¬ q.1 = k := fun z => hne (e.trans z.symm)
        simp [e, this]
      · simp only [e, decide_false]
        exact ih
    · unfold getN
      rw [List.find?_cons]
      by_cases e : q.1 = k
      · simp [e]
      · simp [e]
def seeL (l : Lk) (q : Nat × Nat) : Lk := ⟨l.g, insS q l.seen⟩
theorem seeL_ok {W : Wk} {l : Lk} {q : Nat × Nat} (h : l.Ok W) (h1 : W.inputs ≤ q.1) (h2 : q.1 < W.inputs + W.parts.length) (h3 : q.2 < W.ring) (hq : q.1 ∉ l.seen.map (·.1)) (hp : W.parts.length ≤ 90) : (seeL l q).Ok W := by
  have r := insS_rise h.rise hq
  refine ⟨h.g, fun p hp => ?_, r, ?_⟩
  · rcases insS_mem.mp hp with rfl | hp
    · exact ⟨h1, h2, h3⟩
    · exact h.lines p hp
  · have nd : ((insS q l.seen).map (·.1)).Nodup := nodup_of_rise r
    have sub : ∀ x ∈ (insS q l.seen).map (·.1), x ∈ List.range' W.inputs W.parts.length := fun x hx => by
      obtain ⟨p, hp, rfl⟩ := List.mem_map.mp hx
      rw [List.mem_range'_1]
      rcases insS_mem.mp hp with rfl | hp
      · exact ⟨h1, h2⟩
      · have := h.lines p hp; exact ⟨this.1, this.2.1⟩
    have := List.Nodup.length_le_of_subset nd sub
    rw [List.length_map, List.length_range'] at this
    exact Nat.le_trans this (by omega)
/-! ### less room -/
theorem rowsL_ins {W : Wk} {g : List Nat} {s : List (Nat × Nat)} {q : Nat × Nat} {b : List Nat} (h : (s.map (·.1)).Pairwise (· < ·)) (hq : q.1 ∉ s.map (·.1)) : ∀ k, ∀ row ∈ rowsL W g (insS q s) b k, row ∈ rowsL W g s b k
  | 0, row, hr => hr
  | k + 1, row, hr => by
    have hr : row ∈ extN W (insS q s) b k (rowsL W g (insS q s) b k) := hr
    show row ∈ extN W s b k (rowsL W g s b k)
    unfold extN at hr ⊢
    obtain ⟨r0, h0, h1⟩ := List.mem_flatMap.mp hr
    obtain ⟨d, hd, rfl⟩ := List.mem_map.mp h1
    refine List.mem_flatMap.mpr ⟨r0, rowsL_ins h hq k r0 h0, List.mem_map.mpr ⟨d, ?_, rfl⟩⟩
    unfold fitN at hd ⊢
    obtain ⟨hd1, hd2⟩ := List.mem_filter.mp hd
    refine List.mem_filter.mpr ⟨hd1, ?_⟩
    unfold fitsN at hd2 ⊢
    rw [getN_ins h hq] at hd2
    by_cases e : q.1 = W.inputs + k
    · have : getN s (W.inputs + k) = none := by
        unfold getN
        rw [List.find?_eq_none.mpr fun p hp => by
          intro z
          have z : p.1 = W.inputs + k := of_decide_eq_true z
          exact hq (List.mem_map.mpr ⟨p, hp, by rw [z, e]⟩)]
        rfl
      rw [this]
      simp
    · rw [if_neg e] at hd2
      exact hd2
theorem room_see {W : Wk} {l : Lk} {q : Nat × Nat} {b : List Nat} (hW : W.Ok) (hl : l.Ok W) (hl2 : (seeL l q).Ok W) (hq : q.1 ∉ l.seen.map (·.1)) (h : (roomO W (seeL l q) b).isSome = true) : (roomO W l b).isSome = true := by
  rw [roomO_first hW hl2] at h
  rw [roomO_first hW hl]
  unfold firstL at h ⊢
  cases e : rowsL W l.g l.seen b W.parts.length with
  | cons r rs => rfl
  | nil =>
    cases e2 : rowsL W (seeL l q).g (seeL l q).seen b W.parts.length with
    | nil => rw [e2] at h; cases h
    | cons r rs =>
      have := rowsL_ins (W := W) (g := l.g) (b := b) hl.rise hq W.parts.length r (by
        have e3 : rowsL W l.g (insS q l.seen) b W.parts.length = r :: rs := e2
        rw [e3]
        exact List.mem_cons_self)
      rw [e] at this
      cases this
/-! ### least sets, as less leaves room -/
theorem rise_eq : ∀ {a b : List Nat}, a.Pairwise (· < ·) → b.Pairwise (· < ·) → (∀ x, x ∈ a ↔ x ∈ b) → a = b := fun {a b} ha hb h => by
  have na := nodup_of_rise ha
  have nb := nodup_of_rise hb
  refine List.Perm.eq_of_pairwise (le := fun x y => x < y) (fun x y _ _ h1 h2 => absurd h1 (by omega)) ha hb ?_
  exact (List.perm_ext_iff_of_nodup na nb).mpr h
section
variable {n : Nat} {p p' : List Nat → Bool} (hn : n ≤ 7) (hpp : ∀ c ∈ allSets n, p' c = true → p c = true)
include hpp in
theorem least_down : ∀ s ∈ leastP n p', hasB (leastP n p) s = true := fun s hs => by
  obtain ⟨h1, h2⟩ := leastP_mem hs
  obtain ⟨k, hk, hx⟩ := least_has h1 (hpp s h1 h2)
  exact hasB_iff.mpr ⟨k, hk, hx⟩
include hpp hn in
theorem least_stays {s : List Nat} (hs : s ∈ leastP n p) : decide (s ∈ leastP n p') = p' s := by
  obtain ⟨h1, h2⟩ := leastP_mem hs
  cases e : p' s with
  | false => exact decide_eq_false fun z => by rw [(leastP_mem z).2] at e; cases e
  | true =>
    refine decide_eq_true ?_
    obtain ⟨k, hk, hx⟩ := least_has h1 e
    obtain ⟨k1, k2⟩ := leastP_mem hk
    obtain ⟨j, hj, hy⟩ := least_has k1 (hpp k k1 k2)
    have ej : j = s := by
      by_cases ne : j = s
      · exact ne
      · have := least_ne hn hs hj ne
        rw [hasAll_iff.mpr fun x hxj => hx x (hy x hxj)] at this
        cases this
    subst ej
    have : k = j := rise_eq (allSets_ok k1).2.1 (allSets_ok h1).2.1 fun x => ⟨hx x, hy x⟩
    rw [← this]
    exact hk
theorem has_least {c : List Nat} (hc : c ∈ allSets n) (mono : ∀ k ∈ allSets n, (∀ x ∈ k, x ∈ c) → p k = true → p c = true) : hasB (leastP n p) c = p c := by
  cases e : p c with
  | true =>
    obtain ⟨k, hk, hx⟩ := least_has hc e
    exact hasB_iff.mpr ⟨k, hk, hx⟩
  | false =>
    cases q : hasB (leastP n p) c with
    | false => rfl
    | true =>
      obtain ⟨k, hk, hx⟩ := hasB_iff.mp q
      obtain ⟨k1, k2⟩ := leastP_mem hk
      rw [mono k k1 hx k2] at e
      cases e
end
theorem draw_all (cell n : Nat) : drawL cell n ∈ allSets n := mem_allSets.mpr List.filter_sublist
/-! ### rules for tuples that are known -/
section
variable {X : Cx} {en : En} {P : Po} {a b e : Expr} {es : List Expr} {ds xs : List PD} {d : PD} {p pos tpos npos : Pos} {k kb : Kd} {j : Nat} {y : Str}
/-- *xs in a display -/
theorem da_starX {sp : Pos} (ha : DE X en a .c (tx xs)) (hr : DA X en es .c ds) (hs : starEach (.Starred a sp :: es) X.env = (true, eval a X.env) :: starEach es X.env := by kernel_rfl) : DA X en (.Starred a sp :: es) .c (xs ++ ds) := fun B Bo Ho H σ f Q q => by
  refine wA_of (StX.pa_star pe_w pa_w hs) ?_
  refine ha B Bo Ho H σ f _ fun v H1o H1 g1 r1 => ?_
  obtain ⟨c, ys, o, rfl, hc, ho, r2⟩ := r1.tx_inv
  refine ⟨c, ys, rfl, .inl (.inl (.inr ⟨o, g1.s.at _ _ hc⟩)), ?_⟩
  refine hr B Bo H1o H1 σ (f.gr g1) _ fun vs H2o H2 g2 r3 => ?_
  exact q _ H2o H2 (g1.trans g2) ((r2.mono g2.o).app r3)
/-- list(xs) -/
theorem de_listX (hm : X.mg "list" = none) (ha : DE X en a .c (tx xs)) (hg : glB X "list" = true := by kernel_rfl) (he : starEach [a] X.env = (false, eval a X.env) :: starEach [] X.env := by kernel_rfl) : DE X en (.Call (.Name "list" p) [a] [] pos) .o (.list xs) := fun B Bo Ho H σ f Q q => by
  refine wE_of (pe_callTy call_list_of (gl_of hg) hm (by decide +kernel) (pa_cons pe_w pa_nil he) (he := he)) ?_
  refine ha B Bo Ho H σ f _ fun v H1o H1 g1 r1 => ?_
  obtain ⟨c, ys, o, rfl, hc, ho, r2⟩ := r1.tx_inv
  exact ⟨c, ys, rfl, .inr (.inl (.inr ⟨o, g1.s.at _ _ hc⟩)), fun c hc => q _ _ _ (g1.trans (.tmp g1.s hc)) ⟨c, rfl, g1.h.free hc, g1.s.free hc, _, upd_same, r2⟩⟩
/-- xs[i] = e, xs one's own; e may write another list -/
theorem ds_setItemM (j : Nat) {i : Int} {m : Nat} {en1 : En} (he : DM X en e .c d en1) (hb : DE X en1 b kb (.int i)) (hm : ixN ds.length i = some m) (q : P.nx (en1.set j (some (.o (.list (ds.set m d)))))) (hj : en1[j]? = some (some (.o (.list ds))) := by rfl) (hN : X.N[j]? = some y := by kernel_rfl) (hv : visB X.env.scope y = true := by kernel_rfl)
    (hdb : (y == ("__debug__" : Str)) = false := by kernel_rfl) (hcd : (y == ("__classdict__" : Str)) = false := by kernel_rfl)
    (ha : ∀ v, assign (.Subscript (.Name y npos) b tpos) X.env v = (do
      let ov ← holding [v] (eval (.Name y npos) X.env)
      let iv ← holding [v, ov] (eval b X.env)
      standAt tpos
      holding [v, ov, iv] (setItem ov iv v)
      release [v, ov, iv] []) := by intro _; rfl)
    (hs : swapsWithSole [.Subscript (.Name y npos) b tpos] e pos.line X.env = pure false := by kernel_rfl) (hw : swappedStores [.Subscript (.Name y npos) b tpos] e X.env = pure none := by kernel_rfl) (h1 : (assignEach [.Subscript (.Name y npos) b tpos] X.env).map (·.2) = [assign (.Subscript (.Name y npos) b tpos) X.env] := by kernel_rfl) :
    DS X en (.Assign [.Subscript (.Name y npos) b tpos] e pos) P := fun B Bo Ho H σ f D t => by
  refine wS_of (ps_asg pe_w (pg_sub (pe_var hN (vis_of hv) hdb hcd) pe_w set_list ha) hs hw h1) ?_
  refine he B Bo Ho H σ f _ fun v H1o H1 f1 r1 => ?_
  obtain ⟨p', e1, n1, n2, w⟩ := f1.own hj
  refine ⟨_, e1, ?_⟩
  refine hb B Bo H1o H1 σ f1 _ fun z H2o H2 g2 r3 => ?_
  have f2 := f1.gr g2
  obtain ⟨vs, w1, w2⟩ := w.mono g2.o g2.h
  refine ⟨p', vs, i, m, rfl, r3.int_inv, w1, by rw [w2.len]; exact hm, ?_⟩
  exact t.nx _ H2o _ _ q (f2.write hj e1 ⟨_, upd_same, w2.set m (Rp.mono g2.o r1)⟩)
/-- sorted(xs), pairs -/
theorem de_sortPq {n : Nat} {s : List (Nat × Nat)} {q : Nat × Nat} (hr : Room n X.A) (hm : X.mg "sorted" = none) (ha : DE X en a .e (.list ((s ++ [q]).map pqD))) (h : (s.map (·.1)).Pairwise (· < ·)) (hq : q.1 ∉ s.map (·.1)) (hg : glB X "sorted" = true := by kernel_rfl) (he : starEach [a] X.env = (false, eval a X.env) :: starEach [] X.env := by kernel_rfl) :
    DE X en (.Call (.Name "sorted" p) [a] [] pos) .o (.list ((insS q s).map pqD)) := by
  have al : ∀ x y : Nat × Nat, alike (pqD x) (pqD y) = true := fun x y => by
    show alike (.tuple [nD x.1, nD x.2]) (.tuple [nD y.1, nD y.2]) = true
    simp [alike, alikeAll, nD]
  refine (de_sortD hr hm ha ?_ ?_ (fun x _ => (pl_pq x).up (by decide)) hg he).is ?_
  · exact PySem.W.AllAlike.of fun a b => al a b
  · exact PySem.W.Sortable.tuples fun c => ⟨_, _, rfl⟩
  · rw [le_pq, sort_ins h hq]
end
end DL

/-! O4: an instance gets its two attributes. -/
namespace DL
open PySem PySem.Spec PySem.W PyProof.Rows L2
variable [Lam]
theorem del_two {H0 : Hp} {a dx : Addr} {o u : HO} (na : H0 a = none) (nd : H0 dx = none) : del (del (upd (upd H0 dx u) a o) a) dx = H0 := by
  funext b
  by_cases e : b = dx
  · subst e; rw [del_no, nd]
  · rw [del_at e]
    by_cases e2 : b = a
    · subst e2; rw [del_no, na]
    · rw [del_at e2, upd_ne e2, upd_ne e]
theorem ws_init2 {X : Cx} {en : En} {o o2 e1 e2 : Expr} {x1 x2 : Str} {p1 p2 pos1 pos2 : Pos} {a dx C : Addr} {H0 Bo Ho H : Hp} {σ : L2.St} {d1 : PD} {ds : List PD} (c : Cls X.K C) (n1 : NoAttr X.K C x1) (n2 : NoAttr X.K C x2) (hx : ¬ x1 = x2)
    (f : Fit X.K (upd (upd H0 dx (.own a)) a (.ins C dx [])) Bo Ho H σ en) (na : H0 a = none) (nd : H0 dx = none) (ne : dx ≠ a) (sb : Same Bo H0)
    (ho : DE X en o .c (adD a)) (ho2 : DE X en o2 .c (adD a)) (h1 : DE X en e1 .c d1) (h2 : DE X en e2 .o (.list ds)) (D : Ends)
    (q : ∀ l Ho' H', Gr Bo H0 Ho' H' → Rp X.K Ho' (.ref a) (oD C x1 d1 x2 (adD l)) → H0 l = none → Ho' l = none → Own X.K Ho' H' l (.list ds) → D.nx σ H')
    (hs1 : swapsWith e1 (some (.Attribute o x1 p1)) pos1.line X.env = pure false := by kernel_rfl) (hs2 : swapsWith e2 (some (.Attribute o2 x2 p2)) pos2.line X.env = pure false := by kernel_rfl) :
    wSs X [.Assign [.Attribute o x1 p1] e1 pos1, .Assign [.Attribute o2 x2 p2] e2 pos2] D σ H := by
  have ba : Bo a = none := sb.free na
  have bd : Bo dx = none := sb.free nd
  refine wSs_of (pss_cons (ps_fld pe_w pe_w hs1) pss_w) ?_
  refine h1 _ Bo Ho H σ f _ fun v H1o H1 g1 r1 => ?_
  refine ho _ Bo H1o H1 σ (f.gr g1) _ fun u H2o H2 g2 r2 => ?_
  have f2 := (f.gr g1).gr g2
  have ea : H2 a = some (.ins C dx []) := f2.bh.at _ _ upd_same
  have ed : H2 dx = some (.own a) := f2.bh.at _ _ ((upd_ne ne).trans upd_same)
  have oa : H2o a = none := (f2.fr a (by rw [upd_same]; intro z; cases z)).trans ba
  have od : H2o dx = none := (f2.fr dx (by rw [upd_ne ne, upd_same]; intro z; cases z)).trans bd
  refine ⟨a, C, dx, [], r2.ad_inv, ea, c, n1, by decide, ?_⟩
  have f3 : Fit X.K H0 Bo H2o (upd H2 a (.ins C dx [(x1, v)])) σ en := by
    have := (f2.unB (l := a) ba).unB (l := dx) bd
    rw [del_two na nd] at this
    exact this.pokeI na oa ea
  show wSs X _ D σ (upd H2 a (.ins C dx [(x1, v)]))
  refine wSs_of (pss_one (ps_fld pe_w pe_w hs2)) ?_
  refine h2 _ Bo H2o _ σ f3 _ fun v' H3o H3 g3 r3 => ?_
  refine ho2 _ Bo H3o H3 σ (f3.gr g3) _ fun u' H4o H4 g4 r4 => ?_
  have f5 := (f3.gr g3).gr g4
  have g34 := g3.trans g4
  have r3 : Rs X.K .o H2 H4o H4 v' (.list ds) := by
    obtain ⟨l, rfl, m1, m2, w⟩ := r3
    obtain ⟨x, ex⟩ := w.ex
    refine ⟨l, rfl, ?_, (g4.fr l (by rw [ex]; intro z; cases z)).trans m2, w.mono g4.o g4.h⟩
    by_cases z : l = a
    · subst z; rw [upd_same] at m1; cases m1
    · rw [upd_ne z] at m1; exact m1
  obtain ⟨l, rfl, m1, m2, w⟩ := r3
  have la : l ≠ a := fun z => by subst z; rw [ea] at m1; cases m1
  have ld : l ≠ dx := fun z => by subst z; rw [ed] at m1; cases m1
  have ea4 : H4 a = some (.ins C dx [(x1, v)]) := g34.h.at _ _ upd_same
  have ed4 : H4 dx = some (.own a) := g34.h.at _ _ ((upd_ne ne).trans ed)
  have oa4 : H4o a = none := (g34.fr a (by rw [upd_same]; intro z; cases z)).trans oa
  have od4 : H4o dx = none := (g34.fr dx (by rw [upd_ne ne, ed]; intro z; cases z)).trans od
  refine ⟨a, C, dx, [(x1, v)], r4.ad_inv, ea4, c, n2, by simp, ?_⟩
  have ep : putF x2 (V.ref l) [(x1, v)] = [(x1, v), (x2, .ref l)] := by
    unfold putF
    rw [if_neg hx]
    rfl
  rw [ep]
  have f6 : Fit X.K H0 Bo H4o (upd H4 a (.ins C dx [(x1, v), (x2, .ref l)])) σ en := f5.pokeI na oa4 ea4
  have k1 : Same H4o (upd (upd H4o dx (.own a)) a (.ins C dx [(x1, v), (x2, .ref l)])) := (same_new od4).trans (same_new ((upd_ne (fun z => ne z.symm)).trans oa4))
  refine q l (upd (upd H4o dx (.own a)) a (.ins C dx [(x1, v), (x2, .ref l)])) _ ⟨f6.bh, f6.boh.trans k1, ⟨fun b x e => ?_⟩, fun b hb => ?_, fun _ => f6.tb⟩ ?_ ?_ ?_ ?_
  · by_cases e1 : b = a
    · subst e1
      rw [upd_same] at e
      cases e
      exact ⟨_, upd_same, Le.refl _⟩
    · rw [upd_ne e1] at e
      by_cases e2 : b = dx
      · subst e2
        rw [upd_same] at e
        cases e
        exact ⟨_, (upd_ne e1).trans ed4, Le.refl _⟩
      · rw [upd_ne e2] at e
        exact f6.hoh.ex b x e
  · have e1 : b ≠ a := fun z => by subst z; exact hb na
    have e2 : b ≠ dx := fun z => by subst z; exact hb nd
    rw [upd_ne e1, upd_ne e2]
    exact f6.fr b hb
  · exact Rp.o_mk upd_same ((upd_ne ne).trans upd_same) (r1.mono (g2.o.trans (g34.o.trans k1))) (.adr l)
  · have z := f2.bh.free m1
    rw [upd_ne la, upd_ne ld] at z
    exact z
  · rw [upd_ne la, upd_ne ld]; exact m2
  · obtain ⟨vs, w1, w2⟩ := w
    exact ⟨vs, (upd_ne la).trans w1, w2.mono k1⟩
theorem ixN_nat {n j : Nat} (h : j < n) : ixN n (j : Int) = some j := by
  unfold ixN
  rw [if_pos (by omega), if_pos (by omega)]
  simp
theorem any_rowT {c : List Nat} {S : List (List Nat)} : ((S.map rowT).any fun z => PyData.eqv z (rowT c)) = decide (c ∈ S) := by
  rw [List.any_map]
  induction S with
  | nil => rfl
  | cons k S ih =>
    rw [List.any_cons, ih]
    show (PyData.eqv (rowT k) (rowT c) || _) = _
    rw [eqv_row]
    by_cases h : k = c
    · subst h; simp
    · have : ¬ c = k := fun z => h z.symm
      simp [h, this]
theorem rows_some {W : Wk} {l : Lk} {b : List Nat} (hW : W.Ok) (hl : l.Ok W) : PyData.eqv (.list ((rowsL W l.g l.seen b W.parts.length).map rowL)) (.list []) = !(roomO W l b).isSome := by
  rw [roomO_first hW hl]
  unfold firstL
  cases rowsL W l.g l.seen b W.parts.length <;> simp [PyData.eqv, PyData.eqvAll]
theorem hid_by {N : List Str} {scope : Scope} {g : Nat} (h : (match N[g]? with | some y => !visB scope y | none => true) = true) : ∀ y, N[g]? = some y → ¬ Vis scope y := fun y e v => by
  rw [e] at h
  have : visB scope y = true := by
    unfold visB
    rcases v with v | v | v <;> rw [v]
  simp [this] at h
end DL

/-! O5: a line more seen, as the law draws it. -/
namespace DL
open PySem PySem.Spec PySem.W PyProof.Rows L2
variable [Lam]
def freeL (W : Wk) (l : Lk) : List Nat := ((List.range W.parts.length).filter fun k => !(getN l.seen (W.inputs + k)).isSome).map fun k => W.inputs + k
def oneQ (W : Wk) (l : Lk) (cell : Nat) : Nat × Nat := ((freeL W l).getD (cell / 2 % (freeL W l).length) 0, cell / 20 % W.ring)
def oneB (W : Wk) (l : Lk) (cell : Nat) : Bool := (freeL W l).isEmpty || decide (cell % 2 = 0)
def oneL (W : Wk) (l : Lk) (cell : Nat) : Lk := if oneB W l cell = true then l else seeL l (oneQ W l cell)
theorem freeL_mem {W : Wk} {l : Lk} {x : Nat} (h : x ∈ freeL W l) : W.inputs ≤ x ∧ x < W.inputs + W.parts.length ∧ x ∉ l.seen.map (·.1) := by
  unfold freeL at h
  obtain ⟨k, hk, rfl⟩ := List.mem_map.mp h
  obtain ⟨h1, h2⟩ := List.mem_filter.mp hk
  have := List.mem_range.mp h1
  refine ⟨by omega, by omega, fun z => ?_⟩
  obtain ⟨p, hp, e⟩ := List.mem_map.mp z
  have : (getN l.seen (W.inputs + k)).isSome = true := by
    unfold getN
    rw [Option.isSome_map, List.find?_isSome]
    exact ⟨p, hp, by simpa using e⟩
  rw [this] at h2
  cases h2
theorem freeL_len {W : Wk} {l : Lk} : (freeL W l).length ≤ W.parts.length := by
  unfold freeL
  rw [List.length_map]
  exact Nat.le_trans (List.length_filter_le _ _) (by rw [List.length_range]; exact Nat.le_refl _)
theorem oneQ_ok {W : Wk} {l : Lk} {cell : Nat} (hW : W.Ok) (h : oneB W l cell = false) : W.inputs ≤ (oneQ W l cell).1 ∧ (oneQ W l cell).1 < W.inputs + W.parts.length ∧ (oneQ W l cell).2 < W.ring ∧ (oneQ W l cell).1 ∉ l.seen.map (·.1) := by
  unfold oneB at h
  rw [Bool.or_eq_false_iff] at h
  have hr := hW.r2
  have hn : 0 < (freeL W l).length := by
    cases e : freeL W l with
    | nil => rw [e] at h; cases h.1
    | cons x xs => simp
  have hi : cell / 2 % (freeL W l).length < (freeL W l).length := Nat.mod_lt _ hn
  have hm : (oneQ W l cell).1 ∈ freeL W l := by
    unfold oneQ
    rw [List.getD_eq_getElem?_getD, List.getElem?_eq_getElem hi]
    exact List.getElem_mem _
  obtain ⟨a, b, c⟩ := freeL_mem hm
  exact ⟨a, b, Nat.mod_lt _ (by omega), c⟩
theorem oneL_ok {W : Wk} {l : Lk} {cell : Nat} (hW : W.Ok) (hl : l.Ok W) : (oneL W l cell).Ok W := by
  unfold oneL
  split
  · exact hl
  · rename_i h
    obtain ⟨a, b, c, d⟩ := oneQ_ok (l := l) (cell := cell) hW (by simpa using h)
    exact seeL_ok hl a b c d (by have := hW.p10; omega)
theorem room_one {W : Wk} {l : Lk} {cell : Nat} {b : List Nat} (hW : W.Ok) (hl : l.Ok W) (h : (roomO W (oneL W l cell) b).isSome = true) : (roomO W l b).isSome = true := by
  have h2 := oneL_ok (cell := cell) hW hl
  unfold oneL at h h2
  split at h
  · exact h
  · rename_i hb
    rw [if_neg hb] at h2
    obtain ⟨_, _, _, d⟩ := oneQ_ok (l := l) (cell := cell) hW (by simpa using hb)
    exact room_see hW hl h2 d h
theorem o2_neLk1 {X : Cx} {ka kb : Kd} {l : Lk} : Op2 X.K (rNeD X.K) ka (lkD l) kb (lkD l) .c (.bool false) := fun H0 H0' Ho H v u s r1 r2 Q q => by
  have pl := pl_lk l
  refine ⟨_, _, lk_dp (r1.rpt s), lk_dp (r2.rpt s), pl.shaped (by decide), pl.shaped (by decide), ?_⟩
  rw [pl.refl]
  exact q _ Ho H (.refl s) (.bl _)
end DL

/-! O6: what counts need: xs[i] += e, xs.index(e), the least of pairs, tuples that are known as they are written, lists frozen on the way. -/
namespace DL
open PySem PySem.Spec PySem.W PyProof.Rows L2
variable [Lam]
theorem idx_no {ns : List Nat} {m k : Nat} (h : k < ns.idxOf m) (e : ns[k]? = some m) : False := by
  have h2 := h
  unfold List.idxOf at h
  have h3 := List.not_of_lt_findIdx h
  have hl : k < ns.length := (List.getElem?_eq_some_iff.mp e).1
  have : ns[k] = m := (List.getElem?_eq_some_iff.mp e).2
  simp [this] at h3
section
variable {X : Cx}
theorem pget_list : PGet X (fun o i H Q => ∃ p xs n v, o = V.ref p ∧ i = .int ((n : Nat) : Int) ∧ SqL X.K H p xs ∧ xs[n]? = some v ∧ Q v H) := by
  intro pins s σ H o i ov iv Q I ro ri h
  obtain ⟨p, xs, n, v, rfl, rfl, hq, he, q⟩ := h
  cases ro
  obtain ⟨t, rfl⟩ := ri
  obtain ⟨its, r, pl, hz⟩ := I.list hq
  obtain ⟨w, ew, rw'⟩ := r.get he
  have hl := r.length
  have hn := line63
  have hlt : n < xs.length := (List.getElem?_eq_some_iff.mp he).1
  exact wpAny_getItem_list pl.isList (by omega) (by omega) (by simpa using ew) ⟨v, H, I, rw', q⟩
theorem pe_tupX {es : List Expr} {t : _} {x1} {pos : Pos} (h : PA X es t) : PE X (.Tuple es x1 pos) (fun σ H Q => t σ H fun xs H1 => xs.length ≤ sizeLine ∧ ∀ p o, H1 p = none → o.dict = none → Q (.ref p) (upd H1 p (.frz o (.tup xs)))) := by
  refine ⟨fun pins s σ H Q I hq => ?_⟩
  refine wpAny_Tuple_spliced (thn (h.run pos pins s σ H _ I hq) fun us s1 ⟨xs, H1, I1, r, z, q⟩ => ⟨by rw [← r.length]; exact z, ?_⟩)
  have hf : H1 s1.heap.objs.size = none := I1.hok.fresh (Nat.le_refl _)
  refine ⟨.ref s1.heap.objs.size, upd H1 s1.heap.objs.size (.frz { cls := .type "tuple", data := .seq us.toArray } (.tup xs)), I1.laid (t' := s1.toks) (fun b u e => Heap.get?_push_of_some _ e) (Nat.le_refl _) ?_, rfl, q _ _ hf rfl⟩
  exact show ObjOk X.prog X.w _ _ _ (.frz _ (.tup xs)) from ⟨Heap.get?_push_size _ rfl, z, us, r, ⟨_, Heap.get?_push_size _ rfl, rfl, _, rfl⟩⟩
end
section
variable {X : Cx} {en : En} {P : Po} {o a b e : Expr} {es : List Expr} {ss : List Stmt} {ds xs : List PD} {d d' : PD} {p pos tpos npos apos cpos : Pos} {k ke kb : Kd} {y : Str} {l : Addr}
/-- a tuple display that is known -/
theorem de_tupK {x1} (h : DA X en es .c ds) (hl : ds.length ≤ 100000) : DE X en (.Tuple es x1 pos) .c (tx ds) := fun B Bo Ho H σ f Q q => by
  refine wE_of (pe_tupX pa_w) ?_
  refine h B Bo Ho H σ f _ fun vs H1o H1 g1 r1 => ⟨sz100 (by rw [r1.len]; exact hl), fun p o hp hd => ?_⟩
  exact q _ _ _ (g1.trans (.new g1.s hp)) (.tux upd_same hd (r1.mono (same_new (g1.s.free hp))))
/-- xs[i] += e, xs one's own -/
theorem ds_augI (j : Nat) {ns : List Nat} {i m c : Nat} (hi : DE X en b kb (.int (i : Nat))) (he : DE X en e ke (.int (m : Nat))) (hc : ns[i]? = some c) (q : P.nx (en.set j (some (.o (.list ((ns.set i (c + m)).map nD)))))) (hj : en[j]? = some (some (.o (.list (ns.map nD)))) := by rfl) (hN : X.N[j]? = some y := by kernel_rfl) (hv : visB X.env.scope y = true := by kernel_rfl)
    (hdb : (y == ("__debug__" : Str)) = false := by kernel_rfl) (hcd : (y == ("__classdict__" : Str)) = false := by kernel_rfl)
    (ha : ∀ ov iv new, augStore b ov iv new = (do holding [new, ov, iv] (setItem ov iv new); release [new, ov, iv] []; pure .next) := by intros; rfl) :
    DS X en (.AugAssign (.Subscript (.Name y npos) b tpos) .Add e pos) P := fun B Bo Ho H σ f D t => by
  refine wS_of (ps_augS (pe_var hN (vis_of hv) hdb hcd) pe_w pget_list pe_w ip_add set_list ha) ?_
  obtain ⟨p', e1, n1, n2, w⟩ := f.own hj
  refine ⟨_, e1, ?_⟩
  refine hi B Bo Ho H σ f _ fun z H1o H1 g1 r1 => ?_
  have f1 := f.gr g1
  have w1 := w.mono g1.o g1.h
  obtain ⟨vs, w2, w3⟩ := w1
  have hv' : vs[i]? = some (.int (c : Int)) := by
    obtain ⟨v, hv, rv⟩ := w3.get (i := i) (d := nD c) (by rw [List.getElem?_map, hc]; rfl)
    rw [hv, rv.int_inv]
  refine ⟨p', vs, i, _, rfl, r1.int_inv, .inl (.inl w2), hv', ?_⟩
  refine he B Bo H1o H1 σ f1 _ fun u H2o H2 g2 r2 => ?_
  refine ⟨(c : Int), (m : Int), rfl, r2.int_inv, ?_⟩
  have f2 := f1.gr g2
  have w4 := g2.h.at _ _ w2
  have hlt : i < vs.length := (List.getElem?_eq_some_iff.mp hv').1
  refine ⟨p', vs, i, i, rfl, r1.int_inv, w4, ixN_nat hlt, ?_⟩
  refine t.nx _ H2o _ _ q (f2.write hj e1 ⟨_, upd_same, ?_⟩)
  rw [List.map_set]
  exact (w3.mono g2.o).set i (by show Rp X.K H2o (.int ((c : Int) + (m : Int))) (.int ((c + m : Nat) : Int)); rw [show ((c : Int) + (m : Int)) = ((c + m : Nat) : Int) by omega]; exact .int _)
/-- xs[i] = e, xs one's own -/
theorem ds_setItemO (j : Nat) {i : Int} {m : Nat} (he : DE X en e .c d) (hb : DE X en b kb (.int i)) (hm : ixN ds.length i = some m) (q : P.nx (en.set j (some (.o (.list (ds.set m d)))))) (hj : en[j]? = some (some (.o (.list ds))) := by rfl) (hN : X.N[j]? = some y := by kernel_rfl) (hv : visB X.env.scope y = true := by kernel_rfl)
    (hdb : (y == ("__debug__" : Str)) = false := by kernel_rfl) (hcd : (y == ("__classdict__" : Str)) = false := by kernel_rfl)
    (ha : ∀ v, assign (.Subscript (.Name y npos) b tpos) X.env v = (do
      let ov ← holding [v] (eval (.Name y npos) X.env)
      let iv ← holding [v, ov] (eval b X.env)
      standAt tpos
      holding [v, ov, iv] (setItem ov iv v)
      release [v, ov, iv] []) := by intro _; rfl)
    (hs : swapsWithSole [.Subscript (.Name y npos) b tpos] e pos.line X.env = pure false := by kernel_rfl) (hw : swappedStores [.Subscript (.Name y npos) b tpos] e X.env = pure none := by kernel_rfl) (h1 : (assignEach [.Subscript (.Name y npos) b tpos] X.env).map (·.2) = [assign (.Subscript (.Name y npos) b tpos) X.env] := by kernel_rfl) :
    DS X en (.Assign [.Subscript (.Name y npos) b tpos] e pos) P :=
  ds_setItemM j (en1 := en) (fun B Bo Ho H σ f Q q => he B Bo Ho H σ f Q fun v H1o H1 g r => q v H1o H1 (f.gr g) r) hb hm q hj hN hv hdb hcd ha hs hw h1
/-- xs.index(v) -/
theorem de_index {ns : List Nat} {m : Nat} (ho : DE X en o .e (.list (ns.map nD))) (he : DE X en e .c (nD m)) (hm : m ∈ ns) (hs : starEach [e] X.env = (false, eval e X.env) :: starEach [] X.env := by kernel_rfl)
    (hb : PE X (.Call (.Attribute o "index" apos) [e] [] cpos) (tBM X.K "list" (rIndex X.K) (wE X o) (tCons (wE X e) tNil)) := by exact pe_bm PySem.F.plainAttrs_list PySem.F.slot_list_index PySem.F.type_list_index mt_index pe_w (pa_cons pe_w pa_nil)) :
    DE X en (.Call (.Attribute o "index" apos) [e] [] cpos) .c (nD (ns.idxOf m)) := fun B Bo Ho H σ f Q q => by
  refine wE_of hb ?_
  refine ho B Bo Ho H σ f _ fun v H1o H1 g1 r1 => ?_
  obtain ⟨p, vs, rfl, q1, r1⟩ := RpE.lt r1
  have e := row_vals r1
  subst e
  refine ⟨.inl ⟨rfl, _, .inl (.inl q1)⟩, ?_⟩
  refine he B Bo H1o H1 σ (f.gr g1) _ fun u H2o H2 g2 r2 => ?_
  have hlt := List.idxOf_lt_length_of_mem hm
  have hat : ns[ns.idxOf m]? = some m := by
    rw [List.getElem?_eq_getElem hlt, List.getElem_idxOf hlt]
  refine ⟨p, ns.map fun (n : Nat) => V.int (n : Int), .int (m : Int), ns.idxOf m, .int (m : Int), rfl, by rw [show u = .int (m : Int) from r2.int_inv], .inl (.inl (g2.h.at _ _ q1)), rfl, ?_, by rw [List.getElem?_map, hat]; rfl, ?_, fun i z hi hz => ?_, q _ H2o H2 (g1.trans g2) (.int _)⟩
  · rw [List.all_map]
    exact List.all_eq_true.mpr fun x _ => rfl
  · show ((m : Int) == (m : Int)) = true
    exact beq_self_eq_true _
  · rw [List.getElem?_map] at hz
    cases e : ns[i]? with
    | none => rw [e] at hz; cases hz
    | some y =>
      rw [e] at hz
      cases hz
      show ((y : Int) == (m : Int)) = false
      refine beq_false_of_ne fun z => ?_
      have : y = m := by omega
      subst this
      exact idx_no hi e
end
/-! ### the least of pairs -/
def minQ (p : Nat × Nat) (ps : List (Nat × Nat)) : Nat × Nat := ps.foldl (fun a y => if leP a y = true then a else y) p
theorem leP_total (a b : Nat × Nat) : leP a b = true ∨ leP b a = true := by
  unfold leP
  by_cases e : a.1 = b.1
  · rw [if_pos e, if_pos e.symm]
    simp
    omega
  · rw [if_neg e, if_neg (fun z => e z.symm)]
    simp
    omega
theorem leP_trans {a b c : Nat × Nat} (h1 : leP a b = true) (h2 : leP b c = true) : leP a c = true := by
  unfold leP at *
  split at h1 <;> split at h2 <;> split <;> simp at * <;> omega
theorem leP_anti {a b : Nat × Nat} (h1 : leP a b = true) (h2 : leP b a = true) : a = b := by
  unfold leP at h1 h2
  by_cases e : a.1 = b.1
  · rw [if_pos e] at h1
    rw [if_pos e.symm] at h2
    simp at h1 h2
    exact Prod.ext e (by omega)
  · rw [if_neg e] at h1
    rw [if_neg (fun z => e z.symm)] at h2
    simp at h1 h2
    omega
theorem leP_refl (a : Nat × Nat) : leP a a = true := by
  rcases leP_total a a with h | h <;> exact h
theorem minQ_spec : ∀ {ps : List (Nat × Nat)} {p : Nat × Nat}, minQ p ps ∈ p :: ps ∧ ∀ x ∈ p :: ps, leP (minQ p ps) x = true
  | [], p => ⟨List.mem_cons_self, fun x hx => by rw [List.mem_singleton.mp hx]; exact leP_refl _⟩
  | y :: ps, p => by
    have ih := minQ_spec (ps := ps) (p := if leP p y = true then p else y)
    have e : minQ p (y :: ps) = minQ (if leP p y = true then p else y) ps := rfl
    rw [e]
    obtain ⟨h1, h2⟩ := ih
    have h3 := h2 _ List.mem_cons_self
    by_cases h : leP p y = true
    · rw [if_pos h] at h1 h2 h3 ⊢
      refine ⟨?_, fun x hx => ?_⟩
      · rcases List.mem_cons.mp h1 with h1 | h1
        · rw [h1]; exact List.mem_cons_self
        · exact List.mem_cons_of_mem _ (List.mem_cons_of_mem _ h1)
      · rcases List.mem_cons.mp hx with rfl | hx
        · exact h3
        · rcases List.mem_cons.mp hx with rfl | hx
          · exact leP_trans h3 h
          · exact h2 x (List.mem_cons_of_mem _ hx)
    · rw [if_neg h] at h1 h2 h3 ⊢
      refine ⟨List.mem_cons_of_mem _ h1, fun x hx => ?_⟩
      rcases List.mem_cons.mp hx with rfl | hx
      · exact leP_trans h3 ((leP_total x y).resolve_left h)
      · exact h2 x hx
theorem minD_pq {p : Nat × Nat} {ps : List (Nat × Nat)} : minD (pqD p) (ps.map pqD) = pqD (minQ p ps) := by
  unfold minD minQ
  induction ps generalizing p with
  | nil => rfl
  | cons y ps ih =>
    rw [List.map_cons, List.foldl_cons, List.foldl_cons]
    have h : dataLt (pqD y) (pqD p) = !leP p y := by
      have := congrFun (congrFun le_pq p) y
      rw [PySem.W.dataLe_eq] at this
      have this : (!dataLt (pqD y) (pqD p)) = leP p y := this
      rw [← this, Bool.not_not]
    have e : (if dataLt (pqD y) (pqD p) = true then pqD y else pqD p) = pqD (if leP p y = true then p else y) := by
      rw [h]
      cases leP p y <;> rfl
    rw [e]
    exact ih
theorem alike_pqs (ps : List (Nat × Nat)) : AlikeAll (ps.map pqD) := by
  refine ⟨fun x hx y hy => ?_, fun x hx e => ?_⟩
  · obtain ⟨a, _, rfl⟩ := List.mem_map.mp hx
    obtain ⟨b, _, rfl⟩ := List.mem_map.mp hy
    show alike (.tuple [nD a.1, nD a.2]) (.tuple [nD b.1, nD b.2]) = true
    simp [alike, alikeAll, nD]
  · obtain ⟨a, _, rfl⟩ := List.mem_map.mp hx
    cases e
section
variable {X : Cx} {en : En} {a : Expr} {p pos : Pos} {m : Nat}
theorem de_minPq {p0 : Nat × Nat} {ps : List (Nat × Nat)} (hr : Room m X.A) (hc : X.calm = true) (hm : X.mg "min" = none) (ha : DE X en a .e (.list ((p0 :: ps).map pqD))) (hg : glB X "min" = true := by kernel_rfl) (he : starEach [a] X.env = (false, eval a X.env) :: starEach [] X.env := by kernel_rfl) :
    DE X en (.Call (.Name "min" p) [a] [] pos) .c (pqD (minQ p0 ps)) := fun B Bo Ho H σ f Q q => by
  refine wE_of (pe_callB (call_minD hc (hu64 hr)) (gl_of hg) hm boot_min (pa_cons pe_w pa_nil he) (he := he)) ?_
  refine ha B Bo Ho H σ f _ fun v H1o H1 g1 r1 => ?_
  obtain ⟨p, xs, rfl, q1, r1⟩ := RpE.lt r1
  have pl : ∀ d ∈ (p0 :: ps).map pqD, Pl 1 d := fun d hd => by
    obtain ⟨x, _, rfl⟩ := List.mem_map.mp hd
    exact pl_pq x
  obtain ⟨i1, i2⟩ := pl_all pl
  refine ⟨p, xs, pqD p0, ps.map pqD, rfl, .inl (.inl q1), RpA.dp (r1.mono g1.s) i1, alike_pqs (p0 :: ps), i1, by exact Nat.le_trans i2 (by omega), fun i y hy hd => ?_⟩
  obtain ⟨y', e1, e2⟩ := r1.get (i := i) hd
  rw [hy] at e1
  cases e1
  rw [minD_pq] at e2
  exact q _ H1o H1 g1 e2
end
/-- the least load, the first place of it -/
theorem minQ_idx {c : Nat} {g : Nat → Nat} {n : Nat} {p : Nat × Nat} {ps : List (Nat × Nat)} (h : (List.range n).map (fun k => (g k, c + k)) = p :: ps) : minQ p ps = (minN ((List.range n).map g), c + ((List.range n).map g).idxOf (minN ((List.range n).map g))) := by
  have hne : (List.range n).map g ≠ [] := fun z => by
    have : n = 0 := by simpa using congrArg List.length z
    subst this
    cases h
  obtain ⟨m1, m2⟩ := minN_spec hne
  obtain ⟨h1, h2⟩ := minQ_spec (ps := ps) (p := p)
  rw [← h] at h1 h2
  generalize hx : ((List.range n).map g).idxOf (minN ((List.range n).map g)) = x
  have hlt : x < n := by
    have := List.idxOf_lt_length_of_mem m1
    rw [hx, List.length_map, List.length_range] at this
    exact this
  have hgx : g x = minN ((List.range n).map g) := by
    have hl := List.idxOf_lt_length_of_mem m1
    have := List.getElem_idxOf hl
    simp only [hx] at this
    simpa using this
  refine leP_anti (h2 _ (List.mem_map.mpr ⟨x, List.mem_range.mpr hlt, by rw [hgx]⟩)) ?_
  obtain ⟨k, hk, e⟩ := List.mem_map.mp h1
  rw [← e]
  have hk := List.mem_range.mp hk
  have hm := m2 (g k) (List.mem_map_of_mem (List.mem_range.mpr hk))
  unfold leP
  by_cases e2 : minN ((List.range n).map g) = g k
  · rw [if_pos e2]
    refine decide_eq_true ?_
    show c + x ≤ c + k
    by_cases hxk : x ≤ k
    · omega
    · exfalso
      have hk2 : k < ((List.range n).map g).idxOf (minN ((List.range n).map g)) := by rw [hx]; omega
      exact idx_no hk2 (by rw [List.getElem?_map, List.getElem?_range hk, e2]; rfl)
  · rw [if_neg e2]
    exact decide_eq_true hm
section
variable {X : Cx} {en : En} {ss : List Stmt} {P : Po} {i g : Nat} {l : Addr} {d d' : PD} {ds : List PD}
theorem DSs.freezeG (g i : Nat) (hw : Wkn l ds d d') (h : DSs X ((en.set g (some (.v (.list ds)))).set i (some (.v d'))) ss P) (ne : i ≠ g := by decide) (hg : en[g]? = some (some (.a l (.list ds))) := by rfl) (hi : en[i]? = some (some (.v d)) := by rfl) : DSs X en ss P := fun B Bo Ho H σ f D t => by
  obtain ⟨vs, n1, eo, f2⟩ := f.freezeG hg hi ne hw
  exact h B Bo _ H σ f2 D t
/-- one's own list is told by its address -/
theorem DSs.expose (i g : Nat) (h : ∀ l, DSs X ((en.set i (some (.v (adD l)))).set g (some (.a l (.list ds)))) ss P) (hi : en[i]? = some (some (.o (.list ds))) := by rfl) (hg : hidB X g = true := by kernel_rfl) : DSs X en ss P := fun B Bo Ho H σ f D t => by
  obtain ⟨p, e1, n1, n2, w⟩ := f.own hi
  have f1 := f.setV (i := i) (v := .ref p) (d := adD p) (.adr p)
  have es : σ.set i (some (.ref p)) = σ := by
    refine List.ext_getElem? fun j => ?_
    by_cases e : i = j
    · subst e
      rw [List.getElem?_set_self (List.getElem?_eq_some_iff.mp e1).1, e1]
    · rw [List.getElem?_set_ne e]
  rw [es] at f1
  refine wSs_ghost (o := some (.ref p)) hg (h p B Bo Ho H _ (f1.adopt n1 n2 w fun j t' d' ej z => ?_) D t)
  rcases get_set ej with ⟨_, e⟩ | ⟨n, e⟩
  · cases e
  · exact n (f.dj i j _ _ p hi e e1 z)
end
end DL

/-! O7: loads, and where to look next. -/
namespace DL
open PySem PySem.Spec PySem.W PyProof.Rows L2
variable [Lam]
def addC (c : List Nat) (d : Nat) : List Nat := c.set d (c.getD d 0 + 1)
def cntS (c : List Nat) (ds : List Nat) : List Nat := ds.foldl addC c
def cntL (ring : Nat) (dss : List (List Nat)) : List Nat := dss.foldl cntS (List.replicate ring 0)
theorem cntS_len {c ds : List Nat} : (cntS c ds).length = c.length := by
  unfold cntS
  induction ds generalizing c with
  | nil => rfl
  | cons d ds ih =>
    rw [List.foldl_cons, ih]
    unfold addC
    exact List.length_set
theorem cntL_len {ring : Nat} {dss : List (List Nat)} : (cntL ring dss).length = ring := by
  unfold cntL
  suffices h : ∀ c : List Nat, (dss.foldl cntS c).length = c.length by rw [h, List.length_replicate]
  induction dss with
  | nil => intro c; rfl
  | cons d ds ih => intro c; rw [List.foldl_cons, ih, cntS_len]
def shL (W : Wk) (l : Lk) (s : List Nat) (line : Nat) : List Nat := digitsOf W.ring line (rowsL W l.g l.seen s W.parts.length)
theorem shL_lt {W : Wk} {l : Lk} {s : List Nat} {line : Nat} : ∀ d ∈ shL W l s line, d < W.ring := fun d h => by
  unfold shL digitsOf at h
  exact List.mem_range.mp (List.mem_filter.mp h).1
theorem shL_len {W : Wk} {l : Lk} {s : List Nat} {line : Nat} : (shL W l s line).length ≤ W.ring := digitsOf_len _ _ _
def loadC (W : Wk) (l : Lk) (S : List (List Nat)) (line : Nat) : List Nat := cntL W.ring (S.map fun s => shL W l s line)
def loadN (W : Wk) (l : Lk) (S : List (List Nat)) (line : Nat) : Nat := maxN (loadC W l S line)
def loadsN (W : Wk) (l : Lk) (S : List (List Nat)) : List Nat := (List.range W.parts.length).map fun k => loadN W l S (W.inputs + k)
def nextN (W : Wk) (l : Lk) (S : List (List Nat)) : Nat × Nat := (W.inputs + (loadsN W l S).idxOf (minN (loadsN W l S)), minN (loadsN W l S))
theorem loadsN_ne {W : Wk} {l : Lk} {S : List (List Nat)} (hW : W.Ok) : loadsN W l S ≠ [] := fun z => by
  have := congrArg List.length z
  unfold loadsN at this
  rw [List.length_map, List.length_range] at this
  have h := hW.p1
  have h2 : W.parts.length = 0 := this
  omega
theorem nextN_lt {W : Wk} {l : Lk} {S : List (List Nat)} (hW : W.Ok) : W.inputs ≤ (nextN W l S).1 ∧ (nextN W l S).1 < W.inputs + W.parts.length := by
  have h := List.idxOf_lt_length_of_mem (minN_spec (loadsN_ne (l := l) (S := S) hW)).1
  have hl : (loadsN W l S).length = W.parts.length := by unfold loadsN; rw [List.length_map, List.length_range]
  rw [hl] at h
  unfold nextN
  exact ⟨by show W.inputs ≤ W.inputs + _; omega, by show W.inputs + _ < _; omega⟩
theorem cnt_take {dss : List (List Nat)} {ring i : Nat} {ds : List Nat} (h : dss[i]? = some ds) : cntL ring (dss.take (i + 1)) = cntS (cntL ring (dss.take i)) ds := by
  rw [List.take_add_one, h]
  unfold cntL
  rw [List.foldl_append]
  rfl
theorem cntS_take {ds c : List Nat} {i d : Nat} (h : ds[i]? = some d) : cntS c (ds.take (i + 1)) = addC (cntS c (ds.take i)) d := by
  rw [List.take_add_one, h]
  unfold cntS
  rw [List.foldl_append]
  rfl
theorem rep_zero (n : Nat) : (List.replicate n [PyData.int 0]).flatten = (List.replicate n 0).map nD := by
  induction n with
  | zero => rfl
  | succ n ih =>
    rw [List.replicate_succ, List.flatten_cons, ih, List.replicate_succ, List.map_cons]
    rfl
end DL

/-! Q1: methods that certainly raise; ifs that do so in their second suite; kinds of odd things. -/
namespace DL
open PySem PySem.Spec PyProof.Rows L2
variable [Lam]
structure MRDn (P : Program) (w : World) (K : PySem.W.Frag) (mg : Str → Option Value) (base : Heap) (n : Nat) (S : Addr) (m : Str) (R : List PD → Prop) (C : Addr) : Prop where
  ex : ∃ f fd ps, FnOk P w K mg base (L2N.CX P w) n f fd ps (spR K R C) ∧ Meth K S m f ∧ Binds K fd ps []
theorem MRDn.up {P : Program} {w : World} {K : PySem.W.Frag} {mg : Str → Option Value} {base : Heap} {n j : Nat} {S : Addr} {m : Str} {R : List PD → Prop} {C : Addr} (h : MRDn P w K mg base n S m R C) (l : n ≤ j) : MRDn P w K mg base j S m R C := by
  obtain ⟨f, fd, ps, F, r⟩ := h
  exact ⟨f, fd, ps, F.mono l, r⟩
section
variable {X : Cx} {en enR : En} {o e : Expr} {es : List Expr} {ss : List Stmt} {m : Str} {p pos pos' apos : Pos} {S C : Addr} {n : Nat} {R : List PD → Prop} {ds : List PD} {x1 x2 : Str} {d1 d2 : PD}
theorem dsr_ifF {t : Expr} {A Z : List Stmt} (ht : DT X en t false) (h : DSsR X en Z C enR) : DSsR X en (.If t A Z pos :: ss) C enR := fun W tk B Bo Ho H σ f q D => by
  refine wSs_of (pss_cons (ps_if pt_w pss_w pss_w) pss_w) ?_
  refine ht B Bo Ho H σ f _ fun Ho' H' g => ?_
  exact h W tk B Bo Ho' H' σ (f.gr g) q _
theorem pe_mR {pl : Sem Bool} {f : Addr} {fd : FuncData} {ps : List Str} {sp : Sp} {CX : CXT} {E : L2.St → XK} {ta : TE} {t : TA} (he : PE X o ta) (c : Cls X.K S) (hm : Meth X.K S m f) (F : FnOk X.prog X.w X.K X.mg X.base CX n f fd ps sp) (hr : Room n X.A) (hb : Binds X.K fd ps []) (hx : ∀ σ, PassesAt CX X σ (E σ)) (ha : PA X (e :: es) t)
    (hst : starEach (e :: es) X.env = (false, eval e X.env) :: starEach es X.env) (hpl : (backTo pos (starEach es X.env)).any (·.1) = false)
    (ht : eval (.Call (.Attribute o m apos) (e :: es) [] pos) X.env = (do
      let ov ← eval o X.env
      standAt apos.atName
      let (f, first) ← holding [ov] (getMethod ov m pl)
      callWith pos f first (backTo pos (starEach (e :: es) X.env)) (backToKw pos (keywordEach [] X.env)))) :
    PE X (.Call (.Attribute o m apos) (e :: es) [] pos) (fun σ H Q => ta σ H fun x H1 => ∃ a dx fs, x = .ref a ∧ H1 a = some (.ins S dx fs) ∧ fs.lookup m = none ∧ t σ H1 fun vs H2 => sp (x :: vs) H2 Q (E σ)) := ⟨fun pl2 s σ H Q I h => by
  refine PySem.W.methodCall_KW (pl := pl) (thn (he.run pl2 s σ H _ I h) fun u s1 z => ?_) ht
  obtain ⟨x, H1, I1, rx, a, dx, fs, ex, ea, l, q⟩ := z
  subst ex
  obtain rfl : u = Value.ref a := rx
  refine getmeth_ok I1 ea c hm l (PySem.W.callWith_K (first := [.ref a]) (h₀ := X.base) I.ok.mod.kin hm.kp (thn (ha.run pos pl2 s1 σ H1 _ I1 q) fun us s2 z => ?_) hst hpl)
  obtain ⟨vs, H2, I2, r, q2⟩ := z
  exact ⟨I2.kIn, run_fnS (us := .ref a :: us) (vs := .ref a :: vs) F hr hb (hx σ) I2 (.cons rfl r) q2⟩⟩
theorem pe_mR0 {pl : Sem Bool} {f : Addr} {fd : FuncData} {ps : List Str} {sp : Sp} {CX : CXT} {E : L2.St → XK} {ta : TE} (he : PE X o ta) (c : Cls X.K S) (hm : Meth X.K S m f) (F : FnOk X.prog X.w X.K X.mg X.base CX n f fd ps sp) (hr : Room n X.A) (hb : Binds X.K fd ps []) (hx : ∀ σ, PassesAt CX X σ (E σ))
    (ht : eval (.Call (.Attribute o m apos) [] [] pos) X.env = (do
      let ov ← eval o X.env
      standAt apos.atName
      let (f, first) ← holding [ov] (getMethod ov m pl)
      callWith pos f first (backTo pos (starEach [] X.env)) (backToKw pos (keywordEach [] X.env)))) :
    PE X (.Call (.Attribute o m apos) [] [] pos) (fun σ H Q => ta σ H fun x H1 => ∃ a dx fs, x = .ref a ∧ H1 a = some (.ins S dx fs) ∧ fs.lookup m = none ∧ sp [x] H1 Q (E σ)) := ⟨fun pl2 s σ H Q I h => by
  refine PySem.W.methodCall_KW (pl := pl) (thn (he.run pl2 s σ H _ I h) fun u s1 z => ?_) ht
  obtain ⟨x, H1, I1, rx, a, dx, fs, ex, ea, l, q⟩ := z
  subst ex
  obtain rfl : u = Value.ref a := rx
  exact getmeth_ok I1 ea c hm l (PySem.W.callWith_K0 (first := [.ref a]) I1.kIn hm.kp (run_fnS (us := [.ref a]) (vs := [.ref a]) F hr hb (hx σ) I1 (.cons rfl .nil) q))⟩
/-- o.m(e, ..), which raises -/
theorem dsr_meth {pl : Sem Bool} (G : MRDn X.prog X.w X.K X.mg X.base n S m R C) (c : Cls X.K S) (hr : Room n X.A) (ho : DE X en o .c (oD S x1 d1 x2 d2)) (ha : DA X en (e :: es) .c ds) (h : R (oD S x1 d1 x2 d2 :: ds)) (h1 : (m == x1) = false := by decide +kernel) (h2 : (m == x2) = false := by decide +kernel)
    (hst : starEach (e :: es) X.env = (false, eval e X.env) :: starEach es X.env := by kernel_rfl) (hpl : (backTo pos (starEach es X.env)).any (·.1) = false := by kernel_rfl)
    (ht : eval (.Call (.Attribute o m apos) (e :: es) [] pos) X.env = (do
      let ov ← eval o X.env
      standAt apos.atName
      let (f, first) ← holding [ov] (getMethod ov m pl)
      callWith pos f first (backTo pos (starEach (e :: es) X.env)) (backToKw pos (keywordEach [] X.env))) := by rfl)
    (hs : swapsWith (.Call (.Attribute o m apos) (e :: es) [] pos) none pos'.line X.env = pure false := by kernel_rfl) : DSsR X en (.Expr (.Call (.Attribute o m apos) (e :: es) [] pos) pos' :: ss) C en := fun W tk B Bo Ho H σ f q Z => by
  obtain ⟨fa, fd, ps, F, hm, hb⟩ := G
  refine wSs_of (pss_cons (ps_expr (pe_mR (E := WE W) pe_w c hm F hr hb (fun σ => L2N.passAt tk σ) pa_w hst hpl ht) hs) pss_w) ?_
  refine ho B Bo Ho H σ f _ fun v H1o H1 g1 r1 => ?_
  obtain ⟨b, dx, v1, v2, rfl, q1, q2, q3, q4⟩ := Rp.o_inv r1
  refine ⟨b, dx, _, rfl, g1.s.at _ _ q1, by simp [List.lookup, h1, h2], ?_⟩
  refine ha B Bo H1o H1 σ (f.gr g1) _ fun vs H2o H2 g2 r2 => ?_
  exact ⟨H2o, _, g2.s, (g1.trans g2).tb f.tb, .cons (Rp.mono g2.o r1) r2, h, fun H3o H3 g3 => q σ H3o H3 (((f.gr g1).gr g2).gr g3)⟩
/-- return o.m(e, ..), which raises -/
theorem dsr_retm {pl : Sem Bool} (G : MRDn X.prog X.w X.K X.mg X.base n S m R C) (c : Cls X.K S) (hr : Room n X.A) (ho : DE X en o .c (oD S x1 d1 x2 d2)) (ha : DA X en (e :: es) .c ds) (h : R (oD S x1 d1 x2 d2 :: ds)) (h1 : (m == x1) = false := by decide +kernel) (h2 : (m == x2) = false := by decide +kernel)
    (hst : starEach (e :: es) X.env = (false, eval e X.env) :: starEach es X.env := by kernel_rfl) (hpl : (backTo pos (starEach es X.env)).any (·.1) = false := by kernel_rfl)
    (ht : eval (.Call (.Attribute o m apos) (e :: es) [] pos) X.env = (do
      let ov ← eval o X.env
      standAt apos.atName
      let (f, first) ← holding [ov] (getMethod ov m pl)
      callWith pos f first (backTo pos (starEach (e :: es) X.env)) (backToKw pos (keywordEach [] X.env))) := by rfl) : DSsR X en [.Return (some (.Call (.Attribute o m apos) (e :: es) [] pos)) pos'] C en := fun W tk B Bo Ho H σ f q Z => by
  obtain ⟨fa, fd, ps, F, hm, hb⟩ := G
  refine wSs_of (pss_one (ps_ret (pe_mR (E := WE W) pe_w c hm F hr hb (fun σ => L2N.passAt tk σ) pa_w hst hpl ht))) ?_
  refine ho B Bo Ho H σ f _ fun v H1o H1 g1 r1 => ?_
  obtain ⟨b, dx, v1, v2, rfl, q1, q2, q3, q4⟩ := Rp.o_inv r1
  refine ⟨b, dx, _, rfl, g1.s.at _ _ q1, by simp [List.lookup, h1, h2], ?_⟩
  refine ha B Bo H1o H1 σ (f.gr g1) _ fun vs H2o H2 g2 r2 => ?_
  exact ⟨H2o, _, g2.s, (g1.trans g2).tb f.tb, .cons (Rp.mono g2.o r1) r2, h, fun H3o H3 g3 => q σ H3o H3 (((f.gr g1).gr g2).gr g3)⟩
end
/-! ### dicts as they are written, asked for their type -/
def typL (t : PD) : Bool := match t with
  | .dict ((.int _, _) :: _) => true
  | .dict [] => true
  | _ => false
theorem Rp.tybI {K : PySem.W.Frag} {H : Hp} {v : V} {t : PD} (h : Rp K H v t) (ht : typL t = true) : TyB K H v "dict" := by
  cases h with
  | dct h r => exact .dK h
  | scr h => simp [DL.scr, typL] at ht
  | tux h n r => simp [DL.tx, typL] at ht
  | adr a => simp [DL.adD, typL] at ht
  | obj h o r => simp [DL.obD, typL] at ht
  | fact h => simp [DL.atD, typL] at ht
  | _ => cases ht
section
variable {X : Cx} {en : En} {a : Expr} {p p2 p3 pos : Pos} {k : Kd} {t : PD}
theorem dt_tyNeL {m : Nat} {n : String} {tx : Str} (hr : Room m X.A) (hm : X.mg "type" = none) (hmT : X.mg tx = none) (ha : DE X en a k t) (ht : typL t = true) (hd0 : n ≠ "dict") (hn : Meta n) (hv : bootBuiltins tx = some (.type n)) (hg : glB X "type" = true := by kernel_rfl) (hgT : glB X tx = true := by kernel_rfl)
    (hnn : tx ≠ "__name__" := by decide) (hd : (tx == ("__debug__" : Str)) = false := by kernel_rfl) (he : starEach [a] X.env = (false, eval a X.env) :: starEach [] X.env := by kernel_rfl) (hmk : behindInMarks .NotEq (.Name tx p2) = false := by kernel_rfl) :
    DT X en (.Compare (.Call (.Name "type" p) [a] [] p3) [.NotEq] [.Name tx p2] pos) true := fun B Bo Ho H σ f Q q => by
  refine wT_of (pt_cmpR (op_neTy (hu1 hr)) (pe_callTy call_type1 (gl_of hg) hm (by decide +kernel) (pa_cons pe_w pa_nil he) (he := he)) (pe_bltn (v := .ty n) (gl_of hgT) hmT hv rfl hnn hd) hmk) ?_
  refine ha B Bo Ho H σ f _ fun v H1o H1 g1 r1 => ?_
  refine ⟨v, "dict", rfl, (r1.rpt g1.s).tybI ht, ?_⟩
  exact ⟨"dict", n, rfl, rfl, PySem.TypeEq.meta_dict, hn, _, rfl, by rw [decide_eq_false (fun z => hd0 z.symm)]; exact q H1o H1 g1⟩
end
/-! ### for x in a new dict -/
section
variable {X : Cx} {en : En} {a : Expr}
def tDict (td : TE) : TE := fun σ H Q => td σ H fun x H1 => ∃ d kvs, x = .ref d ∧ H1 d = some (.dK kvs) ∧ ∀ o, Q x (upd H1 d (.frz o (.dK kvs)))
theorem pe_dictL {td : TE} (he : PE X a td) : PE X a (tDict td) := ⟨fun pl s σ H Q I h => thn (he.run pl s σ H _ I h) fun u s1 z => by
  obtain ⟨x, H1, I1, rx, d, kvs, ex, hd, q⟩ := z
  obtain ⟨od, I2⟩ := I1.lock hd trivial
  exact ⟨x, _, I2, rx, q od⟩⟩
theorem RpK.key {K : PySem.W.Frag} {H : Hp} : ∀ {kvs : List (L2.Key × V)} {qs : List (L2.Key × PD)}, RpK K H kvs (qs.map fun q => (kD q.1, q.2)) → kvs.map (·.1) = qs.map (·.1)
  | [], [], _ => rfl
  | [], q :: qs, h => by cases h
  | p :: kvs, [], h => by cases h
  | (k, v) :: kvs, (j, d) :: qs, h => by
    generalize e : ((j, d) :: qs).map (fun q : L2.Key × PD => (kD q.1, q.2)) = z at h
    cases h with
    | cons r t =>
      obtain ⟨e1, e2⟩ := List.cons.inj e
      have e3 := kD_inj (Prod.mk.inj e1).1
      subst e2
      rw [List.map_cons, List.map_cons, RpK.key t, e3]
theorem di_keys {tg : Expr} {kvs : List (L2.Key × PD)} (h : DE X en a .o (.dict (kvs.map fun q => (kD q.1, q.2)))) : DI X en tg a (kvs.map fun q => kD q.1) := ⟨_, pi_keys (pe_dictL pe_w), fun B Bo Ho H σ f R q => by
  refine h B Bo Ho H σ f _ fun v Ho' H' g r => ?_
  obtain ⟨p, rfl, n1, n2, vs, w1, w2⟩ := r
  have ks := w2.key
  refine ⟨p, vs, rfl, w1, fun o => ⟨p, o, rfl, .inl ⟨vs, upd_same, ?_⟩⟩⟩
  have g2 : Gr Ho H (upd Ho' p (.frz o (.dK vs))) (upd H' p (.frz o (.dK vs))) := (g.poke (o := .frz o (.dK vs)) n1 n2 w1).keep n1 n2 upd_same
  refine q _ _ _ g2 fun Ho1 H1 s1 s2 i => ⟨fun d hd => ?_, fun hi => ?_⟩
  · have e1 := s2.at _ _ (s1.at _ _ upd_same)
    rw [List.getElem?_map] at hd
    cases e : kvs[i]? with
    | none => rw [e] at hd; cases hd
    | some kv =>
      rw [e] at hd
      have hd : kD kv.1 = d := Option.some.inj hd
      have e2 : (vs.map (·.1))[i]? = some kv.1 := by rw [ks, List.getElem?_map, e]; rfl
      rw [List.getElem?_map] at e2
      cases e3 : vs[i]? with
      | none => rw [e3] at e2; cases e2
      | some kw =>
        rw [e3] at e2
        have e2 : kw.1 = kv.1 := Option.some.inj e2
        refine ⟨⟨e1, (List.getElem?_eq_some_iff.mp e3).1⟩, fun x H2 y => ?_⟩
        obtain ⟨rfl, k, v, hk, rfl⟩ := y
        rw [e3] at hk
        have hk := Option.some.inj hk
        subst hk
        have e2 : k = kv.1 := e2
        subst e2
        refine ⟨Ho1, .refl s2, ?_⟩
        rw [← hd]
        cases kv.1 with
        | inl i => exact .int i
        | inr z => exact .str z
  · refine ⟨s2.at _ _ (s1.at _ _ upd_same), ?_⟩
    have := congrArg List.length ks
    rw [List.length_map, List.length_map] at this
    rw [List.length_map] at hi
    omega⟩
end
section
variable {X : Cx} {en : En} {a b : Expr} {pos : Pos} {kb : Kd}
theorem getD_some {ds : List PD} {j : Nat} (h : j < ds.length) : ds[j]? = some (ds.getD j .none) := by
  rw [List.getD_eq_getElem?_getD, List.getElem?_eq_getElem h]
  rfl
theorem de_pick {ds : List PD} {j : Nat} (hl : DE X en a .e (.list ds)) (hi : DE X en b kb (.int (j : Nat))) (h : j < ds.length) (hs : PlainIx b := by intro _ _; rfl) : DE X en (.Subscript a b pos) .c (ds.getD j .none) := de_ixL hl hi (atI_nat (getD_some h)) hs
theorem getD_all {P : PD → Prop} {l : List PD} {j : Nat} (h : j < l.length) (q : ∀ x ∈ l, P x) : P (l.getD j .none) := q _ (List.mem_of_getElem? (getD_some h))
end
section
variable {X : Cx} {en : En} {a b : Expr} {pos : Pos} {ka kb : Kd} {n : Nat} {x : Str}
theorem pl_w (h : PyData.strOk x = true) : Pl 1 (.tuple [.str x]) := pl_tuple fun d hd => by
  rw [List.mem_singleton.mp hd]
  exact pl_str 0 h
theorem pl_e : Pl 1 (.tuple []) := pl_tuple fun d hd => by cases hd
theorem dt_neW (hr : Room n X.A) (h : PyData.strOk x = true) (ha : DE X en a ka (.tuple [.str x])) (hb : DE X en b kb (.tuple [.str x])) (hm : behindInMarks .NotEq b = false := by kernel_rfl) : DT X en (.Compare a [.NotEq] [b] pos) false :=
  (dt_ne hr ha hb ((pl_w h).shaped (by decide)) ((pl_w h).shaped (by decide)) hm).is (by rw [(pl_w h).refl]; rfl)
theorem de_eqW (hr : Room n X.A) (h : PyData.strOk x = true) (ha : DE X en a ka (.tuple [.str x])) (hb : DE X en b kb (.tuple [.str x])) (hm : behindInMarks .Eq b = false := by kernel_rfl) : DE X en (.Compare a [.Eq] [b] pos) .c (.bool true) :=
  (de_eq hr ha hb ((pl_w h).shaped (by decide)) ((pl_w h).shaped (by decide)) hm).is (by rw [(pl_w h).refl])
theorem dt_neE (hr : Room n X.A) (ha : DE X en a ka (.tuple [])) (hb : DE X en b kb (.tuple [])) (hm : behindInMarks .NotEq b = false := by kernel_rfl) : DT X en (.Compare a [.NotEq] [b] pos) false :=
  (dt_ne hr ha hb (pl_e.shaped (by decide)) (pl_e.shaped (by decide)) hm).is (by rw [pl_e.refl]; rfl)
/-- looks and sets, beside themselves -/
theorem pl_kept (ls : List Lk) (cs : List (List Nat)) : Pl 5 (.tuple [.list (ls.map lkP), setsD cs]) := pl_tuple fun d hd => by
  rcases List.mem_cons.mp hd with rfl | hd
  · exact pl_lks ls
  · rw [List.mem_singleton.mp hd]; exact (pl_sets cs).up (by decide)
theorem kept_dp {K : PySem.W.Frag} {H : Hp} {v : V} {ls : List Lk} {cs : List (List Nat)} (h : Rp K H v (.tuple [.list (ls.map lkD), setsD cs])) : Dp K H v (.tuple [.list (ls.map lkP), setsD cs]) := by
  obtain ⟨a, xs, rfl, ha, r⟩ := Rp.tup_inv h
  cases r with
  | cons h1 r => cases r with
    | cons h2 r =>
      cases r
      exact .tup (.inl (.inl ha)) (.cons (lks_dp h1) (.cons (Rp.dp h2 (pl_sets cs).1) .nil))
theorem o2_neKept {ls : List Lk} {cs : List (List Nat)} : Op2 X.K (rNeD X.K) ka (.tuple [.list (ls.map lkD), setsD cs]) kb (.tuple [.list (ls.map lkD), setsD cs]) .c (.bool false) := fun H0 H0' Ho H v u s r1 r2 Q q => by
  have pl := pl_kept ls cs
  refine ⟨_, _, kept_dp (r1.rpt s), kept_dp (r2.rpt s), pl.shaped (by decide), pl.shaped (by decide), ?_⟩
  rw [pl.refl]
  exact q _ Ho H (.refl s) (.bl _)
theorem dt_neKept {ls : List Lk} {cs : List (List Nat)} (hr : Room n X.A) (ha : DE X en a ka (.tuple [.list (ls.map lkD), setsD cs])) (hb : DE X en b kb (.tuple [.list (ls.map lkD), setsD cs])) (hm : behindInMarks .NotEq b = false := by kernel_rfl) : DT X en (.Compare a [.NotEq] [b] pos) false := dt_cmp (op_neD (hu64 hr)) ha hb o2_neKept hm
end
end DL

/-! R1: type(x) is T, is not T. -/
namespace DL
open PySem PySem.Spec PyProof.Rows L2
variable [Lam]
section
variable {X : Cx}
variable {en : En} {a b c e : Expr} {p p2 p3 pos : Pos} {k ka kb kc : Kd} {d da db dc : PD}
theorem de_tyIs {n t : String} {tx : Str} (hm : X.mg "type" = none) (hmT : X.mg tx = none) (ha : DE X en a k d) (ht : typN d = some t) (hn : Meta n) (hv : bootBuiltins tx = some (.type n)) (hg : glB X "type" = true := by kernel_rfl) (hgT : glB X tx = true := by kernel_rfl)
    (hnn : tx ≠ "__name__" := by decide) (hd : (tx == ("__debug__" : Str)) = false := by kernel_rfl) (he : starEach [a] X.env = (false, eval a X.env) :: starEach [] X.env := by kernel_rfl) (hmk : behindInMarks .Is (.Name tx p2) = false := by kernel_rfl) :
    DE X en (.Compare (.Call (.Name "type" p) [a] [] p3) [.Is] [.Name tx p2] pos) .c (.bool (decide (t = n))) := fun B Bo Ho H σ f Q q => by
  refine wE_of (pe_cmpR op_isTy (pe_callTy call_type1 (gl_of hg) hm (by decide +kernel) (pa_cons pe_w pa_nil he) (he := he)) (pe_bltn (v := .ty n) (gl_of hgT) hmT hv rfl hnn hd) hmk) ?_
  refine ha B Bo Ho H σ f _ fun v H1o H1 g1 r1 => ?_
  refine ⟨v, t, rfl, (r1.rpt g1.s).tyb ht, ?_⟩
  exact ⟨t, n, rfl, rfl, q _ H1o H1 g1 (.bl _)⟩
end
section
variable {X : Cx} {en : En} {a b c e : Expr} {p p2 p3 pos : Pos} {k ka kb kc : Kd} {d da db dc : PD}
theorem dt_tyIsNot {m : Nat} {n t : String} {tx : Str} (hr : Room m X.A) (hm : X.mg "type" = none) (hmT : X.mg tx = none) (ha : DE X en a k d) (ht : typN d = some t) (hn : Meta n) (hv : bootBuiltins tx = some (.type n)) (hg : glB X "type" = true := by kernel_rfl) (hgT : glB X tx = true := by kernel_rfl)
    (hnn : tx ≠ "__name__" := by decide) (hd : (tx == ("__debug__" : Str)) = false := by kernel_rfl) (he : starEach [a] X.env = (false, eval a X.env) :: starEach [] X.env := by kernel_rfl) (hmk : behindInMarks .IsNot (.Name tx p2) = false := by kernel_rfl) :
    DT X en (.Compare (.Call (.Name "type" p) [a] [] p3) [.IsNot] [.Name tx p2] pos) (!decide (t = n)) := fun B Bo Ho H σ f Q q => by
  refine wT_of (pt_cmpR op_isNotTy (pe_callTy call_type1 (gl_of hg) hm (by decide +kernel) (pa_cons pe_w pa_nil he) (he := he)) (pe_bltn (v := .ty n) (gl_of hgT) hmT hv rfl hnn hd) hmk) ?_
  refine ha B Bo Ho H σ f _ fun v H1o H1 g1 r1 => ?_
  refine ⟨v, t, rfl, (r1.rpt g1.s).tyb ht, ?_⟩
  exact ⟨t, n, rfl, rfl, _, rfl, q H1o H1 g1⟩
end
section
variable {X : Cx} {en : En} {P : Po} {a b e tg : Expr} {p p2 p3 pos apos cpos npos : Pos} {k ka kb : Kd} {d : PD} {ds : List PD} {n m : Nat} {row : List Nat} {x : Str}
theorem dt_tyIsNotX {m : Nat} {n : String} {txx : Str} (hr : Room m X.A) (hm : X.mg "type" = none) (hmT : X.mg txx = none) (ha : DE X en a .c (tx ds)) (hn : Meta n) (hv : bootBuiltins txx = some (.type n)) (hg : glB X "type" = true := by kernel_rfl) (hgT : glB X txx = true := by kernel_rfl)
    (hnn : txx ≠ "__name__" := by decide) (hd : (txx == ("__debug__" : Str)) = false := by kernel_rfl) (he : starEach [a] X.env = (false, eval a X.env) :: starEach [] X.env := by kernel_rfl) (hmk : behindInMarks .IsNot (.Name txx p2) = false := by kernel_rfl) :
    DT X en (.Compare (.Call (.Name "type" p) [a] [] p3) [.IsNot] [.Name txx p2] pos) (!decide ("tuple" = n)) := fun B Bo Ho H σ f Q q => by
  refine wT_of (pt_cmpR op_isNotTy (pe_callTy call_type1 (gl_of hg) hm (by decide +kernel) (pa_cons pe_w pa_nil he) (he := he)) (pe_bltn (v := .ty n) (gl_of hgT) hmT hv rfl hnn hd) hmk) ?_
  refine ha B Bo Ho H σ f _ fun v H1o H1 g1 r1 => ?_
  obtain ⟨p, xs, o, rfl, q1, q2, r1⟩ := Rp.tx_inv r1
  exact ⟨_, "tuple", rfl, .tup (.inl (.inr ⟨o, g1.s.at _ _ q1⟩)), "tuple", n, rfl, rfl, _, rfl, q H1o H1 g1⟩
end
section
variable {X : Cx} {en : En} {a : Expr} {p p2 p3 pos : Pos} {k : Kd}
theorem dt_tyIsNot0 {m : Nat} {n : String} {tx : Str} (hr : Room m X.A) (hm : X.mg "type" = none) (hmT : X.mg tx = none) (ha : DE X en a k (.dict [])) (hd0 : n ≠ "dict") (hn : Meta n) (hv : bootBuiltins tx = some (.type n)) (hg : glB X "type" = true := by kernel_rfl) (hgT : glB X tx = true := by kernel_rfl)
    (hnn : tx ≠ "__name__" := by decide) (hd : (tx == ("__debug__" : Str)) = false := by kernel_rfl) (he : starEach [a] X.env = (false, eval a X.env) :: starEach [] X.env := by kernel_rfl) (hmk : behindInMarks .IsNot (.Name tx p2) = false := by kernel_rfl) :
    DT X en (.Compare (.Call (.Name "type" p) [a] [] p3) [.IsNot] [.Name tx p2] pos) true := fun B Bo Ho H σ f Q q => by
  refine wT_of (pt_cmpR op_isNotTy (pe_callTy call_type1 (gl_of hg) hm (by decide +kernel) (pa_cons pe_w pa_nil he) (he := he)) (pe_bltn (v := .ty n) (gl_of hgT) hmT hv rfl hnn hd) hmk) ?_
  refine ha B Bo Ho H σ f _ fun v H1o H1 g1 r1 => ?_
  refine ⟨v, "dict", rfl, (r1.rpt g1.s).tyb0, ?_⟩
  exact ⟨"dict", n, rfl, rfl, _, rfl, by rw [decide_eq_false (fun z => hd0 z.symm)]; exact q H1o H1 g1⟩
end
section
variable {X : Cx} {en : En} {a : Expr} {p p2 p3 pos : Pos} {k : Kd} {t : PD}
theorem dt_tyIsNotL {m : Nat} {n : String} {tx : Str} (hr : Room m X.A) (hm : X.mg "type" = none) (hmT : X.mg tx = none) (ha : DE X en a k t) (ht : typL t = true) (hd0 : n ≠ "dict") (hn : Meta n) (hv : bootBuiltins tx = some (.type n)) (hg : glB X "type" = true := by kernel_rfl) (hgT : glB X tx = true := by kernel_rfl)
    (hnn : tx ≠ "__name__" := by decide) (hd : (tx == ("__debug__" : Str)) = false := by kernel_rfl) (he : starEach [a] X.env = (false, eval a X.env) :: starEach [] X.env := by kernel_rfl) (hmk : behindInMarks .IsNot (.Name tx p2) = false := by kernel_rfl) :
    DT X en (.Compare (.Call (.Name "type" p) [a] [] p3) [.IsNot] [.Name tx p2] pos) true := fun B Bo Ho H σ f Q q => by
  refine wT_of (pt_cmpR op_isNotTy (pe_callTy call_type1 (gl_of hg) hm (by decide +kernel) (pa_cons pe_w pa_nil he) (he := he)) (pe_bltn (v := .ty n) (gl_of hgT) hmT hv rfl hnn hd) hmk) ?_
  refine ha B Bo Ho H σ f _ fun v H1o H1 g1 r1 => ?_
  refine ⟨v, "dict", rfl, (r1.rpt g1.s).tybI ht, ?_⟩
  exact ⟨"dict", n, rfl, rfl, _, rfl, by rw [decide_eq_false (fun z => hd0 z.symm)]; exact q H1o H1 g1⟩
end
section
variable {X : Cx} {en : En} {a b c e : Expr} {p p2 p3 pos : Pos} {k ka kb kc : Kd} {d da db dc : PD}
theorem dt_tyIsNotZ {m : Nat} {n t : String} {tx : Str} (hr : L2H.RoomH m X.A) (hm : X.mg "type" = none) (hmT : X.mg tx = none) (ha : DE X en a k d) (ht : typN d = some t) (hn : Meta n) (hv : bootBuiltins tx = some (.type n)) (hg : glB X "type" = true := by kernel_rfl) (hgT : glB X tx = true := by kernel_rfl)
    (hnn : tx ≠ "__name__" := by decide) (hd : (tx == ("__debug__" : Str)) = false := by kernel_rfl) (he : starEach [a] X.env = (false, eval a X.env) :: starEach [] X.env := by kernel_rfl) (hmk : behindInMarks .IsNot (.Name tx p2) = false := by kernel_rfl) :
    DT X en (.Compare (.Call (.Name "type" p) [a] [] p3) [.IsNot] [.Name tx p2] pos) (!decide (t = n)) := fun B Bo Ho H σ f Q q => by
  refine wT_of (pt_cmpR op_isNotTy (pe_callTy call_type1 (gl_of hg) hm (by decide +kernel) (pa_cons pe_w pa_nil he) (he := he)) (pe_bltn (v := .ty n) (gl_of hgT) hmT hv rfl hnn hd) hmk) ?_
  refine ha B Bo Ho H σ f _ fun v H1o H1 g1 r1 => ?_
  refine ⟨v, t, rfl, (r1.rpt g1.s).tyb ht, ?_⟩
  exact ⟨t, n, rfl, rfl, _, rfl, q H1o H1 g1⟩
end
end DL

namespace K10
open PySem PySem.Spec PyProof.Rows L2 DL
def topS (i : Nat) : Stmt := PySem.Challenge.pw_whichbroke_k10_where_to_look_next.main.body.getD i (.Pass ⟨0, 0, 0, 0⟩)
abbrev s_is_whole : Stmt := topS 11
abbrev N_is_whole : List Str := ["thing", "low", "high"]
theorem c_is_whole : FnScope N_is_whole ["thing", "low", "high"] (defScope s_is_whole) := ⟨rfl, rfl, rfl, by decide +kernel, rfl, by decide +kernel, by decide +kernel⟩
theorem b_is_whole {scope : Scope} {own : List (Str × Nat)} (h : blkC N_is_whole (defScope s_is_whole) scope own = true) : BlkOk N_is_whole (defScope s_is_whole) scope own := blkOk_by h
abbrev s_is_tuple_of : Stmt := topS 12
abbrev N_is_tuple_of : List Str := ["thing", "length"]
theorem c_is_tuple_of : FnScope N_is_tuple_of ["thing", "length"] (defScope s_is_tuple_of) := ⟨rfl, rfl, rfl, by decide +kernel, rfl, by decide +kernel, by decide +kernel⟩
theorem b_is_tuple_of {scope : Scope} {own : List (Str × Nat)} (h : blkC N_is_tuple_of (defScope s_is_tuple_of) scope own = true) : BlkOk N_is_tuple_of (defScope s_is_tuple_of) scope own := blkOk_by h
abbrev s_is_part : Stmt := topS 13
abbrev N_is_part : List Str := ["thing", "line", "word", "taken"]
theorem c_is_part : FnScope N_is_part ["thing", "line"] (defScope s_is_part) := ⟨rfl, rfl, rfl, by decide +kernel, rfl, by decide +kernel, by decide +kernel⟩
theorem b_is_part {scope : Scope} {own : List (Str × Nat)} (h : blkC N_is_part (defScope s_is_part) scope own = true) : BlkOk N_is_part (defScope s_is_part) scope own := blkOk_by h
abbrev s_is_work : Stmt := topS 14
abbrev N_is_work : List Str := ["thing", "ring", "inputs", "parts", "number", "part"]
theorem c_is_work : FnScope N_is_work ["thing"] (defScope s_is_work) := ⟨rfl, rfl, rfl, by decide +kernel, rfl, by decide +kernel, by decide +kernel⟩
theorem b_is_work {scope : Scope} {own : List (Str × Nat)} (h : blkC N_is_work (defScope s_is_work) scope own = true) : BlkOk N_is_work (defScope s_is_work) scope own := blkOk_by h
abbrev s_is_digit : Stmt := topS 15
abbrev N_is_digit : List Str := ["work", "thing"]
theorem c_is_digit : FnScope N_is_digit ["work", "thing"] (defScope s_is_digit) := ⟨rfl, rfl, rfl, by decide +kernel, rfl, by decide +kernel, by decide +kernel⟩
theorem b_is_digit {scope : Scope} {own : List (Str × Nat)} (h : blkC N_is_digit (defScope s_is_digit) scope own = true) : BlkOk N_is_digit (defScope s_is_digit) scope own := blkOk_by h
abbrev s_is_line : Stmt := topS 16
abbrev N_is_line : List Str := ["work", "thing", "_", "inputs", "parts"]
theorem c_is_line : FnScope N_is_line ["work", "thing"] (defScope s_is_line) := ⟨rfl, rfl, rfl, by decide +kernel, rfl, by decide +kernel, by decide +kernel⟩
theorem b_is_line {scope : Scope} {own : List (Str × Nat)} (h : blkC N_is_line (defScope s_is_line) scope own = true) : BlkOk N_is_line (defScope s_is_line) scope own := blkOk_by h
abbrev s_is_line_of_part : Stmt := topS 17
abbrev N_is_line_of_part : List Str := ["work", "thing", "_", "inputs", "parts"]
theorem c_is_line_of_part : FnScope N_is_line_of_part ["work", "thing"] (defScope s_is_line_of_part) := ⟨rfl, rfl, rfl, by decide +kernel, rfl, by decide +kernel, by decide +kernel⟩
theorem b_is_line_of_part {scope : Scope} {own : List (Str × Nat)} (h : blkC N_is_line_of_part (defScope s_is_line_of_part) scope own = true) : BlkOk N_is_line_of_part (defScope s_is_line_of_part) scope own := blkOk_by h
abbrev s_is_given : Stmt := topS 18
abbrev N_is_given : List Str := ["work", "thing", "digit"]
theorem c_is_given : FnScope N_is_given ["work", "thing"] (defScope s_is_given) := ⟨rfl, rfl, rfl, by decide +kernel, rfl, by decide +kernel, by decide +kernel⟩
theorem b_is_given {scope : Scope} {own : List (Str × Nat)} (h : blkC N_is_given (defScope s_is_given) scope own = true) : BlkOk N_is_given (defScope s_is_given) scope own := blkOk_by h
abbrev s_is_pair : Stmt := topS 19
abbrev N_is_pair : List Str := ["work", "thing"]
theorem c_is_pair : FnScope N_is_pair ["work", "thing"] (defScope s_is_pair) := ⟨rfl, rfl, rfl, by decide +kernel, rfl, by decide +kernel, by decide +kernel⟩
theorem b_is_pair {scope : Scope} {own : List (Str × Nat)} (h : blkC N_is_pair (defScope s_is_pair) scope own = true) : BlkOk N_is_pair (defScope s_is_pair) scope own := blkOk_by h
abbrev s_rises : Stmt := topS 20
abbrev N_rises : List Str := ["numbers", "ahead", "behind"]
theorem c_rises : FnScope N_rises ["numbers"] (defScope s_rises) := ⟨rfl, rfl, rfl, by decide +kernel, rfl, by decide +kernel, by decide +kernel⟩
theorem b_rises {scope : Scope} {own : List (Str × Nat)} (h : blkC N_rises (defScope s_rises) scope own = true) : BlkOk N_rises (defScope s_rises) scope own := blkOk_by h
abbrev s_is_seen : Stmt := topS 21
abbrev N_is_seen : List Str := ["work", "thing", "pair"]
theorem c_is_seen : FnScope N_is_seen ["work", "thing"] (defScope s_is_seen) := ⟨rfl, rfl, rfl, by decide +kernel, rfl, by decide +kernel, by decide +kernel⟩
theorem b_is_seen {scope : Scope} {own : List (Str × Nat)} (h : blkC N_is_seen (defScope s_is_seen) scope own = true) : BlkOk N_is_seen (defScope s_is_seen) scope own := blkOk_by h
abbrev s_is_look : Stmt := topS 22
abbrev N_is_look : List Str := ["work", "thing"]
theorem c_is_look : FnScope N_is_look ["work", "thing"] (defScope s_is_look) := ⟨rfl, rfl, rfl, by decide +kernel, rfl, by decide +kernel, by decide +kernel⟩
theorem b_is_look {scope : Scope} {own : List (Str × Nat)} (h : blkC N_is_look (defScope s_is_look) scope own = true) : BlkOk N_is_look (defScope s_is_look) scope own := blkOk_by h
abbrev s_is_set : Stmt := topS 23
abbrev N_is_set : List Str := ["work", "thing", "highest", "number"]
theorem c_is_set : FnScope N_is_set ["work", "thing"] (defScope s_is_set) := ⟨rfl, rfl, rfl, by decide +kernel, rfl, by decide +kernel, by decide +kernel⟩
theorem b_is_set {scope : Scope} {own : List (Str × Nat)} (h : blkC N_is_set (defScope s_is_set) scope own = true) : BlkOk N_is_set (defScope s_is_set) scope own := blkOk_by h
abbrev s_need_work : Stmt := topS 24
abbrev N_need_work : List Str := ["thing"]
theorem c_need_work : FnScope N_need_work ["thing"] (defScope s_need_work) := ⟨rfl, rfl, rfl, by decide +kernel, rfl, by decide +kernel, by decide +kernel⟩
theorem b_need_work {scope : Scope} {own : List (Str × Nat)} (h : blkC N_need_work (defScope s_need_work) scope own = true) : BlkOk N_need_work (defScope s_need_work) scope own := blkOk_by h
abbrev s_need_look : Stmt := topS 25
abbrev N_need_look : List Str := ["work", "thing"]
theorem c_need_look : FnScope N_need_look ["work", "thing"] (defScope s_need_look) := ⟨rfl, rfl, rfl, by decide +kernel, rfl, by decide +kernel, by decide +kernel⟩
theorem b_need_look {scope : Scope} {own : List (Str × Nat)} (h : blkC N_need_look (defScope s_need_look) scope own = true) : BlkOk N_need_look (defScope s_need_look) scope own := blkOk_by h
abbrev s_need_set : Stmt := topS 26
abbrev N_need_set : List Str := ["work", "thing"]
theorem c_need_set : FnScope N_need_set ["work", "thing"] (defScope s_need_set) := ⟨rfl, rfl, rfl, by decide +kernel, rfl, by decide +kernel, by decide +kernel⟩
theorem b_need_set {scope : Scope} {own : List (Str × Nat)} (h : blkC N_need_set (defScope s_need_set) scope own = true) : BlkOk N_need_set (defScope s_need_set) scope own := blkOk_by h
abbrev s_given_of : Stmt := topS 27
abbrev N_given_of : List Str := ["part", "digits", "ring", "word", "taken", "line"]
theorem c_given_of : FnScope N_given_of ["part", "digits", "ring"] (defScope s_given_of) := ⟨rfl, rfl, rfl, by decide +kernel, rfl, by decide +kernel, by decide +kernel⟩
theorem b_given_of {scope : Scope} {own : List (Str × Nat)} (h : blkC N_given_of (defScope s_given_of) scope own = true) : BlkOk N_given_of (defScope s_given_of) scope own := blkOk_by h
abbrev s_lines_in_use : Stmt := topS 29
abbrev N_lines_in_use : List Str := ["work", "wanted", "broken", "kept", "_", "inputs", "parts", "used", "in_use", "number", "line", "taken", "at"]
theorem c_lines_in_use : FnScope N_lines_in_use ["work", "wanted", "broken", "kept"] (defScope s_lines_in_use) := ⟨rfl, rfl, rfl, by decide +kernel, rfl, by decide +kernel, by decide +kernel⟩
theorem b_lines_in_use {scope : Scope} {own : List (Str × Nat)} (h : blkC N_lines_in_use (defScope s_lines_in_use) scope own = true) : BlkOk N_lines_in_use (defScope s_lines_in_use) scope own := blkOk_by h
abbrev s_fitting_digits : Stmt := topS 30
abbrev N_fitting_digits : List Str := ["work", "row", "wanted", "broken", "ring", "inputs", "parts", "line", "number", "fitting", "digit"]
theorem c_fitting_digits : FnScope N_fitting_digits ["work", "row", "wanted", "broken"] (defScope s_fitting_digits) := ⟨rfl, rfl, rfl, by decide +kernel, rfl, by decide +kernel, by decide +kernel⟩
theorem b_fitting_digits {scope : Scope} {own : List (Str × Nat)} (h : blkC N_fitting_digits (defScope s_fitting_digits) scope own = true) : BlkOk N_fitting_digits (defScope s_fitting_digits) scope own := blkOk_by h
abbrev s_thinned : Stmt := topS 31
abbrev N_thinned : List Str := ["rows", "lines", "first", "row", "line"]
theorem c_thinned : FnScope N_thinned ["rows", "lines"] (defScope s_thinned) := ⟨rfl, rfl, rfl, by decide +kernel, rfl, by decide +kernel, by decide +kernel⟩
theorem b_thinned {scope : Scope} {own : List (Str × Nat)} (h : blkC N_thinned (defScope s_thinned) scope own = true) : BlkOk N_thinned (defScope s_thinned) scope own := blkOk_by h
abbrev s_rows_of : Stmt := topS 32
abbrev N_rows_of : List Str := ["work", "look", "broken", "kept", "given", "seen", "wanted", "rows", "lines", "longer", "line", "digit", "row"]
theorem c_rows_of : FnScope N_rows_of ["work", "look", "broken", "kept"] (defScope s_rows_of) := ⟨rfl, rfl, rfl, by decide +kernel, rfl, by decide +kernel, by decide +kernel⟩
theorem b_rows_of {scope : Scope} {own : List (Str × Nat)} (h : blkC N_rows_of (defScope s_rows_of) scope own = true) : BlkOk N_rows_of (defScope s_rows_of) scope own := blkOk_by h
abbrev s_least_room : Stmt := topS 33
abbrev N_least_room : List Str := ["work", "look", "broken", "rows"]
theorem c_least_room : FnScope N_least_room ["work", "look", "broken"] (defScope s_least_room) := ⟨rfl, rfl, rfl, by decide +kernel, rfl, by decide +kernel, by decide +kernel⟩
theorem b_least_room {scope : Scope} {own : List (Str × Nat)} (h : blkC N_least_room (defScope s_least_room) scope own = true) : BlkOk N_least_room (defScope s_least_room) scope own := blkOk_by h
abbrev s_rooms : Stmt := topS 34
abbrev N_rooms : List Str := ["work", "looks", "broken", "found", "look", "digits"]
theorem c_rooms : FnScope N_rooms ["work", "looks", "broken"] (defScope s_rooms) := ⟨rfl, rfl, rfl, by decide +kernel, rfl, by decide +kernel, by decide +kernel⟩
theorem b_rooms {scope : Scope} {own : List (Str × Nat)} (h : blkC N_rooms (defScope s_rooms) scope own = true) : BlkOk N_rooms (defScope s_rooms) scope own := blkOk_by h
abbrev s_shown : Stmt := topS 35
abbrev N_shown : List Str := ["work", "look", "broken", "line", "rows", "row"]
theorem c_shown : FnScope N_shown ["work", "look", "broken", "line"] (defScope s_shown) := ⟨rfl, rfl, rfl, by decide +kernel, rfl, by decide +kernel, by decide +kernel⟩
theorem b_shown {scope : Scope} {own : List (Str × Nat)} (h : blkC N_shown (defScope s_shown) scope own = true) : BlkOk N_shown (defScope s_shown) scope own := blkOk_by h
abbrev s_has_all : Stmt := topS 37
abbrev N_has_all : List Str := ["chosen", "numbers", "number"]
theorem c_has_all : FnScope N_has_all ["chosen", "numbers"] (defScope s_has_all) := ⟨rfl, rfl, rfl, by decide +kernel, rfl, by decide +kernel, by decide +kernel⟩
theorem b_has_all {scope : Scope} {own : List (Str × Nat)} (h : blkC N_has_all (defScope s_has_all) scope own = true) : BlkOk N_has_all (defScope s_has_all) scope own := blkOk_by h
abbrev s_least_of : Stmt := topS 38
abbrev N_least_of : List Str := ["many", "fits", "least", "size", "chosen", "known", "$0", "$1"]
theorem c_least_of : FnScope N_least_of ["many", "fits"] (defScope s_least_of) := ⟨rfl, rfl, rfl, by decide +kernel, rfl, by decide +kernel, by decide +kernel⟩
theorem b_least_of {scope : Scope} {own : List (Str × Nat)} (h : blkC N_least_of (defScope s_least_of) scope own = true) : BlkOk N_least_of (defScope s_least_of) scope own := blkOk_by h
abbrev s_least_sets : Stmt := topS 39
abbrev N_least_sets : List Str := ["work", "looks", "broken"]
theorem c_least_sets : FnScope N_least_sets ["work", "looks"] (defScope s_least_sets) := ⟨rfl, rfl, rfl, by decide +kernel, rfl, by decide +kernel, by decide +kernel⟩
theorem b_least_sets {scope : Scope} {own : List (Str × Nat)} (h : blkC N_least_sets (defScope s_least_sets) scope own = true) : BlkOk N_least_sets (defScope s_least_sets) scope own := blkOk_by h
abbrev s_load_of : Stmt := topS 41
abbrev N_load_of : List Str := ["work", "look", "sets", "line", "counts", "broken", "digit"]
theorem c_load_of : FnScope N_load_of ["work", "look", "sets", "line"] (defScope s_load_of) := ⟨rfl, rfl, rfl, by decide +kernel, rfl, by decide +kernel, by decide +kernel⟩
theorem b_load_of {scope : Scope} {own : List (Str × Nat)} (h : blkC N_load_of (defScope s_load_of) scope own = true) : BlkOk N_load_of (defScope s_load_of) scope own := blkOk_by h
abbrev s_Search_init : Stmt := (clsBody (topS 42)).getD 0 (.Pass ⟨0, 0, 0, 0⟩)
abbrev N_Search_init : List Str := ["self", "work", "ring", "inputs", "parts"]
theorem c_Search_init : FnScope N_Search_init ["self", "work"] (defScope s_Search_init) := ⟨rfl, rfl, rfl, by decide +kernel, rfl, by decide +kernel, by decide +kernel⟩
theorem b_Search_init {scope : Scope} {own : List (Str × Nat)} (h : blkC N_Search_init (defScope s_Search_init) scope own = true) : BlkOk N_Search_init (defScope s_Search_init) scope own := blkOk_by h
abbrev s_Search_need_number : Stmt := (clsBody (topS 42)).getD 1 (.Pass ⟨0, 0, 0, 0⟩)
abbrev N_Search_need_number : List Str := ["self", "thing"]
theorem c_Search_need_number : FnScope N_Search_need_number ["self", "thing"] (defScope s_Search_need_number) := ⟨rfl, rfl, rfl, by decide +kernel, rfl, by decide +kernel, by decide +kernel⟩
theorem b_Search_need_number {scope : Scope} {own : List (Str × Nat)} (h : blkC N_Search_need_number (defScope s_Search_need_number) scope own = true) : BlkOk N_Search_need_number (defScope s_Search_need_number) scope own := blkOk_by h
abbrev s_Search_look : Stmt := (clsBody (topS 42)).getD 2 (.Pass ⟨0, 0, 0, 0⟩)
abbrev N_Search_look : List Str := ["self", "given", "seen", "$l"]
theorem c_Search_look : FnScope N_Search_look ["self", "given", "seen"] (defScope s_Search_look) := ⟨rfl, rfl, rfl, by decide +kernel, rfl, by decide +kernel, by decide +kernel⟩
theorem b_Search_look {scope : Scope} {own : List (Str × Nat)} (h : blkC N_Search_look (defScope s_Search_look) scope own = true) : BlkOk N_Search_look (defScope s_Search_look) scope own := blkOk_by h
abbrev s_Search_see : Stmt := (clsBody (topS 42)).getD 3 (.Pass ⟨0, 0, 0, 0⟩)
abbrev N_Search_see : List Str := ["self", "number", "line", "digit", "given", "seen", "pair", "$l"]
theorem c_Search_see : FnScope N_Search_see ["self", "number", "line", "digit"] (defScope s_Search_see) := ⟨rfl, rfl, rfl, by decide +kernel, rfl, by decide +kernel, by decide +kernel⟩
theorem b_Search_see {scope : Scope} {own : List (Str × Nat)} (h : blkC N_Search_see (defScope s_Search_see) scope own = true) : BlkOk N_Search_see (defScope s_Search_see) scope own := blkOk_by h
abbrev s_Search_looks : Stmt := (clsBody (topS 42)).getD 5 (.Pass ⟨0, 0, 0, 0⟩)
abbrev N_Search_looks : List Str := ["self"]
theorem c_Search_looks : FnScope N_Search_looks ["self"] (defScope s_Search_looks) := ⟨rfl, rfl, rfl, by decide +kernel, rfl, by decide +kernel, by decide +kernel⟩
theorem b_Search_looks {scope : Scope} {own : List (Str × Nat)} (h : blkC N_Search_looks (defScope s_Search_looks) scope own = true) : BlkOk N_Search_looks (defScope s_Search_looks) scope own := blkOk_by h
abbrev s_Search_sets : Stmt := (clsBody (topS 42)).getD 6 (.Pass ⟨0, 0, 0, 0⟩)
abbrev N_Search_sets : List Str := ["self"]
theorem c_Search_sets : FnScope N_Search_sets ["self"] (defScope s_Search_sets) := ⟨rfl, rfl, rfl, by decide +kernel, rfl, by decide +kernel, by decide +kernel⟩
theorem b_Search_sets {scope : Scope} {own : List (Str × Nat)} (h : blkC N_Search_sets (defScope s_Search_sets) scope own = true) : BlkOk N_Search_sets (defScope s_Search_sets) scope own := blkOk_by h
abbrev s_Search_next_line : Stmt := (clsBody (topS 42)).getD 7 (.Pass ⟨0, 0, 0, 0⟩)
abbrev N_Search_next_line : List Str := ["self", "number", "_", "inputs", "parts", "sets", "loads", "line", "load"]
theorem c_Search_next_line : FnScope N_Search_next_line ["self", "number"] (defScope s_Search_next_line) := ⟨rfl, rfl, rfl, by decide +kernel, rfl, by decide +kernel, by decide +kernel⟩
theorem b_Search_next_line {scope : Scope} {own : List (Str × Nat)} (h : blkC N_Search_next_line (defScope s_Search_next_line) scope own = true) : BlkOk N_Search_next_line (defScope s_Search_next_line) scope own := blkOk_by h
abbrev s__law_cell : Stmt := topS 44
abbrev N__law_cell : List Str := ["_law_script", "_law_k"]
theorem c__law_cell : FnScope N__law_cell ["_law_script", "_law_k"] (defScope s__law_cell) := ⟨rfl, rfl, rfl, by decide +kernel, rfl, by decide +kernel, by decide +kernel⟩
theorem b__law_cell {scope : Scope} {own : List (Str × Nat)} (h : blkC N__law_cell (defScope s__law_cell) scope own = true) : BlkOk N__law_cell (defScope s__law_cell) scope own := blkOk_by h
abbrev s__law_mixed : Stmt := topS 45
abbrev N__law_mixed : List Str := ["_law_script", "_law_k"]
theorem c__law_mixed : FnScope N__law_mixed ["_law_script", "_law_k"] (defScope s__law_mixed) := ⟨rfl, rfl, rfl, by decide +kernel, rfl, by decide +kernel, by decide +kernel⟩
theorem b__law_mixed {scope : Scope} {own : List (Str × Nat)} (h : blkC N__law_mixed (defScope s__law_mixed) scope own = true) : BlkOk N__law_mixed (defScope s__law_mixed) scope own := blkOk_by h
abbrev s__law_whole : Stmt := topS 46
abbrev N__law_whole : List Str := ["_law_thing"]
theorem c__law_whole : FnScope N__law_whole ["_law_thing"] (defScope s__law_whole) := ⟨rfl, rfl, rfl, by decide +kernel, rfl, by decide +kernel, by decide +kernel⟩
theorem b__law_whole {scope : Scope} {own : List (Str × Nat)} (h : blkC N__law_whole (defScope s__law_whole) scope own = true) : BlkOk N__law_whole (defScope s__law_whole) scope own := blkOk_by h
abbrev s__law_part : Stmt := topS 47
abbrev N__law_part : List Str := ["_law_cell_here", "_law_lines", "_law_word", "_law_taken", "_law_k", "_law_near"]
theorem c__law_part : FnScope N__law_part ["_law_cell_here", "_law_lines"] (defScope s__law_part) := ⟨rfl, rfl, rfl, by decide +kernel, rfl, by decide +kernel, by decide +kernel⟩
theorem b__law_part {scope : Scope} {own : List (Str × Nat)} (h : blkC N__law_part (defScope s__law_part) scope own = true) : BlkOk N__law_part (defScope s__law_part) scope own := blkOk_by h
abbrev s__law_work : Stmt := topS 48
abbrev N__law_work : List Str := ["_law_script", "_law_most", "_law_first", "_law_ring", "_law_inputs", "_law_many", "_law_parts", "_law_k", "$l"]
theorem c__law_work : FnScope N__law_work ["_law_script", "_law_most"] (defScope s__law_work) := ⟨rfl, rfl, rfl, by decide +kernel, rfl, by decide +kernel, by decide +kernel⟩
theorem b__law_work {scope : Scope} {own : List (Str × Nat)} (h : blkC N__law_work (defScope s__law_work) scope own = true) : BlkOk N__law_work (defScope s__law_work) scope own := blkOk_by h
abbrev s__law_due : Stmt := topS 49
abbrev N__law_due : List Str := ["_law_part_here", "_law_digits", "_law_ring", "_law_first"]
theorem c__law_due : FnScope N__law_due ["_law_part_here", "_law_digits", "_law_ring"] (defScope s__law_due) := ⟨rfl, rfl, rfl, by decide +kernel, rfl, by decide +kernel, by decide +kernel⟩
theorem b__law_due {scope : Scope} {own : List (Str × Nat)} (h : blkC N__law_due (defScope s__law_due) scope own = true) : BlkOk N__law_due (defScope s__law_due) scope own := blkOk_by h
abbrev s__law_run : Stmt := topS 50
abbrev N__law_run : List Str := ["_law_work_here", "_law_given_here", "_law_told", "_law_digits", "_law_k"]
theorem c__law_run : FnScope N__law_run ["_law_work_here", "_law_given_here", "_law_told"] (defScope s__law_run) := ⟨rfl, rfl, rfl, by decide +kernel, rfl, by decide +kernel, by decide +kernel⟩
theorem b__law_run {scope : Scope} {own : List (Str × Nat)} (h : blkC N__law_run (defScope s__law_run) scope own = true) : BlkOk N__law_run (defScope s__law_run) scope own := blkOk_by h
abbrev s__law_given : Stmt := topS 51
abbrev N__law_given : List Str := ["_law_work_here", "_law_cell_here", "_law_some", "_law_k"]
theorem c__law_given : FnScope N__law_given ["_law_work_here", "_law_cell_here"] (defScope s__law_given) := ⟨rfl, rfl, rfl, by decide +kernel, rfl, by decide +kernel, by decide +kernel⟩
theorem b__law_given {scope : Scope} {own : List (Str × Nat)} (h : blkC N__law_given (defScope s__law_given) scope own = true) : BlkOk N__law_given (defScope s__law_given) scope own := blkOk_by h
abbrev s__law_look : Stmt := topS 52
abbrev N__law_look : List Str := ["_law_work_here", "_law_cell_here", "_law_more", "_law_given_here", "_law_many", "_law_told", "_law_k", "_law_place", "_law_digits", "_law_seen", "_law_is_seen", "_law_digit"]
theorem c__law_look : FnScope N__law_look ["_law_work_here", "_law_cell_here", "_law_more"] (defScope s__law_look) := ⟨rfl, rfl, rfl, by decide +kernel, rfl, by decide +kernel, by decide +kernel⟩
theorem b__law_look {scope : Scope} {own : List (Str × Nat)} (h : blkC N__law_look (defScope s__law_look) scope own = true) : BlkOk N__law_look (defScope s__law_look) scope own := blkOk_by h
abbrev s__law_looks : Stmt := topS 53
abbrev N__law_looks : List Str := ["_law_script", "_law_work_here", "_law_first", "_law_most", "_law_found", "_law_k", "_law_cell_here", "_law_more"]
theorem c__law_looks : FnScope N__law_looks ["_law_script", "_law_work_here", "_law_first", "_law_most"] (defScope s__law_looks) := ⟨rfl, rfl, rfl, by decide +kernel, rfl, by decide +kernel, by decide +kernel⟩
theorem b__law_looks {scope : Scope} {own : List (Str × Nat)} (h : blkC N__law_looks (defScope s__law_looks) scope own = true) : BlkOk N__law_looks (defScope s__law_looks) scope own := blkOk_by h
abbrev s__law_all : Stmt := topS 54
abbrev N__law_all : List Str := ["_law_work_here", "_law_given_here", "_law_seen", "_law_broken", "_law_rows", "_law_k", "_law_line", "_law_more", "_law_row", "_law_digits", "_law_digit"]
theorem c__law_all : FnScope N__law_all ["_law_work_here", "_law_given_here", "_law_seen", "_law_broken"] (defScope s__law_all) := ⟨rfl, rfl, rfl, by decide +kernel, rfl, by decide +kernel, by decide +kernel⟩
theorem b__law_all {scope : Scope} {own : List (Str × Nat)} (h : blkC N__law_all (defScope s__law_all) scope own = true) : BlkOk N__law_all (defScope s__law_all) scope own := blkOk_by h
abbrev s__law_odd_looks : Stmt := topS 55
abbrev N__law_odd_looks : List Str := ["_law_script", "_law_work_here", "_law_found", "_law_last", "_law_k", "_law_given_here", "_law_digit"]
theorem c__law_odd_looks : FnScope N__law_odd_looks ["_law_script", "_law_work_here"] (defScope s__law_odd_looks) := ⟨rfl, rfl, rfl, by decide +kernel, rfl, by decide +kernel, by decide +kernel⟩
theorem b__law_odd_looks {scope : Scope} {own : List (Str × Nat)} (h : blkC N__law_odd_looks (defScope s__law_odd_looks) scope own = true) : BlkOk N__law_odd_looks (defScope s__law_odd_looks) scope own := blkOk_by h
abbrev s__law_load : Stmt := topS 56
abbrev N__law_load : List Str := ["_law_work_here", "_law_sets", "_law_look_here", "_law_line", "_law_many", "_law_one", "_law_rows", "_law_digit", "_law_row"]
theorem c__law_load : FnScope N__law_load ["_law_work_here", "_law_sets", "_law_look_here", "_law_line"] (defScope s__law_load) := ⟨rfl, rfl, rfl, by decide +kernel, rfl, by decide +kernel, by decide +kernel⟩
theorem b__law_load {scope : Scope} {own : List (Str × Nat)} (h : blkC N__law_load (defScope s__law_load) scope own = true) : BlkOk N__law_load (defScope s__law_load) scope own := blkOk_by h
abbrev s__law_next : Stmt := topS 57
abbrev N__law_next : List Str := ["_law_work_here", "_law_sets", "_law_look_here", "_law_loads", "_law_k"]
theorem c__law_next : FnScope N__law_next ["_law_work_here", "_law_sets", "_law_look_here"] (defScope s__law_next) := ⟨rfl, rfl, rfl, by decide +kernel, rfl, by decide +kernel, by decide +kernel⟩
theorem b__law_next {scope : Scope} {own : List (Str × Nat)} (h : blkC N__law_next (defScope s__law_next) scope own = true) : BlkOk N__law_next (defScope s__law_next) scope own := blkOk_by h
abbrev s__law_all_good : Stmt := topS 58
abbrev N__law_all_good : List Str := ["_law_search", "_law_work_here", "_law_sets", "_law_number", "_law_look_here", "_law_found"]
theorem c__law_all_good : FnScope N__law_all_good ["_law_search", "_law_work_here"] (defScope s__law_all_good) := ⟨rfl, rfl, rfl, by decide +kernel, rfl, by decide +kernel, by decide +kernel⟩
theorem b__law_all_good {scope : Scope} {own : List (Str × Nat)} (h : blkC N__law_all_good (defScope s__law_all_good) scope own = true) : BlkOk N__law_all_good (defScope s__law_all_good) scope own := blkOk_by h
abbrev s_law : Stmt := topS 59
abbrev N_law : List Str := ["_law_script", "_law_work_here", "_law_k", "_law_search", "_law_given_here", "_law_seen", "_law_many", "_law_cell_here", "_law_line", "$l", "$w"]
theorem c_law : FnScope N_law ["_law_script"] (defScope s_law) := ⟨rfl, rfl, rfl, by decide +kernel, rfl, by decide +kernel, by decide +kernel⟩
theorem b_law {scope : Scope} {own : List (Str × Nat)} (h : blkC N_law (defScope s_law) scope own = true) : BlkOk N_law (defScope s_law) scope own := blkOk_by h
section
variable {P : Program} {w : World} {K : PySem.W.Frag} {mg : Str → Option Value} {base : Heap} [Lam]
def R__law_cell (ds : List PD) (d : PD) : Prop := ∃ (ns : List Int) (k : Nat), ds = [scr ns, nD k] ∧ k ≤ 1000 ∧ d = .int (cellI ns k)
theorem f__law_cell {f : Addr} {fd : FuncData} {k : Nat} (F : FnP K "_law_cell" s__law_cell f fd) : FnOk P w K mg base CX0 (k + 1) f fd ["_law_script", "_law_k"] (spF K R__law_cell .c) := by
  refine fn_mk F c__law_cell _ _ (fun ds d h => by obtain ⟨ns, k, rfl, _⟩ := h; rfl) fun cdv A outer s H E hr ds d h => ?_
  obtain ⟨ns, k, rfl, hk, rfl⟩ := h
  refine dss_one (ds_ret (de_ixL (de_cat (de_slS (de_v 0) (do_some (de_v 1)) (do_some (de_add (de_v 1) de_int))) (de_lst (da_c de_int da_nil) (by decide)) ?_).ke de_int (cell_at ns k)) rfl)
  exact cell_len ns k
def R__law_mixed (ds : List PD) (d : PD) : Prop := ∃ (ns : List Int) (k : Nat), ds = [scr ns, nD k] ∧ k ≤ 1000 ∧ d = nD (mix ns k)
theorem f__law_mixed {f : Addr} {fd : FuncData} {k : Nat} (F : FnP K "_law_mixed" s__law_mixed f fd) (Gc : Dn P w K mg base k "_law_cell" R__law_cell .c) : FnOk P w K mg base CX0 (k + 1) f fd ["_law_script", "_law_k"] (spF K R__law_mixed .c) := by
  refine fn_mk F c__law_mixed _ _ (fun ds d h => by obtain ⟨ns, k, rfl, _⟩ := h; rfl) fun cdv A outer s H E hr ds d h => ?_
  obtain ⟨ns, k, rfl, hk, rfl⟩ := h
  exact dss_one (ds_ret (de_mod (de_mul (de_add (de_call Gc hr (da_c (de_v 0) (da_c (de_v 1) da_nil)) ⟨ns, k, rfl, hk, rfl⟩) (de_mul de_int (de_v 1) (.inl ⟨by decide, by decide⟩))) de_int (.inr ⟨by decide, by decide⟩)) de_int (by decide)) (mix_nD ns k))
def R__law_part (ds : List PD) (d : PD) : Prop := ∃ cell lines : Nat, ds = [nD cell, nD lines] ∧ 1 ≤ lines ∧ d = ptD (mkPt cell lines)
def cntN (cell : Nat) : Nat := [2, 2, 3, 1].getD (cell % 4) 1
def wrdN (cell : Nat) : Str := (["sum", "stop", "pick", "not"] : List Str).getD (cell % 4) "not"
theorem lp_word (cell : Nat) : atI [PyData.str "sum", PyData.str "stop", PyData.str "pick", PyData.str "not"] ((cell % 4 : Nat) : Int) = some (.str (wrdN cell)) := by
  unfold wrdN
  have h : cell % 4 < 4 := Nat.mod_lt _ (by decide)
  match e : cell % 4, h with
  | 0, _ => rfl
  | 1, _ => rfl
  | 2, _ => rfl
  | 3, _ => rfl
theorem lp_takes (cell : Nat) : valD [(.inr "sum", .int 2), (.inr "stop", .int 2), (.inr "pick", .int 3), (.inr "not", .int 1)] (.inr (wrdN cell)) = some (nD (cntN cell)) := by
  unfold wrdN cntN
  have h : cell % 4 < 4 := Nat.mod_lt _ (by decide)
  match e : cell % 4, h with
  | 0, _ => rfl
  | 1, _ => rfl
  | 2, _ => rfl
  | 3, _ => rfl
theorem lp_end (cell lines : Nat) : PyData.tuple ([PyData.str (wrdN cell)] ++ (List.range (cntN cell)).map fun k => nD (takeN cell lines k)) = ptD (mkPt cell lines) := by
  unfold wrdN cntN mkPt
  have h : cell % 4 < 4 := Nat.mod_lt _ (by decide)
  match e : cell % 4, h with
  | 0, _ => rfl
  | 1, _ => rfl
  | 2, _ => rfl
  | 3, _ => rfl
theorem cntN_le (cell : Nat) : cntN cell ≤ 3 := by
  unfold cntN
  have h : cell % 4 < 4 := Nat.mod_lt _ (by decide)
  match e : cell % 4, h with
  | 0, _ => decide
  | 1, _ => decide
  | 2, _ => decide
  | 3, _ => decide
theorem lp_div (k : Nat) (h : k < 3) : atI [PyData.int 1, PyData.int 7, PyData.int 49] (k : Int) = some (nD ([1, 7, 49].getD k 1)) ∧ 0 < [1, 7, 49].getD k 1 ∧ [1, 7, 49].getD k 1 < 1073741824 := by
  match k, h with
  | 0, _ => exact ⟨rfl, by decide, by decide⟩
  | 1, _ => exact ⟨rfl, by decide, by decide⟩
  | 2, _ => exact ⟨rfl, by decide, by decide⟩
def lpE (cell lines k : Nat) : En := [some (.v (nD cell)), some (.v (nD lines)), some (.v (.str (wrdN cell))), some (.o (.list ((List.range k).map fun j => nD (takeN cell lines j)))), none, none]
theorem f__law_part {f : Addr} {fd : FuncData} {k : Nat} (F : FnP K "_law_part" s__law_part f fd) (mr : mg "range" = none) (mt : mg "tuple" = none) (mm : mg "min" = none) : FnOk P w K mg base CX0 (k + 1) f fd (N__law_part.take 2) (spF K R__law_part .c) := by
  refine fn_mk F c__law_part _ _ (fun ds d h => by obtain ⟨c, l, rfl, _⟩ := h; rfl) fun cdv A outer s H E hr ds d h => ?_
  obtain ⟨cell, lines, rfl, hl, rfl⟩ := h
  have hc := cntN_le cell
  refine dss_cons _ (ds_set 2 (de_ixL (de_lst (da_c de_str (da_c de_str (da_c de_str (da_c de_str da_nil)))) (by decide)).ke ((de_mod (de_v 0) de_int (by decide)).is rfl) (lp_word cell)) rfl c__law_part.nd) ?_
  refine dss_cons _ (ds_setO 3 (de_lst da_nil (by decide)) rfl c__law_part.nd) ?_
  refine dss_cons (lpE cell lines (cntN cell)) (ds_for (List.range (cntN cell)) nD (lpE cell lines) ?_ ?_ ?_ ?_) ?_
  · refine di_rangeN (k := .c) (n := cntN cell) mr ?_ (by omega)
    refine de_dget (kb := .c) hr (kvs := [(.inr "sum", .int 2), (.inr "stop", .int 2), (.inr "pick", .int 3), (.inr "not", .int 1)]) (y := .inr (wrdN cell)) ?_ ?_ (lp_takes cell)
    · refine DE.ke (k := .o) ?_
      refine de_disp ?_ (by decide +kernel) (by decide)
      exact (dps_cons (y := .inr "sum") de_str de_int (dps_cons (y := .inr "stop") de_str de_int (dps_cons (y := .inr "pick") de_str de_int (dps_cons (y := .inr "not") de_str de_int dps_nil))))
    · exact de_v 2
  · exact ⟨rfl, rfl, rfl, rfl, trivial⟩
  · intro i x hx
    have hi : i < cntN cell := by have := (List.getElem?_eq_some_iff.mp hx).1; rwa [List.length_range] at this
    rw [List.getElem?_range hi] at hx
    cases hx
    obtain ⟨q1, q2, q3⟩ := lp_div i (by omega)
    refine ⟨_, _, dg_name 4 c__law_part.nd, ?_⟩
    refine dss_cons _ (ds_set 5 (d := nD (cell / 4 / [1, 7, 49].getD i 1)) ((de_div (de_div (de_v 0) de_int ⟨by decide, by decide⟩) (de_ixL (de_lst (da_c de_int (da_c de_int (da_c de_int da_nil))) (by decide)).ke (de_v 4) q1) ⟨by omega, by omega⟩).is rfl) rfl c__law_part.nd) ?_
    have fin : Lee (lpE cell lines (i + 1)) [some (.v (nD cell)), some (.v (nD lines)), some (.v (.str (wrdN cell))), some (.o (.list (((List.range i).map fun j => nD (takeN cell lines j)) ++ [nD (takeN cell lines i)]))), some (.v (nD i)), some (.v (nD (cell / 4 / [1, 7, 49].getD i 1)))] := by
      refine ⟨rfl, rfl, rfl, ?_, trivial⟩
      rw [List.range_succ, List.map_append]
      rfl
    refine dss_one (ds_if (dt_eqI (de_mod (de_v 5) de_int (by decide)) de_int) (fun h => ?_) (fun h => ?_))
    · have h0 : cell / 4 / [1, 7, 49].getD i 1 % 2 = 0 := Int.ofNat.inj (of_decide_eq_true h)
      refine dss_one (ds_append 3 rfl (d := nD (takeN cell lines i)) ((de_sub (de_sub (de_v 1) de_int) (de_mod (de_div (de_v 5) de_int ⟨by decide, by decide⟩) (de_min2 mm rfl (de_v 1) de_int) ?_)).is ?_) ?_ fin)
      · split <;> omega
      · unfold takeN
        rw [if_pos h0]
        have hmin : (if (3 : Int) < (lines : Int) then (3 : Int) else (lines : Int)) = ((min lines 3 : Nat) : Int) := by split <;> omega
        rw [hmin]
        have e : ((cell / 4 / [1, 7, 49].getD i 1 : Nat) : Int) / 2 % ((min lines 3 : Nat) : Int) = ((cell / 4 / [1, 7, 49].getD i 1 / 2 % min lines 3 : Nat) : Int) := rfl
        rw [e]
        have hb : cell / 4 / [1, 7, 49].getD i 1 / 2 % min lines 3 < min lines 3 := Nat.mod_lt _ (by omega)
        unfold nD
        congr 1
        omega
      · rw [List.length_map, List.length_range]; omega
    · have h0 : ¬ cell / 4 / [1, 7, 49].getD i 1 % 2 = 0 := fun z => of_decide_eq_false h (congrArg Int.ofNat z)
      refine dss_one (ds_append 3 rfl (d := nD (takeN cell lines i)) ((de_mod (de_div (de_v 5) de_int ⟨by decide, by decide⟩) (de_v 1) (by omega)).is ?_) ?_ fin)
      · unfold takeN
        rw [if_neg h0]
        rfl
      · rw [List.length_map, List.length_range]; omega
  · show lpE cell lines (List.range (cntN cell)).length = _
    rw [List.length_range]
  refine dss_one (ds_ret (de_tupL mt (de_cat (de_lst (da_c (de_v 2) da_nil) (by simp)) (de_vo 3) ?_).ke) (lp_end cell lines))
  rw [List.length_map, List.length_range]
  show 1 + cntN cell ≤ 100000
  omega
def R__law_workG (ds : List PD) (dl : Addr → PD) (ls : List PD) : Prop := ∃ (ns : List Int) (most : Nat), ds = [scr ns, nD most] ∧ 1 ≤ most ∧ most ≤ 100 ∧ dl = (fun l => .tuple [nD (ringOf (mix ns 0)), nD (inputsOf (mix ns 0)), adD l]) ∧ ls = (workOf ns most).parts.map ptD
theorem lw_ring (f : Nat) : atI [PyData.int 2, PyData.int 2, PyData.int 3, PyData.int 2, PyData.int 3, PyData.int 4, PyData.int 5, PyData.int 2] ((f % 8 : Nat) : Int) = some (nD (ringOf f)) := by
  unfold ringOf
  have h : f % 8 < 8 := Nat.mod_lt _ (by decide)
  match e : f % 8, h with
  | 0, _ => rfl
  | 1, _ => rfl
  | 2, _ => rfl
  | 3, _ => rfl
  | 4, _ => rfl
  | 5, _ => rfl
  | 6, _ => rfl
  | 7, _ => rfl
def lwE (ns : List Int) (most i m : Nat) : En := [some (.v (scr ns)), some (.v (nD most)), some (.v (nD (mix ns 0))), some (.v (nD (ringOf (mix ns 0)))), some (.v (nD i)), some (.v (nD m)), none, none, none]
theorem fG__law_workG {f : Addr} {fd : FuncData} {k : Nat} (F : FnP K "_law_work" s__law_work f fd) (Gm : Dn P w K mg base k "_law_mixed" R__law_mixed .c) (Gp : Dn P w K mg base k "_law_part" R__law_part .c) (mr : mg "range" = none) (mm : mg "min" = none) : FnOk P w K mg base CX0 (k + 1) f fd (N__law_work.take 2) (spG K R__law_workG) := by
  refine fn_mkG 8 F c__law_work _ (fun ds dl ls h => by obtain ⟨ns, m, rfl, _⟩ := h; rfl) fun cdv A outer s H E hr ds dl ls h => ?_
  obtain ⟨ns, most, rfl, h1, h100, rfl, rfl⟩ := h
  have hm := manyOf_b ns h1
  have hi := inputsOf_b (mix ns 0)
  refine dss_cons _ (ds_set 2 (de_call Gm hr (da_c (de_v 0) (da_c de_int da_nil)) ⟨ns, 0, rfl, by decide, rfl⟩) rfl c__law_work.nd) ?_
  refine dss_cons _ (ds_set 3 (de_ixL (de_lst (da_c de_int (da_c de_int (da_c de_int (da_c de_int (da_c de_int (da_c de_int (da_c de_int (da_c de_int da_nil)))))))) (by decide)).ke ((de_mod (de_v 2) de_int (by decide)).is rfl) (lw_ring _)) rfl c__law_work.nd) ?_
  refine dss_cons _ (ds_set 4 (d := nD (1 + mix ns 0 / 8 % 3)) ((de_add de_int (de_mod (de_div (de_v 2) de_int ⟨by decide, by decide⟩) de_int (by decide))).is rfl) rfl c__law_work.nd) ?_
  refine dss_cons [some (.v (scr ns)), some (.v (nD most)), some (.v (nD (mix ns 0))), some (.v (nD (ringOf (mix ns 0)))), some (.v (nD (inputsOf (mix ns 0)))), none, none, none, none] (ds_if (dt_eqI (de_mod (de_div (de_v 2) de_int ⟨by decide, by decide⟩) de_int (by decide)) de_int) (fun h => ?_) (fun h => ?_)) ?_
  · have h0 : mix ns 0 / 24 % 8 = 1 := Int.ofNat.inj (of_decide_eq_true h)
    refine dss_one (ds_set 4 (d := nD (inputsOf (mix ns 0))) ((de_add de_int (de_mod (de_div (de_v 2) de_int ⟨by decide, by decide⟩) de_int (by decide))).is ?_) rfl c__law_work.nd)
    unfold inputsOf
    rw [if_pos h0]
    rfl
  · have h0 : ¬ mix ns 0 / 24 % 8 = 1 := fun z => of_decide_eq_false h (congrArg Int.ofNat z)
    refine dss_nil ?_
    unfold inputsOf
    rw [if_neg h0]
    rfl
  refine dss_cons _ (ds_set 5 (d := nD (1 + mix ns 1 % most)) ((de_add de_int (de_mod (de_call Gm hr (da_c (de_v 0) (da_c de_int da_nil)) ⟨ns, 1, rfl, by decide, rfl⟩) (de_v 1) (by omega))).is rfl) rfl c__law_work.nd) ?_
  refine dss_cons (lwE ns most (inputsOf (mix ns 0)) (manyOf ns most)) (ds_if (DW.dt (dw_and (dt_gt (de_v 3) de_int) (fun _ => dw_and1 (dt_lt (de_v 1) de_int)))) (fun h => ?_) (fun h => ?_)) ?_
  · rw [Bool.and_eq_true] at h
    have a1 : 3 < ringOf (mix ns 0) := by have := of_decide_eq_true h.1; omega
    have a2 : most < 8 := by have := of_decide_eq_true h.2; omega
    refine dss_one (ds_set 5 (d := nD (manyOf ns most)) ((de_min2 mm rfl (de_v 5) de_int).is ?_) rfl c__law_work.nd)
    have e : manyOf ns most = min (1 + mix ns 1 % most) 4 := by unfold manyOf; rw [if_pos ⟨a1, a2⟩]
    rw [e]
    unfold nD
    congr 1
    split <;> omega
  · rw [Bool.and_eq_false_iff] at h
    have a : ¬ (3 < ringOf (mix ns 0) ∧ most < 8) := fun z => by
      rcases h with h | h
      · have := of_decide_eq_false h; omega
      · have := of_decide_eq_false h; omega
    refine dss_nil ?_
    unfold lwE manyOf
    rw [if_neg a]
    rfl
  refine dss_cons _ (ds_setLc 6 (own := [(N__law_work.getD 7 "", 7)]) (dlc (List.range (manyOf ns most)) nD (fun j => ptD (mkPt (mix ns (2 + j)) (inputsOf (mix ns 0) + j))) (di_rangeN mr (de_v 5) (by omega)) (fun j hj => ⟨[7], _, by simp, fun _ _ _ _ _ => ⟨dg_name 7 c__law_work.nd, ?_⟩⟩) (by rw [List.length_range]; omega)) rfl c__law_work.nd (b__law_work (by decide +kernel))) ?_
  · have hj' := List.mem_range.mp hj
    exact de_call Gp hr (da_c (de_call Gm hr (da_c (de_v 0) (da_c ((de_add de_int (de_v 7)).is rfl) da_nil)) ⟨ns, 2 + j, rfl, by omega, rfl⟩) (da_c (de_add (de_v 4) (de_v 7)) da_nil)) ⟨mix ns (2 + j), inputsOf (mix ns 0) + j, rfl, by omega, rfl⟩
  refine DSs.expose 6 8 fun l => ?_
  refine dss_one (ds_ret (P := { nx := fun _ => False, rt := fun _ => True, re := fun z en => ∃ l', z = .tuple [nD (ringOf (mix ns 0)), nD (inputsOf (mix ns 0)), adD l'] ∧ en[8]? = some (some (.a l' (.list ((workOf ns most).parts.map ptD)))) }) (de_tup (da_c (de_v 3) (da_c (de_v 4) (da_c (de_v (d := adD l) 6) da_nil))) (by simp)) trivial ⟨l, rfl, ?_⟩)
  show some (some (Sl.a l (PyData.list _))) = some (some (Sl.a l (PyData.list _)))
  unfold workOf
  rw [List.map_map]
  rfl
def tupB (t : PD) (n : Int) : Bool := match t with
  | .tuple xs => decide ((xs.length : Int) = n)
  | _ => false
def R_is_tuple_of (ds : List PD) (d : PD) : Prop := ∃ (t : PD) (n : Int), ds = [t, .int n] ∧ (typN t).isSome = true ∧ d = .bool (tupB t n)
theorem f_is_tuple_of {f : Addr} {fd : FuncData} {k : Nat} (F : FnP K "is_tuple_of" s_is_tuple_of f fd) (mt : mg "type" = none) (mi : mg "tuple" = none) (ml : mg "len" = none) : FnOk P w K mg base CX0 (k + 1) f fd ["thing", "length"] (spF K R_is_tuple_of .c) := by
  refine fn_mk F c_is_tuple_of _ _ (fun ds d h => by obtain ⟨t, n, rfl, _⟩ := h; rfl) fun cdv A outer s H E hr ds d h => ?_
  obtain ⟨t, n, rfl, ht, rfl⟩ := h
  obtain ⟨tn, htn⟩ := Option.isSome_iff_exists.mp ht
  by_cases hi' : tn = "tuple"
  · obtain ⟨xs, rfl⟩ : ∃ xs, t = .tuple xs := by
      subst hi'
      cases t <;> simp [typN] at htn
      exact ⟨_, rfl⟩
    refine dss_one (ds_ret (de_and (c1 := true) (c2 := decide ((xs.length : Int) = n)) ((de_tyIs mt mi (de_v 0) htn PySem.TypeEq.meta_tuple boot_tuple).is (by rw [hi', decide_eq_true rfl])) (fun _ => de_one (de_eqI (de_lenT ml (de_v 0).ke) (de_v 1)))) ?_)
    rfl
  · refine dss_one (ds_ret (de_andF ((de_tyIs mt mi (de_v 0) htn PySem.TypeEq.meta_tuple boot_tuple).is (by rw [decide_eq_false hi']))) ?_)
    show PyData.bool false = PyData.bool (tupB t n)
    have : tupB t n = false := by
      cases t <;> first | rfl | (simp [typN] at htn; exact absurd htn.symm hi')
    rw [this]
def R_is_whole (ds : List PD) (d : PD) : Prop := ∃ (t : PD) (lo hi : Int), ds = [t, .int lo, .int hi] ∧ (typN t).isSome = true ∧ d = .bool (wholeIn t lo hi)
theorem f_is_whole {f : Addr} {fd : FuncData} {k : Nat} (F : FnP K "is_whole" s_is_whole f fd) (mt : mg "type" = none) (mi : mg "int" = none) : FnOk P w K mg base CX0 (k + 1) f fd ["thing", "low", "high"] (spF K R_is_whole .c) := by
  refine fn_mk F c_is_whole _ _ (fun ds d h => by obtain ⟨t, lo, hi, rfl, _⟩ := h; rfl) fun cdv A outer s H E hr ds d h => ?_
  obtain ⟨t, lo, hi, rfl, ht, rfl⟩ := h
  obtain ⟨tn, htn⟩ := Option.isSome_iff_exists.mp ht
  by_cases hi' : tn = "int"
  · obtain ⟨n, rfl⟩ : ∃ n, t = .int n := by
      subst hi'
      cases t <;> simp [typN] at htn
      exact ⟨_, rfl⟩
    refine dss_one (ds_ret (de_and (c1 := true) (c2 := decide (lo ≤ n) && decide (n ≤ hi)) ((de_tyIs mt mi (de_v 0) htn PySem.TypeEq.meta_int boot_int).is (by rw [hi', decide_eq_true rfl])) (fun _ => de_one (de_chainLe (de_v 1) (de_v 0) (de_v 2)))) ?_)
    rfl
  · refine dss_one (ds_ret (de_andF ((de_tyIs mt mi (de_v 0) htn PySem.TypeEq.meta_int boot_int).is (by rw [decide_eq_false hi']))) ?_)
    show PyData.bool false = PyData.bool (wholeIn t lo hi)
    have : wholeIn t lo hi = false := by
      cases t <;> first | rfl | (simp [typN] at htn; exact absurd htn.symm hi')
    rw [this]
def R_is_part (ds : List PD) (d : PD) : Prop := ∃ (t : PD) (line : Int), ds = [t, .int line] ∧ partOk t = true ∧ (∀ xs, t = .tuple xs → xs.length ≤ 1000) ∧ d = .bool (partB t line)
theorem partB_no {t : PD} {line : Int} (h : ∀ z xs, t ≠ .tuple (.str z :: xs)) : partB t line = false := by
  unfold partB
  split
  · exact absurd rfl (h _ _)
  · rfl
theorem f_is_part {f : Addr} {fd : FuncData} {k : Nat} (F : FnP K "is_part" s_is_part f fd) (G : Dn P w K mg base k "is_whole" R_is_whole .c) (TK : TakesK K w mg) (mt : mg "type" = none) (mu : mg "tuple" = none) (ms : mg "str" = none) (ml : mg "len" = none) (ma : mg "all" = none) : FnOk P w K mg base CX0 (k + 1) f fd ["thing", "line"] (spF K R_is_part .c) := by
  refine fn_mk F c_is_part _ _ (fun ds d h => by obtain ⟨t, l, rfl, _⟩ := h; rfl) fun cdv A outer s H E hr ds d h => ?_
  obtain ⟨t, line, rfl, hok, hlen, rfl⟩ := h
  by_cases htu : ∃ xs, t = .tuple xs
  · obtain ⟨ts, rfl⟩ := htu
    have hl := hlen ts rfl
    cases ts with
    | nil =>
      refine dss_consN (fun _ => False) (ds_if (c := true) (DW.dt (dw_or (c1 := false) (c2 := true) ((dt_tyIsNot hr mt mu (de_v (d := .tuple []) 0) rfl PySem.TypeEq.meta_tuple boot_tuple).is rfl) (fun _ => dw_or1 ((dt_eqI (de_lenT ml (de_v (d := .tuple []) 0).ke) de_int).is rfl)))) (fun _ => dss_one (ds_ret de_bl ?_)) (fun z => by cases z)) (fun _ h => h.elim)
      rw [partB_no (fun _ _ z => by cases z)]
    | cons x xs =>
      refine dss_cons _ (ds_if (c := false) (DW.dt (dw_or (c1 := false) (c2 := false) ((dt_tyIsNot hr mt mu (de_v (d := .tuple (x :: xs)) 0) rfl PySem.TypeEq.meta_tuple boot_tuple).is rfl) (fun _ => dw_or1 ((dt_eqI (de_lenT ml (de_v (d := .tuple (x :: xs)) 0).ke) de_int).is (by rw [List.length_cons]; exact decide_eq_false (by omega)))))) (fun z => by cases z) (fun _ => dss_nil rfl)) ?_
      refine dss_cons _ (ds_set 2 (d := x) (de_ixT (de_v (d := .tuple (x :: xs)) 0).ke de_int (atI_nat (j := 0) rfl)) rfl c_is_part.nd) ?_
      by_cases hx : ∃ z, x = .str z
      · obtain ⟨z, rfl⟩ := hx
        have hok2 : ∀ x ∈ xs, (typN x).isSome = true := by
          have := hok
          simp only [partOk, List.all_eq_true] at this
          exact this
        cases e : takesN z with
        | none =>
          refine dss_consN (fun _ => False) (ds_if (c := true) (DW.dt (dw_or (c1 := false) (c2 := true) ((dt_tyIsNot hr mt ms (de_v (d := .str z) 2) rfl PySem.TypeEq.meta_str boot_str).is rfl) (fun _ => dw_or1 ((dt_notInK TK (de_v (d := .str z) 2)).is (by rw [e]; rfl))))) (fun _ => dss_one (ds_ret de_bl ?_)) (fun z => by cases z)) (fun _ h => h.elim)
          simp only [partB, e]
        | some kk =>
          refine dss_cons _ (ds_if (c := false) (DW.dt (dw_or (c1 := false) (c2 := false) ((dt_tyIsNot hr mt ms (de_v (d := .str z) 2) rfl PySem.TypeEq.meta_str boot_str).is rfl) (fun _ => dw_or1 ((dt_notInK TK (de_v (d := .str z) 2)).is (by rw [e]; rfl))))) (fun z => by cases z) (fun _ => dss_nil rfl)) ?_
          refine dss_one (ds_ret ((de_and (c1 := decide (xs.length = kk)) (c2 := xs.all fun x => wholeIn x 0 (line - 1)) ((de_eqI (de_lenT ml (de_v (d := .tuple (.str z :: xs)) 0).ke) (de_add (de_takes TK e (de_v (d := .str z) 2)) de_int)).is ?_) (fun _ => de_one ((de_all (bs := xs.map fun x => wholeIn x 0 (line - 1)) ma rfl (de_lc (own := [(N_is_part.getD 3 "", 3)]) (rs := (xs.map fun x => wholeIn x 0 (line - 1)).map .bool) ?_ c_is_part.nd (b_is_part (by decide +kernel))).ke).is ?_))).is ?_) rfl)
          · congr 1
            apply decide_eq_decide.mpr
            rw [List.length_cons]
            omega
          · rw [List.map_map]
            exact dlc xs (fun x => x) _ ((di_tup (de_slT (de_v (d := .tuple (.str z :: xs)) 0) (do_some de_int) do_none)).is (by rw [cut_tail, List.map_id'])) (fun x hm => ⟨[3], _, by simp, fun _ _ _ _ _ => ⟨dg_name 3 c_is_part.nd, de_call G hr (da_c (de_v (d := x) 3) (da_c de_int (da_c (de_sub (de_v 1) de_int) da_nil))) ⟨x, 0, line - 1, rfl, hok2 x hm, rfl⟩⟩⟩) (by rw [List.length_cons] at hl; omega)
          · rw [List.all_map]
            rfl
          · simp only [partB, e]
      · have hty : (typN x).isSome = true := by
          have := hok
          unfold partOk at this
          split at this
          · rename_i z' xs' q
            injection q with q
            injection q with q _
            exact absurd ⟨_, q⟩ hx
          · rename_i y ys _ q
            injection q with q
            injection q with q _
            rw [q]; exact this
          · rename_i q1 q2
            exact absurd rfl (q2 _ _)
        obtain ⟨tn, htn⟩ := Option.isSome_iff_exists.mp hty
        have hne : tn ≠ "str" := fun z => by
          subst z
          cases x <;> simp [typN] at htn
          exact hx ⟨_, rfl⟩
        refine dss_consN (fun _ => False) (ds_if (c := true) (DW.dt (dw_orT ((dt_tyIsNot hr mt ms (de_v (d := x) 2) htn PySem.TypeEq.meta_str boot_str).is (by rw [decide_eq_false hne]; rfl)))) (fun _ => dss_one (ds_ret de_bl ?_)) (fun z => by cases z)) (fun _ h => h.elim)
        rw [partB_no (fun z ys q => by injection q with q; injection q with q _; exact hx ⟨z, q⟩)]
  · have hty : (typN t).isSome = true := by
      have := hok
      unfold partOk at this
      split at this
      · exact absurd ⟨_, rfl⟩ htu
      · exact absurd ⟨_, rfl⟩ htu
      · exact this
    obtain ⟨tn, htn⟩ := Option.isSome_iff_exists.mp hty
    have hne : tn ≠ "tuple" := fun z => by
      subst z
      cases t <;> simp [typN] at htn
      exact htu ⟨_, rfl⟩
    refine dss_consN (fun _ => False) (ds_if (c := true) (DW.dt (dw_orT ((dt_tyIsNot hr mt mu (de_v (d := t) 0) htn PySem.TypeEq.meta_tuple boot_tuple).is (by rw [decide_eq_false hne]; rfl)))) (fun _ => dss_one (ds_ret de_bl ?_)) (fun z => by cases z)) (fun _ h => h.elim)
    rw [partB_no (fun z ys q => htu ⟨_, q⟩)]
def R_is_work (ds : List PD) (d : PD) : Prop := ∃ t : PD, ds = [t] ∧ workOk t = true ∧ d = .bool (workB t)
theorem workB_no {t : PD} (h : ∀ r i ps, t ≠ .tuple [.int r, .int i, .list ps]) : workB t = false := by
  unfold workB
  split
  · exact absurd rfl (h _ _ _)
  · rfl
theorem wholeIn_int {t : PD} {lo hi : Int} (h : wholeIn t lo hi = true) : ∃ n, t = .int n ∧ lo ≤ n ∧ n ≤ hi := by
  cases t <;> simp [wholeIn] at h
  exact ⟨_, rfl, h⟩
theorem f_is_work {f : Addr} {fd : FuncData} {k : Nat} (F : FnP K "is_work" s_is_work f fd) (G1 : Dn P w K mg base k "is_tuple_of" R_is_tuple_of .c) (G2 : Dn P w K mg base k "is_whole" R_is_whole .c) (G3 : Dn P w K mg base k "is_part" R_is_part .c) (mt : mg "type" = none) (mli : mg "list" = none) (ml : mg "len" = none) (ma : mg "all" = none) (me : mg "enumerate" = none) : FnOk P w K mg base CX0 (k + 1) f fd ["thing"] (spF K R_is_work .c) := by
  refine fn_mk F c_is_work _ _ (fun ds d h => by obtain ⟨t, rfl, _⟩ := h; rfl) fun cdv A outer s H E hr ds d h => ?_
  obtain ⟨t, rfl, hok, rfl⟩ := h
  have ht : (typN t).isSome = true := by
    unfold workOk at hok
    split at hok
    · rfl
    · exact hok
  by_cases h3 : ∃ r i ps, t = .tuple [r, i, ps]
  · obtain ⟨r, i, ps, rfl⟩ := h3
    simp only [workOk, Bool.and_eq_true] at hok
    obtain ⟨hr1, hi1, hps⟩ := hok
    refine dss_cons _ (ds_if (c := false) ((dt_not (dt_val (de_call G1 hr (da_c (de_v (d := .tuple [r, i, ps]) 0) (da_c de_int da_nil)) ⟨_, 3, rfl, rfl, rfl⟩))).is rfl) (fun z => by cases z) (fun _ => dss_nil rfl)) ?_
    refine dss_cons _ (ds_asg (de_v (d := .tuple [r, i, ps]) 0) (dg_tup rfl (dgs_cons (dg_name 1 c_is_work.nd) (dgs_cons (dg_name 2 c_is_work.nd) (dgs_cons (dg_name 3 c_is_work.nd) dgs_nil)))) rfl) ?_
    by_cases hb : (wholeIn r 2 5 && wholeIn i 1 6) = true
    · rw [Bool.and_eq_true] at hb
      obtain ⟨rn, rfl, q1, q2⟩ := wholeIn_int hb.1
      obtain ⟨i_, rfl, q3, q4⟩ := wholeIn_int hb.2
      refine dss_cons _ (ds_if (c := false) (DW.dt (dw_or (c1 := false) (c2 := false) ((dt_not (dt_val (de_call G2 hr (da_c (de_v (d := .int rn) 1) (da_c de_int (da_c de_int da_nil))) ⟨_, 2, 5, rfl, rfl, rfl⟩))).is (by rw [hb.1]; rfl)) (fun _ => dw_or1 ((dt_not (dt_val (de_call G2 hr (da_c (de_v (d := .int i_) 2) (da_c de_int (da_c de_int da_nil))) ⟨_, 1, 6, rfl, rfl, rfl⟩))).is (by rw [hb.2]; rfl))))) (fun z => by cases z) (fun _ => dss_nil rfl)) ?_
      by_cases hl : ∃ l, ps = .list l
      · obtain ⟨l, rfl⟩ := hl
        simp only [Bool.and_eq_true, decide_eq_true_eq, List.all_eq_true] at hps
        obtain ⟨hlen, hpo⟩ := hps
        refine dss_consN (fun z => z = [some (.v (.tuple [.int rn, .int i_, .list l])), some (.v (.int rn)), some (.v (.int i_)), some (.v (.list l)), none, none] ∧ (decide (1 ≤ l.length) && decide (l.length ≤ 10)) = true) (ds_if (c := !(decide (1 ≤ l.length) && decide (l.length ≤ 10))) ((DW.dt (dw_or (c1 := false) (c2 := !(decide (1 ≤ l.length) && decide (l.length ≤ 10))) ((dt_tyIsNot hr mt mli (de_v (d := .list l) 3) rfl PySem.TypeEq.meta_list boot_list).is rfl) (fun _ => dw_or1 ((dt_not (dt_chainLe de_int (de_lenL ml (de_v (d := .list l) 3).ke) de_int)).is ?_)))).is rfl) (fun hc => dss_one (ds_ret de_bl ?_)) (fun hc => dss_nil ⟨rfl, ?_⟩)) ?_
        · congr 1
          congr 1 <;> (apply decide_eq_decide.mpr; omega)
        · simp only [workB]
          have : (decide (1 ≤ l.length) && decide (l.length ≤ 10)) = false := by
            cases e9 : (decide (1 ≤ l.length) && decide (l.length ≤ 10)) with
            | true => rw [e9] at hc; cases hc
            | false => rfl
          rw [this]
          simp
        · cases e9 : (decide (1 ≤ l.length) && decide (l.length ≤ 10)) with
          | true => rfl
          | false => rw [e9] at hc; cases hc
        · rintro en' ⟨rfl, hc⟩
          refine dss_one (ds_ret ((de_all (bs := l.zipIdx.map fun q => partB q.1 (i_ + (q.2 : Nat))) ma rfl (de_lc (own := [(N_is_work.getD 4 "", 4), (N_is_work.getD 5 "", 5)]) (rs := (l.zipIdx.map fun q => partB q.1 (i_ + (q.2 : Nat))).map .bool) ?_ c_is_work.nd (b_is_work (by decide +kernel))).ke).is ?_) rfl)
          · rw [List.map_map]
            refine dlc l.zipIdx (fun p => .tuple [.int (p.2 : Nat), p.1]) _ (di_enum me (de_v (d := .list l) 3)) (fun q hm => ⟨_, _, (by simp), fun _ _ _ _ _ => ⟨dg_tup rfl (dgs_cons (dg_name 4 c_is_work.nd) (dgs_cons (dg_name 5 c_is_work.nd) dgs_nil)), de_call G3 hr (da_c (de_v (d := q.1) 5) (da_c (de_add (de_v (d := .int i_) 2) (de_v (d := .int (q.2 : Nat)) 4)) da_nil)) ⟨q.1, i_ + (q.2 : Nat), rfl, ?_, ?_, rfl⟩⟩⟩) (by rw [List.length_zipIdx]; omega)
            · exact (hpo q.1 (List.fst_mem_of_mem_zipIdx hm)).1
            · intro xs e
              have := (hpo q.1 (List.fst_mem_of_mem_zipIdx hm)).2
              rw [e] at this
              exact of_decide_eq_true this
          · rw [List.all_map]
            simp only [workB]
            rw [hc]
            simp [q1, q2, q3, q4]
      · refine dss_consN (fun _ => False) (ds_if (c := true) (DW.dt (dw_orT ?_)) (fun _ => dss_one (ds_ret de_bl ?_)) (fun z => by cases z)) (fun _ h => h.elim)
        · by_cases hd : ps = .dict []
          · subst hd
            exact dt_tyIsNot0 hr mt mli (de_v (d := .dict []) 3) (by decide) PySem.TypeEq.meta_list boot_list
          · have hty : (typN ps).isSome = true := by
              cases ps <;> first | rfl | skip
              rename_i l
              cases l with
              | nil => exact absurd rfl hd
              | cons a b => simp at hps
            obtain ⟨tn, htn⟩ := Option.isSome_iff_exists.mp hty
            have hne : tn ≠ "list" := fun z => by
              subst z
              cases ps <;> simp [typN] at htn
              exact hl ⟨_, rfl⟩
            exact (dt_tyIsNot hr mt mli (de_v (d := ps) 3) htn PySem.TypeEq.meta_list boot_list).is (by rw [decide_eq_false hne]; rfl)
        · rw [workB_no (fun a b c q => by injection q with q; injection q with _ q; injection q with _ q; injection q with q _; exact hl ⟨_, q⟩)]
    · have hb' : (!wholeIn r 2 5 || !wholeIn i 1 6) = true := by
        cases e1 : wholeIn r 2 5 <;> cases e2 : wholeIn i 1 6 <;> simp [e1, e2] at hb ⊢
      refine dss_consN (fun _ => False) (ds_if (c := true) ((DW.dt (dw_or (c1 := !wholeIn r 2 5) (c2 := !wholeIn i 1 6) (dt_not (dt_val (de_call G2 hr (da_c (de_v (d := r) 1) (da_c de_int (da_c de_int da_nil))) ⟨_, 2, 5, rfl, hr1, rfl⟩))) (fun _ => dw_or1 (dt_not (dt_val (de_call G2 hr (da_c (de_v (d := i) 2) (da_c de_int (da_c de_int da_nil))) ⟨_, 1, 6, rfl, hi1, rfl⟩)))))).is hb') (fun _ => dss_one (ds_ret de_bl ?_)) (fun z => by cases z)) (fun _ h => h.elim)
      unfold workB
      split
      · rename_i a b c q
        injection q with q
        injection q with q1 q
        injection q with q2 q
        subst q1 q2
        simp only [wholeIn] at hb
        cases e1 : (decide (2 ≤ a) && decide (a ≤ 5)) <;> cases e2 : (decide (1 ≤ b) && decide (b ≤ 6)) <;> simp [e1, e2] at hb ⊢
      · rfl
  · have hne : tupB t 3 = false := by
      unfold tupB
      split
      · rename_i xs
        refine decide_eq_false fun z => ?_
        match xs, z with
        | [a, b, c], _ => exact h3 ⟨a, b, c, rfl⟩
        | [], z => simp at z
        | [_], z => simp at z
        | [_, _], z => simp at z
        | _ :: _ :: _ :: _ :: _, z => simp at z; omega
      · rfl
    refine dss_consN (fun _ => False) (ds_if (c := true) ((dt_not (dt_val (de_call G1 hr (da_c (de_v (d := t) 0) (da_c de_int da_nil)) ⟨t, 3, rfl, ht, rfl⟩))).is (by rw [hne]; rfl)) (fun _ => dss_one (ds_ret de_bl ?_)) (fun z => by cases z)) (fun _ h => h.elim)
    rw [workB_no (fun a b c q => h3 ⟨_, _, _, q⟩)]
def R_need_work (ds : List PD) (d : PD) : Prop := ∃ t : PD, ds = [t] ∧ workOk t = true ∧ workB t = true ∧ d = .bool true
theorem f_need_work {f : Addr} {fd : FuncData} {k : Nat} (F : FnP K "need_work" s_need_work f fd) (G : Dn P w K mg base k "is_work" R_is_work .c) : FnOk P w K mg base CX0 (k + 1) f fd ["thing"] (spF K R_need_work .c) := by
  refine fn_mk F c_need_work _ _ (fun ds d h => by obtain ⟨t, rfl, _⟩ := h; rfl) fun cdv A outer s H E hr ds d h => ?_
  obtain ⟨t, rfl, ho, hb, rfl⟩ := h
  refine dss_cons _ (ds_if (c := false) ((dt_not (dt_val (de_call G hr (da_c (de_v 0) da_nil) ⟨t, rfl, ho, rfl⟩))).is (by rw [hb]; rfl)) (fun z => by cases z) (fun _ => dss_nil rfl)) ?_
  exact dss_one (ds_ret de_bl rfl)
theorem nD_tyA (ns : List Nat) : ((ns.map nD).all fun x => (typN x).isSome) = true := by
  rw [List.all_map, List.all_eq_true]
  exact fun _ _ => rfl
theorem wk_is {W : Wk} (hW : W.Ok) : workOk (wkD W) = true ∧ workB (wkD W) = true := by
  have h10 := hW.p10
  have h1 := hW.p1
  have hr2 := hW.r2
  have hr5 := hW.r5
  have hi1 := hW.i1
  have hi6 := hW.i6
  constructor
  · show ((typN (nD W.ring)).isSome && ((typN (nD W.inputs)).isSome && (decide ((W.parts.map ptD).length ≤ 1000) && (W.parts.map ptD).all fun p => partOk p && _))) = true
    rw [List.length_map, decide_eq_true (by omega), Bool.true_and]
    show List.all _ _ = true
    rw [List.all_eq_true]
    intro d hd
    obtain ⟨p, _, rfl⟩ := List.mem_map.mp hd
    show (List.all (p.lines.map nD) _ && decide ((PyData.str p.word :: p.lines.map nD).length ≤ 1000)) = true
    rw [nD_tyA, Bool.true_and]
    cases p <;> simp [Pt.lines]
  · have e : ((W.parts.map ptD).zipIdx.all fun q => partB q.1 ((W.inputs : Int) + (q.2 : Nat))) = true := by
      refine List.all_eq_true.mpr fun q hq => ?_
      obtain ⟨d, i⟩ := q
      rw [List.mem_zipIdx_iff_getElem?, List.getElem?_map] at hq
      cases hp : W.parts[i]? with
      | none => rw [hp] at hq; cases hq
      | some p =>
        rw [hp] at hq
        cases hq
        show (match takesN p.word with
          | some k => decide ((p.lines.map nD).length = k) && (p.lines.map nD).all fun x => wholeIn x 0 ((W.inputs : Int) + (i : Nat) - 1)
          | none => false) = true
        rw [(takes_p p).1]
        show (decide ((p.lines.map nD).length = p.lines.length) && _) = true
        rw [decide_eq_true (List.length_map _), Bool.true_and, List.all_eq_true]
        intro x hx
        obtain ⟨l, hl, rfl⟩ := List.mem_map.mp hx
        have := hW.lines i p hp l hl
        show (decide ((0 : Int) ≤ (l : Nat)) && decide ((l : Int) ≤ (W.inputs : Int) + (i : Nat) - 1)) = true
        rw [decide_eq_true (by omega), decide_eq_true (by omega)]
        rfl
    show ((decide ((2 : Int) ≤ (W.ring : Nat)) && decide ((W.ring : Int) ≤ 5)) && ((decide ((1 : Int) ≤ (W.inputs : Nat)) && decide ((W.inputs : Int) ≤ 6)) && ((decide (1 ≤ (W.parts.map ptD).length) && decide ((W.parts.map ptD).length ≤ 10)) && List.all _ _))) = true
    rw [e, List.length_map, decide_eq_true (by omega), decide_eq_true (by omega), decide_eq_true (by omega), decide_eq_true (by omega), decide_eq_true (by omega), decide_eq_true (by omega)]
    rfl
theorem fI_Search_init {f : Addr} {fd : FuncData} {k : Nat} {S : Addr} (F : FunD K "__init__" "Search.__init__" (defArgs s_Search_init) (defBody s_Search_init) (defScope s_Search_init) [] [] f fd) (SK : SeK K S) (Gn : Dn P w K mg base k "need_work" R_need_work .c) (ml : mg "list" = none) : FnOk P w K mg base CX0 (k + 1) f fd ["self", "work"] (spI K S) := by
  refine F.ok c_Search_init (fun vs H Q E h => ?_) (fun cdv A outer s H vs Q E hr h => ?_)
  · obtain ⟨Bo, H0, a, dx, vw, W, rfl, _⟩ := h
    rfl
  · obtain ⟨Bo, H0, a, dx, vw, W, rfl, rfl, na, nd, ne, sb, tb, r, hW, q⟩ := h
    refine ⟨fun D σ H' => wSs (cxOf CX0 P w K mg base N_Search_init "Search.__init__" (defScope s_Search_init) f cdv A outer s _ E).nox (defBody s_Search_init) D σ H', PSs.nox pss_w, ?_⟩
    have sH : DL.Same Bo (upd (upd H0 dx (.own a)) a (.ins S dx [])) := sb.trans ((same_new nd).trans (same_new ((upd_ne (fun z => ne z.symm)).trans na)))
    have tH : TbK (upd (upd H0 dx (.own a)) a (.ins S dx [])) := tb_new ((upd_ne (fun z => ne z.symm)).trans na) (tb_new nd tb)
    have f0 := fit_start (N := N_Search_init) sH tH (.cons (.adr a) (.one r))
    obtain ⟨w1, w2⟩ := wk_is hW
    refine wss_cons _ f0 (ds_expr (de_call Gn hr (da_c (de_v (d := wkD W) 1) da_nil) ⟨_, rfl, w1, w2, rfl⟩) rfl) fun σ1 Ho1 H1 f1 => ?_
    refine wss_cons _ f1 (ds_asg (de_v (d := wkD W) 1) (dg_tup rfl (dgs_cons (dg_name 2 c_Search_init.nd) (dgs_cons (dg_name 3 c_Search_init.nd) (dgs_cons (dg_name 4 c_Search_init.nd) dgs_nil)))) rfl) fun σ2 Ho2 H2 f2 => ?_
    refine ws_init2 (d1 := wkD W) (ds := []) SK.cls SK.nw SK.nl (by decide +kernel) f2 na nd ne sb (de_v (d := adD a) 0) (de_v (d := adD a) 0) ?_ (de_lst da_nil (by simp)) { nx := fun _ H' => Q .non H', rt := Q } fun l Ho' H' gr rr n1 n2 ow => q l Ho' H' gr rr n1 n2 ow
    exact de_tup (da_c (de_v (d := nD W.ring) 2) (da_c (de_v (d := nD W.inputs) 3) (da_c (de_listL ml (de_v (d := .list (W.parts.map ptD)) 4).ke).kc da_nil))) (by simp)
def R__law_given (ds : List PD) (d : PD) : Prop := ∃ (W : Wk) (cell : Nat), ds = [wkD W, nD cell] ∧ W.Ok ∧ d = rowT (gvN W cell)
theorem f__law_given {f : Addr} {fd : FuncData} {k : Nat} (F : FnP K "_law_given" s__law_given f fd) (mt : mg "tuple" = none) (mr : mg "range" = none) : FnOk P w K mg base CX0 (k + 1) f fd (N__law_given.take 2) (spF K R__law_given .c) := by
  refine fn_mk F c__law_given _ _ (fun ds d h => by obtain ⟨W, g, rfl, _⟩ := h; rfl) fun cdv A outer s H E hr ds d h => ?_
  obtain ⟨W, cell, rfl, hW, rfl⟩ := h
  have h6 := hW.i6
  have h2 := hW.r2
  refine dss_cons _ (ds_setO 2 (d := .list (p5.map nD)) (de_lst (da_c de_int (da_c de_int (da_c de_int (da_c de_int (da_c de_int (da_c de_int da_nil)))))) (by decide)) rfl c__law_given.nd) ?_
  refine dss_one (ds_ret (de_tupL mt (de_lc (own := [(N__law_given.getD 3 "", 3)]) (dlc (List.range W.inputs) nD (fun j => nD (cell / p5.getD j 1 % W.ring)) (di_rangeN (n := W.inputs) mr (de_ixT (de_v 0).ke de_int (atI_nat (j := 1) rfl)) (by omega)) (fun j hj => ⟨[3], _, by simp, fun _ _ _ _ _ => ⟨dg_name 3 c__law_given.nd, ?_⟩⟩) (by rw [List.length_range]; omega)) c__law_given.nd (b__law_given (by decide +kernel))).ke) ?_)
  · have hj' := List.mem_range.mp hj
    obtain ⟨q1, q2, q3⟩ := p5_at j (by omega)
    exact (de_mod (de_div (de_v 1) (de_ixL (de_vo 2) (de_v 3) q1) ⟨by omega, by omega⟩) (de_ixT (de_v 0).ke de_int (atI_nat (j := 0) rfl)) (by show (0 : Int) < (W.ring : Int); omega)).is rfl
  · show PyData.tuple _ = PyData.tuple _
    unfold gvN
    rw [List.map_map]
    rfl
def R__law_due (ds : List PD) (d : PD) : Prop := ∃ (p : Pt) (b : Bool) (row : List Nat) (ring : Nat), ds = [ptD p, seqD b row, nD ring] ∧ (∀ l ∈ p.lines, l < row.length) ∧ 2 ≤ ring ∧ (∀ x ∈ row, x < ring) ∧ d = nD (give ring p row)
theorem f__law_due {f : Addr} {fd : FuncData} {k : Nat} (F : FnP K "_law_due" s__law_due f fd) (mi : mg "int" = none) : FnOk P w K mg base CX0 (k + 1) f fd (N__law_due.take 3) (spF K R__law_due .c) := by
  refine fn_mk F c__law_due _ _ (fun ds d h => by obtain ⟨p, b, row, ring, rfl, _⟩ := h; rfl) fun cdv A outer s H E hr ds d h => ?_
  obtain ⟨p, b, row, ring, rfl, hl, h2, hx, rfl⟩ := h
  have hg : ∀ l ∈ p.lines, row.getD l 0 < ring := fun l hm => by
    rw [List.getD_eq_getElem?_getD, List.getElem?_eq_getElem (hl l hm)]
    exact hx _ (List.getElem_mem _)
  cases p with
  | sum x y =>
    refine dss_cons _ (ds_set 3 (de_row (de_v 1).ke (de_ixT (de_v 0).ke de_int (atI_nat (j := 1) rfl)) (hl x (by simp [Pt.lines]))) rfl c__law_due.nd) ?_
    refine dss_cons _ (ds_if (dt_eqT (de_ixT (de_v 0).ke de_int (atI_nat (j := 0) rfl)) de_str) (fun h => nT w_sum_not h) (fun h => dss_nil rfl)) ?_
    refine dss_consN (fun _ => False) (ds_if (dt_eqT (de_ixT (de_v 0).ke de_int (atI_nat (j := 0) rfl)) de_str) (fun _ => dss_one (ds_ret (de_mod (de_add (de_v 3) (de_row (de_v 1).ke (de_ixT (de_v 0).ke de_int (atI_nat (j := 2) rfl)) (hl y (by simp [Pt.lines])))) (de_v 2) (by omega)) rfl)) (fun h => nF (deq _) h)) (fun _ h => h.elim)
  | stop x y =>
    refine dss_cons _ (ds_set 3 (de_row (de_v 1).ke (de_ixT (de_v 0).ke de_int (atI_nat (j := 1) rfl)) (hl x (by simp [Pt.lines]))) rfl c__law_due.nd) ?_
    refine dss_cons _ (ds_if (dt_eqT (de_ixT (de_v 0).ke de_int (atI_nat (j := 0) rfl)) de_str) (fun h => nT w_stop_not h) (fun h => dss_nil rfl)) ?_
    refine dss_cons _ (ds_if (dt_eqT (de_ixT (de_v 0).ke de_int (atI_nat (j := 0) rfl)) de_str) (fun h => nT w_stop_sum h) (fun h => dss_nil rfl)) ?_
    refine dss_consN (fun _ => False) (ds_if (dt_eqT (de_ixT (de_v 0).ke de_int (atI_nat (j := 0) rfl)) de_str) (fun _ => dss_one (ds_ret (de_mul (de_v 3) (de_intB mi (de_eqI (de_row (de_v 1).ke (de_ixT (de_v 0).ke de_int (atI_nat (j := 2) rfl)) (hl y (by simp [Pt.lines]))) de_int)) ?_) ?_)) (fun h => nF (deq _) h)) (fun _ h => h.elim)
    · right
      split <;> constructor <;> decide
    · show PyData.int _ = nD (if row.getD y 0 = 0 then row.getD x 0 else 0)
      unfold nD
      congr 1
      by_cases h0 : row.getD y 0 = 0
      · rw [h0]; simp
      · have h1 : ¬ ((row.getD y 0 : Nat) : Int) = 0 := by omega
        rw [decide_eq_false h1, if_neg h0]; simp
  | pick x y z =>
    refine dss_cons _ (ds_set 3 (de_row (de_v 1).ke (de_ixT (de_v 0).ke de_int (atI_nat (j := 1) rfl)) (hl x (by simp [Pt.lines]))) rfl c__law_due.nd) ?_
    refine dss_cons _ (ds_if (dt_eqT (de_ixT (de_v 0).ke de_int (atI_nat (j := 0) rfl)) de_str) (fun h => nT w_pick_not h) (fun h => dss_nil rfl)) ?_
    refine dss_cons _ (ds_if (dt_eqT (de_ixT (de_v 0).ke de_int (atI_nat (j := 0) rfl)) de_str) (fun h => nT w_pick_sum h) (fun h => dss_nil rfl)) ?_
    refine dss_cons _ (ds_if (dt_eqT (de_ixT (de_v 0).ke de_int (atI_nat (j := 0) rfl)) de_str) (fun h => nT w_pick_stop h) (fun h => dss_nil rfl)) ?_
    refine dss_consN (fun en => row.getD x 0 ≠ 0 ∧ en = _) (ds_if (dt_eqI (de_v 3) de_int) (fun h => dss_one (ds_ret (de_row (de_v 1).ke (de_ixT (de_v 0).ke de_int (atI_nat (j := 2) rfl)) (hl y (by simp [Pt.lines]))) ?_)) (fun h => dss_nil ⟨fun z => of_decide_eq_false h (congrArg Int.ofNat z), rfl⟩)) (fun en' h => ?_)
    · show nD _ = nD (if row.getD x 0 = 0 then row.getD y 0 else row.getD z 0)
      rw [if_pos (Int.ofNat.inj (of_decide_eq_true h))]
    · obtain ⟨h, rfl⟩ := h
      refine dss_one (ds_ret (de_row (de_v 1).ke (de_ixT (de_v 0).ke de_int (atI_nat (j := 3) rfl)) (hl z (by simp [Pt.lines]))) ?_)
      show nD _ = nD (if row.getD x 0 = 0 then row.getD y 0 else row.getD z 0)
      rw [if_neg h]
  | not x =>
    refine dss_cons _ (ds_set 3 (de_row (de_v 1).ke (de_ixT (de_v 0).ke de_int (atI_nat (j := 1) rfl)) (hl x (by simp [Pt.lines]))) rfl c__law_due.nd) ?_
    refine dss_consN (fun _ => False) (ds_if (dt_eqT (de_ixT (de_v 0).ke de_int (atI_nat (j := 0) rfl)) de_str) (fun _ => dss_one (ds_ret (de_sub (de_sub (de_v 2) de_int) (de_v 3)) ?_)) (fun h => nF (deq _) h)) (fun _ h => h.elim)
    have e3 := hg x (by simp [Pt.lines])
    show PyData.int _ = PyData.int ((ring - 1 - row.getD x 0 : Nat) : Int)
    congr 1
    omega
def R__law_run (ds : List PD) (d : PD) : Prop := ∃ (W : Wk) (g : List Nat) (told : List (Nat × Nat)), ds = [wkD W, rowT g, toldD told] ∧ W.Ok ∧ Row W.ring W.inputs g ∧ ToldOk W.ring told ∧ d = rowL (wrunW W told g)
def lrE (W : Wk) (g : List Nat) (told : List (Nat × Nat)) (n : Nat) : En := [some (.v (wkD W)), some (.v (rowT g)), some (.v (toldD told)), some (.o (rowL (wrunN W told g n))), none]
theorem f__law_run {f : Addr} {fd : FuncData} {k : Nat} (F : FnP K "_law_run" s__law_run f fd) (G : Dn P w K mg base k "_law_due" R__law_due .c) (ml : mg "list" = none) (mn : mg "len" = none) (mr : mg "range" = none) : FnOk P w K mg base CX0 (k + 1) f fd (N__law_run.take 3) (spF K R__law_run .o) := by
  refine fn_mk F c__law_run _ _ (fun ds d h => by obtain ⟨W, g, t, rfl, _⟩ := h; rfl) fun cdv A outer s H E hr ds d h => ?_
  obtain ⟨W, g, told, rfl, hW, hg, ht, rfl⟩ := h
  have h10 := hW.p10
  have h6 := hW.i6
  refine dss_cons _ (ds_setO 3 (de_listT ml (de_v 1).ke) rfl c__law_run.nd) ?_
  refine dss_cons (lrE W g told W.parts.length) (ds_for (List.range W.parts.length) nD (lrE W g told) (di_rangeN mr ((de_lenL mn (de_ixT (de_v 0).ke de_int (atI_nat (j := 2) rfl)).ke).is (by rw [List.length_map])) (by omega)) ⟨rfl, rfl, rfl, rfl, trivial⟩ ?_ ?_) ?_
  · intro i x hx
    have hi : i < W.parts.length := by have := (List.getElem?_eq_some_iff.mp hx).1; rwa [List.length_range] at this
    rw [List.getElem?_range hi] at hx
    cases hx
    have hp := List.getElem?_eq_getElem hi
    have hget : W.parts.getD i (.not 0) = W.parts[i] := by rw [List.getD_eq_getElem?_getD, hp]; rfl
    have hrow := wrunN_row hW ht hg i
    refine ⟨_, _, dg_name 4 c__law_run.nd, ?_⟩
    refine dss_one (ds_append 3 rfl (d := nD ((getN told i).getD (give W.ring W.parts[i] (wrunN W told g i)))) ((de_dget2 (y := .inl (i : Int)) hr (de_v 2).ke (de_v 4) ((de_callT G hr (da_t (de_ixL (de_ixT (de_v 0).ke de_int (atI_nat (j := 2) rfl)).ke (de_v 4) (atI_nat (j := i) (v := ptD W.parts[i]) (by rw [List.getElem?_map, hp]; rfl))) (da_t (de_vo 3) (da_t (de_ixT (de_v 0).ke de_int (atI_nat (j := 0) rfl)) da_nil))) ⟨W.parts[i], true, wrunN W told g i, W.ring, rfl, fun l hl => ?_, hW.r2, hrow.2, rfl⟩).scal rfl)).is ?_) (by rw [List.length_map, hrow.1]; omega) ?_)
    · rw [valD_told]
      cases getN told i <;> rfl
    · refine ⟨rfl, rfl, rfl, ?_, trivial⟩
      show some (Sl.o (PyData.list _)) = some (Sl.o (PyData.list ((wrunN W told g (i + 1)).map nD)))
      rw [wrunN_succ, hget, List.map_append]
      rfl
    · rw [hrow.1]
      exact hW.lines i _ hp l hl
  · show lrE W g told _ = _
    rw [List.length_range]
  exact dss_one (ds_retO 3 rfl rfl rfl)
def R__law_look (ds : List PD) (d : PD) : Prop := ∃ (W : Wk) (cell more : Nat), ds = [wkD W, nD cell, nD more] ∧ W.Ok ∧ d = lkD (lookL W cell more)
def lkE1 (W : Wk) (cell more n : Nat) : En := [some (.v (wkD W)), some (.v (nD cell)), some (.v (nD more)), some (.v (rowT (gvN W cell))), some (.v (nD W.parts.length)), some (.o (toldD (tolL W more n))), none, none, none, none, none, none]
def lkE2 (W : Wk) (cell more : Nat) (digits : List Nat) (n : Nat) : En := [some (.v (wkD W)), some (.v (nD cell)), some (.v (nD more)), some (.v (rowT (gvN W cell))), some (.v (nD W.parts.length)), none, none, none, some (.v (rowL digits)), some (.o (.list ((seenL W more digits n).map pqD))), none, none]
theorem last_eq {k n : Nat} (h : 1 ≤ n) : decide ((k : Int) = (n : Int) - 1) = decide (k + 1 = n) := by
  congr 1
  apply propext
  omega
theorem f__law_look {f : Addr} {fd : FuncData} {k : Nat} (F : FnP K "_law_look" s__law_look f fd) (G1 : Dn P w K mg base k "_law_given" R__law_given .c) (G2 : Dn P w K mg base k "_law_run" R__law_run .o) (mt : mg "tuple" = none) (mn : mg "len" = none) (mr : mg "range" = none) : FnOk P w K mg base CX0 (k + 1) f fd (N__law_look.take 3) (spF K R__law_look .c) := by
  refine fn_mk F c__law_look _ _ (fun ds d h => by obtain ⟨W, g, _, rfl, _⟩ := h; rfl) fun cdv A outer s H E hr ds d h => ?_
  obtain ⟨W, cell, more, rfl, hW, rfl⟩ := h
  have h10 := hW.p10
  have h1 := hW.p1
  have h2 := hW.r2
  have h5 := hW.r5
  have h6 := hW.i6
  refine dss_cons _ (ds_set 3 (de_call G1 hr (da_c (de_v 0) (da_c (de_v 1) da_nil)) ⟨W, cell, rfl, hW, rfl⟩) rfl c__law_look.nd) ?_
  refine dss_cons _ (ds_set 4 (d := nD W.parts.length) ((de_lenL mn (de_ixT (de_v 0).ke de_int (atI_nat (j := 2) rfl)).ke).is (by rw [List.length_map]; rfl)) rfl c__law_look.nd) ?_
  refine dss_cons _ (ds_setO 5 de_dnew rfl c__law_look.nd) ?_
  refine dss_cons (lkE1 W cell more (more % 3)) (ds_for (List.range (more % 3)) nD (lkE1 W cell more) (di_rangeN (n := more % 3) mr ((de_mod (de_v 2) de_int (by decide)).is rfl) (by omega)) ⟨rfl, rfl, rfl, rfl, rfl, rfl, trivial⟩ ?_ ?_) ?_
  · intro i x hx
    have hi : i < more % 3 := by have := (List.getElem?_eq_some_iff.mp hx).1; rwa [List.length_range] at this
    rw [List.getElem?_range hi] at hx
    cases hx
    have hti := (tolL_ok hW more i).2
    refine ⟨_, _, dg_name 6 c__law_look.nd, ?_⟩
    refine dss_cons _ (ds_set 7 (d := nD (more / 3 / (1 + 6 * i) % W.parts.length)) ((de_mod (de_div (de_div (de_v 2) de_int ⟨by decide, by decide⟩) (de_add de_int (de_mul de_int (de_v 6) (.inl ⟨by decide, by decide⟩))) ⟨by omega, by omega⟩) (de_v 4) (by omega)).is rfl) rfl c__law_look.nd) ?_
    refine dss_one (ds_dput (kb := .c) (y := .inl ((more / 3 / (1 + 6 * i) % W.parts.length : Nat) : Int)) (kvs := (tolL W more i).map tK) (d := nD (more / 40 / (1 + 4 * i) % W.ring)) 5 hr rfl (de_v 7) ((de_mod (de_div (de_div (de_v 2) de_int ⟨by decide, by decide⟩) (de_add de_int (de_mul de_int (de_v 6) (.inl ⟨by decide, by decide⟩))) ⟨by omega, by omega⟩) (de_ixT (de_v 0).ke de_int (atI_nat (j := 0) rfl)) (by show (0 : Int) < (W.ring : Int); omega)).is rfl) (by rw [List.length_map]; omega) ?_)
    refine ⟨rfl, rfl, rfl, rfl, rfl, ?_, trivial⟩
    rw [putN_D]
    rfl
  · show lkE1 W cell more _ = _
    rw [List.length_range]
  have ht := (tolL_ok hW more (more % 3)).1
  have hg := gvN_row cell hW
  have hrow := wrunW_row hW ht hg
  refine DSs.freeze (i := 5) ?_
  refine dss_cons _ (ds_setO 8 (de_call G2 hr (da_c (de_v 0) (da_c (de_v 3) (da_c (de_v 5) da_nil))) ⟨W, gvN W cell, tolL W more (more % 3), rfl, hW, hg, ht, rfl⟩) rfl c__law_look.nd) ?_
  refine DSs.freeze (i := 8) ?_
  refine dss_cons _ (ds_setO 9 (de_lst da_nil (by simp)) rfl c__law_look.nd) ?_
  have hdg : (lookL W cell more).seen = seenL W more (wrunW W (tolL W more (more % 3)) (gvN W cell)) W.parts.length := rfl
  generalize hdd : wrunW W (tolL W more (more % 3)) (gvN W cell) = digits at hrow hdg
  refine dss_cons (lkE2 W cell more digits W.parts.length) (ds_for (List.range W.parts.length) nD (lkE2 W cell more digits) (di_rangeN (n := W.parts.length) mr (de_v 4) (by omega)) ⟨rfl, rfl, rfl, rfl, rfl, rfl, rfl, trivial⟩ ?_ ?_) ?_
  · intro i x hx
    have hi : i < W.parts.length := by have := (List.getElem?_eq_some_iff.mp hx).1; rwa [List.length_range] at this
    rw [List.getElem?_range hi] at hx
    cases hx
    have hlen := (seenL_ok (more := more) hW hrow.2 i).2.2
    have esucc : seenL W more digits (i + 1) = seenL W more digits i ++ if isL W more i = true then [(W.inputs + i, dgL W more digits i)] else [] := rfl
    refine ⟨_, _, dg_name 6 c__law_look.nd, ?_⟩
    refine dss_cons _ (ds_set 10 (d := .bool (decide (more / 200 / (1 + i) % 3 = 1))) ((de_eqI (de_mod (de_div (de_div (de_v 2) de_int ⟨by decide, by decide⟩) (de_add de_int (de_v 6)) ⟨by omega, by omega⟩) de_int (by decide)) de_int).is ?_) rfl c__law_look.nd) ?_
    · congr 2
      apply propext
      show ((more : Int) / 200 / (1 + (i : Int)) % 3 = 1) ↔ _
      rw [show ((more : Int) / 200 / (1 + (i : Int)) % 3) = ((more / 200 / (1 + i) % 3 : Nat) : Int) from rfl]
      omega
    refine dss_one (ds_if (c := isL W more i) (DW.dt (dw_or (dt_val (de_v 10)) (fun _ => dw_or1 (DW.dt (dw_and ((dt_eqI (de_v 6) (de_sub (de_v 4) de_int)).is (last_eq h1)) (fun _ => dw_and1 ((dt_gt (de_mod (de_div (de_v 2) de_int ⟨by decide, by decide⟩) de_int (by decide)) de_int).is ?_))))))) (fun ht => ?_) (fun hf => ?_))
    · congr 1
      apply propext
      show ((0 : Int) < (more : Int) / 7 % 4) ↔ _
      rw [show ((more : Int) / 7 % 4) = ((more / 7 % 4 : Nat) : Int) from rfl]
      omega
    · have hgd : digits.getD (W.inputs + i) 0 < W.ring := by
        rw [List.getD_eq_getElem?_getD, List.getElem?_eq_getElem (by rw [hrow.1]; omega)]
        exact hrow.2 _ (List.getElem_mem _)
      have e11 : ((more : Int) / 11 % 9) = ((more / 11 % 9 : Nat) : Int) := rfl
      refine dss_cons _ (ds_set 11 (d := nD (digits.getD (W.inputs + i) 0)) (de_row (s := true) (l := W.inputs + i) (de_v 8).ke ((de_add (de_ixT (de_v 0).ke de_int (atI_nat (j := 1) rfl)) (de_v 6)).is rfl) (by rw [hrow.1]; omega)) rfl c__law_look.nd) ?_
      let le (v : Nat) : En := [some (.v (wkD W)), some (.v (nD cell)), some (.v (nD more)), some (.v (rowT (gvN W cell))), some (.v (nD W.parts.length)), none, some (.v (nD i)), none, some (.v (rowL digits)), some (.o (.list ((seenL W more digits i).map pqD))), some (.v (.bool (decide (more / 200 / (1 + i) % 3 = 1)))), some (.v (nD v))]
      refine dss_cons (le (dg1 W more (digits.getD (W.inputs + i) 0) i)) (ds_if (dt_eqI (de_mod (de_div (de_v 2) de_int ⟨by decide, by decide⟩) de_int (by decide)) de_int) (fun h => ?_) (fun h => ?_)) ?_
      · have h' : more / 11 % 9 = 5 := by have := of_decide_eq_true h; omega
        refine dss_one (ds_set 11 (d := nD (dg1 W more (digits.getD (W.inputs + i) 0) i)) ((de_mod (de_add (de_v 11) (de_div (de_v 2) (de_add de_int (de_v 6)) ⟨by omega, by omega⟩)) (de_ixT (de_v 0).ke de_int (atI_nat (j := 0) rfl)) (by show (0 : Int) < (W.ring : Int); omega)).is ?_) rfl c__law_look.nd)
        unfold dg1
        rw [if_pos h']
        rfl
      · have h' : ¬ more / 11 % 9 = 5 := by have := of_decide_eq_false h; omega
        refine dss_nil ?_
        show _ = le _
        unfold dg1
        rw [if_neg h']
        rfl
      refine dss_cons (le (dgL W more digits i)) (ds_if (c := decide (5 < more / 11 % 9 ∧ i + 1 = W.parts.length)) ((DW.dt (dw_and (dt_gt (de_mod (de_div (de_v 2) de_int ⟨by decide, by decide⟩) de_int (by decide)) de_int) (fun _ => dw_and1 ((dt_eqI (de_v 6) (de_sub (de_v 4) de_int)).is (last_eq h1))))).is ?_) (fun h => ?_) (fun h => ?_)) ?_
      · rw [Bool.decide_and]
        congr 2
        apply propext
        show ((5 : Int) < (more : Int) / 11 % 9) ↔ _
        rw [e11]
        omega
      · refine dss_one (ds_set 11 (d := nD (dgL W more digits i)) ((de_mod (de_add (de_v 11) de_int) (de_ixT (de_v 0).ke de_int (atI_nat (j := 0) rfl)) (by show (0 : Int) < (W.ring : Int); omega)).is ?_) rfl c__law_look.nd)
        unfold dgL dg2
        rw [if_pos (of_decide_eq_true h)]
        rfl
      · refine dss_nil ?_
        show _ = le _
        unfold dgL dg2
        rw [if_neg (of_decide_eq_false h)]
      refine dss_one (ds_append 9 rfl (d := pqD (W.inputs + i, dgL W more digits i)) ((de_tup (da_c (de_add (de_ixT (de_v 0).ke de_int (atI_nat (j := 1) rfl)) (de_v 6)) (da_c (de_v 11) da_nil)) (by simp)).is rfl) (by rw [List.length_map]; omega) ?_)
      refine ⟨rfl, rfl, rfl, rfl, rfl, rfl, ?_, trivial⟩
      show some (Sl.o (PyData.list _)) = some (Sl.o (PyData.list _))
      rw [esucc, if_pos ht, List.map_append]
      rfl
    · refine dss_nil ⟨rfl, rfl, rfl, rfl, rfl, rfl, ?_, trivial⟩
      show some (Sl.o (PyData.list _)) = some (Sl.o (PyData.list _))
      rw [esucc, if_neg (by rw [hf]; decide), List.append_nil]
  · show lkE2 W cell more digits _ = _
    rw [List.length_range]
  refine dss_one (ds_ret (de_tup (da_c (de_v 3) (da_c (de_tupX mt (de_vo 9)) da_nil)) (by simp)) ?_)
  show PyData.tuple _ = lkD _
  unfold lkD
  rw [hdg]
  rfl
def R__law_looks (ds : List PD) (d : PD) : Prop := ∃ (ns : List Int) (W : Wk) (first most : Nat), ds = [scr ns, wkD W, nD first, nD most] ∧ W.Ok ∧ first ≤ 100 ∧ most ≤ 100 ∧ d = .list ((looksL W ns first (mix ns first % (most + 1))).map lkD)
def lsE (ns : List Int) (W : Wk) (first most n : Nat) : En := [some (.v (scr ns)), some (.v (wkD W)), some (.v (nD first)), some (.v (nD most)), some (.o (.list ((looksL W ns first n).map lkD))), none, none, none]
theorem f__law_looks {f : Addr} {fd : FuncData} {k : Nat} (F : FnP K "_law_looks" s__law_looks f fd) (G1 : Dn P w K mg base k "_law_mixed" R__law_mixed .c) (G2 : Dn P w K mg base k "_law_look" R__law_look .c) (mr : mg "range" = none) : FnOk P w K mg base CX0 (k + 1) f fd (N__law_looks.take 4) (spF K R__law_looks .o) := by
  refine fn_mk F c__law_looks _ _ (fun ds d h => by obtain ⟨W, g, _, _, rfl, _⟩ := h; rfl) fun cdv A outer s H E hr ds d h => ?_
  obtain ⟨ns, W, first, most, rfl, hW, hf, hm, rfl⟩ := h
  have hlt : mix ns first % (most + 1) < most + 1 := Nat.mod_lt _ (by omega)
  refine dss_cons _ (ds_setO 4 (de_lst da_nil (by simp)) rfl c__law_looks.nd) ?_
  refine dss_cons (lsE ns W first most (mix ns first % (most + 1))) (ds_for (List.range (mix ns first % (most + 1))) nD (lsE ns W first most) (di_rangeN (n := mix ns first % (most + 1)) mr ((de_mod (de_call G1 hr (da_c (de_v 0) (da_c (de_v 2) da_nil)) ⟨ns, first, rfl, by omega, rfl⟩) (de_add (de_v 3) de_int) (by omega)).is rfl) (by omega)) ⟨rfl, rfl, rfl, rfl, rfl, trivial⟩ ?_ ?_) ?_
  · intro i x hx
    have hi : i < mix ns first % (most + 1) := by have := (List.getElem?_eq_some_iff.mp hx).1; rwa [List.length_range] at this
    rw [List.getElem?_range hi] at hx
    cases hx
    refine ⟨_, _, dg_name 5 c__law_looks.nd, ?_⟩
    refine dss_cons _ (ds_set 6 (de_call G1 hr (da_c (de_v 0) (da_c ((de_add (de_add (de_v 2) de_int) (de_mul de_int (de_v 5) (.inl ⟨by decide, by decide⟩))).is rfl) da_nil)) ⟨ns, first + 1 + 2 * i, rfl, by omega, rfl⟩) rfl c__law_looks.nd) ?_
    refine dss_cons _ (ds_set 7 (de_call G1 hr (da_c (de_v 0) (da_c ((de_add (de_add (de_v 2) de_int) (de_mul de_int (de_v 5) (.inl ⟨by decide, by decide⟩))).is rfl) da_nil)) ⟨ns, first + 2 + 2 * i, rfl, by omega, rfl⟩) rfl c__law_looks.nd) ?_
    refine dss_one (ds_append 4 rfl (d := lkD (lookL W (mix ns (first + 1 + 2 * i)) (mix ns (first + 2 + 2 * i)))) (de_call G2 hr (da_c (de_v 1) (da_c (de_v 6) (da_c (de_v 7) da_nil))) ⟨W, _, _, rfl, hW, rfl⟩) ?_ ?_)
    · unfold looksL
      rw [List.length_map, List.length_map, List.length_range]
      omega
    · refine ⟨rfl, rfl, rfl, rfl, ?_, trivial⟩
      show some (Sl.o (PyData.list _)) = some (Sl.o (PyData.list _))
      unfold looksL
      rw [List.range_succ, List.map_append, List.map_append]
      rfl
  · show lsE ns W first most _ = _
    rw [List.length_range]
  exact dss_one (ds_retO 4 rfl rfl rfl)
def oddL (W : Wk) (ns : List Int) (k : Nat) : Lk := ⟨gvN W (mix ns (43 + k)), [(W.inputs + W.parts.length - 1, ((wrunW W [] (gvN W (mix ns (43 + k)))).getD (W.inputs + W.parts.length - 1) 0 + 1) % W.ring)]⟩
theorem oddL_ok {W : Wk} (hW : W.Ok) (ns : List Int) (k : Nat) : (oddL W ns k).Ok W := by
  have h1 := hW.p1
  have hr := hW.r2
  refine ⟨gvN_row _ hW, fun p hp => ?_, List.pairwise_singleton _ _, by show 1 ≤ 100; decide⟩
  have hp : p ∈ [(W.inputs + W.parts.length - 1, ((wrunW W [] (gvN W (mix ns (43 + k)))).getD (W.inputs + W.parts.length - 1) 0 + 1) % W.ring)] := hp
  rw [List.mem_singleton.mp hp]
  exact ⟨by show W.inputs ≤ _; omega, by show W.inputs + W.parts.length - 1 < _; omega, Nat.mod_lt _ (by omega)⟩
def R__law_odd_looks (ds : List PD) (d : PD) : Prop := ∃ (ns : List Int) (W : Wk), ds = [scr ns, wkD W] ∧ W.Ok ∧ d = .list (((List.range (mix ns 42 % 3)).map (oddL W ns)).map lkD)
def olE (ns : List Int) (W : Wk) (n : Nat) : En := [some (.v (scr ns)), some (.v (wkD W)), some (.o (.list (((List.range n).map (oddL W ns)).map lkD))), some (.v (nD (W.inputs + W.parts.length - 1))), none, none, none]
theorem f__law_odd_looks {f : Addr} {fd : FuncData} {k : Nat} (F : FnP K "_law_odd_looks" s__law_odd_looks f fd) (G1 : Dn P w K mg base k "_law_mixed" R__law_mixed .c) (G2 : Dn P w K mg base k "_law_given" R__law_given .c) (G3 : Dn P w K mg base k "_law_run" R__law_run .o) (ml : mg "len" = none) (mr : mg "range" = none) : FnOk P w K mg base CX0 (k + 1) f fd (N__law_odd_looks.take 2) (spF K R__law_odd_looks .o) := by
  refine fn_mk F c__law_odd_looks _ _ (fun ds d h => by obtain ⟨ns, W, rfl, _⟩ := h; rfl) fun cdv A outer s H E hr ds d h => ?_
  obtain ⟨ns, W, rfl, hW, rfl⟩ := h
  have h1 := hW.p1
  have hr2 := hW.r2
  refine dss_cons _ (ds_setO 2 (de_lst da_nil (by simp)) rfl c__law_odd_looks.nd) ?_
  refine dss_cons _ (ds_set 3 (d := nD (W.inputs + W.parts.length - 1)) ((de_sub (de_add (de_ixT (de_v (d := wkD W) 1).ke de_int (atI_nat (j := 1) rfl)) (de_lenL ml (de_ixT (de_v (d := wkD W) 1).ke de_int (atI_nat (j := 2) rfl)).ke)) de_int).is ?_) rfl c__law_odd_looks.nd) ?_
  · rw [List.length_map]
    show PyData.int _ = PyData.int _
    congr 1
    show ((W.inputs : Nat) : Int) + ((W.parts.length : Nat) : Int) - 1 = ((W.inputs + W.parts.length - 1 : Nat) : Int)
    omega
  refine dss_cons (olE ns W (mix ns 42 % 3)) (ds_for (List.range (mix ns 42 % 3)) nD (olE ns W) (di_rangeN (n := mix ns 42 % 3) mr ((de_mod (de_call G1 hr (da_c (de_v 0) (da_c de_int da_nil)) ⟨ns, 42, rfl, by decide, rfl⟩) de_int (by decide)).is rfl) (by omega)) (Lee.refl _) ?_ ?_) ?_
  · intro i x hx
    have hi : i < mix ns 42 % 3 := by have := (List.getElem?_eq_some_iff.mp hx).1; rwa [List.length_range] at this
    rw [List.getElem?_range hi] at hx
    cases hx
    have hg := gvN_row (mix ns (43 + i)) hW
    have hrow := wrunW_row (told := []) hW (fun _ h => by cases h) hg
    refine ⟨_, _, dg_name 4 c__law_odd_looks.nd, ?_⟩
    refine dss_cons _ (ds_set 5 (d := rowT (gvN W (mix ns (43 + i)))) (de_call G2 hr (da_c (de_v (d := wkD W) 1) (da_c (de_call G1 hr (da_c (de_v 0) (da_c (de_add de_int (de_v (d := nD i) 4)) da_nil)) ⟨ns, 43 + i, rfl, by omega, rfl⟩) da_nil)) ⟨W, _, rfl, hW, rfl⟩) rfl c__law_odd_looks.nd) ?_
    refine dss_cons _ (ds_set 6 (d := nD ((wrunW W [] (gvN W (mix ns (43 + i)))).getD (W.inputs + W.parts.length - 1) 0)) (de_ixL (de_call G3 hr (da_c (de_v (d := wkD W) 1) (da_c (de_v (d := rowT (gvN W (mix ns (43 + i)))) 5) (da_c de_dnew.kc da_nil))) ⟨W, gvN W (mix ns (43 + i)), [], rfl, hW, hg, (fun _ h => by cases h), rfl⟩).ke (de_v (d := nD (W.inputs + W.parts.length - 1)) 3) (atI_row (by rw [hrow.1]; omega))) rfl c__law_odd_looks.nd) ?_
    refine dss_one (ds_append 2 rfl (d := lkD (oddL W ns i)) ((de_tup (da_c (de_v (d := rowT (gvN W (mix ns (43 + i)))) 5) (da_c (de_tupK (da_c (de_tup (da_c (de_v (d := nD (W.inputs + W.parts.length - 1)) 3) (da_c (de_mod (de_add (de_v (d := nD ((wrunW W [] (gvN W (mix ns (43 + i)))).getD (W.inputs + W.parts.length - 1) 0)) 6) de_int) (de_ixT (de_v (d := wkD W) 1).ke de_int (atI_nat (j := 0) rfl)) (by show (0 : Int) < (W.ring : Int); omega)) da_nil)) (by simp)) da_nil) (by simp)) da_nil)) (by simp)).is rfl) (by rw [List.length_map, List.length_map, List.length_range]; omega) ?_)
    refine ⟨rfl, rfl, ?_, rfl, trivial⟩
    show some (Sl.o (PyData.list _)) = some (Sl.o (PyData.list _))
    rw [List.range_succ, List.map_append, List.map_append]
    rfl
  · show olE ns W (List.range (mix ns 42 % 3)).length = _
    rw [List.length_range]
  exact dss_one (ds_retO 2 rfl rfl rfl)
def R_is_digit (ds : List PD) (d : PD) : Prop := ∃ (W : Wk) (t : PD), ds = [wkD W, t] ∧ (typN t).isSome = true ∧ d = .bool (wholeIn t 0 (W.ring - 1))
theorem f_is_digit {f : Addr} {fd : FuncData} {k : Nat} (F : FnP K "is_digit" s_is_digit f fd) (G : Dn P w K mg base k "is_whole" R_is_whole .c) : FnOk P w K mg base CX0 (k + 1) f fd ["work", "thing"] (spF K R_is_digit .c) := by
  refine fn_mk F c_is_digit _ _ (fun ds d h => by obtain ⟨W, t, rfl, _⟩ := h; rfl) fun cdv A outer s H E hr ds d h => ?_
  obtain ⟨W, t, rfl, ht, rfl⟩ := h
  exact dss_one (ds_ret (de_call G hr (da_c (de_v 1) (da_c de_int (da_c (de_sub (de_ixT (de_v 0).ke de_int (atI_nat (j := 0) rfl)) de_int) da_nil))) ⟨t, 0, _, rfl, ht, rfl⟩) rfl)
def givenB (W : Wk) (t : PD) : Bool := match t with
  | .tuple xs => decide ((xs.length : Int) = W.inputs) && xs.all fun x => wholeIn x 0 (W.ring - 1)
  | _ => false
/-- the kinds that are asked about -/
def Kn (t : PD) : Prop := (typN t).isSome = true ∧ ∀ xs, t = .tuple xs → xs.length ≤ 100000 ∧ ∀ x ∈ xs, (typN x).isSome = true
def R_is_given (ds : List PD) (d : PD) : Prop := ∃ (W : Wk) (t : PD), ds = [wkD W, t] ∧ Kn t ∧ d = .bool (givenB W t)
theorem f_is_given {f : Addr} {fd : FuncData} {k : Nat} (F : FnP K "is_given" s_is_given f fd) (G1 : Dn P w K mg base k "is_tuple_of" R_is_tuple_of .c) (G2 : Dn P w K mg base k "is_digit" R_is_digit .c) (ma : mg "all" = none) : FnOk P w K mg base CX0 (k + 1) f fd ["work", "thing"] (spF K R_is_given .c) := by
  refine fn_mk F c_is_given _ _ (fun ds d h => by obtain ⟨W, t, rfl, _⟩ := h; rfl) fun cdv A outer s H E hr ds d h => ?_
  obtain ⟨W, t, rfl, ⟨ht, hk⟩, rfl⟩ := h
  cases hb : tupB t (W.inputs : Int) with
  | false =>
    refine dss_one (ds_ret (de_andF ((de_call G1 hr (da_c (de_v 1) (da_c (de_ixT (de_v 0).ke de_int (atI_nat (j := 1) rfl)) da_nil)) ⟨t, _, rfl, ht, rfl⟩).is (by rw [hb]))) ?_)
    show PyData.bool false = PyData.bool (givenB W t)
    have : givenB W t = false := by
      cases t <;> first | rfl | (show (decide _ && _) = false; rw [show decide _ = false from hb]; rfl)
    rw [this]
  | true =>
    obtain ⟨xs, rfl⟩ : ∃ xs, t = .tuple xs := by
      cases t <;> first | exact ⟨_, rfl⟩ | cases hb
    obtain ⟨hl, hx⟩ := hk xs rfl
    refine dss_one (ds_ret (de_and (c1 := true) (c2 := (xs.map fun x => wholeIn x 0 (W.ring - 1)).all id) ((de_call G1 hr (da_c (de_v 1) (da_c (de_ixT (de_v 0).ke de_int (atI_nat (j := 1) rfl)) da_nil)) ⟨_, _, rfl, ht, rfl⟩).is (by rw [hb])) (fun _ => de_one (de_all ma rfl (de_lc (own := [(N_is_given.getD 2 "", 2)]) (rs := (xs.map fun x => wholeIn x 0 (W.ring - 1)).map .bool) ?_ c_is_given.nd (b_is_given (by decide +kernel))).ke))) ?_)
    · rw [List.map_map]
      refine dlc xs id _ ((di_tup (de_v 1)).is (by rw [List.map_id])) (fun x hm => ⟨[2], _, by simp, fun _ _ _ _ _ => ⟨dg_name 2 c_is_given.nd, ?_⟩⟩) hl
      exact de_call G2 hr (da_c (de_v 0) (da_c (de_v 2) da_nil)) ⟨W, x, rfl, hx x hm, rfl⟩
    · show PyData.bool (true && _) = PyData.bool (decide _ && _)
      rw [show decide ((xs.length : Int) = W.inputs) = true from hb, List.all_map]
      rfl
def R_is_line_of_part (ds : List PD) (d : PD) : Prop := ∃ (W : Wk) (t : PD), ds = [wkD W, t] ∧ (typN t).isSome = true ∧ d = .bool (wholeIn t W.inputs (W.inputs + W.parts.length - 1))
theorem f_is_line_of_part {f : Addr} {fd : FuncData} {k : Nat} (F : FnP K "is_line_of_part" s_is_line_of_part f fd) (G : Dn P w K mg base k "is_whole" R_is_whole .c) (ml : mg "len" = none) : FnOk P w K mg base CX0 (k + 1) f fd ["work", "thing"] (spF K R_is_line_of_part .c) := by
  refine fn_mk F c_is_line_of_part _ _ (fun ds d h => by obtain ⟨W, t, rfl, _⟩ := h; rfl) fun cdv A outer s H E hr ds d h => ?_
  obtain ⟨W, t, rfl, ht, rfl⟩ := h
  refine dss_cons _ (ds_asg (de_v 0) (dg_tup rfl (dgs_cons (dg_name 2 c_is_line_of_part.nd) (dgs_cons (dg_name 3 c_is_line_of_part.nd) (dgs_cons (dg_name 4 c_is_line_of_part.nd) dgs_nil)))) rfl) ?_
  refine dss_one (ds_ret (de_call G hr (da_c (de_v 1) (da_c (de_v 3) (da_c (de_sub (de_add (de_v 3) (de_lenL ml (de_v 4).ke)) de_int) da_nil))) ⟨t, _, _, rfl, ht, rfl⟩) ?_)
  rw [List.length_map]
def R_is_pair (ds : List PD) (d : PD) : Prop := ∃ (W : Wk) (q : Nat × Nat), ds = [wkD W, pqD q] ∧ W.inputs ≤ q.1 ∧ q.1 < W.inputs + W.parts.length ∧ q.2 < W.ring ∧ d = .bool true
theorem f_is_pair {f : Addr} {fd : FuncData} {k : Nat} (F : FnP K "is_pair" s_is_pair f fd) (G1 : Dn P w K mg base k "is_tuple_of" R_is_tuple_of .c) (G2 : Dn P w K mg base k "is_line_of_part" R_is_line_of_part .c) (G3 : Dn P w K mg base k "is_digit" R_is_digit .c) : FnOk P w K mg base CX0 (k + 1) f fd ["work", "thing"] (spF K R_is_pair .c) := by
  refine fn_mk F c_is_pair _ _ (fun ds d h => by obtain ⟨W, t, rfl, _⟩ := h; rfl) fun cdv A outer s H E hr ds d h => ?_
  obtain ⟨W, q, rfl, h1, h2, h3, rfl⟩ := h
  refine dss_one (ds_ret ((de_and (c1 := true) (c2 := true) ((de_call G1 hr (da_c (de_v 1) (da_c de_int da_nil)) ⟨_, 2, rfl, rfl, rfl⟩).is rfl) (fun _ => (de_and (c1 := true) (c2 := true) ((de_call G2 hr (da_c (de_v 0) (da_c (de_ixT (de_v 1).ke de_int (atI_nat (j := 0) rfl)) da_nil)) ⟨W, nD q.1, rfl, rfl, rfl⟩).is ?_) (fun _ => de_one ((de_call G3 hr (da_c (de_v 0) (da_c (de_ixT (de_v 1).ke de_int (atI_nat (j := 1) rfl)) da_nil)) ⟨W, nD q.2, rfl, rfl, rfl⟩).is ?_)))))) rfl)
  · show PyData.bool (decide ((W.inputs : Int) ≤ (q.1 : Int)) && decide ((q.1 : Int) ≤ (W.inputs : Int) + (W.parts.length : Int) - 1)) = .bool true
    rw [decide_eq_true (by omega), decide_eq_true (by omega)]
    rfl
  · show PyData.bool (decide ((0 : Int) ≤ (q.2 : Int)) && decide ((q.2 : Int) ≤ (W.ring : Int) - 1)) = .bool true
    rw [decide_eq_true (by omega), decide_eq_true (by omega)]
    rfl
def R_rises (ds : List PD) (d : PD) : Prop := ∃ (b : Bool) (row : List Nat), ds = [seqD b row] ∧ row.Pairwise (· < ·) ∧ row.length ≤ 100 ∧ d = .bool true
theorem f_rises {f : Addr} {fd : FuncData} {k : Nat} (F : FnP K "rises" s_rises f fd) (ma : mg "all" = none) (mz : mg "zip" = none) : FnOk P w K mg base CX0 (k + 1) f fd ["numbers"] (spF K R_rises .c) := by
  refine fn_mk F c_rises _ _ (fun ds d h => by obtain ⟨b, row, rfl, _⟩ := h; rfl) fun cdv A outer s H E hr ds d h => ?_
  obtain ⟨b, row, rfl, hri, hl, rfl⟩ := h
  refine dss_one (ds_ret ((de_all (bs := (row.zip row.tail).map fun _ => true) ma rfl (de_lc (own := [(N_rises.getD 1 "", 1), (N_rises.getD 2 "", 2)]) (rs := ((row.zip row.tail).map fun _ => true).map .bool) ?_ c_rises.nd (b_rises (by decide +kernel))).ke).is ?_) rfl)
  · rw [List.map_map]
    refine dlc (row.zip row.tail) pqD _ ?_ (fun x hm => ⟨[1, 2], _, by simp, fun _ _ _ _ _ => ⟨dg_tup rfl (dgs_cons (dg_name 1 c_rises.nd) (dgs_cons (dg_name 2 c_rises.nd) dgs_nil)), (de_lt (de_v 1) (de_v 2)).is ?_⟩⟩) (by rw [List.length_zip]; omega)
    · have e : zipD (row.map nD) (cutA (row.map nD) (some 1) none) = (row.zip row.tail).map pqD := by
        unfold zipD
        rw [cut1, ← List.map_tail, List.zip_map, List.map_map]
        rfl
      cases b with
      | true => exact (di_zipL mz (de_v 0) (de_slL (de_v 0).ke (do_some de_int) do_none).kc).is e
      | false => exact (di_zipT mz (de_v 0) (de_slT (de_v 0) (do_some de_int) do_none)).is e
    · have h2 := rise_zip hri x hm
      show PyData.bool (decide ((x.1 : Int) < (x.2 : Int))) = .bool true
      rw [decide_eq_true (by omega)]
  · rw [List.all_map, show (row.zip row.tail).all (id ∘ fun _ => true) = true from List.all_eq_true.mpr fun _ _ => rfl]
def R_is_seen (ds : List PD) (d : PD) : Prop := ∃ (W : Wk) (l : Lk), ds = [wkD W, tx (l.seen.map pqD)] ∧ l.Ok W ∧ d = .bool true
theorem f_is_seen {f : Addr} {fd : FuncData} {k : Nat} (F : FnP K "is_seen" s_is_seen f fd) (G1 : Dn P w K mg base k "is_pair" R_is_pair .c) (G2 : Dn P w K mg base k "rises" R_rises .c) (ma : mg "all" = none) (mt : mg "type" = none) (mtu : mg "tuple" = none) : FnOk P w K mg base CX0 (k + 1) f fd ["work", "thing"] (spF K R_is_seen .c) := by
  refine fn_mk F c_is_seen _ _ (fun ds d h => by obtain ⟨W, t, rfl, _⟩ := h; rfl) fun cdv A outer s H E hr ds d h => ?_
  obtain ⟨W, l, rfl, hl, rfl⟩ := h
  have hlen := hl.len
  refine dss_cons _ (ds_if (c := false) (DW.dt (dw_or (c1 := false) (c2 := false) ((dt_tyIsNotX hr mt mtu (de_v 1) PySem.TypeEq.meta_tuple boot_tuple).is (by decide)) (fun _ => dw_or1 ((dt_not (dt_val (de_all (bs := l.seen.map fun _ => true) ma rfl (de_lc (own := [(N_is_seen.getD 2 "", 2)]) (rs := (l.seen.map fun _ => true).map .bool) ?_ c_is_seen.nd (b_is_seen (by decide +kernel))).ke))).is ?_)))) (fun z => by cases z) (fun _ => dss_nil rfl)) ?_
  · rw [List.map_map]
    refine dlc l.seen pqD _ (di_tupX (de_v 1)) (fun x hm => ⟨[2], _, by simp, fun _ _ _ _ _ => ⟨dg_name 2 c_is_seen.nd, ?_⟩⟩) (by omega)
    obtain ⟨h1, h2, h3⟩ := hl.lines x hm
    exact de_call G1 hr (da_c (de_v 0) (da_c (de_v 2) da_nil)) ⟨W, x, rfl, h1, h2, h3, rfl⟩
  · rw [List.all_map, show l.seen.all (id ∘ fun _ => true) = true from List.all_eq_true.mpr fun _ _ => rfl]
    rfl
  · refine dss_one (ds_ret ((de_callT G2 hr (da_t (de_lc (own := [(N_is_seen.getD 2 "", 2)]) (rs := l.seen.map fun x => nD x.1) ?_ c_is_seen.nd (b_is_seen (by decide +kernel))) da_nil) ⟨true, l.seen.map (·.1), ?_, hl.rise, by rw [List.length_map]; exact hlen, rfl⟩).scal rfl) rfl)
    · exact dlc l.seen pqD _ (di_tupX (de_v 1)) (fun x hm => ⟨[2], _, by simp, fun _ _ _ _ _ => ⟨dg_name 2 c_is_seen.nd, de_ixT (de_v 2).ke de_int (atI_nat (j := 0) rfl)⟩⟩) (by omega)
    · show [PyData.list _] = [PyData.list _]
      rw [List.map_map]
      rfl
def R_is_look (ds : List PD) (d : PD) : Prop := ∃ (W : Wk) (l : Lk), ds = [wkD W, lkD l] ∧ W.Ok ∧ l.Ok W ∧ d = .bool true
theorem given_ok {W : Wk} {g : List Nat} (hg : Row W.ring W.inputs g) (hW : W.Ok) : Kn (rowT g) ∧ givenB W (rowT g) = true := by
  refine ⟨⟨rfl, fun xs e => ?_⟩, ?_⟩
  · have e1 : g.map nD = xs := PyData.tuple.inj e
    subst e1
    refine ⟨by rw [List.length_map, hg.1]; have := hW.i6; omega, fun x hx => ?_⟩
    obtain ⟨y, _, rfl⟩ := List.mem_map.mp hx
    rfl
  · show (decide (((g.map nD).length : Int) = W.inputs) && (g.map nD).all fun x => wholeIn x 0 (W.ring - 1)) = true
    rw [List.length_map, hg.1, decide_eq_true rfl, Bool.true_and, List.all_eq_true]
    intro x hx
    obtain ⟨y, hy, rfl⟩ := List.mem_map.mp hx
    have := hg.2 y hy
    show (decide ((0 : Int) ≤ (y : Int)) && decide ((y : Int) ≤ (W.ring : Int) - 1)) = true
    rw [decide_eq_true (by omega), decide_eq_true (by omega)]
    rfl
theorem f_is_look {f : Addr} {fd : FuncData} {k : Nat} (F : FnP K "is_look" s_is_look f fd) (G1 : Dn P w K mg base k "is_tuple_of" R_is_tuple_of .c) (G2 : Dn P w K mg base k "is_given" R_is_given .c) (G3 : Dn P w K mg base k "is_seen" R_is_seen .c) : FnOk P w K mg base CX0 (k + 1) f fd ["work", "thing"] (spF K R_is_look .c) := by
  refine fn_mk F c_is_look _ _ (fun ds d h => by obtain ⟨W, t, rfl, _⟩ := h; rfl) fun cdv A outer s H E hr ds d h => ?_
  obtain ⟨W, l, rfl, hW, hl, rfl⟩ := h
  obtain ⟨kn, gb⟩ := given_ok hl.g hW
  exact dss_one (ds_ret ((de_and (c1 := true) (c2 := true) ((de_call G1 hr (da_c (de_v 1) (da_c de_int da_nil)) ⟨_, 2, rfl, rfl, rfl⟩).is rfl) (fun _ => (de_and (c1 := true) (c2 := true) ((de_call G2 hr (da_c (de_v 0) (da_c (de_ixT (de_v 1).ke de_int (atI_nat (j := 0) rfl)) da_nil)) ⟨W, rowT l.g, rfl, kn, rfl⟩).is (by rw [gb])) (fun _ => de_one (de_call G3 hr (da_c (de_v 0) (da_c (de_ixT (de_v 1).ke de_int (atI_nat (j := 1) rfl)) da_nil)) ⟨W, l, rfl, hl, rfl⟩)))))) rfl)
def R_need_look (ds : List PD) (d : PD) : Prop := ∃ (W : Wk) (l : Lk), ds = [wkD W, lkD l] ∧ W.Ok ∧ l.Ok W ∧ d = .bool true
theorem f_need_look {f : Addr} {fd : FuncData} {k : Nat} (F : FnP K "need_look" s_need_look f fd) (G : Dn P w K mg base k "is_look" R_is_look .c) : FnOk P w K mg base CX0 (k + 1) f fd ["work", "thing"] (spF K R_need_look .c) := by
  refine fn_mk F c_need_look _ _ (fun ds d h => by obtain ⟨W, t, rfl, _⟩ := h; rfl) fun cdv A outer s H E hr ds d h => ?_
  obtain ⟨W, l, rfl, hW, hl, rfl⟩ := h
  refine dss_cons _ (ds_if (c := false) ((dt_not (dt_val (de_call G hr (da_c (de_v 0) (da_c (de_v 1) da_nil)) ⟨W, l, rfl, hW, hl, rfl⟩))).is rfl) (fun z => by cases z) (fun _ => dss_nil rfl)) ?_
  exact dss_one (ds_ret de_bl rfl)
def R_Search_look (S l : Addr) (ds xs xs' : List PD) (d : PD) : Prop := ∃ (W : Wk) (ls : List Lk) (q : Lk), ds = [seA S W l, rowT q.g, tx (q.seen.map pqD)] ∧ W.Ok ∧ q.Ok W ∧ ls.length < 1000 ∧ xs = ls.map lkD ∧ xs' = (ls ++ [q]).map lkD ∧ d = .none
theorem fX_Search_look {f : Addr} {fd : FuncData} {k : Nat} {S : Addr} (F : FunD K "look" "Search.look" (defArgs s_Search_look) (defBody s_Search_look) (defScope s_Search_look) [] [] f fd) (SK : SeK K S) (G1 : Dn P w K mg base k "need_look" R_need_look .c) : FnOk P w K mg base CX0 (k + 1) f fd ["self", "given", "seen"] (spM K (R_Search_look S)) := by
  refine fn_mkM 3 F c_Search_look _ (fun l ds xs xs' d h => by obtain ⟨W, ls, q, rfl, _⟩ := h; rfl) (hid_by (by kernel_rfl)) fun cdv A outer s H E hr l ds xs xs' d h => ?_
  obtain ⟨W, ls, q, rfl, hW, hq, hl, rfl, rfl, rfl⟩ := h
  refine dss_cons _ (ds_expr (de_call G1 hr (da_c (de_fld1 (d1 := wkD W) SK.cls SK.nw (de_v (d := seA S W l) 0)) (da_c ((de_tup (da_c (de_v (d := rowT q.g) 1) (da_c (de_v (d := tx (q.seen.map pqD)) 2) da_nil)) (by simp)).is rfl) da_nil)) ⟨W, q, rfl, hW, hq, rfl⟩) rfl) ?_
  refine dss_one (ds_appendG 3 (l := l) (ds := ls.map lkD) (d := lkD q) (de_fld2 (d2 := adD l) SK.cls SK.nl wl_ne (de_v (d := seA S W l) 0)) ((de_tup (da_c (de_v (d := rowT q.g) 1) (da_c (de_v (d := tx (q.seen.map pqD)) 2) da_nil)) (by simp)).is rfl) (by rw [List.length_map]; omega) ?_)
  refine ⟨rfl, ?_⟩
  rw [List.map_append]
  rfl
def R_Search_need_number (S : Addr) (ds : List PD) (d : PD) : Prop := ∃ (W : Wk) (ls : List Lk) (m : Nat), ds = [seD S W ls, nD m] ∧ m < ls.length ∧ d = .none
theorem f_Search_need_number {f : Addr} {fd : FuncData} {k : Nat} {S : Addr} (F : FunD K "_need_number" "Search._need_number" (defArgs s_Search_need_number) (defBody s_Search_need_number) (defScope s_Search_need_number) [] [] f fd) (SK : SeK K S) (G1 : Dn P w K mg base k "is_whole" R_is_whole .c) (ml : mg "len" = none) : FnOk P w K mg base CX0 (k + 1) f fd ["self", "thing"] (spF K (R_Search_need_number S) .c) := by
  refine fn_mkN F c_Search_need_number _ _ (fun ds d h => by obtain ⟨W, ls, m, rfl, _⟩ := h; rfl) fun cdv A outer s H E hr ds d h => ?_
  obtain ⟨W, ls, m, rfl, hm, rfl⟩ := h
  refine dss_one (ds_if (c := false) ((dt_not (dt_val (de_call G1 hr (da_c (de_v (d := nD m) 1) (da_c de_int (da_c (de_sub (de_lenL ml (de_fld2 (d2 := .list (ls.map lkD)) SK.cls SK.nl wl_ne (de_v (d := seD S W ls) 0)).ke) de_int) da_nil))) ⟨_, _, _, rfl, rfl, rfl⟩))).is ?_) (fun z => by cases z) (fun _ => dss_nil ⟨rfl, rfl⟩))
  rw [List.length_map]
  show (!(decide ((0 : Int) ≤ (m : Int)) && decide ((m : Int) ≤ (ls.length : Int) - 1))) = false
  rw [decide_eq_true (by omega), decide_eq_true (by omega)]
  rfl
def R_Search_see (S l : Addr) (ds xs xs' : List PD) (d : PD) : Prop := ∃ (W : Wk) (ls : List Lk) (m : Nat) (lk : Lk) (q : Nat × Nat), ds = [seA S W l, nD m, nD q.1, nD q.2] ∧ W.Ok ∧ ls[m]? = some lk ∧ lk.Ok W ∧ W.inputs ≤ q.1 ∧ q.1 < W.inputs + W.parts.length ∧ q.2 < W.ring ∧ q.1 ∉ lk.seen.map (·.1) ∧ xs = ls.map lkD ∧ xs' = (ls.set m (seeL lk q)).map lkD ∧ d = .none
theorem fX_Search_see {f : Addr} {fd : FuncData} {k : Nat} {S : Addr} (F : FunD K "see" "Search.see" (defArgs s_Search_see) (defBody s_Search_see) (defScope s_Search_see) [] [] f fd) (SK : SeK K S) (G1 : MDn P w K mg base k S "_need_number" (R_Search_need_number S) .c) (G2 : Dn P w K mg base k "is_pair" R_is_pair .c) (mt : mg "tuple" = none) (ms : mg "sorted" = none) : FnOk P w K mg base CX0 (k + 1) f fd ["self", "number", "line", "digit"] (spM K (R_Search_see S)) := by
  refine fn_mkM 7 F c_Search_see _ (fun l ds xs xs' d h => by obtain ⟨W, ls, m, lk, q, rfl, _⟩ := h; rfl) (hid_by (by kernel_rfl)) fun cdv A outer s H E hr l ds xs xs' d h => ?_
  obtain ⟨W, ls, m, lk, q, rfl, hW, hm, hlk, h1, h2, h3, hq, rfl, rfl, rfl⟩ := h
  have hlen : m < ls.length := (List.getElem?_eq_some_iff.mp hm).1
  have ha : atI (ls.map lkD) (m : Int) = some (lkD lk) := atI_nat (by rw [List.getElem?_map, hm]; rfl)
  have hsl := hlk.len
  refine dss_cons _ (ds_expr (de_thawC (l := l) (ds := ls.map lkD) (d := seA S W l) 7 0 wkn_se (de_meth G1 SK.cls hr (de_v (d := seD S W ls) 0) (da_c (de_v (d := nD m) 1) da_nil) ⟨W, ls, m, rfl, hlen, rfl⟩) rfl) rfl) ?_
  refine dss_cons _ (ds_asg (d := lkD lk) (de_ixG (l := l) (ds := ls.map lkD) 7 (de_fld2 (d2 := adD l) SK.cls SK.nl wl_ne (de_v (d := seA S W l) 0)) (de_v (d := nD m) 1) ha) (dg_tup rfl (dgs_cons (dg_name 4 c_Search_see.nd) (dgs_cons (dg_name 5 c_Search_see.nd) dgs_nil))) rfl) ?_
  refine dss_cons _ (ds_if (c := false) (DW.dt (dw_or (c1 := false) (c2 := false) ((dt_not (dt_val (de_call G2 hr (da_c (de_fld1 (d1 := wkD W) SK.cls SK.nw (de_v (d := seA S W l) 0)) (da_c ((de_tup (da_c (de_v (d := nD q.1) 2) (da_c (de_v (d := nD q.2) 3) da_nil)) (by simp)).is rfl) da_nil)) ⟨W, q, rfl, h1, h2, h3, rfl⟩))).is rfl) (fun _ => dw_or1 ((dt_inD hr (d := nD q.1) (ds := lk.seen.map fun p => nD p.1) (de_v 2) (de_lc (own := [(N_Search_see.getD 6 "", 6)]) ((dlc lk.seen pqD (fun p => nD p.1) (di_tupX (de_v (d := tx (lk.seen.map pqD)) 5)) (fun p hp => ⟨[6], _, by simp, fun _ _ _ _ _ => ⟨dg_name 6 c_Search_see.nd, de_ixT (de_v (d := pqD p) 6).ke de_int (atI_nat (j := 0) rfl)⟩⟩) (by omega))) c_Search_see.nd (b_Search_see (by decide +kernel))) ?_ ?_).is ?_)))) (fun z => by cases z) (fun _ => dss_nil rfl)) ?_
  · exact (pl_int 0 _).shaped (by decide)
  · exact (pl_list (n := 0) fun d hd => by
      obtain ⟨p, _, rfl⟩ := List.mem_map.mp hd
      exact pl_int 0 _).shaped (by decide)
  · rw [List.any_map, List.any_eq_false]
    intro p hp
    show ¬ PyData.eqv (.int (p.1 : Int)) (.int (q.1 : Int)) = true
    simp only [PyData.eqv, beq_iff_eq]
    intro z
    exact hq (List.mem_map.mpr ⟨p, hp, by omega⟩)
  refine dss_one (ds_setItemG (l := l) (ds := ls.map lkD) (j := m) 7 (d := lkD (seeL lk q)) ((de_tup (da_c (de_v (d := rowT lk.g) 4) (da_c (de_tupX mt (de_sortPq hr ms ((de_lst (da_starX (de_v (d := tx (lk.seen.map pqD)) 5) (da_c (de_tup (da_c (de_v (d := nD q.1) 2) (da_c (de_v (d := nD q.2) 3) da_nil)) (by simp)) da_nil)) ?_).ke.is ?_) hlk.rise hq).ke) da_nil)) (by simp)).is rfl) (de_fld2 (d2 := adD l) SK.cls SK.nl wl_ne (de_v (d := seA S W l) 0)) (de_v (d := nD m) 1) ?_ ?_)
  · simp; omega
  · rw [List.map_append]
    rfl
  · rw [List.length_map]
    exact ixN_nat hlen
  · refine ⟨rfl, ?_⟩
    rw [List.map_set]
    rfl
def R_Search_looks (S : Addr) (ds : List PD) (d : PD) : Prop := ∃ (W : Wk) (ls : List Lk), ds = [seD S W ls] ∧ d = .list (ls.map lkD)
theorem f_Search_looks {f : Addr} {fd : FuncData} {k : Nat} {S : Addr} (F : FunD K "looks" "Search.looks" (defArgs s_Search_looks) (defBody s_Search_looks) (defScope s_Search_looks) [] [] f fd) (SK : SeK K S) (ml : mg "list" = none) : FnOk P w K mg base CX0 (k + 1) f fd ["self"] (spF K (R_Search_looks S) .o) := by
  refine fn_mkN F c_Search_looks _ _ (fun ds d h => by obtain ⟨W, ls, rfl, _⟩ := h; rfl) fun cdv A outer s H E hr ds d h => ?_
  obtain ⟨W, ls, rfl, rfl⟩ := h
  exact dss_one (ds_ret (de_listL ml (de_fld2 (d2 := .list (ls.map lkD)) SK.cls SK.nl wl_ne (de_v (d := seD S W ls) 0)).ke) rfl)
def R_has_all (ds : List PD) (d : PD) : Prop := ∃ (c m : List Nat), ds = [rowT c, rowT m] ∧ m.length ≤ 1000 ∧ d = .bool (hasAll c m)
theorem f_has_all {f : Addr} {fd : FuncData} {k : Nat} (F : FnP K "has_all" s_has_all f fd) (ma : mg "all" = none) : FnOk P w K mg base CX0 (k + 1) f fd ["chosen", "numbers"] (spF K R_has_all .c) := by
  refine fn_mk F c_has_all _ _ (fun ds d h => by obtain ⟨c, m, rfl, _⟩ := h; rfl) fun cdv A outer s H E hr ds d h => ?_
  obtain ⟨c, m, rfl, hl, rfl⟩ := h
  refine dss_one (ds_ret ((de_all (bs := m.map fun x => decide (x ∈ c)) ma rfl (de_lc (own := [(N_has_all.getD 2 "", 2)]) (rs := (m.map fun x => decide (x ∈ c)).map .bool) ?_ c_has_all.nd (b_has_all (by decide +kernel))).ke).is ?_) rfl)
  · rw [List.map_map]
    exact dlc m nD _ (di_tup (de_v 1)) (fun x hm => ⟨[2], _, by simp, fun _ _ _ _ _ => ⟨dg_name 2 c_has_all.nd, de_inT (de_v 2) (de_v 0).ke⟩⟩) (by omega)
  · unfold hasAll
    rw [List.all_map]
    rfl
def R_is_set (ds : List PD) (d : PD) : Prop := ∃ (W : Wk) (b : List Nat), ds = [wkD W, rowT b] ∧ SetOk W b ∧ d = .bool true
theorem f_is_set {f : Addr} {fd : FuncData} {k : Nat} (F : FnP K "is_set" s_is_set f fd) (G1 : Dn P w K mg base k "is_whole" R_is_whole .c) (G2 : Dn P w K mg base k "rises" R_rises .c) (ml : mg "len" = none) (ma : mg "all" = none) (mt : mg "type" = none) (mtu : mg "tuple" = none) : FnOk P w K mg base CX0 (k + 1) f fd ["work", "thing"] (spF K R_is_set .c) := by
  refine fn_mk F c_is_set _ _ (fun ds d h => by obtain ⟨W, t, rfl, _⟩ := h; rfl) fun cdv A outer s H E hr ds d h => ?_
  obtain ⟨W, b, rfl, hb, rfl⟩ := h
  have hlen := hb.len
  refine dss_cons _ (ds_set 2 (d := .int ((W.parts.length : Int) - 1)) ((de_sub (de_lenL ml (de_ixT (de_v 0).ke de_int (atI_nat (j := 2) rfl)).ke) de_int).is (by rw [List.length_map])) rfl c_is_set.nd) ?_
  refine dss_cons _ (ds_if (c := false) (DW.dt (dw_or (c1 := false) (c2 := false) ((dt_tyIsNot hr mt mtu (de_v 1) rfl PySem.TypeEq.meta_tuple boot_tuple).is (by decide)) (fun _ => dw_or1 ((dt_not (dt_val (de_all (bs := b.map fun _ => true) ma rfl (de_lc (own := [(N_is_set.getD 3 "", 3)]) (rs := (b.map fun _ => true).map .bool) ?_ c_is_set.nd (b_is_set (by decide +kernel))).ke))).is ?_)))) (fun z => by cases z) (fun _ => dss_nil rfl)) ?_
  · rw [List.map_map]
    refine dlc b nD _ (di_tup (de_v 1)) (fun x hm => ⟨[3], _, by simp, fun _ _ _ _ _ => ⟨dg_name 3 c_is_set.nd, ?_⟩⟩) (by omega)
    have h1 := hb.lt x hm
    refine (de_call G1 hr (da_c (de_v 3) (da_c de_int (da_c (de_v 2) da_nil))) ⟨nD x, 0, _, rfl, rfl, rfl⟩).is ?_
    show PyData.bool (decide ((0 : Int) ≤ (x : Int)) && decide ((x : Int) ≤ (W.parts.length : Int) - 1)) = .bool true
    rw [decide_eq_true (by omega), decide_eq_true (by omega)]
    rfl
  · rw [List.all_map, show b.all (id ∘ fun _ => true) = true from List.all_eq_true.mpr fun _ _ => rfl]
    rfl
  · exact dss_one (ds_ret (de_call G2 hr (da_c (de_v 1) da_nil) ⟨false, b, rfl, hb.rise, hlen, rfl⟩) rfl)
def R_need_set (ds : List PD) (d : PD) : Prop := ∃ (W : Wk) (b : List Nat), ds = [wkD W, rowT b] ∧ SetOk W b ∧ d = .bool true
theorem f_need_set {f : Addr} {fd : FuncData} {k : Nat} (F : FnP K "need_set" s_need_set f fd) (G : Dn P w K mg base k "is_set" R_is_set .c) : FnOk P w K mg base CX0 (k + 1) f fd ["work", "thing"] (spF K R_need_set .c) := by
  refine fn_mk F c_need_set _ _ (fun ds d h => by obtain ⟨W, t, rfl, _⟩ := h; rfl) fun cdv A outer s H E hr ds d h => ?_
  obtain ⟨W, b, rfl, hb, rfl⟩ := h
  refine dss_cons _ (ds_if (c := false) ((dt_not (dt_val (de_call G hr (da_c (de_v 0) (da_c (de_v 1) da_nil)) ⟨W, b, rfl, hb, rfl⟩))).is rfl) (fun z => by cases z) (fun _ => dss_nil rfl)) ?_
  exact dss_one (ds_ret de_bl rfl)
def R_lines_in_use (ds : List PD) (d : PD) : Prop := ∃ (W : Wk) (seen : List (Nat × Nat)) (b kept : List Nat), ds = [wkD W, toldD seen, rowT b, rowT kept] ∧ W.Ok ∧ kept.Nodup ∧ kept.length ≤ 100 ∧ d = .list ((useAll W seen b kept).map rowL)
def luE (W : Wk) (seen : List (Nat × Nat)) (b kept us : List Nat) (done : List (List Nat)) : En := [some (.v (wkD W)), some (.v (toldD seen)), some (.v (rowT b)), some (.v (rowT kept)), none, some (.v (nD W.inputs)), some (.v (.list (W.parts.map ptD))), some (.o (usedD us)), some (.o (.list (done.map rowL))), none, none, none, none]
def luU (W : Wk) (seen : List (Nat × Nat)) (b kept : List Nat) (m : Nat) : List (List Nat) := (List.range m).map fun j => inUse W (usedN W seen b kept j) (W.parts.length - 1 - j)
theorem luU_succ (W : Wk) (seen : List (Nat × Nat)) (b kept : List Nat) (m : Nat) : luU W seen b kept (m + 1) = luU W seen b kept m ++ [inUse W (usedN W seen b kept m) (W.parts.length - 1 - m)] := by
  unfold luU
  rw [List.range_succ, List.map_append]
  rfl
theorem luU_rev (W : Wk) (seen : List (Nat × Nat)) (b kept : List Nat) : (luU W seen b kept W.parts.length).reverse = useAll W seen b kept := by
  unfold luU useAll
  apply List.ext_getElem
  · simp
  · intro i h1 h2
    have hi : i < W.parts.length := by simpa using h2
    simp only [List.getElem_reverse, List.getElem_map, List.getElem_range, List.length_map, List.length_range]
    unfold useAt
    congr 1
    omega
theorem f_lines_in_use {f : Addr} {fd : FuncData} {k : Nat} (F : FnP K "lines_in_use" s_lines_in_use f fd) (ml : mg "len" = none) (mr : mg "range" = none) (mv : mg "reversed" = none) : FnOk P w K mg base CX0 (k + 1) f fd ["work", "wanted", "broken", "kept"] (spF K R_lines_in_use .o) := by
  refine fn_mk F c_lines_in_use _ _ (fun ds d h => by obtain ⟨W, seen, b, kept, rfl, _⟩ := h; rfl) fun cdv A outer s H E hr ds d h => ?_
  obtain ⟨W, seen, b, kept, rfl, hW, hk, hkl, rfl⟩ := h
  have h10 := hW.p10
  have hi6 := hW.i6
  refine dss_cons _ (ds_asg (de_v 0) (dg_tup rfl (dgs_cons (dg_name 4 c_lines_in_use.nd) (dgs_cons (dg_name 5 c_lines_in_use.nd) (dgs_cons (dg_name 6 c_lines_in_use.nd) dgs_nil)))) rfl) ?_
  refine dss_cons _ (ds_setO 7 (de_dc (own := [(N_lines_in_use.getD 10 "", 10)]) (ddc kept nD (fun l => .inl (l : Int)) (fun _ => .bool true) (di_tup (de_v 3)) (fun x hx => ⟨[10], _, by simp, fun _ _ _ _ _ => ⟨dg_name 10 c_lines_in_use.nd, de_v 10, de_bl⟩⟩) (by omega) ?_) c_lines_in_use.nd (b_lines_in_use (by decide +kernel))) rfl c_lines_in_use.nd) ?_
  · exact List.pairwise_map.mpr (hk.imp fun h z => h (by have := Sum.inl.inj z; omega))
  refine dss_cons _ (ds_setO 8 (de_lst da_nil (by decide)) rfl c_lines_in_use.nd) ?_
  refine dss_cons (luE W seen b kept (usedN W seen b kept W.parts.length) (luU W seen b kept W.parts.length)) (ds_for ((List.range W.parts.length).reverse) nD (fun m => luE W seen b kept (usedN W seen b kept m) (luU W seen b kept m)) (di_revR mr mv ((de_lenL ml (de_v 6).ke).is (by rw [List.length_map])) (by omega)) ⟨rfl, rfl, rfl, rfl, rfl, rfl, rfl, rfl, trivial⟩ ?_ ?_) ?_
  · intro m x hx
    have hm : m < W.parts.length := by
      have := (List.getElem?_eq_some_iff.mp hx).1
      simpa using this
    have ex : x = W.parts.length - 1 - m := by
      rw [List.getElem?_reverse (by rw [List.length_range]; exact hm), List.length_range, List.getElem?_range (by omega)] at hx
      exact (Option.some.inj hx).symm
    have hxl : x < W.parts.length := by omega
    have hp := List.getElem?_eq_getElem hxl
    have hul := usedN_len W seen b kept m
    generalize hus : usedN W seen b kept m = us at hul
    refine ⟨_, _, dg_name 9 c_lines_in_use.nd, ?_⟩
    refine dss_cons _ (ds_set 10 (d := nD (W.inputs + x)) ((de_add (de_v 5) (de_v 9)).is rfl) rfl c_lines_in_use.nd) ?_
    refine dss_cons _ (ds_append 8 rfl (d := rowL (inUse W us x)) (de_lc (own := [(N_lines_in_use.getD 12 "", 12)]) (dlc_f (List.range' W.inputs (x + 1)) nD (fun l => decide (l ∈ us)) nD ((di_range2 mr (de_v 5) ((de_add (de_v 10) de_int).is rfl) (n := W.inputs + x + 1) (by omega) (by omega)).is (by rw [show W.inputs + x + 1 - W.inputs = x + 1 by omega]))
      (fun l _ => ⟨[12], _, by simp, fun _ _ _ _ _ => ⟨dg_name 12 c_lines_in_use.nd, dts_one ((dt_din (y := .inl (l : Int)) hr (de_v 12) (de_vo 7)).is ?_), fun _ => de_v 12⟩⟩) (by rw [List.length_range']; omega)) c_lines_in_use.nd (b_lines_in_use (by decide +kernel))).kc ?_ rfl) ?_
    · rw [valD_used]
      split
      · rename_i h; rw [decide_eq_true h]; rfl
      · rename_i h; rw [decide_eq_false h]; rfl
    · rw [List.length_map]
      unfold luU
      rw [List.length_map, List.length_range]
      omega
    have hc : (!decide (x ∈ b) && (decide (W.inputs + x ∈ us) || (getN seen (W.inputs + x)).isSome)) = useC W seen b us x := rfl
    have hnext : usedN W seen b kept (m + 1) = useS W seen b us x := by
      show useS W seen b (usedN W seen b kept m) (W.parts.length - 1 - m) = _
      rw [hus, ← ex]
    have hdone : luU W seen b kept (m + 1) = luU W seen b kept m ++ [inUse W us x] := by rw [luU_succ, hus, ← ex]
    have hd2 : (luU W seen b kept (m + 1)).map rowL = (luU W seen b kept m).map rowL ++ [rowL (inUse W us x)] := by rw [hdone, List.map_append]; rfl
    refine dss_one (ds_if (c := useC W seen b us x) (DW.dt (dw_and (dt_notInT (n := x) (de_v 9) (de_v 2).ke) (fun _ => dw_and1 (DW.dt (dw_or (c1 := decide (W.inputs + x ∈ us)) ((dt_din (y := .inl ((W.inputs + x : Nat) : Int)) hr (de_v 10) (de_vo 7)).is ?_) (fun _ => dw_or1 ((dt_din (y := .inl ((W.inputs + x : Nat) : Int)) hr (de_v 10) (de_v 1).ke).is ?_))))))) (fun ht => ?_) (fun hf => ?_))
    · rw [valD_used]
      split
      · rename_i h; rw [decide_eq_true h]; rfl
      · rename_i h; rw [decide_eq_false h]; rfl
    · rw [valD_told, Option.isSome_map]
    · have hnx : usedN W seen b kept (m + 1) = (W.parts[x].lines).foldl addU us := by
        rw [hnext]
        unfold useS
        rw [if_pos ht, List.getD_eq_getElem?_getD, hp]
        rfl
      have hl3 := lines_len W.parts[x]
      let I2 : Nat → En := fun j => [some (.v (wkD W)), some (.v (toldD seen)), some (.v (rowT b)), some (.v (rowT kept)), none, some (.v (nD W.inputs)), some (.v (.list (W.parts.map ptD))), some (.o (usedD ((W.parts[x].lines.take j).foldl addU us))), some (.o (.list ((luU W seen b kept (m + 1)).map rowL))), none, none, none, none]
      refine dss_one (ds_for W.parts[x].lines nD I2 ((di_tup (de_slT (de_ixL (de_v 6).ke (de_v 9) (atI_nat (j := x) (v := ptD W.parts[x]) (by rw [List.getElem?_map, hp]; rfl))) (do_some de_int) do_none)).is (cut_tail _ _)) ?_ ?_ ?_)
      · refine ⟨rfl, rfl, rfl, rfl, rfl, rfl, rfl, ?_, trivial⟩
        show some (Sl.o (PyData.list _)) = some (Sl.o (PyData.list _))
        rw [hd2]
      · intro j y hy
        have hj : j < W.parts[x].lines.length := (List.getElem?_eq_some_iff.mp hy).1
        have hlen := addU_all (W.parts[x].lines.take j) us
        rw [List.length_take] at hlen
        refine ⟨_, _, dg_name 11 c_lines_in_use.nd, dss_one (ds_dput 7 hr (y := .inl (y : Int)) rfl (de_v 11) de_bl (by rw [List.length_map]; omega) ⟨rfl, rfl, rfl, rfl, rfl, rfl, ?_, rfl, trivial⟩)⟩
        show some (Sl.o (dk _)) = some (Sl.o (usedD _))
        rw [putD_used, List.take_add_one, hy, Option.toList_some, List.foldl_append]
        rfl
      · show Lee _ _
        refine ⟨rfl, rfl, rfl, rfl, rfl, rfl, ?_, rfl, trivial⟩
        show some (Sl.o (usedD _)) = some (Sl.o (usedD _))
        rw [List.take_length, hnx]
    · refine dss_nil ⟨rfl, rfl, rfl, rfl, rfl, rfl, ?_, ?_, trivial⟩
      · show some (Sl.o (usedD _)) = some (Sl.o (usedD _))
        rw [hnext]
        unfold useS
        rw [if_neg (by rw [hf]; decide)]
      · show some (Sl.o (PyData.list _)) = some (Sl.o (PyData.list _))
        rw [hd2]
  · show luE _ _ _ _ _ _ = _
    rw [List.length_reverse, List.length_range]
  refine dss_cons _ (ds_reverse 8 rfl rfl) ?_
  refine dss_one (ds_retO 8 rfl rfl ?_)
  show PyData.list _ = PyData.list _
  rw [← List.map_reverse, luU_rev]
def R_given_of (ds : List PD) (d : PD) : Prop := ∃ (p : Pt) (b : Bool) (row : List Nat) (ring : Nat), ds = [ptD p, seqD b row, nD ring] ∧ (∀ l ∈ p.lines, l < row.length) ∧ 2 ≤ ring ∧ (∀ x ∈ row, x < ring) ∧ d = nD (give ring p row)
theorem f_given_of {f : Addr} {fd : FuncData} {k : Nat} (F : FnP K "given_of" s_given_of f fd) : FnOk P w K mg base CX0 (k + 1) f fd ["part", "digits", "ring"] (spF K R_given_of .c) := by
  refine fn_mk F c_given_of _ _ (fun ds d h => by obtain ⟨p, b, row, ring, rfl, _⟩ := h; rfl) fun cdv A outer s H E hr ds d h => ?_
  obtain ⟨p, b, row, ring, rfl, hl, h2, hx, rfl⟩ := h
  refine dss_cons _ (ds_set 3 (de_ixT (de_v 0).ke de_int (atI_nat (j := 0) rfl)) rfl c_given_of.nd) ?_
  refine dss_cons _ (ds_setLc 4 (own := [(N_given_of.getD 5 "", 5)]) (dlc p.lines nD (fun l => nD (row.getD l 0)) ((di_tup (de_slT (de_v 0) (do_some de_int) do_none)).is (cut_tail _ _))
    (fun l hm => ⟨[5], _, by simp, fun _ _ _ _ _ => ⟨dg_name 5 c_given_of.nd, de_row (de_v 1).ke (de_v 5) (hl l hm)⟩⟩) (by cases p <;> simp [Pt.lines])) rfl c_given_of.nd (b_given_of (by decide +kernel))) ?_
  cases p with
  | sum x y =>
    refine dss_consN (fun _ => False) (ds_if (dt_eqT (de_v 3) de_str) (fun _ => dss_one (ds_ret (de_mod (de_add (de_ixL (de_vo 4) de_int (atI_nat (j := 0) rfl)) (de_ixL (de_vo 4) de_int (atI_nat (j := 1) rfl))) (de_v 2) (by omega)) rfl)) (fun h => nF (deq _) h)) (fun _ h => h.elim)
  | stop x y =>
    refine dss_cons _ (ds_if (dt_eqT (de_v 3) de_str) (fun h => nT w_stop_sum h) (fun h => dss_nil rfl)) ?_
    refine dss_consN (fun _ => False) (ds_if (dt_eqT (de_v 3) de_str) (fun _ => dss_one (ds_ret (d := nD (if row.getD y 0 = 0 then row.getD x 0 else 0)) (de_if (dt_eqI (de_ixL (de_vo 4) de_int (atI_nat (j := 1) rfl)) de_int) (fun h => ?_) (fun h => ?_)) rfl)) (fun h => nF (deq _) h)) (fun _ h => h.elim)
    · exact (de_ixL (de_vo 4) de_int (atI_nat (j := 0) rfl)).is (by rw [if_pos (Int.ofNat.inj (of_decide_eq_true h))])
    · exact de_int.is (by rw [if_neg (fun z => of_decide_eq_false h (congrArg Int.ofNat z))]; rfl)
  | pick x y z =>
    refine dss_cons _ (ds_if (dt_eqT (de_v 3) de_str) (fun h => nT w_pick_sum h) (fun h => dss_nil rfl)) ?_
    refine dss_cons _ (ds_if (dt_eqT (de_v 3) de_str) (fun h => nT w_pick_stop h) (fun h => dss_nil rfl)) ?_
    refine dss_consN (fun _ => False) (ds_if (dt_eqT (de_v 3) de_str) (fun _ => dss_one (ds_ret (d := nD (if row.getD x 0 = 0 then row.getD y 0 else row.getD z 0)) (de_if (dt_eqI (de_ixL (de_vo 4) de_int (atI_nat (j := 0) rfl)) de_int) (fun h => ?_) (fun h => ?_)) rfl)) (fun h => nF (deq _) h)) (fun _ h => h.elim)
    · exact (de_ixL (de_vo 4) de_int (atI_nat (j := 1) rfl)).is (by rw [if_pos (Int.ofNat.inj (of_decide_eq_true h))])
    · exact (de_ixL (de_vo 4) de_int (atI_nat (j := 2) rfl)).is (by rw [if_neg (fun z => of_decide_eq_false h (congrArg Int.ofNat z))])
  | not x =>
    refine dss_cons _ (ds_if (dt_eqT (de_v 3) de_str) (fun h => nT w_not_sum h) (fun h => dss_nil rfl)) ?_
    refine dss_cons _ (ds_if (dt_eqT (de_v 3) de_str) (fun h => nT w_not_stop h) (fun h => dss_nil rfl)) ?_
    refine dss_cons _ (ds_if (dt_eqT (de_v 3) de_str) (fun h => nT w_not_pick h) (fun h => dss_nil rfl)) ?_
    refine dss_one (ds_ret (de_sub (de_sub (de_v 2) de_int) (de_ixL (de_vo 4) de_int (atI_nat (j := 0) rfl))) ?_)
    have e := hl x (by simp [Pt.lines])
    have e2 := hx _ (List.getElem_mem e)
    have e3 : row.getD x 0 < ring := by rw [List.getD_eq_getElem?_getD, List.getElem?_eq_getElem e]; exact e2
    show PyData.int _ = PyData.int ((ring - 1 - row.getD x 0 : Nat) : Int)
    congr 1
    omega
def R_fitting_digits (ds : List PD) (d : PD) : Prop := ∃ (W : Wk) (seen : List (Nat × Nat)) (b row : List Nat) (k : Nat), ds = [wkD W, rowT row, toldD seen, rowT b] ∧ W.Ok ∧ k < W.parts.length ∧ Row W.ring (W.inputs + k) row ∧ d = rowL (fitN W seen b row k)
theorem f_fitting_digits {f : Addr} {fd : FuncData} {k : Nat} (F : FnP K "fitting_digits" s_fitting_digits f fd) (G : Dn P w K mg base k "given_of" R_given_of .c) (ml : mg "len" = none) (mr : mg "range" = none) (mli : mg "list" = none) : FnOk P w K mg base CX0 (k + 1) f fd ["work", "row", "wanted", "broken"] (spF K R_fitting_digits .o) := by
  refine fn_mk F c_fitting_digits _ _ (fun ds d h => by obtain ⟨W, seen, b, row, j, rfl, _⟩ := h; rfl) fun cdv A outer s H E hr ds d h => ?_
  obtain ⟨W, seen, b, row, j, rfl, hW, hj, hrow, rfl⟩ := h
  have hr5 := hW.r5
  refine dss_cons _ (ds_asg (de_v 0) (dg_tup rfl (dgs_cons (dg_name 4 c_fitting_digits.nd) (dgs_cons (dg_name 5 c_fitting_digits.nd) (dgs_cons (dg_name 6 c_fitting_digits.nd) dgs_nil)))) rfl) ?_
  refine dss_cons _ (ds_set 7 (d := nD (W.inputs + j)) ((de_lenT ml (de_v 1).ke).is (by rw [List.length_map, hrow.1]; rfl)) rfl c_fitting_digits.nd) ?_
  refine dss_cons _ (ds_set 8 (d := nD j) ((de_sub (de_v 7) (de_v 5)).is (by show PyData.int (((W.inputs + j : Nat) : Int) - (W.inputs : Int)) = PyData.int (j : Int); congr 1; omega)) rfl c_fitting_digits.nd) ?_
  have hp := List.getElem?_eq_getElem hj
  have hget : W.parts.getD j (.not 0) = W.parts[j] := by rw [List.getD_eq_getElem?_getD, hp]; rfl
  let fe (c : List Nat) : En := [some (.v (wkD W)), some (.v (rowT row)), some (.v (toldD seen)), some (.v (rowT b)), some (.v (nD W.ring)), some (.v (nD W.inputs)), some (.v (.list (W.parts.map ptD))), some (.v (nD (W.inputs + j))), some (.v (nD j)), some (.o (rowL c)), none]
  refine dss_cons (fe (candN W b row j)) (ds_if (dt_inT (n := j) (de_v 8) (de_v 3).ke) (fun h => ?_) (fun h => ?_)) ?_
  · have e : candN W b row j = List.range W.ring := by unfold candN; rw [if_pos (of_decide_eq_true h)]
    refine dss_one (ds_setO 9 (d := rowL (candN W b row j)) ((de_listRg mr mli rfl (n := W.ring) (de_v 4) (by omega)).is ?_) rfl c_fitting_digits.nd)
    rw [e]
    rfl
  · have e : candN W b row j = [give W.ring W.parts[j] row] := by unfold candN; rw [if_neg (of_decide_eq_false h), hget]
    refine dss_one (ds_setO 9 (d := rowL (candN W b row j)) ((de_lst (da_c (de_call G hr (da_c (de_ixL (de_v 6).ke (de_v 8) (atI_nat (j := j) (v := ptD W.parts[j]) (by rw [List.getElem?_map, hp]; rfl))) (da_c (de_v 1) (da_c (de_v 4) da_nil))) ⟨W.parts[j], false, row, W.ring, rfl, fun l hl => ?_, hW.r2, hrow.2, rfl⟩) da_nil) (by simp)).is ?_) rfl c_fitting_digits.nd)
    · rw [e]; rfl
    · rw [hrow.1]; exact hW.lines j _ hp l hl
  have hcl : (candN W b row j).length ≤ 100000 := by have := candN_len hW b row j; omega
  refine dss_consN (fun z => z = fe (candN W b row j) ∧ getN seen (W.inputs + j) = none) (ds_if (c := (getN seen (W.inputs + j)).isSome) ((dt_din (y := .inl ((W.inputs + j : Nat) : Int)) hr (de_v 7) (de_v 2).ke).is (by rw [valD_told, Option.isSome_map])) (fun h => ?_) (fun h => dss_nil ⟨rfl, by cases q : getN seen (W.inputs + j) with | none => rfl | some v => rw [q] at h; cases h⟩)) fun en' he => ?_
  · obtain ⟨v, hv⟩ := Option.isSome_iff_exists.mp h
    refine DSs.freeze (i := 9) (dss_one (ds_ret (de_lc (own := [(N_fitting_digits.getD 10 "", 10)]) (dlc_f (candN W b row j) nD (fitsN W seen j) nD (di_list (de_v 9)) (fun x hx => ⟨[10], _, by simp, fun _ _ _ _ _ => ⟨dg_name 10 c_fitting_digits.nd, dts_one ((dt_eqI (de_v 10) (de_dget (y := .inl ((W.inputs + j : Nat) : Int)) (d := nD v) hr (de_v 2).ke (de_v 7) (by rw [valD_told, hv]; rfl))).is ?_), fun _ => de_v 10⟩⟩) hcl) c_fitting_digits.nd (b_fitting_digits (by decide +kernel))) rfl))
    unfold fitsN
    rw [hv]
    show decide ((x : Int) = (v : Int)) = decide (v = x)
    by_cases e : v = x
    · subst e; simp
    · rw [decide_eq_false e, decide_eq_false (fun z => e (by omega))]
  · obtain ⟨rfl, hn⟩ := he
    refine dss_one (ds_retO 9 rfl rfl ?_)
    show rowL _ = rowL _
    congr 1
    unfold fitN
    refine (List.filter_eq_self.mpr fun x _ => ?_).symm
    unfold fitsN
    rw [hn]
    exact decide_eq_true rfl
def R_thinned (ds : List PD) (d : PD) : Prop := ∃ (rows : List (List Nat)) (lines : List Nat), ds = [.list (rows.map rowT), rowL lines] ∧ (∀ row ∈ rows, ∀ l ∈ lines, l < row.length) ∧ rows.length < 100000 ∧ lines.length ≤ 100 ∧ d = .list ((thinA (keyN lines) rows).map rowT)
theorem f_thinned {f : Addr} {fd : FuncData} {k : Nat} (F : FnP K "thinned" s_thinned f fd) (mt : mg "tuple" = none) (ml : mg "list" = none) : FnOk P w K mg base CX0 (k + 1) f fd ["rows", "lines"] (spF K R_thinned .o) := by
  refine fn_mk F c_thinned _ _ (fun ds d h => by obtain ⟨rows, lines, rfl, _⟩ := h; rfl) fun cdv A outer s H E hr ds d h => ?_
  obtain ⟨rows, lines, rfl, hl, hn, hk, rfl⟩ := h
  refine dss_thin 2 3 rows rowT (keyN lines) hr (by decide) (by show 2 < 5; decide) (di_list (de_v 0)) rfl rfl (fun row hm => ?_) hn rfl rfl ml c_thinned.nd
  refine (de_tupL mt (de_lc (own := [(N_thinned.getD 4 "", 4)]) (dlc lines nD (fun l => nD (row.getD l 0)) (di_list (de_v 1)) (fun l hl2 => ⟨[4], _, by simp, fun _ _ _ _ _ => ⟨dg_name 4 c_thinned.nd, de_row (s := false) (de_v 3).ke (de_v 4) (hl row hm l hl2)⟩⟩) (by omega)) c_thinned.nd (b_thinned (by decide +kernel))).ke).is ?_
  unfold keyN
  rw [List.map_map]
  rfl
def rowsD (rows : List (List Nat)) : PD := .list (rows.map rowT)
def R_rows_of (ds : List PD) (d : PD) : Prop := ∃ (W : Wk) (l : Lk) (b kept : List Nat), ds = [wkD W, lkD l, rowT b, rowT kept] ∧ W.Ok ∧ W.Small ∧ l.Ok W ∧ kept.Nodup ∧ kept.length ≤ 100 ∧ d = rowsD (rowsP W l b kept W.parts.length)
def roE (W : Wk) (l : Lk) (b kept : List Nat) (k : Nat) : En := [some (.v (wkD W)), some (.v (lkD l)), some (.v (rowT b)), some (.v (rowT kept)), none, none, some (.v (toldD l.seen)), some (.v (rowsD (rowsP W l b kept k))), none, none, none, none, none]
theorem f_rows_of {f : Addr} {fd : FuncData} {k : Nat} (F : FnP K "rows_of" s_rows_of f fd) (G1 : Dn P w K mg base k "lines_in_use" R_lines_in_use .o) (G2 : Dn P w K mg base k "fitting_digits" R_fitting_digits .o) (G3 : Dn P w K mg base k "thinned" R_thinned .o) : FnOk P w K mg base CX0 (k + 1) f fd ["work", "look", "broken", "kept"] (spF K R_rows_of .c) := by
  refine fn_mk F c_rows_of _ _ (fun ds d h => by obtain ⟨W, l, b, kept, rfl, _⟩ := h; rfl) fun cdv A outer s H E hr ds d h => ?_
  obtain ⟨W, l, b, kept, rfl, hW, hS, hl, hk, hkl, rfl⟩ := h
  have hlen := hl.len
  have h10 := hW.p10
  refine dss_cons _ (ds_asg (de_v 1) (dg_tup rfl (dgs_cons (dg_name 4 c_rows_of.nd) (dgs_cons (dg_name 5 c_rows_of.nd) dgs_nil))) rfl) ?_
  refine dss_cons _ (ds_setO 6 (d := toldD l.seen) ((de_dc (own := [(N_rows_of.getD 10 "", 10), (N_rows_of.getD 11 "", 11)]) (ddc l.seen pqD (fun q => .inl (q.1 : Int)) (fun q => nD q.2) (di_tupX (de_v 5)) (fun x hx => ⟨[10, 11], _, by simp, fun _ _ _ _ _ => ⟨dg_tup rfl (dgs_cons (dg_name 10 c_rows_of.nd) (dgs_cons (dg_name 11 c_rows_of.nd) dgs_nil)), de_v 10, de_v 11⟩⟩) (by omega) ?_) c_rows_of.nd (b_rows_of (by decide +kernel))).is rfl) rfl c_rows_of.nd) ?_
  · have h := hl.nd
    rw [show (l.seen.map fun q => (.inl (q.1 : Int) : Ky)) = (l.seen.map (·.1)).map fun n : Nat => (.inl (n : Int) : Ky) by rw [List.map_map]; rfl]
    exact List.pairwise_map.mpr (h.imp fun h z => h (by have := Sum.inl.inj z; omega))
  refine DSs.freeze (i := 6) ?_
  refine dss_cons _ (ds_set 7 (d := rowsD (rowsP W l b kept 0)) ((de_lst (da_c (de_v 4) da_nil) (by simp)).kc.is rfl) rfl c_rows_of.nd) ?_
  refine dss_cons (roE W l b kept W.parts.length) (ds_for (useAll W l.seen b kept) rowL (roE W l b kept) (di_list (de_call G1 hr (da_c (de_v 0) (da_c (de_v 6) (da_c (de_v 2) (da_c (de_v 3) da_nil)))) ⟨W, l.seen, b, kept, rfl, hW, hk, hkl, rfl⟩).kc) ⟨rfl, rfl, rfl, rfl, rfl, rfl, trivial⟩ ?_ ?_) ?_
  · intro j x hx
    have hj : j < W.parts.length := by
      have := (List.getElem?_eq_some_iff.mp hx).1
      unfold useAll at this
      simpa using this
    have ex : x = useAt W l.seen b kept j := by
      unfold useAll at hx
      rw [List.getElem?_map, List.getElem?_range hj] at hx
      exact (Option.some.inj hx).symm
    subst ex
    have hrows := rowsP_rows (b := b) (kept := kept) hW hl j
    refine ⟨_, _, dg_name 8 c_rows_of.nd, ?_⟩
    refine dss_cons _ (ds_setLc2 9 (own := [(N_rows_of.getD 12 "", 12), (N_rows_of.getD 11 "", 11)]) (vs1 := [11]) (dlc2 (rowsP W l b kept j) rowT (fun row => fitN W l.seen b row j) nD (fun row d => rowT (row ++ [d])) (di_list (de_v 7)) (fun row hrow => ⟨[12], _, by simp, fun _ _ _ _ _ => ⟨dg_name 12 c_rows_of.nd, di_list (de_call G2 hr (da_c (de_v 0) (da_c (de_v 12) (da_c (de_v 6) (da_c (de_v 2) da_nil)))) ⟨W, l.seen, b, row, j, rfl, hW, hj, hrows row hrow, rfl⟩).kc,
      fun d hd => ⟨[11], _, by simp, fun _ _ _ _ _ => ⟨dg_name 11 c_rows_of.nd, (de_tup (da_star (de_v 12).ke (da_c (de_v 11) da_nil)) ?_).is ?_⟩⟩⟩⟩) ?_) rfl c_rows_of.nd (b_rows_of (by decide +kernel)) (by simp)) ?_
    · rw [List.length_append, List.length_map, (hrows row hrow).1]
      have := hW.i6
      simp
      omega
    · show PyData.tuple _ = PyData.tuple _
      rw [List.map_append]
      rfl
    · have h1 := extP_len hS hW l b kept hj
      unfold extN at h1
      rw [List.length_flatMap] at h1 ⊢
      simp only [List.length_map] at h1 ⊢
      omega
    have e1 : ((rowsP W l b kept j).flatMap fun row => (fitN W l.seen b row j).map fun d => rowT (row ++ [d])) = (extN W l.seen b j (rowsP W l b kept j)).map rowT := by
      unfold extN
      rw [List.map_flatMap]
      simp only [List.map_map]
      rfl
    rw [e1]
    refine DSs.freeze (i := 9) ?_
    refine dss_one (ds_set 7 (d := rowsD (rowsP W l b kept (j + 1))) ((de_call G3 hr (da_c (de_v 9) (da_c (de_v 8) da_nil)) ⟨extN W l.seen b j (rowsP W l b kept j), useAt W l.seen b kept j, rfl, fun row hrow y hy => ?_, extP_len hS hW l b kept hj, ?_, rfl⟩).kc.is rfl) ?_ c_rows_of.nd)
    · exact ⟨rfl, rfl, rfl, rfl, rfl, rfl, trivial⟩
    · rw [(extN_rows hW hrows row hrow).1]
      have h2 := (List.mem_filter.mp hy).1
      have h3 := List.mem_range'.mp h2
      omega
    · refine Nat.le_trans (List.length_filter_le _ _) ?_
      rw [List.length_range']
      omega
  · show roE W l b kept _ = _
    unfold useAll
    rw [List.length_map, List.length_range]
  exact dss_one (ds_ret (de_v 7) rfl)
def R_least_room (ds : List PD) (d : PD) : Prop := ∃ (W : Wk) (l : Lk) (b : List Nat), ds = [wkD W, lkD l, rowT b] ∧ W.Ok ∧ W.Small ∧ l.Ok W ∧ d = optD (roomO W l b)
theorem f_least_room {f : Addr} {fd : FuncData} {k : Nat} (F : FnP K "least_room" s_least_room f fd) (G : Dn P w K mg base k "rows_of" R_rows_of .c) : FnOk P w K mg base CX0 (k + 1) f fd ["work", "look", "broken"] (spF K R_least_room .c) := by
  refine fn_mk F c_least_room _ _ (fun ds d h => by obtain ⟨W, l, b, rfl, _⟩ := h; rfl) fun cdv A outer s H E hr ds d h => ?_
  obtain ⟨W, l, b, rfl, hW, hS, hl, rfl⟩ := h
  refine dss_cons _ (ds_set 3 (d := rowsD (rowsP W l b [] W.parts.length)) (de_call G hr (da_c (de_v 0) (da_c (de_v 1) (da_c (de_v 2) (da_c (de_tup da_nil (by simp)) da_nil)))) ⟨W, l, b, [], rfl, hW, hS, hl, .nil, by simp, rfl⟩) rfl c_least_room.nd) ?_
  refine dss_one (ds_ret (de_if (dt_truL (de_v 3).ke) (fun h => ?_) (fun h => ?_)) rfl)
  · unfold roomO
    cases e : rowsP W l b [] W.parts.length with
    | nil => rw [e] at h; cases h
    | cons r rs => exact de_ixL (de_v (d := .list (rowT r :: rs.map rowT)) 3).ke de_int (atI_nat (j := 0) rfl)
  · unfold roomO
    cases e : rowsP W l b [] W.parts.length with
    | nil => exact de_non
    | cons r rs => rw [e] at h; cases h
def R_rooms (ds : List PD) (d : PD) : Prop := ∃ (W : Wk) (ls : List Lk) (b : List Nat) (rs : List (List Nat)), ds = [wkD W, .list (ls.map lkD), rowT b] ∧ W.Ok ∧ W.Small ∧ (∀ l ∈ ls, l.Ok W) ∧ SetOk W b ∧ ls.length < 100000 ∧ (ls.map fun l => roomO W l b) = rs.map some ∧ d = .list (rs.map rowT)
def rsE (W : Wk) (ls : List Lk) (b : List Nat) (fs : List (List Nat)) : En := [some (.v (wkD W)), some (.v (.list (ls.map lkD))), some (.v (rowT b)), some (.o (.list (fs.map rowT))), none, none]
theorem f_rooms {f : Addr} {fd : FuncData} {k : Nat} (F : FnP K "rooms" s_rooms f fd) (G2 : Dn P w K mg base k "need_set" R_need_set .c) (G3 : Dn P w K mg base k "least_room" R_least_room .c) : FnOk P w K mg base CX0 (k + 1) f fd ["work", "looks", "broken"] (spF K R_rooms .o) := by
  refine fn_mk F c_rooms _ _ (fun ds d h => by obtain ⟨W, l, b, rs, rfl, _⟩ := h; rfl) fun cdv A outer s H E hr ds d h => ?_
  obtain ⟨W, ls, b, rs, rfl, hW, hS, hl, hb, hn, he, rfl⟩ := h
  have hlen : rs.length = ls.length := by have := congrArg List.length he; simpa using this.symm
  refine dss_cons _ (ds_expr (de_call G2 hr (da_c (de_v 0) (da_c (de_v 2) da_nil)) ⟨W, b, rfl, hb, rfl⟩) rfl) ?_
  refine dss_cons _ (ds_setO 3 (de_lst da_nil (by simp)) rfl c_rooms.nd) ?_
  refine dss_cons (rsE W ls b (rs.take ls.length)) (ds_for ls lkD (fun i => rsE W ls b (rs.take i)) (di_list (de_v 1)) ⟨rfl, rfl, rfl, rfl, trivial⟩ ?_ rfl) ?_
  · intro i l hx
    have hm := List.mem_of_getElem? hx
    have hi : i < ls.length := (List.getElem?_eq_some_iff.mp hx).1
    have hr2 : rs[i]? = some rs[i] := List.getElem?_eq_getElem (by omega)
    have e : roomO W l b = some rs[i] := by
      have h1 : (ls.map fun l => roomO W l b)[i]? = (rs.map some)[i]? := by rw [he]
      rw [List.getElem?_map, List.getElem?_map, hx, hr2] at h1
      exact Option.some.inj h1
    refine ⟨_, _, dg_name 4 c_rooms.nd, ?_⟩
    refine dss_cons _ (ds_set 5 (d := rowT rs[i]) ((de_call G3 hr (da_c (de_v 0) (da_c (de_v 4) (da_c (de_v 2) da_nil))) ⟨W, l, b, rfl, hW, hS, hl l hm, rfl⟩).is (by rw [e]; rfl)) rfl c_rooms.nd) ?_
    refine dss_cons _ (ds_if (c := false) (dt_isN (d := rowT rs[i]) (de_v 5)) (fun z => by cases z) (fun _ => dss_nil rfl)) ?_
    refine dss_one (ds_append 3 rfl (d := rowT rs[i]) (de_v 5) (by rw [List.length_map, List.length_take]; omega) ?_)
    refine ⟨rfl, rfl, rfl, ?_, trivial⟩
    show some (Sl.o (PyData.list _)) = some (Sl.o (PyData.list _))
    rw [List.take_add_one, hr2, List.map_append]
    rfl
  refine dss_one (ds_retO 3 rfl rfl ?_)
  rw [← hlen, List.take_length]
def R_roomsN (ds : List PD) (d : PD) : Prop := ∃ (W : Wk) (ls : List Lk) (b : List Nat), ds = [wkD W, .list (ls.map lkD), rowT b] ∧ W.Ok ∧ W.Small ∧ (∀ l ∈ ls, l.Ok W) ∧ SetOk W b ∧ ls.length < 100000 ∧ (∃ l ∈ ls, roomO W l b = none) ∧ d = .none
def rnE (W : Wk) (ls : List Lk) (b : List Nat) (fs : List (List Nat)) : En := [some (.v (wkD W)), some (.v (.list (ls.map lkD))), some (.v (rowT b)), some (.o (.list (fs.map rowT))), none, none]
theorem f_roomsN {f : Addr} {fd : FuncData} {k : Nat} (F : FnP K "rooms" s_rooms f fd) (G2 : Dn P w K mg base k "need_set" R_need_set .c) (G3 : Dn P w K mg base k "least_room" R_least_room .c) : FnOk P w K mg base CX0 (k + 1) f fd ["work", "looks", "broken"] (spF K R_roomsN .c) := by
  refine fn_mk F c_rooms _ _ (fun ds d h => by obtain ⟨W, l, b, rfl, _⟩ := h; rfl) fun cdv A outer s H E hr ds d h => ?_
  obtain ⟨W, ls, b, rfl, hW, hS, hl, hb, hn, he, rfl⟩ := h
  refine dss_cons _ (ds_expr (de_call G2 hr (da_c (de_v 0) (da_c (de_v 2) da_nil)) ⟨W, b, rfl, hb, rfl⟩) rfl) ?_
  refine dss_cons _ (ds_setO 3 (de_lst da_nil (by simp)) rfl c_rooms.nd) ?_
  let rs : List (List Nat) := ls.map fun l => (roomO W l b).getD []
  refine dss_consN (fun _ => False) (ds_forQ ls lkD (fun i => rnE W ls b (rs.take i)) (fun i => ∀ j l, j < i → ls[j]? = some l → roomO W l b ≠ none) (di_list (de_v 1)) ⟨rfl, rfl, rfl, rfl, trivial⟩ (fun j l h => by omega) ?_ ?_) (fun _ h => h.elim)
  · intro i l hx hq
    have hm := List.mem_of_getElem? hx
    have hi : i < ls.length := (List.getElem?_eq_some_iff.mp hx).1
    refine ⟨_, _, dg_name 4 c_rooms.nd, ?_⟩
    refine dss_cons _ (ds_set 5 (d := optD (roomO W l b)) (de_call G3 hr (da_c (de_v 0) (da_c (de_v 4) (da_c (de_v 2) da_nil))) ⟨W, l, b, rfl, hW, hS, hl l hm, rfl⟩) rfl c_rooms.nd) ?_
    cases e : roomO W l b with
    | none =>
      exact dss_consN (fun _ => False) (ds_if (c := true) (dt_isN (d := .none) (de_v 5)) (fun _ => dss_one (ds_ret de_non rfl)) (fun z => by cases z)) (fun _ h => h.elim)
    | some r =>
      refine dss_cons _ (ds_if (c := false) (dt_isN (d := rowT r) (de_v 5)) (fun z => by cases z) (fun _ => dss_nil rfl)) ?_
      refine dss_one (ds_append 3 rfl (d := rowT r) (de_v 5) (by rw [List.length_map, List.length_take]; omega) ?_)
      refine ⟨⟨rfl, rfl, rfl, ?_, trivial⟩, fun j l' hj hl' => ?_⟩
      · show some (Sl.o (PyData.list _)) = some (Sl.o (PyData.list _))
        have hr2 : rs[i]? = some r := by
          show (ls.map fun l => (roomO W l b).getD [])[i]? = _
          rw [List.getElem?_map, hx]
          show some ((roomO W l b).getD []) = some r
          rw [e]
          rfl
        rw [List.take_add_one, hr2, List.map_append]
        rfl
      · by_cases hji : j = i
        · subst hji
          rw [hx] at hl'
          cases hl'
          rw [e]
          intro z; cases z
        · exact hq j l' (by omega) hl'
  · intro hq
    obtain ⟨l, hm, hn0⟩ := he
    obtain ⟨j, hj⟩ := List.getElem?_of_mem hm
    exact hq j l (List.getElem?_eq_some_iff.mp hj).1 hj hn0
def loE (n : Nat) (f : Addr) (acc : List (List Nat)) (g0 g1 : Option Sl) : En := [some (.v (nD n)), some (.v (adD f)), some (.o (setsD acc)), none, none, none, g0, g1]
def loE2 (n x : Nat) (f : Addr) (acc : List (List Nat)) (g0 g1 : Option Sl) : En := [some (.v (nD n)), some (.v (adD f)), some (.o (setsD acc)), some (.v (nD x)), none, none, g0, g1]
abbrev cxLo (P : Program) (w : World) (K : PySem.W.Frag) (mg : Str → Option Value) (base : Heap) (g : Addr) (cdg : Value) (A : Around) (stack : List Env) (s : Shared) (H : Hp) : Cx := (cxOf CX0 P w K mg base N_least_of "least_of" (defScope s_least_of) g cdg A stack s H (fun _ _ _ => False)).nox
theorem bd_least_of {g f : Addr} {cdg : Value} {A : Around} {stack : List Env} {s : Shared} {H : Hp} {σ : L2.St} {cs : Caps} {n k : Nat} {p : List Nat → Bool} {g0 g1 : Option Sl} (hn : n ≤ 7) (hr : Room k (A.deeper (envOfC "least_of" (defScope s_least_of) s.heap.objs.size g cdg)))
    (G : Dn P w K mg base k "has_all" R_has_all .c) (many_ : mg "any" = none) (mr : mg "range" = none) (mc : mg "combinations" = some (.type "itertools.combinations"))
    (call : CallsD (cxLo P w K mg base g cdg A stack s H) σ cs 1 f "fits" (fun b => b ∈ allSets n) rowT p)
    (hgh : ∀ en : En, en[6]? = some g0 → en[7]? = some g1 → GhostOk σ cs en) :
    DSs (cxLo P w K mg base g cdg A stack s H) [some (.v (nD n)), some (.v (adD f)), none, none, none, none, g0, g1] (defBody s_least_of) { nx := fun _ => False, rk := .o, rt := fun z => z = setsD (leastP n p) } := by
  refine dss_cons _ (ds_setO 2 (de_lst da_nil (by simp)) rfl c_least_of.nd) ?_
  refine dss_cons (loE n f (leastP n p) g0 g1) (ds_for (List.range (n + 1)) nD (fun i => loE n f ((allTo n i).foldl (leastS p) []) g0 g1) ((di_rangeN mr (n := n + 1) ((de_add (de_v (d := nD n) 0) de_int).is (by show PyData.int _ = PyData.int _; congr 1)) (by omega)).is (by unfold rgD; rfl)) (Lee.refl _) ?_ ?_) ?_
  · intro i x hx
    have hxi : x = i ∧ i < n + 1 := by
      have hi : i < (List.range (n + 1)).length := (List.getElem?_eq_some_iff.mp hx).1
      rw [List.length_range] at hi
      rw [List.getElem?_range hi] at hx
      exact ⟨(Option.some.inj hx).symm, hi⟩
    obtain ⟨rfl, hi⟩ := hxi
    refine ⟨_, _, dg_name 3 c_least_of.nd, ?_⟩
    refine dss_one (ds_for (combs n x) rowT (fun j => loE2 n x f (((combs n x).take j).foldl (leastS p) ((allTo n x).foldl (leastS p) [])) g0 g1) (di_cmb (combs_chain hn (by omega)) (by omega) (by omega) mc mr (de_v (d := nD n) 0) (de_v (d := nD x) 3)) (Lee.refl _) ?_ ?_)
    · intro j c hc
      have hm := List.mem_of_getElem? hc
      have hcs : c ∈ allSets n := mem_allSets.mpr (subs_sub _ _ c hm)
      refine ⟨_, _, dg_name 4 c_least_of.nd, ?_⟩
      generalize hacc : ((combs n x).take j).foldl (leastS p) ((allTo n x).foldl (leastS p) []) = acc
      have hal : acc.length ≤ 256 ∧ ∀ c ∈ acc, c.length ≤ 1000 := hacc ▸ leastA_ok (p := p) (j := j) hn hi
      have ht : ((combs n x).take (j + 1)).foldl (leastS p) ((allTo n x).foldl (leastS p) []) = leastS p acc c := by
        rw [List.take_add_one, hc, List.foldl_append, hacc]
        rfl
      rw [ht]
      unfold leastS
      refine dss_one (ds_if (c := !(acc.any fun k => hasAll c k) && p c) (DT.frz 2 (d := setsD acc) (DW.dt (dw_and ((dt_not (dt_val (de_any (bs := acc.map fun m => hasAll c m) many_ rfl (de_lc (own := [(N_least_of.getD 5 "", 5)]) (rs := (acc.map fun m => hasAll c m).map .bool) ?_ c_least_of.nd (b_least_of (by decide +kernel))).ke))).is ?_) (fun _ => dw_and1 (dt_val (call _ _ _ _ c ?_ rfl hcs (de_v (d := rowT c) 4) (by kernel_rfl))))))) ?_ ?_)
      · rw [List.map_map]
        exact dlc acc rowT _ (di_list (de_v (d := setsD acc) 2)) (fun m hm => ⟨[5], _, by simp, fun _ _ _ _ _ => ⟨dg_name 5 c_least_of.nd, de_call G hr (da_c (de_v (d := rowT c) 4) (da_c (de_v 5) da_nil)) ⟨c, m, rfl, hal.2 m hm, rfl⟩⟩⟩) (by omega)
      · rw [List.any_map]
        rfl
      · exact hgh _ rfl rfl
      · intro h
        rw [if_pos h]
        refine dss_one (ds_append 2 rfl (d := rowT c) (de_v 4) (by rw [List.length_map]; omega) ?_)
        refine ⟨rfl, rfl, ?_, rfl, Lee.refl _⟩
        show some (Sl.o (PyData.list _)) = some (Sl.o (PyData.list _))
        rw [List.map_append]
        rfl
      · intro h
        rw [if_neg (by rw [h]; exact Bool.false_ne_true)]
        exact dss_nil ⟨rfl, rfl, rfl, rfl, Lee.refl _⟩
    · show Lee (loE n f ((allTo n (x + 1)).foldl (leastS p) []) g0 g1) _
      rw [allTo, List.foldl_append, List.take_length]
      exact ⟨rfl, rfl, rfl, Lee.refl _⟩
  · rw [List.length_range]
    rfl
  · exact dss_one (ds_retO 2 rfl rfl rfl)
def R_least_sets (ds : List PD) (d : PD) : Prop := ∃ (W : Wk) (ls : List Lk), ds = [wkD W, .list (ls.map lkD)] ∧ W.Ok ∧ W.Small ∧ W.parts.length ≤ 7 ∧ (∀ l ∈ ls, l.Ok W) ∧ ls.length < 100000 ∧ d = setsD (setsOf W ls)
theorem f_least_sets {f : Addr} {fd : FuncData} {k : Nat} (F : FnP K "least_sets" s_least_sets f fd) (T : LamT base mg fd.code ("least_sets" ++ ".<locals>." ++ "<lambda>")) (RL : Raw K mg "least_of" s_least_of ["many", "fits"]) (G1 : Dn P w K mg base k "has_all" R_has_all .c) (G2 : Dn P w K mg base k "rooms" R_rooms .o) (G3 : Dn P w K mg base k "rooms" R_roomsN .c)
    (ml : mg "len" = none) (many_ : mg "any" = none) (mr : mg "range" = none) (mc : mg "combinations" = some (.type "itertools.combinations")) : FnOk P w K mg base CX0 (k + 3) f fd ["work", "looks"] (spF K R_least_sets .o) := by
  refine fn_mkC F c_least_sets _ _ (fun ds d h => by obtain ⟨W, l, rfl, _⟩ := h; rfl) fun A outer s H E hr ds d h => ?_
  obtain ⟨W, ls, rfl, hW, hS, hp, hl, hn, rfl⟩ := h
  obtain ⟨c, Pt, hc, TB, hT, hu⟩ := T.ex
  obtain ⟨g, gd, FG, mg_, bg⟩ := RL.ex
  refine dss_one (ds_ret (de_lamcall (cs := [(0, 6, wkD W), (1, 7, .list (ls.map lkD))]) (j := 2) (z := "broken") (d1 := nD W.parts.length) (Dm := fun b => b ∈ allSets W.parts.length) (cb := rowT) (pr := roomsB W ls) (a1 := "many") (a2 := "fits") (i := 1) (n := k) FG c_least_of bg mg_ rfl TB hc hT hu hr (lamS_by (by kernel_rfl)) c_least_sets.nd ?_ ?_ ?_ (fun _ _ _ _ _ _ => rfl) ?_ ?_) rfl)
  · exact (de_lenL ml (de_ixT (de_v 0).ke de_int (atI_nat (j := 2) rfl)).ke).is (by rw [List.length_map]; rfl)
  · intro c hc
    rcases List.mem_cons.mp hc with rfl | hc
    · exact ⟨rfl, rfl⟩
    · rw [List.mem_singleton.mp hc]; exact ⟨rfl, rfl⟩
  · intro c hc y hy h
    rcases List.mem_cons.mp hc with rfl | hc
    · have e : y = "$0" := (Option.some.inj hy).symm
      subst e
      rcases h with h | h | h <;> exact absurd h (by decide +kernel)
    · rw [List.mem_singleton.mp hc] at hy
      have e : y = "$1" := (Option.some.inj hy).symm
      subst e
      rcases h with h | h | h <;> exact absurd h (by decide +kernel)
  · intro A outer s H f c' hroom b hb
    obtain ⟨h1, h2, h3⟩ := allSets_ok hb
    have hso : SetOk W b := ⟨h1, h2, by omega⟩
    cases e : roomsB W ls b with
    | true =>
      have hs : ∀ l ∈ ls, (roomO W l b).isSome = true := List.all_eq_true.mp e
      refine (de_isNot (ka := .c) (d := .list ((ls.map fun l => (roomO W l b).getD []).map rowT)) (de_call G2 hroom (da_c (de_v (d := wkD W) 0) (da_c (de_v (d := .list (ls.map lkD)) 1) (da_c (de_v (d := rowT b) 2) da_nil))) ⟨W, ls, b, ls.map fun l => (roomO W l b).getD [], rfl, hW, hS, hl, hso, hn, ?_, rfl⟩).kc).is rfl
      rw [List.map_map]
      refine List.map_congr_left fun l hl => ?_
      have := hs l hl
      cases q : roomO W l b with
      | none => rw [q] at this; cases this
      | some r =>
        show some r = some ((roomO W l b).getD [])
        rw [q]
        rfl
    | false =>
      have hs : ∃ l ∈ ls, roomO W l b = none := by
        obtain ⟨l, hm, hn⟩ := List.all_eq_false.mp e
        refine ⟨l, hm, ?_⟩
        cases q : roomO W l b with
        | none => rfl
        | some r => rw [q] at hn; exact absurd rfl hn
      exact (de_isNot (d := .none) (de_call G3 hroom (da_c (de_v (d := wkD W) 0) (da_c (de_v (d := .list (ls.map lkD)) 1) (da_c (de_v (d := rowT b) 2) da_nil))) ⟨W, ls, b, rfl, hW, hS, hl, hso, hn, hs, rfl⟩)).is rfl
  · intro cdg s' H' f' σ hr' calls
    refine bd_least_of (k := k + 1) hp hr' (G1.up (by omega)) many_ mr mc calls fun en h6 h7 c hc => ?_
    rcases List.mem_cons.mp hc with rfl | hc
    · exact h6
    · rw [List.mem_singleton.mp hc]; exact h7
def R_Search_sets (S : Addr) (ds : List PD) (d : PD) : Prop := ∃ (W : Wk) (ls : List Lk), ds = [seD S W ls] ∧ W.Ok ∧ W.Small ∧ W.parts.length ≤ 7 ∧ (∀ l ∈ ls, l.Ok W) ∧ ls.length < 100000 ∧ d = setsD (setsOf W ls)
theorem f_Search_sets {f : Addr} {fd : FuncData} {k : Nat} {S : Addr} (F : FunD K "sets" "Search.sets" (defArgs s_Search_sets) (defBody s_Search_sets) (defScope s_Search_sets) [] [] f fd) (SK : SeK K S) (G1 : Dn P w K mg base k "least_sets" R_least_sets .o) : FnOk P w K mg base CX0 (k + 1) f fd ["self"] (spF K (R_Search_sets S) .o) := by
  refine fn_mkN F c_Search_sets _ _ (fun ds d h => by obtain ⟨W, ls, rfl, _⟩ := h; rfl) fun cdv A outer s H E hr ds d h => ?_
  obtain ⟨W, ls, rfl, hW, hS, hp, hl, hn, rfl⟩ := h
  exact dss_one (ds_ret (de_call G1 hr (da_c (de_fld1 (d1 := wkD W) SK.cls SK.nw (de_v (d := seD S W ls) 0)) (da_c (de_fld2 (d2 := .list (ls.map lkD)) SK.cls SK.nl wl_ne (de_v (d := seD S W ls) 0)) da_nil)) ⟨W, ls, rfl, hW, hS, hp, hl, hn, rfl⟩) rfl)
def R_is_line (ds : List PD) (d : PD) : Prop := ∃ (W : Wk) (t : PD), ds = [wkD W, t] ∧ (typN t).isSome = true ∧ d = .bool (wholeIn t 0 (W.inputs + W.parts.length - 1))
theorem f_is_line {f : Addr} {fd : FuncData} {k : Nat} (F : FnP K "is_line" s_is_line f fd) (G : Dn P w K mg base k "is_whole" R_is_whole .c) (ml : mg "len" = none) : FnOk P w K mg base CX0 (k + 1) f fd ["work", "thing"] (spF K R_is_line .c) := by
  refine fn_mk F c_is_line _ _ (fun ds d h => by obtain ⟨W, t, rfl, _⟩ := h; rfl) fun cdv A outer s H E hr ds d h => ?_
  obtain ⟨W, t, rfl, ht, rfl⟩ := h
  refine dss_cons _ (ds_asg (de_v 0) (dg_tup rfl (dgs_cons (dg_name 2 c_is_line.nd) (dgs_cons (dg_name 3 c_is_line.nd) (dgs_cons (dg_name 4 c_is_line.nd) dgs_nil)))) rfl) ?_
  refine dss_one (ds_ret (de_call G hr (da_c (de_v 1) (da_c de_int (da_c (de_sub (de_add (de_v 3) (de_lenL ml (de_v 4).ke)) de_int) da_nil))) ⟨t, _, _, rfl, ht, rfl⟩) ?_)
  rw [List.length_map]
def R_shown (ds : List PD) (d : PD) : Prop := ∃ (W : Wk) (l : Lk) (b : List Nat) (line : Nat), ds = [wkD W, lkD l, rowT b, nD line] ∧ W.Ok ∧ W.Small ∧ l.Ok W ∧ SetOk W b ∧ line < W.inputs + W.parts.length ∧ d = rowL (digitsOf W.ring line (rowsP W l b [line] W.parts.length))
theorem f_shown {f : Addr} {fd : FuncData} {k : Nat} (F : FnP K "shown" s_shown f fd) (G1 : Dn P w K mg base k "need_look" R_need_look .c) (G2 : Dn P w K mg base k "need_set" R_need_set .c) (G3 : Dn P w K mg base k "is_line" R_is_line .c) (G4 : Dn P w K mg base k "rows_of" R_rows_of .c) (ms : mg "sorted" = none) : FnOk P w K mg base CX0 (k + 1) f fd ["work", "look", "broken", "line"] (spF K R_shown .o) := by
  refine fn_mk F c_shown _ _ (fun ds d h => by obtain ⟨W, l, b, _, rfl, _⟩ := h; rfl) fun cdv A outer s H E hr ds d h => ?_
  obtain ⟨W, l, b, line, rfl, hW, hS, hl, hb, hline, rfl⟩ := h
  have h5 := hW.r5
  have hrows := rowsP_rows (b := b) (kept := [line]) hW hl W.parts.length
  refine dss_cons _ (ds_expr (de_call G1 hr (da_c (de_v 0) (da_c (de_v 1) da_nil)) ⟨W, l, rfl, hW, hl, rfl⟩) rfl) ?_
  refine dss_cons _ (ds_expr (de_call G2 hr (da_c (de_v 0) (da_c (de_v 2) da_nil)) ⟨W, b, rfl, hb, rfl⟩) rfl) ?_
  refine dss_cons _ (ds_if (c := false) ((dt_not (dt_val (de_call G3 hr (da_c (de_v 0) (da_c (de_v 3) da_nil)) ⟨W, nD line, rfl, rfl, rfl⟩))).is ?_) (fun z => by cases z) (fun _ => dss_nil rfl)) ?_
  · show (!(decide ((0 : Int) ≤ (line : Int)) && decide ((line : Int) ≤ (W.inputs : Int) + (W.parts.length : Int) - 1))) = false
    rw [decide_eq_true (by omega), decide_eq_true (by omega)]
    rfl
  refine dss_cons _ (ds_set 4 (d := rowsD (rowsP W l b [line] W.parts.length)) (de_call G4 hr (da_c (de_v 0) (da_c (de_v 1) (da_c (de_v 2) (da_c (de_tup (da_c (de_v 3) da_nil) (by simp)) da_nil)))) ⟨W, l, b, [line], rfl, hW, hS, hl, by simp, by simp, rfl⟩) rfl c_shown.nd) ?_
  refine dss_one (ds_ret (de_sortSi (own := [(N_shown.getD 5 "", 5)]) (rowsP W l b [line] W.parts.length) rowT (fun row => row.getD line 0) (digitsOf W.ring line (rowsP W l b [line] W.parts.length)) (di_list (de_v 4)) (fun row hr => ⟨[5], _, by simp, fun _ _ _ _ _ => ⟨dg_name 5 c_shown.nd, de_row (s := false) (de_v 5).ke (de_v 3) (by rw [(hrows row hr).1]; exact hline)⟩⟩)
    (digitsOf_rise _ _ _) (digitsOf_mem hrows hline) (Nat.lt_of_le_of_lt (digitsOf_len _ _ _) (by omega)) ms c_shown.nd (b_shown (by decide +kernel))) rfl)
def R_load_of (ds : List PD) (d : PD) : Prop := ∃ (W : Wk) (l : Lk) (S : List (List Nat)) (line : Nat), ds = [wkD W, lkD l, setsD S, nD line] ∧ W.Ok ∧ W.Small ∧ l.Ok W ∧ (∀ s ∈ S, SetOk W s) ∧ line < W.inputs + W.parts.length ∧ d = nD (loadN W l S line)
def ld10E (W : Wk) (l : Lk) (S : List (List Nat)) (line : Nat) (c : List Nat) : En := [some (.v (wkD W)), some (.v (lkD l)), some (.v (setsD S)), some (.v (nD line)), some (.o (.list (c.map nD))), none, none]
theorem f_load_of {f : Addr} {fd : FuncData} {k : Nat} (F : FnP K "load_of" s_load_of f fd) (G : Dn P w K mg base k "shown" R_shown .o) (mm : mg "max" = none) : FnOk P w K mg base CX0 (k + 1) f fd ["work", "look", "sets", "line"] (spF K R_load_of .c) := by
  refine fn_mk F c_load_of _ _ (fun ds d h => by obtain ⟨W, l, b, _, rfl, _⟩ := h; rfl) fun cdv A outer s H E hr ds d h => ?_
  obtain ⟨W, l, S, line, rfl, hW, hS, hl, hs, hline, rfl⟩ := h
  have hr2 := hW.r2
  have hr5 := hW.r5
  refine dss_cons (ld10E W l S line (List.replicate W.ring 0)) (ds_setO 4 ((de_repL (n := W.ring) (de_lst (da_c de_int da_nil) (by simp)) (de_ixT (de_v (d := wkD W) 0).ke de_int (atI_nat (j := 0) rfl)) (by show 1 * W.ring ≤ 100000; omega) (by omega)).is (congrArg PyData.list (rep_zero W.ring))) rfl c_load_of.nd) ?_
  refine dss_cons (ld10E W l S line (loadC W l S line)) (ds_for S rowT (fun i => ld10E W l S line (cntL W.ring ((S.map fun s => shL W l s line).take i))) (di_list (de_v (d := setsD S) 2)) (Lee.refl _) ?_ ?_) ?_
  · intro i b hx
    have hb := hs b (List.mem_of_getElem? hx)
    have hx2 : (S.map fun s => shL W l s line)[i]? = some (shL W l b line) := by rw [List.getElem?_map, hx]; rfl
    rw [cnt_take hx2]
    have hcl : (cntL W.ring ((S.map fun s => shL W l s line).take i)).length = W.ring := cntL_len
    generalize cntL W.ring ((S.map fun s => shL W l s line).take i) = c at hcl
    refine ⟨_, _, dg_name 5 c_load_of.nd, ?_⟩
    refine dss_one (ds_for (shL W l b line) nD (fun j => (ld10E W l S line (cntS c ((shL W l b line).take j))).set 5 (some (.v (rowT b)))) (di_list ((de_call G hr (da_c (de_v (d := wkD W) 0) (da_c (de_v (d := lkD l) 1) (da_c (de_v (d := rowT b) 5) (da_c (de_v (d := nD line) 3) da_nil)))) ⟨W, l, b, line, rfl, hW, hS, hl, hb, hline, rfl⟩).kc.is (by rw [shown_same hW hl hline]; rfl))) (Lee.refl _) ?_ ?_)
    · intro j dg hd
      have hlt := shL_lt _ (List.mem_of_getElem? hd)
      rw [cntS_take hd]
      have hcl2 : (cntS c ((shL W l b line).take j)).length = W.ring := by rw [cntS_len, hcl]
      generalize cntS c ((shL W l b line).take j) = c2 at hcl2
      refine ⟨_, _, dg_name 6 c_load_of.nd, ?_⟩
      refine dss_one (ds_augI (i := dg) (m := 1) (c := c2.getD dg 0) 4 (ns := c2) (de_v (d := nD dg) 6) de_int (by rw [List.getD_eq_getElem?_getD, List.getElem?_eq_getElem (by omega)]; rfl) ?_)
      exact ⟨rfl, rfl, rfl, rfl, rfl, rfl, trivial⟩
    · rw [List.take_length]
      exact ⟨rfl, rfl, rfl, rfl, rfl, trivial⟩
  · show ld10E W l S line (cntL W.ring ((S.map fun s => shL W l s line).take S.length)) = _
    rw [show S.length = (S.map fun s => shL W l s line).length by rw [List.length_map], List.take_length]
    rfl
  have hcl : (loadC W l S line).length = W.ring := cntL_len
  exact dss_one (ds_ret (de_maxN rfl mm (de_vo 4) (fun z => by rw [z] at hcl; simp at hcl; omega)) rfl)
def R_Search_next_line (S : Addr) (ds : List PD) (d : PD) : Prop := ∃ (W : Wk) (ls : List Lk) (m : Nat) (lk : Lk), ds = [seD S W ls, nD m] ∧ W.Ok ∧ W.Small ∧ W.parts.length ≤ 7 ∧ (∀ l ∈ ls, l.Ok W) ∧ ls.length < 1000 ∧ ls[m]? = some lk ∧ d = pqD (nextN W lk (setsOf W ls))
def nlE (S : Addr) (W : Wk) (ls : List Lk) (m : Nat) (lk : Lk) (n : Nat) : En := [some (.v (seD S W ls)), some (.v (nD m)), none, some (.v (nD W.inputs)), some (.v (.list (W.parts.map ptD))), some (.v (setsD (setsOf W ls))), some (.o (.list (((List.range n).map fun k => (loadN W lk (setsOf W ls) (W.inputs + k), W.inputs + k)).map pqD))), none, none]
theorem sets_setOk {W : Wk} {ls : List Lk} (h : W.parts.length ≤ 7) : ∀ s ∈ setsOf W ls, SetOk W s := fun s hs => by
  obtain ⟨h1, h2, h3⟩ := allSets_ok (leastP_mem hs).1
  exact ⟨h1, h2, by omega⟩
theorem f_Search_next_line {f : Addr} {fd : FuncData} {k : Nat} {S : Addr} (F : FunD K "next_line" "Search.next_line" (defArgs s_Search_next_line) (defBody s_Search_next_line) (defScope s_Search_next_line) [] [] f fd) (SK : SeK K S) (G1 : MDn P w K mg base k S "_need_number" (R_Search_need_number S) .c) (G2 : MDn P w K mg base k S "sets" (R_Search_sets S) .o) (G3 : Dn P w K mg base k "load_of" R_load_of .c) (ml : mg "len" = none) (mr : mg "range" = none) (mm : mg "min" = none) : FnOk P w K mg base CX0 (k + 1) f fd ["self", "number"] (spF K (R_Search_next_line S) .c) := by
  refine fn_mkN F c_Search_next_line _ _ (fun ds d h => by obtain ⟨W, ls, m, lk, rfl, _⟩ := h; rfl) fun cdv A outer s H E hr ds d h => ?_
  obtain ⟨W, ls, m, lk, rfl, hW, hS, hp, hls, hln, hm, rfl⟩ := h
  have hlen : m < ls.length := (List.getElem?_eq_some_iff.mp hm).1
  have hlk : lk.Ok W := hls lk (List.mem_of_getElem? hm)
  have h10 := hW.p10
  have h1 := hW.p1
  have h6 := hW.i6
  refine dss_cons _ (ds_expr (de_meth G1 SK.cls hr (de_v (d := seD S W ls) 0) (da_c (de_v (d := nD m) 1) da_nil) ⟨W, ls, m, rfl, hlen, rfl⟩) rfl) ?_
  refine dss_cons _ (ds_asg (de_fld1 (d1 := wkD W) SK.cls SK.nw (de_v (d := seD S W ls) 0)) (dg_tup rfl (dgs_cons (dg_name 2 c_Search_next_line.nd) (dgs_cons (dg_name 3 c_Search_next_line.nd) (dgs_cons (dg_name 4 c_Search_next_line.nd) dgs_nil)))) rfl) ?_
  refine dss_cons _ (ds_set 5 (d := setsD (setsOf W ls)) (de_meth0 G2 SK.cls hr (de_v (d := seD S W ls) 0) ⟨W, ls, rfl, hW, hS, hp, hls, Nat.lt_of_lt_of_le hln (by decide), rfl⟩).kc rfl c_Search_next_line.nd) ?_
  refine dss_cons _ (ds_setO 6 (de_lst da_nil (by simp)) rfl c_Search_next_line.nd) ?_
  have e : W.inputs + W.parts.length - W.inputs = W.parts.length := by omega
  refine dss_cons (nlE S W ls m lk W.parts.length) (ds_for (List.range' W.inputs (W.inputs + W.parts.length - W.inputs)) nD (nlE S W ls m lk) (di_range2 mr (m := W.inputs) (n := W.inputs + W.parts.length) (de_v (d := nD W.inputs) 3) ((de_add (de_v (d := nD W.inputs) 3) (de_lenL ml (de_v (d := .list (W.parts.map ptD)) 4).ke)).is (by rw [List.length_map]; rfl)) (by omega) (by omega)) ⟨rfl, rfl, rfl, rfl, rfl, rfl, trivial⟩ ?_ ?_) ?_
  · intro i x hx
    have hi : i < W.parts.length := by have := (List.getElem?_eq_some_iff.mp hx).1; rw [List.length_range', e] at this; exact this
    have ex : x = W.inputs + i := by
      rw [List.getElem?_range' (by omega)] at hx
      have := Option.some.inj hx
      omega
    subst ex
    refine ⟨_, _, dg_name 7 c_Search_next_line.nd, ?_⟩
    refine dss_one (ds_append 6 rfl (d := pqD (loadN W lk (setsOf W ls) (W.inputs + i), W.inputs + i)) ((de_tup (da_c (de_call G3 hr (da_c (de_fld1 (d1 := wkD W) SK.cls SK.nw (de_v (d := seD S W ls) 0)) (da_c (de_ixL (de_fld2 (d2 := .list (ls.map lkD)) SK.cls SK.nl wl_ne (de_v (d := seD S W ls) 0)).ke (de_v (d := nD m) 1) (atI_nat (by rw [List.getElem?_map, hm]; rfl))) (da_c (de_v (d := setsD (setsOf W ls)) 5) (da_c (de_v (d := nD (W.inputs + i)) 7) da_nil)))) ⟨W, lk, setsOf W ls, W.inputs + i, rfl, hW, hS, hlk, sets_setOk hp, by omega, rfl⟩) (da_c (de_v (d := nD (W.inputs + i)) 7) da_nil)) (by simp)).is rfl) (by rw [List.length_map, List.length_map, List.length_range]; omega) ?_)
    refine ⟨rfl, rfl, rfl, rfl, rfl, ?_, trivial⟩
    show some (Sl.o (PyData.list _)) = some (Sl.o (PyData.list _))
    rw [List.range_succ, List.map_append, List.map_append]
    rfl
  · show nlE S W ls m lk (List.range' W.inputs (W.inputs + W.parts.length - W.inputs)).length = _
    rw [List.length_range', e]
  obtain ⟨p0, ps, hp0⟩ : ∃ p0 ps, (List.range W.parts.length).map (fun k => (loadN W lk (setsOf W ls) (W.inputs + k), W.inputs + k)) = p0 :: ps := by
    cases q : (List.range W.parts.length).map (fun k => (loadN W lk (setsOf W ls) (W.inputs + k), W.inputs + k)) with
    | nil =>
      have := congrArg List.length q
      rw [List.length_map, List.length_range] at this
      have h2 : W.parts.length = 0 := this
      omega
    | cons p ps => exact ⟨p, ps, rfl⟩
  have hq := minQ_idx (g := fun k => loadN W lk (setsOf W ls) (W.inputs + k)) hp0
  refine dss_cons _ (ds_asg (d := .tuple [nD (nextN W lk (setsOf W ls)).2, nD (nextN W lk (setsOf W ls)).1]) ((de_minPq (p0 := p0) (ps := ps) hr rfl mm ((de_vo 6).is (by rw [hp0]))).is (by rw [hq]; rfl)) (dg_tup rfl (dgs_cons (dg_name 8 c_Search_next_line.nd) (dgs_cons (dg_name 7 c_Search_next_line.nd) dgs_nil))) rfl) ?_
  exact dss_one (ds_ret ((de_tup (da_c (de_v (d := nD (nextN W lk (setsOf W ls)).1) 7) (da_c (de_v (d := nD (nextN W lk (setsOf W ls)).2) 8) da_nil)) (by simp)).is rfl) rfl)
def R__law_all (ds : List PD) (d : PD) : Prop := ∃ (W : Wk) (g : List Nat) (seen : List (Nat × Nat)) (b : List Nat), ds = [wkD W, rowT g, toldD seen, rowT b] ∧ W.Ok ∧ W.Small ∧ Row W.ring W.inputs g ∧ d = .list ((rowsL W g seen b W.parts.length).map rowL)
def laE (W : Wk) (g : List Nat) (seen : List (Nat × Nat)) (b : List Nat) (n : Nat) : En := [some (.v (wkD W)), some (.v (rowT g)), some (.v (toldD seen)), some (.v (rowT b)), some (.v (.list ((rowsL W g seen b n).map rowL))), none, none, none, none, none, none]
def laE2 (W : Wk) (g : List Nat) (seen : List (Nat × Nat)) (b : List Nat) (n : Nat) (more : List (List Nat)) : En := [some (.v (wkD W)), some (.v (rowT g)), some (.v (toldD seen)), some (.v (rowT b)), some (.v (.list ((rowsL W g seen b n).map rowL))), some (.v (nD n)), some (.v (nD (W.inputs + n))), some (.o (.list (more.map rowL))), none, none, none]
def laE3 (W : Wk) (g : List Nat) (seen : List (Nat × Nat)) (b : List Nat) (n : Nat) (row : List Nat) (more : List (List Nat)) : En := [some (.v (wkD W)), some (.v (rowT g)), some (.v (toldD seen)), some (.v (rowT b)), some (.v (.list ((rowsL W g seen b n).map rowL))), some (.v (nD n)), some (.v (nD (W.inputs + n))), some (.o (.list (more.map rowL))), some (.v (rowL row)), none, none]
theorem extN_take (W : Wk) (seen : List (Nat × Nat)) (b : List Nat) (k : Nat) (rows : List (List Nat)) (i : Nat) : (extN W seen b k (rows.take i)).length ≤ (extN W seen b k rows).length := by
  have e : extN W seen b k rows = extN W seen b k (rows.take i) ++ extN W seen b k (rows.drop i) := by
    unfold extN
    rw [← List.flatMap_append, List.take_append_drop]
  rw [e, List.length_append]
  omega
theorem f__law_all {f : Addr} {fd : FuncData} {k : Nat} (F : FnP K "_law_all" s__law_all f fd) (G : Dn P w K mg base k "_law_due" R__law_due .c) (ml : mg "list" = none) (mn : mg "len" = none) (mr : mg "range" = none) : FnOk P w K mg base CX0 (k + 1) f fd (N__law_all.take 4) (spF K R__law_all .c) := by
  refine fn_mk F c__law_all _ _ (fun ds d h => by obtain ⟨W, g, _, _, rfl, _⟩ := h; rfl) fun cdv A outer s H E hr ds d h => ?_
  obtain ⟨W, g, seen, b, rfl, hW, hS, hg, rfl⟩ := h
  have h10 := hW.p10
  have h5 := hW.r5
  have h6 := hW.i6
  refine dss_cons _ (ds_set 4 (d := .list ((rowsL W g seen b 0).map rowL)) ((de_lst (da_c (de_listT ml (de_v 1).ke).kc da_nil) (by simp)).kc.is rfl) rfl c__law_all.nd) ?_
  refine dss_cons (laE W g seen b W.parts.length) (ds_for (List.range W.parts.length) nD (laE W g seen b) (di_rangeN mr ((de_lenL mn (de_ixT (de_v 0).ke de_int (atI_nat (j := 2) rfl)).ke).is (by rw [List.length_map])) (by omega)) ⟨rfl, rfl, rfl, rfl, rfl, trivial⟩ ?_ ?_) ?_
  · intro i x hx
    have hi : i < W.parts.length := by have := (List.getElem?_eq_some_iff.mp hx).1; rwa [List.length_range] at this
    rw [List.getElem?_range hi] at hx
    cases hx
    have hp := List.getElem?_eq_getElem hi
    have hget : W.parts.getD i (.not 0) = W.parts[i] := by rw [List.getD_eq_getElem?_getD, hp]; rfl
    have hrows := rowsL_rows (seen := seen) (b := b) hW hg i
    have hsz : (extN W seen b i (rowsL W g seen b i)).length < 100000 := by
      have h1 := hS.at hW (k := i + 1) hi
      have h2 := rowsL_len hW g seen b (i + 1)
      exact Nat.lt_of_le_of_lt h2 h1
    refine ⟨_, _, dg_name 5 c__law_all.nd, ?_⟩
    refine dss_cons _ (ds_set 6 (d := nD (W.inputs + i)) ((de_add (de_ixT (de_v 0).ke de_int (atI_nat (j := 1) rfl)) (de_v 5)).is rfl) rfl c__law_all.nd) ?_
    refine dss_cons _ (ds_setO 7 (de_lst da_nil (by simp)) rfl c__law_all.nd) ?_
    refine dss_cons (laE2 W g seen b i (extN W seen b i (rowsL W g seen b i))) (ds_for (rowsL W g seen b i) rowL (fun j => laE2 W g seen b i (extN W seen b i ((rowsL W g seen b i).take j))) (di_list (de_v 4)) ⟨rfl, rfl, rfl, rfl, rfl, rfl, rfl, rfl, trivial⟩ ?_ ?_) ?_
    · intro j row hx
      have hm := List.mem_of_getElem? hx
      have hrow := hrows row hm
      have hjl : j < (rowsL W g seen b i).length := (List.getElem?_eq_some_iff.mp hx).1
      have hnext : extN W seen b i ((rowsL W g seen b i).take (j + 1)) = extN W seen b i ((rowsL W g seen b i).take j) ++ (fitN W seen b row i).map fun d => row ++ [d] := by
        unfold extN
        rw [List.take_add_one, hx, List.flatMap_append]
        simp
      have hsz2 : (extN W seen b i ((rowsL W g seen b i).take j)).length + (fitN W seen b row i).length < 100000 := by
        have h1 := extN_take W seen b i (rowsL W g seen b i) (j + 1)
        rw [hnext, List.length_append, List.length_map] at h1
        omega
      generalize hmore : extN W seen b i ((rowsL W g seen b i).take j) = more at hnext hsz2
      refine ⟨_, _, dg_name 8 c__law_all.nd, ?_⟩
      refine dss_cons _ (ds_setO 9 (d := rowL [give W.ring W.parts[i] row]) ((de_lst (da_c (de_call G hr (da_c (de_ixL (de_ixT (de_v 0).ke de_int (atI_nat (j := 2) rfl)).ke (de_v 5) (atI_nat (j := i) (v := ptD W.parts[i]) (by rw [List.getElem?_map, hp]; rfl))) (da_c (de_v 8) (da_c (de_ixT (de_v 0).ke de_int (atI_nat (j := 0) rfl)) da_nil))) ⟨W.parts[i], true, row, W.ring, rfl, fun l hl => (by rw [hrow.1]; exact hW.lines i _ hp l hl), hW.r2, hrow.2, rfl⟩) da_nil) (by simp)).is rfl) rfl c__law_all.nd) ?_
      refine dss_cons ((laE3 W g seen b i row more).set 9 (some (.o (rowL (candN W b row i))))) (ds_if (dt_inT (n := i) (de_v 5) (de_v 3).ke) (fun h => ?_) (fun h => ?_)) ?_
      · refine dss_one (ds_setO 9 (d := rowL (candN W b row i)) ((de_listRg mr ml rfl (n := W.ring) (de_ixT (de_v 0).ke de_int (atI_nat (j := 0) rfl)) (by omega)).is ?_) rfl c__law_all.nd)
        unfold candN
        rw [if_pos (of_decide_eq_true h)]
        rfl
      · refine dss_nil ?_
        show _ = (laE3 W g seen b i row more).set 9 (some (.o (rowL (candN W b row i))))
        unfold candN
        rw [if_neg (of_decide_eq_false h), hget]
        rfl
      refine DSs.freeze (i := 9) ?_
      refine dss_one (ds_for (candN W b row i) nD (fun z => (laE3 W g seen b i row (more ++ ((candN W b row i).take z |>.filter (fitsN W seen i)).map fun d => row ++ [d]))) (di_list (de_v 9)) ?_ ?_ ?_)
      · refine ⟨rfl, rfl, rfl, rfl, rfl, rfl, rfl, ?_, rfl, trivial⟩
        show some (Sl.o (PyData.list _)) = some (Sl.o (PyData.list _))
        rw [List.take_zero, List.filter_nil, List.map_nil, List.append_nil]
      · intro z dgt hz
        have hzl : z < (candN W b row i).length := (List.getElem?_eq_some_iff.mp hz).1
        have htk : ((candN W b row i).take (z + 1)).filter (fitsN W seen i) = ((candN W b row i).take z).filter (fitsN W seen i) ++ if fitsN W seen i dgt = true then [dgt] else [] := by
          rw [List.take_add_one, hz, List.filter_append]
          congr 1
          show List.filter _ [dgt] = _
          rw [List.filter_cons, List.filter_nil]
        have hsz3 : (more ++ ((candN W b row i).take z |>.filter (fitsN W seen i)).map fun d => row ++ [d]).length < 100000 := by
          rw [List.length_append, List.length_map]
          have h1 : (((candN W b row i).take z).filter (fitsN W seen i)).length ≤ (fitN W seen b row i).length := by
            unfold fitN
            have e : (candN W b row i).filter (fitsN W seen i) = ((candN W b row i).take z).filter (fitsN W seen i) ++ ((candN W b row i).drop z).filter (fitsN W seen i) := by rw [← List.filter_append, List.take_append_drop]
            rw [e, List.length_append]
            omega
          omega
        refine ⟨_, _, dg_name 10 c__law_all.nd, ?_⟩
        refine dss_one (ds_if (c := fitsN W seen i dgt) ((dt_eqI (i := ((((getN seen (W.inputs + i)).getD dgt : Nat)) : Int)) ((de_dget2 (y := .inl ((W.inputs + i : Nat) : Int)) hr (de_v 2).ke (de_v 6) (de_v 10)).is ?_) (de_v 10)).is ?_) (fun ht => ?_) (fun hf => ?_))
        · rw [valD_told]
          cases getN seen (W.inputs + i) <;> rfl
        · unfold fitsN
          congr 1
          apply propext
          omega
        · refine dss_one (ds_append 7 rfl (d := rowL (row ++ [dgt])) ((de_cat (de_v 8) (de_lst (da_c (de_v 10) da_nil) (by simp)) (by rw [List.length_map, hrow.1]; show W.inputs + i + 1 ≤ 100000; omega)).kc.is ?_) (by rw [List.length_map]; exact hsz3) ?_)
          · show PyData.list _ = PyData.list _
            rw [List.map_append]
            rfl
          · refine ⟨rfl, rfl, rfl, rfl, rfl, rfl, rfl, ?_, rfl, trivial⟩
            show some (Sl.o (PyData.list _)) = some (Sl.o (PyData.list _))
            rw [htk, if_pos ht, List.map_append, List.map_append, List.map_append, List.map_append, List.append_assoc]
            rfl
        · refine dss_nil ⟨rfl, rfl, rfl, rfl, rfl, rfl, rfl, ?_, rfl, trivial⟩
          show some (Sl.o (PyData.list _)) = some (Sl.o (PyData.list _))
          rw [htk, if_neg (by rw [hf]; decide), List.append_nil]
      · refine ⟨rfl, rfl, rfl, rfl, rfl, rfl, rfl, ?_, trivial⟩
        show some (Sl.o (PyData.list _)) = some (Sl.o (PyData.list _))
        rw [hnext, List.take_length]
        rfl
    · show laE2 W g seen b i (extN W seen b i ((rowsL W g seen b i).take (rowsL W g seen b i).length)) = _
      rw [List.take_length]
    refine DSs.freeze (i := 7) (dss_one (ds_set 4 (de_v 7) ?_ c__law_all.nd))
    exact ⟨rfl, rfl, rfl, rfl, rfl, trivial⟩
  · show laE W g seen b _ = _
    rw [List.length_range]
  exact dss_one (ds_ret (de_v 4) rfl)
def R__law_load (ds : List PD) (d : PD) : Prop := ∃ (W : Wk) (l : Lk) (S : List (List Nat)) (line : Nat), ds = [wkD W, setsD S, lkD l, nD line] ∧ W.Ok ∧ W.ring ^ W.parts.length < 4000 ∧ l.Ok W ∧ line < W.inputs + W.parts.length ∧ d = nD (loadN W l S line)
def llE (W : Wk) (l : Lk) (S : List (List Nat)) (line : Nat) (c : List Nat) : En := [some (.v (wkD W)), some (.v (setsD S)), some (.v (lkD l)), some (.v (nD line)), some (.o (.list (c.map nD))), none, none, none, none]
theorem f__law_load {f : Addr} {fd : FuncData} {k : Nat} (F : FnP K "_law_load" s__law_load f fd) (G : Dn P w K mg base k "_law_all" R__law_all .c) (mm : mg "max" = none) (md : mg "dict" = none) (ms : mg "sorted" = none) (mt : mg "set" = none) : FnOk P w K mg base CX0 (k + 1) f fd (N__law_load.take 4) (spF K R__law_load .c) := by
  refine fn_mk F c__law_load _ _ (fun ds d h => by obtain ⟨W, l, b, _, rfl, _⟩ := h; rfl) fun cdv A outer s H E hr ds d h => ?_
  obtain ⟨W, l, S, line, rfl, hW, h4, hl, hline, rfl⟩ := h
  have hr2 := hW.r2
  have hr5 := hW.r5
  have hS : W.Small := Nat.lt_trans h4 (by decide)
  refine dss_cons (llE W l S line (List.replicate W.ring 0)) (ds_setO 4 ((de_repL (n := W.ring) (de_lst (da_c de_int da_nil) (by simp)) (de_ixT (de_v (d := wkD W) 0).ke de_int (atI_nat (j := 0) rfl)) (by show 1 * W.ring ≤ 100000; omega) (by omega)).is (congrArg PyData.list (rep_zero W.ring))) rfl c__law_load.nd) ?_
  refine dss_cons (llE W l S line (loadC W l S line)) (ds_for S rowT (fun i => llE W l S line (cntL W.ring ((S.map fun s => shL W l s line).take i))) (di_list (de_v (d := setsD S) 1)) (Lee.refl _) ?_ ?_) ?_
  · intro i b hx
    have hx2 : (S.map fun s => shL W l s line)[i]? = some (shL W l b line) := by rw [List.getElem?_map, hx]; rfl
    rw [cnt_take hx2]
    have hcl : (cntL W.ring ((S.map fun s => shL W l s line).take i)).length = W.ring := cntL_len
    generalize cntL W.ring ((S.map fun s => shL W l s line).take i) = c at hcl
    have hrows := rowsL_rows (seen := l.seen) (b := b) hW hl.g W.parts.length
    have hlen := rowsL_len hW l.g l.seen b W.parts.length
    refine ⟨_, _, dg_name 5 c__law_load.nd, ?_⟩
    refine dss_cons _ (ds_set 6 (d := .list ((rowsL W l.g l.seen b W.parts.length).map rowL)) (de_call G hr (da_c (de_v (d := wkD W) 0) (da_c (de_ixT (de_v (d := lkD l) 2).ke de_int (atI_nat (j := 0) rfl)) (da_c (de_dictX rfl md (de_ixT (de_v (d := lkD l) 2).ke de_int (atI_nat (j := 1) rfl)) hl.nd).kc (da_c (de_v (d := rowT b) 5) da_nil)))) ⟨W, l.g, l.seen, b, rfl, hW, hS, hl.g, rfl⟩) rfl c__law_load.nd) ?_
    refine dss_one (ds_for (shL W l b line) nD (fun j => ((llE W l S line (cntS c ((shL W l b line).take j))).set 5 (some (.v (rowT b)))).set 6 (some (.v (.list ((rowsL W l.g l.seen b W.parts.length).map rowL))))) (di_list (de_sortSet (ms := (rowsL W l.g l.seen b W.parts.length).map fun row => row.getD line 0) (shL W l b line) ms mt (de_lc (own := [(N__law_load.getD 8 "", 8)]) ((dlc (rowsL W l.g l.seen b W.parts.length) rowL (fun row => nD (row.getD line 0)) (di_list (de_v 6)) (fun row hrow => ⟨[8], _, by simp, fun _ _ _ _ _ => ⟨dg_name 8 c__law_load.nd, de_row (s := true) (de_v 8).ke (de_v 3) (by rw [(hrows row hrow).1]; exact hline)⟩⟩) (by omega)).is (by rw [List.map_map]; rfl)) c__law_load.nd (b__law_load (by decide +kernel))).ke
      (by rw [List.length_map]; unfold scanBound; omega) (digitsOf_rise _ _ _) (fun d => (digitsOf_mem hrows hline d).trans List.mem_map.symm) (Nat.lt_of_le_of_lt (digitsOf_len _ _ _) (by omega))).kc) (Lee.refl _) ?_ ?_)
    · intro j dg hd
      have hlt := shL_lt _ (List.mem_of_getElem? hd)
      rw [cntS_take hd]
      have hcl2 : (cntS c ((shL W l b line).take j)).length = W.ring := by rw [cntS_len, hcl]
      generalize cntS c ((shL W l b line).take j) = c2 at hcl2
      have hat : atI (c2.map nD) (dg : Int) = some (nD (c2.getD dg 0)) := atI_nat (by rw [List.getElem?_map, List.getElem?_eq_getElem (by omega), List.getD_eq_getElem?_getD, List.getElem?_eq_getElem (by omega)]; rfl)
      refine ⟨_, _, dg_name 7 c__law_load.nd, ?_⟩
      refine dss_one (ds_setItemO 4 (ds := c2.map nD) (m := dg) (d := nD (c2.getD dg 0 + 1)) ((de_add (de_ixL (de_vo 4) (de_v (d := nD dg) 7) hat) de_int).is rfl) (de_v (d := nD dg) 7) (by rw [List.length_map]; exact ixN_nat (by omega)) ?_)
      refine ⟨rfl, rfl, rfl, rfl, ?_, rfl, rfl, trivial⟩
      show some (Sl.o (PyData.list _)) = some (Sl.o (PyData.list _))
      unfold addC
      rw [List.map_set]
    · rw [List.take_length]
      exact ⟨rfl, rfl, rfl, rfl, rfl, trivial⟩
  · show llE W l S line (cntL W.ring ((S.map fun s => shL W l s line).take S.length)) = _
    rw [show S.length = (S.map fun s => shL W l s line).length by rw [List.length_map], List.take_length]
    rfl
  have hcl : (loadC W l S line).length = W.ring := cntL_len
  exact dss_one (ds_ret (de_maxN rfl mm (de_vo 4) (fun z => by rw [z] at hcl; simp at hcl; omega)) rfl)
def R__law_next (ds : List PD) (d : PD) : Prop := ∃ (W : Wk) (l : Lk) (S : List (List Nat)), ds = [wkD W, setsD S, lkD l] ∧ W.Ok ∧ W.ring ^ W.parts.length < 4000 ∧ l.Ok W ∧ d = pqD (nextN W l S)
theorem f__law_next {f : Addr} {fd : FuncData} {k : Nat} (F : FnP K "_law_next" s__law_next f fd) (G : Dn P w K mg base k "_law_load" R__law_load .c) (ml : mg "len" = none) (mr : mg "range" = none) (mm : mg "min" = none) : FnOk P w K mg base CX0 (k + 1) f fd (N__law_next.take 3) (spF K R__law_next .c) := by
  refine fn_mk F c__law_next _ _ (fun ds d h => by obtain ⟨W, l, b, rfl, _⟩ := h; rfl) fun cdv A outer s H E hr ds d h => ?_
  obtain ⟨W, l, S, rfl, hW, h4, hl, rfl⟩ := h
  have h10 := hW.p10
  refine dss_cons _ (ds_setLc 3 (own := [(N__law_next.getD 4 "", 4)]) (rs := (loadsN W l S).map nD) ((dlc (List.range W.parts.length) nD (fun k => nD (loadN W l S (W.inputs + k))) (di_rangeN (n := W.parts.length) mr ((de_lenL ml (de_ixT (de_v (d := wkD W) 0).ke de_int (atI_nat (j := 2) rfl)).ke).is (by rw [List.length_map])) (by omega)) (fun k hk => ⟨[4], _, by simp, fun _ _ _ _ _ => ⟨dg_name 4 c__law_next.nd, de_call G hr (da_c (de_v (d := wkD W) 0) (da_c (de_v (d := setsD S) 1) (da_c (de_v (d := lkD l) 2) (da_c (de_add (de_ixT (de_v (d := wkD W) 0).ke de_int (atI_nat (j := 1) rfl)) (de_v (d := nD k) 4)) da_nil)))) ⟨W, l, S, W.inputs + k, rfl, hW, h4, hl, by have := List.mem_range.mp hk; omega, rfl⟩⟩⟩) (by rw [List.length_range]; omega)).is ?_) rfl c__law_next.nd (b__law_next (by decide +kernel))) ?_
  · unfold loadsN
    rw [List.map_map]
    rfl
  have hne := loadsN_ne (l := l) (S := S) hW
  exact dss_one (ds_ret ((de_tup (da_c (de_add (de_ixT (de_v (d := wkD W) 0).ke de_int (atI_nat (j := 1) rfl)) (de_index (de_vo (d := .list ((loadsN W l S).map nD)) 3) (de_minN rfl mm (de_vo (d := .list ((loadsN W l S).map nD)) 3) hne) (minN_spec hne).1)) (da_c (de_minN rfl mm (de_vo (d := .list ((loadsN W l S).map nD)) 3) hne) da_nil)) (by simp)).is rfl) rfl)
def R__law_whole (ds : List PD) (d : PD) : Prop := ∃ n : Int, ds = [.int n] ∧ d = .bool true
theorem f__law_whole {f : Addr} {fd : FuncData} {k : Nat} (F : FnP K "_law_whole" s__law_whole f fd) (mI : mg "isinstance" = none) (mi : mg "int" = none) (mb : mg "bool" = none) : FnOk P w K mg base CX0 (k + 1) f fd ["_law_thing"] (spF K R__law_whole .c) := by
  refine fn_mk F c__law_whole _ _ (fun ds d h => by obtain ⟨n, rfl, _⟩ := h; rfl) fun cdv A outer s H E hr ds d h => ?_
  obtain ⟨n, rfl, rfl⟩ := h
  exact dss_one (ds_ret (de_and (de_isi mI mi (de_v 0) rfl kit_ii boot_int) (fun _ => de_one (de_not (de_isi mI mb (de_v 0) rfl kit_ib boot_bool)))) rfl)
def R__law_all_good (S : Addr) (ds : List PD) (d : PD) : Prop := ∃ (W : Wk) (ls : List Lk), ds = [seD S W ls, wkD W] ∧ W.Ok ∧ W.ring ^ W.parts.length < 4000 ∧ W.parts.length ≤ 7 ∧ (∀ l ∈ ls, l.Ok W) ∧ ls.length < 1000 ∧ d = .bool true
def agE (S : Addr) (W : Wk) (ls : List Lk) : En := [some (.v (seD S W ls)), some (.v (wkD W)), some (.v (setsD (setsOf W ls))), none, none, none]
theorem f__law_all_good {f : Addr} {fd : FuncData} {k : Nat} {S : Addr} (F : FnP K "_law_all_good" s__law_all_good f fd) (SK : SeK K S) (G1 : MDn P w K mg base k S "sets" (R_Search_sets S) .o) (G2 : MDn P w K mg base k S "looks" (R_Search_looks S) .o) (G3 : MDn P w K mg base k S "next_line" (R_Search_next_line S) .c) (Gn : Dn P w K mg base k "_law_next" R__law_next .c) (Gw : Dn P w K mg base k "_law_whole" R__law_whole .c) (me : mg "enumerate" = none) (mi : mg "isinstance" = none) (mt : mg "tuple" = none) (ml : mg "len" = none) : FnOk P w K mg base CX0 (k + 1) f fd (N__law_all_good.take 2) (spF K (R__law_all_good S) .c) := by
  refine fn_mk F c__law_all_good _ _ (fun ds d h => by obtain ⟨W, ls, rfl, _⟩ := h; rfl) fun cdv A outer s H E hr ds d h => ?_
  obtain ⟨W, ls, rfl, hW, h4, hp, hls, hln, rfl⟩ := h
  have hS : W.Small := Nat.lt_trans h4 (by decide)
  have hl5 : ls.length < 100000 := by omega
  have sht : ∀ cs : List (List Nat), SeqAt.shaped (setsD cs) = true := fun cs => (pl_sets cs).shaped (by decide)
  refine dss_cons (agE S W ls) (ds_set 2 (d := setsD (setsOf W ls)) (de_meth0 G1 SK.cls hr (de_v (d := seD S W ls) 0) ⟨W, ls, rfl, hW, hS, hp, hls, hl5, rfl⟩).kc rfl c__law_all_good.nd) ?_
  refine dss_cons (agE S W ls) (ds_for (ls.map lkD).zipIdx (fun p => .tuple [.int (p.2 : Nat), p.1]) (fun _ => agE S W ls) (di_enum me (de_meth0 G2 SK.cls hr (de_v (d := seD S W ls) 0) ⟨W, ls, rfl, rfl⟩).kc) (Lee.refl _) ?_ rfl) ?_
  · intro i x hx
    obtain ⟨lk, hlk, rfl⟩ : ∃ lk, ls[i]? = some lk ∧ x = (lkD lk, i) := by
      rw [List.getElem?_zipIdx, List.getElem?_map] at hx
      cases e : ls[i]? with
      | none => rw [e] at hx; cases hx
      | some lk =>
        rw [e] at hx
        refine ⟨lk, rfl, ?_⟩
        have := Option.some.inj hx
        rw [← this, Nat.zero_add]
    have hok := hls lk (List.mem_of_getElem? hlk)
    refine ⟨_, _, dg_tup rfl (dgs_cons (dg_name 3 c__law_all_good.nd) (dgs_cons (dg_name 4 c__law_all_good.nd) dgs_nil)), ?_⟩
    have pq := pl_pq (nextN W lk (setsOf W ls))
    refine dss_cons _ (ds_set 5 (d := pqD (nextN W lk (setsOf W ls))) (de_meth G3 SK.cls hr (de_v (d := seD S W ls) 0) (da_c (de_v (d := nD i) 3) da_nil) ⟨W, ls, i, lk, rfl, hW, hS, hp, hls, hln, hlk, rfl⟩) rfl c__law_all_good.nd) ?_
    refine dss_cons _ (ds_if (c := false) (DW.dt (dw_or (c1 := false) (c2 := false) ((dt_not (dt_val (de_isi (d := pqD (nextN W lk (setsOf W ls))) mi mt (de_v 5) rfl kit_tt boot_tuple))).is rfl) (fun _ => dw_or (c1 := false) (c2 := false) ((dt_neI (de_lenT ml (ds := [nD (nextN W lk (setsOf W ls)).1, nD (nextN W lk (setsOf W ls)).2]) (de_v (d := pqD (nextN W lk (setsOf W ls))) 5).ke) de_int).is rfl) (fun _ => dw_or1 ((dt_ne hr (da := pqD (nextN W lk (setsOf W ls))) (db := pqD (nextN W lk (setsOf W ls))) (de_v 5) (de_call Gn hr (da_c (de_v (d := wkD W) 1) (da_c (de_v (d := setsD (setsOf W ls)) 2) (da_c (de_v (d := lkD lk) 4) da_nil))) ⟨W, lk, setsOf W ls, rfl, hW, h4, hok, rfl⟩) (pq.shaped (by decide)) (pq.shaped (by decide))).is (by rw [pq.refl]; rfl)))))) (fun z => by cases z) (fun _ => dss_nil rfl)) ?_
    refine dss_one (ds_if (c := false) (DW.dt (dw_or (c1 := false) (c2 := false) ((dt_not (dt_val (de_call Gw hr (da_c (de_ixT (de_v (d := pqD (nextN W lk (setsOf W ls))) 5).ke de_int (atI_nat (j := 0) rfl)) da_nil) ⟨_, rfl, rfl⟩))).is rfl) (fun _ => dw_or (c1 := false) (c2 := false) ((dt_not (dt_val (de_call Gw hr (da_c (de_ixT (de_v (d := pqD (nextN W lk (setsOf W ls))) 5).ke de_int (atI_nat (j := 1) rfl)) da_nil) ⟨_, rfl, rfl⟩))).is rfl) (fun _ => dw_or1 ((dt_ne hr (da := setsD (setsOf W ls)) (db := setsD (setsOf W ls)) (de_meth0 G1 SK.cls hr (de_v (d := seD S W ls) 0) ⟨W, ls, rfl, hW, hS, hp, hls, hl5, rfl⟩) (de_v (d := setsD (setsOf W ls)) 2) (sht _) (sht _)).is (by rw [(pl_sets _).refl]; rfl)))))) (fun z => by cases z) (fun _ => dss_nil ⟨rfl, rfl, rfl, trivial⟩))
  exact dss_one (ds_ret de_bl rfl)
def xW (ns : List Int) : Nat → Wk
  | 0 => workOf ns 5
  | k + 1 => ⟨(xW ns k).ring, (xW ns k).inputs, (xW ns k).parts ++ [mkPt (mix ns (40 + k)) ((xW ns k).inputs + (xW ns k).parts.length)]⟩
theorem xW_ring (ns : List Int) : ∀ k, (xW ns k).ring = ringOf (mix ns 0)
  | 0 => rfl
  | k + 1 => xW_ring ns k
theorem xW_inputs (ns : List Int) : ∀ k, (xW ns k).inputs = inputsOf (mix ns 0)
  | 0 => rfl
  | k + 1 => xW_inputs ns k
theorem xW_len (ns : List Int) : ∀ k, (xW ns k).parts.length = manyOf ns 5 + k
  | 0 => workOf_len ns 5
  | k + 1 => by
    show ((xW ns k).parts ++ [_]).length = _
    rw [List.length_append, xW_len ns k]
    rfl
theorem xW_ok (ns : List Int) : ∀ k, k ≤ 3 → (xW ns k).Ok
  | 0, _ => workOf_ok ns (by decide) (by decide)
  | k + 1, h => by
    have ih := xW_ok ns k (by omega)
    have hm := manyOf_b ns (most := 5) (by decide)
    have hl := xW_len ns (k + 1)
    have hi := ih.i1
    refine ⟨ih.r2, ih.r5, ih.i1, ih.i6, by omega, by omega, fun j p e l hp => ?_⟩
    show l < (xW ns k).inputs + j
    have e : ((xW ns k).parts ++ [mkPt (mix ns (40 + k)) ((xW ns k).inputs + (xW ns k).parts.length)])[j]? = some p := e
    by_cases hj : j < (xW ns k).parts.length
    · rw [List.getElem?_append_left hj] at e
      exact ih.lines j p e l hp
    · rw [List.getElem?_append_right (by omega)] at e
      have hj2 : j - (xW ns k).parts.length < 1 := (List.getElem?_eq_some_iff.mp e).1
      have ej : j = (xW ns k).parts.length := by omega
      subst ej
      rw [Nat.sub_self] at e
      cases e
      exact mkPt_lines (by omega) l hp
def X10 (ns : List Int) : Wk := xW ns (3 - manyOf ns 5)
theorem X10_ok (ns : List Int) : (X10 ns).Ok := xW_ok ns _ (by omega)
theorem X10_len (ns : List Int) : (X10 ns).parts.length ≤ 5 := by
  have hm := manyOf_b ns (most := 5) (by decide)
  unfold X10
  rw [xW_len]
  omega
theorem X10_4000 (ns : List Int) : (X10 ns).ring ^ (X10 ns).parts.length < 4000 := by
  have hr := (X10_ok ns).r5
  have hl := X10_len ns
  have h1 : (X10 ns).ring ^ (X10 ns).parts.length ≤ 5 ^ 5 := Nat.le_trans (Nat.pow_le_pow_left hr _) (Nat.pow_le_pow_right (by decide) hl)
  exact Nat.lt_of_le_of_lt h1 (by decide)
def L10 (ns : List Int) : List Lk := looksL (X10 ns) ns 14 (mix ns 14 % 3) ++ (List.range (mix ns 42 % 3)).map (oddL (X10 ns) ns)
theorem L10_ok (ns : List Int) : ∀ l ∈ L10 ns, l.Ok (X10 ns) := fun l hl => by
  unfold L10 looksL at hl
  rcases List.mem_append.mp hl with hl | hl
  · obtain ⟨k, _, rfl⟩ := List.mem_map.mp hl
    exact lookL_ok (X10_ok ns) _ _
  · obtain ⟨k, _, rfl⟩ := List.mem_map.mp hl
    exact oddL_ok (X10_ok ns) ns k
theorem L10_len (ns : List Int) : (L10 ns).length ≤ 4 := by
  unfold L10 looksL
  rw [List.length_append, List.length_map, List.length_range, List.length_map, List.length_range]
  have h1 : mix ns 14 % 3 < 3 := Nat.mod_lt _ (by decide)
  have h2 : mix ns 42 % 3 < 3 := Nat.mod_lt _ (by decide)
  omega
def lnQ (ns : List Int) (ls : List Lk) (k : Nat) : Nat × Nat := ((nextN (X10 ns) (ls.getD (mix ns (47 + k) % (L10 ns).length) ⟨[], []⟩) (setsOf (X10 ns) ls)).1, mix ns (47 + k) / (L10 ns).length % (X10 ns).ring)
def stQ (ns : List Int) (ls : List Lk) (k : Nat) : List Lk :=
  if (getN (ls.getD (mix ns (47 + k) % (L10 ns).length) ⟨[], []⟩).seen (lnQ ns ls k).1).isSome = true then ls else ls.set (mix ns (47 + k) % (L10 ns).length) (seeL (ls.getD (mix ns (47 + k) % (L10 ns).length) ⟨[], []⟩) (lnQ ns ls k))
def qL (ns : List Int) : Nat → List Lk
  | 0 => L10 ns
  | k + 1 => stQ ns (qL ns k) k
theorem qL_len (ns : List Int) : ∀ k, (qL ns k).length = (L10 ns).length
  | 0 => rfl
  | k + 1 => by
    show (stQ ns (qL ns k) k).length = _
    unfold stQ
    split
    · exact qL_len ns k
    · rw [List.length_set]; exact qL_len ns k
theorem getN_not {s : List (Nat × Nat)} {x : Nat} (h : (getN s x).isSome = false) : x ∉ s.map (·.1) := fun z => by
  obtain ⟨p, hp, e⟩ := List.mem_map.mp z
  have : (getN s x).isSome = true := by
    unfold getN
    rw [Option.isSome_map, List.find?_isSome]
    exact ⟨p, hp, by simpa using e⟩
  rw [h] at this
  cases this
theorem qL_ok {ns : List Int} (hn : 0 < (L10 ns).length) : ∀ k, ∀ l ∈ qL ns k, l.Ok (X10 ns)
  | 0 => L10_ok ns
  | k + 1 => fun l hl => by
    have ih := qL_ok hn k
    have hlt : mix ns (47 + k) % (L10 ns).length < (qL ns k).length := by rw [qL_len]; exact Nat.mod_lt _ hn
    have hm : (qL ns k).getD (mix ns (47 + k) % (L10 ns).length) ⟨[], []⟩ ∈ qL ns k := by
      rw [List.getD_eq_getElem?_getD, List.getElem?_eq_getElem hlt]
      exact List.getElem_mem _
    have hl : l ∈ stQ ns (qL ns k) k := hl
    unfold stQ at hl
    split at hl
    · exact ih l hl
    · rename_i hb
      rcases List.mem_or_eq_of_mem_set hl with hl | rfl
      · exact ih l hl
      · have hW := X10_ok ns
        obtain ⟨a, b⟩ := nextN_lt (l := (qL ns k).getD (mix ns (47 + k) % (L10 ns).length) ⟨[], []⟩) (S := setsOf (X10 ns) (qL ns k)) hW
        have hr := hW.r2
        exact seeL_ok (ih _ hm) a b (Nat.mod_lt _ (by omega)) (getN_not (by simpa using hb)) (by have := hW.p10; omega)
def R_law (ds : List PD) (d : PD) : Prop := ∃ ns : List Int, ds = [scr ns] ∧ d = .bool true
def lA10 (w : Addr) (ns : List Int) (k : Nat) : En := [some (.v (scr ns)), some (.v (.tuple [nD (ringOf (mix ns 0)), nD (inputsOf (mix ns 0)), adD w])), none, none, none, none, none, none, none, none, some (.a w (.list ((xW ns k).parts.map ptD)))]
def lB10 (S l : Addr) (ns : List Int) (k : Nat) : En := [some (.v (scr ns)), some (.v (wkD (X10 ns))), none, some (.v (seA S (X10 ns) l)), none, none, none, none, none, some (.a l (.list (((L10 ns).take k).map lkD))), none]
def lC10 (S l : Addr) (ns : List Int) (ls : List Lk) : En := [some (.v (scr ns)), some (.v (wkD (X10 ns))), none, some (.v (seA S (X10 ns) l)), none, none, some (.v (nD (L10 ns).length)), none, none, some (.a l (.list (ls.map lkD))), none]
theorem f_law {f : Addr} {fd : FuncData} {k : Nat} {S : Addr} (F : FnP K "law" s_law f fd) (SK : SeK K S) (Gm : Dn P w K mg base k "_law_mixed" R__law_mixed .c) (Gk : GDn P w K mg base k "_law_work" R__law_workG) (Gp : Dn P w K mg base k "_law_part" R__law_part .c) (GI : MkS P w K mg base k "Search" S) (Gls : Dn P w K mg base k "_law_looks" R__law_looks .o) (God : Dn P w K mg base k "_law_odd_looks" R__law_odd_looks .o) (Gl : MMn P w K mg base k S "look" (R_Search_look S)) (Gse : MMn P w K mg base k S "see" (R_Search_see S)) (G2 : MDn P w K mg base k S "looks" (R_Search_looks S) .o) (G3 : MDn P w K mg base k S "next_line" (R_Search_next_line S) .c) (Ga : Dn P w K mg base k "_law_all_good" (R__law_all_good S) .c)
    (mn : mg "len" = none) (mr : mg "range" = none) (mi : mg "int" = none) (md : mg "dict" = none) : FnOk P w K mg base CX0 (k + 2) f fd (N_law.take 1) (spF K R_law .c) := by
  refine fn_mk (k := k + 1) F c_law _ _ (fun ds d h => by obtain ⟨ns, rfl, _⟩ := h; rfl) fun cdv A outer s H E hr1 ds d h => ?_
  obtain ⟨ns, rfl, rfl⟩ := h
  have hr : Room k (A.deeper (envOfC "law" (defScope s_law) s.heap.objs.size f cdv)) := hr1.mono (by omega)
  have hW := X10_ok ns
  have h4000 := X10_4000 ns
  have hS : (X10 ns).Small := Nat.lt_trans h4000 (by decide)
  have hp5 := X10_len ns
  have hp : (X10 ns).parts.length ≤ 7 := by omega
  have h4 := L10_len ns
  have hm := manyOf_b ns (most := 5) (by decide)
  have hr2 := hW.r2
  have hto : ((3 : Int) - (((xW ns 0).parts.map ptD).length : Int)).toNat = 3 - manyOf ns 5 := by rw [List.length_map, xW_len]; omega
  refine dss_setG 1 10 (deg_call Gk hr (da_c (de_v 0) (da_c de_int da_nil)) ⟨ns, 5, rfl, by decide, by decide, rfl, rfl⟩) (fun w' => ?_) c_law.nd
  refine dss_cons (lA10 w' ns (3 - manyOf ns 5)) (ds_for (List.range ((3 : Int) - (((xW ns 0).parts.map ptD).length : Int)).toNat) nD (lA10 w' ns) (di_range mr (de_sub de_int (de_lenG (l := w') (ds := (xW ns 0).parts.map ptD) 10 mn (de_ixT (de_v (d := .tuple [nD (ringOf (mix ns 0)), nD (inputsOf (mix ns 0)), adD w']) 1).ke de_int (atI_nat (j := 2) rfl)))) (by rw [List.length_map, xW_len]; omega) (by rw [List.length_map, xW_len]; omega)) ⟨rfl, rfl, rfl, trivial⟩ ?_ ?_) ?_
  · intro i x hx
    have hi : i < 3 - manyOf ns 5 := by have := (List.getElem?_eq_some_iff.mp hx).1; rwa [List.length_range, hto] at this
    rw [List.getElem?_range (by rw [hto]; exact hi)] at hx
    cases hx
    have hxl := xW_len ns i
    have hii := inputsOf_b (mix ns 0)
    refine ⟨_, _, dg_name 2 c_law.nd, ?_⟩
    refine dss_one (ds_appendG (l := w') (ds := (xW ns i).parts.map ptD) (d := ptD (mkPt (mix ns (40 + i)) ((xW ns i).inputs + (xW ns i).parts.length))) 10 (de_ixT (de_v (d := .tuple [nD (ringOf (mix ns 0)), nD (inputsOf (mix ns 0)), adD w']) 1).ke de_int (atI_nat (j := 2) rfl)) (de_call Gp hr (da_c (de_call Gm hr (da_c (de_v 0) (da_c (de_add de_int (de_v (d := nD i) 2)) da_nil)) ⟨ns, 40 + i, rfl, by omega, rfl⟩) (da_c ((de_add (de_ixT (de_v (d := .tuple [nD (ringOf (mix ns 0)), nD (inputsOf (mix ns 0)), adD w']) 1).ke de_int (atI_nat (j := 1) rfl)) (de_lenG (l := w') (ds := (xW ns i).parts.map ptD) 10 mn (de_ixT (de_v (d := .tuple [nD (ringOf (mix ns 0)), nD (inputsOf (mix ns 0)), adD w']) 1).ke de_int (atI_nat (j := 2) rfl)))).is ?_) da_nil)) ⟨mix ns (40 + i), (xW ns i).inputs + (xW ns i).parts.length, rfl, by rw [xW_inputs]; omega, rfl⟩) (by rw [List.length_map]; omega) ?_)
    · rw [List.length_map, xW_inputs]
      rfl
    · refine ⟨rfl, rfl, ?_, trivial⟩
      show some (Sl.a w' (PyData.list _)) = some (Sl.a w' (PyData.list _))
      rw [show (xW ns (i + 1)).parts = (xW ns i).parts ++ [mkPt (mix ns (40 + i)) ((xW ns i).inputs + (xW ns i).parts.length)] from rfl, List.map_append]
      rfl
  · show lA10 w' ns (List.range ((3 : Int) - (((xW ns 0).parts.map ptD).length : Int)).toNat).length = _
    rw [List.length_range, hto]
  refine DSs.freezeG (l := w') (ds := (X10 ns).parts.map ptD) (d := .tuple [nD (ringOf (mix ns 0)), nD (inputsOf (mix ns 0)), adD w']) (d' := wkD (X10 ns)) 10 1 ?_ ?_ (by decide) rfl rfl
  · have : wkD (X10 ns) = .tuple [nD (ringOf (mix ns 0)), nD (inputsOf (mix ns 0)), .list ((X10 ns).parts.map ptD)] := by
      unfold wkD X10
      rw [xW_ring, xW_inputs]
    rw [this]
    exact wkn_tup (.cons wkn_refl (.cons wkn_refl (.cons wkn_ad .nil)))
  refine dss_setG 3 9 (deg_make GI hr1 (de_v (d := wkD (X10 ns)) 1) hW) (fun l => ?_) c_law.nd
  refine dss_cons (lB10 S l ns (L10 ns).length) (ds_for (L10 ns) lkD (lB10 S l ns) (di_list ((de_cat (de_call Gls hr (da_c (de_v 0) (da_c (de_v (d := wkD (X10 ns)) 1) (da_c de_int (da_c de_int da_nil)))) ⟨ns, X10 ns, 14, 2, rfl, hW, by decide, by decide, rfl⟩) (de_call God hr (da_c (de_v 0) (da_c (de_v (d := wkD (X10 ns)) 1) da_nil)) ⟨ns, X10 ns, rfl, hW, rfl⟩) ?_).kc.is ?_)) ⟨rfl, rfl, rfl, rfl, trivial⟩ ?_ rfl) ?_
  · have := h4
    unfold L10 at this
    rw [List.length_append] at this
    rw [List.length_map, List.length_map]
    show (looksL (X10 ns) ns 14 (mix ns 14 % 3)).length + _ ≤ 100000
    omega
  · unfold L10
    rw [List.map_append]
  · intro i q hx
    have hi : i < (L10 ns).length := (List.getElem?_eq_some_iff.mp hx).1
    refine ⟨_, _, dg_tup rfl (dgs_cons (dg_name 4 c_law.nd) (dgs_cons (dg_name 5 c_law.nd) dgs_nil)), ?_⟩
    refine dss_one (ds_exprM (dm_meth (l := l) (xs := ((L10 ns).take i).map lkD) (xs' := ((L10 ns).take i ++ [q]).map lkD) (d := .none) 9 Gl SK.cls hr (de_v (d := seA S (X10 ns) l) 3) (da_c (de_v (d := rowT q.g) 4) (da_c (de_v (d := tx (q.seen.map pqD)) 5) da_nil)) ⟨X10 ns, (L10 ns).take i, q, rfl, hW, L10_ok ns q (List.mem_of_getElem? hx), by rw [List.length_take]; omega, rfl, rfl, rfl⟩) ?_)
    refine ⟨rfl, rfl, rfl, ?_, trivial⟩
    show some (Sl.a l (PyData.list _)) = some (Sl.a l (PyData.list _))
    rw [List.take_add_one, hx]
    rfl
  have htk : (L10 ns).take (L10 ns).length = L10 ns := List.take_length
  refine DSs.less (en' := [some (.v (scr ns)), some (.v (wkD (X10 ns))), none, some (.v (seA S (X10 ns) l)), none, none, none, none, none, some (.a l (.list ((L10 ns).map lkD))), none]) ?_ ⟨rfl, rfl, rfl, by show some (Sl.a l (PyData.list _)) = some (Sl.a l (PyData.list _)); rw [htk], trivial⟩
  refine dss_cons (lC10 S l ns (L10 ns)) (ds_set 6 (d := nD (L10 ns).length) ((de_thawC (l := l) (ds := (L10 ns).map lkD) (d := seA S (X10 ns) l) 9 3 wkn_se (de_lenL mn (de_meth0 G2 SK.cls hr (de_v (d := seD S (X10 ns) (L10 ns)) 3) ⟨X10 ns, L10 ns, rfl, rfl⟩).kc.ke) rfl).is (by rw [List.length_map]; rfl)) rfl c_law.nd) ?_
  have good : ∀ ls : List Lk, (∀ q ∈ ls, q.Ok (X10 ns)) → ls.length < 1000 → R__law_all_good S [seD S (X10 ns) ls, wkD (X10 ns)] (.bool true) := fun ls h1 h2 => ⟨X10 ns, ls, rfl, hW, h4000, hp, h1, h2, rfl⟩
  refine dss_cons (lC10 S l ns (L10 ns)) (ds_if (c := false) (dt_thaw (l := l) (ds := (L10 ns).map lkD) (d := seA S (X10 ns) l) 9 3 wkn_se ((dt_not (dt_val (de_call Ga hr (da_c (de_v (d := seD S (X10 ns) (L10 ns)) 3) (da_c (de_v (d := wkD (X10 ns)) 1) da_nil)) (good _ (L10_ok ns) (by omega))))).is rfl)) (fun z => by cases z) (fun _ => dss_nil rfl)) ?_
  have hcnt : ((mix ns 46 : Int) % 5 * (if decide ((0 : Int) < ((L10 ns).length : Nat)) then 1 else 0)) = ((mix ns 46 % 5 * (if 0 < (L10 ns).length then 1 else 0) : Nat) : Int) := by
    by_cases h0 : 0 < (L10 ns).length
    · rw [if_pos (by simpa using h0), if_pos h0]
      omega
    · rw [if_neg (by simpa using h0), if_neg h0]
      omega
  refine dss_cons (lC10 S l ns (qL ns (mix ns 46 % 5 * (if 0 < (L10 ns).length then 1 else 0)))) (ds_for (List.range (mix ns 46 % 5 * (if 0 < (L10 ns).length then 1 else 0))) nD (fun i => lC10 S l ns (qL ns i)) (di_rangeN (n := mix ns 46 % 5 * (if 0 < (L10 ns).length then 1 else 0)) mr ((de_mul (de_mod (de_call Gm hr (da_c (de_v 0) (da_c de_int da_nil)) ⟨ns, 46, rfl, by decide, rfl⟩) de_int (by decide)) (de_intB mi (de_gt (de_v (d := nD (L10 ns).length) 6) de_int)) (.inr ?_)).is (congrArg PyData.int hcnt)) ?_) (Lee.refl _) ?_ ?_) ?_
  · split <;> decide
  · split <;> omega
  · intro i x hx
    have hi : i < mix ns 46 % 5 * (if 0 < (L10 ns).length then 1 else 0) := by have := (List.getElem?_eq_some_iff.mp hx).1; rwa [List.length_range] at this
    rw [List.getElem?_range hi] at hx
    cases hx
    have hn : 0 < (L10 ns).length := by
      by_cases h0 : 0 < (L10 ns).length
      · exact h0
      · rw [if_neg h0] at hi; omega
    have hi5 : i < 5 := by rw [if_pos hn] at hi; omega
    have hql := qL_len ns i
    have hqo := qL_ok hn i
    have hqo1 := qL_ok hn (i + 1)
    have hql1 := qL_len ns (i + 1)
    have hst : qL ns (i + 1) = stQ ns (qL ns i) i := rfl
    rw [hst] at hqo1 hql1
    have hj : mix ns (47 + i) % (L10 ns).length < (L10 ns).length := Nat.mod_lt _ hn
    have hqx : ∃ ls, ls = qL ns (i + 1) := ⟨_, rfl⟩
    show ∃ is en', DG _ (lC10 S l ns (qL ns i)) _ _ is en' ∧ DSs _ en' _ { nx := Lee (lC10 S l ns (qL ns (i + 1))), rk := _, rt := _, re := _, bk := _, ct := Lee (lC10 S l ns (qL ns (i + 1))) }
    rw [hst]
    generalize qL ns i = ls at hql hqo hqo1 hql1
    have hln : ls.length < 1000 := by omega
    have hpos : (0 : Int) < ((L10 ns).length : Int) := by omega
    have hd : ∃ lk, lk = ls.getD (mix ns (47 + i) % (L10 ns).length) ⟨[], []⟩ := ⟨_, rfl⟩
    obtain ⟨lk, hlk⟩ := hd
    have hat : ls[mix ns (47 + i) % (L10 ns).length]? = some lk := by
      rw [hlk, List.getD_eq_getElem?_getD, List.getElem?_eq_getElem (by omega)]
      rfl
    have hok := hqo _ (List.mem_of_getElem? hat)
    obtain ⟨a, b⟩ := nextN_lt (l := lk) (S := setsOf (X10 ns) ls) hW
    have hq : lnQ ns ls i = ((nextN (X10 ns) lk (setsOf (X10 ns) ls)).1, mix ns (47 + i) / (L10 ns).length % (X10 ns).ring) := by unfold lnQ; rw [hlk]
    have hse : stQ ns ls i = if (getN lk.seen (nextN (X10 ns) lk (setsOf (X10 ns) ls)).1).isSome = true then ls else ls.set (mix ns (47 + i) % (L10 ns).length) (seeL lk ((nextN (X10 ns) lk (setsOf (X10 ns) ls)).1, mix ns (47 + i) / (L10 ns).length % (X10 ns).ring)) := by
      unfold stQ
      rw [hq, hlk]
    refine ⟨_, _, dg_name 2 c_law.nd, ?_⟩
    refine dss_cons _ (ds_set 7 (d := nD (mix ns (47 + i))) (de_call Gm hr (da_c (de_v 0) (da_c (de_add de_int (de_v (d := nD i) 2)) da_nil)) ⟨ns, 47 + i, rfl, by omega, rfl⟩) rfl c_law.nd) ?_
    refine dss_cons _ (ds_set 8 (d := nD (nextN (X10 ns) lk (setsOf (X10 ns) ls)).1) (de_thawC (l := l) (ds := ls.map lkD) (d := seA S (X10 ns) l) 9 3 wkn_se (de_ixT (de_meth G3 SK.cls hr (de_v (d := seD S (X10 ns) ls) 3) (da_c (de_mod (de_v (d := nD (mix ns (47 + i))) 7) (de_v (d := nD (L10 ns).length) 6) hpos) da_nil) ⟨X10 ns, ls, mix ns (47 + i) % (L10 ns).length, lk, rfl, hW, hS, hp, hqo, hln, hat, rfl⟩).ke de_int (atI_nat (j := 0) rfl)) rfl) rfl c_law.nd) ?_
    refine dss_one (ds_if (c := !(getN lk.seen (nextN (X10 ns) lk (setsOf (X10 ns) ls)).1).isSome) (dt_thaw (l := l) (ds := ls.map lkD) (d := seA S (X10 ns) l) 9 3 wkn_se ((dt_dnin (y := .inl (((nextN (X10 ns) lk (setsOf (X10 ns) ls)).1 : Nat) : Int)) (kvs := lk.seen.map tK) hr (de_v (d := nD (nextN (X10 ns) lk (setsOf (X10 ns) ls)).1) 8) (de_dictX rfl md (de_ixT (de_ixL (de_meth0 G2 SK.cls hr (de_v (d := seD S (X10 ns) ls) 3) ⟨X10 ns, ls, rfl, rfl⟩).kc.ke (de_mod (de_v (d := nD (mix ns (47 + i))) 7) (de_v (d := nD (L10 ns).length) 6) hpos) (d := lkD lk) (atI_nat (j := mix ns (47 + i) % (L10 ns).length) (by rw [List.getElem?_map, hat]; rfl))).ke de_int (atI_nat (j := 1) rfl)) hok.nd).ke).is ?_)) (fun ht => ?_) (fun hf => dss_nil ?_))
    · rw [show valD (lk.seen.map tK) (.inl (((nextN (X10 ns) lk (setsOf (X10 ns) ls)).1 : Nat) : Int)) = (getN lk.seen (nextN (X10 ns) lk (setsOf (X10 ns) ls)).1).map nD from valD_told, Option.isSome_map]
    · have hno : (getN lk.seen (nextN (X10 ns) lk (setsOf (X10 ns) ls)).1).isSome = false := by
        cases e : (getN lk.seen (nextN (X10 ns) lk (setsOf (X10 ns) ls)).1).isSome with
        | false => rfl
        | true => rw [e] at ht; cases ht
      rw [if_neg (by rw [hno]; decide)] at hse
      rw [hse] at hqo1 hql1 ⊢
      refine dss_cons _ (ds_exprM (dm_meth (l := l) (xs := ls.map lkD) (xs' := (ls.set (mix ns (47 + i) % (L10 ns).length) (seeL lk ((nextN (X10 ns) lk (setsOf (X10 ns) ls)).1, mix ns (47 + i) / (L10 ns).length % (X10 ns).ring))).map lkD) (d := .none) 9 Gse SK.cls hr (de_v (d := seA S (X10 ns) l) 3) (da_c (de_mod (de_v (d := nD (mix ns (47 + i))) 7) (de_v (d := nD (L10 ns).length) 6) hpos) (da_c (de_v (d := nD (nextN (X10 ns) lk (setsOf (X10 ns) ls)).1) 8) (da_c (de_mod (de_div (de_v (d := nD (mix ns (47 + i))) 7) (de_v (d := nD (L10 ns).length) 6) ⟨hpos, by omega⟩) (de_ixT (de_v (d := wkD (X10 ns)) 1).ke de_int (atI_nat (j := 0) rfl)) (by show (0 : Int) < ((X10 ns).ring : Int); omega)) da_nil))) ⟨X10 ns, ls, mix ns (47 + i) % (L10 ns).length, lk, ((nextN (X10 ns) lk (setsOf (X10 ns) ls)).1, mix ns (47 + i) / (L10 ns).length % (X10 ns).ring), rfl, hW, hat, hok, a, b, Nat.mod_lt _ (by omega), getN_not hno, rfl, rfl, rfl⟩) rfl) ?_
      refine dss_one (ds_if (c := false) (dt_thaw (l := l) (ds := (ls.set (mix ns (47 + i) % (L10 ns).length) (seeL lk ((nextN (X10 ns) lk (setsOf (X10 ns) ls)).1, mix ns (47 + i) / (L10 ns).length % (X10 ns).ring))).map lkD) (d := seA S (X10 ns) l) 9 3 wkn_se ((dt_not (dt_val (de_call Ga hr (da_c (de_v (d := seD S (X10 ns) (ls.set (mix ns (47 + i) % (L10 ns).length) (seeL lk ((nextN (X10 ns) lk (setsOf (X10 ns) ls)).1, mix ns (47 + i) / (L10 ns).length % (X10 ns).ring)))) 3) (da_c (de_v (d := wkD (X10 ns)) 1) da_nil)) (good _ hqo1 (by omega))))).is rfl)) (fun z => by cases z) (fun _ => dss_nil ⟨rfl, rfl, rfl, rfl, rfl, trivial⟩))
    · have hyes : (getN lk.seen (nextN (X10 ns) lk (setsOf (X10 ns) ls)).1).isSome = true := by
        cases e : (getN lk.seen (nextN (X10 ns) lk (setsOf (X10 ns) ls)).1).isSome with
        | true => rfl
        | false => rw [e] at hf; cases hf
      rw [if_pos hyes] at hse
      rw [hse]
      exact ⟨rfl, rfl, rfl, rfl, rfl, trivial⟩
  · show lC10 S l ns (qL ns (List.range _).length) = _
    rw [List.length_range]
  exact dss_one (ds_ret de_bl rfl)
end
def d__law_cell : He.DefD := ⟨("_law_cell", none), "_law_cell", "_law_cell", defArgs s__law_cell, defBody s__law_cell, defScope s__law_cell, [], []⟩
def d__law_mixed : He.DefD := ⟨("_law_mixed", none), "_law_mixed", "_law_mixed", defArgs s__law_mixed, defBody s__law_mixed, defScope s__law_mixed, [], []⟩
def d__law_part : He.DefD := ⟨("_law_part", none), "_law_part", "_law_part", defArgs s__law_part, defBody s__law_part, defScope s__law_part, [], []⟩
def d__law_work : He.DefD := ⟨("_law_work", none), "_law_work", "_law_work", defArgs s__law_work, defBody s__law_work, defScope s__law_work, [], []⟩
def d_is_tuple_of : He.DefD := ⟨("is_tuple_of", none), "is_tuple_of", "is_tuple_of", defArgs s_is_tuple_of, defBody s_is_tuple_of, defScope s_is_tuple_of, [], []⟩
def d_is_whole : He.DefD := ⟨("is_whole", none), "is_whole", "is_whole", defArgs s_is_whole, defBody s_is_whole, defScope s_is_whole, [], []⟩
def d_is_part : He.DefD := ⟨("is_part", none), "is_part", "is_part", defArgs s_is_part, defBody s_is_part, defScope s_is_part, [], []⟩
def d_is_work : He.DefD := ⟨("is_work", none), "is_work", "is_work", defArgs s_is_work, defBody s_is_work, defScope s_is_work, [], []⟩
def d_need_work : He.DefD := ⟨("need_work", none), "need_work", "need_work", defArgs s_need_work, defBody s_need_work, defScope s_need_work, [], []⟩
def d_Search_init : He.DefD := ⟨("Search", some "__init__"), "__init__", "Search.__init__", defArgs s_Search_init, defBody s_Search_init, defScope s_Search_init, [], []⟩
def d__law_given : He.DefD := ⟨("_law_given", none), "_law_given", "_law_given", defArgs s__law_given, defBody s__law_given, defScope s__law_given, [], []⟩
def d__law_due : He.DefD := ⟨("_law_due", none), "_law_due", "_law_due", defArgs s__law_due, defBody s__law_due, defScope s__law_due, [], []⟩
def d__law_run : He.DefD := ⟨("_law_run", none), "_law_run", "_law_run", defArgs s__law_run, defBody s__law_run, defScope s__law_run, [], []⟩
def d__law_look : He.DefD := ⟨("_law_look", none), "_law_look", "_law_look", defArgs s__law_look, defBody s__law_look, defScope s__law_look, [], []⟩
def d__law_looks : He.DefD := ⟨("_law_looks", none), "_law_looks", "_law_looks", defArgs s__law_looks, defBody s__law_looks, defScope s__law_looks, [], []⟩
def d__law_odd_looks : He.DefD := ⟨("_law_odd_looks", none), "_law_odd_looks", "_law_odd_looks", defArgs s__law_odd_looks, defBody s__law_odd_looks, defScope s__law_odd_looks, [], []⟩
def d_is_digit : He.DefD := ⟨("is_digit", none), "is_digit", "is_digit", defArgs s_is_digit, defBody s_is_digit, defScope s_is_digit, [], []⟩
def d_is_given : He.DefD := ⟨("is_given", none), "is_given", "is_given", defArgs s_is_given, defBody s_is_given, defScope s_is_given, [], []⟩
def d_is_line_of_part : He.DefD := ⟨("is_line_of_part", none), "is_line_of_part", "is_line_of_part", defArgs s_is_line_of_part, defBody s_is_line_of_part, defScope s_is_line_of_part, [], []⟩
def d_is_pair : He.DefD := ⟨("is_pair", none), "is_pair", "is_pair", defArgs s_is_pair, defBody s_is_pair, defScope s_is_pair, [], []⟩
def d_rises : He.DefD := ⟨("rises", none), "rises", "rises", defArgs s_rises, defBody s_rises, defScope s_rises, [], []⟩
def d_is_seen : He.DefD := ⟨("is_seen", none), "is_seen", "is_seen", defArgs s_is_seen, defBody s_is_seen, defScope s_is_seen, [], []⟩
def d_is_look : He.DefD := ⟨("is_look", none), "is_look", "is_look", defArgs s_is_look, defBody s_is_look, defScope s_is_look, [], []⟩
def d_need_look : He.DefD := ⟨("need_look", none), "need_look", "need_look", defArgs s_need_look, defBody s_need_look, defScope s_need_look, [], []⟩
def d_Search_look : He.DefD := ⟨("Search", some "look"), "look", "Search.look", defArgs s_Search_look, defBody s_Search_look, defScope s_Search_look, [], []⟩
def d_Search_need_number : He.DefD := ⟨("Search", some "_need_number"), "_need_number", "Search._need_number", defArgs s_Search_need_number, defBody s_Search_need_number, defScope s_Search_need_number, [], []⟩
def d_Search_see : He.DefD := ⟨("Search", some "see"), "see", "Search.see", defArgs s_Search_see, defBody s_Search_see, defScope s_Search_see, [], []⟩
def d_Search_looks : He.DefD := ⟨("Search", some "looks"), "looks", "Search.looks", defArgs s_Search_looks, defBody s_Search_looks, defScope s_Search_looks, [], []⟩
def d_has_all : He.DefD := ⟨("has_all", none), "has_all", "has_all", defArgs s_has_all, defBody s_has_all, defScope s_has_all, [], []⟩
def d_is_set : He.DefD := ⟨("is_set", none), "is_set", "is_set", defArgs s_is_set, defBody s_is_set, defScope s_is_set, [], []⟩
def d_need_set : He.DefD := ⟨("need_set", none), "need_set", "need_set", defArgs s_need_set, defBody s_need_set, defScope s_need_set, [], []⟩
def d_lines_in_use : He.DefD := ⟨("lines_in_use", none), "lines_in_use", "lines_in_use", defArgs s_lines_in_use, defBody s_lines_in_use, defScope s_lines_in_use, [], []⟩
def d_given_of : He.DefD := ⟨("given_of", none), "given_of", "given_of", defArgs s_given_of, defBody s_given_of, defScope s_given_of, [], []⟩
def d_fitting_digits : He.DefD := ⟨("fitting_digits", none), "fitting_digits", "fitting_digits", defArgs s_fitting_digits, defBody s_fitting_digits, defScope s_fitting_digits, [], []⟩
def d_thinned : He.DefD := ⟨("thinned", none), "thinned", "thinned", defArgs s_thinned, defBody s_thinned, defScope s_thinned, [], []⟩
def d_rows_of : He.DefD := ⟨("rows_of", none), "rows_of", "rows_of", defArgs s_rows_of, defBody s_rows_of, defScope s_rows_of, [], []⟩
def d_least_room : He.DefD := ⟨("least_room", none), "least_room", "least_room", defArgs s_least_room, defBody s_least_room, defScope s_least_room, [], []⟩
def d_rooms : He.DefD := ⟨("rooms", none), "rooms", "rooms", defArgs s_rooms, defBody s_rooms, defScope s_rooms, [], []⟩
def d_least_sets : He.DefD := ⟨("least_sets", none), "least_sets", "least_sets", defArgs s_least_sets, defBody s_least_sets, defScope s_least_sets, [], []⟩
def d_Search_sets : He.DefD := ⟨("Search", some "sets"), "sets", "Search.sets", defArgs s_Search_sets, defBody s_Search_sets, defScope s_Search_sets, [], []⟩
def d_is_line : He.DefD := ⟨("is_line", none), "is_line", "is_line", defArgs s_is_line, defBody s_is_line, defScope s_is_line, [], []⟩
def d_shown : He.DefD := ⟨("shown", none), "shown", "shown", defArgs s_shown, defBody s_shown, defScope s_shown, [], []⟩
def d_load_of : He.DefD := ⟨("load_of", none), "load_of", "load_of", defArgs s_load_of, defBody s_load_of, defScope s_load_of, [], []⟩
def d_Search_next_line : He.DefD := ⟨("Search", some "next_line"), "next_line", "Search.next_line", defArgs s_Search_next_line, defBody s_Search_next_line, defScope s_Search_next_line, [], []⟩
def d__law_all : He.DefD := ⟨("_law_all", none), "_law_all", "_law_all", defArgs s__law_all, defBody s__law_all, defScope s__law_all, [], []⟩
def d__law_load : He.DefD := ⟨("_law_load", none), "_law_load", "_law_load", defArgs s__law_load, defBody s__law_load, defScope s__law_load, [], []⟩
def d__law_next : He.DefD := ⟨("_law_next", none), "_law_next", "_law_next", defArgs s__law_next, defBody s__law_next, defScope s__law_next, [], []⟩
def d__law_whole : He.DefD := ⟨("_law_whole", none), "_law_whole", "_law_whole", defArgs s__law_whole, defBody s__law_whole, defScope s__law_whole, [], []⟩
def d__law_all_good : He.DefD := ⟨("_law_all_good", none), "_law_all_good", "_law_all_good", defArgs s__law_all_good, defBody s__law_all_good, defScope s__law_all_good, [], []⟩
def d_law : He.DefD := ⟨("law", none), "law", "law", defArgs s_law, defBody s_law, defScope s_law, [], []⟩
def d_least_of : He.DefD := ⟨("least_of", none), "least_of", "least_of", defArgs s_least_of, defBody s_least_of, defScope s_least_of, [], []⟩
def fnL : List He.DefD := [d__law_cell, d__law_mixed, d__law_part, d__law_work, d_is_tuple_of, d_is_whole, d_is_part, d_is_work, d_need_work, d_Search_init, d__law_given, d__law_due, d__law_run, d__law_look, d__law_looks, d__law_odd_looks, d_is_digit, d_is_given, d_is_line_of_part, d_is_pair, d_rises, d_is_seen, d_is_look, d_need_look, d_Search_look, d_Search_need_number, d_Search_see, d_Search_looks, d_has_all, d_is_set, d_need_set, d_lines_in_use, d_given_of, d_fitting_digits, d_thinned, d_rows_of, d_least_room, d_rooms, d_least_sets, d_Search_sets, d_is_line, d_shown, d_load_of, d_Search_next_line, d__law_all, d__law_load, d__law_next, d__law_whole, d__law_all_good, d_law, d_least_of]
def faL : List He.Fa := [.glo "_law_cell", .glo "_law_mixed", .glo "_law_part", .glo "_law_work", .glo "is_tuple_of", .glo "is_whole", .glo "is_part", .glo "is_work", .glo "need_work", .mkr "Search", .glo "_law_given", .glo "_law_due", .glo "_law_run", .glo "_law_look", .glo "_law_looks", .glo "_law_odd_looks", .glo "is_digit", .glo "is_given", .glo "is_line_of_part", .glo "is_pair", .glo "rises", .glo "is_seen", .glo "is_look", .glo "need_look", .meth "Search" "look", .meth "Search" "_need_number", .meth "Search" "see", .meth "Search" "looks", .glo "has_all", .glo "is_set", .glo "need_set", .glo "lines_in_use", .glo "given_of", .glo "fitting_digits", .glo "thinned", .glo "rows_of", .glo "least_room", .glo "rooms", .glo "least_sets", .meth "Search" "sets", .glo "is_line", .glo "shown", .glo "load_of", .meth "Search" "next_line", .glo "_law_all", .glo "_law_load", .glo "_law_next", .glo "_law_whole", .glo "_law_all_good", .glo "law", .glo "least_of", .free "range", .free "tuple", .free "min", .free "type", .free "len", .free "int", .free "str", .free "all", .free "list", .free "enumerate", .free "zip", .free "sorted", .free "reversed", .free "any", .free "max", .free "dict", .free "set", .free "isinstance", .free "bool", .glo "Search", .glo "TAKES", .cls "Search", .noat "Search" "_work", .noat "Search" "_looks"]
def loose : List PySem.Str := [("combinations" : String), ("_wall" : String), ("WorkError" : String), ("BadWork" : String), ("BadLook" : String), ("BadSet" : String), ("NoLine" : String), ("NoLook" : String), ("TAKES" : String), ("is_whole" : String), ("is_tuple_of" : String), ("is_part" : String), ("is_work" : String), ("is_digit" : String), ("is_line" : String), ("is_line_of_part" : String), ("is_given" : String), ("is_pair" : String), ("rises" : String), ("is_seen" : String), ("is_look" : String), ("is_set" : String), ("need_work" : String), ("need_look" : String), ("need_set" : String), ("given_of" : String), ("lines_in_use" : String), ("fitting_digits" : String), ("thinned" : String), ("rows_of" : String), ("least_room" : String), ("rooms" : String), ("shown" : String), ("has_all" : String), ("least_of" : String), ("least_sets" : String), ("load_of" : String), ("Search" : String), ("_law_cell" : String), ("_law_mixed" : String), ("_law_whole" : String), ("_law_part" : String), ("_law_work" : String), ("_law_due" : String), ("_law_run" : String), ("_law_given" : String), ("_law_look" : String), ("_law_looks" : String), ("_law_all" : String), ("_law_odd_looks" : String), ("_law_load" : String), ("_law_next" : String), ("_law_all_good" : String)].map PySem.Str.ofString
def moreL : List (PySem.W.Frag → Bool) := [fun K => He.eqO (PySem.W.nsIn K mainGlobals "combinations") (some (some (.type "itertools.combinations"))), fun K => takesB K]
def tks : List PySem.Str := ["sum", "stop", "pick", "not"].map PySem.Str.ofString
def lamL : List PySem.Str := ["least_sets"]
def csL (K : PySem.W.Frag) : List (Addr × Addr) := lamL.map fun x => (cdA K x, tbA K (cdA K x))
abbrev R : PySem.W.OpenRow := PySem.W.OpenLaw.row PySem.Challenge.rw_whichbroke_k10_where_to_look_next
abbrev hk : PySem.W.Hook := DL.hookY 4 faL fnL moreL lamL "TAKES" tks
def ob (s : PySem.W.SharedT) : DL.AlY := DL.obY 4 faL fnL moreL lamL "TAKES" (HandSHeadRun.getT s)
theorem ob_eq (s : PySem.W.SharedT) : ob s = hk.obs s.abs := DL.obY_eq (HandSHeadRun.getT_eq s)
theorem run3 {α β γ δ : Type} {o : Option α} {f : α → β} {g : α → γ} {h : α → δ} {b : β} {c : γ} {d : δ} (h1 : o.map f = some b) (h2 : o.map g = some c) (h3 : o.map h = some d) : o.map (fun x => (f x, g x, h x)) = some (b, c, d) := by
  cases o with
  | none => cases h1
  | some x => cases h1; cases h2; cases h3; rfl
theorem runA1 (w : World) : (HandSHeadRun.wholeF (fun p => HandSHeadRun.stepQ (HandSHeadRun.denQ HandSHeadRun.tabQ) p (w.withFollow "special-get-raises" false)) HandSHeadRun.fenceQ 9000 R.prog).map (fun x => HandSHeadRun.looksF R.prog x.1.heap x.2.abs) = some (true) := by
  kernel_rfl
theorem runA2 (w : World) : (HandSHeadRun.wholeF (fun p => HandSHeadRun.stepQ (HandSHeadRun.denQ HandSHeadRun.tabQ) p (w.withFollow "special-get-raises" false)) HandSHeadRun.fenceQ 9000 R.prog).map (fun x => HandSHeadRun.seenQ (PySem.W.view R.prog [59]) loose (importedModules R.prog.main.body) (fun s => PySem.W.xlAt (PySem.W.view R.prog [59]) [] s && PySem.W.recOk R.toRowW.records s) x.2.abs) = some (PySem.W.openGood (PySem.W.view R.prog [59]) loose) := by
  kernel_rfl
theorem runA3 (w : World) : (HandSHeadRun.wholeF (fun p => HandSHeadRun.stepQ (HandSHeadRun.denQ HandSHeadRun.tabQ) p (w.withFollow "special-get-raises" false)) HandSHeadRun.fenceQ 9000 R.prog).map (fun x => ob x.2) = some (hk.val (w.withFollow "special-get-raises" false)) := by
  kernel_rfl
theorem runA (w : World) : HandSHeadRun.RunEqI R (PySem.W.view R.prog [59]) hk ob 9000 loose (w.withFollow "special-get-raises" false) := by
  unfold HandSHeadRun.RunEqI
  exact run3 (runA1 w) (runA2 w) (runA3 w)
theorem runB1 (w : World) : (HandSHeadRun.wholeF (fun p => HandSHeadRun.stepQ (HandSHeadRun.denQ HandSHeadRun.tabQ) p (w.withFollow "special-get-raises" true)) HandSHeadRun.fenceQ 9000 R.prog).map (fun x => HandSHeadRun.looksF R.prog x.1.heap x.2.abs) = some (true) := by
  kernel_rfl
theorem runB2 (w : World) : (HandSHeadRun.wholeF (fun p => HandSHeadRun.stepQ (HandSHeadRun.denQ HandSHeadRun.tabQ) p (w.withFollow "special-get-raises" true)) HandSHeadRun.fenceQ 9000 R.prog).map (fun x => HandSHeadRun.seenQ (PySem.W.view R.prog [59]) loose (importedModules R.prog.main.body) (fun s => PySem.W.xlAt (PySem.W.view R.prog [59]) [] s && PySem.W.recOk R.toRowW.records s) x.2.abs) = some (PySem.W.openGood (PySem.W.view R.prog [59]) loose) := by
  kernel_rfl
theorem runB3 (w : World) : (HandSHeadRun.wholeF (fun p => HandSHeadRun.stepQ (HandSHeadRun.denQ HandSHeadRun.tabQ) p (w.withFollow "special-get-raises" true)) HandSHeadRun.fenceQ 9000 R.prog).map (fun x => ob x.2) = some (hk.val (w.withFollow "special-get-raises" true)) := by
  kernel_rfl
theorem runB (w : World) : HandSHeadRun.RunEqI R (PySem.W.view R.prog [59]) hk ob 9000 loose (w.withFollow "special-get-raises" true) := by
  unfold HandSHeadRun.RunEqI
  exact run3 (runB1 w) (runB2 w) (runB3 w)
theorem run (w : World) : HandSHeadRun.RunEqI R (PySem.W.view R.prog [59]) hk ob 9000 loose w := PySem.W.byRow2 (P := fun w => HandSHeadRun.RunEqI R (PySem.W.view R.prog [59]) hk ob 9000 loose w) "special-get-raises" runA runB w
def spLaw (K : PySem.W.Frag) : Sp := fun vs H Q _ => ∃ (a : Addr) (ns : List Int), vs = [.ref a] ∧ SqL K H a (ns.map V.int) ∧ ns.length ≤ 63 ∧ (∀ p ∈ csL K, H p.2 = some (.tbl #[])) ∧ ∀ H', Q (.bl true) H'
theorem facts {P : Program} {w : World} {K : PySem.W.Frag} {g : Addr → Option Obj} {h : Heap} {mg : Str → Option Value} {f : Addr} (X : K.In h) (G : h.Ns mainGlobals mg) (hfa : mg ("law" : Str) = some (.ref f)) (cx : obsX faL fnL moreL lamL K g = (He.valD fnL, true)) (ct : He.dicW K (He.ga K "TAKES") = some (He.keysIn w.params tks)) :
    ∃ fd : FuncData, (∀ (s : Shared) (v : Value), BindsTo s fd ⟨[v], []⟩ [("_law_script", v)]) ∧ ∀ base : Heap, K.In base → base.Ns mainGlobals mg → (∀ p ∈ csL K, LamX.TabB base mg p.1 p.2) → FnOk P w K mg base CX0 13 f fd ["_law_script"] (spLaw K) := by
  have c := sx_d cx
  obtain ⟨fd__law_cell, F__law_cell⟩ := c.def_ 0 (d := d__law_cell) rfl
  obtain ⟨fd__law_mixed, F__law_mixed⟩ := c.def_ 1 (d := d__law_mixed) rfl
  obtain ⟨fd__law_part, F__law_part⟩ := c.def_ 2 (d := d__law_part) rfl
  obtain ⟨fd__law_work, F__law_work⟩ := c.def_ 3 (d := d__law_work) rfl
  obtain ⟨fd_is_tuple_of, F_is_tuple_of⟩ := c.def_ 4 (d := d_is_tuple_of) rfl
  obtain ⟨fd_is_whole, F_is_whole⟩ := c.def_ 5 (d := d_is_whole) rfl
  obtain ⟨fd_is_part, F_is_part⟩ := c.def_ 6 (d := d_is_part) rfl
  obtain ⟨fd_is_work, F_is_work⟩ := c.def_ 7 (d := d_is_work) rfl
  obtain ⟨fd_need_work, F_need_work⟩ := c.def_ 8 (d := d_need_work) rfl
  obtain ⟨fd_Search_init, F_Search_init⟩ := c.def_ 9 (d := d_Search_init) rfl
  obtain ⟨fd__law_given, F__law_given⟩ := c.def_ 10 (d := d__law_given) rfl
  obtain ⟨fd__law_due, F__law_due⟩ := c.def_ 11 (d := d__law_due) rfl
  obtain ⟨fd__law_run, F__law_run⟩ := c.def_ 12 (d := d__law_run) rfl
  obtain ⟨fd__law_look, F__law_look⟩ := c.def_ 13 (d := d__law_look) rfl
  obtain ⟨fd__law_looks, F__law_looks⟩ := c.def_ 14 (d := d__law_looks) rfl
  obtain ⟨fd__law_odd_looks, F__law_odd_looks⟩ := c.def_ 15 (d := d__law_odd_looks) rfl
  obtain ⟨fd_is_digit, F_is_digit⟩ := c.def_ 16 (d := d_is_digit) rfl
  obtain ⟨fd_is_given, F_is_given⟩ := c.def_ 17 (d := d_is_given) rfl
  obtain ⟨fd_is_line_of_part, F_is_line_of_part⟩ := c.def_ 18 (d := d_is_line_of_part) rfl
  obtain ⟨fd_is_pair, F_is_pair⟩ := c.def_ 19 (d := d_is_pair) rfl
  obtain ⟨fd_rises, F_rises⟩ := c.def_ 20 (d := d_rises) rfl
  obtain ⟨fd_is_seen, F_is_seen⟩ := c.def_ 21 (d := d_is_seen) rfl
  obtain ⟨fd_is_look, F_is_look⟩ := c.def_ 22 (d := d_is_look) rfl
  obtain ⟨fd_need_look, F_need_look⟩ := c.def_ 23 (d := d_need_look) rfl
  obtain ⟨fd_Search_look, F_Search_look⟩ := c.def_ 24 (d := d_Search_look) rfl
  obtain ⟨fd_Search_need_number, F_Search_need_number⟩ := c.def_ 25 (d := d_Search_need_number) rfl
  obtain ⟨fd_Search_see, F_Search_see⟩ := c.def_ 26 (d := d_Search_see) rfl
  obtain ⟨fd_Search_looks, F_Search_looks⟩ := c.def_ 27 (d := d_Search_looks) rfl
  obtain ⟨fd_has_all, F_has_all⟩ := c.def_ 28 (d := d_has_all) rfl
  obtain ⟨fd_is_set, F_is_set⟩ := c.def_ 29 (d := d_is_set) rfl
  obtain ⟨fd_need_set, F_need_set⟩ := c.def_ 30 (d := d_need_set) rfl
  obtain ⟨fd_lines_in_use, F_lines_in_use⟩ := c.def_ 31 (d := d_lines_in_use) rfl
  obtain ⟨fd_given_of, F_given_of⟩ := c.def_ 32 (d := d_given_of) rfl
  obtain ⟨fd_fitting_digits, F_fitting_digits⟩ := c.def_ 33 (d := d_fitting_digits) rfl
  obtain ⟨fd_thinned, F_thinned⟩ := c.def_ 34 (d := d_thinned) rfl
  obtain ⟨fd_rows_of, F_rows_of⟩ := c.def_ 35 (d := d_rows_of) rfl
  obtain ⟨fd_least_room, F_least_room⟩ := c.def_ 36 (d := d_least_room) rfl
  obtain ⟨fd_rooms, F_rooms⟩ := c.def_ 37 (d := d_rooms) rfl
  obtain ⟨fd_least_sets, F_least_sets⟩ := c.def_ 38 (d := d_least_sets) rfl
  obtain ⟨fd_Search_sets, F_Search_sets⟩ := c.def_ 39 (d := d_Search_sets) rfl
  obtain ⟨fd_is_line, F_is_line⟩ := c.def_ 40 (d := d_is_line) rfl
  obtain ⟨fd_shown, F_shown⟩ := c.def_ 41 (d := d_shown) rfl
  obtain ⟨fd_load_of, F_load_of⟩ := c.def_ 42 (d := d_load_of) rfl
  obtain ⟨fd_Search_next_line, F_Search_next_line⟩ := c.def_ 43 (d := d_Search_next_line) rfl
  obtain ⟨fd__law_all, F__law_all⟩ := c.def_ 44 (d := d__law_all) rfl
  obtain ⟨fd__law_load, F__law_load⟩ := c.def_ 45 (d := d__law_load) rfl
  obtain ⟨fd__law_next, F__law_next⟩ := c.def_ 46 (d := d__law_next) rfl
  obtain ⟨fd__law_whole, F__law_whole⟩ := c.def_ 47 (d := d__law_whole) rfl
  obtain ⟨fd__law_all_good, F__law_all_good⟩ := c.def_ 48 (d := d__law_all_good) rfl
  obtain ⟨fd_law, F_law⟩ := c.def_ 49 (d := d_law) rfl
  obtain ⟨fd_least_of, F_least_of⟩ := c.def_ 50 (d := d_least_of) rfl
  have g__law_cell := He.glo_ok X G (c.fact 0 (f := .glo "_law_cell") rfl)
  have g__law_mixed := He.glo_ok X G (c.fact 1 (f := .glo "_law_mixed") rfl)
  have g__law_part := He.glo_ok X G (c.fact 2 (f := .glo "_law_part") rfl)
  have g__law_work := He.glo_ok X G (c.fact 3 (f := .glo "_law_work") rfl)
  have g_is_tuple_of := He.glo_ok X G (c.fact 4 (f := .glo "is_tuple_of") rfl)
  have g_is_whole := He.glo_ok X G (c.fact 5 (f := .glo "is_whole") rfl)
  have g_is_part := He.glo_ok X G (c.fact 6 (f := .glo "is_part") rfl)
  have g_is_work := He.glo_ok X G (c.fact 7 (f := .glo "is_work") rfl)
  have g_need_work := He.glo_ok X G (c.fact 8 (f := .glo "need_work") rfl)
  have mk_Search_init := He.mkr_ok (c.fact 9 (f := .mkr "Search") rfl)
  have g__law_given := He.glo_ok X G (c.fact 10 (f := .glo "_law_given") rfl)
  have g__law_due := He.glo_ok X G (c.fact 11 (f := .glo "_law_due") rfl)
  have g__law_run := He.glo_ok X G (c.fact 12 (f := .glo "_law_run") rfl)
  have g__law_look := He.glo_ok X G (c.fact 13 (f := .glo "_law_look") rfl)
  have g__law_looks := He.glo_ok X G (c.fact 14 (f := .glo "_law_looks") rfl)
  have g__law_odd_looks := He.glo_ok X G (c.fact 15 (f := .glo "_law_odd_looks") rfl)
  have g_is_digit := He.glo_ok X G (c.fact 16 (f := .glo "is_digit") rfl)
  have g_is_given := He.glo_ok X G (c.fact 17 (f := .glo "is_given") rfl)
  have g_is_line_of_part := He.glo_ok X G (c.fact 18 (f := .glo "is_line_of_part") rfl)
  have g_is_pair := He.glo_ok X G (c.fact 19 (f := .glo "is_pair") rfl)
  have g_rises := He.glo_ok X G (c.fact 20 (f := .glo "rises") rfl)
  have g_is_seen := He.glo_ok X G (c.fact 21 (f := .glo "is_seen") rfl)
  have g_is_look := He.glo_ok X G (c.fact 22 (f := .glo "is_look") rfl)
  have g_need_look := He.glo_ok X G (c.fact 23 (f := .glo "need_look") rfl)
  have mk_Search_look := He.meth_ok (c.fact 24 (f := .meth "Search" "look") rfl)
  have mk_Search_need_number := He.meth_ok (c.fact 25 (f := .meth "Search" "_need_number") rfl)
  have mk_Search_see := He.meth_ok (c.fact 26 (f := .meth "Search" "see") rfl)
  have mk_Search_looks := He.meth_ok (c.fact 27 (f := .meth "Search" "looks") rfl)
  have g_has_all := He.glo_ok X G (c.fact 28 (f := .glo "has_all") rfl)
  have g_is_set := He.glo_ok X G (c.fact 29 (f := .glo "is_set") rfl)
  have g_need_set := He.glo_ok X G (c.fact 30 (f := .glo "need_set") rfl)
  have g_lines_in_use := He.glo_ok X G (c.fact 31 (f := .glo "lines_in_use") rfl)
  have g_given_of := He.glo_ok X G (c.fact 32 (f := .glo "given_of") rfl)
  have g_fitting_digits := He.glo_ok X G (c.fact 33 (f := .glo "fitting_digits") rfl)
  have g_thinned := He.glo_ok X G (c.fact 34 (f := .glo "thinned") rfl)
  have g_rows_of := He.glo_ok X G (c.fact 35 (f := .glo "rows_of") rfl)
  have g_least_room := He.glo_ok X G (c.fact 36 (f := .glo "least_room") rfl)
  have g_rooms := He.glo_ok X G (c.fact 37 (f := .glo "rooms") rfl)
  have g_least_sets := He.glo_ok X G (c.fact 38 (f := .glo "least_sets") rfl)
  have mk_Search_sets := He.meth_ok (c.fact 39 (f := .meth "Search" "sets") rfl)
  have g_is_line := He.glo_ok X G (c.fact 40 (f := .glo "is_line") rfl)
  have g_shown := He.glo_ok X G (c.fact 41 (f := .glo "shown") rfl)
  have g_load_of := He.glo_ok X G (c.fact 42 (f := .glo "load_of") rfl)
  have mk_Search_next_line := He.meth_ok (c.fact 43 (f := .meth "Search" "next_line") rfl)
  have g__law_all := He.glo_ok X G (c.fact 44 (f := .glo "_law_all") rfl)
  have g__law_load := He.glo_ok X G (c.fact 45 (f := .glo "_law_load") rfl)
  have g__law_next := He.glo_ok X G (c.fact 46 (f := .glo "_law_next") rfl)
  have g__law_whole := He.glo_ok X G (c.fact 47 (f := .glo "_law_whole") rfl)
  have g__law_all_good := He.glo_ok X G (c.fact 48 (f := .glo "_law_all_good") rfl)
  have g_law := He.glo_ok X G (c.fact 49 (f := .glo "law") rfl)
  have g_least_of := He.glo_ok X G (c.fact 50 (f := .glo "least_of") rfl)
  have gl_Search := He.glo_ok X G (c.fact 70 (f := .glo "Search") rfl)
  have gl_TAKES := He.glo_ok X G (c.fact 71 (f := .glo "TAKES") rfl)
  have m_range := He.free_ok X G (c.fact 51 (f := .free "range") rfl)
  have m_tuple := He.free_ok X G (c.fact 52 (f := .free "tuple") rfl)
  have m_min := He.free_ok X G (c.fact 53 (f := .free "min") rfl)
  have m_type := He.free_ok X G (c.fact 54 (f := .free "type") rfl)
  have m_len := He.free_ok X G (c.fact 55 (f := .free "len") rfl)
  have m_int := He.free_ok X G (c.fact 56 (f := .free "int") rfl)
  have m_str := He.free_ok X G (c.fact 57 (f := .free "str") rfl)
  have m_all := He.free_ok X G (c.fact 58 (f := .free "all") rfl)
  have m_list := He.free_ok X G (c.fact 59 (f := .free "list") rfl)
  have m_enumerate := He.free_ok X G (c.fact 60 (f := .free "enumerate") rfl)
  have m_zip := He.free_ok X G (c.fact 61 (f := .free "zip") rfl)
  have m_sorted := He.free_ok X G (c.fact 62 (f := .free "sorted") rfl)
  have m_reversed := He.free_ok X G (c.fact 63 (f := .free "reversed") rfl)
  have m_any := He.free_ok X G (c.fact 64 (f := .free "any") rfl)
  have m_max := He.free_ok X G (c.fact 65 (f := .free "max") rfl)
  have m_dict := He.free_ok X G (c.fact 66 (f := .free "dict") rfl)
  have m_set := He.free_ok X G (c.fact 67 (f := .free "set") rfl)
  have m_isinstance := He.free_ok X G (c.fact 68 (f := .free "isinstance") rfl)
  have m_bool := He.free_ok X G (c.fact 69 (f := .free "bool") rfl)
  have i_combinations : mg ("combinations" : Str) = some (.type "itertools.combinations") := PySem.W.mg_of X G (He.eqO_ok (sx_more cx 0 rfl))
  have e := hfa.symm.trans g_law
  cases e
  have b := FunD.bindsA (ps := ["_law_script"]) F_law fun _ _ _ _ _ _ us hl => match us, hl with | [_], _ => rfl
  refine ⟨fd_law, fun s v => b s [v] rfl, fun base _ _ TB => ?_⟩
  letI : Lam := ⟨lamTs K lamL⟩
  have SKx : SeK K (He.ga K "Search") := ⟨He.cls_ok (c.fact 72 (f := .cls "Search") rfl), He.noat_ok (c.fact 73 (f := .noat "Search" "_work") rfl), He.noat_ok (c.fact 74 (f := .noat "Search" "_looks") rfl)⟩
  have TKx : TakesK K w mg := takesK_of (sx_more cx 1 rfl) ct gl_TAKES takesN_words (by decide +kernel)
  have T_least_sets : LamT base mg fd_least_sets.code ("least_sets" ++ ".<locals>." ++ "<lambda>") := ⟨cdA K "least_sets", tbA K (cdA K "least_sets"), lam_code (sx_lam cx (x := "least_sets") (by decide +kernel)) F_least_sets, TB _ (List.mem_map.mpr ⟨"least_sets", by decide +kernel, rfl⟩), List.mem_map.mpr ⟨"least_sets", by decide +kernel, rfl⟩, lam_one (sx_nd cx) (by decide +kernel)⟩
  have rb_least_of : Binds K fd_least_of ["many", "fits"] [] := FunD.bindsN F_least_of fun _ _ _ _ _ _ us hl => match us, hl with | [_, _], _ => rfl
  have RW_least_of : Raw K mg "least_of" s_least_of ["many", "fits"] := ⟨_, fd_least_of, F_least_of, g_least_of, rb_least_of⟩
  have b__law_cell : Binds K fd__law_cell ["_law_script", "_law_k"] [] := FunD.bindsN F__law_cell fun _ _ _ _ _ _ us hl => match us, hl with | [_, _], _ => rfl
  have G__law_cell : Dn P w K mg base 1 "_law_cell" R__law_cell .c := dn_mk (f__law_cell (k := 0) F__law_cell ) g__law_cell F__law_cell.kp b__law_cell
  have b__law_mixed : Binds K fd__law_mixed ["_law_script", "_law_k"] [] := FunD.bindsN F__law_mixed fun _ _ _ _ _ _ us hl => match us, hl with | [_, _], _ => rfl
  have G__law_mixed : Dn P w K mg base 2 "_law_mixed" R__law_mixed .c := dn_mk (f__law_mixed (k := 1) F__law_mixed G__law_cell) g__law_mixed F__law_mixed.kp b__law_mixed
  have b__law_part : Binds K fd__law_part ["_law_cell_here", "_law_lines"] [] := FunD.bindsN F__law_part fun _ _ _ _ _ _ us hl => match us, hl with | [_, _], _ => rfl
  have G__law_part : Dn P w K mg base 1 "_law_part" R__law_part .c := dn_mk (f__law_part (k := 0) F__law_part m_range m_tuple m_min) g__law_part F__law_part.kp b__law_part
  have b__law_workG : Binds K fd__law_work ["_law_script", "_law_most"] [] := FunD.bindsN F__law_work fun _ _ _ _ _ _ us hl => match us, hl with | [_, _], _ => rfl
  have GG__law_workG : GDn P w K mg base 3 "_law_work" R__law_workG := gdn_mk (fG__law_workG (k := 2) F__law_work G__law_mixed (G__law_part.up (by decide)) m_range m_min) g__law_work F__law_work.kp b__law_workG
  have b_is_tuple_of : Binds K fd_is_tuple_of ["thing", "length"] [] := FunD.bindsN F_is_tuple_of fun _ _ _ _ _ _ us hl => match us, hl with | [_, _], _ => rfl
  have G_is_tuple_of : Dn P w K mg base 1 "is_tuple_of" R_is_tuple_of .c := dn_mk (f_is_tuple_of (k := 0) F_is_tuple_of m_type m_tuple m_len) g_is_tuple_of F_is_tuple_of.kp b_is_tuple_of
  have b_is_whole : Binds K fd_is_whole ["thing", "low", "high"] [] := FunD.bindsN F_is_whole fun _ _ _ _ _ _ us hl => match us, hl with | [_, _, _], _ => rfl
  have G_is_whole : Dn P w K mg base 1 "is_whole" R_is_whole .c := dn_mk (f_is_whole (k := 0) F_is_whole m_type m_int) g_is_whole F_is_whole.kp b_is_whole
  have b_is_part : Binds K fd_is_part ["thing", "line"] [] := FunD.bindsN F_is_part fun _ _ _ _ _ _ us hl => match us, hl with | [_, _], _ => rfl
  have G_is_part : Dn P w K mg base 2 "is_part" R_is_part .c := dn_mk (f_is_part (k := 1) F_is_part G_is_whole TKx m_type m_tuple m_str m_len m_all) g_is_part F_is_part.kp b_is_part
  have b_is_work : Binds K fd_is_work ["thing"] [] := FunD.bindsN F_is_work fun _ _ _ _ _ _ us hl => match us, hl with | [_], _ => rfl
  have G_is_work : Dn P w K mg base 3 "is_work" R_is_work .c := dn_mk (f_is_work (k := 2) F_is_work (G_is_tuple_of.up (by decide)) (G_is_whole.up (by decide)) G_is_part m_type m_list m_len m_all m_enumerate) g_is_work F_is_work.kp b_is_work
  have b_need_work : Binds K fd_need_work ["thing"] [] := FunD.bindsN F_need_work fun _ _ _ _ _ _ us hl => match us, hl with | [_], _ => rfl
  have G_need_work : Dn P w K mg base 4 "need_work" R_need_work .c := dn_mk (f_need_work (k := 3) F_need_work G_is_work) g_need_work F_need_work.kp b_need_work
  have b_Search_init : Binds K fd_Search_init ["self", "work"] [] := FunD.bindsN F_Search_init fun _ _ _ _ _ _ us hl => match us, hl with | [_, _], _ => rfl
  have MI_Search_init : MkS P w K mg base 5 "Search" (He.ga K "Search") := ⟨⟨_, fd_Search_init, _, fI_Search_init (P := P) (w := w) (base := base) (k := 4) F_Search_init SKx G_need_work m_list, gl_Search, mk_Search_init, b_Search_init⟩⟩
  have b__law_given : Binds K fd__law_given ["_law_work_here", "_law_cell_here"] [] := FunD.bindsN F__law_given fun _ _ _ _ _ _ us hl => match us, hl with | [_, _], _ => rfl
  have G__law_given : Dn P w K mg base 1 "_law_given" R__law_given .c := dn_mk (f__law_given (k := 0) F__law_given m_tuple m_range) g__law_given F__law_given.kp b__law_given
  have b__law_due : Binds K fd__law_due ["_law_part_here", "_law_digits", "_law_ring"] [] := FunD.bindsN F__law_due fun _ _ _ _ _ _ us hl => match us, hl with | [_, _, _], _ => rfl
  have G__law_due : Dn P w K mg base 1 "_law_due" R__law_due .c := dn_mk (f__law_due (k := 0) F__law_due m_int) g__law_due F__law_due.kp b__law_due
  have b__law_run : Binds K fd__law_run ["_law_work_here", "_law_given_here", "_law_told"] [] := FunD.bindsN F__law_run fun _ _ _ _ _ _ us hl => match us, hl with | [_, _, _], _ => rfl
  have G__law_run : Dn P w K mg base 2 "_law_run" R__law_run .o := dn_mk (f__law_run (k := 1) F__law_run G__law_due m_list m_len m_range) g__law_run F__law_run.kp b__law_run
  have b__law_look : Binds K fd__law_look ["_law_work_here", "_law_cell_here", "_law_more"] [] := FunD.bindsN F__law_look fun _ _ _ _ _ _ us hl => match us, hl with | [_, _, _], _ => rfl
  have G__law_look : Dn P w K mg base 3 "_law_look" R__law_look .c := dn_mk (f__law_look (k := 2) F__law_look (G__law_given.up (by decide)) G__law_run m_tuple m_len m_range) g__law_look F__law_look.kp b__law_look
  have b__law_looks : Binds K fd__law_looks ["_law_script", "_law_work_here", "_law_first", "_law_most"] [] := FunD.bindsN F__law_looks fun _ _ _ _ _ _ us hl => match us, hl with | [_, _, _, _], _ => rfl
  have G__law_looks : Dn P w K mg base 4 "_law_looks" R__law_looks .o := dn_mk (f__law_looks (k := 3) F__law_looks (G__law_mixed.up (by decide)) G__law_look m_range) g__law_looks F__law_looks.kp b__law_looks
  have b__law_odd_looks : Binds K fd__law_odd_looks ["_law_script", "_law_work_here"] [] := FunD.bindsN F__law_odd_looks fun _ _ _ _ _ _ us hl => match us, hl with | [_, _], _ => rfl
  have G__law_odd_looks : Dn P w K mg base 3 "_law_odd_looks" R__law_odd_looks .o := dn_mk (f__law_odd_looks (k := 2) F__law_odd_looks G__law_mixed (G__law_given.up (by decide)) G__law_run m_len m_range) g__law_odd_looks F__law_odd_looks.kp b__law_odd_looks
  have b_is_digit : Binds K fd_is_digit ["work", "thing"] [] := FunD.bindsN F_is_digit fun _ _ _ _ _ _ us hl => match us, hl with | [_, _], _ => rfl
  have G_is_digit : Dn P w K mg base 2 "is_digit" R_is_digit .c := dn_mk (f_is_digit (k := 1) F_is_digit G_is_whole) g_is_digit F_is_digit.kp b_is_digit
  have b_is_given : Binds K fd_is_given ["work", "thing"] [] := FunD.bindsN F_is_given fun _ _ _ _ _ _ us hl => match us, hl with | [_, _], _ => rfl
  have G_is_given : Dn P w K mg base 3 "is_given" R_is_given .c := dn_mk (f_is_given (k := 2) F_is_given (G_is_tuple_of.up (by decide)) G_is_digit m_all) g_is_given F_is_given.kp b_is_given
  have b_is_line_of_part : Binds K fd_is_line_of_part ["work", "thing"] [] := FunD.bindsN F_is_line_of_part fun _ _ _ _ _ _ us hl => match us, hl with | [_, _], _ => rfl
  have G_is_line_of_part : Dn P w K mg base 2 "is_line_of_part" R_is_line_of_part .c := dn_mk (f_is_line_of_part (k := 1) F_is_line_of_part G_is_whole m_len) g_is_line_of_part F_is_line_of_part.kp b_is_line_of_part
  have b_is_pair : Binds K fd_is_pair ["work", "thing"] [] := FunD.bindsN F_is_pair fun _ _ _ _ _ _ us hl => match us, hl with | [_, _], _ => rfl
  have G_is_pair : Dn P w K mg base 3 "is_pair" R_is_pair .c := dn_mk (f_is_pair (k := 2) F_is_pair (G_is_tuple_of.up (by decide)) G_is_line_of_part G_is_digit) g_is_pair F_is_pair.kp b_is_pair
  have b_rises : Binds K fd_rises ["numbers"] [] := FunD.bindsN F_rises fun _ _ _ _ _ _ us hl => match us, hl with | [_], _ => rfl
  have G_rises : Dn P w K mg base 1 "rises" R_rises .c := dn_mk (f_rises (k := 0) F_rises m_all m_zip) g_rises F_rises.kp b_rises
  have b_is_seen : Binds K fd_is_seen ["work", "thing"] [] := FunD.bindsN F_is_seen fun _ _ _ _ _ _ us hl => match us, hl with | [_, _], _ => rfl
  have G_is_seen : Dn P w K mg base 4 "is_seen" R_is_seen .c := dn_mk (f_is_seen (k := 3) F_is_seen G_is_pair (G_rises.up (by decide)) m_all m_type m_tuple) g_is_seen F_is_seen.kp b_is_seen
  have b_is_look : Binds K fd_is_look ["work", "thing"] [] := FunD.bindsN F_is_look fun _ _ _ _ _ _ us hl => match us, hl with | [_, _], _ => rfl
  have G_is_look : Dn P w K mg base 5 "is_look" R_is_look .c := dn_mk (f_is_look (k := 4) F_is_look (G_is_tuple_of.up (by decide)) (G_is_given.up (by decide)) G_is_seen) g_is_look F_is_look.kp b_is_look
  have b_need_look : Binds K fd_need_look ["work", "thing"] [] := FunD.bindsN F_need_look fun _ _ _ _ _ _ us hl => match us, hl with | [_, _], _ => rfl
  have G_need_look : Dn P w K mg base 6 "need_look" R_need_look .c := dn_mk (f_need_look (k := 5) F_need_look G_is_look) g_need_look F_need_look.kp b_need_look
  have b_Search_look : Binds K fd_Search_look ["self", "given", "seen"] [] := FunD.bindsN F_Search_look fun _ _ _ _ _ _ us hl => match us, hl with | [_, _, _], _ => rfl
  have MX_Search_look : MMn P w K mg base 7 (He.ga K "Search") "look" (R_Search_look (He.ga K "Search")) := ⟨⟨_, fd_Search_look, _, fX_Search_look (P := P) (w := w) (base := base) (k := 6) F_Search_look SKx G_need_look, mk_Search_look, b_Search_look⟩⟩
  have b_Search_need_number : Binds K fd_Search_need_number ["self", "thing"] [] := FunD.bindsN F_Search_need_number fun _ _ _ _ _ _ us hl => match us, hl with | [_, _], _ => rfl
  have ME_Search_need_number : MDn P w K mg base 2 (He.ga K "Search") "_need_number" (R_Search_need_number (He.ga K "Search")) .c := ⟨⟨_, fd_Search_need_number, _, f_Search_need_number (P := P) (w := w) (base := base) (k := 1) F_Search_need_number SKx G_is_whole m_len, mk_Search_need_number, b_Search_need_number⟩⟩
  have b_Search_see : Binds K fd_Search_see ["self", "number", "line", "digit"] [] := FunD.bindsN F_Search_see fun _ _ _ _ _ _ us hl => match us, hl with | [_, _, _, _], _ => rfl
  have MX_Search_see : MMn P w K mg base 4 (He.ga K "Search") "see" (R_Search_see (He.ga K "Search")) := ⟨⟨_, fd_Search_see, _, fX_Search_see (P := P) (w := w) (base := base) (k := 3) F_Search_see SKx (ME_Search_need_number.up (by decide)) G_is_pair m_tuple m_sorted, mk_Search_see, b_Search_see⟩⟩
  have b_Search_looks : Binds K fd_Search_looks ["self"] [] := FunD.bindsN F_Search_looks fun _ _ _ _ _ _ us hl => match us, hl with | [_], _ => rfl
  have ME_Search_looks : MDn P w K mg base 1 (He.ga K "Search") "looks" (R_Search_looks (He.ga K "Search")) .o := ⟨⟨_, fd_Search_looks, _, f_Search_looks (P := P) (w := w) (base := base) (k := 0) F_Search_looks SKx m_list, mk_Search_looks, b_Search_looks⟩⟩
  have b_has_all : Binds K fd_has_all ["chosen", "numbers"] [] := FunD.bindsN F_has_all fun _ _ _ _ _ _ us hl => match us, hl with | [_, _], _ => rfl
  have G_has_all : Dn P w K mg base 1 "has_all" R_has_all .c := dn_mk (f_has_all (k := 0) F_has_all m_all) g_has_all F_has_all.kp b_has_all
  have b_is_set : Binds K fd_is_set ["work", "thing"] [] := FunD.bindsN F_is_set fun _ _ _ _ _ _ us hl => match us, hl with | [_, _], _ => rfl
  have G_is_set : Dn P w K mg base 2 "is_set" R_is_set .c := dn_mk (f_is_set (k := 1) F_is_set G_is_whole G_rises m_len m_all m_type m_tuple) g_is_set F_is_set.kp b_is_set
  have b_need_set : Binds K fd_need_set ["work", "thing"] [] := FunD.bindsN F_need_set fun _ _ _ _ _ _ us hl => match us, hl with | [_, _], _ => rfl
  have G_need_set : Dn P w K mg base 3 "need_set" R_need_set .c := dn_mk (f_need_set (k := 2) F_need_set G_is_set) g_need_set F_need_set.kp b_need_set
  have b_lines_in_use : Binds K fd_lines_in_use ["work", "wanted", "broken", "kept"] [] := FunD.bindsN F_lines_in_use fun _ _ _ _ _ _ us hl => match us, hl with | [_, _, _, _], _ => rfl
  have G_lines_in_use : Dn P w K mg base 1 "lines_in_use" R_lines_in_use .o := dn_mk (f_lines_in_use (k := 0) F_lines_in_use m_len m_range m_reversed) g_lines_in_use F_lines_in_use.kp b_lines_in_use
  have b_given_of : Binds K fd_given_of ["part", "digits", "ring"] [] := FunD.bindsN F_given_of fun _ _ _ _ _ _ us hl => match us, hl with | [_, _, _], _ => rfl
  have G_given_of : Dn P w K mg base 1 "given_of" R_given_of .c := dn_mk (f_given_of (k := 0) F_given_of ) g_given_of F_given_of.kp b_given_of
  have b_fitting_digits : Binds K fd_fitting_digits ["work", "row", "wanted", "broken"] [] := FunD.bindsN F_fitting_digits fun _ _ _ _ _ _ us hl => match us, hl with | [_, _, _, _], _ => rfl
  have G_fitting_digits : Dn P w K mg base 2 "fitting_digits" R_fitting_digits .o := dn_mk (f_fitting_digits (k := 1) F_fitting_digits G_given_of m_len m_range m_list) g_fitting_digits F_fitting_digits.kp b_fitting_digits
  have b_thinned : Binds K fd_thinned ["rows", "lines"] [] := FunD.bindsN F_thinned fun _ _ _ _ _ _ us hl => match us, hl with | [_, _], _ => rfl
  have G_thinned : Dn P w K mg base 1 "thinned" R_thinned .o := dn_mk (f_thinned (k := 0) F_thinned m_tuple m_list) g_thinned F_thinned.kp b_thinned
  have b_rows_of : Binds K fd_rows_of ["work", "look", "broken", "kept"] [] := FunD.bindsN F_rows_of fun _ _ _ _ _ _ us hl => match us, hl with | [_, _, _, _], _ => rfl
  have G_rows_of : Dn P w K mg base 3 "rows_of" R_rows_of .c := dn_mk (f_rows_of (k := 2) F_rows_of (G_lines_in_use.up (by decide)) G_fitting_digits (G_thinned.up (by decide))) g_rows_of F_rows_of.kp b_rows_of
  have b_least_room : Binds K fd_least_room ["work", "look", "broken"] [] := FunD.bindsN F_least_room fun _ _ _ _ _ _ us hl => match us, hl with | [_, _, _], _ => rfl
  have G_least_room : Dn P w K mg base 4 "least_room" R_least_room .c := dn_mk (f_least_room (k := 3) F_least_room G_rows_of) g_least_room F_least_room.kp b_least_room
  have b_rooms : Binds K fd_rooms ["work", "looks", "broken"] [] := FunD.bindsN F_rooms fun _ _ _ _ _ _ us hl => match us, hl with | [_, _, _], _ => rfl
  have G_rooms : Dn P w K mg base 5 "rooms" R_rooms .o := dn_mk (f_rooms (k := 4) F_rooms (G_need_set.up (by decide)) G_least_room) g_rooms F_rooms.kp b_rooms
  have b_roomsN : Binds K fd_rooms ["work", "looks", "broken"] [] := FunD.bindsN F_rooms fun _ _ _ _ _ _ us hl => match us, hl with | [_, _, _], _ => rfl
  have G_roomsN : Dn P w K mg base 5 "rooms" R_roomsN .c := dn_mk (f_roomsN (k := 4) F_rooms (G_need_set.up (by decide)) G_least_room) g_rooms F_rooms.kp b_roomsN
  have b_least_sets : Binds K fd_least_sets ["work", "looks"] [] := FunD.bindsN F_least_sets fun _ _ _ _ _ _ us hl => match us, hl with | [_, _], _ => rfl
  have G_least_sets : Dn P w K mg base 8 "least_sets" R_least_sets .o := dn_mk (f_least_sets (k := 5) F_least_sets T_least_sets RW_least_of (G_has_all.up (by decide)) G_rooms G_roomsN m_len m_any m_range i_combinations) g_least_sets F_least_sets.kp b_least_sets
  have b_Search_sets : Binds K fd_Search_sets ["self"] [] := FunD.bindsN F_Search_sets fun _ _ _ _ _ _ us hl => match us, hl with | [_], _ => rfl
  have ME_Search_sets : MDn P w K mg base 9 (He.ga K "Search") "sets" (R_Search_sets (He.ga K "Search")) .o := ⟨⟨_, fd_Search_sets, _, f_Search_sets (P := P) (w := w) (base := base) (k := 8) F_Search_sets SKx G_least_sets, mk_Search_sets, b_Search_sets⟩⟩
  have b_is_line : Binds K fd_is_line ["work", "thing"] [] := FunD.bindsN F_is_line fun _ _ _ _ _ _ us hl => match us, hl with | [_, _], _ => rfl
  have G_is_line : Dn P w K mg base 2 "is_line" R_is_line .c := dn_mk (f_is_line (k := 1) F_is_line G_is_whole m_len) g_is_line F_is_line.kp b_is_line
  have b_shown : Binds K fd_shown ["work", "look", "broken", "line"] [] := FunD.bindsN F_shown fun _ _ _ _ _ _ us hl => match us, hl with | [_, _, _, _], _ => rfl
  have G_shown : Dn P w K mg base 7 "shown" R_shown .o := dn_mk (f_shown (k := 6) F_shown G_need_look (G_need_set.up (by decide)) (G_is_line.up (by decide)) (G_rows_of.up (by decide)) m_sorted) g_shown F_shown.kp b_shown
  have b_load_of : Binds K fd_load_of ["work", "look", "sets", "line"] [] := FunD.bindsN F_load_of fun _ _ _ _ _ _ us hl => match us, hl with | [_, _, _, _], _ => rfl
  have G_load_of : Dn P w K mg base 8 "load_of" R_load_of .c := dn_mk (f_load_of (k := 7) F_load_of G_shown m_max) g_load_of F_load_of.kp b_load_of
  have b_Search_next_line : Binds K fd_Search_next_line ["self", "number"] [] := FunD.bindsN F_Search_next_line fun _ _ _ _ _ _ us hl => match us, hl with | [_, _], _ => rfl
  have ME_Search_next_line : MDn P w K mg base 10 (He.ga K "Search") "next_line" (R_Search_next_line (He.ga K "Search")) .c := ⟨⟨_, fd_Search_next_line, _, f_Search_next_line (P := P) (w := w) (base := base) (k := 9) F_Search_next_line SKx (ME_Search_need_number.up (by decide)) ME_Search_sets (G_load_of.up (by decide)) m_len m_range m_min, mk_Search_next_line, b_Search_next_line⟩⟩
  have b__law_all : Binds K fd__law_all ["_law_work_here", "_law_given_here", "_law_seen", "_law_broken"] [] := FunD.bindsN F__law_all fun _ _ _ _ _ _ us hl => match us, hl with | [_, _, _, _], _ => rfl
  have G__law_all : Dn P w K mg base 2 "_law_all" R__law_all .c := dn_mk (f__law_all (k := 1) F__law_all G__law_due m_list m_len m_range) g__law_all F__law_all.kp b__law_all
  have b__law_load : Binds K fd__law_load ["_law_work_here", "_law_sets", "_law_look_here", "_law_line"] [] := FunD.bindsN F__law_load fun _ _ _ _ _ _ us hl => match us, hl with | [_, _, _, _], _ => rfl
  have G__law_load : Dn P w K mg base 3 "_law_load" R__law_load .c := dn_mk (f__law_load (k := 2) F__law_load G__law_all m_max m_dict m_sorted m_set) g__law_load F__law_load.kp b__law_load
  have b__law_next : Binds K fd__law_next ["_law_work_here", "_law_sets", "_law_look_here"] [] := FunD.bindsN F__law_next fun _ _ _ _ _ _ us hl => match us, hl with | [_, _, _], _ => rfl
  have G__law_next : Dn P w K mg base 4 "_law_next" R__law_next .c := dn_mk (f__law_next (k := 3) F__law_next G__law_load m_len m_range m_min) g__law_next F__law_next.kp b__law_next
  have b__law_whole : Binds K fd__law_whole ["_law_thing"] [] := FunD.bindsN F__law_whole fun _ _ _ _ _ _ us hl => match us, hl with | [_], _ => rfl
  have G__law_whole : Dn P w K mg base 1 "_law_whole" R__law_whole .c := dn_mk (f__law_whole (k := 0) F__law_whole m_isinstance m_int m_bool) g__law_whole F__law_whole.kp b__law_whole
  have b__law_all_good : Binds K fd__law_all_good ["_law_search", "_law_work_here"] [] := FunD.bindsN F__law_all_good fun _ _ _ _ _ _ us hl => match us, hl with | [_, _], _ => rfl
  have G__law_all_good : Dn P w K mg base 11 "_law_all_good" (R__law_all_good (He.ga K "Search")) .c := dn_mk (f__law_all_good (k := 10) F__law_all_good SKx (ME_Search_sets.up (by decide)) (ME_Search_looks.up (by decide)) ME_Search_next_line (G__law_next.up (by decide)) (G__law_whole.up (by decide)) m_enumerate m_isinstance m_tuple m_len) g__law_all_good F__law_all_good.kp b__law_all_good
  have GL := f_law (P := P) (w := w) (base := base) (k := 11) F_law SKx (G__law_mixed.up (by decide)) (GG__law_workG.up (by decide)) (G__law_part.up (by decide)) (MI_Search_init.up (by decide)) (G__law_looks.up (by decide)) (G__law_odd_looks.up (by decide)) (MX_Search_look.up (by decide)) (MX_Search_see.up (by decide)) (ME_Search_looks.up (by decide)) (ME_Search_next_line.up (by decide)) G__law_all_good m_len m_range m_int m_dict
  refine GL.imp fun vs H Q E q => ?_
  obtain ⟨a, ns, rfl, hS, hl, ht, q⟩ := q
  refine ⟨H, [scr ns], _, .refl _, fun p hp => ?_, .cons (.scr hS) .nil, ⟨ns, rfl, rfl⟩, fun v Ho' H' _ r => by rw [Rs.bool_inv r]; exact q H'⟩
  obtain ⟨x, hx, rfl⟩ := List.mem_map.mp hp
  exact LamX.TabS.nil (ht _ (List.mem_map.mpr ⟨x, hx, rfl⟩))
end K10
open PySem PySem.W PySem.Calls PyProof.Rows
set_option maxHeartbeats 0 in
theorem PySem.Challenge.cw_whichbroke_k10_where_to_look_next_holds : PySem.Challenge.rw_whichbroke_k10_where_to_look_next.Holds := by
  w_on; o_law
  refine HandSHeadRun.head_imp (r := OpenLaw.row PySem.Challenge.rw_whichbroke_k10_where_to_look_next) (q := view (OpenLaw.row PySem.Challenge.rw_whichbroke_k10_where_to_look_next).prog [59]) (H := K10.hk) (ob := K10.ob) (M := 9000) (loose := K10.loose) (d := HandSHeadRun.topDef (OpenLaw.row PySem.Challenge.rw_whichbroke_k10_where_to_look_next).prog 59) (kwd := []) K10.ob_eq
    K10.run (by kernel_rfl) (by kernel_rfl) (by kernel_rfl) (by rfl) (by first | assumption | decide +kernel) (by decide +kernel) ⟨rfl, rfl, rfl, rfl, rfl, by decide +kernel⟩ ?hw ?hc
  case hw => w_witness2
  case hc =>
    refine DL.walk_lam (l := PySem.Challenge.rw_whichbroke_k10_where_to_look_next) (n := 63) (k := 13) (x := "_law_script") (CX := L2.CX0) rfl (by decide) (by kernel_rfl) ⟨rfl, by decide, by decide⟩ ?F (fun _ _ _ _ z => z)
    intro w mg fa h Y G hmg0
    obtain ⟨K, g, KX, hg, c0⟩ := Y
    have c := congrArg (fun z : DL.AlY => z.1) c0
    have ct := congrArg (fun z : DL.AlY => z.2) c0
    have hmg : mg ("law" : PySem.Str) = some (.ref fa) := by
      have e : (HandSHeadRun.topDef (OpenLaw.row PySem.Challenge.rw_whichbroke_k10_where_to_look_next).prog 59).name = ("law" : PySem.Str) := by kernel_rfl
      rw [← e]
      exact hmg0
    obtain ⟨fd, hb, hF⟩ := K10.facts (P := (PySem.Challenge.rw_whichbroke_k10_where_to_look_next).prog) (w := w) KX G hmg c ct
    have ho : ∀ p ∈ K10.csL K, ∃ x, DL.LamO g K x ∧ p = (DL.cdA K x, DL.tbA K (DL.cdA K x)) := fun p hp => by
      obtain ⟨x, hx, e⟩ := List.mem_map.mp hp
      exact ⟨x, DL.lamO_of (DL.sx_lam c hx), e.symm⟩
    refine ⟨K, fd, K10.spLaw K, K10.csL K, KX, hb, fun p hp => ?_, fun p hp => ?_, fun p hp => ?_, fun H a ns hl ht hS => ⟨a, ns, rfl, hS, hl, ht, fun _ => rfl⟩, hF⟩
    · obtain ⟨x, o, rfl⟩ := ho p hp
      exact hg _ _ o.tb
    · obtain ⟨x, o, rfl⟩ := ho p hp
      exact o.no
    · obtain ⟨x, o, rfl⟩ := ho p hp
      exact codeHd_of_K KX o.hd
