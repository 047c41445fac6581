import PyProof.Rows.All
import Wide.All
import OpenK.AllK
import Wide.FinOn
import HandS.ForMost
import HandS.IsInst
import HandS.Strs
import HandS.More
import HandS.Style
import HandS.RaiseMore
import HandS.Walk
import HandS.TupAny
import HandS.Evl
import HandS.Nested
import KE.SortData
import KE.GoesEnum
import HandS.DictComp
import HandS.ListItems
import HandS.DictTup
import KE.KDictZip
import HandS.Wide
import KE.GoesMore
import KE.GoesZip
import HandS.Exc
import HandS.ExcOwn
import HandS.WordsExc
import HandS.ExcIs
import HandS.ExcCtx
import HandS.Hot
import HandS.HotCalls
import KE.GoesComp
import HandS.List
import HandS.Comp
import HandS.Lambda
import HandS.EndTab
import HandS.SetFor
import PyProof.SetRoads
import HandS.TupLe
import PyProof.TupleOfSeq
import HandS.ExcValue
import PySem.Challenge.RW_paidback_k10_orders_told_back
set_option Elab.async false
set_option linter.all false
set_option maxRecDepth 100000
set_option maxHeartbeats 8000000
namespace Pb
open PySem L2
/-! ### a bag: a list of a list of 400 draws and of a count -/
def BagQ (p q : Addr) (H : Hp) : Prop := ∃ (k : Int) (xs : List Int), q ≠ p ∧ 0 ≤ k ∧ xs.length = 400 ∧ H p = some (.lst [.ref q, .int k]) ∧ H q = some (.lst (xs.map V.int))
/-- n: how wide data is at most; p: the bag; S: what else no data is; T: tables of code objects -/
structure Fz where
  n : Nat
  p : Addr
  S : List Addr
  T : List Addr
abbrev Fz.w (z : Fz) (m : Nat) : Fz := { z with n := m }
abbrev Fz.av (z : Fz) (L : Addr) : Fz := { z with S := L :: z.S }
def Al (p : Addr) (H : Hp) : Prop := ∃ o, H p = some o ∧ ∀ xs, o ≠ .tup xs
/-- the name of the law's lambdas -/
def lamAt : Nat → Nat → Str := fun _ _ => "law.<locals>.<lambda>"
/-- the heap without what stands at p -/
def hid (p : Addr) (H : Hp) : Hp := fun b => if b = p then none else H b
theorem hid_at {p b : Addr} {H : Hp} {o : HO} : hid p H b = some o ↔ b ≠ p ∧ H b = some o := by
  unfold hid
  by_cases e : b = p
  · rw [if_pos e]; exact ⟨fun h => (nomatch h), fun h => (h.1 e).elim⟩
  · rw [if_neg e]; exact ⟨fun h => ⟨e, h⟩, fun h => h.2⟩
/-- the heap has grown; what stood stands, but for the bag at p, which is a bag still, and for tables of code objects, which grow -/
structure ExB (p : Addr) (H H' : Hp) : Prop where
  keep : ∀ a o, a ≠ p → H a = some o → (nt : ∀ ps, o ≠ HO.tbl ps := by intro _ z; cases z) → H' a = some o
  al : Al p H → Al p H'
  bag : ∀ q, BagQ p q H → BagQ p q H'
  tb : ∀ a ps, a ≠ p → H a = some (.tbl ps) → ∃ ps', H' a = some (.tbl ps')
  tabs : ∀ P, NdefX.TabN (hid p H) P lamAt → NdefX.TabN (hid p H') P lamAt
theorem ExB.refl (p : Addr) (H : Hp) : ExB p H H := ⟨fun _ _ _ h _ => h, id, fun _ h => h, fun _ ps _ h => ⟨ps, h⟩, fun _ h => h⟩
theorem ExB.trans {p : Addr} {H H1 H2 : Hp} (a : ExB p H H1) (b : ExB p H1 H2) : ExB p H H2 :=
  ⟨fun x o n h t => b.keep x o n (a.keep x o n h t) t, fun h => b.al (a.al h), fun q h => b.bag q (a.bag q h), fun x ps n h => (a.tb x ps n h).elim fun ps' h' => b.tb x ps' n h', fun P h => b.tabs P (a.tabs P h)⟩
/-- whatever stands at a stands on in some form -/
theorem ExB.some {p a : Addr} {H H' : Hp} {o : HO} (e : ExB p H H') (n : a ≠ p) (h : H a = some o) : ∃ o', H' a = some o' ∧ ((∀ ps, o ≠ HO.tbl ps) → o' = o) ∧ ((∃ ps, o = HO.tbl ps) → ∃ ps, o' = HO.tbl ps) := by
  by_cases t : ∃ ps, o = HO.tbl ps
  · obtain ⟨ps, rfl⟩ := t
    obtain ⟨ps', h'⟩ := e.tb a ps n h
    exact ⟨_, h', fun k => (k ps rfl).elim, fun _ => ⟨ps', rfl⟩⟩
  · have t' : ∀ ps, o ≠ HO.tbl ps := fun ps z => t ⟨ps, z⟩
    exact ⟨o, e.keep a o n h t', fun _ => rfl, fun k => (t k).elim⟩
theorem ExB.same {p : Addr} {H H' : Hp} (s : Same H H') : ExB p H H' :=
  ⟨fun a o _ h _ => s a o h, fun ⟨o, h, t⟩ => ⟨o, s p o h, t⟩, fun q ⟨k, xs, h1, h2, h3, h4, h5⟩ => ⟨k, xs, h1, h2, h3, s _ _ h4, s _ _ h5⟩, fun a ps _ h => ⟨ps, s a _ h⟩, fun P h => h.ext fun b o q => hid_at.mpr ⟨(hid_at.mp q).1, s b o (hid_at.mp q).2⟩⟩
/-- what stands at t is no table and no code object -/
def Gd (H : Hp) (t : Addr) : Prop := ∀ u, H t = some u → (∀ ps, u ≠ HO.tbl ps) ∧ ∀ c q, u ≠ LamX.CodeO c q
theorem Gd.lst {H : Hp} {t : Addr} {xs : List V} (h : H t = some (.lst xs)) : Gd H t := fun u q => by
  rw [h] at q
  cases q
  exact ⟨fun _ z => (nomatch z), fun c q z => by unfold LamX.CodeO at z; cases z⟩
theorem Gd.dK {H : Hp} {t : Addr} {kvs} (h : H t = some (.dK kvs)) : Gd H t := fun u q => by
  rw [h] at q
  cases q
  exact ⟨fun _ z => (nomatch z), fun c q z => by unfold LamX.CodeO at z; cases z⟩
theorem Gd.dT {H : Hp} {t : Addr} {kvs} (h : H t = some (.dT kvs)) : Gd H t := fun u q => by
  rw [h] at q
  cases q
  exact ⟨fun _ z => (nomatch z), fun c q z => by unfold LamX.CodeO at z; cases z⟩
theorem tab_upd {p t : Addr} {H : Hp} {o : HO} {P : Addr} (g : Gd H t) (h : NdefX.TabN (hid p H) P lamAt) : NdefX.TabN (hid p (upd H t o)) P lamAt := by
  obtain ⟨ps, h1, h2, h3⟩ := h
  obtain ⟨n1, h1⟩ := hid_at.mp h1
  refine ⟨ps, hid_at.mpr ⟨n1, ?_⟩, h2, fun pos cv hc => ?_⟩
  · rw [upd_ne fun z => (g _ (by rw [← z]; exact h1)).1 ps rfl]; exact h1
  · obtain ⟨c, e1, e2⟩ := h3 pos cv hc
    obtain ⟨n2, e2⟩ := hid_at.mp e2
    exact ⟨c, e1, hid_at.mpr ⟨n2, by rw [upd_ne fun z => (g _ (by rw [← z]; exact e2)).2 _ _ rfl]; exact e2⟩⟩
theorem Gd.frz {H : Hp} {t : Addr} {od u} (h : H t = some (.frz od u)) : Gd H t := fun u q => by
  rw [h] at q
  cases q
  exact ⟨fun _ z => (nomatch z), fun c q z => by unfold LamX.CodeO at z; cases z⟩
theorem same_new {H : Hp} {t : Addr} {o : HO} (h : H t = none) : Same H (upd H t o) := fun b x e => by
  rw [upd_ne (ne_of_none e h)]
  exact e
theorem same_mut {H H' : Hp} {t : Addr} {o : HO} (s : Same H H') (h : H t = none) : Same H (upd H' t o) := fun b x e => by
  rw [upd_ne (ne_of_none e h)]
  exact s b x e
theorem ExB.new {p : Addr} {H : Hp} {t : Addr} {o : HO} (h : H t = none) : ExB p H (upd H t o) := .same (same_new h)
theorem al_ne {p t : Addr} {H : Hp} (al : Al p H) (h : H t = none) : t ≠ p := fun e => by
  obtain ⟨o, ho, _⟩ := al
  rw [e, ho] at h
  cases h
theorem ExB.mut {p : Addr} {H H' : Hp} {t : Addr} {o : HO} (e : ExB p H H') (al : Al p H) (h : H t = none) (g : Gd H' t) : ExB p H (upd H' t o) := by
  have ne := al_ne al h
  refine ⟨fun a u na ha nt => ?_, fun a => ?_, fun q hq => ?_, fun a ps na ha => ?_, fun P hT => ?_⟩
  · rw [upd_ne (ne_of_none ha h)]
    exact e.keep a u na ha nt
  · obtain ⟨u, hu, ht⟩ := e.al a
    exact ⟨u, by rw [upd_ne ne.symm]; exact hu, ht⟩
  · obtain ⟨_, _, _, _, _, _, hq5⟩ := id hq
    obtain ⟨k, xs, h1, h2, h3, h4, h5⟩ := e.bag q hq
    refine ⟨k, xs, h1, h2, h3, ?_, ?_⟩
    · rw [upd_ne ne.symm]; exact h4
    · rw [upd_ne (ne_of_none hq5 h)]; exact h5
  · rw [upd_ne (ne_of_none ha h)]
    exact e.tb a ps na ha
  · obtain ⟨ps, h1, h2, h3⟩ := e.tabs P hT
    obtain ⟨n1, h1⟩ := hid_at.mp h1
    refine ⟨ps, hid_at.mpr ⟨n1, ?_⟩, h2, fun pos cv hc => ?_⟩
    · rw [upd_ne fun z => (g _ (by rw [← z]; exact h1)).1 ps rfl]; exact h1
    · obtain ⟨c, e1, e2⟩ := h3 pos cv hc
      obtain ⟨n2, e2⟩ := hid_at.mp e2
      exact ⟨c, e1, hid_at.mpr ⟨n2, by rw [upd_ne fun z => (g _ (by rw [← z]; exact e2)).2 _ _ rfl]; exact e2⟩⟩
/-- free in the later heap was free in the earlier -/
theorem ExB.free {p t : Addr} {H H' : Hp} (e : ExB p H H') (al : Al p H) (h : H' t = none) : H t = none := by
  have ne : t ≠ p := al_ne (e.al al) h
  cases q : H t with
  | none => rfl
  | some o =>
    obtain ⟨o', h', _⟩ := e.some ne q
    rw [h'] at h
    cases h
/-! ### data in the heap: None, truths, ints, texts, lists and tuples of them, none wider than n, none of it the bag or of S -/
structure AlP (p : Addr) (S T : List Addr) (H : Hp) : Prop where
  bag : Al p H
  all : ∀ a ∈ S, Al a H
  tab : ∀ P ∈ T, NdefX.TabN (hid p H) P lamAt
def AlS (z : Fz) (H : Hp) : Prop := AlP z.p z.S z.T H
theorem ExB.al1 {p a : Addr} {H H' : Hp} (e : ExB p H H') (h : Al a H) : Al a H' := by
  by_cases q : a = p
  · rw [q] at h ⊢; exact e.al h
  · obtain ⟨o, ho, ht⟩ := h
    obtain ⟨o', h1, h2, h3⟩ := e.some q ho
    by_cases t : ∃ ps, o = HO.tbl ps
    · obtain ⟨ps, e'⟩ := h3 t
      exact ⟨o', h1, fun xs z => by rw [e'] at z; cases z⟩
    · rw [h2 fun ps z => t ⟨ps, z⟩] at h1
      exact ⟨o, h1, ht⟩
theorem AlS.up {z : Fz} {H H' : Hp} (h : AlS z H) (e : ExB z.p H H') : AlS z H' := ⟨e.al h.1, fun a ha => e.al1 (h.2 a ha), fun P m => e.tabs P (h.3 P m)⟩
theorem AlS.ne {z : Fz} {t : Addr} {H : Hp} (h : AlS z H) (q : H t = none) : t ≠ z.p ∧ t ∉ z.S := ⟨al_ne h.1 q, fun m => by
  obtain ⟨o, ho, _⟩ := h.2 t m
  rw [ho] at q
  cases q⟩
theorem AlS.av {z : Fz} {L : Addr} {H : Hp} (h : AlS z H) (l : Al L H) : AlS (z.av L) H := ⟨h.1, fun a ha => by
  rcases List.mem_cons.mp ha with q | q
  · rw [q]; exact l
  · exact h.2 a q, h.3⟩
theorem AlS.w {z : Fz} {H : Hp} (h : AlS z H) (m : Nat) : AlS (z.w m) H := h
mutual
inductive Dt (z : Fz) (H : Hp) : V → PyData → Prop
  | non : Dt z H .non .none
  | bl (b : Bool) : Dt z H (.bl b) (.bool b)
  | int (i : Int) : Dt z H (.int i) (.int i)
  | str (x : Str) : (x.length ≤ z.n ∧ PyData.strOk x = true) → Dt z H (.str x) (.str x)
  | lst {a : Addr} {xs : List V} {ds : List PyData} : (a ≠ z.p ∧ a ∉ z.S) → H a = some (.lst xs) → xs.length ≤ z.n → DtAll z H xs ds → Dt z H (.ref a) (.list ds)
  | tup {a : Addr} {xs : List V} {ds : List PyData} : (a ≠ z.p ∧ a ∉ z.S) → H a = some (.tup xs) → xs.length ≤ z.n → DtAll z H xs ds → Dt z H (.ref a) (.tuple ds)
inductive DtAll (z : Fz) (H : Hp) : List V → List PyData → Prop
  | nil : DtAll z H [] []
  | cons {v : V} {vs : List V} {d : PyData} {ds : List PyData} : Dt z H v d → DtAll z H vs ds → DtAll z H (v :: vs) (d :: ds)
end
/-- data goes over to another frame and heap -/
structure Over (z z' : Fz) (H H' : Hp) : Prop where
  n : z.n ≤ z'.n
  k : ∀ a o, (a ≠ z.p ∧ a ∉ z.S) → H a = some o → (nt : ∀ ps, o ≠ HO.tbl ps := by intro _ z; cases z) → H' a = some o ∧ (a ≠ z'.p ∧ a ∉ z'.S)
mutual
theorem Dt.over {z z' : Fz} {H H' : Hp} (e : Over z z' H H') : ∀ (d : PyData) (v : V), Dt z H v d → Dt z' H' v d
  | .none, _, h => by cases h; exact .non
  | .bool b, _, h => by cases h; exact .bl b
  | .int i, _, h => by cases h; exact .int i
  | .str x, _, h => by cases h with | str _ l => exact .str x ⟨Nat.le_trans l.1 e.n, l.2⟩
  | .list ds, _, h => by cases h with | lst a b c t => exact .lst (e.k _ _ a b).2 (e.k _ _ a b).1 (Nat.le_trans c e.n) (DtAll.over e ds _ t)
  | .tuple ds, _, h => by cases h with | tup a b c t => exact .tup (e.k _ _ a b).2 (e.k _ _ a b).1 (Nat.le_trans c e.n) (DtAll.over e ds _ t)
  | .dict _, _, h => by cases h
theorem DtAll.over {z z' : Fz} {H H' : Hp} (e : Over z z' H H') : ∀ (ds : List PyData) (vs : List V), DtAll z H vs ds → DtAll z' H' vs ds
  | [], _, h => by cases h; exact .nil
  | d :: ds, _, h => by cases h with | cons a t => exact .cons (Dt.over e d _ a) (DtAll.over e ds _ t)
end
theorem Over.ex {z : Fz} {H H' : Hp} (e : ExB z.p H H') : Over z z H H' := ⟨Nat.le_refl _, fun a o q h t => ⟨e.keep a o q.1 h t, q⟩⟩
theorem Over.w {z : Fz} {H : Hp} {m : Nat} (l : z.n ≤ m) : Over z (z.w m) H H := ⟨l, fun a o q h _ => ⟨h, q⟩⟩
theorem Over.av {z : Fz} {H : Hp} {L : Addr} (l : H L = none) : Over z (z.av L) H H := ⟨Nat.le_refl _, fun a o q h _ => ⟨h, q.1, fun m => by
  rcases List.mem_cons.mp m with e | e
  · exact ne_of_none h l e
  · exact q.2 e⟩⟩
/-- L is let go: its own content is no matter -/
theorem Over.unav {z : Fz} {H : Hp} {L : Addr} : Over (z.av L) z H H := ⟨Nat.le_refl _, fun a o q h _ => ⟨h, q.1, fun m => q.2 (List.mem_cons_of_mem _ m)⟩⟩
/-- L is changed -/
theorem Over.mut {z : Fz} {H : Hp} {L : Addr} {o : HO} : Over (z.av L) (z.av L) H (upd H L o) := ⟨Nat.le_refl _, fun a u q h _ => ⟨by rw [upd_ne fun e => q.2 (by rw [e]; exact List.mem_cons_self)]; exact h, q⟩⟩
theorem Dt.mono {z : Fz} {H H' : Hp} {v : V} {d : PyData} (h : Dt z H v d) (e : ExB z.p H H') : Dt z H' v d := Dt.over (.ex e) d v h
theorem DtAll.mono {z : Fz} {H H' : Hp} {vs : List V} {ds : List PyData} (h : DtAll z H vs ds) (e : ExB z.p H H') : DtAll z H' vs ds := DtAll.over (.ex e) ds vs h
theorem Dt.to {z z' : Fz} {H H' : Hp} {v : V} {d : PyData} (h : Dt z H v d) (e : Over z z' H H') : Dt z' H' v d := Dt.over e d v h
theorem DtAll.to {z z' : Fz} {H H' : Hp} {vs : List V} {ds : List PyData} (h : DtAll z H vs ds) (e : Over z z' H H') : DtAll z' H' vs ds := DtAll.over e ds vs h
theorem Dt.wide {z : Fz} {m : Nat} {H : Hp} {v : V} {d : PyData} (h : Dt z H v d) (l : z.n ≤ m) : Dt (z.w m) H v d := h.to (.w l)
theorem DtAll.wide {z : Fz} {m : Nat} {H : Hp} {vs : List V} {ds : List PyData} (h : DtAll z H vs ds) (l : z.n ≤ m) : DtAll (z.w m) H vs ds := h.to (.w l)
section
variable {z : Fz} {H H' : Hp}
theorem DtAll.length : ∀ {vs : List V} {ds : List PyData}, DtAll z H vs ds → vs.length = ds.length
  | _, _, .nil => rfl
  | _, _, .cons _ t => congrArg (· + 1) t.length
theorem DtAll.get : ∀ {vs : List V} {ds : List PyData} {i : Nat} {v : V}, DtAll z H vs ds → vs[i]? = some v → ∃ d, ds[i]? = some d ∧ Dt z H v d
  | _, _, _, _, .nil, e => by simp at e
  | _, _, 0, _, .cons a _, e => by simp at e; subst e; exact ⟨_, rfl, a⟩
  | _, _, i + 1, v, .cons _ t, e => by
    obtain ⟨d, h1, h2⟩ := DtAll.get (i := i) (v := v) t (by simpa using e)
    exact ⟨d, by simpa using h1, h2⟩
theorem DtAll.append : ∀ {vs ws : List V} {ds es : List PyData}, DtAll z H vs ds → DtAll z H ws es → DtAll z H (vs ++ ws) (ds ++ es)
  | _, _, _, _, .nil, s => s
  | _, _, _, _, .cons a t, s => .cons a (DtAll.append t s)
theorem DtAll.drop : ∀ {vs : List V} {ds : List PyData} (k : Nat), DtAll z H vs ds → DtAll z H (vs.drop k) (ds.drop k)
  | _, _, 0, h => h
  | _, _, _ + 1, .nil => .nil
  | _, _, k + 1, .cons _ t => DtAll.drop k t
theorem DtAll.take : ∀ {vs : List V} {ds : List PyData} (k : Nat), DtAll z H vs ds → DtAll z H (vs.take k) (ds.take k)
  | _, _, 0, _ => .nil
  | _, _, _ + 1, .nil => .nil
  | _, _, k + 1, .cons a t => .cons a (DtAll.take k t)
theorem DtAll.set {v : V} {d : PyData} (h : Dt z H v d) : ∀ {vs : List V} {ds : List PyData} (k : Nat), DtAll z H vs ds → DtAll z H (vs.set k v) (ds.set k d)
  | _, _, _, .nil => .nil
  | _, _, 0, .cons _ t => .cons h t
  | _, _, k + 1, .cons a t => .cons a (DtAll.set h k t)
theorem DtAll.ints : ∀ (xs : List Int), DtAll z H (xs.map V.int) (xs.map PyData.int)
  | [] => .nil
  | x :: xs => .cons (.int x) (DtAll.ints xs)
theorem DtAll.strs : ∀ (xs : List Str), (∀ x ∈ xs, x.length ≤ z.n ∧ PyData.strOk x = true) → DtAll z H (xs.map V.str) (xs.map PyData.str)
  | [], _ => .nil
  | x :: xs, h => .cons (.str x (h x List.mem_cons_self)) (DtAll.strs xs fun y hy => h y (List.mem_cons_of_mem _ hy))
theorem DtAll.bools_eq : ∀ {bs : List Bool} {vs : List V}, DtAll z H vs (bs.map PyData.bool) → vs = bs.map V.bl
  | [], _, h => by cases h; rfl
  | b :: bs, _, h => by
    cases h with
    | cons a t =>
      cases a
      rw [DtAll.bools_eq t]
      rfl
theorem DtAll.ints_eq : ∀ {xs : List Int} {vs : List V}, DtAll z H vs (xs.map PyData.int) → vs = xs.map V.int
  | [], _, h => by cases h; rfl
  | b :: bs, _, h => by
    cases h with
    | cons a t =>
      cases a
      rw [DtAll.ints_eq t]
      rfl
theorem DtAll.strs_eq : ∀ {xs : List Str} {vs : List V}, DtAll z H vs (xs.map PyData.str) → vs = xs.map V.str ∧ ∀ x ∈ xs, x.length ≤ z.n ∧ PyData.strOk x = true
  | [], _, h => by cases h; exact ⟨rfl, fun _ h => nomatch h⟩
  | b :: bs, _, h => by
    cases h with
    | cons a t =>
      cases a with
      | str _ l =>
        obtain ⟨h1, h2⟩ := DtAll.strs_eq t
        refine ⟨by rw [h1]; rfl, fun x hx => ?_⟩
        rcases List.mem_cons.mp hx with e | e
        · rw [e]; exact l
        · exact h2 x e
end
/-! ### the type of data -/
def tyD : PyData → String
  | .none => "NoneType"
  | .bool _ => "bool"
  | .int _ => "int"
  | .str _ => "str"
  | .list _ => "list"
  | .tuple _ => "tuple"
  | .dict _ => "dict"
theorem Dt.ty {z : Fz} {H : Hp} {v : V} {d : PyData} {K : PySem.W.Frag} (h : Dt z H v d) : TyX K H v (.type (tyD d)) := by
  cases h with
  | non => exact .base .non
  | bl b => exact .base (.bl b)
  | int i => exact .base (.int i)
  | str x _ => exact .base (.str x)
  | lst _ b _ _ => exact .base (.lst b)
  | tup _ b _ _ => exact .base (.tup b)
/-- isinstance(d, T) -/
def isiD (T : String) (d : PyData) : Bool := (kitB (tyD d) T).getD false
def okT (T : String) : Bool := ["NoneType", "bool", "int", "str", "list", "tuple", "dict"].all fun a => (kitB a T).isSome
theorem isi_ok {T : String} (h : okT T = true) (d : PyData) : kitB (tyD d) T = some (isiD T d) := by
  have hm : tyD d ∈ ["NoneType", "bool", "int", "str", "list", "tuple", "dict"] := by
    cases d <;> simp [tyD]
  have h1 := (List.all_eq_true.mp h) (tyD d) hm
  unfold isiD
  cases q : kitB (tyD d) T with
  | none => rw [q] at h1; cases h1
  | some b => rfl
theorem okT_int : okT "int" = true := by decide +kernel
theorem okT_bool : okT "bool" = true := by decide +kernel
theorem okT_str : okT "str" = true := by decide +kernel
theorem okT_tuple : okT "tuple" = true := by decide +kernel
theorem okT_list : okT "list" = true := by decide +kernel
def isI : PyData → Bool | .int _ => true | .bool _ => true | _ => false
def isB : PyData → Bool | .bool _ => true | _ => false
def isS : PyData → Bool | .str _ => true | _ => false
def isT : PyData → Bool | .tuple _ => true | _ => false
def isL : PyData → Bool | .list _ => true | _ => false
theorem isi_int (d : PyData) : isiD "int" d = isI d := by cases d <;> (show _ = _; simp only [isiD, tyD, isI]; decide +kernel)
theorem isi_bool (d : PyData) : isiD "bool" d = isB d := by cases d <;> (show _ = _; simp only [isiD, tyD, isB]; decide +kernel)
theorem isi_str (d : PyData) : isiD "str" d = isS d := by cases d <;> (show _ = _; simp only [isiD, tyD, isS]; decide +kernel)
theorem isi_tuple (d : PyData) : isiD "tuple" d = isT d := by cases d <;> (show _ = _; simp only [isiD, tyD, isT]; decide +kernel)
theorem isi_list (d : PyData) : isiD "list" d = isL d := by cases d <;> (show _ = _; simp only [isiD, tyD, isL]; decide +kernel)
end Pb
namespace Pb
open PySem L2
/-! ### what readings come to, from any later heap -/
def Yl (z : Fz) (te : TE) (σ : L2.St) (H : Hp) (R : PyData → Prop) : Prop := ∀ H1, ExB z.p H H1 → AlS z H1 → ∀ Q : VK, (∀ v d H2, ExB z.p H1 H2 → Dt z H2 v d → R d → Q v H2) → te σ H1 Q
def YI (z : Fz) (te : TE) (σ : L2.St) (H : Hp) (A : Int → Prop) : Prop := ∀ H1, ExB z.p H H1 → AlS z H1 → ∀ Q : VK, (∀ i H2, ExB z.p H1 H2 → A i → Q (.int i) H2) → te σ H1 Q
def YB (z : Fz) (te : TE) (σ : L2.St) (H : Hp) (A : Bool → Prop) : Prop := ∀ H1, ExB z.p H H1 → AlS z H1 → ∀ Q : VK, (∀ b H2, ExB z.p H1 H2 → A b → Q (.bl b) H2) → te σ H1 Q
def YT (z : Fz) (tt : TT) (σ : L2.St) (H : Hp) (A : Bool → Prop) : Prop := ∀ H1, ExB z.p H H1 → AlS z H1 → ∀ Q : Bool → Hp → Prop, (∀ b H2, ExB z.p H1 H2 → A b → Q b H2) → tt σ H1 Q
def YA (z : Fz) (ta : TA) (σ : L2.St) (H : Hp) (R : List PyData → Prop) : Prop := ∀ H1, ExB z.p H H1 → AlS z H1 → ∀ Q : List V → Hp → Prop, (∀ vs ds H2, ExB z.p H1 H2 → DtAll z H2 vs ds → R ds → Q vs H2) → ta σ H1 Q
section
variable {z : Fz} {n m : Nat} {σ : L2.St} {H H' : Hp} {ta tb tc te : TE} {t u : TT} {R S : PyData → Prop} {A B C : Int → Prop} {P P' : Bool → Prop} {K : PySem.W.Frag} {D : Ends} {tu tw tz : TS}
theorem Yl.imp (h : Yl z te σ H R) (k : ∀ d, R d → S d) : Yl z te σ H S := fun H1 e a Q q => h H1 e a Q fun v d H2 e2 hd hr => q v d H2 e2 hd (k d hr)
theorem Yl.wide (h : Yl z te σ H R) (l : z.n ≤ m) : Yl (z.w m) te σ H R := fun H1 e a Q q => h H1 e a Q fun v d H2 e2 hd hr => q v d H2 e2 (hd.wide l) hr
theorem YI.imp (h : YI z te σ H A) (k : ∀ i, A i → B i) : YI z te σ H B := fun H1 e a Q q => h H1 e a Q fun i H2 e2 hr => q i H2 e2 (k i hr)
theorem YB.imp (h : YB z te σ H P) (k : ∀ b, P b → P' b) : YB z te σ H P' := fun H1 e a Q q => h H1 e a Q fun b H2 e2 hr => q b H2 e2 (k b hr)
theorem YT.imp (h : YT z t σ H P) (k : ∀ b, P b → P' b) : YT z t σ H P' := fun H1 e a Q q => h H1 e a Q fun b H2 e2 hr => q b H2 e2 (k b hr)
theorem Yl.mono (h : Yl z te σ H R) (e : ExB z.p H H') : Yl z te σ H' R := fun H1 e1 => h H1 (e.trans e1)
theorem YI.mono (h : YI z te σ H A) (e : ExB z.p H H') : YI z te σ H' A := fun H1 e1 => h H1 (e.trans e1)
theorem YI.l (h : YI z te σ H A) : Yl z te σ H (fun d => ∃ i, d = .int i ∧ A i) := fun H1 e a Q q => h H1 e a Q fun i H2 e2 hr => q _ _ H2 e2 (.int i) ⟨i, rfl, hr⟩
theorem YI.l1 {i : Int} (h : YI z te σ H (· = i)) : Yl z te σ H (· = .int i) := fun H1 e a Q q => h H1 e a Q fun i H2 e2 hr => q _ _ H2 e2 (.int i) (by rw [hr])
theorem YB.l (h : YB z te σ H P) : Yl z te σ H (fun d => ∃ b, d = .bool b ∧ P b) := fun H1 e a Q q => h H1 e a Q fun i H2 e2 hr => q _ _ H2 e2 (.bl i) ⟨i, rfl, hr⟩
theorem yi_of (h : Yl z te σ H (fun d => ∃ i, d = .int i ∧ A i)) : YI z te σ H A := fun H1 e a Q q => h H1 e a Q fun v d H2 e2 hd ⟨i, hi, ha⟩ => by
  subst hi
  cases hd
  exact q i H2 e2 ha
theorem yi_of1 {i : Int} (h : Yl z te σ H (· = .int i)) : YI z te σ H (· = i) := yi_of (h.imp fun _ e => ⟨i, e, rfl⟩)
theorem yb_of (h : Yl z te σ H (fun d => ∃ b, d = .bool b ∧ P b)) : YB z te σ H P := fun H1 e a Q q => h H1 e a Q fun v d H2 e2 hd ⟨i, hi, ha⟩ => by
  subst hi
  cases hd
  exact q i H2 e2 ha
theorem yb_of1 {b : Bool} (h : Yl z te σ H (· = .bool b)) : YB z te σ H (· = b) := yb_of (h.imp fun _ e => ⟨b, e, rfl⟩)
/-! ### names, constants -/
theorem yl_var {i : Nat} {v : V} {d : PyData} (h : σ[i]? = some (some v)) (hd : Dt z H v d) : Yl z (tVar i) σ H (· = d) := fun H1 e _ Q q => ⟨v, h, q v d H1 (.refl z.p H1) (hd.mono e) rfl⟩
theorem yi_var {i : Nat} {k : Int} (h : σ[i]? = some (some (.int k))) : YI z (tVar i) σ H (· = k) := fun H1 _ _ Q q => ⟨_, h, q k H1 (.refl z.p H1) rfl⟩
theorem yi_c {k : Int} : YI z (tC (.int k)) σ H (· = k) := fun H1 _ _ Q q => q k H1 (.refl z.p H1) rfl
theorem yb_c {b : Bool} : YB z (tC (.bl b)) σ H (· = b) := fun H1 _ _ Q q => q b H1 (.refl z.p H1) rfl
theorem yl_int {k : Int} : Yl z (tC (.int k)) σ H (· = .int k) := fun H1 _ _ Q q => q _ _ H1 (.refl z.p H1) (.int k) rfl
theorem yl_bl {b : Bool} : Yl z (tC (.bl b)) σ H (· = .bool b) := fun H1 _ _ Q q => q _ _ H1 (.refl z.p H1) (.bl b) rfl
theorem yl_non : Yl z (tC .non) σ H (· = .none) := fun H1 _ _ Q q => q _ _ H1 (.refl z.p H1) .non rfl
theorem yl_str {x : Str} (l : x.length ≤ z.n ∧ PyData.strOk x = true) : Yl z (tC (.str x)) σ H (· = .str x) := fun H1 _ _ Q q => q _ _ H1 (.refl z.p H1) (.str x l) rfl
/-! ### operators on ints -/
theorem yi_op0 {g : Int → Int → Int} (ha : YI z ta σ H A) (hb : YI z tb σ H B) : YI z (tOp (rI0 fun i j => .int (g i j)) ta tb) σ H (fun z => ∃ i j, A i ∧ B j ∧ z = g i j) := fun H1 e a Q q =>
  ha H1 e a _ fun i H2 e2 hi => hb H2 (e.trans e2) (a.up e2) _ fun j H3 e3 hj => ⟨i, j, rfl, rfl, q _ H3 (e2.trans e3) ⟨i, j, hi, hj, rfl⟩⟩
theorem yi_op {G : Int → Int → Prop} {g : Int → Int → Int} (ha : YI z ta σ H A) (hb : YI z tb σ H B) (hc : ∀ i j, A i → B j → G i j) : YI z (tOp (rI G fun i j => .int (g i j)) ta tb) σ H (fun z => ∃ i j, A i ∧ B j ∧ z = g i j) := fun H1 e a Q q =>
  ha H1 e a _ fun i H2 e2 hi => hb H2 (e.trans e2) (a.up e2) _ fun j H3 e3 hj => ⟨i, j, rfl, rfl, hc i j hi hj, q _ H3 (e2.trans e3) ⟨i, j, hi, hj, rfl⟩⟩
theorem yi_o {g : Int → Int → Int} {x y : Int} (ha : YI z ta σ H (· = x)) (hb : YI z tb σ H (· = y)) : YI z (tOp (rI0 fun i j => .int (g i j)) ta tb) σ H (· = g x y) :=
  (yi_op0 ha hb).imp fun z ⟨i, j, hi, hj, hz⟩ => by rw [hz, hi, hj]
theorem yi_oc {G : Int → Int → Prop} {g : Int → Int → Int} {x y : Int} (ha : YI z ta σ H (· = x)) (hb : YI z tb σ H (· = y)) (hc : G x y) : YI z (tOp (rI G fun i j => .int (g i j)) ta tb) σ H (· = g x y) :=
  (yi_op ha hb fun i j hi hj => by rw [hi, hj]; exact hc).imp fun z ⟨i, j, hi, hj, hz⟩ => by rw [hz, hi, hj]
theorem yb_cmp {g : Int → Int → Bool} (ha : YI z ta σ H A) (hb : YI z tb σ H B) : YB z (tOp (rI0 fun i j => .bl (g i j)) ta tb) σ H (fun z => ∃ i j, A i ∧ B j ∧ z = g i j) := fun H1 e a Q q =>
  ha H1 e a _ fun i H2 e2 hi => hb H2 (e.trans e2) (a.up e2) _ fun j H3 e3 hj => ⟨i, j, rfl, rfl, q _ H3 (e2.trans e3) ⟨i, j, hi, hj, rfl⟩⟩
theorem yb_c1 {g : Int → Int → Bool} {x y : Int} (ha : YI z ta σ H (· = x)) (hb : YI z tb σ H (· = y)) : YB z (tOp (rI0 fun i j => .bl (g i j)) ta tb) σ H (· = g x y) :=
  (yb_cmp ha hb).imp fun z ⟨i, j, hi, hj, hz⟩ => by rw [hz, hi, hj]
theorem dec_vi (i j : Int) : decide (V.int i = V.int j) = decide (i = j) := by
  by_cases h : i = j
  · subst h; simp
  · rw [decide_eq_false h, decide_eq_false fun q => h (V.int.inj q)]
theorem yb_eqI {x y : Int} (ha : YI z ta σ H (· = x)) (hb : YI z tb σ H (· = y)) : YB z (tOp rEq ta tb) σ H (· = decide (x = y)) := fun H1 e a Q q =>
  ha H1 e a _ fun i H2 e2 hi => hb H2 (e.trans e2) (a.up e2) _ fun j H3 e3 hj => ⟨rfl, q _ H3 (e2.trans e3) (by rw [dec_vi, hi, hj])⟩
theorem yb_neI {x y : Int} (ha : YI z ta σ H (· = x)) (hb : YI z tb σ H (· = y)) : YB z (tOp rNe ta tb) σ H (· = !decide (x = y)) := fun H1 e a Q q =>
  ha H1 e a _ fun i H2 e2 hi => hb H2 (e.trans e2) (a.up e2) _ fun j H3 e3 hj => ⟨rfl, q _ H3 (e2.trans e3) (by rw [dec_vi, hi, hj])⟩
/-- a <= b <= c on ints -/
theorem yb_chain {f g : Int → Int → Bool} {x y c : Int} (ha : YI z ta σ H (· = x)) (hb : YI z tb σ H (· = y)) (hc : YI z tc σ H (· = c)) : YB z (tChain (rI0 fun i j => .bl (f i j)) (rI0 fun i j => .bl (g i j)) ta tb tc) σ H (· = (f x y && g y c)) := fun H1 e a Q q =>
  ha H1 e a _ fun i H2 e2 hi => hb H2 (e.trans e2) (a.up e2) _ fun j H3 e3 hj => ⟨i, j, rfl, rfl, f i j, rfl, by
    subst hi hj
    cases hf : f i j with
    | false => exact iteF (q _ H3 (e2.trans e3) (by show _ = _; rw [hf]; rfl))
    | true => exact iteT (hc H3 ((e.trans e2).trans e3) (a.up (e2.trans e3)) _ fun k H4 e4 hk => ⟨_, k, rfl, rfl, q _ H4 ((e2.trans e3).trans e4) (by show _ = _; rw [hf, hk]; rfl)⟩)⟩
/-! ### truths -/
theorem yb_and {b : Bool} {c : Bool} (h1 : YB z ta σ H (· = b)) (h2 : b = true → YB z tb σ H (· = c)) : YB z (tAndV ta tb) σ H (· = (b && c)) := fun H1 e a Q q =>
  h1 H1 e a _ fun x H2 e2 hx => ⟨x, rfl, by
    subst hx
    cases x with
    | false => exact iteF (q _ H2 e2 rfl)
    | true => exact iteT (h2 rfl H2 (e.trans e2) (a.up e2) Q fun y H3 e3 hy => q y H3 (e2.trans e3) (by rw [hy]; rfl))⟩
theorem yb_or {b : Bool} {c : Bool} (h1 : YB z ta σ H (· = b)) (h2 : b = false → YB z tb σ H (· = c)) : YB z (tOrV ta tb) σ H (· = (b || c)) := fun H1 e a Q q =>
  h1 H1 e a _ fun x H2 e2 hx => ⟨x, rfl, by
    subst hx
    cases x with
    | true => exact iteT (q _ H2 e2 rfl)
    | false => exact iteF (h2 rfl H2 (e.trans e2) (a.up e2) Q fun y H3 e3 hy => q y H3 (e2.trans e3) (by rw [hy]; rfl))⟩
theorem yb_not {b : Bool} (h1 : YB z ta σ H (· = b)) : YB z (tNotV ta) σ H (· = !b) := fun H1 e a Q q => h1 H1 e a _ fun x H2 e2 hx => ⟨x, rfl, q _ H2 e2 (by rw [hx])⟩
theorem yt_val (h : YB z te σ H P) : YT z (tB te) σ H P := fun H1 e a Q q => h H1 e a _ fun b H2 e2 hb => ⟨b, rfl, q b H2 e2 hb⟩
theorem yt_test (h : YB z te σ H P) : YT z (tTest te) σ H P := fun H1 e a Q q => h H1 e a _ fun b H2 e2 hb => ⟨b, rfl, q b H2 e2 hb⟩
theorem yt_not {b : Bool} (h : YT z t σ H (· = b)) : YT z (tNot t) σ H (· = !b) := fun H1 e a Q q => h H1 e a _ fun b H2 e2 hb => q _ H2 e2 (by rw [hb])
theorem yt_and {b c : Bool} (h1 : YT z t σ H (· = b)) (h2 : b = true → YT z u σ H (· = c)) : YT z (tAnd t u) σ H (· = (b && c)) := fun H1 e a Q q => h1 H1 e a _ fun x H2 e2 hx => by
  subst hx
  cases x with
  | false => exact iteF (q _ H2 e2 rfl)
  | true => exact iteT (h2 rfl H2 (e.trans e2) (a.up e2) Q fun y H3 e3 hy => q y H3 (e2.trans e3) (by rw [hy]; rfl))
theorem yt_or {b c : Bool} (h1 : YT z t σ H (· = b)) (h2 : b = false → YT z u σ H (· = c)) : YT z (tOr t u) σ H (· = (b || c)) := fun H1 e a Q q => h1 H1 e a _ fun x H2 e2 hx => by
  subst hx
  cases x with
  | true => exact iteT (q _ H2 e2 rfl)
  | false => exact iteF (h2 rfl H2 (e.trans e2) (a.up e2) Q fun y H3 e3 hy => q y H3 (e2.trans e3) (by rw [hy]; rfl))
theorem yl_if {b : Bool} (h : YT z t σ H (· = b)) (h1 : b = true → Yl z ta σ H R) (h2 : b = false → Yl z tb σ H R) : Yl z (tIf t ta tb) σ H R := fun H1 e a Q q => h H1 e a _ fun x H2 e2 hx => by
  subst hx
  cases x with
  | true => exact iteT (h1 rfl H2 (e.trans e2) (a.up e2) Q fun v d H3 e3 => q v d H3 (e2.trans e3))
  | false => exact iteF (h2 rfl H2 (e.trans e2) (a.up e2) Q fun v d H3 e3 => q v d H3 (e2.trans e3))
/-! ### arguments, displays, calls -/
theorem ya_nil : YA z tNil σ H (· = []) := fun H1 _ _ Q q => q [] [] H1 (.refl z.p H1) .nil rfl
theorem ya_cons {tr : TA} {Rs : List PyData → Prop} (h : Yl z ta σ H R) (hr : YA z tr σ H Rs) : YA z (tCons ta tr) σ H (fun l => ∃ d ds, R d ∧ Rs ds ∧ l = d :: ds) := fun H1 e a Q q =>
  h H1 e a _ fun v d H2 e2 hd r => hr H2 (e.trans e2) (a.up e2) _ fun vs ds H3 e3 hs rs => q _ _ H3 (e2.trans e3) (.cons (hd.mono e3) hs) ⟨d, ds, r, rs, rfl⟩
theorem ya_c1 {tr : TA} {d : PyData} {ds : List PyData} (h : Yl z ta σ H (· = d)) (hr : YA z tr σ H (· = ds)) : YA z (tCons ta tr) σ H (· = d :: ds) := fun H1 e a Q q =>
  h H1 e a _ fun v d' H2 e2 hd r => hr H2 (e.trans e2) (a.up e2) _ fun vs ds' H3 e3 hs rs => q _ _ H3 (e2.trans e3) (.cons (hd.mono e3) hs) (by rw [r, rs])
theorem yl_tup {t : TA} {Rs : List PyData → Prop} (h : YA z t σ H Rs) (hl : ∀ ds, Rs ds → ds.length ≤ z.n) (hz : z.n ≤ sizeLine) : Yl z (tTup t) σ H (fun d => ∃ ds, Rs ds ∧ d = .tuple ds) := fun H1 e a Q q =>
  h H1 e a _ fun vs ds H2 e2 hs rs => by
    have l1 : vs.length ≤ z.n := by rw [hs.length]; exact hl ds rs
    exact ⟨Nat.le_trans l1 hz, fun t ht => q _ _ _ (e2.trans (.new ht)) (.tup ((a.up e2).ne ht) upd_same l1 (hs.mono (.new ht))) ⟨ds, rs, rfl⟩⟩
theorem yl_lst {t : TA} {Rs : List PyData → Prop} (h : YA z t σ H Rs) (hl : ∀ ds, Rs ds → ds.length ≤ z.n) (hz : z.n ≤ sizeLine) : Yl z (tLst t) σ H (fun d => ∃ ds, Rs ds ∧ d = .list ds) := fun H1 e a Q q =>
  h H1 e a _ fun vs ds H2 e2 hs rs => by
    have l1 : vs.length ≤ z.n := by rw [hs.length]; exact hl ds rs
    exact ⟨Nat.le_trans l1 hz, fun t ht => q _ _ _ (e2.trans (.new ht)) (.lst ((a.up e2).ne ht) upd_same l1 (hs.mono (.new ht))) ⟨ds, rs, rfl⟩⟩
theorem yl_tup1 {t : TA} {ds : List PyData} (h : YA z t σ H (· = ds)) (hl : ds.length ≤ z.n) (hz : z.n ≤ sizeLine) : Yl z (tTup t) σ H (· = .tuple ds) := (yl_tup h (fun x e => by rw [e]; exact hl) hz).imp fun d ⟨x, e, f⟩ => by rw [f, e]
theorem yl_lst1 {t : TA} {ds : List PyData} (h : YA z t σ H (· = ds)) (hl : ds.length ≤ z.n) (hz : z.n ≤ sizeLine) : Yl z (tLst t) σ H (· = .list ds) := (yl_lst h (fun x e => by rw [e]; exact hl) hz).imp fun d ⟨x, e, f⟩ => by rw [f, e]
/-- a def on data: C what is asked of its arguments, R what it tells -/
def spD (k n m : Nat) (C : List PyData → Prop) (R : List PyData → PyData → Prop) : Sp := fun vs H Q _ => ∃ (z : Fz) (ds : List PyData), z.n ≤ n ∧ AlS z H ∧ DtAll z H vs ds ∧ ds.length = k ∧ C ds ∧ ∀ v d H', ExB z.p H H' → Dt (z.w m) H' v d → R ds d → Q v H'
theorem spD_len {k n m : Nat} {C : List PyData → Prop} {R : List PyData → PyData → Prop} {vs : List V} {H : Hp} {Q : VK} {E : XK} (h : spD k n m C R vs H Q E) : vs.length = k := by
  obtain ⟨z, ds, _, _, hs, hl, _⟩ := h
  rw [hs.length, hl]
theorem YA.wide {t : TA} {Rs : List PyData → Prop} (h : YA z t σ H Rs) (l : z.n ≤ m) : YA (z.w m) t σ H Rs := fun H1 e a Q q => h H1 e a Q fun v d H2 e2 hd hr => q v d H2 e2 (hd.wide l) hr
theorem yl_call {k : Nat} {t : TA} {C : List PyData → Prop} {R : List PyData → PyData → Prop} {Rs : List PyData → Prop} {E : XK} (h : YA z t σ H Rs) (hl : ∀ ds, Rs ds → ds.length = k ∧ C ds) (hn : z.n ≤ n) : Yl (z.w m) (tCall (spD k n m C R) [] E t) σ H (fun d => ∃ ds, Rs ds ∧ R ds d) := fun H1 e a Q q =>
  h H1 e a _ fun vs ds H2 e2 hs rs => ⟨z, ds, hn, a.up e2, by rw [List.append_nil]; exact hs, (hl ds rs).1, (hl ds rs).2, fun v d H3 e3 hd hr => q v d H3 (e2.trans e3) hd ⟨ds, rs, hr⟩⟩
/-- one that tells a truth -/
def spP (k n : Nat) (f : List PyData → Bool) : Sp := spD k n 0 (fun _ => True) fun ds d => d = .bool (f ds)
theorem yb_call {k : Nat} {t : TA} {f : List PyData → Bool} {ds : List PyData} {E : XK} (h : YA z t σ H (· = ds)) (hl : ds.length = k) (hn : z.n ≤ n) : YB z (tCall (spP k n f) [] E t) σ H (· = f ds) :=
  yb_of1 (z := z.w 0) ((yl_call (z := z) h (fun x e => ⟨by rw [e]; exact hl, trivial⟩) hn).imp fun d ⟨x, e, hr⟩ => by rw [hr, e])
/-! ### isinstance, len -/
theorem yb_isi {T : String} {d : PyData} (hT : okT T = true) (h : Yl z ta σ H (· = d)) : YB z (tCB (rIsi K) (tCons ta (tCons (tC (.ty T)) tNil))) σ H (· = isiD T d) := fun H1 e a Q q =>
  h H1 e a _ fun v d' H2 e2 hd hr => ⟨v, .ty T, _, _, isiD T d, rfl, .ty T, by subst hr; exact hd.ty, kit_ty (isi_ok hT d), q _ H2 e2 rfl⟩
def lenD : PyData → Nat
  | .list ds => ds.length
  | .tuple ds => ds.length
  | .str x => x.length
  | _ => 0
theorem yi_lenT {K : PySem.W.Frag} {ds : List PyData} (h : Yl z ta σ H (· = .tuple ds)) : YI z (tCB (fun xs H Q => ∃ p ys, xs = [.ref p] ∧ (SqL K H p ys ∨ SqT K H p ys) ∧ Q (.int (ys.length : Int)) H) (tCons ta tNil)) σ H (· = (ds.length : Int)) := fun H1 e a Q q =>
  h H1 e a _ fun v d H2 e2 hd hr => by
    subst hr
    cases hd with
    | tup h1 h2 h3 h4 => exact ⟨_, _, rfl, .inr (.inl (.inl h2)), q _ H2 e2 (by rw [h4.length])⟩
theorem yi_lenL {K : PySem.W.Frag} {ds : List PyData} (h : Yl z ta σ H (· = .list ds)) : YI z (tCB (fun xs H Q => ∃ p ys, xs = [.ref p] ∧ (SqL K H p ys ∨ SqT K H p ys) ∧ Q (.int (ys.length : Int)) H) (tCons ta tNil)) σ H (· = (ds.length : Int)) := fun H1 e a Q q =>
  h H1 e a _ fun v d H2 e2 hd hr => by
    subst hr
    cases hd with
    | lst h1 h2 h3 h4 => exact ⟨_, _, rfl, .inl (.inl (.inl h2)), q _ H2 e2 (by rw [h4.length])⟩
theorem yi_lenS {x : Str} (h : Yl z ta σ H (· = .str x)) (hz : z.n ≤ sizeLine) : YI z (tCB (fun xs H Q => ∃ z : Str, xs = [.str z] ∧ z.length ≤ sizeLine ∧ Q (.int (z.length : Int)) H) (tCons ta tNil)) σ H (· = (x.length : Int)) := fun H1 e a Q q =>
  h H1 e a _ fun v d H2 e2 hd hr => by
    subst hr
    cases hd with
    | str _ l => exact ⟨x, rfl, Nat.le_trans l.1 hz, q _ H2 e2 rfl⟩
/-! ### statements -/
theorem y_if {b : Bool} (al : AlS z H) (h : YT z t σ H (· = b)) (kt : b = true → ∀ H1, ExB z.p H H1 → tu D σ H1) (kf : b = false → ∀ H1, ExB z.p H H1 → tw D σ H1) : tIfS t tu tw D σ H :=
  h H (.refl z.p H) al _ fun x H1 e1 hx => by
    subst hx
    cases x with
    | true => exact iteT (kt rfl H1 e1)
    | false => exact iteF (kf rfl H1 e1)
/-- an if without else -/
theorem y_when {b : Bool} (al : AlS z H) (h : YT z t σ H (· = b)) (kt : b = true → ∀ H1, ExB z.p H H1 → tu D σ H1) (kf : b = false → ∀ H1, ExB z.p H H1 → D.nx σ H1) : tIfS t tu tNext D σ H := y_if al h kt kf
theorem y_ifA (al : AlS z H) (h : YT z t σ H P) (kt : P true → ∀ H1, ExB z.p H H1 → tu D σ H1) (kf : P false → ∀ H1, ExB z.p H H1 → tw D σ H1) : tIfS t tu tw D σ H :=
  h H (.refl z.p H) al _ fun x H1 e1 hx => by
    cases x with
    | true => exact iteT (kt hx H1 e1)
    | false => exact iteF (kf hx H1 e1)
theorem y_asg {i : Nat} (al : AlS z H) (h : Yl z te σ H R) (k : ∀ v d H1, ExB z.p H H1 → Dt z H1 v d → R d → D.nx (σ.set i (some v)) H1) : tAsg te (gName i) D σ H := h H (.refl z.p H) al _ k
theorem y_asgI {i : Nat} (al : AlS z H) (h : YI z te σ H A) (k : ∀ x H1, ExB z.p H H1 → A x → D.nx (σ.set i (some (.int x))) H1) : tAsg te (gName i) D σ H := h H (.refl z.p H) al _ k
theorem y_ret (al : AlS z H) (h : Yl z te σ H R) (k : ∀ v d H1, ExB z.p H H1 → Dt z H1 v d → R d → D.rt v H1) : tRet te D σ H := h H (.refl z.p H) al _ k
theorem y_retB (al : AlS z H) (h : YB z te σ H P) (k : ∀ b H1, ExB z.p H H1 → P b → D.rt (.bl b) H1) : tRet te D σ H := h H (.refl z.p H) al _ k
theorem y_retI (al : AlS z H) (h : YI z te σ H A) (k : ∀ b H1, ExB z.p H H1 → A b → D.rt (.int b) H1) : tRet te D σ H := h H (.refl z.p H) al _ k
end
end Pb
/-! len(set(texts)): how many unlike ones -/
namespace Pb
open PySem PySem.Spec PyProof.Rows L2
def cntN (xs : List Str) : Nat → Nat
  | 0 => 0
  | i + 1 => cntN xs i + (if xs.getD i Str.empty ∈ xs.take i then 0 else 1)
theorem cntN_le (xs : List Str) : ∀ i, cntN xs i ≤ i
  | 0 => Nat.le_refl 0
  | i + 1 => by
    have h := cntN_le xs i
    unfold cntN
    split <;> omega
section
variable {P : Program} {w : World} {A : Around} {R : Result → Shared → Prop} {I : Addr} {fp wr : List Addr} {G : Array GenState → Array GenState → Prop} {n : Nat} {Pv : Nat → Value → Prop} {St : Nat → Shared → Prop}
theorem upd_texts (W : WalksS P w A.in1 I fp wr G n Pv St) (a : Addr) (na : a ∉ fp) (xs : List Str) (lx : xs.length = n) (hb : n + 1 < scanBound) (vals : ∀ i v, Pv i v → ∃ t, v = .str (xs.getD i Str.empty) t) :
    ∀ (k i : Nat) (s : Shared), n - i = k → i ≤ n → St i s → s.heap.SetOf (PySem.strKind P w) a (fun y => decide (y ∈ xs.take i)) (cntN xs i) →
      (∀ s', Moved (a :: wr) G s s' → s'.heap.SetOf (PySem.strKind P w) a (fun y => decide (y ∈ xs.take n)) (cntN xs n) → R (.ok (.ret .none)) s') →
      codeAny (model P w) A (.builtin "set.update.loop" ⟨[.ref a, .ref I], []⟩) R s := by
  have naw : a ∉ wr := fun z => na (W.sub _ z)
  have more : ∀ b ∈ wr, b ∈ a :: wr := fun b z => List.mem_cons_of_mem _ z
  have carry : ∀ {s s' : Shared} {S : Str → Bool} {c : Nat}, Moved wr G s s' → s.heap.SetOf (PySem.strKind P w) a S c → s'.heap.SetOf (PySem.strKind P w) a S c := fun mv ⟨o, es, ep, t, ho, z⟩ => ⟨o, es, ep, t, mv.heap a _ naw ho, z⟩
  intro k; induction k with
  | zero =>
    intro i s e1 e2 st hS fin
    obtain rfl : i = n := by omega
    refine codeAny_builtin PyProof.Rows.F.entry_set_update_loop ?_; rw [Around.under_plainId PyProof.Rows.F.plain_set_update_loop _]
    show wpAny _ A.in1 (pyNext (.ref I) >>= _) _ _ s; refine wpAny_bind (W.done s _ _ st fun s' mv => ?_)
    show wpAny _ A.in1 (ret Value.none) _ _ s'; exact wpAny_pure (fin s' (mv.mono more) (carry mv hS))
  | succ k ih =>
    intro i s e1 e2 st hS fin
    have lt : i < n := by omega
    refine codeAny_builtin PyProof.Rows.F.entry_set_update_loop ?_; rw [Around.under_plainId PyProof.Rows.F.plain_set_update_loop _]
    show wpAny _ A.in1 (pyNext (.ref I) >>= _) _ _ s; refine wpAny_bind (W.item i s _ _ lt st fun v s' pv st' mv => ?_)
    obtain ⟨t, rfl⟩ := vals i v pv
    have hS' := carry mv hS
    show wpAny _ A.in1 (holding [Value.str (xs.getD i Str.empty) t] (setAdd a (.str (xs.getD i Str.empty) t)) >>= _) _ _ s'
    refine wpAny_bind (wpAny_holding ?_); unfold setAdd; refine wpAny_holding ?_
    refine wpAny_bind ((PySem.strKind P w).pyHash (k := xs.getD i Str.empty) (strKind_is _ _ _ _) ?_)
    refine wpAny_setAddHashed_of (knd := PySem.strKind P w) (s := { s' with toks := s'.toks + 1 }) (strKind_is _ _ _ _) rfl hS' (by have := cntN_le xs i; omega) fun h' sb hS2 => ?_
    have hx : xs[i]? = some (xs.getD i Str.empty) := by
      have l : i < xs.length := by omega
      rw [List.getD_eq_getElem?_getD, List.getElem?_eq_getElem l]; rfl
    have hS3 : h'.SetOf (PySem.strKind P w) a (fun y => decide (y ∈ xs.take (i + 1))) (cntN xs (i + 1)) := by
      refine SetOf_congr hS2 (fun y => ?_) ?_
      · rw [List.take_add_one, hx]; simp [List.mem_append]
      · show (if decide (xs.getD i Str.empty ∈ xs.take i) = true then cntN xs i else cntN xs i + 1) = cntN xs i + (if xs.getD i Str.empty ∈ xs.take i then 0 else 1)
        by_cases z : xs.getD i Str.empty ∈ xs.take i
        · rw [if_pos z, if_pos (decide_eq_true z)]; rfl
        · rw [if_neg z, if_neg (by simpa using z)]
    refine wpAny_pure ⟨plainId_quiet PyProof.Rows.F.plain_set_update_loop _, ih (i + 1) _ (by omega) lt (W.frame _ s' _ _ st' (Nat.le_succ _) fun b z o q => ?_) hS3 fun s'' mv2 hS4 => ?_⟩
    · rw [sb.2 b (fun y : b = a => na (by rw [← y]; exact z))]; exact q
    · refine fin s'' (Moved.trans W.gtrans ((mv.mono more).then_heap (Nat.le_succ _) fun b o z q => ?_) mv2) hS4
      rw [sb.2 b (fun y : b = a => z (by rw [y]; exact List.mem_cons_self))]; exact q
end
section
variable {P : Program} {w : World} {A : Around} {E : Value → Shared → Prop} {s : Shared}
/-- the object that set(..) lays first -/
abbrev set0 (led : Bool) : Obj := { cls := .type "set", dict := none, data := .set #[] 0 (.fresh 0 0 led) }
abbrev SetEnd (P : Program) (w : World) (s : Shared) (xs : List Str) (h' : Heap) : Prop := h'.SetOf (PySem.strKind P w) s.heap.objs.size (fun y => decide (y ∈ xs.take xs.length)) (cntN xs xs.length) ∧ ∀ b o, b < s.heap.objs.size → s.heap.get? b = some o → h'.get? b = some o
theorem set_of_texts {l : Addr} {items : Array Value} {xs : List Str} {Q : Value → Shared → Prop} (hh : A.handled = none) (hl : s.heap.IsTuple l items) (hi : StrsAre items.toList xs) (hb : xs.length + 1 < scanBound)
    (h : ∀ (h' : Heap) (tk : Nat), SetEnd P w s xs h' → Q (.ref s.heap.objs.size) { s with heap := h', toks := tk }) : wpAny (model P w) A (call (.type "set") [.ref l]) Q E s := by
  have hsz : xs.length = items.size := by rw [← StrsAre.len_eq hi, Array.length_toList]
  obtain ⟨c, tl, hmro⟩ := PySem.F.called_set.mro; have hmade := PySem.F.called_set.made; have hsub := PySem.F.called_set.sub
  refine wpAny_call (codeAny_of_tree ?_); show wpAny _ _ (callAny (.type "set") _) _ _ _
  refine wpAny_pure ⟨Code.quiet_builtin _ (by decide +kernel), codeAny_builtin PySem.F.entry_type_call ?_⟩; rw [Around.under_plain (weight_type_call_type "set" [.ref l] []) rfl]
  have h1 := PySem.F.called_set.notType; have h2 := PySem.F.called_set.canCreate; have hct := PySem.F.typeCall_set_1 (.ref l)
  repeat (any_goals (first | assumption | wp_step))
  refine codeAny_mono (code_set_new_1 (.ref l) (E := E) (Q₁ := fun obj s1 => ∃ led : Bool, obj = .ref s.heap.objs.size ∧ s1 = { s with heap := s.heap.push (set0 led) }) fun led => ⟨led, rfl, rfl⟩) fun r s1 hr => ?_
  cases r with
  | error e => exact hr
  | ok fl =>
    cases fl with
    | ret obj =>
      obtain ⟨led, rfl, rfl⟩ := hr
      have hS : (s.heap.push (set0 led)).get? s.heap.objs.size = some (set0 led) := Heap.get?_push_size _ rfl
      have hT : Shared.TypeIs { s with heap := s.heap.push (set0 led) } (.ref s.heap.objs.size) "set" := ⟨_, hS, rfl⟩
      have hli := PySem.F.called_set.init.lookup; have hbi := PySem.F.called_set.init.bind (.ref s.heap.objs.size)
      repeat (any_goals (first | assumption | wp_step))
      refine codeAny_mono (codeAny_call_builtin (R := wants (fun r s2 => r = .none ∧ ∃ h' tk, s2 = { s with heap := h', toks := tk } ∧ SetEnd P w s xs h') E) PySem.F.called_set.init.plain PySem.F.entry_set_init (check_set_init_1 hT ?_)) fun r2 s2 hr2 => ?_
      · obtain ⟨ol, hol, hcl, nl, hdl⟩ := hl; obtain ⟨ocls, odict, odata, oslots⟩ := ol
        simp only at hcl hdl; subst hcl; subst hdl
        have hol' : (s.heap.push (set0 led)).get? l = some { cls := .type "tuple", dict := odict, data := .seq items nl, slots := oslots } := Heap.get?_push_of_some _ hol
        have hsls := PySem.F.sub_tuple_set; have hslf := PySem.F.sub_tuple_frozenset
        have hne : (Value.type "tuple" == Value.type "dict") = false := by decide
        have hl1 : (s.heap.push (set0 led)).IsTuple l items := ⟨_, hol', rfl, nl, rfl⟩
        unfold Builtin.«set.__init__» noKeywords Builtin.Frozenset.updateFrom; generalize hPI : pyIter = PI; wp_walk; subst hPI
        refine wpAny_pyIter_tuple hl1 ?_; refine wpAny_bind (wpAny_runValue ?_)
        have hlS : l < s.heap.objs.size := Heap.lt_size hol
        have hh3 : A.in1.in1.in1.handled = none := by simp [hh]
        have hneI : l ≠ (s.heap.push (set0 led)).objs.size := by rw [Heap.size_push]; exact Nat.ne_of_lt (Nat.lt_succ_of_lt hlS)
        have hSf : s.heap.objs.size ∉ [(s.heap.push (set0 led)).objs.size, l] := by
          rw [Heap.size_push]; simp only [List.mem_cons, List.not_mem_nil, or_false, not_or]; exact ⟨Nat.ne_of_lt (Nat.lt_succ_self _), Nat.ne_of_gt hlS⟩
        have hval : ∀ (i : Nat) (v : Value), items[i]? = some v → ∃ t, v = .str (xs.getD i Str.empty) t := fun i v hv => SS.strs_at hi i v (by rw [Array.getElem?_toList]; exact hv)
        refine upd_texts ((Walks.tuple hh3 _ l hneI items).toS) s.heap.objs.size hSf xs hsz (by omega) hval (items.size - 0) 0 _ (by omega) (Nat.zero_le _) ⟨⟨_, Heap.get?_push_size _ rfl, rfl, rfl⟩, (hl1.push _)⟩ ?hS0 ?hR
        case hS0 =>
          have hget : ((s.heap.push (set0 led)).push { cls := .type "tuple_iterator", data := .fields #[.ref l, .int 0 0] }).get? s.heap.objs.size = some (set0 led) := Heap.get?_push_of_some _ hS
          exact SetOf_congr ((setObjOf_fresh (knd := PySem.strKind P w) led).setOf hget (by unfold scanBound; omega)) (fun y => by simp) rfl
        case hR =>
          intro s' hm hS'
          obtain ⟨h', g', d', tk', os'⟩ := s'
          obtain rfl : g' = s.gens := hm.gens
          obtain rfl : d' = s.drawn := hm.drawn
          obtain rfl : os' = s.os := hm.os
          show wpAny _ _ _ _ _ _; refine wpAny_pure ?_; show wpAny _ _ (ret Value.none) _ _ _
          rw [← hsz] at hS'
          refine wpAny_pure ⟨rfl, h', tk', rfl, hS', fun b o hb e => ?_⟩
          have hb1 : b ≠ s.heap.objs.size := Nat.ne_of_lt hb
          have hb2 : b ≠ (s.heap.push (set0 led)).objs.size := by rw [Heap.size_push]; exact Nat.ne_of_lt (Nat.lt_succ_of_lt hb)
          exact hm.heap b o (by simp only [List.mem_cons, List.not_mem_nil, or_false, not_or]; exact ⟨hb1, hb2⟩) (Heap.get?_push_of_some _ (Heap.get?_push_of_some _ e))
      · cases r2 with
        | error e => exact hr2
        | ok fl2 =>
          cases fl2 with
          | ret r =>
            obtain ⟨rfl, h', tk, rfl, hS'⟩ := hr2
            repeat (any_goals (first | assumption | wp_step))
            exact h _ _ hS'
          | _ => exact hr2.elim
    | _ => exact hr.elim
end
section
variable {X : Cx}
def tLenSetS (K : PySem.W.Frag) (ta : TE) : TE := fun σ H Q => ta σ H fun x H1 => ∃ l, ∃ xs : List Str, x = .ref l ∧ SqT K H1 l (xs.map V.str) ∧ xs.length ≤ 4000 ∧ Q (.int (cntN xs xs.length : Nat)) H1
theorem pe_lenSetS {a : Expr} {ta : TE} {p p2 q pos : Pos} (hc : X.calm = true) (hg : Gl X "len") (hm : X.mg "len" = none) (hg2 : Gl X "set") (hm2 : X.mg "set" = none) (ha : PE X a ta)
    (na : starEach [a] X.env = (false, eval a X.env) :: starEach [] X.env := by rfl) : PE X (.Call (.Name "len" p) [.Call (.Name "set" p2) [a] [] q] [] pos) (tLenSetS X.K ta) := by
  refine ⟨fun pins s σ H Q I h => ?_⟩
  refine Call_ (ld_blt I hg hm boot_len ?_); refine PyProof.Rows.callWith_builtin1 (PyProof.Rows.args_cons ?_ rfl) rfl rfl
  refine Call_ (ld_blt I hg2 hm2 boot_set ?_); refine PyProof.Rows.callWith_type1 (PyProof.Rows.args_cons (thn (ha.run pins s σ H _ I h) fun v s1 ⟨x, H1, I1, r1, q1⟩ => PyProof.Rows.args_nil ?_) na) na rfl
  obtain ⟨l, xs, rfl, hq, h1, q1⟩ := q1
  cases r1
  obtain ⟨its, r, pl, hz⟩ := I1.tuple hq
  refine set_of_texts (xs := xs) (I1.ok.hd hc) pl (by simpa using strsAre_of r) (by unfold scanBound; omega) fun h' tk ⟨hS, hk⟩ => ?_
  refine PyProof.Rows.args_nil ?_
  obtain ⟨o, es, ep, t, ho, hex, hd, _, _, _, hf, hn⟩ := hS
  have I2 : Inv X pins σ H1 { s1 with heap := h', toks := tk } := I1.kept fun b o e => hk b o (Heap.lt_size e) e
  have hle := cntN_le xs xs.length
  exact call_len_set ho hex hd hf (by rw [hn] <;> omega) ⟨.int (cntN xs xs.length : Nat), H1, I2.tok _, ⟨_, by rw [hn]⟩, q1⟩
end
end Pb
namespace Pb
open PySem L2
section
variable {X : Cx}
theorem call_repr_bool : CallR X (.builtin "repr") (fun xs H Q => ∃ b : Bool, xs = [.bl b] ∧ Q (.str (if b then "True" else "False")) H) := by
  intro pins s σ H xs us Q I r h
  obtain ⟨b, rfl, q⟩ := h
  obtain ⟨u, rfl, e⟩ := vals1 r
  cases (show u = Value.bool b from e)
  exact PySem.P.repr_of_bool ⟨.str _, H, I.tok _, ⟨_, rfl⟩, q⟩
end
section
variable {z : Fz} {n m : Nat} {σ : L2.St} {H H' : Hp} {ta tb tc te : TE} {t u : TT} {R S : PyData → Prop} {A B C : Int → Prop} {P P' : Bool → Prop} {K : PySem.W.Frag} {D : Ends} {tu tw tz : TS}
/-! ### comprehensions without a test -/
theorem tYes_go {σ : L2.St} {H : Hp} {Q : Bool → Hp → Prop} (h : Q true H) : tYes σ H Q := h
/-- between two turns: at L the list so far -/
structure Lc (z : Fz) (H : Hp) (L : Addr) (Z : Nat → PyData → Prop) (i : Nat) (H' : Hp) : Prop where
  ex : ExB z.p H H'
  at_ : ∃ acc es, H' L = some (.lst acc) ∧ DtAll (z.av L) H' acc es ∧ es.length = i ∧ ∀ j e, es[j]? = some e → Z j e
theorem lc_start {Z : Nat → PyData → Prop} {L : Addr} (hL : H L = none) : Lc z H L Z 0 (upd H L (.lst [])) := ⟨.new hL, [], [], upd_same, .nil, rfl, fun j e h => by simp at h⟩
theorem snoc_get {α : Type} {es : List α} {d e : α} {j i : Nat} (h : (es ++ [d])[j]? = some e) (l : es.length = i) : (es[j]? = some e) ∨ (j = i ∧ e = d) := by
  by_cases hl : j < es.length
  · rw [List.getElem?_append_left hl] at h
    exact .inl h
  · rw [List.getElem?_append_right (by omega)] at h
    cases k : j - es.length with
    | zero =>
      rw [k] at h
      exact .inr ⟨by omega, by simpa using h.symm⟩
    | succ k => rw [k] at h; simp at h
theorem lc_turn {Z : Nat → PyData → Prop} {L : Addr} {i N : Nat} {σ2 : L2.St} (al : AlS z H) (hL : H L = none) (hi : i < N) (hN : N ≤ sizeLine) (q : Lc z H L Z i H') (he : Yl (z.av L) te σ2 H' (Z i)) :
    tYes σ2 H' fun b H3 => if b = true then te σ2 H3 fun y H4 => ∃ acc, H4 L = some (.lst acc) ∧ acc.length < sizeLine ∧ Lc z H L Z (i + 1) (upd H4 L (.lst (acc ++ [y]))) else Lc z H L Z (i + 1) H3 := by
  obtain ⟨e1, acc, es, h1, h2, h3, h4⟩ := q
  have nL := al.ne hL
  show (if true = true then te σ2 H' (fun y H4 => ∃ acc, H4 L = some (.lst acc) ∧ acc.length < sizeLine ∧ Lc z H L Z (i + 1) (upd H4 L (.lst (acc ++ [y])))) else Lc z H L Z (i + 1) H')
  refine iteT (he H' (.refl _ H') ((al.up e1).av ⟨_, h1, fun _ e => nomatch e⟩) _ fun y d H4 e4 hd hr => ⟨acc, e4.keep L _ nL.1 h1, by rw [h2.length, h3]; omega, (e1.trans e4).mut al.1 hL (.lst (e4.keep L _ nL.1 h1)), acc ++ [y], es ++ [d], upd_same, ?_, by rw [List.length_append, h3]; rfl, fun j e hj => ?_⟩)
  · exact ((h2.mono e4).append (.cons hd .nil)).to .mut
  · rcases snoc_get hj h3 with q | ⟨q1, q2⟩
    · exact h4 j e q
    · rw [q1, q2]; exact hr
theorem lc_end {Z : Nat → PyData → Prop} {L : Addr} {i : Nat} (al : AlS z H) (hL : H L = none) (q : Lc z H L Z i H') (hi : i ≤ z.n) : ∃ es, Dt z H' (.ref L) (.list es) ∧ es.length = i ∧ ∀ j e, es[j]? = some e → Z j e := by
  obtain ⟨e1, acc, es, h1, h2, h3, h4⟩ := q
  exact ⟨es, .lst (al.ne hL) h1 (by rw [h2.length, h3]; exact hi) (h2.to .unav), h3, h4⟩
/-- [e for x in data] over a tuple -/
theorem yl_lcT {ds : List PyData} {tl : TE} {j : Nat} {vs : List Nat} (Z : Nat → PyData → Prop) (h : Yl z tl σ H (· = .tuple ds)) (hl : ds.length ≤ z.n) (hz : z.n ≤ sizeLine) (hw : ∀ x, wipe ((wipe σ vs).set j (some x)) vs = wipe σ vs)
    (he : ∀ i x d L H0 H1, ExB z.p H H0 → H0 L = none → ExB z.p H0 H1 → ds[i]? = some d → Dt (z.av L) H1 x d → Yl (z.av L) te ((wipe σ vs).set j (some x)) H1 (Z i)) :
    Yl z (tLc (iTup K tl) (gName j) tYes te vs) σ H (fun d => ∃ es, d = .list es ∧ es.length = ds.length ∧ ∀ j e, es[j]? = some e → Z j e) := fun H1 e a Q q => h H1 e a _ fun v d H2 e2 hd hr => by
  subst hr
  cases hd with
  | @tup a1 xs _ d1 d2 d3 d4 =>
    have a2 := a.up e2
    refine ⟨a1, rfl, ⟨xs, .inl (.inl d2)⟩, fun L hL => lc_tup (K := K) (xs := xs) (Lc z H2 L Z) (lc_start hL) (fun i H3 _ w => .inl (.inl (w.ex.keep _ _ d1.1 d2))) (fun i x H3 hi w => ⟨hw x, ?_⟩) fun H3 w => ?_⟩
    · obtain ⟨d, g1, g2⟩ := d4.get hi
      have lt : i < xs.length := (List.getElem?_eq_some_iff.mp hi).1
      exact lc_turn a2 hL lt (Nat.le_trans d3 hz) w (he i x d L H2 H3 (e.trans e2) hL w.ex g1 ((g2.to (.av hL)).mono w.ex))
    · obtain ⟨es, g1, g2, g3⟩ := lc_end a2 hL w (by rw [d4.length]; exact hl)
      exact q _ _ H3 (e2.trans w.ex) g1 ⟨es, rfl, by rw [g2, d4.length], g3⟩
theorem yl_lcL {ds : List PyData} {tl : TE} {j : Nat} {vs : List Nat} (Z : Nat → PyData → Prop) (h : Yl z tl σ H (· = .list ds)) (hl : ds.length ≤ z.n) (hz : z.n ≤ sizeLine) (hw : ∀ x, wipe ((wipe σ vs).set j (some x)) vs = wipe σ vs)
    (he : ∀ i x d L H0 H1, ExB z.p H H0 → H0 L = none → ExB z.p H0 H1 → ds[i]? = some d → Dt (z.av L) H1 x d → Yl (z.av L) te ((wipe σ vs).set j (some x)) H1 (Z i)) :
    Yl z (tLc (iList K tl) (gName j) tYes te vs) σ H (fun d => ∃ es, d = .list es ∧ es.length = ds.length ∧ ∀ j e, es[j]? = some e → Z j e) := fun H1 e a Q q => h H1 e a _ fun v d H2 e2 hd hr => by
  subst hr
  cases hd with
  | @lst a1 xs _ d1 d2 d3 d4 =>
    have a2 := a.up e2
    refine ⟨a1, rfl, ⟨xs, .inl (.inl d2)⟩, fun L hL => lc_list (K := K) (xs := xs) (Lc z H2 L Z) (lc_start hL) (fun i H3 _ w => .inl (.inl (w.ex.keep _ _ d1.1 d2))) (fun i x H3 hi w => ⟨hw x, ?_⟩) fun H3 w => ?_⟩
    · obtain ⟨d, g1, g2⟩ := d4.get hi
      have lt : i < xs.length := (List.getElem?_eq_some_iff.mp hi).1
      exact lc_turn a2 hL lt (Nat.le_trans d3 hz) w (he i x d L H2 H3 (e.trans e2) hL w.ex g1 ((g2.to (.av hL)).mono w.ex))
    · obtain ⟨es, g1, g2, g3⟩ := lc_end a2 hL w (by rw [d4.length]; exact hl)
      exact q _ _ H3 (e2.trans w.ex) g1 ⟨es, rfl, by rw [g2, d4.length], g3⟩
/-- over a text, sign by sign -/
theorem yl_lcS {x : Str} {tl : TE} {j : Nat} {vs : List Nat} (Z : Nat → PyData → Prop) (h : Yl z tl σ H (· = .str x)) (hz : z.n ≤ sizeLine) (hw : ∀ x, wipe ((wipe σ vs).set j (some x)) vs = wipe σ vs)
    (he : ∀ i c L H0 H1, ExB z.p H H0 → H0 L = none → ExB z.p H0 H1 → x.cps[i]? = some c → Yl (z.av L) te ((wipe σ vs).set j (some (.str ⟨#[c]⟩))) H1 (Z i)) :
    Yl z (tLc (iStr tl) (gName j) tYes te vs) σ H (fun d => ∃ es, d = .list es ∧ es.length = x.cps.size ∧ ∀ j e, es[j]? = some e → Z j e) := fun H1 e a Q q => h H1 e a _ fun v d H2 e2 hd hr => by
  subst hr
  cases hd with
  | str _ l =>
    have a2 := a.up e2
    have lz : x.cps.size ≤ z.n := l.1
    refine ⟨x, rfl, fun L hL => lc_it walk_str (Lc z H2 L Z) (lc_start hL) (fun _ _ _ _ => trivial) (fun i v H3 H4 hi w y => ?_) fun H3 w => ?_⟩
    · obtain ⟨rfl, c, hc, rfl⟩ := y
      exact ⟨hw _, lc_turn a2 hL hi (Nat.le_trans lz hz) w (he i c L H2 H4 (e.trans e2) hL w.ex hc)⟩
    · obtain ⟨es, g1, g2, g3⟩ := lc_end a2 hL w lz
      exact q _ _ H3 (e2.trans w.ex) g1 ⟨es, rfl, g2, g3⟩
/-- .. over range(n) -/
theorem yl_lcR {k : Int} {tl : TE} {j : Nat} {vs : List Nat} (Z : Nat → PyData → Prop) (h : YI z tl σ H (· = k)) (hk : k ≤ z.n) (hk0 : 0 ≤ k) (hz : z.n ≤ sizeLine) (hw : ∀ x, wipe ((wipe σ vs).set j (some x)) vs = wipe σ vs)
    (he : ∀ (i : Nat) L H0 H1, ExB z.p H H0 → H0 L = none → ExB z.p H0 H1 → (i : Int) < k → Yl (z.av L) te ((wipe σ vs).set j (some (.int (i : Int)))) H1 (Z i)) :
    Yl z (tLc (iRng1 (tCons tl tNil)) (gName j) tYes te vs) σ H (fun d => ∃ es, d = .list es ∧ es.length = k.toNat ∧ ∀ j e, es[j]? = some e → Z j e) := fun H1 e a Q q => h H1 e a _ fun v H2 e2 hr => by
  have hr : v = k := hr
  subst hr
  have a2 := a.up e2
  have hs : sizeLine < 2 ^ 62 := by decide
  refine ⟨v, rfl, by omega, by omega, fun L hL => lc_range (lo := 0) (n := v.toNat) (Lc z H2 L Z) (lc_start hL) (fun i H3 hi w => ?_) fun H3 w => ?_⟩
  · have e0 : (0 : Int) + (i : Int) = (i : Int) := Int.zero_add _
    rw [e0]
    exact ⟨hw _, lc_turn a2 hL hi (by omega) w (he i L H2 H3 (e.trans e2) hL w.ex (by omega))⟩
  · obtain ⟨es, g1, g2, g3⟩ := lc_end a2 hL w (by omega)
    exact q _ _ H3 (e2.trans w.ex) g1 ⟨es, rfl, g2, g3⟩
theorem map_of {α : Type} {es : List PyData} {ds : List α} {f : α → PyData} (hl : es.length = ds.length) (h : ∀ (j : Nat) e, es[j]? = some e → ∀ d, ds[j]? = some d → e = f d) : es = ds.map f := by
  refine List.ext_getElem? fun j => ?_
  rw [List.getElem?_map]
  cases he : es[j]? with
  | none =>
    have : ds.length ≤ j := by rw [← hl]; exact List.getElem?_eq_none_iff.mp he
    rw [List.getElem?_eq_none_iff.mpr this]; rfl
  | some e =>
    have lt : j < ds.length := by rw [← hl]; exact (List.getElem?_eq_some_iff.mp he).1
    rw [List.getElem?_eq_getElem lt, h j e he _ (List.getElem?_eq_getElem lt)]; rfl
/-- all([..]) -/
theorem yb_all {bs : List Bool} (h : Yl z ta σ H (· = .list (bs.map PyData.bool))) : YB z (tCB (rAll K) (tCons ta tNil)) σ H (· = bs.all id) := fun H1 e a Q q => h H1 e a _ fun v d H2 e2 hd hr => by
  subst hr
  cases hd with
  | lst d1 d2 d3 d4 =>
    rw [d4.bools_eq] at d2
    exact ⟨_, bs, rfl, .inl (.inl d2), q _ H2 e2 rfl⟩
end
end Pb
namespace Pb
open PySem L2
mutual
theorem Dt.dp' {z : Fz} {H : Hp} {K : PySem.W.Frag} : ∀ (d : PyData) (v : V), Dt z H v d → Dp K H v d
  | .none, _, h => by cases h; exact .non
  | .bool b, _, h => by cases h; exact .bl b
  | .int i, _, h => by cases h; exact .int i
  | .str x, _, h => by cases h; exact .str x
  | .list ds, _, h => by cases h with | lst a b c t => exact .lst (.inl (.inl b)) (DtAll.dp' ds _ t)
  | .tuple ds, _, h => by cases h with | tup a b c t => exact .tup (.inl (.inl b)) (DtAll.dp' ds _ t)
  | .dict _, _, h => by cases h
theorem DtAll.dp' {z : Fz} {H : Hp} {K : PySem.W.Frag} : ∀ (ds : List PyData) (vs : List V), DtAll z H vs ds → DpAll K H vs ds
  | [], _, h => by cases h; exact .nil
  | d :: ds, _, h => by cases h with | cons a t => exact .cons (Dt.dp' d _ a) (DtAll.dp' ds _ t)
end
mutual
theorem Dt.lay' {z : Fz} {H : Hp} : ∀ (d : PyData) (v : V), Dt z H v d → d.canLay0 = true
  | .none, _, h => by simp [PyData.canLay0]
  | .bool b, _, h => by simp [PyData.canLay0]
  | .int i, _, h => by simp [PyData.canLay0]
  | .str x, _, h => by cases h with | str _ l => simp only [PyData.canLay0]; exact l.2
  | .list ds, _, h => by cases h with | lst a b c t => simp only [PyData.canLay0]; exact DtAll.lay' ds _ t
  | .tuple ds, _, h => by cases h with | tup a b c t => simp only [PyData.canLay0]; exact DtAll.lay' ds _ t
  | .dict _, _, h => by cases h
theorem DtAll.lay' {z : Fz} {H : Hp} : ∀ (ds : List PyData) (vs : List V), DtAll z H vs ds → PyData.canLayAll0 ds = true
  | [], _, h => by simp [PyData.canLayAll0]
  | d :: ds, _, h => by cases h with | cons a t => simp only [PyData.canLayAll0, Bool.and_eq_true]; exact ⟨Dt.lay' d _ a, DtAll.lay' ds _ t⟩
end
theorem Dt.shaped {z : Fz} {H : Hp} {d : PyData} {v : V} (h : Dt z H v d) (l : d.depth ≤ 64) : SeqAt.shaped d = true := by
  show (d.canLay0 && decide (d.depth ≤ 64)) = true
  rw [Dt.lay' d v h, decide_eq_true l]; rfl
theorem depthAll_strs : ∀ xs : List Str, PyData.depthAll (xs.map PyData.str) = 0
  | [] => rfl
  | _ :: r => by simp [PyData.depthAll, PyData.depth, depthAll_strs r]
/-! ### rules by a K that is told (for the blocks of comprehensions) -/
section
variable {X : Cx} {K : PySem.W.Frag}
theorem kk_ix_list (e : X.K = K) : IxR X (rIxL K) := e ▸ ix_list
theorem kk_ix_tup (e : X.K = K) : IxR X (rIxT K) := e ▸ ix_tup
theorem kk_sl_list (e : X.K = K) : SlR X (rSlL K) := e ▸ sl_list
theorem kk_sl_tupA (e : X.K = K) : SlR X (rSlA K) := e ▸ sl_tupA
theorem kk_op_catA (e : X.K = K) : OpR X (binaryOp .Add) (rCatA K) := e ▸ op_catA
theorem kk_op_in_seq (e : X.K = K) : OpR X (compareOp .In) (rIn K false) := e ▸ op_in_seq
theorem kk_op_notIn_seq (e : X.K = K) : OpR X (compareOp .NotIn) (rIn K true) := e ▸ op_notIn_seq
theorem kk_op_eqD (hu : X.A.units + 64 < cLine) (e : X.K = K) : OpR X (compareOp .Eq) (rEqD K) := e ▸ op_eqD hu
theorem kk_op_neD (hu : X.A.units + 64 < cLine) (e : X.K = K) : OpR X (compareOp .NotEq) (rNeD K) := e ▸ op_neD hu
theorem kk_call_isi (e : X.K = K) : CallR X (.builtin "isinstance") (rIsi K) := e ▸ call_isi
theorem kk_call_len_seq (e : X.K = K) : CallR X (.builtin "len") (fun xs H Q => ∃ p ys, xs = [.ref p] ∧ (SqL K H p ys ∨ SqT K H p ys) ∧ Q (.int (ys.length : Int)) H) := e ▸ call_len_seq
theorem kk_call_list_of (e : X.K = K) : CallR X (.type "list") (fun xs H Q => ∃ p ys, xs = [.ref p] ∧ (SqL K H p ys ∨ SqT K H p ys) ∧ ∀ l, H l = none → Q (.ref l) (upd H l (.lst ys))) := e ▸ call_list_of
theorem kk_call_tuple_of (e : X.K = K) : CallR X (.type "tuple") (fun xs H Q => ∃ p ys, xs = [.ref p] ∧ ((SqL K H p ys ∧ ∀ l, H l = none → Q (.ref l) (upd H l (.tup ys))) ∨ (SqT K H p ys ∧ Q (.ref p) H))) := e ▸ call_tuple_of
end
section
variable {z : Fz} {n m : Nat} {σ : L2.St} {H H' : Hp} {ta tb tc te : TE} {t u : TT} {R S : PyData → Prop} {A B C : Int → Prop} {P P' : Bool → Prop} {K : PySem.W.Frag} {D : Ends} {tu tw tz : TS} {d e : PyData} {ds es : List PyData}
theorem yb_eqD (ha : Yl z ta σ H (· = d)) (hb : Yl z tb σ H (· = e)) (l1 : d.depth ≤ 64) (l2 : e.depth ≤ 64) : YB z (tOp (rEqD K) ta tb) σ H (· = PyData.eqv d e) := fun H1 e1 a Q q =>
  ha H1 e1 a _ fun v d' H2 e2 hd hr => hb H2 (e1.trans e2) (a.up e2) _ fun v' d'' H3 e3 hd' hr' => by
    subst hr hr'
    exact ⟨_, _, Dt.dp' _ _ (hd.mono e3), Dt.dp' _ _ hd', hd.shaped l1, hd'.shaped l2, q _ H3 (e2.trans e3) rfl⟩
theorem yb_neD (ha : Yl z ta σ H (· = d)) (hb : Yl z tb σ H (· = e)) (l1 : d.depth ≤ 64) (l2 : e.depth ≤ 64) : YB z (tOp (rNeD K) ta tb) σ H (· = !PyData.eqv d e) := fun H1 e1 a Q q =>
  ha H1 e1 a _ fun v d' H2 e2 hd hr => hb H2 (e1.trans e2) (a.up e2) _ fun v' d'' H3 e3 hd' hr' => by
    subst hr hr'
    exact ⟨_, _, Dt.dp' _ _ (hd.mono e3), Dt.dp' _ _ hd', hd.shaped l1, hd'.shaped l2, q _ H3 (e2.trans e3) rfl⟩
/-! ### items -/
theorem DtAll.at {vs : List V} {k : Nat} (h : DtAll z H vs ds) (e : ds[k]? = some d) : ∃ v, vs[k]? = some v ∧ Dt z H v d := by
  have lt : k < vs.length := by rw [h.length]; exact (List.getElem?_eq_some_iff.mp e).1
  obtain ⟨d', g1, g2⟩ := h.get (List.getElem?_eq_getElem lt)
  rw [e] at g1
  cases g1
  exact ⟨_, List.getElem?_eq_getElem lt, g2⟩
theorem yl_ixT {Rs : List PyData → Prop} (h : Yl z ta σ H (fun d => ∃ ds, d = .tuple ds ∧ Rs ds)) (hi : YI z tb σ H A) (hk : ∀ ds i, Rs ds → A i → ∃ (k : Nat) (d : PyData), i = k ∧ ds[k]? = some d ∧ R d) : Yl z (tOp (rIxT K) ta tb) σ H R := fun H1 e a Q q =>
  h H1 e a _ fun v d H2 e2 hd ⟨ds, hr, rs⟩ => hi H2 (e.trans e2) (a.up e2) _ fun i H3 e3 ai => by
    subst hr
    obtain ⟨k, d, rfl, hg, r⟩ := hk ds i rs ai
    cases hd.mono e3 with
    | tup d1 d2 d3 d4 =>
      obtain ⟨x, g1, g2⟩ := d4.at hg
      exact ⟨_, _, _, x, rfl, rfl, .inl (.inl d2), atI_nat g1, q _ _ H3 (e2.trans e3) g2 r⟩
theorem yl_ixL {Rs : List PyData → Prop} (h : Yl z ta σ H (fun d => ∃ ds, d = .list ds ∧ Rs ds)) (hi : YI z tb σ H A) (hk : ∀ ds i, Rs ds → A i → ∃ (k : Nat) (d : PyData), i = k ∧ ds[k]? = some d ∧ R d) : Yl z (tOp (rIxL K) ta tb) σ H R := fun H1 e a Q q =>
  h H1 e a _ fun v d H2 e2 hd ⟨ds, hr, rs⟩ => hi H2 (e.trans e2) (a.up e2) _ fun i H3 e3 ai => by
    subst hr
    obtain ⟨k, d, rfl, hg, r⟩ := hk ds i rs ai
    cases hd.mono e3 with
    | lst d1 d2 d3 d4 =>
      obtain ⟨x, g1, g2⟩ := d4.at hg
      exact ⟨_, _, _, x, rfl, rfl, .inl (.inl d2), atI_nat g1, q _ _ H3 (e2.trans e3) g2 r⟩
theorem yl_ixT1 {k : Nat} (h : Yl z ta σ H (· = .tuple ds)) (hg : ds[k]? = some d) : Yl z (tOp (rIxT K) ta (tC (.int (k : Int)))) σ H (· = d) :=
  yl_ixT (Rs := (· = ds)) (h.imp fun d e => ⟨ds, e, rfl⟩) yi_c fun ds' i e1 e2 => ⟨k, d, e2, by rw [e1]; exact hg, rfl⟩
/-! ### + of lists and tuples, slices -/
theorem yl_cat {Ra Rb : List PyData → Prop} (ha : Yl z ta σ H (fun d => ∃ ds, d = .list ds ∧ Ra ds)) (hb : Yl z tb σ H (fun d => ∃ ds, d = .list ds ∧ Rb ds)) (hl : ∀ ds es, Ra ds → Rb es → ds.length + es.length ≤ z.n) (hz : z.n ≤ sizeLine) :
    Yl z (tOp rCat ta tb) σ H (fun d => ∃ ds, d = .list ds ∧ ∃ xs ys, ds = xs ++ ys ∧ Ra xs ∧ Rb ys) := fun H1 e a Q q =>
  ha H1 e a _ fun v d H2 e2 hd ⟨ds, hr, rs⟩ => hb H2 (e.trans e2) (a.up e2) _ fun v' d' H3 e3 hd' ⟨es, hr', rs'⟩ => by
    subst hr hr'
    cases hd.mono e3 with
    | lst d1 d2 d3 d4 =>
      cases hd' with
      | lst f1 f2 f3 f4 =>
        have l := hl ds es rs rs'
        refine ⟨_, _, _, _, rfl, rfl, d2, f2, by rw [d4.length, f4.length]; omega, fun t ht => ?_⟩
        exact q _ _ _ ((e2.trans e3).trans (.new ht)) (.lst (((a.up e2).up e3).ne ht) upd_same (by rw [List.length_append, d4.length, f4.length]; exact l) ((d4.append f4).mono (.new ht))) ⟨_, rfl, ds, es, rfl, rs, rs'⟩
theorem yl_catT {Ra Rb : List PyData → Prop} (ha : Yl z ta σ H (fun d => ∃ ds, d = .tuple ds ∧ Ra ds)) (hb : Yl z tb σ H (fun d => ∃ ds, d = .tuple ds ∧ Rb ds)) (hl : ∀ ds es, Ra ds → Rb es → ds.length + es.length ≤ z.n) (hz : z.n ≤ sizeLine) :
    Yl z (tOp (rCatA K) ta tb) σ H (fun d => ∃ ds, d = .tuple ds ∧ ∃ xs ys, ds = xs ++ ys ∧ Ra xs ∧ Rb ys) := fun H1 e a Q q =>
  ha H1 e a _ fun v d H2 e2 hd ⟨ds, hr, rs⟩ => hb H2 (e.trans e2) (a.up e2) _ fun v' d' H3 e3 hd' ⟨es, hr', rs'⟩ => by
    subst hr hr'
    have hdd := hd.mono e3
    cases id hdd with
    | tup d1 d2 d3 d4 =>
      cases id hd' with
      | tup f1 f2 f3 f4 =>
        have l := hl ds es rs rs'
        refine ⟨_, _, _, _, rfl, rfl, .inl (.inl d2), .inl (.inl f2), by rw [d4.length, f4.length]; omega, fun h => ?_, fun h h' => ?_, fun h h' t ht => ?_⟩
        · subst h
          cases d4
          exact q _ _ H3 (e2.trans e3) hd' ⟨_, rfl, [], es, rfl, rs, rs'⟩
        · subst h'
          cases f4
          exact q _ _ H3 (e2.trans e3) hdd ⟨_, rfl, ds, [], by rw [List.append_nil], rs, rs'⟩
        · exact q _ _ _ ((e2.trans e3).trans (.new ht)) (.tup (((a.up e2).up e3).ne ht) upd_same (by rw [List.length_append, d4.length, f4.length]; exact l) ((d4.append f4).mono (.new ht))) ⟨_, rfl, ds, es, rfl, rs, rs'⟩
/-- what is cut out -/
def cutD (ds : List PyData) (lo hi : Option Int) : List PyData := (ds.drop (HT.sIx ds.length 0 lo)).take (HT.sIx ds.length ds.length hi - HT.sIx ds.length 0 lo)
theorem DtAll.cut {vs : List V} (h : DtAll z H vs ds) (lo hi : Option Int) : DtAll z H (cutV vs lo hi) (cutD ds lo hi) := by
  unfold cutV cutD
  rw [h.length]
  exact (h.drop _).take _
def YO (z : Fz) (tt : TO) (σ : L2.St) (H : Hp) (A : Option Int → Prop) : Prop := ∀ H1, ExB z.p H H1 → AlS z H1 → ∀ Q : Option Int → Hp → Prop, (∀ o H2, ExB z.p H1 H2 → A o → Q o H2) → tt σ H1 Q
theorem yo_none : YO z tNoPart σ H (· = none) := fun H1 _ _ Q q => q _ H1 (.refl _ H1) rfl
theorem yo_some (h : YI z te σ H A) : YO z (tPart te) σ H (fun o => ∃ i, o = some i ∧ A i) := fun H1 e a Q q => h H1 e a _ fun i H2 e2 hi => ⟨i, rfl, q _ H2 e2 ⟨i, rfl, hi⟩⟩
theorem yl_slL {Rs : List PyData → Prop} {tl th : TO} {F G : Option Int → Prop} (h : Yl z ta σ H (fun d => ∃ ds, d = .list ds ∧ Rs ds)) (hl : YO z tl σ H F) (hh : YO z th σ H G) : Yl z (tSl (rSlL K) ta tl th) σ H (fun d => ∃ ds, d = .list ds ∧ ∃ xs lo hi, Rs xs ∧ F lo ∧ G hi ∧ ds = cutD xs lo hi) := fun H1 e a Q q =>
  h H1 e a _ fun v d H2 e2 hd ⟨ds, hr, rs⟩ => hl H2 (e.trans e2) (a.up e2) _ fun lo H3 e3 f => hh H3 ((e.trans e2).trans e3) ((a.up e2).up e3) _ fun hi H4 e4 g => by
    subst hr
    cases (hd.mono e3).mono e4 with
    | lst d1 d2 d3 d4 =>
      refine ⟨_, _, rfl, .inl (.inl d2), fun t ht => ?_⟩
      exact q _ _ _ (((e2.trans e3).trans e4).trans (.new ht)) (.lst ((((a.up e2).up e3).up e4).ne ht) upd_same (Nat.le_trans (cutV_length _ _ _) d3) ((d4.cut lo hi).mono (.new ht))) ⟨_, rfl, ds, lo, hi, rs, f, g, rfl⟩
theorem cut_whole {vs : List V} {lo hi : Option Int} (h : HT.sIx vs.length 0 lo = 0 ∧ HT.sIx vs.length vs.length hi = vs.length) (hd : DtAll z H vs ds) : cutD ds lo hi = ds := by
  unfold cutD
  rw [← hd.length, h.1, h.2, hd.length]
  simp
theorem yl_slT {Rs : List PyData → Prop} {tl th : TO} {F G : Option Int → Prop} (h : Yl z ta σ H (fun d => ∃ ds, d = .tuple ds ∧ Rs ds)) (hl : YO z tl σ H F) (hh : YO z th σ H G) : Yl z (tSl (rSlA K) ta tl th) σ H (fun d => ∃ ds, d = .tuple ds ∧ ∃ xs lo hi, Rs xs ∧ F lo ∧ G hi ∧ ds = cutD xs lo hi) := fun H1 e a Q q =>
  h H1 e a _ fun v d H2 e2 hd ⟨ds, hr, rs⟩ => hl H2 (e.trans e2) (a.up e2) _ fun lo H3 e3 f => hh H3 ((e.trans e2).trans e3) ((a.up e2).up e3) _ fun hi H4 e4 g => by
    subst hr
    have hdd := (hd.mono e3).mono e4
    cases id hdd with
    | tup d1 d2 d3 d4 =>
      refine ⟨_, _, rfl, .inl (.inl d2), fun hw => ?_, fun hw t ht => ?_⟩
      · exact q _ _ H4 ((e2.trans e3).trans e4) hdd ⟨_, rfl, ds, lo, hi, rs, f, g, (cut_whole hw d4).symm⟩
      · exact q _ _ _ (((e2.trans e3).trans e4).trans (.new ht)) (.tup ((((a.up e2).up e3).up e4).ne ht) upd_same (Nat.le_trans (cutV_length _ _ _) d3) ((d4.cut lo hi).mono (.new ht))) ⟨_, rfl, ds, lo, hi, rs, f, g, rfl⟩
theorem cutD_length (ds : List PyData) (lo hi : Option Int) : (cutD ds lo hi).length ≤ ds.length := by
  unfold cutD
  rw [List.length_take, List.length_drop]
  omega
theorem cutD_mem {ds : List PyData} {lo hi : Option Int} (h : d ∈ cutD ds lo hi) : d ∈ ds := List.mem_of_mem_drop (List.mem_of_mem_take h)
/-- list(..), tuple(..) -/
def rListOf (K : PySem.W.Frag) : List V → Hp → VK → Prop := fun xs H Q => ∃ p ys, xs = [.ref p] ∧ (SqL K H p ys ∨ SqT K H p ys) ∧ ∀ l, H l = none → Q (.ref l) (upd H l (.lst ys))
def rTupOf (K : PySem.W.Frag) : List V → Hp → VK → Prop := fun xs H Q => ∃ p ys, xs = [.ref p] ∧ ((SqL K H p ys ∧ ∀ l, H l = none → Q (.ref l) (upd H l (.tup ys))) ∨ (SqT K H p ys ∧ Q (.ref p) H))
theorem yl_listT (h : Yl z ta σ H (fun d => ∃ ds, d = .tuple ds ∧ R (.list ds))) : Yl z (tCB (rListOf K) (tCons ta tNil)) σ H (fun d => ∃ ds, d = .list ds ∧ R d) := fun H1 e a Q q =>
  h H1 e a _ fun v d H2 e2 hd ⟨ds, hr, rs⟩ => by
    subst hr
    cases hd with
    | tup d1 d2 d3 d4 => exact ⟨_, _, rfl, .inr (.inl (.inl d2)), fun t ht => q _ _ _ (e2.trans (.new ht)) (.lst ((a.up e2).ne ht) upd_same d3 (d4.mono (.new ht))) ⟨ds, rfl, rs⟩⟩
theorem yl_tupL (h : Yl z ta σ H (fun d => ∃ ds, d = .list ds ∧ R (.tuple ds))) : Yl z (tCB (rTupOf K) (tCons ta tNil)) σ H (fun d => ∃ ds, d = .tuple ds ∧ R d) := fun H1 e a Q q =>
  h H1 e a _ fun v d H2 e2 hd ⟨ds, hr, rs⟩ => by
    subst hr
    cases hd with
    | lst d1 d2 d3 d4 => exact ⟨_, _, rfl, .inl ⟨.inl (.inl d2), fun t ht => q _ _ _ (e2.trans (.new ht)) (.tup ((a.up e2).ne ht) upd_same d3 (d4.mono (.new ht))) ⟨ds, rfl, rs⟩⟩⟩
/-- [e for x in a tuple], the tuple told by a word -/
theorem yl_lcTR {Rs : List PyData → Prop} {tl : TE} {j : Nat} {vs : List Nat} (Z : List PyData → Nat → PyData → Prop) (h : Yl z tl σ H (fun d => ∃ ds, d = .tuple ds ∧ Rs ds)) (hz : z.n ≤ sizeLine) (hw : ∀ x, wipe ((wipe σ vs).set j (some x)) vs = wipe σ vs)
    (he : ∀ ds, Rs ds → ∀ i x d L H0 H1, ExB z.p H H0 → H0 L = none → ExB z.p H0 H1 → ds[i]? = some d → Dt (z.av L) H1 x d → Yl (z.av L) te ((wipe σ vs).set j (some x)) H1 (Z ds i)) :
    Yl z (tLc (iTup K tl) (gName j) tYes te vs) σ H (fun d => ∃ es, d = .list es ∧ ∃ ds, Rs ds ∧ es.length = ds.length ∧ ∀ j e, es[j]? = some e → Z ds j e) := fun H1 e a Q q => h H1 e a _ fun v d H2 e2 hd ⟨ds, hr, rs⟩ => by
  subst hr
  cases hd with
  | @tup a1 xs _ d1 d2 d3 d4 =>
    have a2 := a.up e2
    refine ⟨a1, rfl, ⟨xs, .inl (.inl d2)⟩, fun L hL => lc_tup (K := K) (xs := xs) (Lc z H2 L (Z ds)) (lc_start hL) (fun i H3 _ w => .inl (.inl (w.ex.keep _ _ d1.1 d2))) (fun i x H3 hi w => ⟨hw x, ?_⟩) fun H3 w => ?_⟩
    · obtain ⟨d, g1, g2⟩ := d4.get hi
      have lt : i < xs.length := (List.getElem?_eq_some_iff.mp hi).1
      exact lc_turn a2 hL lt (Nat.le_trans d3 hz) w (he ds rs i x d L H2 H3 (e.trans e2) hL w.ex g1 ((g2.to (.av hL)).mono w.ex))
    · obtain ⟨es, g1, g2, g3⟩ := lc_end a2 hL w d3
      exact q _ _ H3 (e2.trans w.ex) g1 ⟨es, rfl, ds, rs, by rw [g2, d4.length], g3⟩
theorem yl_lcLR {Rs : List PyData → Prop} {tl : TE} {j : Nat} {vs : List Nat} (Z : List PyData → Nat → PyData → Prop) (h : Yl z tl σ H (fun d => ∃ ds, d = .list ds ∧ Rs ds)) (hz : z.n ≤ sizeLine) (hw : ∀ x, wipe ((wipe σ vs).set j (some x)) vs = wipe σ vs)
    (he : ∀ ds, Rs ds → ∀ i x d L H0 H1, ExB z.p H H0 → H0 L = none → ExB z.p H0 H1 → ds[i]? = some d → Dt (z.av L) H1 x d → Yl (z.av L) te ((wipe σ vs).set j (some x)) H1 (Z ds i)) :
    Yl z (tLc (iList K tl) (gName j) tYes te vs) σ H (fun d => ∃ es, d = .list es ∧ ∃ ds, Rs ds ∧ es.length = ds.length ∧ ∀ j e, es[j]? = some e → Z ds j e) := fun H1 e a Q q => h H1 e a _ fun v d H2 e2 hd ⟨ds, hr, rs⟩ => by
  subst hr
  cases hd with
  | @lst a1 xs _ d1 d2 d3 d4 =>
    have a2 := a.up e2
    refine ⟨a1, rfl, ⟨xs, .inl (.inl d2)⟩, fun L hL => lc_list (K := K) (xs := xs) (Lc z H2 L (Z ds)) (lc_start hL) (fun i H3 _ w => .inl (.inl (w.ex.keep _ _ d1.1 d2))) (fun i x H3 hi w => ⟨hw x, ?_⟩) fun H3 w => ?_⟩
    · obtain ⟨d, g1, g2⟩ := d4.get hi
      have lt : i < xs.length := (List.getElem?_eq_some_iff.mp hi).1
      exact lc_turn a2 hL lt (Nat.le_trans d3 hz) w (he ds rs i x d L H2 H3 (e.trans e2) hL w.ex g1 ((g2.to (.av hL)).mono w.ex))
    · obtain ⟨es, g1, g2, g3⟩ := lc_end a2 hL w d3
      exact q _ _ H3 (e2.trans w.ex) g1 ⟨es, rfl, ds, rs, by rw [g2, d4.length], g3⟩
/-! ### written data -/
theorem yl_strK {x : Str} (h : (decide (x.length ≤ 30) && PyData.strOk x) = true) (hn : 30 ≤ z.n) : Yl z (tC (.str x)) σ H (· = .str x) := by
  rw [Bool.and_eq_true] at h
  exact yl_str ⟨Nat.le_trans (of_decide_eq_true h.1) hn, h.2⟩
theorem yi_neg {i : Int} (h : YI z te σ H (· = i)) : YI z (tUn (rU fun i => .int (-i)) te) σ H (· = -i) := fun H1 e a Q q => h H1 e a _ fun k H2 e2 hk => ⟨k, rfl, q _ H2 e2 (by rw [hk])⟩
theorem yl_cat1 (ha : Yl z ta σ H (· = .list ds)) (hb : Yl z tb σ H (· = .list es)) (hl : ds.length + es.length ≤ z.n) (hz : z.n ≤ sizeLine) : Yl z (tOp rCat ta tb) σ H (· = .list (ds ++ es)) :=
  (yl_cat (Ra := (· = ds)) (Rb := (· = es)) (ha.imp fun d e => ⟨ds, e, rfl⟩) (hb.imp fun d e => ⟨es, e, rfl⟩) (fun a b e f => by rw [e, f]; exact hl) hz).imp fun d ⟨l, h1, xs, ys, h2, h3, h4⟩ => by rw [h1, h2, h3, h4]
theorem yl_catT1 (ha : Yl z ta σ H (· = .tuple ds)) (hb : Yl z tb σ H (· = .tuple es)) (hl : ds.length + es.length ≤ z.n) (hz : z.n ≤ sizeLine) : Yl z (tOp (rCatA K) ta tb) σ H (· = .tuple (ds ++ es)) :=
  (yl_catT (Ra := (· = ds)) (Rb := (· = es)) (ha.imp fun d e => ⟨ds, e, rfl⟩) (hb.imp fun d e => ⟨es, e, rfl⟩) (fun a b e f => by rw [e, f]; exact hl) hz).imp fun d ⟨l, h1, xs, ys, h2, h3, h4⟩ => by rw [h1, h2, h3, h4]
theorem cut_to (ds : List PyData) (k : Nat) : cutD ds none (some (k : Int)) = ds.take k := by
  unfold cutD
  rw [HT.sIx_none, HT.sIx_nat, List.drop_zero, Nat.sub_zero]
  by_cases h : k ≤ ds.length
  · rw [Nat.min_eq_left h]
  · rw [Nat.min_eq_right (by omega), List.take_of_length_le (Nat.le_refl _), List.take_of_length_le (by omega)]
theorem cut_from (ds : List PyData) (k : Nat) : cutD ds (some (k : Int)) none = ds.drop k := by
  unfold cutD
  rw [HT.sIx_none, HT.sIx_nat]
  by_cases h : k ≤ ds.length
  · rw [Nat.min_eq_left h, List.take_of_length_le (by rw [List.length_drop]; omega)]
  · rw [Nat.min_eq_right (by omega), List.drop_of_length_le (Nat.le_refl _), List.drop_of_length_le (by omega), List.take_nil]
theorem yl_toL {k : Int} (h : Yl z ta σ H (· = .list ds)) (hi : YI z tb σ H (· = k)) (h0 : 0 ≤ k) : Yl z (tSl (rSlL K) ta tNoPart (tPart tb)) σ H (· = .list (ds.take k.toNat)) :=
  (yl_slL (Rs := (· = ds)) (h.imp fun d e => ⟨ds, e, rfl⟩) yo_none (yo_some hi)).imp fun d ⟨l, h1, xs, lo, hi, h2, h3, ⟨i, h4, h5⟩, h6⟩ => by
    obtain ⟨n, rfl⟩ : ∃ n : Nat, k = n := ⟨k.toNat, by omega⟩
    rw [h1, h6, h2, h3, h4, h5, cut_to]; rfl
theorem yl_toT {k : Int} (h : Yl z ta σ H (· = .tuple ds)) (hi : YI z tb σ H (· = k)) (h0 : 0 ≤ k) : Yl z (tSl (rSlA K) ta tNoPart (tPart tb)) σ H (· = .tuple (ds.take k.toNat)) :=
  (yl_slT (Rs := (· = ds)) (h.imp fun d e => ⟨ds, e, rfl⟩) yo_none (yo_some hi)).imp fun d ⟨l, h1, xs, lo, hi, h2, h3, ⟨i, h4, h5⟩, h6⟩ => by
    obtain ⟨n, rfl⟩ : ∃ n : Nat, k = n := ⟨k.toNat, by omega⟩
    rw [h1, h6, h2, h3, h4, h5, cut_to]; rfl
theorem yl_fromT {k : Int} (h : Yl z ta σ H (· = .tuple ds)) (hi : YI z tb σ H (· = k)) (h0 : 0 ≤ k) : Yl z (tSl (rSlA K) ta (tPart tb) tNoPart) σ H (· = .tuple (ds.drop k.toNat)) :=
  (yl_slT (Rs := (· = ds)) (h.imp fun d e => ⟨ds, e, rfl⟩) (yo_some hi) yo_none).imp fun d ⟨l, h1, xs, lo, hi, h2, ⟨i, h4, h5⟩, h3, h6⟩ => by
    obtain ⟨n, rfl⟩ : ∃ n : Nat, k = n := ⟨k.toNat, by omega⟩
    rw [h1, h6, h2, h3, h4, h5, cut_from]; rfl
/-- text + text -/
theorem yl_addS {x y : Str} (ha : Yl z ta σ H (· = .str x)) (hb : YB z tb σ H (fun _ => False) ∨ ∀ H1, ExB z.p H H1 → ∀ Q : VK, Q (.str y) H1 → tb σ H1 Q) (hl : (x ++ y).length ≤ z.n ∧ PyData.strOk (x ++ y) = true) (hz : x.length + y.length ≤ sizeLine) :
    Yl z (tOp (fun x y H Q => ∃ i j : Str, x = .str i ∧ y = .str j ∧ i.length + j.length ≤ sizeLine ∧ Q (.str (i ++ j)) H) ta tb) σ H (· = .str (x ++ y)) := fun H1 e a Q q => ha H1 e a _ fun v d H2 e2 hd hr => by
  subst hr
  cases hd
  rcases hb with hb | hb
  · exact hb H2 (e.trans e2) (a.up e2) _ fun _ _ _ h => h.elim
  · exact hb H2 (e.trans e2) _ ⟨x, y, rfl, rfl, hz, q _ _ H2 e2 (.str _ hl) rfl⟩
/-- isinstance(x, (tuple, list)) -/
theorem yb_isiT2 (h : Yl z ta σ H (· = d)) : YB z (tCB (rIsiT K) (tCons ta (tCons (tTup (tCons (tC (.ty "tuple")) (tCons (tC (.ty "list")) tNil))) tNil))) σ H (· = (isT d || isL d)) := fun H1 e a Q q => h H1 e a _ fun v d' H2 e2 hd hr => by
  subst hr
  refine ⟨by show 2 ≤ sizeLine; decide, fun t nt => ⟨v, t, _, _, _, isT d' || isL d', rfl, upd_same, .cons (.ty "tuple") (.cons (.ty "list") .nil), (hd.mono (.new nt)).ty, ?_, q _ _ (e2.trans (.new nt)) rfl⟩⟩
  have k1 := kit_ty (K := K) (isi_ok okT_tuple d')
  have k2 := kit_ty (K := K) (isi_ok okT_list d')
  rw [isi_tuple] at k1
  rw [isi_list] at k2
  refine kitAny_cons k1 (fun e => kitAny_cons k2 (fun e' => by rw [e, e']; exact kitAny_nil) fun e' => by rw [e']; simp) fun e => by rw [e]; rfl
def itemsD : PyData → List PyData
  | .list ds => ds
  | .tuple ds => ds
  | _ => []
theorem yi_lenQ (h : Yl z ta σ H (· = d)) (hq : (isT d || isL d) = true) : YI z (tCB (fun xs H Q => ∃ p ys, xs = [.ref p] ∧ (SqL K H p ys ∨ SqT K H p ys) ∧ Q (.int (ys.length : Int)) H) (tCons ta tNil)) σ H (· = ((itemsD d).length : Int)) := by
  cases d with
  | list ds => exact yi_lenL h
  | tuple ds => exact yi_lenT h
  | _ => cases hq
theorem yb_eqB {a b : Bool} (ha : YB z ta σ H (· = a)) (hb : YB z tb σ H (· = b)) : YB z (tOp rEq ta tb) σ H (· = decide (a = b)) := fun H1 e al Q q =>
  ha H1 e al _ fun i H2 e2 hi => hb H2 (e.trans e2) (al.up e2) _ fun j H3 e3 hj => ⟨rfl, q _ H3 (e2.trans e3) (by
    rw [hi, hj]
    by_cases h : a = b
    · rw [decide_eq_true h, h]; simp
    · rw [decide_eq_false h, decide_eq_false fun q => h (V.bl.inj q)])⟩
theorem yl_fromL {k : Int} (h : Yl z ta σ H (· = .list ds)) (hi : YI z tb σ H (· = k)) (h0 : 0 ≤ k) : Yl z (tSl (rSlL K) ta (tPart tb) tNoPart) σ H (· = .list (ds.drop k.toNat)) :=
  (yl_slL (Rs := (· = ds)) (h.imp fun d e => ⟨ds, e, rfl⟩) (yo_some hi) yo_none).imp fun d ⟨l, h1, xs, lo, hi, h2, ⟨i, h4, h5⟩, h3, h6⟩ => by
    obtain ⟨n, rfl⟩ : ∃ n : Nat, k = n := ⟨k.toNat, by omega⟩
    rw [h1, h6, h2, h3, h4, h5, cut_from]; rfl
/-- an item of a list of ints, of a written place -/
theorem yi_ixI {xs : List Int} {k : Nat} (h : Yl z ta σ H (· = .list (xs.map PyData.int))) (hk : k < xs.length) : YI z (tOp (rIxL K) ta (tC (.int (k : Int)))) σ H (· = xs[k]) :=
  yi_of1 (yl_ixL (Rs := (· = xs.map PyData.int)) (h.imp fun d e => ⟨_, e, rfl⟩) yi_c fun ds i e1 e2 => ⟨k, _, e2, by rw [e1, List.getElem?_map, List.getElem?_eq_getElem hk]; rfl, rfl⟩)
/-! ### some data, of so many parts -/
theorem Yl.any (h : Yl z te σ H R) : Yl z te σ H (fun _ => True) := h.imp fun _ _ => trivial
theorem ya0 : YA z tNil σ H (fun ds => ds.length = 0) := fun H1 _ _ Q q => q [] [] H1 (.refl _ H1) .nil rfl
theorem ya1 {tr : TA} {k : Nat} (h : Yl z ta σ H (fun _ => True)) (hr : YA z tr σ H (fun ds => ds.length = k)) : YA z (tCons ta tr) σ H (fun ds => ds.length = k + 1) := fun H1 e a Q q =>
  h H1 e a _ fun v d' H2 e2 hd r => hr H2 (e.trans e2) (a.up e2) _ fun vs ds' H3 e3 hs rs => q _ _ H3 (e2.trans e3) (.cons (hd.mono e3) hs) (congrArg (· + 1) rs)
theorem any_lst {t : TA} {k : Nat} (h : YA z t σ H (fun ds => ds.length = k)) (hk : k ≤ z.n) (hz : z.n ≤ sizeLine) : Yl z (tLst t) σ H (fun d => ∃ ds, d = .list ds ∧ ds.length = k) := (yl_lst h (fun ds e => by rw [e]; exact hk) hz).imp fun d ⟨ds, e, f⟩ => ⟨ds, f, e⟩
theorem any_tup {t : TA} {k : Nat} (h : YA z t σ H (fun ds => ds.length = k)) (hk : k ≤ z.n) (hz : z.n ≤ sizeLine) : Yl z (tTup t) σ H (fun d => ∃ ds, d = .tuple ds ∧ ds.length = k) := (yl_tup h (fun ds e => by rw [e]; exact hk) hz).imp fun d ⟨ds, e, f⟩ => ⟨ds, f, e⟩
theorem any_cat {j k : Nat} (ha : Yl z ta σ H (fun d => ∃ ds, d = .list ds ∧ ds.length = j)) (hb : Yl z tb σ H (fun d => ∃ ds, d = .list ds ∧ ds.length = k)) (hl : j + k ≤ z.n) (hz : z.n ≤ sizeLine) : Yl z (tOp rCat ta tb) σ H (fun d => ∃ ds, d = .list ds ∧ ds.length = j + k) :=
  (yl_cat ha hb (fun a b e f => by rw [e, f]; exact hl) hz).imp fun d ⟨l, h1, xs, ys, h2, h3, h4⟩ => ⟨l, h1, by rw [h2, List.length_append, h3, h4]⟩
theorem any_catLe {j k : Nat} (ha : Yl z ta σ H (fun d => ∃ ds, d = .list ds ∧ ds.length ≤ j)) (hb : Yl z tb σ H (fun d => ∃ ds, d = .list ds ∧ ds.length ≤ k)) (hl : j + k ≤ z.n) (hz : z.n ≤ sizeLine) : Yl z (tOp rCat ta tb) σ H (fun d => ∃ ds, d = .list ds ∧ ds.length ≤ j + k) :=
  (yl_cat ha hb (fun a b (e : a.length ≤ j) (f : b.length ≤ k) => by omega) hz).imp fun d ⟨l, h1, xs, ys, h2, (h3 : xs.length ≤ j), (h4 : ys.length ≤ k)⟩ => ⟨l, h1, by rw [h2, List.length_append]; omega⟩
end
end Pb
namespace Pb
open PySem L2
section
variable {z : Fz} {n m : Nat} {σ : L2.St} {H H' : Hp} {ta tb tc te : TE} {t u : TT} {R S : PyData → Prop} {A B C : Int → Prop} {P P' : Bool → Prop} {K : PySem.W.Frag} {D : Ends} {tu tw tz : TS} {d e : PyData} {ds es : List PyData}
/-! ### for over data -/
theorem y_forT {Rs : List PyData → Prop} {tl : TE} {j : Nat} (al : AlS z H) (h : Yl z tl σ H (fun d => ∃ ds, d = .tuple ds ∧ Rs ds)) (Pv : List PyData → Nat → L2.St → Hp → Prop) (h0 : ∀ ds H1, Rs ds → ExB z.p H H1 → Pv ds 0 σ H1)
    (hs : ∀ ds i x d σ' H1 H', Rs ds → ExB z.p H H1 → ExB z.p H1 H' → Pv ds i σ' H' → ds[i]? = some d → Dt z H' x d → tu { D with nx := fun σ2 H2 => ExB z.p H1 H2 ∧ Pv ds (i + 1) σ2 H2, ct := fun σ2 H2 => ExB z.p H1 H2 ∧ Pv ds (i + 1) σ2 H2, bk := D.nx } (σ'.set j (some x)) H')
    (hd : ∀ ds σ' H1 H', Rs ds → ExB z.p H H1 → ExB z.p H1 H' → Pv ds ds.length σ' H' → D.nx σ' H') : tFor (iTup K tl) (gName j) tu D σ H :=
  h H (.refl _ H) al _ fun v d H1 e1 hdd ⟨ds, hr, rs⟩ => by
    subst hr
    cases hdd with
    | @tup a1 xs _ d1 d2 d3 d4 =>
      refine ⟨a1, rfl, ⟨xs, .inl (.inl d2)⟩, for_tup (K := K) (xs := xs) (fun i σ' H' => ExB z.p H1 H' ∧ Pv ds i σ' H') ⟨.refl _ H1, h0 ds H1 rs e1⟩ (fun i σ' H' _ w => .inl (.inl (w.1.keep _ _ d1.1 d2))) (fun i x σ' H' hi w => ?_) fun σ' H' w => ?_⟩
      · obtain ⟨d, g1, g2⟩ := d4.get hi
        exact hs ds i x d σ' H1 H' rs e1 w.1 w.2 g1 (g2.mono w.1)
      · have w2 := w.2
        rw [d4.length] at w2
        exact hd ds σ' H1 H' rs e1 w.1 w2
theorem y_forL {Rs : List PyData → Prop} {tl : TE} {j : Nat} (al : AlS z H) (h : Yl z tl σ H (fun d => ∃ ds, d = .list ds ∧ Rs ds)) (Pv : List PyData → Nat → L2.St → Hp → Prop) (h0 : ∀ ds H1, Rs ds → ExB z.p H H1 → Pv ds 0 σ H1)
    (hs : ∀ ds i x d σ' H1 H', Rs ds → ExB z.p H H1 → ExB z.p H1 H' → Pv ds i σ' H' → ds[i]? = some d → Dt z H' x d → tu { D with nx := fun σ2 H2 => ExB z.p H1 H2 ∧ Pv ds (i + 1) σ2 H2, ct := fun σ2 H2 => ExB z.p H1 H2 ∧ Pv ds (i + 1) σ2 H2, bk := D.nx } (σ'.set j (some x)) H')
    (hd : ∀ ds σ' H1 H', Rs ds → ExB z.p H H1 → ExB z.p H1 H' → Pv ds ds.length σ' H' → D.nx σ' H') : tFor (iList K tl) (gName j) tu D σ H :=
  h H (.refl _ H) al _ fun v d H1 e1 hdd ⟨ds, hr, rs⟩ => by
    subst hr
    cases hdd with
    | @lst a1 xs _ d1 d2 d3 d4 =>
      refine ⟨a1, rfl, ⟨xs, .inl (.inl d2)⟩, for_list (K := K) (xs := xs) (fun i σ' H' => ExB z.p H1 H' ∧ Pv ds i σ' H') ⟨.refl _ H1, h0 ds H1 rs e1⟩ (fun i σ' H' _ w => .inl (.inl (w.1.keep _ _ d1.1 d2))) (fun i x σ' H' hi w => ?_) fun σ' H' w => ?_⟩
      · obtain ⟨d, g1, g2⟩ := d4.get hi
        exact hs ds i x d σ' H1 H' rs e1 w.1 w.2 g1 (g2.mono w.1)
      · have w2 := w.2
        rw [d4.length] at w2
        exact hd ds σ' H1 H' rs e1 w.1 w2
/-! ### a bag's parts -/
theorem yl_bag0 {i : Nat} {q : Addr} (h : σ[i]? = some (some (.ref z.p))) (hq : BagQ z.p q H) (hS : q ∉ z.S) (hn : 400 ≤ z.n) : Yl z (tOp (rIxL K) (tVar i) (tC (.int 0))) σ H (fun d => ∃ ds, d = .list ds ∧ ∃ xs : List Int, ds = xs.map PyData.int ∧ xs.length = 400) := fun H1 e a Q k => by
  obtain ⟨kk, xs, h1, h2, h3, h4, h5⟩ := e.bag q hq
  exact ⟨_, h, z.p, _, 0, .ref q, rfl, rfl, .inl (.inl h4), rfl, k _ _ H1 (.refl _ H1) (.lst ⟨h1, hS⟩ h5 (by rw [List.length_map, h3]; exact hn) (.ints xs)) ⟨_, rfl, xs, rfl, h3⟩⟩
theorem yi_bag1 {i : Nat} {q : Addr} (h : σ[i]? = some (some (.ref z.p))) (hq : BagQ z.p q H) : YI z (tOp (rIxL K) (tVar i) (tC (.int 1))) σ H (fun k => 0 ≤ k) := fun H1 e a Q k => by
  obtain ⟨kk, xs, h1, h2, h3, h4, h5⟩ := e.bag q hq
  exact ⟨_, h, z.p, _, 1, .int kk, rfl, rfl, .inl (.inl h4), rfl, k _ H1 (.refl _ H1) h2⟩
/-- bag[0][..:] -/
theorem yl_bagcut {i : Nat} {q : Addr} {ti : TE} (h : σ[i]? = some (some (.ref z.p))) (hq : BagQ z.p q H) (hS : q ∉ z.S) (hn : 400 ≤ z.n) (hi : YI z ti σ H (fun k => 0 ≤ k ∧ k ≤ 390)) :
    Yl z (tSl (rSlL K) (tOp (rIxL K) (tVar i) (tC (.int 0))) (tPart ti) tNoPart) σ H (fun d => ∃ xs : List Int, d = .list (xs.map PyData.int) ∧ 10 ≤ xs.length ∧ xs.length ≤ 400) :=
  Yl.imp (yl_slL (yl_bag0 h hq hS hn) (yo_some hi) yo_none) fun d ⟨ds, h1, ys, lo, hi, ⟨xs, h2, h3⟩, ⟨k, h4, h5⟩, h6, h7⟩ => by
    obtain ⟨k', rfl⟩ : ∃ n : Nat, k = n := ⟨k.toNat, by omega⟩
    refine ⟨xs.drop k', ?_, by rw [List.length_drop]; omega, by rw [List.length_drop]; omega⟩
    rw [h1, h7, h2, h4, h6, cut_from, List.map_drop]
theorem yi_mod {k : Int} (h : YI z te σ H A) (hk : 0 < k) : YI z (tOp (rI (fun _ j => 0 < j) fun i j => .int (i % j)) te (tC (.int k))) σ H (fun r => 0 ≤ r ∧ r < k) :=
  YI.imp (yi_op h yi_c fun i j _ hj => by rw [hj]; exact hk) fun r ⟨i, j, _, hj, e⟩ => by
    rw [e, hj]
    exact ⟨Int.emod_nonneg _ (by omega), Int.emod_lt_of_pos _ hk⟩
/-- repr(a) != repr(b), of one truth -/
def rReprB : List V → Hp → VK → Prop := fun xs H Q => ∃ b : Bool, xs = [.bl b] ∧ Q (.str (if b then "True" else "False")) H
theorem yt_reprs {b : Bool} (ha : YB z ta σ H (· = b)) (hb : YB z tb σ H (· = b)) : YT z (tTest (tOp rNe (tCB rReprB (tCons ta tNil)) (tCB rReprB (tCons tb tNil)))) σ H (· = false) := fun H1 e a Q q =>
  ha H1 e a _ fun x H2 e2 hx => ⟨x, rfl, hb H2 (e.trans e2) (a.up e2) _ fun y H3 e3 hy => ⟨y, rfl, rfl, _, rfl, q _ H3 (e2.trans e3) (by rw [hx, hy]; simp)⟩⟩
theorem yb_isB {a b : Bool} (h : YB z ta σ H (· = a)) : YB z (tOp rIsB ta (tC (.bl b))) σ H (· = decide (a = b)) := fun H1 e al Q q => h H1 e al _ fun x H2 e2 hx => ⟨x, b, rfl, rfl, q _ H2 e2 (by rw [hx])⟩
end
end Pb
/-! sorted(..) of data -/
namespace Pb
open PySem L2
open PySem.W (EachIs AllAlike Sortable dataLe)
abbrev Vd := V × PyData
def sortB (bs : List Vd) : List Vd := bs.mergeSort (dataLe false fun b => b.2)
theorem each_of {us : List Value} : ∀ {bs : List Vd}, Vals (bs.map (·.1)) us → EachIs (fun v (b : Vd) => RelV b.1 v) us bs := by
  intro bs
  induction bs generalizing us with
  | nil => intro h; cases h; exact .nil
  | cons b r ih =>
    intro h
    cases h with
    | cons a t => exact .cons a (ih t)
theorem of_each {us : List Value} : ∀ {bs : List Vd}, EachIs (fun v (b : Vd) => RelV b.1 v) us bs → Vals (bs.map (·.1)) us := by
  intro bs
  induction bs generalizing us with
  | nil => intro h; cases h; exact .nil
  | cons b r ih =>
    intro h
    cases h with
    | cons a t => exact .cons a (ih t)
theorem each_and {α β : Type} {R S : α → β → Prop} : ∀ {as : List α} {bs : List β}, EachIs R as bs → (∀ a b, b ∈ bs → R a b → S a b) → EachIs S as bs
  | _, _, .nil, _ => .nil
  | _, _, .cons h t, f => .cons (f _ _ List.mem_cons_self h) (each_and t fun a b hb => f a b (List.mem_cons_of_mem _ hb))
section
variable {X : Cx}
def rSortD (K : PySem.W.Frag) : List V → Hp → VK → Prop := fun vs H Q => ∃ (a : Addr) (bs : List Vd), vs = [.ref a] ∧ SqL K H a (bs.map (·.1)) ∧ (∀ b ∈ bs, Dp K H b.1 b.2) ∧ AllAlike (bs.map (·.2)) ∧ Sortable (bs.map (·.2)) ∧ (∀ b ∈ bs, b.2.depth ≤ 10) ∧
  ∀ p, H p = none → Q (.ref p) (upd H p (.lst ((sortB bs).map (·.1))))
theorem cr_sortedD (hu : X.A.units + 64 < cLine) : CallR X (.builtin "sorted") (rSortD X.K) := by
  intro pins s σ H vs us Q I r h
  obtain ⟨a, bs, rfl, hs, hd, al, so, dp, q⟩ := h
  obtain ⟨its, rv, hl, hz⟩ := I.list hs
  obtain ⟨u, rfl, e1⟩ := vals1 r
  cases (show u = Value.ref a from e1)
  have er : EachIs (fun v (b : Vd) => ∃ as, Reads s.heap v b.2 as) its bs := each_and (each_of rv) fun v b hb hv => Dp.reads I b.2 b.1 v (hd b hb) hv
  rw [List.length_map] at hz
  refine PySem.W.sorted_data (R := fun v (b : Vd) => RelV b.1 v) (enc := fun b : Vd => b.2) hl.isList (each_of rv) er al so hz (fun b hb => by have := dp b hb; omega) fun out h1 h2 => ?_
  obtain ⟨ep, he⟩ := PyProof.Rows.sortedAll_at s.heap its out.toArray
  have hv : Vals ((sortB bs).map (·.1)) out := of_each h2
  have hlen : ((sortB bs).map (·.1)).length ≤ sizeLine := by rw [hv.length, h1]; exact hz
  exact ⟨.ref _, upd H (s.heap.objs.size + 1) (.lst ((sortB bs).map (·.1))), I.laid (t' := s.toks) (fun _ _ => PyProof.Rows.sortedAll_old) (Nat.le_succ _) ⟨hlen, out, ep, hv, he⟩, rfl, q _ (I.hok.fresh (Nat.le_succ _))⟩
end
/-! sorted of data, for data in the frame -/
section
variable {z : Fz} {σ : L2.St} {H : Hp} {ta : TE} {K : PySem.W.Frag} {ds : List PyData}
theorem dt_zip : ∀ {vs : List V} {ds : List PyData}, DtAll z H vs ds → ∃ bs : List Vd, bs.map (·.1) = vs ∧ bs.map (·.2) = ds ∧ ∀ b ∈ bs, Dt z H b.1 b.2
  | _, _, .nil => ⟨[], rfl, rfl, fun _ h => nomatch h⟩
  | _, _, .cons h t => by
    obtain ⟨bs, h1, h2, h3⟩ := dt_zip t
    refine ⟨(_, _) :: bs, by rw [List.map_cons, h1], by rw [List.map_cons, h2], fun b hb => ?_⟩
    rcases List.mem_cons.mp hb with e | e
    · rw [e]; exact h
    · exact h3 b e
theorem zip_dt : ∀ {bs : List Vd}, (∀ b ∈ bs, Dt z H b.1 b.2) → DtAll z H (bs.map (·.1)) (bs.map (·.2))
  | [], _ => .nil
  | b :: bs, h => .cons (h b List.mem_cons_self) (zip_dt fun c hc => h c (List.mem_cons_of_mem _ hc))
def sortD (ds : List PyData) : List PyData := ds.mergeSort (dataLe false id)
theorem sortB_snd (bs : List Vd) : (sortB bs).map (·.2) = sortD (bs.map (·.2)) := by
  unfold sortB sortD
  exact PySem.W.sort_maps (fun b : Vd => b.2) fun a _ b _ => rfl
theorem yl_sorted {Rs : List PyData → Prop} (h : Yl z ta σ H (fun d => ∃ ds, d = .list ds ∧ AllAlike ds ∧ Sortable ds ∧ (∀ d ∈ ds, d.depth ≤ 10) ∧ Rs ds)) : Yl z (tCB (rSortD K) (tCons ta tNil)) σ H (fun d => ∃ ds, d = .list (sortD ds) ∧ Rs ds) := fun H1 e a Q q => h H1 e a _ fun v d H2 e2 hd ⟨ds, hr, al, so, dp, rs⟩ => by
  subst hr
  cases hd with
  | lst d1 d2 d3 d4 =>
    obtain ⟨bs, h1, h2, h3⟩ := dt_zip d4
    subst h1 h2
    refine ⟨_, bs, rfl, .inl (.inl d2), fun b hb => Dt.dp' _ _ (h3 b hb), al, so, fun b hb => dp _ (List.mem_map.mpr ⟨b, hb, rfl⟩), fun p hp => ?_⟩
    have hm : ∀ b ∈ sortB bs, Dt z H2 b.1 b.2 := fun b hb => h3 b ((List.mergeSort_perm bs _).mem_iff.mp hb)
    refine q _ _ _ (e2.trans (.new hp)) (.lst ((a.up e2).ne hp) upd_same ?_ ((zip_dt hm).mono (.new hp))) ⟨_, by rw [sortB_snd], rs⟩
    rw [List.length_map] at d3 ⊢
    unfold sortB
    rw [List.length_mergeSort]
    exact d3
end
end Pb
/-! enumerate over a tuple -/
namespace Pb
open PySem PySem.Spec PyProof.Rows L2
theorem enum_new1 {v : Value} {o : Obj} {B0 : Heap → Prop} (B : Begins v o B0) :
    Meets (Builtin.«enumerate.__new__» ⟨[.type "enumerate", v], []⟩) (fun _ R s => B0 s.heap ∧ R (.ok (.ret (.ref (s.heap.push o).objs.size))) { s with heap := (s.heap.push o).push { cls := .type "enumerate", data := .fields #[.none, .bool false, .ref s.heap.objs.size, rawInt 0, .none, .none] } }) :=
  .of_wp fun prog w A R s h => by
    obtain ⟨hp, g, d, tk, os⟩ := s; obtain ⟨h1, h⟩ := h; have hsub := sub_enumerate
    have goes : ∀ {A' : Around} {E : Value → Shared → Prop} {Q : Value → Shared → Prop}, Q (.ref hp.objs.size) ⟨hp.push o, g, d, tk, os⟩ → wpAny (model prog w) A' (pyIter v) Q E ⟨hp, g, d, tk, os⟩ := fun q => B.iter prog w _ _ ⟨hp, g, d, tk, os⟩ _ h1 q
    wp_walk using goes; refine wpAny_stack_any fun st => wpAny_pure ?_
    split
    · rename_i c _ _ _ _ _
      cases (c == Value.type "enumerate") <;> (wp_walk using goes; exact ⟨_, rfl, h⟩)
    · wp_walk using goes; exact ⟨_, rfl, h⟩
section
variable {prog : Program} {w : World} {A : Around} {E : Value → Shared → Prop} {s : Shared}
theorem enum_call1 {v : Value} {o : Obj} {B0 : Heap → Prop} {Q : Value → Shared → Prop} (B : Begins v o B0) (h1 : B0 s.heap)
    (h : ∀ h', IsEnum h' (s.heap.objs.size + 1) s.heap.objs.size 0 .none → h'.get? s.heap.objs.size = some o → (∀ b o, s.heap.get? b = some o → h'.get? b = some o) → Q (.ref (s.heap.objs.size + 1)) { s with heap := h' }) : wpAny (model prog w) A (call (.type "enumerate") [v]) Q E s := by
  refine callType_new F.called_enumerate (by decide) (F.typeCall_enumerate_1 _) (F.newCall_enumerate_1 _) (fun obj => F.args_object_init_2 obj _) F.entry_enumerate_new (enum_new1 B) ⟨h1, ?_⟩
  have hz : (s.heap.push o).objs.size = s.heap.objs.size + 1 := Heap.size_push ..
  show _ ∧ _; rw [hz]
  have he : IsEnum ((s.heap.push o).push { cls := .type "enumerate", data := .fields #[.none, .bool false, .ref s.heap.objs.size, rawInt 0, .none, .none] }) (s.heap.objs.size + 1) s.heap.objs.size 0 .none := by
    have q := Heap.get?_push_size (s.heap.push o) (o := { cls := .type "enumerate", data := .fields #[.none, .bool false, .ref s.heap.objs.size, rawInt 0, .none, .none] }) rfl
    rw [hz] at q; exact q
  exact ⟨⟨_, he, rfl⟩, h _ he (Heap.get?_push_of_some _ (Heap.get?_push_size _ B.free)) fun b o x => Heap.get?_push_of_some _ (Heap.get?_push_of_some _ x)⟩
theorem enum_over {e it t : Addr} {i : Nat} {items : Array Value} {old : Value} {Q : Option Value → Shared → Prop} (hh : A.handled = none) (he : IsEnum s.heap e it i old) (hit : s.heap.IsTupleIter it t i) (ht : s.heap.IsTuple t items) (hx : items[i]? = none)
    (hQ : ∀ h', Heap.ExtBut it s.heap h' → Q none { s with heap := h' }) : wpAny (model prog w) A (pyNext (.ref e)) Q E s := by
  have hT : s.TypeIs (.ref e) "enumerate" := ⟨_, he, rfl⟩
  have hh1 : A.in1.handled = none := by simp [hh]
  unfold pyNext; refine wpAny_bind (wpAny_attempt (wpAny_callSpecial?_slot (name := Str.ofString "__next__") hT F.slot_enumerate_next (wpAny_call_entry F.slot_enumerate_next hT F.entry_enumerate_next ?_ (F.args_enumerate_next_1 _))))
  show wpAny _ _ (field (.ref e) 2 >>= _) _ _ _; refine wpAny_bind (wpAny_field he rfl (x := .ref it) rfl ?_)
  refine wpAny_bind (wpAny_nextOf_tuple_end hh1 hit ht hx fun h' x he' hx' => ?_)
  obtain ⟨o, ho, hc⟩ := hx'
  refine wpAny_bind (wpAny_isInstance (T := "StopIteration") (b := true) ⟨o, ho, hc⟩ isSubtype_stop ?_); exact wpAny_pure (hQ _ he')
end
def IteT (K : PySem.W.Frag) (a : Addr) : It :=
  ⟨fun i H => ∃ (xs : List V) (x : V), SqT K H a xs ∧ xs[i]? = some x, fun i H v H' => ∃ T x, v = .ref T ∧ H T = none ∧ H' = upd H T (.tup [.int (i : Nat), x]) ∧ ∀ xs, SqT K H a xs → xs[i]? = some x, fun i H => ∃ xs : List V, SqT K H a xs ∧ xs.length ≤ i⟩
theorem tup_inj {X : Cx} {pins : List (Addr × Obj)} {σ : L2.St} {H : Hp} {s : Shared} {a : Addr} {xs ys : List V} (I : Inv X pins σ H s) (h1 : SqT X.K H a xs) (h2 : SqT X.K H a ys) : xs = ys := I.tuple_inj h1 h2
theorem turn_enumT {P : Program} {w : World} {K : PySem.W.Frag} {elts : List Expr} {kk : Nat} {tpos : Pos} (a e it : Addr) :
    Turn P w K (.Tuple elts kk tpos) (IteT K a) [e, it] e (fun i h => (∃ old, IsEnum h e it ((i : Nat) : Int) old) ∧ h.IsTupleIter it a i ∧ e ≠ it) where
  mem := List.mem_cons_self
  obj := fun i h ⟨⟨old, he⟩, ⟨o, ho, hc, hd⟩, _⟩ b hb => by
    rcases List.mem_cons.mp hb with q | q
    · rw [q]; exact ⟨_, he, fun v q => nomatch q⟩
    · rw [List.mem_singleton.mp q]; exact ⟨o, ho, fun v q => by rw [hd] at q; cases q⟩
  keep := fun i h h' ⟨⟨old, he⟩, hi, hne⟩ k => ⟨⟨old, k e (by simp) _ he⟩, hi.at fun o q => k it (by simp) o q, hne⟩
  item := by
    intro X hP hw hK hc i pins s σ H E I hf st hg
    subst hP hw hK
    obtain ⟨⟨old, he⟩, hit, hne⟩ := st
    obtain ⟨xs, x, hq, hx⟩ := hg
    obtain ⟨its, rv, p, hz⟩ := I.tuple hq
    obtain ⟨u, hu, ru⟩ := rv.get hx
    have hel : e < s.heap.objs.size := Heap.lt_size he
    have hil : it < s.heap.objs.size := by obtain ⟨_, q, _⟩ := hit; exact Heap.lt_size q
    have hai : a ≠ it := fun q => by
      obtain ⟨o1, g1, g2, _⟩ := p
      obtain ⟨o2, f1, f2, _⟩ := hit
      rw [q, f1] at g1
      cases g1
      rw [f2] at g2
      exact absurd (Value.type.inj g2) (by decide)
    have hh2 : X.A.in1.handled = none := by simp [I.ok.hd hc]
    have hiu : i < its.toArray.size := by rw [List.size_toArray]; exact (List.getElem?_eq_some_iff.mp hu).1
    refine wpAny_pyNext_enum_itemC (Draws.tuple hh2 it a hai its.toArray) he ⟨hit, p⟩ hiu hne (by simp only [List.mem_cons, List.not_mem_nil, or_false, not_or]; exact ⟨hne, fun q => by
      obtain ⟨o1, g1, g2, _⟩ := p
      have g3 := he
      unfold IsEnum at g3
      rw [q, g1] at g3
      cases g3
      exact absurd (Value.type.inj g2) (by decide)⟩) fun y h' tk hy ho hit' hT hsz hk => ?_
    have ey : y = u := by
      rw [List.getElem?_toArray, hu] at hy
      exact (Option.some.inj hy).symm
    subst ey
    refine ⟨_, rfl, wpAny_letOwnedTupleGo_enum (s := { s with heap := h', toks := tk + 1 }) ho fun h'' he' sb => ?_⟩
    have hT2 : h''.get? s.heap.objs.size = some { cls := .type "tuple", data := .seq #[.int i tk, y] } := (sb.2 _ (Nat.ne_of_gt hel)).trans hT
    have new : ObjOk X.prog X.w (upd H s.heap.objs.size (.tup [.int (i : Nat), x])) h'' s.heap.objs.size (.tup [.int (i : Nat), x]) := ⟨by show 2 ≤ sizeLine; decide, [.int i tk, y], .cons ⟨_, rfl⟩ (.cons ru .nil), ⟨_, hT2, rfl, _, rfl⟩⟩
    have I1 : Inv X pins σ (upd H s.heap.objs.size (.tup [.int (i : Nat), x])) { s with heap := h'', toks := tk + 1 } := I.turnedNew (ch := [e, it]) (fun b ob hb q => (sb.2 b (fun z => hb (by simp [z]))).trans (hk b ob (fun z => hb (by simp [z])) (fun z => hb (by simp [z])) q)) hf (Nat.le_refl _) new
    refine ⟨.ref s.heap.objs.size, _, I1, rfl, ⟨_, x, rfl, I.hok.fresh (Nat.le_refl _), rfl, fun ys hy => by rw [tup_inj I hy hq]; exact hx⟩, ⟨⟨y, ?_⟩, hit'.1.at fun o q => (sb.2 it (Ne.symm hne)).trans q, hne⟩, fun b hb => ?_⟩
    · have e1 : ((i + 1 : Nat) : Int) = (i : Int) + 1 := by omega
      rw [e1]; exact he'
    · have hb' : b < s.heap.objs.size := by
        rcases List.mem_cons.mp hb with z | z
        · rw [z]; exact hel
        · rw [List.mem_singleton.mp z]; exact hil
      rw [upd_ne (Nat.ne_of_lt hb')]; exact (hf b hb).1
  done := by
    intro X hP hw hK hc i pins s σ H E I hf st hg
    subst hP hw hK
    obtain ⟨⟨old, he⟩, hit, hne⟩ := st
    obtain ⟨xs, hq, hx⟩ := hg
    obtain ⟨its, rv, p, hz⟩ := I.tuple hq
    obtain ⟨f0, f1, f2, f3, f4, f5⟩ := hf it (by simp)
    have hl := rv.length
    exact enum_over (I.ok.hd hc) he hit p (by simp; omega) fun h' eb => ⟨rfl, I.turned (t' := s.toks) (fun b o hb q => eb b o hb q) f0 f1 f3 f4 f5⟩
  self := fun A i s Q E ⟨⟨_, he⟩, _⟩ h => wpAny_pyIter_enum he h
def iEnumT (K : PySem.W.Frag) (ta : TA) : TI := fun σ H R => ta σ H fun vs H1 => ∃ a xs, vs = [.ref a] ∧ SqT K H1 a xs ∧ R (IteT K a) H1
theorem pi_enumT {X : Cx} {e : Expr} {ta : TA} {p pos tpos : Pos} {elts : List Expr} {kk : Nat} (hg : Gl X "enumerate") (hm : X.mg "enumerate" = none) (ha : PA X [e] ta) (hs : starEach [e] X.env = [(false, eval e X.env)] := by rfl) : PI X (.Tuple elts kk tpos) (.Call (.Name "enumerate" p) [e] [] pos) (iEnumT X.K ta) := by
  refine ⟨fun pins s σ H R I h => ?_⟩
  refine Call_ (ld_blt I hg hm boot_enumerate (PyProof.Rows.callWith_type1 (thn (ha.run pos pins s σ H _ I h) fun us s1 ⟨vs, H1, I1, r1, q1⟩ => ?_) hs rfl))
  obtain ⟨a, xs, rfl, hq, q⟩ := q1
  obtain ⟨u, rfl, r2⟩ := vals1 r1
  cases (show u = Value.ref a from r2)
  obtain ⟨its, rv, p', hz⟩ := I1.tuple hq
  refine enum_call1 (begins_tuple a its.toArray) p' fun h' he hit hk => wpAny_pyIter_enum he ?_
  have I2 : Inv X pins σ H1 { s1 with heap := h' } := I1.kept (t' := s1.toks) hk
  refine ⟨s1.heap.objs.size + 1, [s1.heap.objs.size + 1, s1.heap.objs.size], _, _, H1, rfl, I2, turn_enumT a (s1.heap.objs.size + 1) s1.heap.objs.size, ⟨⟨.none, he⟩, ⟨_, hit, rfl, rfl⟩, Nat.succ_ne_self _⟩, fun b hb => ?_, q⟩
  have hle : s1.heap.objs.size ≤ b := by
    rcases List.mem_cons.mp hb with z | z
    · rw [z]; exact Nat.le_add_right _ _
    · rw [List.mem_singleton.mp z]; exact Nat.le_refl _
  exact I1.fpOk hle (I1.hok.fresh hle)
theorem walk_enumT {K : PySem.W.Frag} {a : Addr} {xs : List V} : Walk (IteT K a) xs.length (fun H => SqT K H a xs) (YPair (fun i => some (.int (i : Nat))) (fun i => xs[i]?)) where
  goes := fun i H hi h => ⟨xs, xs[i], h, by simp [hi]⟩
  stops := fun H h => ⟨xs, h, Nat.le_refl _⟩
  yields := fun i H x H' _ h ⟨T, y, e1, e2, e3, e4⟩ => ⟨T, _, y, e1, e2, e3, rfl, e4 xs h⟩
end Pb
/-! sorted(d.items()), d from texts to ints -/
namespace Pb
open PySem PySem.Spec PyProof.Rows L2
open PySem.W (EachIs AllAlike Sortable dataLe)
theorem inv_more {X : Cx} {pins : List (Addr × Obj)} {σ : L2.St} {H : Hp} {s : Shared} {h' : Heap} {tk : Nat} (I : Inv X pins σ H s) (H' : Hp) (kp : ∀ b u, H b = some u → H' b = some u) (nw : ∀ b u, H' b = some u → H b = none → s.heap.objs.size ≤ b ∧ ObjOk X.prog X.w H' h' b u)
    (hk : ∀ b o, s.heap.get? b = some o → h'.get? b = some o) : Inv X pins σ H' { s with heap := h', toks := tk } := by
  refine I.call' (ch := []) rfl ⟨fun b o q _ _ _ => hk b o q, fun b o q _ _ _ => ⟨o.slots, hk b o q⟩, fun b o q n _ => ?_, fun b o q _ => ⟨o, hk b o q⟩, fun b xs q => kp b _ q, fun b o u q => kp b _ q, fun b ps q => ⟨#[], by rw [kp b _ q]; simp⟩⟩ (fun b u q => ?_) I.bare fun b w => by simp at w
  · cases e : H' b with
    | none => rfl
    | some u => exact absurd (Heap.lt_size q) (Nat.not_lt.mpr (nw b u e n).1)
  · cases e : H b with
    | none => exact (nw b u q e).2
    | some v =>
      rw [kp b v e] at q
      cases q
      exact (I.hok b u e).stay (fun d v _ y => hk d v y) (fun d y => kp d _ y) fun d xs y => kp d _ y
abbrev Si := Str × Int
def keyed (q : Si) : Key × V := (Sum.inr q.1, .int q.2)
def encP (q : Si) : PyData := .tuple [.str q.1, .int q.2]
def sortP (kvs : List Si) : List Si := kvs.mergeSort (dataLe false encP)
def tSortIt (te : TE) : TE := fun σ H Q => te σ H fun x H1 => ∃ (d : Addr) (kvs : List Si), x = .ref d ∧ H1 d = some (.dK (kvs.map keyed)) ∧
  ∀ (H' : Hp) (p : Addr) (bs : List (Addr × Si)), Same H1 H' → H1 p = none → (∀ b ∈ bs, H1 b.1 = none ∧ H' b.1 = some (.tup [.str b.2.1, .int b.2.2])) → H' p = some (.lst (bs.map fun b => .ref b.1)) → bs.map (·.2) = sortP kvs → Q (.ref p) H'
theorem each_zip {α β : Type} : ∀ {as : List α} {bs : List β}, as.length = bs.length → ∀ f : α → Value, EachIs (fun v (b : α × β) => v = f b.1) (as.map f) (as.zip bs)
  | [], [], _, _ => .nil
  | [], _ :: _, h, _ => by cases h
  | _ :: _, [], h, _ => by cases h
  | a :: as, b :: bs, h, f => .cons rfl (each_zip (Nat.succ.inj h) f)
theorem of_each1 {β : Type} {f : β → Addr} : ∀ {us : List Value} {bs : List β}, EachIs (fun v b => v = Value.ref (f b)) us bs → Vals (bs.map fun b => V.ref (f b)) us
  | _, _, .nil => .nil
  | _, _, .cons h t => .cons h (of_each1 t)
theorem kv_ents {P : Program} {w : World} : ∀ {kvs : List Si} {vs : List (Key × Value)} {es : List DictEntry}, KV (kvs.map keyed) vs → Pairs (mixKind P w) es vs → ∀ (j : Nat) (e : DictEntry), es[j]? = some e → ∃ q t u, kvs[j]? = some q ∧ e.key = .str q.1 t ∧ e.val = .int q.2 u
  | [], _, _, .nil, .nil, j, e, h => by simp at h
  | q :: kvs, _, _, .cons r rs, .cons h1 h2 ps, 0, e, h => by
    have h := Option.some.inj h
    subst h
    obtain ⟨r1, u, r2⟩ := r
    rw [mixKind_is, ← r1] at h1
    rcases keyIs_shape h1 with ⟨i, t, hk, _⟩ | ⟨x, t, hk, hv⟩
    · cases hk
    · cases hk
      exact ⟨q, t, u, rfl, hv, by rw [h2, r2]⟩
  | q :: kvs, _, _, .cons r rs, .cons h1 h2 ps, j + 1, e, h => kv_ents rs ps j e h
theorem pairs_len {P : Program} {w : World} : ∀ {es : List DictEntry} {vs : List (Key × Value)}, Pairs (mixKind P w) es vs → es.length = vs.length
  | _, _, .nil => rfl
  | _, _, .cons _ _ t => congrArg (· + 1) (pairs_len t)
theorem alikeP (l : List Si) : AllAlike (l.map encP) := .of fun b b' => rfl
theorem sortableP (l : List Si) : Sortable (l.map encP) := .tuples fun b => ⟨_, _, rfl⟩
/-- the heap with new tuples and a list -/
def putN (H : Hp) (p : Addr) (l : HO) (bs : List (Addr × Si)) : Hp := fun b => if b = p then some l else match bs.find? (fun q => q.1 == b) with
  | some q => some (.tup [.str q.2.1, .int q.2.2])
  | none => H b
section
variable {X : Cx} {e : Expr} {te : TE} {p apos cpos pos : Pos}
theorem pe_sortedItems (hc : X.calm = true) (hu : X.A.units + 64 < cLine) (he : PE X e te) (hg : Gl X "sorted") (hm : X.mg "sorted" = none) (hv : bootBuiltins "sorted" = some (.builtin "sorted")) (hbase : attributeBase e "items" X.env (eval e X.env) = eval e X.env := by rfl) (hline : (apos.endLine == cpos.line) = true := by rfl)
    (hs : starEach [.Call (.Attribute e "items" apos) [] [] cpos] X.env = (false, eval (.Call (.Attribute e "items" apos) [] [] cpos) X.env) :: starEach [] X.env := by rfl) : PE X (.Call (.Name "sorted" p) [.Call (.Attribute e "items" apos) [] [] cpos] [] pos) (tSortIt te) := by
  refine ⟨fun pins s σ H Q I hq => ?_⟩
  refine Call_ (ld_blt I hg hm hv ?_); refine PyProof.Rows.callWith_builtin1 (PyProof.Rows.args_cons ?_ hs) hs rfl
  refine wpAny_Call_method (T := "dict") (id := "dict.items") hbase rfl hline F.plainAttrs_dict F.slot_dict_items F.type_dict_items (thn (he.run pins s σ H _ I hq) fun u s1 ⟨x, H1, I1, rx, d, kvs, ex, hd, q⟩ => ?_)
  subst ex
  obtain rfl : u = Value.ref d := rx
  obtain ⟨hz, hs0, vs, kv, hdo⟩ := I1.hok d _ hd
  have lk : (kvs.map keyed).length = vs.length := Paired.length kv
  rw [List.length_map] at lk hz
  refine ⟨hdo.typeIs, hdo.mapOf.noDict, ?_⟩
  show wpAny _ _ (callWith cpos (.builtin "dict.items") [.ref d] [] []) _ X.xe s1
  refine method_meetsIn F.slot_dict_items F.entry_dict_items rfl (PySem.evalArgs_none ⟨rfl, hdo.typeIs, F.args_dict_items_1 _, _, meets_dict_items (mixKind X.prog X.w) d hs0, ⟨vs, hdo⟩, ?_⟩)
  refine PyProof.Rows.args_nil ?_
  obtain ⟨o, es, ep, ho, hex, hdat, _, prs, _⟩ := id hdo
  have les : es.size = kvs.length := by
    have := pairs_len prs
    rw [Array.length_toList] at this
    omega
  have kents := kv_ents kv prs
  generalize hs2 : ({ s1 with heap := s1.heap.push { cls := .type "dict_items", data := .fields #[.ref d] } } : Shared) = s2
  have I2 : Inv X pins σ H1 s2 := by rw [← hs2]; exact I1.kept (t' := s1.toks) fun b ob q => Heap.get?_push_of_some _ q
  have hview : s2.heap.IsItemsView s1.heap.objs.size d := by rw [← hs2]; exact ⟨_, Heap.get?_push_size _ rfl, rfl, rfl⟩
  have hraw : DT.Raw s2.heap d es ep := by rw [← hs2]; exact ⟨o, Heap.get?_push_of_some _ ho, hex, hdat⟩
  clear hs2
  refine DT.sortedI (es := es) (ep := ep) (I2.ok.hd hc) hview hraw (by omega) fun h' tk as hk hlt hl hG => ?_
  have lak : as.length = kvs.length := by omega
  have nd : as.Nodup := List.Pairwise.imp (fun {a b} (h : a < b) => Nat.ne_of_lt h) hG.rise
  have hmade : ∀ b ∈ as.zip kvs, ∃ t u, h'.get? b.1 = some { cls := .type "tuple", data := .seq #[.str b.2.1 t, .int b.2.2 u] } := fun b hb => by
    obtain ⟨j, hj⟩ := List.mem_iff_getElem?.mp hb
    rw [List.getElem?_zip_eq_some] at hj
    obtain ⟨en, g1, g2⟩ := hG.pairs j b.1 hj.1
    rw [← Array.getElem?_toList] at g1
    obtain ⟨qq, t, u, f1, f2, f3⟩ := kents j en g1
    rw [hj.2] at f1
    cases f1
    exact ⟨t, u, by rw [g2, f2, f3]⟩
  have hL0 : (h'.push { cls := .type "list", data := .seq (as.map Value.ref).toArray }).get? h'.objs.size = some { cls := .type "list", data := .seq (as.map Value.ref).toArray } := Heap.get?_push_size _ rfl
  have each : EachIs (fun v (b : Addr × Si) => v = Value.ref b.1) (as.map Value.ref) (as.zip kvs) := each_zip lak Value.ref
  refine PySem.W.list_sort_data (s := { s2 with heap := h'.push { cls := .type "list", data := .seq (as.map Value.ref).toArray }, toks := tk }) (a := h'.objs.size) (vs := as.map Value.ref) (bs := as.zip kvs) (R := fun v b => v = .ref b.1) (enc := fun b => encP b.2) (n := 0) hL0 each ?_ ?_ ?_ ?_ ?_ fun out h1 h2 => ?_
  · refine each_and each fun v b hb hv => ?_
    obtain ⟨t, u, g⟩ := hmade b hb
    rw [hv]
    exact ⟨[], .tuple (Heap.get?_push_of_some _ g) rfl rfl (.cons (as := []) (bs := []) (.str _ _) (.cons (as := []) (bs := []) (.int _ _) .nil)), fun h => nomatch h⟩
  · exact .of fun b b' => rfl
  · exact .tuples fun b => ⟨_, _, rfl⟩
  · rw [List.length_zip]; omega
  · intro b hb
    have e1 : (encP b.2).depth = 1 := by simp [encP, PyData.depth, PyData.depthAll]
    have e2 : X.A.in1.units ≤ X.A.units + 1 := by simp
    rw [e1]
    omega
  · generalize hbs : (as.zip kvs).mergeSort (dataLe false fun b : Addr × Si => encP b.2) = bs at h2
    have hperm : bs.Perm (as.zip kvs) := by rw [← hbs]; exact List.mergeSort_perm _ _
    have hsnd : bs.map (·.2) = sortP kvs := by
      rw [← hbs]
      show _ = kvs.mergeSort (dataLe false encP)
      have e1 : (as.zip kvs).map (fun b : Addr × Si => b.2) = kvs := by
        rw [← List.unzip_snd, List.unzip_zip_right (by omega)]
      have e2 := PySem.W.sort_maps (fun b : Addr × Si => b.2) (r := dataLe false fun b : Addr × Si => encP b.2) (s := dataLe false encP) (l := as.zip kvs) fun a _ b _ => rfl
      rw [e1] at e2
      exact e2
    have hfst : ∀ b ∈ bs, b ∈ as.zip kvs := fun b hb => hperm.mem_iff.mp hb
    have habove : ∀ b ∈ bs, s2.heap.objs.size < b.1 ∧ b.1 < h'.objs.size := fun b hb => by
      have h3 := List.of_mem_zip (hfst b hb)
      exact ⟨hG.above b.1 h3.1, hG.there h3.1⟩
    have ndb : (bs.map (·.1)).Nodup := by
      have e1 : ((as.zip kvs).map (·.1)) = as := by rw [← List.unzip_fst, List.unzip_zip_left (by omega)]
      refine (hperm.map (·.1)).nodup_iff.mpr ?_
      rw [e1]; exact nd
    obtain ⟨ep2, hat⟩ := PyProof.Rows.sortedHeap_at (h := h'.push { cls := .type "list", data := .seq (as.map Value.ref).toArray }) (a := h'.objs.size) (vs := as.map Value.ref) (n := 0) (out := out.toArray) hL0
    generalize hfin : sortedHeap (h'.push { cls := .type "list", data := .seq (as.map Value.ref).toArray }) h'.objs.size (as.map Value.ref) (List.toArray out) = hf at hat
    have hold : ∀ b o, b < h'.objs.size → h'.get? b = some o → hf.get? b = some o := fun b o hb g => by
      rw [← hfin, PyProof.Rows.sortedHeap_old (Nat.ne_of_lt hb) (by rw [Heap.size_push]; exact Nat.lt_succ_of_lt hb)]
      exact Heap.get?_push_of_some _ g
    have hkf : ∀ b o, s2.heap.get? b = some o → hf.get? b = some o := fun b o g => hold b o (Heap.lt_size (hk b o g)) (hk b o g)
    have hfree : ∀ b : Addr, s2.heap.objs.size ≤ b → H1 b = none := fun b hb => I2.hok.fresh hb
    have hfind : ∀ b ∈ bs, bs.find? (fun q => q.1 == b.1) = some b := fun b hb => by
      cases hf2 : bs.find? (fun q => q.1 == b.1) with
      | none => exact absurd (List.find?_eq_none.mp hf2 b hb) (by simp)
      | some c =>
        have m1 := List.mem_of_find?_eq_some hf2
        have m2 : c.1 = b.1 := by simpa using List.find?_some hf2
        obtain ⟨i, hi⟩ := List.mem_iff_getElem?.mp m1
        obtain ⟨j, hj⟩ := List.mem_iff_getElem?.mp hb
        have e1 : (bs.map (·.1))[i]? = some b.1 := by rw [List.getElem?_map, hi, ← m2]; rfl
        have e2 : (bs.map (·.1))[j]? = some b.1 := by rw [List.getElem?_map, hj]; rfl
        have := nd_ix ndb e1 e2
        subst this
        rw [hi] at hj
        rw [Option.some.inj hj]
    have hne : ∀ b ∈ bs, b.1 ≠ h'.objs.size := fun b hb => Nat.ne_of_lt (habove b hb).2
    have hput : ∀ b ∈ bs, putN H1 h'.objs.size (HO.lst (bs.map fun b : Addr × Si => V.ref b.1)) bs b.1 = some (.tup [.str b.2.1, .int b.2.2]) := fun b hb => by
      unfold putN
      rw [if_neg (hne b hb), hfind b hb]
    have hsame : Same H1 (putN H1 h'.objs.size (HO.lst (bs.map fun b : Addr × Si => V.ref b.1)) bs) := fun b o g => by
      have n1 : b ≠ h'.objs.size := fun e => by rw [e, hfree _ (Nat.le_of_lt hlt)] at g; cases g
      unfold putN
      rw [if_neg n1]
      cases hf2 : bs.find? (fun q => q.1 == b) with
      | none => exact g
      | some c =>
        have m1 := List.mem_of_find?_eq_some hf2
        have m2 : c.1 = b := by simpa using List.find?_some hf2
        rw [← m2, hfree _ (Nat.le_of_lt (habove c m1).1)] at g
        cases g
    refine ⟨.ref h'.objs.size, putN H1 h'.objs.size (HO.lst (bs.map fun b : Addr × Si => V.ref b.1)) bs, inv_more (tk := tk) I2 _ hsame (fun b u g n => ?_) hkf, rfl, q _ _ bs hsame (hfree _ (Nat.le_of_lt hlt)) (fun b hb => ⟨hfree _ (Nat.le_of_lt (habove b hb).1), hput b hb⟩) (by unfold putN; rw [if_pos rfl]) hsnd⟩
    by_cases hb : b = h'.objs.size
    · subst hb
      unfold putN at g
      rw [if_pos rfl] at g
      cases g
      refine ⟨Nat.le_of_lt hlt, by rw [List.length_map, hperm.length_eq, List.length_zip]; omega, out, ep2, of_each1 h2, hat⟩
    · unfold putN at g
      rw [if_neg hb] at g
      cases hf2 : bs.find? (fun q => q.1 == b) with
      | none => rw [hf2] at g; rw [n] at g; cases g
      | some c =>
        rw [hf2] at g
        have m1 := List.mem_of_find?_eq_some hf2
        have m2 : c.1 = b := by simpa using List.find?_some hf2
        cases g
        obtain ⟨t, u, g1⟩ := hmade c (hfst c m1)
        rw [← m2]
        exact ⟨Nat.le_of_lt (habove c m1).1, by show 2 ≤ sizeLine; decide, [.str c.2.1 t, .int c.2.2 u], .cons ⟨_, rfl⟩ (.cons ⟨_, rfl⟩ .nil), ⟨_, hold _ _ (habove c m1).2 g1, rfl, _, rfl⟩⟩
end
end Pb
namespace Pb
open PySem L2
theorem dc_it {J : It} {n : Nat} {G : Hp → Prop} {Y : Nat → Hp → V → Hp → Prop} (w : Walk J n G Y) {g : TG} {tt : TT} {tk tv : TE} {vs : List Nat} {σ : L2.St} {H1 : Hp} {D : Addr} {Qd : Hp → Prop} (Pv : Nat → Hp → Prop) (h0 : Pv 0 (upd H1 D (.dK []))) (hG : ∀ i H, i ≤ n → Pv i H → G H)
    (hs : ∀ i x H H', i < n → Pv i H → Y i H x H' → g x (wipe σ vs) H' fun σ2 H2 => wipe σ2 vs = wipe σ vs ∧ tt σ2 H2 fun b H3 => if b = true then tk σ2 H3 fun y H4 => tv σ2 H4 fun z H5 => ∃ kvs k, y = kV k ∧ H5 D = some (.dK kvs) ∧ kvs.length < sizeLine ∧ Pv (i + 1) (upd H5 D (.dK (putK kvs k z))) else Pv (i + 1) H3)
    (hd : ∀ H, Pv n H → Qd H) : ∃ W : Nat → Nat → Hp → Prop, (∃ m, W 0 m (upd H1 D (.dK []))) ∧ ∀ i m H, W i m H →
      (J.stop i H ∧ Qd H) ∨ (J.go i H ∧ ∃ Nx : Hp → Prop, (∀ H', Nx H' → ∃ m', m' < m ∧ W (i + 1) m' H') ∧ ∀ x H', J.yld i H x H' → g x (wipe σ vs) H' fun σ2 H2 => wipe σ2 vs = wipe σ vs ∧ tt σ2 H2 fun b H3 =>
        if b = true then tk σ2 H3 fun y H4 => tv σ2 H4 fun z H5 => ∃ kvs k, y = kV k ∧ H5 D = some (.dK kvs) ∧ kvs.length < sizeLine ∧ Nx (upd H5 D (.dK (putK kvs k z))) else Nx H3) := by
  refine ⟨fun i m H => m = n - i ∧ i ≤ n ∧ Pv i H, ⟨n, by simp, Nat.zero_le _, h0⟩, fun i m H ⟨e1, hi, q⟩ => ?_⟩
  by_cases hlt : i < n
  · exact .inr ⟨w.goes i H hlt (hG i H hi q), Pv (i + 1), fun H' q' => ⟨n - (i + 1), by omega, rfl, hlt, q'⟩, fun x H' y => hs i x H H' hlt q (w.yields i H x H' hlt (hG i H hi q) y)⟩
  · obtain rfl : i = n := by omega
    exact .inl ⟨w.stops H (hG i H hi q), hd H q⟩
/-! ### the mathematics of shares -/
def shareZ (b : Int) (n p : Nat) : Int := if b < (p : Int) then 0 else (b - p + n - 1) / n
def sharesL (b : Int) (fs : List Str) : List Si := fs.zipIdx.map fun q => (q.1, shareZ b fs.length q.2)
def stD (b : Int) (fs : List Str) : PyData := .tuple [.int b, .tuple (fs.map PyData.str)]
theorem sharesL_len (b : Int) (fs : List Str) : (sharesL b fs).length = fs.length := by unfold sharesL; rw [List.length_map, List.length_zipIdx]
theorem sharesL_at {b : Int} {fs : List Str} {i : Nat} {x : Str} (h : fs[i]? = some x) : (sharesL b fs)[i]? = some (x, shareZ b fs.length i) := by
  unfold sharesL
  rw [List.getElem?_map, List.getElem?_zipIdx, h]
  simp
theorem sharesL_names (b : Int) (fs : List Str) : (sharesL b fs).map (·.1) = fs := by
  refine List.ext_getElem? fun i => ?_
  rw [List.getElem?_map]
  cases h : fs[i]? with
  | none => rw [List.getElem?_eq_none_iff.mpr (by rw [sharesL_len]; exact List.getElem?_eq_none_iff.mp h)]; rfl
  | some x => rw [sharesL_at h]; rfl
/-- what a dict from texts to ints tells -/
def look (kvs : List Si) (x : Str) : Option Int := (kvs.find? fun q => decide (q.1 = x)).map (·.2)
theorem valV_keyed (kvs : List Si) (x : Str) : valV (kvs.map keyed) (Sum.inr x) = (look kvs x).map V.int := by
  induction kvs with
  | nil => rfl
  | cons q r ih =>
    rw [List.map_cons]
    by_cases h : q.1 = x
    · rw [valV_pos (by show Sum.inr q.1 = Sum.inr x; rw [h])]
      unfold look
      rw [List.find?_cons_of_pos (by simpa using h)]
      rfl
    · rw [valV_neg (fun e => h (Sum.inr.inj e)), ih]
      unfold look
      rw [List.find?_cons_of_neg (by simpa using h)]
theorem look_at {kvs : List Si} (nd : (kvs.map (·.1)).Nodup) {i : Nat} {q : Si} (h : kvs[i]? = some q) : look kvs q.1 = some q.2 := by
  induction kvs generalizing i with
  | nil => simp at h
  | cons p r ih =>
    rw [List.map_cons, List.nodup_cons] at nd
    unfold look
    cases i with
    | zero =>
      have e : p = q := by simpa using h
      rw [List.find?_cons_of_pos (by simp [e]), e]; rfl
    | succ i =>
      have h' : r[i]? = some q := by simpa using h
      have hn : p.1 ≠ q.1 := fun e => nd.1 (by rw [e]; exact List.mem_map.mpr ⟨q, List.mem_of_getElem? h', rfl⟩)
      rw [List.find?_cons_of_neg (by simpa using hn)]
      exact ih nd.2 h'
theorem look_none {kvs : List Si} {x : Str} (h : x ∉ kvs.map (·.1)) : look kvs x = none := by
  unfold look
  rw [List.find?_eq_none.mpr fun q hq e => h (List.mem_map.mpr ⟨q, hq, by simpa using e⟩)]; rfl
theorem look_shares {b : Int} {fs : List Str} (nd : fs.Nodup) {i : Nat} {x : Str} (h : fs[i]? = some x) : look (sharesL b fs) x = some (shareZ b fs.length i) := look_at (by rw [sharesL_names]; exact nd) (sharesL_at h)
end Pb
/-! A layer over data alone: what stands in the slots, told as data; the heap is out of sight. -/
namespace Dm
open PySem L2 Pb
abbrev NN : Nat := 100000
theorem NN_line : NN ≤ sizeLine := by decide
abbrev Tk := (Str × Str) × Int
def keyed2 (q : Tk) : List Key × V := ([Sum.inr q.1.1, Sum.inr q.1.2], .int q.2)
def okS (x : Str) : Prop := x.length ≤ NN ∧ PyData.strOk x = true
/-- a told value: data; a dict with texts as keys, with pairs of texts; the bag; a list or a dict of a slot's own, or a locked dict, read in passing -/
inductive Vx where
  | d (x : PyData)
  | dk (kvs : List Si)
  | dt (kvs : List Tk)
  | bag
  | q (xs : List PyData)
  | rk (kvs : List Si)
  | rt (kvs : List Tk)
  | fl (xs : List PyData)
  | rf (a : Addr)
def nq : Vx → Prop
  | .q _ => False
  | .rk _ => False
  | .rt _ => False
  | .fl _ => False
  | _ => True
/-- a slot: not known; a value; a list, a dict, a dict by pairs of its own, at L; a dict that may be locked; that is locked -/
inductive Slot where
  | no
  | v (x : Vx)
  | ol (L : Addr) (xs : List PyData)
  | ok (L : Addr) (kvs : List Si)
  | ot (L : Addr) (kvs : List Tk)
  | lk (kvs : List Si)
  | lt (kvs : List Tk)
  | fk (kvs : List Si)
  | ft (kvs : List Tk)
  | tb (Ps : List Addr)
abbrev Ev := List Slot
def Slot.own : Slot → Option Addr
  | .ol L _ => some L
  | .ok L _ => some L
  | .ot L _ => some L
  | _ => none
def okA (z : Fz) (a : Addr) : Prop := a ≠ z.p ∧ a ∉ z.S
def okK (kvs : List Si) : Prop := ∀ q ∈ kvs, okS q.1
def okT (kvs : List Tk) : Prop := ∀ q ∈ kvs, okS q.1.1 ∧ okS q.1.2
def Dv (z : Fz) (H : Hp) (v : V) : Vx → Prop
  | .d x => Dt z H v x
  | .dk kvs => ∃ a, v = .ref a ∧ okA z a ∧ H a = some (.dK (kvs.map keyed)) ∧ okK kvs
  | .dt kvs => ∃ a, v = .ref a ∧ okA z a ∧ H a = some (.dT (kvs.map keyed2)) ∧ okT kvs
  | .bag => v = .ref z.p ∧ ∃ q, q ∉ z.S ∧ BagQ z.p q H
  | .q ds => ∃ a vs, v = .ref a ∧ a ≠ z.p ∧ H a = some (.lst vs) ∧ DtAll z H vs ds ∧ vs.length ≤ z.n
  | .rk kvs => ∃ a, v = .ref a ∧ a ≠ z.p ∧ Rd H a (.dK (kvs.map keyed)) ∧ okK kvs
  | .rt kvs => ∃ a, v = .ref a ∧ a ≠ z.p ∧ Rd H a (.dT (kvs.map keyed2)) ∧ okT kvs
  | .fl _ => False
  | .rf a => v = .ref a
/-- lists and tuples go over from (z, H) to (z', H') -/
structure Gs (z z' : Fz) (H H' : Hp) : Prop where
  n : z.n ≤ z'.n
  p : z'.p = z.p
  lst : ∀ a xs, okA z a → H a = some (.lst xs) → H' a = some (.lst xs) ∧ okA z' a
  tup : ∀ a xs, okA z a → H a = some (.tup xs) → H' a = some (.tup xs) ∧ okA z' a
  bag : ∀ q, q ∉ z.S → BagQ z.p q H → q ∉ z'.S ∧ BagQ z.p q H'
/-- .. and dicts -/
structure Go (z z' : Fz) (H H' : Hp) : Prop extends Gs z z' H H' where
  dk : ∀ a kvs, okA z a → H a = some (.dK kvs) → H' a = some (.dK kvs) ∧ okA z' a
  dt : ∀ a kvs, okA z a → H a = some (.dT kvs) → H' a = some (.dT kvs) ∧ okA z' a
mutual
theorem dt_go {z z' : Fz} {H H' : Hp} (e : Gs z z' H H') : ∀ (d : PyData) (v : V), Dt z H v d → Dt z' H' v d
  | .none, _, h => by cases h; exact .non
  | .bool b, _, h => by cases h; exact .bl b
  | .int i, _, h => by cases h; exact .int i
  | .str x, _, h => by cases h with | str _ l => exact .str x ⟨Nat.le_trans l.1 e.n, l.2⟩
  | .list ds, _, h => by cases h with | lst a b c t => exact .lst (e.lst _ _ a b).2 (e.lst _ _ a b).1 (Nat.le_trans c e.n) (dts_go e ds _ t)
  | .tuple ds, _, h => by cases h with | tup a b c t => exact .tup (e.tup _ _ a b).2 (e.tup _ _ a b).1 (Nat.le_trans c e.n) (dts_go e ds _ t)
  | .dict _, _, h => by cases h
theorem dts_go {z z' : Fz} {H H' : Hp} (e : Gs z z' H H') : ∀ (ds : List PyData) (vs : List V), DtAll z H vs ds → DtAll z' H' vs ds
  | [], _, h => by cases h; exact .nil
  | d :: ds, _, h => by cases h with | cons a t => exact .cons (dt_go e d _ a) (dts_go e ds _ t)
end
theorem bag_go {z z' : Fz} {H H' : Hp} {v : V} (e : Gs z z' H H') (h : Dv z H v .bag) : Dv z' H' v .bag := by
  obtain ⟨h1, q, h2, h3⟩ := h
  obtain ⟨h4, h5⟩ := e.bag q h2 h3
  exact ⟨by rw [e.p]; exact h1, q, h4, by rw [e.p]; exact h5⟩
theorem Dv.go {z z' : Fz} {H H' : Hp} {v : V} {x : Vx} (nx : nq x) (e : Go z z' H H') (h : Dv z H v x) : Dv z' H' v x := by
  cases x with
  | q _ => exact nx.elim
  | rk _ => exact nx.elim
  | rt _ => exact nx.elim
  | fl _ => exact nx.elim
  | d x => exact dt_go e.toGs x v h
  | dk kvs =>
    obtain ⟨a, h1, h2, h3, h4⟩ := h
    exact ⟨a, h1, (e.dk _ _ h2 h3).2, (e.dk _ _ h2 h3).1, h4⟩
  | dt kvs =>
    obtain ⟨a, h1, h2, h3, h4⟩ := h
    exact ⟨a, h1, (e.dt _ _ h2 h3).2, (e.dt _ _ h2 h3).1, h4⟩
  | bag => exact bag_go e.toGs h
  | rf a => exact h
theorem rd_mono {H H' : Hp} {a : Addr} {u : HO} (r : Rd H a u) (k : ∀ o, H a = some o → (∀ ps, o ≠ HO.tbl ps) → H' a = some o) (nu : ∀ ps, u ≠ HO.tbl ps := by intro _ z; cases z) : Rd H' a u := by
  rcases r with r | ⟨o, r⟩
  · exact .inl (k _ r nu)
  · exact .inr ⟨o, k _ r (fun _ z => nomatch z)⟩
theorem Go.ex {z : Fz} {H H' : Hp} (e : ExB z.p H H') : Go z z H H' where
  n := Nat.le_refl _
  p := rfl
  lst := fun a xs k h => ⟨e.keep a _ k.1 h, k⟩
  tup := fun a xs k h => ⟨e.keep a _ k.1 h, k⟩
  dk := fun a kvs k h => ⟨e.keep a _ k.1 h, k⟩
  dt := fun a kvs k h => ⟨e.keep a _ k.1 h, k⟩
  bag := fun q k h => ⟨k, e.bag q h⟩
theorem Dv.up {z : Fz} {H H' : Hp} {v : V} {x : Vx} (e : ExB z.p H H') (h : Dv z H v x) : Dv z H' v x := by
  cases x with
  | q ds =>
    obtain ⟨a, vs, h1, h2, h3, h4, h5⟩ := h
    exact ⟨a, vs, h1, h2, e.keep a _ h2 h3, dts_go (Go.ex e).toGs _ _ h4, h5⟩
  | rk kvs =>
    obtain ⟨a, h1, h2, h3, h4⟩ := h
    exact ⟨a, h1, h2, rd_mono h3 (fun o q t => e.keep a o h2 q t), h4⟩
  | rt kvs =>
    obtain ⟨a, h1, h2, h3, h4⟩ := h
    exact ⟨a, h1, h2, rd_mono h3 (fun o q t => e.keep a o h2 q t), h4⟩
  | fl _ => exact h.elim
  | d x => exact Dv.go trivial (.ex e) h
  | dk x => exact Dv.go trivial (.ex e) h
  | dt x => exact Dv.go trivial (.ex e) h
  | bag => exact Dv.go trivial (.ex e) h
  | rf a => exact h
theorem okA.av {z : Fz} {L a : Addr} {H : Hp} {o : HO} (k : okA z a) (l : H L = none) (h : H a = some o) : okA (z.av L) a := ⟨k.1, fun m => by
  rcases List.mem_cons.mp m with e | e
  · exact ne_of_none h l e
  · exact k.2 e⟩
theorem Go.av {z : Fz} {H : Hp} {L : Addr} (l : H L = none) : Go z (z.av L) H H where
  n := Nat.le_refl _
  p := rfl
  lst := fun a xs k h => ⟨h, k.av l h⟩
  tup := fun a xs k h => ⟨h, k.av l h⟩
  dk := fun a kvs k h => ⟨h, k.av l h⟩
  dt := fun a kvs k h => ⟨h, k.av l h⟩
  bag := fun q k h => ⟨fun m => by
    obtain ⟨_, _, _, _, _, _, g⟩ := h
    rcases List.mem_cons.mp m with e | e
    · exact ne_of_none g l e
    · exact k e, h⟩
theorem Go.sub {z z' : Fz} {H : Hp} (n : z.n ≤ z'.n) (p : z'.p = z.p) (s : ∀ a ∈ z'.S, a ∈ z.S) : Go z z' H H where
  n := n
  p := p
  lst := fun a xs k h => ⟨h, by rw [okA, p]; exact ⟨k.1, fun m => k.2 (s a m)⟩⟩
  tup := fun a xs k h => ⟨h, by rw [okA, p]; exact ⟨k.1, fun m => k.2 (s a m)⟩⟩
  dk := fun a xs k h => ⟨h, by rw [okA, p]; exact ⟨k.1, fun m => k.2 (s a m)⟩⟩
  dt := fun a xs k h => ⟨h, by rw [okA, p]; exact ⟨k.1, fun m => k.2 (s a m)⟩⟩
  bag := fun q k h => ⟨fun m => k (s q m), h⟩
theorem bag_upd1 {p q l : Addr} {H : Hp} {o : HO} (h : BagQ p q H) (n1 : p ≠ l) (n2 : q ≠ l) : BagQ p q (upd H l o) := by
  obtain ⟨k, xs, h1, h2, h3, h4, h5⟩ := h
  exact ⟨k, xs, h1, h2, h3, by rw [upd_ne n1]; exact h4, by rw [upd_ne n2]; exact h5⟩
theorem Go.mut {z : Fz} {H : Hp} {L : Addr} {o : HO} (m : L ∈ z.S) (np : L ≠ z.p) : Go z z H (upd H L o) where
  n := Nat.le_refl _
  p := rfl
  lst := fun a xs k h => ⟨by rw [upd_ne fun e => k.2 (by rw [e]; exact m)]; exact h, k⟩
  tup := fun a xs k h => ⟨by rw [upd_ne fun e => k.2 (by rw [e]; exact m)]; exact h, k⟩
  dk := fun a xs k h => ⟨by rw [upd_ne fun e => k.2 (by rw [e]; exact m)]; exact h, k⟩
  dt := fun a xs k h => ⟨by rw [upd_ne fun e => k.2 (by rw [e]; exact m)]; exact h, k⟩
  bag := fun q k h => ⟨k, bag_upd1 h (Ne.symm np) fun e => k (by rw [e]; exact m)⟩
theorem Go.trans {z z1 z2 : Fz} {H H1 H2 : Hp} (a : Go z z1 H H1) (b : Go z1 z2 H1 H2) : Go z z2 H H2 where
  n := Nat.le_trans a.n b.n
  p := b.p.trans a.p
  lst := fun x xs k h => b.lst x xs (a.lst x xs k h).2 (a.lst x xs k h).1
  tup := fun x xs k h => b.tup x xs (a.tup x xs k h).2 (a.tup x xs k h).1
  dk := fun x xs k h => b.dk x xs (a.dk x xs k h).2 (a.dk x xs k h).1
  dt := fun x xs k h => b.dt x xs (a.dt x xs k h).2 (a.dt x xs k h).1
  bag := fun q k h => by
    have g := b.bag q (a.bag q k h).1 (by rw [a.p]; exact (a.bag q k h).2)
    rw [a.p] at g
    exact g
def isDict : HO → Prop
  | .dK _ => True
  | .dT _ => True
  | _ => False
theorem isDict_seq {u : HO} (h : isDict u) : (∀ xs, u ≠ .lst xs) ∧ (∀ xs, u ≠ .tup xs) := by
  cases u <;> first | exact h.elim | exact ⟨fun _ e => (nomatch e), fun _ e => (nomatch e)⟩
/-- a dict is locked -/
theorem Gs.lock {z : Fz} {H : Hp} {d : Addr} {u : HO} {od : Obj} (h : H d = some u) (hu : isDict u) : Gs z z H (upd H d (.frz od u)) where
  n := Nat.le_refl _
  p := rfl
  lst := fun a xs k q => ⟨by rw [upd_ne fun e => by rw [e, h] at q; exact (isDict_seq hu).1 xs (Option.some.inj q)]; exact q, k⟩
  tup := fun a xs k q => ⟨by rw [upd_ne fun e => by rw [e, h] at q; exact (isDict_seq hu).2 xs (Option.some.inj q)]; exact q, k⟩
  bag := fun q k b => ⟨k, by
    obtain ⟨i, xs, h1, h2, h3, h4, h5⟩ := b
    refine ⟨i, xs, h1, h2, h3, ?_, ?_⟩
    · rw [upd_ne fun e => by rw [e, h] at h4; exact (isDict_seq hu).1 _ (Option.some.inj h4)]; exact h4
    · rw [upd_ne fun e => by rw [e, h] at h5; exact (isDict_seq hu).1 _ (Option.some.inj h5)]; exact h5⟩
theorem Gs.unlock {z : Fz} {H : Hp} {d : Addr} {u : HO} {od : Obj} (h : H d = some (.frz od u)) : Gs z z H (upd H d u) where
  n := Nat.le_refl _
  p := rfl
  lst := fun a xs k q => ⟨by rw [upd_ne fun e => by rw [e, h] at q; cases Option.some.inj q]; exact q, k⟩
  tup := fun a xs k q => ⟨by rw [upd_ne fun e => by rw [e, h] at q; cases Option.some.inj q]; exact q, k⟩
  bag := fun q k b => ⟨k, by
    obtain ⟨i, xs, h1, h2, h3, h4, h5⟩ := b
    refine ⟨i, xs, h1, h2, h3, ?_, ?_⟩
    · rw [upd_ne fun e => by rw [e, h] at h4; cases Option.some.inj h4]; exact h4
    · rw [upd_ne fun e => by rw [e, h] at h5; cases Option.some.inj h5]; exact h5⟩
theorem rd_lock {H : Hp} {d a : Addr} {u w : HO} {od : Obj} (h : H d = some u) (hu : isDict u) (q : Rd H a w) : Rd (upd H d (.frz od u)) a w := by
  by_cases e : a = d
  · subst e
    rcases q with q | ⟨o, q⟩
    · rw [h] at q; cases Option.some.inj q; exact .inr ⟨od, upd_same⟩
    · rw [h] at q; cases Option.some.inj q; exact hu.elim
  · rcases q with q | ⟨o, q⟩
    · exact .inl (by rw [upd_ne e]; exact q)
    · exact .inr ⟨o, by rw [upd_ne e]; exact q⟩
/-! ### slots -/
def SlotOk (z : Fz) (H : Hp) (o : Option (Option V)) : Slot → Prop
  | .no => True
  | .v x => nq x ∧ ∃ v, o = some (some v) ∧ Dv z H v x
  | .ol L xs => o = some (some (.ref L)) ∧ L ∈ z.S ∧ L ≠ z.p ∧ ∃ vs, H L = some (.lst vs) ∧ DtAll z H vs xs ∧ vs.length ≤ NN
  | .ok L kvs => o = some (some (.ref L)) ∧ L ∈ z.S ∧ L ≠ z.p ∧ H L = some (.dK (kvs.map keyed)) ∧ okK kvs
  | .ot L kvs => o = some (some (.ref L)) ∧ L ∈ z.S ∧ L ≠ z.p ∧ H L = some (.dT (kvs.map keyed2)) ∧ okT kvs
  | .lk kvs => ∃ a, o = some (some (.ref a)) ∧ a ≠ z.p ∧ Rd H a (.dK (kvs.map keyed)) ∧ okK kvs
  | .lt kvs => ∃ a, o = some (some (.ref a)) ∧ a ≠ z.p ∧ Rd H a (.dT (kvs.map keyed2)) ∧ okT kvs
  | .fk kvs => ∃ a f, o = some (some (.ref a)) ∧ a ≠ z.p ∧ H a = some (.frz f (.dK (kvs.map keyed))) ∧ okK kvs
  | .ft kvs => ∃ a f, o = some (some (.ref a)) ∧ a ≠ z.p ∧ H a = some (.frz f (.dT (kvs.map keyed2))) ∧ okT kvs
  | .tb Ps => ∀ P ∈ Ps, P ∈ z.T
/-- as Go, and all else but the bag stands too -/
structure Stp (z z' : Fz) (H H' : Hp) : Prop extends Go z z' H H' where
  sub : ∀ a ∈ z.S, a ∈ z'.S
  T : z'.T = z.T := by rfl
  keep : ∀ a o, a ≠ z.p → H a = some o → (nt : ∀ ps, o ≠ HO.tbl ps := by intro _ z; cases z) → H' a = some o
theorem SlotOk.stp {z z' : Fz} {H H' : Hp} {o : Option (Option V)} {s : Slot} (e : Stp z z' H H') (h : SlotOk z H o s) : SlotOk z' H' o s := by
  cases s with
  | no => trivial
  | v x => obtain ⟨h0, v, h1, h2⟩ := h; exact ⟨h0, v, h1, h2.go h0 e.toGo⟩
  | ol L xs =>
    obtain ⟨h1, h2, h3, vs, h4, h5, h6⟩ := h
    exact ⟨h1, e.sub _ h2, by rw [e.p]; exact h3, vs, e.keep _ _ h3 h4, dts_go e.toGs _ _ h5, h6⟩
  | ok L kvs => obtain ⟨h1, h2, h3, h4, h5⟩ := h; exact ⟨h1, e.sub _ h2, by rw [e.p]; exact h3, e.keep _ _ h3 h4, h5⟩
  | ot L kvs => obtain ⟨h1, h2, h3, h4, h5⟩ := h; exact ⟨h1, e.sub _ h2, by rw [e.p]; exact h3, e.keep _ _ h3 h4, h5⟩
  | lk kvs => obtain ⟨a, h1, h3, h4, h5⟩ := h; exact ⟨a, h1, by rw [e.p]; exact h3, rd_mono h4 (fun o q t => e.keep _ _ h3 q t), h5⟩
  | lt kvs => obtain ⟨a, h1, h3, h4, h5⟩ := h; exact ⟨a, h1, by rw [e.p]; exact h3, rd_mono h4 (fun o q t => e.keep _ _ h3 q t), h5⟩
  | fk kvs => obtain ⟨a, f, h1, h3, h4, h5⟩ := h; exact ⟨a, f, h1, by rw [e.p]; exact h3, e.keep _ _ h3 h4, h5⟩
  | ft kvs => obtain ⟨a, f, h1, h3, h4, h5⟩ := h; exact ⟨a, f, h1, by rw [e.p]; exact h3, e.keep _ _ h3 h4, h5⟩
  | tb Ps => intro P hP; rw [e.T]; exact h P hP
theorem Stp.ex {z : Fz} {H H' : Hp} (e : ExB z.p H H') : Stp z z H H' := { Go.ex e with
  sub := fun _ h => h
  keep := fun a o n h t => e.keep a o n h t }
theorem Stp.av {z : Fz} {H : Hp} {L : Addr} (l : H L = none) : Stp z (z.av L) H H := { Go.av l with
  sub := fun _ h => List.mem_cons_of_mem _ h
  keep := fun a o n h _ => h }
theorem Stp.trans {z z1 z2 : Fz} {H H1 H2 : Hp} (a : Stp z z1 H H1) (b : Stp z1 z2 H1 H2) : Stp z z2 H H2 := { a.toGo.trans b.toGo with
  sub := fun x h => b.sub x (a.sub x h)
  T := b.T.trans a.T
  keep := fun x o n h t => b.keep x o (by rw [a.p]; exact n) (a.keep x o n h t) t }
structure Rp (z : Fz) (σ : L2.St) (H : Hp) (Γ : Ev) : Prop where
  n : z.n = NN
  al : AlS z H
  len : σ.length = Γ.length
  sl : ∀ (i : Nat) (s : Slot), Γ[i]? = some s → SlotOk z H σ[i]? s
def lockS : Slot → Slot
  | .v (.dk kvs) => .lk kvs
  | .v (.dt kvs) => .lt kvs
  | .ok _ kvs => .lk kvs
  | .ot _ kvs => .lt kvs
  | .fk kvs => .lk kvs
  | .ft kvs => .lt kvs
  | s => s
theorem SlotOk.lock {z : Fz} {H : Hp} {o : Option (Option V)} {s : Slot} {d : Addr} {u : HO} {od : Obj} (h : H d = some u) (hu : isDict u) (q : SlotOk z H o s) : SlotOk z (upd H d (.frz od u)) o (lockS s) := by
  have g : Gs z z H (upd H d (.frz od u)) := .lock h hu
  cases s with
  | no => trivial
  | v x =>
    obtain ⟨h0, v, h1, h2⟩ := q
    cases x with
    | d x => exact ⟨trivial, v, h1, dt_go g x v h2⟩
    | dk kvs => obtain ⟨a, g1, g2, g3, g4⟩ := h2; exact ⟨a, by rw [h1, g1], g2.1, rd_lock h hu (.inl g3), g4⟩
    | dt kvs => obtain ⟨a, g1, g2, g3, g4⟩ := h2; exact ⟨a, by rw [h1, g1], g2.1, rd_lock h hu (.inl g3), g4⟩
    | bag => exact ⟨trivial, v, h1, bag_go g h2⟩
    | rf a => exact ⟨trivial, v, h1, h2⟩
    | q _ => exact h0.elim
    | rk _ => exact h0.elim
    | rt _ => exact h0.elim
    | fl _ => exact h0.elim
  | ol L xs =>
    obtain ⟨h1, h2, h3, vs, h4, h5, h6⟩ := q
    exact ⟨h1, h2, h3, vs, by rw [upd_ne fun e => by rw [e, h] at h4; exact (isDict_seq hu).1 _ (Option.some.inj h4)]; exact h4, dts_go g _ _ h5, h6⟩
  | ok L kvs => obtain ⟨h1, h2, h3, h4, h5⟩ := q; exact ⟨L, h1, h3, rd_lock h hu (.inl h4), h5⟩
  | ot L kvs => obtain ⟨h1, h2, h3, h4, h5⟩ := q; exact ⟨L, h1, h3, rd_lock h hu (.inl h4), h5⟩
  | lk kvs => obtain ⟨a, h1, h3, h4, h5⟩ := q; exact ⟨a, h1, h3, rd_lock h hu h4, h5⟩
  | lt kvs => obtain ⟨a, h1, h3, h4, h5⟩ := q; exact ⟨a, h1, h3, rd_lock h hu h4, h5⟩
  | fk kvs => obtain ⟨a, f, h1, h3, h4, h5⟩ := q; exact ⟨a, h1, h3, rd_lock h hu (.inr ⟨f, h4⟩), h5⟩
  | ft kvs => obtain ⟨a, f, h1, h3, h4, h5⟩ := q; exact ⟨a, h1, h3, rd_lock h hu (.inr ⟨f, h4⟩), h5⟩
  | tb P => exact q
section
variable {z z' : Fz} {σ : L2.St} {H H' : Hp} {Γ : Ev}
theorem Rp.stp (r : Rp z σ H Γ) (e : Stp z z' H H') (n : z'.n = z.n) (al : AlS z' H') : Rp z' σ H' Γ := ⟨by rw [n]; exact r.n, al, r.len, fun i s h => (r.sl i s h).stp e⟩
theorem Rp.up (r : Rp z σ H Γ) (e : ExB z.p H H') : Rp z σ H' Γ := r.stp (.ex e) rfl (r.al.up e)
theorem Rp.av {L : Addr} (r : Rp z σ H Γ) (l : H L = none) (e : ExB z.p H H') (a : Al L H') : Rp (z.av L) σ H' Γ := r.stp ((Stp.av l).trans (.ex (z := z.av L) e)) rfl ((r.al.up e).av a)
theorem al_upd {a d : Addr} {H : Hp} {o : HO} (t : ∀ xs, o ≠ .tup xs) (h : Al a H) : Al a (upd H d o) := by
  by_cases e : a = d
  · subst e; exact ⟨_, upd_same, t⟩
  · obtain ⟨w, hw, ht⟩ := h; exact ⟨w, by rw [upd_ne e]; exact hw, ht⟩
theorem AlS.upd {d : Addr} {o : HO} (t : ∀ xs, o ≠ .tup xs) (h : AlS z H) (g : Gd H d) : AlS z (upd H d o) := ⟨al_upd t h.1, fun a ha => al_upd t (h.2 a ha), fun P m => tab_upd g (h.3 P m)⟩
theorem dict_gd {d : Addr} {u : HO} (h : H d = some u) (hu : isDict u) : Gd H d := by
  cases u with
  | dK kvs => exact .dK h
  | dT kvs => exact .dT h
  | _ => exact hu.elim
theorem Rp.lock {d : Addr} {u : HO} {od : Obj} (r : Rp z σ H Γ) (h : H d = some u) (hu : isDict u) : Rp z σ (upd H d (.frz od u)) (Γ.map lockS) := ⟨r.n, AlS.upd (fun _ e => nomatch e) r.al (dict_gd h hu), by rw [List.length_map]; exact r.len, fun i s q => by
  rw [List.getElem?_map] at q
  cases g : Γ[i]? with
  | none => rw [g] at q; cases q
  | some t =>
    rw [g] at q
    have q := Option.some.inj q
    subst q
    exact (r.sl i t g).lock h hu⟩
def wipeE (Γ : Ev) : List Nat → Ev
  | [] => Γ
  | v :: vs => (wipeE Γ vs).set v .no
theorem set_get {α : Type} {l : List α} {i j : Nat} {x y : α} (h : (l.set i x)[j]? = some y) : (j = i ∧ i < l.length ∧ y = x) ∨ (j ≠ i ∧ l[j]? = some y) := by
  by_cases e : j = i
  · subst e
    have lt : j < l.length := by
      have := (List.getElem?_eq_some_iff.mp h).1
      rwa [List.length_set] at this
    rw [List.getElem?_set_self lt] at h
    exact .inl ⟨rfl, lt, (Option.some.inj h).symm⟩
  · rw [List.getElem?_set_ne (Ne.symm e)] at h
    exact .inr ⟨e, h⟩
theorem Rp.setS {i : Nat} {v : V} {s : Slot} (r : Rp z σ H Γ) (h : SlotOk z H (some (some v)) s) : Rp z (σ.set i (some v)) H (Γ.set i s) := ⟨r.n, r.al, by rw [List.length_set, List.length_set]; exact r.len, fun j t q => by
  rcases set_get q with ⟨e1, e2, e3⟩ | ⟨e1, e2⟩
  · subst e1 e3
    rw [List.getElem?_set_self (by rw [r.len]; exact e2)]
    exact h
  · rw [List.getElem?_set_ne (Ne.symm e1)]
    exact r.sl j t e2⟩
theorem Rp.set {i : Nat} {v : V} {x : Vx} (r : Rp z σ H Γ) (nx : nq x) (h : Dv z H v x) : Rp z (σ.set i (some v)) H (Γ.set i (.v x)) := r.setS ⟨nx, v, rfl, h⟩
theorem Rp.no {i : Nat} {o : Option V} (r : Rp z σ H Γ) : Rp z (σ.set i o) H (Γ.set i .no) := ⟨r.n, r.al, by rw [List.length_set, List.length_set]; exact r.len, fun j t q => by
  rcases set_get q with ⟨e1, e2, e3⟩ | ⟨e1, e2⟩
  · subst e3; trivial
  · rw [List.getElem?_set_ne (Ne.symm e1)]
    exact r.sl j t e2⟩
/-- a slot told otherwise -/
theorem Rp.re {i : Nat} {s : Slot} (r : Rp z σ H Γ) (h : SlotOk z H σ[i]? s) : Rp z σ H (Γ.set i s) := ⟨r.n, r.al, by rw [List.length_set]; exact r.len, fun j t q => by
  rcases set_get q with ⟨e1, e2, e3⟩ | ⟨e1, e2⟩
  · subst e1 e3; exact h
  · exact r.sl j t e2⟩
theorem Rp.wipe (r : Rp z σ H Γ) : ∀ vs : List Nat, Rp z (L2.wipe σ vs) H (wipeE Γ vs)
  | [] => r
  | v :: vs => (r.wipe vs).no
end
end Dm
namespace Dm
open PySem L2 Pb
/-- what hangs on R: words do not go into R then -/
structure Box {α : Type} (R : α) : Type where
abbrev WE := Ev → (Vx → Prop) → Prop
abbrev WT := Ev → (Bool → Prop) → Prop
abbrev WA := Ev → (List Vx → Prop) → Prop
abbrev WO := Ev → (Option Int → Prop) → Prop
abbrev O2 := Vx → Vx → (Vx → Prop) → Prop
abbrev OA := List Vx → (Vx → Prop) → Prop
def DvAll (z : Fz) (H : Hp) : List V → List Vx → Prop
  | [], [] => True
  | v :: vs, x :: xs => Dv z H v x ∧ DvAll z H vs xs
  | _, _ => False
theorem DvAll.up {z : Fz} {H H' : Hp} (e : ExB z.p H H') : ∀ {vs : List V} {xs : List Vx}, DvAll z H vs xs → DvAll z H' vs xs
  | [], [], _ => trivial
  | v :: vs, x :: xs, h => ⟨h.1.up e, DvAll.up e h.2⟩
  | [], _ :: _, h => h.elim
  | _ :: _, [], h => h.elim
section
variable {z : Fz} {H : Hp}
theorem dI (i : Int) : Dv z H (.int i) (.d (.int i)) := Dt.int i
theorem dB (b : Bool) : Dv z H (.bl b) (.d (.bool b)) := Dt.bl b
theorem dN : Dv z H .non (.d .none) := Dt.non
theorem dS (x : Str) (h : x.length ≤ z.n ∧ PyData.strOk x = true) : Dv z H (.str x) (.d (.str x)) := Dt.str x h
theorem dL {a : Addr} {xs : List V} {ds : List PyData} (h1 : a ≠ z.p ∧ a ∉ z.S) (h2 : H a = some (.lst xs)) (h3 : xs.length ≤ z.n) (h4 : DtAll z H xs ds) : Dv z H (.ref a) (.d (.list ds)) := Dt.lst h1 h2 h3 h4
theorem dT {a : Addr} {xs : List V} {ds : List PyData} (h1 : a ≠ z.p ∧ a ∉ z.S) (h2 : H a = some (.tup xs)) (h3 : xs.length ≤ z.n) (h4 : DtAll z H xs ds) : Dv z H (.ref a) (.d (.tuple ds)) := Dt.tup h1 h2 h3 h4
theorem dQ {a : Addr} {xs : List V} {ds : List PyData} (h1 : a ≠ z.p) (h2 : H a = some (.lst xs)) (h4 : DtAll z H xs ds) (h3 : xs.length ≤ z.n) : Dv z H (.ref a) (.q ds) := ⟨a, xs, rfl, h1, h2, h4, h3⟩
theorem dRk {a : Addr} {kvs : List Si} (h1 : a ≠ z.p) (h2 : Rd H a (.dK (kvs.map keyed))) (h3 : okK kvs) : Dv z H (.ref a) (.rk kvs) := ⟨a, rfl, h1, h2, h3⟩
theorem dRt {a : Addr} {kvs : List Tk} (h1 : a ≠ z.p) (h2 : Rd H a (.dT (kvs.map keyed2))) (h3 : okT kvs) : Dv z H (.ref a) (.rt kvs) := ⟨a, rfl, h1, h2, h3⟩
theorem dD {v : V} {d : PyData} (h : Dt z H v d) : Dv z H v (.d d) := h
end
structure SndE (te : TE) (we : WE) : Prop where
  run : ∀ (z : Fz) (σ : L2.St) (H : Hp) (Γ : Ev) (R : Vx → Prop) (Q : VK), Rp z σ H Γ → we Γ R → (∀ v x H2, ExB z.p H H2 → Dv z H2 v x → R x → Q v H2) → te σ H Q
structure SndT (tt : TT) (wt : WT) : Prop where
  run : ∀ (z : Fz) (σ : L2.St) (H : Hp) (Γ : Ev) (R : Bool → Prop) (Q : Bool → Hp → Prop), Rp z σ H Γ → wt Γ R → (∀ b H2, ExB z.p H H2 → R b → Q b H2) → tt σ H Q
structure SndA (ta : TA) (wa : WA) : Prop where
  run : ∀ (z : Fz) (σ : L2.St) (H : Hp) (Γ : Ev) (R : List Vx → Prop) (Q : List V → Hp → Prop), Rp z σ H Γ → wa Γ R → (∀ vs xs H2, ExB z.p H H2 → DvAll z H2 vs xs → R xs → Q vs H2) → ta σ H Q
structure SndO (tt : TO) (wo : WO) : Prop where
  run : ∀ (z : Fz) (σ : L2.St) (H : Hp) (Γ : Ev) (R : Option Int → Prop) (Q : Option Int → Hp → Prop), Rp z σ H Γ → wo Γ R → (∀ o H2, ExB z.p H H2 → R o → Q o H2) → tt σ H Q
structure SndOp (r : R2) (o : O2) : Prop where
  run : ∀ (z : Fz) (H : Hp) (v w : V) (x y : Vx) (R : Vx → Prop) (Q : VK), z.n = NN → AlS z H → Dv z H v x → Dv z H w y → o x y R → (∀ u t H2, ExB z.p H H2 → Dv z H2 u t → R t → Q u H2) → r v w H Q
structure SndC (r : List V → Hp → VK → Prop) (o : OA) : Prop where
  run : ∀ (z : Fz) (H : Hp) (vs : List V) (xs : List Vx) (R : Vx → Prop) (Q : VK), z.n = NN → AlS z H → DvAll z H vs xs → o xs R → (∀ u t H2, ExB z.p H H2 → Dv z H2 u t → R t → Q u H2) → r vs H Q
/-! ### names, constants -/
def readS : Slot → Option Vx
  | .v x => some x
  | .ol _ xs => some (.q xs)
  | .ok _ kvs => some (.rk kvs)
  | .ot _ kvs => some (.rt kvs)
  | .lk kvs => some (.rk kvs)
  | .lt kvs => some (.rt kvs)
  | .fk kvs => some (.rk kvs)
  | .ft kvs => some (.rt kvs)
  | .tb _ => none
  | .no => none
def wVar (i : Nat) : WE := fun Γ R => match Γ[i]? with
  | some s => match readS s with
    | some x => R x
    | none => False
  | none => False
theorem read_ok {z : Fz} {H : Hp} {o : Option (Option V)} {s : Slot} {x : Vx} (n : z.n = NN) (h : SlotOk z H o s) (e : readS s = some x) : ∃ v, o = some (some v) ∧ Dv z H v x := by
  cases s with
  | no => cases e
  | v y => cases e; exact h.2
  | ol L xs => cases e; obtain ⟨h1, h2, h3, vs, h4, h5, h6⟩ := h; exact ⟨_, h1, dQ h3 h4 h5 (by rw [n]; exact h6)⟩
  | ok L kvs => cases e; obtain ⟨h1, h2, h3, h4, h5⟩ := h; exact ⟨_, h1, dRk h3 (.inl h4) h5⟩
  | ot L kvs => cases e; obtain ⟨h1, h2, h3, h4, h5⟩ := h; exact ⟨_, h1, dRt h3 (.inl h4) h5⟩
  | lk kvs => cases e; obtain ⟨a, h1, h3, h4, h5⟩ := h; exact ⟨_, h1, dRk h3 h4 h5⟩
  | lt kvs => cases e; obtain ⟨a, h1, h3, h4, h5⟩ := h; exact ⟨_, h1, dRt h3 h4 h5⟩
  | fk kvs => cases e; obtain ⟨a, f, h1, h3, h4, h5⟩ := h; exact ⟨_, h1, dRk h3 (.inr ⟨f, h4⟩) h5⟩
  | ft kvs => cases e; obtain ⟨a, f, h1, h3, h4, h5⟩ := h; exact ⟨_, h1, dRt h3 (.inr ⟨f, h4⟩) h5⟩
  | tb P => cases e
theorem snd_var (i : Nat) : SndE (tVar i) (wVar i) := ⟨fun z σ H Γ R Q r w k => by
  unfold wVar at w
  split at w
  · rename_i s h
    split at w
    · rename_i x e
      obtain ⟨v, h1, h2⟩ := read_ok r.n (r.sl i s h) e
      exact ⟨v, h1, k v x H (.refl _ H) h2 w⟩
    · exact w.elim
  · exact w.elim⟩
def wK (x : Vx) : WE := fun _ R => R x
theorem snd_int (i : Int) : SndE (tC (.int i)) (wK (.d (.int i))) := ⟨fun z σ H Γ R Q r w k => k _ _ H (.refl _ H) (dI i) w⟩
theorem snd_bl (b : Bool) : SndE (tC (.bl b)) (wK (.d (.bool b))) := ⟨fun z σ H Γ R Q r w k => k _ _ H (.refl _ H) (dB b) w⟩
theorem snd_non : SndE (tC .non) (wK (.d .none)) := ⟨fun z σ H Γ R Q r w k => k _ _ H (.refl _ H) dN w⟩
theorem snd_str (x : Str) (h : (decide (x.length ≤ NN) && PyData.strOk x) = true) : SndE (tC (.str x)) (wK (.d (.str x))) := ⟨fun z σ H Γ R Q r w k => k _ _ H (.refl _ H) (dS x (by
  rw [Bool.and_eq_true] at h
  rw [r.n]
  exact ⟨of_decide_eq_true h.1, h.2⟩)) w⟩
/-! ### operators -/
def wOp (o : O2) (wa wb : WE) : WE := fun Γ R => wa Γ fun x => wb Γ fun y => o x y R
theorem snd_op {r : R2} {o : O2} {ta tb : TE} {wa wb : WE} (ho : SndOp r o) (ha : SndE ta wa) (hb : SndE tb wb) : SndE (tOp r ta tb) (wOp o wa wb) := ⟨fun z σ H Γ R Q r w k =>
  ha.run z σ H Γ _ _ r w fun v x H2 e2 hx w2 => hb.run z σ H2 Γ _ _ (r.up e2) w2 fun u y H3 e3 hy w3 => ho.run z H3 v u x y R Q r.n ((r.al.up e2).up e3) (hx.up e3) hy w3 fun u t H4 e4 ht rt => k u t H4 ((e2.trans e3).trans e4) ht rt⟩
def oI (C : Int → Int → Prop) (g : Int → Int → PyData) : O2
  | .d (.int i), .d (.int j), R => C i j ∧ R (.d (g i j))
  | _, _, _ => False
theorem oI_inv {C : Int → Int → Prop} {g : Int → Int → PyData} {x y : Vx} {R : Vx → Prop} (h : oI C g x y R) : ∃ i j, x = .d (.int i) ∧ y = .d (.int j) ∧ C i j ∧ R (.d (g i j)) := by
  unfold oI at h
  split at h
  · exact ⟨_, _, rfl, rfl, h⟩
  · exact h.elim
theorem so_rI {C C' : Int → Int → Prop} {g : Int → Int → Int} (hc : ∀ i j, C' i j → C i j) : SndOp (rI C fun i j => .int (g i j)) (oI C' fun i j => .int (g i j)) := ⟨fun z H v w x y R Q n al hx hy o k => by
  obtain ⟨i, j, rfl, rfl, c, q⟩ := oI_inv o
  cases hx; cases hy
  exact ⟨i, j, rfl, rfl, hc _ _ c, k _ _ H (.refl _ H) (dI _) q⟩⟩
abbrev cT : Int → Int → Prop := fun _ _ => True
theorem so_rI0 {g : Int → Int → Int} : SndOp (rI0 fun i j => .int (g i j)) (oI cT fun i j => .int (g i j)) := ⟨fun z H v w x y R Q n al hx hy o k => by
  obtain ⟨i, j, rfl, rfl, c, q⟩ := oI_inv o
  cases hx; cases hy
  exact ⟨i, j, rfl, rfl, k _ _ H (.refl _ H) (dI _) q⟩⟩
abbrev oSub : O2 := oI cT fun i j => .int (i - j)
abbrev cMul : Int → Int → Prop := fun i j => (-18446744073709551616 < i ∧ i < 18446744073709551616) ∨ (-18446744073709551616 < j ∧ j < 18446744073709551616)
abbrev oMul : O2 := oI cMul fun i j => .int (i * j)
abbrev cDiv : Int → Int → Prop := fun _ j => 0 < j ∧ j ≤ 1000000000000000000000000
abbrev oDiv : O2 := oI cDiv fun i j => .int (i / j)
abbrev oMod : O2 := oI (fun _ j => 0 < j) fun i j => .int (i % j)
theorem so_sub : SndOp (rI0 fun i j => .int (i - j)) oSub := so_rI0
theorem so_mul : SndOp (rI CMul fun i j => .int (i * j)) oMul := so_rI fun i j h => by
  rcases h with h | h
  · exact .inl ⟨by omega, by omega⟩
  · exact .inr ⟨by omega, by omega⟩
theorem so_div : SndOp (rI CDivW fun i j => .int (i / j)) oDiv := so_rI fun i j h => wide_div (b := 100) h.1 (by have := h.2; have := h.1; omega) (by decide) (by decide)
theorem so_mod : SndOp (rI (fun _ j => 0 < j) fun i j => .int (i % j)) oMod := so_rI fun i j h => h
theorem snd_pow {a b c : Int} {ta tb : TE} (ha : ta = tC (.int a)) (hb : tb = tC (.int b)) (h : (decide (0 ≤ b) && decide (b ≤ 1000000) && decide (a.natAbs < 18446744073709551616)) = true) (e : a ^ b.toNat = c) : SndE (tOp (rI CPow fun i j => .int (i ^ j.toNat)) ta tb) (wK (.d (.int c))) := ⟨fun z σ H Γ R Q r w k => by
  subst ha hb e
  simp only [Bool.and_eq_true, decide_eq_true_eq] at h
  exact ⟨a, b, rfl, rfl, ⟨h.1.1, h.1.2, h.2⟩, k _ _ H (.refl _ H) (dI _) w⟩⟩
/-! comparisons of ints, of texts -/
def oCmp (f : Int → Int → Bool) (g : List Nat → List Nat → Bool) : O2
  | .d (.int i), .d (.int j), R => R (.d (.bool (f i j)))
  | .d (.str a), .d (.str b), R => R (.d (.bool (g a.cps.toList b.cps.toList)))
  | _, _, _ => False
def uCmp (f : Int → Int → Bool) (g : List Nat → List Nat → Bool) : R2 := fun x y H Q => (∃ i j, x = .int i ∧ y = .int j ∧ Q (.bl (f i j)) H) ∨ ∃ i j : Str, x = .str i ∧ y = .str j ∧ Q (.bl (g i.cps.toList j.cps.toList)) H
theorem so_cmp {f : Int → Int → Bool} {g : List Nat → List Nat → Bool} : SndOp (uCmp f g) (oCmp f g) := ⟨fun z H v w x y R Q n al hx hy o k => by
  unfold oCmp at o
  split at o
  · cases hx; cases hy
    exact .inl ⟨_, _, rfl, rfl, k _ _ H (.refl _ H) (dB _) o⟩
  · cases hx; cases hy
    exact .inr ⟨_, _, rfl, rfl, k _ _ H (.refl _ H) (dB _) o⟩
  · exact o.elim⟩
abbrev uLt : R2 := uCmp (fun i j => decide (i < j)) fun a b => decide (a < b)
abbrev uLe : R2 := uCmp (fun i j => decide (i ≤ j)) fun a b => !decide (b < a)
abbrev uGt : R2 := uCmp (fun i j => decide (j < i)) fun a b => decide (b < a)
abbrev uGe : R2 := uCmp (fun i j => decide (j ≤ i)) fun a b => !decide (a < b)
abbrev oLt : O2 := oCmp (fun i j => decide (i < j)) fun a b => decide (a < b)
abbrev oLe : O2 := oCmp (fun i j => decide (i ≤ j)) fun a b => !decide (b < a)
abbrev oGt : O2 := oCmp (fun i j => decide (j < i)) fun a b => decide (b < a)
abbrev oGe : O2 := oCmp (fun i j => decide (j ≤ i)) fun a b => !decide (a < b)
theorem opR_or {X : Cx} {f : Value → Value → Sem Value} {r r' : R2} (h : OpR X f r) (h' : OpR X f r') : OpR X f (fun x y H Q => r x y H Q ∨ r' x y H Q) := fun pins s σ H x y v u Q I rx ry q => q.elim (h pins s σ H x y v u Q I rx ry) (h' pins s σ H x y v u Q I rx ry)
theorem un_lt {X : Cx} : OpR X (compareOp .Lt) uLt := opR_or op_lt op_lt_str
theorem un_le {X : Cx} : OpR X (compareOp .LtE) uLe := opR_or op_le op_le_str
theorem un_gt {X : Cx} : OpR X (compareOp .Gt) uGt := opR_or op_gt op_gt_str
theorem un_ge {X : Cx} : OpR X (compareOp .GtE) uGe := opR_or op_ge op_ge_str
/-! == and != of data -/
def datOf : Vx → Option PyData
  | .d x => some x
  | .q ds => some (.list ds)
  | _ => none
theorem dat_dp {z : Fz} {H : Hp} {v : V} {x : Vx} {a : PyData} {K : PySem.W.Frag} (h : datOf x = some a) (hx : Dv z H v x) : Dp K H v a ∧ a.canLay0 = true := by
  cases x with
  | d y => cases (Option.some.inj h); exact ⟨Dt.dp' _ _ hx, Dt.lay' _ _ hx⟩
  | q ds =>
    cases (Option.some.inj h)
    obtain ⟨p, vs, rfl, h1, h2, h3, h4⟩ := hx
    exact ⟨.lst (.inl (.inl h2)) (DtAll.dp' _ _ h3), by simp only [PyData.canLay0]; exact DtAll.lay' _ _ h3⟩
  | _ => cases h
def oEqv (f : Bool → Bool) : O2 := fun x y R => match datOf x, datOf y with
  | some a, some b => a.depth ≤ 64 ∧ b.depth ≤ 64 ∧ R (.d (.bool (f (PyData.eqv a b))))
  | _, _ => False
theorem shaped_of {d : PyData} (h : d.canLay0 = true) (l : d.depth ≤ 64) : SeqAt.shaped d = true := by
  show (d.canLay0 && decide (d.depth ≤ 64)) = true
  rw [h, decide_eq_true l]; rfl
theorem so_eq {K : PySem.W.Frag} : SndOp (rEqD K) (oEqv id) := ⟨fun z H v w x y R Q n al hx hy o k => by
  unfold oEqv at o
  split at o
  · rename_i a b e1 e2
    obtain ⟨d1, c1⟩ := dat_dp (K := K) e1 hx
    obtain ⟨d2, c2⟩ := dat_dp (K := K) e2 hy
    exact ⟨_, _, d1, d2, shaped_of c1 o.1, shaped_of c2 o.2.1, k _ _ H (.refl _ H) (dB _) o.2.2⟩
  · exact o.elim⟩
theorem so_ne {K : PySem.W.Frag} : SndOp (rNeD K) (oEqv not) := ⟨fun z H v w x y R Q n al hx hy o k => by
  unfold oEqv at o
  split at o
  · rename_i a b e1 e2
    obtain ⟨d1, c1⟩ := dat_dp (K := K) e1 hx
    obtain ⟨d2, c2⟩ := dat_dp (K := K) e2 hy
    exact ⟨_, _, d1, d2, shaped_of c1 o.1, shaped_of c2 o.2.1, k _ _ H (.refl _ H) (dB _) o.2.2⟩
  · exact o.elim⟩
/-! is None -/
def isNoneD : PyData → Bool
  | .none => true
  | _ => false
def oIsN (f : Bool → Bool) : O2
  | .d x, .d .none, R => R (.d (.bool (f (isNoneD x))))
  | _, _, _ => False
def rIsNo : R2 := fun x y H Q => y = .non ∧ Q (.bl (decide (x = .non))) H
def rIsNotNo : R2 := fun x y H Q => y = .non ∧ Q (.bl (!decide (x = .non))) H
theorem un_isN {X : Cx} : OpR X (compareOp .Is) rIsNo := op_isN
theorem un_notN {X : Cx} : OpR X (compareOp .IsNot) rIsNotNo := op_notN
theorem dt_non {z : Fz} {H : Hp} {v : V} {x : PyData} (h : Dt z H v x) : decide (v = .non) = (isNoneD x) := by
  cases h <;> rfl
theorem so_isN : SndOp rIsNo (oIsN id) := ⟨fun z H v w x y R Q n al hx hy o k => by
  unfold oIsN at o
  split at o
  · cases hy
    exact ⟨rfl, by rw [dt_non hx]; exact k _ _ H (.refl _ H) (dB _) o⟩
  · exact o.elim⟩
theorem so_notN : SndOp rIsNotNo (oIsN not) := ⟨fun z H v w x y R Q n al hx hy o k => by
  unfold oIsN at o
  split at o
  · cases hy
    exact ⟨rfl, by rw [dt_non hx]; exact k _ _ H (.refl _ H) (dB _) o⟩
  · exact o.elim⟩
/-! + -/
def oAdd : O2
  | .d (.int i), .d (.int j), R => R (.d (.int (i + j)))
  | .d (.str a), .d (.str b), R => okS (a ++ b) ∧ a.length + b.length ≤ NN ∧ R (.d (.str (a ++ b)))
  | .d (.list a), .d (.list b), R => a.length + b.length ≤ NN ∧ R (.d (.list (a ++ b)))
  | .q a, .d (.list b), R => a.length + b.length ≤ NN ∧ R (.d (.list (a ++ b)))
  | .d (.list a), .q b, R => a.length + b.length ≤ NN ∧ R (.d (.list (a ++ b)))
  | .d (.tuple a), .d (.tuple b), R => a.length + b.length ≤ NN ∧ R (.d (.tuple (a ++ b)))
  | _, _, _ => False
def rAddS : R2 := fun x y H Q => ∃ i j : Str, x = .str i ∧ y = .str j ∧ i.length + j.length ≤ sizeLine ∧ Q (.str (i ++ j)) H
def uAdd (K : PySem.W.Frag) : R2 := fun x y H Q => rI0 (fun i j => .int (i + j)) x y H Q ∨ rAddS x y H Q ∨ rCat x y H Q ∨ rCatA K x y H Q
theorem un_add {X : Cx} {K : PySem.W.Frag} (e : X.K = K) : OpR X (binaryOp .Add) (uAdd K) := opR_or op_add (opR_or op_add_str (opR_or op_cat (e ▸ op_catA)))
theorem cat_go {z : Fz} {H : Hp} {p1 p2 : Addr} {vs ws : List V} {a b : List PyData} {Q : VK} {R : Vx → Prop} (n : z.n = NN) (al : AlS z H) (h1 : H p1 = some (.lst vs)) (h2 : DtAll z H vs a) (h3 : H p2 = some (.lst ws)) (h4 : DtAll z H ws b) (l : a.length + b.length ≤ NN) (r : R (.d (.list (a ++ b))))
    (k : ∀ u t H2, ExB z.p H H2 → Dv z H2 u t → R t → Q u H2) : rCat (.ref p1) (.ref p2) H Q :=
  ⟨_, _, _, _, rfl, rfl, h1, h3, by rw [h2.length, h4.length]; exact Nat.le_trans l NN_line, fun t ht => k _ _ _ (.new ht) (dL (al.ne ht) upd_same (by rw [List.length_append, h2.length, h4.length, n]; exact l) ((h2.append h4).mono (.new ht))) r⟩
theorem so_add {K : PySem.W.Frag} : SndOp (uAdd K) oAdd := ⟨fun z H v w x y R Q n al hx hy o k => by
  unfold oAdd at o
  split at o
  · cases hx; cases hy
    exact .inl ⟨_, _, rfl, rfl, k _ _ H (.refl _ H) (dI _) o⟩
  · cases hx; cases hy
    exact .inr (.inl ⟨_, _, rfl, rfl, Nat.le_trans o.2.1 NN_line, k _ _ H (.refl _ H) (dS _ (by rw [n]; exact o.1)) o.2.2⟩)
  · cases hx with
    | lst d1 d2 d3 d4 => cases hy with | lst f1 f2 f3 f4 => exact .inr (.inr (.inl (cat_go n al d2 d4 f2 f4 o.1 o.2 k)))
  · obtain ⟨a, vs, rfl, h1, h2, h3, h4⟩ := hx
    cases hy with | lst f1 f2 f3 f4 => exact .inr (.inr (.inl (cat_go n al h2 h3 f2 f4 o.1 o.2 k)))
  · obtain ⟨a, vs, rfl, h1, h2, h3, h4⟩ := hy
    cases hx with | lst f1 f2 f3 f4 => exact .inr (.inr (.inl (cat_go n al f2 f4 h2 h3 o.1 o.2 k)))
  · have hx' := hx
    have hy' := hy
    cases hx with
    | tup d1 d2 d3 d4 =>
      cases hy with
      | tup f1 f2 f3 f4 =>
        refine .inr (.inr (.inr ⟨_, _, _, _, rfl, rfl, .inl (.inl d2), .inl (.inl f2), by rw [d4.length, f4.length]; exact Nat.le_trans o.1 NN_line, fun h => ?_, fun h h' => ?_, fun h h' t ht => ?_⟩))
        · subst h
          cases d4
          exact k _ _ H (.refl _ H) hy' o.2
        · subst h'
          cases f4
          rw [List.append_nil] at o
          exact k _ _ H (.refl _ H) hx' o.2
        · exact k _ _ _ (.new ht) (dT (al.ne ht) upd_same (by rw [List.length_append, d4.length, f4.length, n]; exact o.1) ((d4.append f4).mono (.new ht))) o.2
  · exact o.elim⟩
/-! items -/
def oIx : O2
  | .d (.list ds), .d (.int i), R => ∃ d, atI ds i = some d ∧ R (.d d)
  | .q ds, .d (.int i), R => ∃ d, atI ds i = some d ∧ R (.d d)
  | .d (.tuple ds), .d (.int i), R => ∃ d, atI ds i = some d ∧ R (.d d)
  | _, _, _ => False
theorem atI_dt {z : Fz} {H : Hp} {vs : List V} {ds : List PyData} {i : Int} {d : PyData} (h : DtAll z H vs ds) (e : atI ds i = some d) : ∃ v, atI vs i = some v ∧ Dt z H v d := by
  have hl := h.length
  unfold atI at e ⊢
  rw [hl]
  cases q : ixN ds.length i with
  | none => rw [q] at e; cases e
  | some j =>
    rw [q] at e
    exact h.at e
theorem un_ix {X : Cx} {K : PySem.W.Frag} (e : X.K = K) : IxR X (rIx K) := e ▸ ix_seq
theorem so_ix {K : PySem.W.Frag} : SndOp (rIx K) oIx := ⟨fun z H v w x y R Q n al hx hy o k => by
  unfold oIx at o
  split at o
  · obtain ⟨d, e, r⟩ := o
    cases hy
    cases hx with
    | lst d1 d2 d3 d4 =>
      obtain ⟨u, g1, g2⟩ := atI_dt d4 e
      exact .inl ⟨_, _, _, u, rfl, rfl, .inl (.inl d2), g1, k _ _ H (.refl _ H) (dD g2) r⟩
  · obtain ⟨d, e, r⟩ := o
    cases hy
    obtain ⟨a, vs, rfl, h1, h2, h3, h4⟩ := hx
    obtain ⟨u, g1, g2⟩ := atI_dt h3 e
    exact .inl ⟨_, _, _, u, rfl, rfl, .inl (.inl h2), g1, k _ _ H (.refl _ H) (dD g2) r⟩
  · obtain ⟨d, e, r⟩ := o
    cases hy
    cases hx with
    | tup d1 d2 d3 d4 =>
      obtain ⟨u, g1, g2⟩ := atI_dt d4 e
      exact .inr (.inl ⟨_, _, _, u, rfl, rfl, .inl (.inl d2), g1, k _ _ H (.refl _ H) (dD g2) r⟩)
  · exact o.elim⟩
/-! in -/
def flatD : PyData → Bool
  | .none => true
  | .bool _ => true
  | .int _ => true
  | .str _ => true
  | _ => false
def inD (x : PyData) (ds : List PyData) : Bool := ds.any fun d => PyData.eqv d x
def oIn (f : Bool → Bool) : O2
  | .d x, .d (.tuple ds), R => flatD x = true ∧ ds.all flatD = true ∧ R (.d (.bool (f (inD x ds))))
  | .d x, .d (.list ds), R => flatD x = true ∧ ds.all flatD = true ∧ R (.d (.bool (f (inD x ds))))
  | .d x, .q ds, R => flatD x = true ∧ ds.all flatD = true ∧ R (.d (.bool (f (inD x ds))))
  | _, _, _ => False
theorem flat_eq {z : Fz} {H : Hp} {v w : V} {d x : PyData} (hd : Dt z H v d) (hx : Dt z H w x) (fd : flatD d = true) (fx : flatD x = true) : eqV v w = PyData.eqv d x := by
  cases hd <;> cases hx <;> first | rfl | cases fd | cases fx
theorem flat_v {z : Fz} {H : Hp} {v : V} {d : PyData} (h : Dt z H v d) (f : flatD d = true) : flatV v = true := by
  cases h <;> first | rfl | cases f
theorem in_all {z : Fz} {H : Hp} {w : V} {x : PyData} (hx : Dt z H w x) (fx : flatD x = true) : ∀ {vs : List V} {ds : List PyData}, DtAll z H vs ds → ds.all flatD = true → vs.all flatV = true ∧ inV w vs = inD x ds
  | _, _, .nil, _ => ⟨rfl, rfl⟩
  | _, _, .cons (v := v) (d := d) a t, h => by
    rw [List.all_cons, Bool.and_eq_true] at h
    obtain ⟨i1, i2⟩ := in_all hx fx t h.2
    refine ⟨by rw [List.all_cons, flat_v a h.1, i1]; rfl, ?_⟩
    unfold inV inD at i2 ⊢
    rw [List.any_cons, List.any_cons, i2, flat_eq a hx h.1 fx]
def uIn (K : PySem.W.Frag) (neg : Bool) : R2 := rIn K neg
theorem un_in {X : Cx} {K : PySem.W.Frag} (e : X.K = K) : OpR X (compareOp .In) (rIn K false) := e ▸ op_in_seq
theorem un_notIn {X : Cx} {K : PySem.W.Frag} (e : X.K = K) : OpR X (compareOp .NotIn) (rIn K true) := e ▸ op_notIn_seq
theorem so_in1 {K : PySem.W.Frag} {neg : Bool} : SndOp (rIn K neg) (oIn fun b => if neg then !b else b) := ⟨fun z H v w x y R Q n al hx hy o k => by
  unfold oIn at o
  split at o
  · cases hy with
    | tup d1 d2 d3 d4 =>
      obtain ⟨g1, g2⟩ := in_all hx o.1 d4 o.2.1
      exact ⟨_, _, rfl, .inr (.inl (.inl d2)), flat_v hx o.1, g1, by rw [g2]; exact k _ _ H (.refl _ H) (dB _) o.2.2⟩
  · cases hy with
    | lst d1 d2 d3 d4 =>
      obtain ⟨g1, g2⟩ := in_all hx o.1 d4 o.2.1
      exact ⟨_, _, rfl, .inl (.inl (.inl d2)), flat_v hx o.1, g1, by rw [g2]; exact k _ _ H (.refl _ H) (dB _) o.2.2⟩
  · obtain ⟨a, vs, rfl, h1, h2, h3, h4⟩ := hy
    obtain ⟨g1, g2⟩ := in_all hx o.1 h3 o.2.1
    exact ⟨_, _, rfl, .inl (.inl (.inl h2)), flat_v hx o.1, g1, by rw [g2]; exact k _ _ H (.refl _ H) (dB _) o.2.2⟩
  · exact o.elim⟩
theorem so_in {K : PySem.W.Frag} : SndOp (rIn K false) (oIn id) := so_in1
theorem so_notIn {K : PySem.W.Frag} : SndOp (rIn K true) (oIn not) := so_in1
/-! ### - , and, or, not, if -/
def wNeg (wa : WE) : WE := fun Γ R => wa Γ fun x => match x with
  | .d (.int i) => R (.d (.int (-i)))
  | _ => False
theorem snd_neg {ta : TE} {wa : WE} (ha : SndE ta wa) : SndE (tUn (rU fun i => .int (-i)) ta) (wNeg wa) := ⟨fun z σ H Γ R Q r w k => ha.run z σ H Γ _ _ r w fun v x H2 e2 hx w2 => by
  split at w2
  · cases hx; exact ⟨_, rfl, k _ _ H2 e2 (dI _) w2⟩
  · exact w2.elim⟩
def wBl (wa : WE) (f : Bool → (Vx → Prop) → Prop) : (Ev → (Vx → Prop) → Prop) := fun Γ R => wa Γ fun x => match x with
  | .d (.bool b) => f b R
  | _ => False
def wAndV (wa wb : WE) : WE := fun Γ R => wa Γ fun x => match x with
  | .d (.bool c) => if c = true then wb Γ R else R (.d (.bool false))
  | _ => False
def wOrV (wa wb : WE) : WE := fun Γ R => wa Γ fun x => match x with
  | .d (.bool c) => if c = true then R (.d (.bool true)) else wb Γ R
  | _ => False
def wNotV (wa : WE) : WE := fun Γ R => wa Γ fun x => match x with
  | .d (.bool c) => R (.d (.bool (!c)))
  | _ => False
theorem snd_andV {ta tb : TE} {wa wb : WE} (ha : SndE ta wa) (hb : SndE tb wb) : SndE (tAndV ta tb) (wAndV wa wb) := ⟨fun z σ H Γ R Q r w k => ha.run z σ H Γ _ _ r w fun v x H2 e2 hx w2 => by
  split at w2
  · rename_i c
    cases hx
    refine ⟨c, rfl, ?_⟩
    split at w2
    · rename_i h; rw [if_pos h]; exact hb.run z σ H2 Γ _ _ (r.up e2) w2 fun v x H3 e3 => k v x H3 (e2.trans e3)
    · rename_i h; rw [if_neg h]; exact k _ _ H2 e2 (dB _) w2
  · exact w2.elim⟩
theorem snd_orV {ta tb : TE} {wa wb : WE} (ha : SndE ta wa) (hb : SndE tb wb) : SndE (tOrV ta tb) (wOrV wa wb) := ⟨fun z σ H Γ R Q r w k => ha.run z σ H Γ _ _ r w fun v x H2 e2 hx w2 => by
  split at w2
  · rename_i c
    cases hx
    refine ⟨c, rfl, ?_⟩
    split at w2
    · rename_i h; rw [if_pos h]; exact k _ _ H2 e2 (dB _) w2
    · rename_i h; rw [if_neg h]; exact hb.run z σ H2 Γ _ _ (r.up e2) w2 fun v x H3 e3 => k v x H3 (e2.trans e3)
  · exact w2.elim⟩
theorem snd_notV {ta : TE} {wa : WE} (ha : SndE ta wa) : SndE (tNotV ta) (wNotV wa) := ⟨fun z σ H Γ R Q r w k => ha.run z σ H Γ _ _ r w fun v x H2 e2 hx w2 => by
  split at w2
  · cases hx; exact ⟨_, rfl, k _ _ H2 e2 (dB _) w2⟩
  · exact w2.elim⟩
def wTst (wa : WE) : WT := fun Γ R => wa Γ fun x => match x with
  | .d (.bool b) => R b
  | _ => False
theorem snd_tB {ta : TE} {wa : WE} (ha : SndE ta wa) : SndT (tB ta) (wTst wa) := ⟨fun z σ H Γ R Q r w k => ha.run z σ H Γ _ _ r w fun v x H2 e2 hx w2 => by
  split at w2
  · cases hx; exact ⟨_, rfl, k _ H2 e2 w2⟩
  · exact w2.elim⟩
theorem snd_tTest {ta : TE} {wa : WE} (ha : SndE ta wa) : SndT (tTest ta) (wTst wa) := ⟨fun z σ H Γ R Q r w k => ha.run z σ H Γ _ _ r w fun v x H2 e2 hx w2 => by
  split at w2
  · cases hx; exact ⟨_, rfl, k _ H2 e2 w2⟩
  · exact w2.elim⟩
def wNot (wt : WT) : WT := fun Γ R => wt Γ fun b => R (!b)
def wAnd (wa wb : WT) : WT := fun Γ R => wa Γ fun c => if c = true then wb Γ R else R false
def wOr (wa wb : WT) : WT := fun Γ R => wa Γ fun c => if c = true then R true else wb Γ R
theorem snd_not {t : TT} {w : WT} (h : SndT t w) : SndT (tNot t) (wNot w) := ⟨fun z σ H Γ R Q r w k => h.run z σ H Γ _ _ r w fun b H2 e2 w2 => k _ H2 e2 w2⟩
theorem snd_and {t u : TT} {wa wb : WT} (ha : SndT t wa) (hb : SndT u wb) : SndT (tAnd t u) (wAnd wa wb) := ⟨fun z σ H Γ R Q r w k => ha.run z σ H Γ _ _ r w fun b H2 e2 w2 => by
  split at w2
  · rename_i h; rw [if_pos h]; exact hb.run z σ H2 Γ _ _ (r.up e2) w2 fun x H3 e3 => k x H3 (e2.trans e3)
  · rename_i h; rw [if_neg h]; exact k _ H2 e2 w2⟩
theorem snd_or {t u : TT} {wa wb : WT} (ha : SndT t wa) (hb : SndT u wb) : SndT (tOr t u) (wOr wa wb) := ⟨fun z σ H Γ R Q r w k => ha.run z σ H Γ _ _ r w fun b H2 e2 w2 => by
  split at w2
  · rename_i h; rw [if_pos h]; exact k _ H2 e2 w2
  · rename_i h; rw [if_neg h]; exact hb.run z σ H2 Γ _ _ (r.up e2) w2 fun x H3 e3 => k x H3 (e2.trans e3)⟩
def wIfE (wt : WT) (wa wb : WE) : WE := fun Γ R => wt Γ fun c => if c = true then wa Γ R else wb Γ R
theorem snd_ifE {t : TT} {ta tb : TE} {wt : WT} {wa wb : WE} (h : SndT t wt) (ha : SndE ta wa) (hb : SndE tb wb) : SndE (tIf t ta tb) (wIfE wt wa wb) := ⟨fun z σ H Γ R Q r w k => h.run z σ H Γ _ _ r w fun b H2 e2 w2 => by
  split at w2
  · rename_i h; rw [if_pos h]; exact ha.run z σ H2 Γ _ _ (r.up e2) w2 fun v x H3 e3 => k v x H3 (e2.trans e3)
  · rename_i h; rw [if_neg h]; exact hb.run z σ H2 Γ _ _ (r.up e2) w2 fun v x H3 e3 => k v x H3 (e2.trans e3)⟩
/-- a <= b <= c -/
def wChain (o o' : O2) (wa wb wc : WE) : WE := fun Γ R => wa Γ fun x => wb Γ fun y => o x y fun t => match t with
  | .d (.bool c) => if c = true then wc Γ fun u => o' y u R else R (.d (.bool false))
  | _ => False
theorem snd_chain {r r' : R2} {o o' : O2} {ta tb tc : TE} {wa wb wc : WE} (ho : SndOp r o) (ho' : SndOp r' o') (ha : SndE ta wa) (hb : SndE tb wb) (hc : SndE tc wc) : SndE (tChain r r' ta tb tc) (wChain o o' wa wb wc) := ⟨fun z σ H Γ R Q r w k =>
  ha.run z σ H Γ _ _ r w fun v x H2 e2 hx w2 => hb.run z σ H2 Γ _ _ (r.up e2) w2 fun u y H3 e3 hy w3 => ho.run z H3 v u x y _ _ r.n ((r.al.up e2).up e3) (hx.up e3) hy w3 fun b t H4 e4 ht w4 => by
    split at w4
    · rename_i c
      cases ht
      refine ⟨c, rfl, ?_⟩
      split at w4
      · rename_i h
        rw [if_pos h]
        exact hc.run z σ H4 Γ _ _ (((r.up e2).up e3).up e4) w4 fun v5 x5 H5 e5 h5 w5 => ho'.run z H5 u v5 y x5 _ _ r.n ((((r.al.up e2).up e3).up e4).up e5) ((hy.up e4).up e5) h5 w5 fun v6 x6 H6 e6 h6 w6 => k v6 x6 H6 ((((e2.trans e3).trans e4).trans e5).trans e6) h6 w6
      · rename_i h
        rw [if_neg h]
        exact k _ _ H4 ((e2.trans e3).trans e4) (dB _) w4
    · exact w4.elim⟩
/-! ### arguments, displays, built-ins -/
def wNil : WA := fun _ R => R []
def wCons (wa : WE) (wr : WA) : WA := fun Γ R => wa Γ fun x => wr Γ fun xs => R (x :: xs)
theorem snd_nil : SndA tNil wNil := ⟨fun z σ H Γ R Q r w k => k [] [] H (.refl _ H) trivial w⟩
theorem snd_cons {ta : TE} {tr : TA} {wa : WE} {wr : WA} (ha : SndE ta wa) (hr : SndA tr wr) : SndA (tCons ta tr) (wCons wa wr) := ⟨fun z σ H Γ R Q r w k =>
  ha.run z σ H Γ _ _ r w fun v x H2 e2 hx w2 => hr.run z σ H2 Γ _ _ (r.up e2) w2 fun vs xs H3 e3 hs w3 => k (v :: vs) (x :: xs) H3 (e2.trans e3) ⟨hx.up e3, hs⟩ w3⟩
def allD : List Vx → Option (List PyData)
  | [] => some []
  | .d x :: r => (allD r).map (x :: ·)
  | _ => none
theorem allD_dts {z : Fz} {H : Hp} : ∀ {vs : List V} {xs : List Vx} {ds : List PyData}, DvAll z H vs xs → allD xs = some ds → DtAll z H vs ds
  | [], [], _, _, e => by cases (Option.some.inj e); exact .nil
  | v :: vs, .d x :: xs, ds, h, e => by
    cases q : allD xs with
    | none => simp [allD, q] at e
    | some r =>
      have : x :: r = ds := by simpa [allD, q] using e
      subst this
      exact .cons h.1 (allD_dts h.2 q)
  | v :: vs, .dk _ :: xs, ds, h, e => by simp [allD] at e
  | v :: vs, .dt _ :: xs, ds, h, e => by simp [allD] at e
  | v :: vs, .bag :: xs, ds, h, e => by simp [allD] at e
  | v :: vs, .q _ :: xs, ds, h, e => by simp [allD] at e
  | v :: vs, .rk _ :: xs, ds, h, e => by simp [allD] at e
  | v :: vs, .rt _ :: xs, ds, h, e => by simp [allD] at e
  | v :: vs, .fl _ :: xs, ds, h, e => by simp [allD] at e
  | v :: vs, .rf _ :: xs, ds, h, e => by simp [allD] at e
  | [], _ :: _, _, h, _ => h.elim
  | _ :: _, [], _, h, _ => h.elim
def wTup (wa : WA) : WE := fun Γ R => wa Γ fun xs => match allD xs with
  | some ds => ds.length ≤ NN ∧ R (.d (.tuple ds))
  | none => False
def wLst (wa : WA) : WE := fun Γ R => wa Γ fun xs => match allD xs with
  | some ds => ds.length ≤ NN ∧ R (.d (.list ds))
  | none => False
theorem snd_tup {ta : TA} {wa : WA} (ha : SndA ta wa) : SndE (tTup ta) (wTup wa) := ⟨fun z σ H Γ R Q r w k => ha.run z σ H Γ _ _ r w fun vs xs H2 e2 hs w2 => by
  split at w2
  · rename_i ds e
    have hd := allD_dts hs e
    exact ⟨by rw [hd.length]; exact Nat.le_trans w2.1 NN_line, fun t ht => k _ _ _ (e2.trans (.new ht)) (dT ((r.al.up e2).ne ht) upd_same (by rw [hd.length, r.n]; exact w2.1) (hd.mono (.new ht))) w2.2⟩
  · exact w2.elim⟩
theorem snd_lst {ta : TA} {wa : WA} (ha : SndA ta wa) : SndE (tLst ta) (wLst wa) := ⟨fun z σ H Γ R Q r w k => ha.run z σ H Γ _ _ r w fun vs xs H2 e2 hs w2 => by
  split at w2
  · rename_i ds e
    have hd := allD_dts hs e
    exact ⟨by rw [hd.length]; exact Nat.le_trans w2.1 NN_line, fun t ht => k _ _ _ (e2.trans (.new ht)) (dL ((r.al.up e2).ne ht) upd_same (by rw [hd.length, r.n]; exact w2.1) (hd.mono (.new ht))) w2.2⟩
  · exact w2.elim⟩
def wC (o : OA) (wa : WA) : WE := fun Γ R => wa Γ fun xs => o xs R
theorem snd_cb {rr : List V → Hp → VK → Prop} {o : OA} {ta : TA} {wa : WA} (ho : SndC rr o) (ha : SndA ta wa) : SndE (tCB rr ta) (wC o wa) := ⟨fun z σ H Γ R Q r w k =>
  ha.run z σ H Γ _ _ r w fun vs xs H2 e2 hs w2 => ho.run z H2 vs xs R Q r.n (r.al.up e2) hs w2 fun u t H3 e3 ht rt => k u t H3 (e2.trans e3) ht rt⟩
/-! slices -/
def wNoPart : WO := fun _ R => R none
def wPart (we : WE) : WO := fun Γ R => we Γ fun x => match x with
  | .d (.int i) => R (some i)
  | _ => False
theorem snd_noPart : SndO tNoPart wNoPart := ⟨fun z σ H Γ R Q r w k => k _ H (.refl _ H) w⟩
theorem snd_part {te : TE} {we : WE} (h : SndE te we) : SndO (tPart te) (wPart we) := ⟨fun z σ H Γ R Q r w k => h.run z σ H Γ _ _ r w fun v x H2 e2 hx w2 => by
  split at w2
  · cases hx; exact ⟨_, rfl, k _ H2 e2 w2⟩
  · exact w2.elim⟩
def uSl (K : PySem.W.Frag) : V → Option Int → Option Int → Hp → VK → Prop := fun x lo hi H Q => rSlL K x lo hi H Q ∨ rSlA K x lo hi H Q
theorem un_sl {X : Cx} {K : PySem.W.Frag} (e : X.K = K) : L2.SlR X (uSl K) := fun pins s σ H x v vl vu lo hi sl Q I rv hs h1 h2 h => h.elim
  (fun q => (e ▸ sl_list : L2.SlR X (rSlL K)) pins s σ H x v vl vu lo hi sl Q I rv hs h1 h2 q) (fun q => (e ▸ sl_tupA : L2.SlR X (rSlA K)) pins s σ H x v vl vu lo hi sl Q I rv hs h1 h2 q)
def wSl (we : WE) (wl wh : WO) : WE := fun Γ R => we Γ fun x => wl Γ fun lo => wh Γ fun hi => match x with
  | .d (.list ds) => R (.d (.list (cutD ds lo hi)))
  | .q ds => R (.d (.list (cutD ds lo hi)))
  | .d (.tuple ds) => R (.d (.tuple (cutD ds lo hi)))
  | _ => False
theorem snd_sl {K : PySem.W.Frag} {te : TE} {tl th : TO} {we : WE} {wl wh : WO} (he : SndE te we) (hl : SndO tl wl) (hh : SndO th wh) : SndE (tSl (uSl K) te tl th) (wSl we wl wh) := ⟨fun z σ H Γ R Q r w k =>
  he.run z σ H Γ _ _ r w fun v x H2 e2 hx w2 => hl.run z σ H2 Γ _ _ (r.up e2) w2 fun lo H3 e3 w3 => hh.run z σ H3 Γ _ _ ((r.up e2).up e3) w3 fun hi H4 e4 w4 => by
    have al := ((r.al.up e2).up e3).up e4
    have e24 := (e2.trans e3).trans e4
    have hx4 := (hx.up e3).up e4
    split at w4
    · cases hx4 with
      | lst d1 d2 d3 d4 => exact .inl ⟨_, _, rfl, .inl (.inl d2), fun t ht => k _ _ _ (e24.trans (.new ht)) (dL (al.ne ht) upd_same (Nat.le_trans (cutV_length _ _ _) d3) ((d4.cut lo hi).mono (.new ht))) w4⟩
    · obtain ⟨a, vs, rfl, h1, h2, h3, h4⟩ := hx4
      exact .inl ⟨_, _, rfl, .inl (.inl h2), fun t ht => k _ _ _ (e24.trans (.new ht)) (dL (al.ne ht) upd_same (Nat.le_trans (cutV_length _ _ _) h4) ((h3.cut lo hi).mono (.new ht))) w4⟩
    · have hx5 := hx4
      cases hx4 with
      | tup d1 d2 d3 d4 =>
        refine .inr ⟨_, _, rfl, .inl (.inl d2), fun hw => ?_, fun hw t ht => ?_⟩
        · rw [cut_whole hw d4] at w4
          exact k _ _ H4 e24 hx5 w4
        · exact k _ _ _ (e24.trans (.new ht)) (dT (al.ne ht) upd_same (Nat.le_trans (cutV_length _ _ _) d3) ((d4.cut lo hi).mono (.new ht))) w4
    · exact w4.elim⟩
end Dm
namespace Dm
open PySem L2 Pb
open PySem.W (AllAlike Sortable dataLe)
theorem dv1 {z : Fz} {H : Hp} {vs : List V} {x : Vx} (h : DvAll z H vs [x]) : ∃ v, vs = [v] ∧ Dv z H v x := by
  match vs, h with
  | [v], h => exact ⟨v, rfl, h.1⟩
theorem dv2 {z : Fz} {H : Hp} {vs : List V} {x y : Vx} (h : DvAll z H vs [x, y]) : ∃ v w, vs = [v, w] ∧ Dv z H v x ∧ Dv z H w y := by
  match vs, h with
  | [v, w], h => exact ⟨v, w, rfl, h.1, h.2.1⟩
theorem dvLen {z : Fz} {H : Hp} : ∀ {vs : List V} {xs : List Vx}, DvAll z H vs xs → vs.length = xs.length
  | [], [], _ => rfl
  | v :: vs, x :: xs, h => congrArg (· + 1) (dvLen h.2)
  | [], _ :: _, h => h.elim
  | _ :: _, [], h => h.elim
/-! ### len -/
def oLen : OA
  | [.d (.list ds)], R => R (.d (.int ds.length))
  | [.q ds], R => R (.d (.int ds.length))
  | [.d (.tuple ds)], R => R (.d (.int ds.length))
  | [.d (.str s)], R => R (.d (.int s.length))
  | _, _ => False
def rLenK (K : PySem.W.Frag) : List V → Hp → VK → Prop := fun xs H Q => ∃ x n, xs = [x] ∧ LenV K x H n ∧ Q (.int n) H
theorem un_len {X : Cx} {K : PySem.W.Frag} (e : X.K = K) : CallR X (.builtin "len") (rLenK K) := e ▸ call_len
theorem sc_len {K : PySem.W.Frag} : SndC (rLenK K) oLen := ⟨fun z H vs xs R Q n al hs o k => by
  unfold oLen at o
  split at o
  · obtain ⟨v, rfl, h⟩ := dv1 hs
    cases h with
    | lst d1 d2 d3 d4 => exact ⟨_, _, rfl, .inl ⟨_, .inl (.inl d2), rfl⟩, by rw [d4.length]; exact k _ _ H (.refl _ H) (dI _) o⟩
  · obtain ⟨v, rfl, h⟩ := dv1 hs
    obtain ⟨a, ws, rfl, h1, h2, h3, h4⟩ := h
    exact ⟨_, _, rfl, .inl ⟨_, .inl (.inl h2), rfl⟩, by rw [h3.length]; exact k _ _ H (.refl _ H) (dI _) o⟩
  · obtain ⟨v, rfl, h⟩ := dv1 hs
    cases h with
    | tup d1 d2 d3 d4 => exact ⟨_, _, rfl, .inr ⟨_, .inl (.inl d2), rfl⟩, by rw [d4.length]; exact k _ _ H (.refl _ H) (dI _) o⟩
  · obtain ⟨v, rfl, h⟩ := dv1 hs
    cases h with
    | str _ l => exact ⟨_, _, rfl, ⟨by rw [n] at l; exact Nat.le_trans l.1 NN_line, rfl⟩, k _ _ H (.refl _ H) (dI _) o⟩
  · exact o.elim⟩
/-! ### isinstance -/
def wIsi (T : String) (wa : WE) : WE := fun Γ R => wa Γ fun x => match datOf x with
  | some a => R (.d (.bool (isiD T a)))
  | none => False
theorem dat_ty {z : Fz} {H : Hp} {v : V} {x : Vx} {a : PyData} {K : PySem.W.Frag} (h : datOf x = some a) (hx : Dv z H v x) : TyX K H v (.type (tyD a)) := by
  cases x with
  | d y => cases (Option.some.inj h); exact Dt.ty hx
  | q ds =>
    cases (Option.some.inj h)
    obtain ⟨p, vs, rfl, h1, h2, h3, h4⟩ := hx
    exact .base (.lst h2)
  | _ => cases h
theorem snd_isi {K : PySem.W.Frag} {ta : TE} {wa : WE} {T : String} (hT : Pb.okT T = true) (ha : SndE ta wa) : SndE (tCB (rIsi K) (tCons ta (tCons (tC (.ty T)) tNil))) (wIsi T wa) := ⟨fun z σ H Γ R Q r w k => ha.run z σ H Γ _ _ r w fun v x H2 e2 hx w2 => by
  split at w2
  · rename_i a e
    exact ⟨v, .ty T, _, _, isiD T a, rfl, .ty T, dat_ty e hx, kit_ty (isi_ok hT a), k _ _ H2 e2 (dB _) w2⟩
  · exact w2.elim⟩
/-! ### int, max, min, sum -/
def oInt : OA
  | [.d (.int i)], R => R (.d (.int i))
  | [.d (.bool b)], R => R (.d (.int (if b = true then 1 else 0)))
  | _, _ => False
def rInt1 : List V → Hp → VK → Prop := fun xs H Q => (∃ i, xs = [.int i] ∧ Q (.int i) H) ∨ ∃ k, xs = [.bl k] ∧ Q (.int (if k then 1 else 0)) H
theorem un_int {X : Cx} : CallR X (.type "int") rInt1 := call_int1
theorem sc_int : SndC rInt1 oInt := ⟨fun z H vs xs R Q n al hs o k => by
  unfold oInt at o
  split at o
  · obtain ⟨v, rfl, h⟩ := dv1 hs
    cases h
    exact .inl ⟨_, rfl, k _ _ H (.refl _ H) (dI _) o⟩
  · obtain ⟨v, rfl, h⟩ := dv1 hs
    cases h
    exact .inr ⟨_, rfl, k _ _ H (.refl _ H) (dI _) o⟩
  · exact o.elim⟩
def o2I (f : Int → Int → Int) : OA
  | [.d (.int i), .d (.int j)], R => R (.d (.int (f i j)))
  | _, _ => False
def r2I (f : Int → Int → Int) : List V → Hp → VK → Prop := fun xs H Q => ∃ i j, xs = [.int i, .int j] ∧ Q (.int (f i j)) H
abbrev fMax (i j : Int) : Int := if j > i then j else i
abbrev fMin (i j : Int) : Int := if j < i then j else i
theorem un_max2 {X : Cx} (hc : X.calm = true) : CallR X (.builtin "max") (r2I fMax) := call_max2 hc
theorem un_min2 {X : Cx} (hc : X.calm = true) : CallR X (.builtin "min") (r2I fMin) := call_min2 hc
theorem sc_2I {f : Int → Int → Int} : SndC (r2I f) (o2I f) := ⟨fun z H vs xs R Q n al hs o k => by
  unfold o2I at o
  split at o
  · obtain ⟨v, w, rfl, h, h'⟩ := dv2 hs
    cases h; cases h'
    exact ⟨_, _, rfl, k _ _ H (.refl _ H) (dI _) o⟩
  · exact o.elim⟩
def lstOf : Vx → Option (List PyData)
  | .d (.list ds) => some ds
  | .q ds => some ds
  | _ => none
theorem lst_at {z : Fz} {H : Hp} {v : V} {x : Vx} {ds : List PyData} (e : lstOf x = some ds) (h : Dv z H v x) : ∃ a vs, v = .ref a ∧ H a = some (.lst vs) ∧ DtAll z H vs ds ∧ vs.length ≤ z.n := by
  unfold lstOf at e
  split at e
  · cases e
    cases h with
    | lst d1 d2 d3 d4 => exact ⟨_, _, rfl, d2, d4, d3⟩
  · cases e
    obtain ⟨a, ws, rfl, h1, h2, h3, h4⟩ := h
    exact ⟨_, _, rfl, h2, h3, h4⟩
  · cases e
def F1 (f : List PyData → (Vx → Prop) → Prop) (ds : List PyData) (R : Vx → Prop) (_ : Box R) : Prop := f ds R
def o1 (f : List PyData → (Vx → Prop) → Prop) : OA
  | [x], R => match lstOf x with
    | some ds => F1 f ds R ⟨⟩
    | none => False
  | _, _ => False
theorem sc_o1 {rr : List V → Hp → VK → Prop} {f : List PyData → (Vx → Prop) → Prop}
    (h : ∀ (z : Fz) (H : Hp) (a : Addr) (vs : List V) (ds : List PyData) (R : Vx → Prop) (Q : VK), z.n = NN → AlS z H → H a = some (.lst vs) → DtAll z H vs ds → vs.length ≤ NN → f ds R → (∀ u t H2, ExB z.p H H2 → Dv z H2 u t → R t → Q u H2) → rr [.ref a] H Q) : SndC rr (o1 f) := ⟨fun z H vs xs R Q n al hs o k => by
  unfold o1 at o
  split at o
  · split at o
    · rename_i ds e
      obtain ⟨v, rfl, hv⟩ := dv1 hs
      obtain ⟨a, ws, rfl, h1, h2, h3⟩ := lst_at e hv
      exact h z H a ws ds R Q n al h1 h2 (by rw [n] at h3; exact h3) o k
    · exact o.elim
  · exact o.elim⟩
def fSum : List PyData → (Vx → Prop) → Prop := fun ds R => ∃ ns : List Int, ds = ns.map PyData.int ∧ R (.d (.int ns.sum))
def fMaxL : List PyData → (Vx → Prop) → Prop := fun ds R => ∃ ns : List Int, ds = ns.map PyData.int ∧ 0 < ns.length ∧ ∀ m, m ∈ ns → (∀ y, y ∈ ns → y ≤ m) → R (.d (.int m))
def fMinL : List PyData → (Vx → Prop) → Prop := fun ds R => ∃ ns : List Int, ds = ns.map PyData.int ∧ 0 < ns.length ∧ ∀ m, m ∈ ns → (∀ y, y ∈ ns → m ≤ y) → R (.d (.int m))
def fAll : List PyData → (Vx → Prop) → Prop := fun ds R => ∃ bs : List Bool, ds = bs.map PyData.bool ∧ R (.d (.bool (bs.all id)))
def fSort : List PyData → (Vx → Prop) → Prop := fun ds R => AllAlike ds ∧ Sortable ds ∧ (∀ d ∈ ds, d.depth ≤ 10) ∧ R (.d (.list (sortD ds)))
theorem un_sum {X : Cx} {K : PySem.W.Frag} (hc : X.calm = true) (e : X.K = K) : CallR X (.builtin "sum") (rSum K) := e ▸ cr_sum hc
theorem un_max1 {X : Cx} {K : PySem.W.Frag} (hc : X.calm = true) (e : X.K = K) : CallR X (.builtin "max") (rMax K) := e ▸ cr_max hc
theorem un_min1 {X : Cx} {K : PySem.W.Frag} (hc : X.calm = true) (e : X.K = K) : CallR X (.builtin "min") (rMin K) := e ▸ cr_min hc
theorem un_all {X : Cx} {K : PySem.W.Frag} (hc : X.calm = true) (e : X.K = K) : CallR X (.builtin "all") (rAll K) := e ▸ cr_all hc
theorem un_sorted {X : Cx} {K : PySem.W.Frag} (hu : X.A.units + 64 < cLine) (e : X.K = K) : CallR X (.builtin "sorted") (rSortD K) := e ▸ cr_sortedD hu
theorem sc_sum {K : PySem.W.Frag} : SndC (rSum K) (o1 fSum) := sc_o1 fun z H a vs ds R Q n al h1 h2 h3 ⟨ns, e, r⟩ k => by
  subst e
  rw [h2.ints_eq] at h1
  exact ⟨a, ns, rfl, .inl (.inl h1), k _ _ H (.refl _ H) (dI _) r⟩
theorem sc_max1 {K : PySem.W.Frag} : SndC (rMax K) (o1 fMaxL) := sc_o1 fun z H a vs ds R Q n al h1 h2 h3 ⟨ns, e, l, r⟩ k => by
  subst e
  rw [h2.ints_eq] at h1
  exact ⟨a, ns, rfl, .inl (.inl h1), l, fun m hm hy => k _ _ H (.refl _ H) (dI _) (r m hm hy)⟩
theorem sc_min1 {K : PySem.W.Frag} : SndC (rMin K) (o1 fMinL) := sc_o1 fun z H a vs ds R Q n al h1 h2 h3 ⟨ns, e, l, r⟩ k => by
  subst e
  rw [h2.ints_eq] at h1
  exact ⟨a, ns, rfl, .inl (.inl h1), l, fun m hm hy => k _ _ H (.refl _ H) (dI _) (r m hm hy)⟩
theorem sc_all {K : PySem.W.Frag} : SndC (rAll K) (o1 fAll) := sc_o1 fun z H a vs ds R Q n al h1 h2 h3 ⟨bs, e, r⟩ k => by
  subst e
  rw [h2.bools_eq] at h1
  exact ⟨a, bs, rfl, .inl (.inl h1), k _ _ H (.refl _ H) (dB _) r⟩
theorem sc_sorted {K : PySem.W.Frag} : SndC (rSortD K) (o1 fSort) := sc_o1 fun z H a vs ds R Q n al h1 h2 h3 ⟨g1, g2, g3, r⟩ k => by
  obtain ⟨bs, e1, e2, hb⟩ := dt_zip h2
  subst e1 e2
  refine ⟨_, bs, rfl, .inl (.inl h1), fun b q => Dt.dp' _ _ (hb b q), g1, g2, fun b q => g3 _ (List.mem_map.mpr ⟨b, q, rfl⟩), fun p hp => ?_⟩
  have hm : ∀ b ∈ sortB bs, Dt z H b.1 b.2 := fun b q => hb b ((List.mergeSort_perm bs _).mem_iff.mp q)
  rw [← sortB_snd] at r
  refine k _ _ _ (.new hp) (dL (al.ne hp) upd_same ?_ ((zip_dt hm).mono (.new hp))) r
  rw [List.length_map] at h3 ⊢
  unfold sortB
  rw [List.length_mergeSort, n]
  exact h3
/-! ### list(..), tuple(..) -/
def oListC : OA
  | [.d (.list ds)], R => R (.d (.list ds))
  | [.q ds], R => R (.d (.list ds))
  | [.d (.tuple ds)], R => R (.d (.list ds))
  | _, _ => False
def oTupC : OA
  | [.d (.list ds)], R => R (.d (.tuple ds))
  | [.q ds], R => R (.d (.tuple ds))
  | [.d (.tuple ds)], R => R (.d (.tuple ds))
  | _, _ => False
theorem un_list {X : Cx} {K : PySem.W.Frag} (e : X.K = K) : CallR X (.type "list") (rListOf K) := e ▸ call_list_of
theorem un_tuple {X : Cx} {K : PySem.W.Frag} (e : X.K = K) : CallR X (.type "tuple") (rTupOf K) := e ▸ call_tuple_of
theorem sc_list {K : PySem.W.Frag} : SndC (rListOf K) oListC := ⟨fun z H vs xs R Q n al hs o k => by
  unfold oListC at o
  split at o
  · obtain ⟨v, rfl, h⟩ := dv1 hs
    cases h with
    | lst d1 d2 d3 d4 => exact ⟨_, _, rfl, .inl (.inl (.inl d2)), fun t ht => k _ _ _ (.new ht) (dL (al.ne ht) upd_same d3 (d4.mono (.new ht))) o⟩
  · obtain ⟨v, rfl, h⟩ := dv1 hs
    obtain ⟨a, ws, rfl, h1, h2, h3, h4⟩ := h
    exact ⟨_, _, rfl, .inl (.inl (.inl h2)), fun t ht => k _ _ _ (.new ht) (dL (al.ne ht) upd_same h4 (h3.mono (.new ht))) o⟩
  · obtain ⟨v, rfl, h⟩ := dv1 hs
    cases h with
    | tup d1 d2 d3 d4 => exact ⟨_, _, rfl, .inr (.inl (.inl d2)), fun t ht => k _ _ _ (.new ht) (dL (al.ne ht) upd_same d3 (d4.mono (.new ht))) o⟩
  · exact o.elim⟩
theorem sc_tuple {K : PySem.W.Frag} : SndC (rTupOf K) oTupC := ⟨fun z H vs xs R Q n al hs o k => by
  unfold oTupC at o
  split at o
  · obtain ⟨v, rfl, h⟩ := dv1 hs
    cases h with
    | lst d1 d2 d3 d4 => exact ⟨_, _, rfl, .inl ⟨.inl (.inl d2), fun t ht => k _ _ _ (.new ht) (dT (al.ne ht) upd_same d3 (d4.mono (.new ht))) o⟩⟩
  · obtain ⟨v, rfl, h⟩ := dv1 hs
    obtain ⟨a, ws, rfl, h1, h2, h3, h4⟩ := h
    exact ⟨_, _, rfl, .inl ⟨.inl (.inl h2), fun t ht => k _ _ _ (.new ht) (dT (al.ne ht) upd_same h4 (h3.mono (.new ht))) o⟩⟩
  · obtain ⟨v, rfl, h⟩ := dv1 hs
    have h' := h
    cases h with
    | tup d1 d2 d3 d4 => exact ⟨_, _, rfl, .inr ⟨.inl (.inl d2), k _ _ H (.refl _ H) h' o⟩⟩
  · exact o.elim⟩
/-! ### dicts -/
def look2 (kvs : List Tk) (x : Str × Str) : Option Int := (kvs.find? fun q => decide (q.1 = x)).map (·.2)
theorem valV_keyed2 (kvs : List Tk) (x : Str × Str) : valV (kvs.map keyed2) [Sum.inr x.1, Sum.inr x.2] = (look2 kvs x).map V.int := by
  induction kvs with
  | nil => rfl
  | cons q r ih =>
    rw [List.map_cons]
    by_cases h : q.1 = x
    · rw [valV_pos (by show [Sum.inr q.1.1, Sum.inr q.1.2] = [Sum.inr x.1, Sum.inr x.2]; rw [h])]
      unfold look2
      rw [List.find?_cons_of_pos (by simpa using h)]
      rfl
    · rw [valV_neg (fun e => h (by
        have e1 := List.cons.inj e
        have e2 := List.cons.inj e1.2
        exact Prod.ext (Sum.inr.inj e1.1) (Sum.inr.inj e2.1))), ih]
      unfold look2
      rw [List.find?_cons_of_neg (by simpa using h)]
def dkOf : Vx → Option (List Si)
  | .dk kvs => some kvs
  | .rk kvs => some kvs
  | _ => none
def dtOf : Vx → Option (List Tk)
  | .dt kvs => some kvs
  | .rt kvs => some kvs
  | _ => none
/-- d[k], .get: the value, if it is there -/
def dLook (x y : Vx) : Option (Option Int) := match dkOf x, y with
  | some kvs, .d (.str k) => some (look kvs k)
  | _, _ => match dtOf x, y with
    | some kvs, .d (.tuple [.str a, .str b]) => some (look2 kvs (a, b))
    | _, _ => none
theorem dk_at {z : Fz} {H : Hp} {v : V} {x : Vx} {kvs : List Si} (e : dkOf x = some kvs) (h : Dv z H v x) : ∃ a, v = .ref a ∧ Rd H a (.dK (kvs.map keyed)) := by
  unfold dkOf at e
  split at e
  · cases e; obtain ⟨a, h1, h2, h3, h4⟩ := h; exact ⟨a, h1, .inl h3⟩
  · cases e; obtain ⟨a, h1, h2, h3, h4⟩ := h; exact ⟨a, h1, h3⟩
  · cases e
theorem dt_at {z : Fz} {H : Hp} {v : V} {x : Vx} {kvs : List Tk} (e : dtOf x = some kvs) (h : Dv z H v x) : ∃ a, v = .ref a ∧ Rd H a (.dT (kvs.map keyed2)) := by
  unfold dtOf at e
  split at e
  · cases e; obtain ⟨a, h1, h2, h3, h4⟩ := h; exact ⟨a, h1, .inl h3⟩
  · cases e; obtain ⟨a, h1, h2, h3, h4⟩ := h; exact ⟨a, h1, h3⟩
  · cases e
theorem dLook_get {z : Fz} {H : Hp} {v w : V} {x y : Vx} {o : Option Int} (e : dLook x y = some o) (hx : Dv z H v x) (hy : Dv z H w y) : ∃ a, v = .ref a ∧ DGet H a w (o.map V.int) ∧ IsD H a := by
  unfold dLook at e
  split at e
  · rename_i kvs k e1
    cases e
    obtain ⟨a, rfl, hr⟩ := dk_at e1 hx
    cases hy
    exact ⟨a, rfl, .inl ⟨_, Sum.inr k, hr, rfl, (valV_keyed kvs k).symm⟩, .inl ⟨_, hr⟩⟩
  · split at e
    · rename_i kvs a b e1 hno
      cases e
      obtain ⟨p, rfl, hr⟩ := dt_at e1 hx
      cases hy with
      | tup d1 d2 d3 d4 =>
        cases d4 with
        | cons h1 t1 =>
          cases t1 with
          | cons h2 t2 =>
            cases t2
            cases h1; cases h2
            exact ⟨p, rfl, .inr ⟨_, [Sum.inr a, Sum.inr b], _, hr, rfl, d2, (valV_keyed2 kvs (a, b)).symm⟩, .inr ⟨_, hr⟩⟩
    · cases e
def oDGet : O2 := fun x y R => match dLook x y with
  | some (some c) => R (.d (.int c))
  | _ => False
theorem snd_dget {ta tb : TE} {wa wb : WE} (ha : SndE ta wa) (hb : SndE tb wb) : SndE (tDGet ta tb) (wOp oDGet wa wb) := ⟨fun z σ H Γ R Q r w k =>
  ha.run z σ H Γ _ _ r w fun v x H2 e2 hx w2 => hb.run z σ H2 Γ _ _ (r.up e2) w2 fun u y H3 e3 hy w3 => by
    unfold oDGet at w3
    split at w3
    · rename_i c e
      obtain ⟨a, rfl, g, _⟩ := dLook_get e (hx.up e3) hy
      exact ⟨a, .int c, rfl, g, k _ _ H3 (e2.trans e3) (dI _) w3⟩
    · exact w3.elim⟩
def wDGet2 (wa wb wc : WE) : WE := fun Γ R => wa Γ fun x => wb Γ fun y => wc Γ fun t => match dLook x y, t with
  | some o, .d (.int c) => R (.d (.int (o.getD c)))
  | _, _ => False
def isDx : Vx → Bool
  | .dk _ => true
  | .dt _ => true
  | .rk _ => true
  | .rt _ => true
  | _ => false
theorem isD_of {z : Fz} {H : Hp} {v : V} {x : Vx} (e : isDx x = true) (h : Dv z H v x) : ∃ a, v = .ref a ∧ IsD H a := by
  cases x with
  | dk _ => obtain ⟨a, h1, h2, h3, h4⟩ := h; exact ⟨a, h1, .inl ⟨_, .inl h3⟩⟩
  | dt _ => obtain ⟨a, h1, h2, h3, h4⟩ := h; exact ⟨a, h1, .inr ⟨_, .inl h3⟩⟩
  | rk _ => obtain ⟨a, h1, h2, h3, h4⟩ := h; exact ⟨a, h1, .inl ⟨_, h3⟩⟩
  | rt _ => obtain ⟨a, h1, h2, h3, h4⟩ := h; exact ⟨a, h1, .inr ⟨_, h3⟩⟩
  | _ => cases e
def wDGet3 (wa wb wc : WE) : WE := fun Γ R => wa Γ fun x => isDx x = true ∧ wb Γ fun y => wc Γ fun t => match dLook x y, t with
  | some o, .d (.int c) => R (.d (.int (o.getD c)))
  | _, _ => False
theorem snd_dget2 {ta tb tc : TE} {wa wb wc : WE} (ha : SndE ta wa) (hb : SndE tb wb) (hc : SndE tc wc) : SndE (tDGet2 ta tb tc) (wDGet3 wa wb wc) := ⟨fun z σ H Γ R Q r w k =>
  ha.run z σ H Γ _ _ r w fun v x H2 e2 hx w2 => by
    obtain ⟨a, rfl, hd⟩ := isD_of w2.1 hx
    exact ⟨a, rfl, hd, hb.run z σ H2 Γ _ _ (r.up e2) w2.2 fun u y H3 e3 hy w3 => hc.run z σ H3 Γ _ _ ((r.up e2).up e3) w3 fun t s H4 e4 hs w4 => by
      split at w4
      · rename_i o c e
        cases hs
        obtain ⟨a', ea, g, _⟩ := dLook_get e ((hx.up e3).up e4) (hy.up e4)
        cases ea
        refine ⟨_, g, ?_⟩
        have : (o.map V.int).getD (.int c) = .int (o.getD c) := by cases o <;> rfl
        rw [this]
        exact k _ _ H4 ((e2.trans e3).trans e4) (dI _) w4
      · exact w4.elim⟩⟩
/-- sorted(d.items()) -/
def wSortIt (wa : WE) : WE := fun Γ R => wa Γ fun x => match x with
  | .dk kvs => kvs.length ≤ NN ∧ R (.d (.list ((sortP kvs).map encP)))
  | _ => False
theorem sortP_perm' (l : List Si) : (sortP l).Perm l := List.mergeSort_perm _ _
theorem dt_pairs' {z : Fz} {H' : Hp} : ∀ {bs : List (Addr × Si)}, 2 ≤ z.n → (∀ b ∈ bs, (b.1 ≠ z.p ∧ b.1 ∉ z.S) ∧ H' b.1 = some (.tup [.str b.2.1, .int b.2.2]) ∧ b.2.1.length ≤ z.n ∧ PyData.strOk b.2.1 = true) → DtAll z H' (bs.map fun b => V.ref b.1) ((bs.map (·.2)).map encP)
  | [], _, _ => .nil
  | b :: bs, h2, h => by
    obtain ⟨g1, g2, g3⟩ := h b List.mem_cons_self
    exact .cons (.tup g1 g2 h2 (.cons (.str _ g3) (.cons (.int _) .nil))) (dt_pairs' h2 fun c hc => h c (List.mem_cons_of_mem _ hc))
theorem snd_sortIt {ta : TE} {wa : WE} (ha : SndE ta wa) : SndE (tSortIt ta) (wSortIt wa) := ⟨fun z σ H Γ R Q r w k => ha.run z σ H Γ _ _ r w fun v x H2 e2 hx w2 => by
  split at w2
  · rename_i kvs
    obtain ⟨a, rfl, h2, h3, h4⟩ := hx
    refine ⟨a, kvs, rfl, h3, fun H3 p bs s3 np hbs hp hsn => ?_⟩
    have al := r.al.up e2
    have lb : bs.length = kvs.length := by
      have := congrArg List.length hsn
      rw [List.length_map, (sortP_perm' _).length_eq] at this
      exact this
    refine k _ _ H3 (e2.trans (.same s3)) (dL (al.ne np) hp (by rw [List.length_map, lb, r.n]; exact w2.1) ?_) w2.2
    rw [← hsn]
    refine dt_pairs' (by rw [r.n]; decide) fun t ht => ?_
    obtain ⟨f1, f2⟩ := hbs t ht
    have hk : t.2 ∈ kvs := (sortP_perm' kvs).mem_iff.mp (by rw [← hsn]; exact List.mem_map.mpr ⟨t, ht, rfl⟩)
    have := h4 t.2 hk
    exact ⟨al.ne f1, f2, by rw [r.n]; exact this.1, this.2⟩
  · exact w2.elim⟩
/-- dict(pairs) -/
def fDictP : List PyData → (Vx → Prop) → Prop := fun ds R => ∃ kvs : List Si, ds = kvs.map encP ∧ (kvs.map (·.1)).Nodup ∧ R (.dk kvs)
def rDictP (K : PySem.W.Frag) : List V → Hp → VK → Prop := fun xs H Q => ∃ (a : Addr) (ps : List Addr) (kvs : List (Key × V)), xs = [.ref a] ∧ SqL K H a (ps.map V.ref) ∧ Paired (fun p kv => SqT K H p [kV kv.1, kv.2]) ps kvs ∧ ∀ p, H p = none → Q (.ref p) (upd H p (.dK (mergeK [] kvs)))
theorem un_dictP {X : Cx} {K : PySem.W.Frag} (hc : X.calm = true) (e : X.K = K) : CallR X (.type "dict") (rDictP K) := e ▸ call_dictP hc
theorem merge_new : ∀ (kvs : List Si) (acc : List Si), ((acc ++ kvs).map (·.1)).Nodup → mergeK (acc.map keyed) (kvs.map keyed) = (acc ++ kvs).map keyed
  | [], acc, _ => by rw [List.append_nil]; rfl
  | q :: r, acc, h => by
    have hno : valV (acc.map keyed) (Sum.inr q.1) = none := by
      rw [valV_keyed, look_none]
      · rfl
      · intro hm
        rw [List.map_append, List.nodup_append] at h
        exact h.2.2 _ hm _ (by simp) rfl
    have e1 : putK (acc.map keyed) (Sum.inr q.1) (.int q.2) = (acc ++ [q]).map keyed := by
      rw [putK_new _ hno, List.map_append]; rfl
    have := merge_new r (acc ++ [q]) (by rw [List.append_assoc]; exact h)
    rw [List.append_assoc] at this
    show mergeK (putK (acc.map keyed) (Sum.inr q.1) (.int q.2)) (r.map keyed) = _
    rw [e1]
    exact this
theorem pairs_dt {z : Fz} {H : Hp} {K : PySem.W.Frag} : ∀ {kvs : List Si} {vs : List V}, DtAll z H vs (kvs.map encP) → ∃ ps : List Addr, vs = ps.map V.ref ∧ Paired (fun p (kv : Key × V) => SqT K H p [kV kv.1, kv.2]) ps (kvs.map keyed) ∧ ∀ q ∈ kvs, q.1.length ≤ z.n ∧ PyData.strOk q.1 = true
  | [], _, h => by cases h; exact ⟨[], rfl, .nil, fun _ h => nomatch h⟩
  | q :: r, _, h => by
    cases h with
    | cons a t =>
      obtain ⟨ps, h1, h2, h3⟩ := pairs_dt (K := K) t
      cases a with
      | tup d1 d2 d3 d4 =>
        cases d4 with
        | cons f1 t1 =>
          cases t1 with
          | cons f2 t2 =>
            cases t2
            cases f2
            cases f1 with
            | str _ l =>
              refine ⟨_ :: ps, by rw [h1]; rfl, .cons (.inl (.inl d2)) h2, fun x hx => ?_⟩
              rcases List.mem_cons.mp hx with e | e
              · rw [e]; exact l
              · exact h3 x e
theorem sc_dictP {K : PySem.W.Frag} : SndC (rDictP K) (o1 fDictP) := sc_o1 fun z H a vs ds R Q n al h1 h2 h3 ⟨kvs, e, nd, r⟩ k => by
  subst e
  obtain ⟨ps, e1, e2, e3⟩ := pairs_dt (K := K) h2
  subst e1
  refine ⟨a, ps, _, rfl, .inl (.inl h1), e2, fun p hp => ?_⟩
  have := merge_new kvs [] nd
  rw [List.nil_append] at this
  refine k _ _ _ (.new hp) (show Dv z _ (.ref p) (.dk kvs) from ⟨p, rfl, al.ne hp, ?_, fun q hq => by have := e3 q hq; rw [n] at this; exact this⟩) r
  rw [upd_same]
  exact congrArg (fun l => some (HO.dK l)) this
end Dm
namespace Dm
open PySem L2 Pb
/-! ### what is walked -/
abbrev WI := Ev → (List PyData → Prop) → Prop
structure Rel (c : Bool) (z z' : Fz) (H H' : Hp) : Prop extends Go z z' H H' where
  keep : c = true → ∀ a o, a ≠ z.p → H a = some o → (nt : ∀ ps, o ≠ HO.tbl ps := by intro _ z; cases z) → H' a = some o
structure Wk (c : Bool) (z : Fz) (J : It) (H : Hp) (ds : List PyData) : Prop where
  ex : ∃ (G : Hp → Prop) (Y : Nat → Hp → V → Hp → Prop), Walk J ds.length G Y ∧ (∀ z' H', Rel c z z' H H' → G H') ∧
    ∀ z' H' i x H'', Rel c z z' H H' → z'.n = NN → AlS z' H' → i < ds.length → Y i H' x H'' → ∃ d, ds[i]? = some d ∧ ExB z'.p H' H'' ∧ Dt z' H'' x d
structure SndI (c : Bool) (ti : TI) (wi : WI) : Prop where
  run : ∀ (z : Fz) (σ : L2.St) (H : Hp) (Γ : Ev) (R : List PyData → Prop) (Q : It → Hp → Prop), Rp z σ H Γ → wi Γ R → (∀ J ds H2, ExB z.p H H2 → Wk c z J H2 ds → R ds → Q J H2) → ti σ H Q
def iSeq (K : PySem.W.Frag) (tl : TE) : TI := fun σ H R => tl σ H fun x H1 => (∃ a, x = .ref a ∧ (∃ xs, SqL K H1 a xs) ∧ R (Itl K a) H1) ∨ ∃ a, x = .ref a ∧ (∃ xs, SqT K H1 a xs) ∧ R (Itt K a) H1
theorem pi_seq {X : Cx} {tg l : Expr} {tl : TE} {K : PySem.W.Frag} (e : X.K = K) (hl : PE X l tl) : PI X tg l (iSeq K tl) := by
  subst e
  refine ⟨fun pins s σ H R I h => ?_⟩
  refine thn (hl.run pins s σ H _ I h) fun v s1 ⟨x, H1, I1, r1, q1⟩ => ?_
  rcases q1 with ⟨a, e, ⟨xs, hq⟩, q⟩ | ⟨a, e, ⟨xs, hq⟩, q⟩
  · subst e
    cases r1
    obtain ⟨its, rv, p, hz⟩ := I1.list hq
    refine PySem.wpAny_pyIter_list p.isList ?_
    refine ⟨s1.heap.objs.size, [s1.heap.objs.size], _, _, H1, rfl, I1.kept (t' := s1.toks) fun b o e => Heap.get?_push_of_some _ e, turn_list a _, ⟨_, Heap.get?_push_size _ rfl, rfl, rfl⟩, fun b hb => ?_, q⟩
    have e : b = s1.heap.objs.size := by simpa using hb
    subst e
    exact I1.fpOk (Nat.le_refl _) (I1.hok.fresh (Nat.le_refl _))
  · subst e
    cases r1
    obtain ⟨its, rv, p, hz⟩ := I1.tuple hq
    refine PySem.wpAny_pyIter_tuple (show s1.heap.IsTuple a its.toArray from p) ?_
    refine ⟨s1.heap.objs.size, [s1.heap.objs.size], _, _, H1, rfl, I1.kept (t' := s1.toks) fun b o e => Heap.get?_push_of_some _ e, turn_tuple a _, ⟨_, Heap.get?_push_size _ rfl, rfl, rfl⟩, fun b hb => ?_, q⟩
    have e : b = s1.heap.objs.size := by simpa using hb
    subst e
    exact I1.fpOk (Nat.le_refl _) (I1.hok.fresh (Nat.le_refl _))
def wISeq (c : Bool) (we : WE) : WI := fun Γ R => we Γ fun x => match x with
  | .d (.list ds) => R ds
  | .d (.tuple ds) => R ds
  | .q ds => c = true ∧ R ds
  | _ => False
theorem wk_at {c : Bool} {z : Fz} {J : It} {H : Hp} {vs : List V} {ds : List PyData} {G : Hp → Prop} (w : Walk J vs.length G (YAt vs)) (hG : ∀ z' H', Rel c z z' H H' → G H') (h : DtAll z H vs ds) : Wk c z J H ds := ⟨⟨G, YAt vs, by rw [← h.length]; exact w, hG, fun z' H' i x H'' r n al hi y => by
  obtain ⟨rfl, hx⟩ := y
  obtain ⟨d, g1, g2⟩ := h.get hx
  exact ⟨d, g1, .refl _ _, dt_go r.toGs d x g2⟩⟩⟩
theorem snd_iSeq {c : Bool} {K : PySem.W.Frag} {te : TE} {we : WE} (h : SndE te we) : SndI c (iSeq K te) (wISeq c we) := ⟨fun z σ H Γ R Q r w k => h.run z σ H Γ _ _ r w fun v x H2 e2 hx w2 => by
  split at w2
  · cases hx with
    | lst d1 d2 d3 d4 => exact .inl ⟨_, rfl, ⟨_, .inl (.inl d2)⟩, k _ _ H2 e2 (wk_at (walk_list (K := K)) (fun z' H' q => .inl (.inl (q.lst _ _ d1 d2).1)) d4) w2⟩
  · cases hx with
    | tup d1 d2 d3 d4 => exact .inr ⟨_, rfl, ⟨_, .inl (.inl d2)⟩, k _ _ H2 e2 (wk_at (walk_tup (K := K)) (fun z' H' q => .inl (.inl (q.tup _ _ d1 d2).1)) d4) w2⟩
  · obtain ⟨a, ws, rfl, h1, h2, h3, h4⟩ := hx
    exact .inl ⟨_, rfl, ⟨_, .inl (.inl h2)⟩, k _ _ H2 e2 (wk_at (walk_list (K := K)) (fun z' H' q => .inl (.inl (q.keep w2.1 _ _ h1 h2))) h3) w2.2⟩
  · exact w2.elim⟩
def upTo (lo : Int) (n : Nat) : List PyData := (List.range n).map fun (i : Nat) => PyData.int (lo + i)
theorem upTo_len (lo : Int) (n : Nat) : (upTo lo n).length = n := by unfold upTo; rw [List.length_map, List.length_range]
theorem upTo_at {lo : Int} {n i : Nat} (h : i < n) : (upTo lo n)[i]? = some (.int (lo + i)) := by
  unfold upTo
  rw [List.getElem?_map, List.getElem?_range h]; rfl
theorem wk_range {c : Bool} {z : Fz} {H : Hp} {lo : Int} {n : Nat} : Wk c z (Itr lo n) H (upTo lo n) := ⟨⟨_, _, by rw [upTo_len]; exact walk_range, fun _ _ _ => trivial, fun z' H' i x H'' r hn al hi y => by
  obtain ⟨rfl, rfl⟩ := y
  rw [upTo_len] at hi
  exact ⟨_, upTo_at hi, .refl _ _, .int _⟩⟩⟩
def wIRng1 (wa : WA) : WI := fun Γ R => wa Γ fun xs => match xs with
  | [.d (.int j)] => (-4611686018427387904 ≤ j ∧ j < 4611686018427387904) ∧ R (upTo 0 j.toNat)
  | _ => False
def wIRng2 (wa : WA) : WI := fun Γ R => wa Γ fun xs => match xs with
  | [.d (.int i), .d (.int j)] => (-4611686018427387904 ≤ i ∧ i < 4611686018427387904 ∧ -4611686018427387904 ≤ j ∧ j < 4611686018427387904) ∧ R (upTo i (j - i).toNat)
  | _ => False
theorem snd_iRng1 {c : Bool} {ta : TA} {wa : WA} (h : SndA ta wa) : SndI c (iRng1 ta) (wIRng1 wa) := ⟨fun z σ H Γ R Q r w k => h.run z σ H Γ _ _ r w fun vs xs H2 e2 hs w2 => by
  split at w2
  · obtain ⟨v, rfl, hv⟩ := dv1 hs
    cases hv
    exact ⟨_, rfl, by omega, by omega, k _ _ H2 e2 wk_range w2.2⟩
  · exact w2.elim⟩
theorem snd_iRng2 {c : Bool} {ta : TA} {wa : WA} (h : SndA ta wa) : SndI c (iRng2 ta) (wIRng2 wa) := ⟨fun z σ H Γ R Q r w k => h.run z σ H Γ _ _ r w fun vs xs H2 e2 hs w2 => by
  split at w2
  · obtain ⟨v, v', rfl, hv, hv'⟩ := dv2 hs
    cases hv; cases hv'
    exact ⟨_, _, rfl, ⟨by omega, by omega, by omega, by omega⟩, k _ _ H2 e2 wk_range w2.2⟩
  · exact w2.elim⟩
theorem ok_sign {s : Str} (h : PyData.strOk s = true) {i c : Nat} (hc : s.cps[i]? = some c) : PyData.strOk ⟨#[c]⟩ = true := by
  unfold PyData.strOk at h ⊢
  rw [Array.all_eq_true] at h
  obtain ⟨hi, e⟩ := Array.getElem?_eq_some_iff.mp hc
  have := h i hi
  rw [e] at this
  simpa using this
def signs (s : Str) : List PyData := s.cps.toList.map fun c => .str ⟨#[c]⟩
def wIStr (we : WE) : WI := fun Γ R => we Γ fun x => match x with
  | .d (.str s) => R (signs s)
  | _ => False
theorem snd_iStr {c : Bool} {te : TE} {we : WE} (h : SndE te we) : SndI c (iStr te) (wIStr we) := ⟨fun z σ H Γ R Q r w k => h.run z σ H Γ _ _ r w fun v x H2 e2 hx w2 => by
  split at w2
  · rename_i s
    cases hx with
    | str _ l =>
      refine ⟨s, rfl, k _ _ H2 e2 ⟨⟨_, _, by rw [signs, List.length_map, Array.length_toList]; exact walk_str, fun _ _ _ => trivial, fun z' H' i x H'' r hn al hi y => ?_⟩⟩ w2⟩
      obtain ⟨rfl, c, hc, rfl⟩ := y
      refine ⟨.str ⟨#[c]⟩, by rw [signs, List.getElem?_map, Array.getElem?_toList, hc]; rfl, .refl _ _, .str _ ⟨by rw [hn]; exact (by decide : 1 ≤ NN), ok_sign l.2 hc⟩⟩
  · exact w2.elim⟩
/-- the keys of a dict, in a comprehension -/
def wIKeys (we : WE) : WI := fun Γ R => we Γ fun x => match x with
  | .rk kvs => R (kvs.map fun q => .str q.1)
  | _ => False
def wIKeysV (i : Nat) : WI := fun Γ R => match Γ[i]? with
  | some (.fk kvs) => R (kvs.map fun q => .str q.1)
  | some (.ft kvs) => R (kvs.map fun q => .tuple [.str q.1.1, .str q.1.2])
  | _ => False
theorem snd_iKeysK {i : Nat} : SndI true (iKeys (tVar i)) (fun Γ R => match Γ[i]? with | some (.fk kvs) => R (kvs.map fun q => .str q.1) | _ => False) := ⟨fun z σ H Γ R Q r w k => by
  split at w
  · rename_i kvs e
    obtain ⟨a, f, h1, h2, h3, h4⟩ := r.sl i _ e
    refine ⟨_, h1, a, f, rfl, .inl ⟨_, h3, k _ _ H (.refl _ H) ⟨⟨_, _, by rw [List.length_map, ← List.length_map (f := keyed)]; exact walk_keys, fun z' H' q => q.keep rfl _ _ h2 h3, fun z' H' j x H'' q hn al hj y => ?_⟩⟩ w⟩⟩
    obtain ⟨rfl, kk, v, g1, rfl⟩ := y
    rw [List.length_map] at hj
    rw [List.getElem?_map, List.getElem?_eq_getElem hj] at g1
    have g1 := Option.some.inj g1
    have ek : kk = Sum.inr (kvs[j]).1 := by
      have := congrArg Prod.fst g1
      exact this.symm
    subst ek
    have := h4 _ (List.getElem_mem hj)
    exact ⟨_, by rw [List.getElem?_map, List.getElem?_eq_getElem hj]; rfl, .refl _ _, .str _ (by rw [hn]; exact this)⟩
  · exact w.elim⟩
/-- enumerate(a tuple) -/
def enumD (ds : List PyData) : List PyData := ds.zipIdx.map fun q => .tuple [.int q.2, q.1]
def wIEnumT (wa : WA) : WI := fun Γ R => wa Γ fun xs => match xs with
  | [.d (.tuple ds)] => R (enumD ds)
  | _ => False
theorem wk_pair {c : Bool} {z : Fz} {J : It} {H : Hp} {n : Nat} {ds : List PyData} {G : Hp → Prop} {xs ys : Nat → Option V} (w : Walk J n G (YPair xs ys)) (hn : n = ds.length) (hG : ∀ z' H', Rel c z z' H H' → G H') (h : ∀ i x y, i < n → xs i = some x → ys i = some y → ∃ d e, ds[i]? = some (.tuple [d, e]) ∧ Dt z H x d ∧ Dt z H y e) : Wk c z J H ds := ⟨⟨G, YPair xs ys, by rw [← hn]; exact w, hG, fun z' H' i v H'' r nn al hi q => by
  obtain ⟨T, x, y, rfl, nT, rfl, hx, hy⟩ := q
  obtain ⟨d, e, g1, g2, g3⟩ := h i x y (by rw [hn]; exact hi) hx hy
  exact ⟨_, g1, .new nT, .tup (al.ne nT) upd_same (by rw [nn]; exact (by decide : 2 ≤ NN)) (.cons ((dt_go r.toGs d x g2).mono (.new nT)) (.cons ((dt_go r.toGs e y g3).mono (.new nT)) .nil))⟩⟩⟩
theorem snd_iEnumT {c : Bool} {K : PySem.W.Frag} {ta : TA} {wa : WA} (h : SndA ta wa) : SndI c (iEnumT K ta) (wIEnumT wa) := ⟨fun z σ H Γ R Q r w k => h.run z σ H Γ _ _ r w fun vs xs H2 e2 hs w2 => by
  split at w2
  · obtain ⟨v, rfl, hv⟩ := dv1 hs
    cases hv with
    | tup d1 d2 d3 d4 =>
      refine ⟨_, _, rfl, .inl (.inl d2), k _ _ H2 e2 (wk_pair (walk_enumT (K := K)) ?_ (fun z' H' q => .inl (.inl (q.tup _ _ d1 d2).1)) fun i x y hi hx hy => ?_) w2⟩
      · rw [enumD, List.length_map, List.length_zipIdx, d4.length]
      · cases hx
        obtain ⟨d, g1, g2⟩ := d4.get hy
        exact ⟨.int i, d, by rw [enumD, List.getElem?_map, List.getElem?_zipIdx, g1]; simp, .int _, g2⟩
  · exact w2.elim⟩
/-- zip of two lists -/
def zipD (a b : List PyData) : List PyData := (a.zip b).map fun q => .tuple [q.1, q.2]
def wIZip (wa : WA) : WI := fun Γ R => wa Γ fun xs => match xs with
  | [.d (.list a), .d (.list b)] => R (zipD a b)
  | _ => False
theorem snd_iZip {c : Bool} {K : PySem.W.Frag} {ta : TA} {wa : WA} (h : SndA ta wa) : SndI c (iZip K ta) (wIZip wa) := ⟨fun z σ H Γ R Q r w k => h.run z σ H Γ _ _ r w fun vs xs H2 e2 hs w2 => by
  split at w2
  · obtain ⟨v, v', rfl, hv, hv'⟩ := dv2 hs
    cases hv with
    | lst d1 d2 d3 d4 =>
      cases hv' with
      | lst f1 f2 f3 f4 =>
        refine ⟨_, _, _, _, rfl, .inl (.inl d2), .inl (.inl f2), k _ _ H2 e2 (wk_pair (walk_zip (K := K) rfl) ?_ (fun z' H' q => ⟨.inl (.inl (q.lst _ _ d1 d2).1), .inl (.inl (q.lst _ _ f1 f2).1)⟩) fun i x y hi hx hy => ?_) w2⟩
        · rw [zipD, List.length_map, List.length_zip, d4.length, f4.length]
        · obtain ⟨d, g1, g2⟩ := d4.get hx
          obtain ⟨e, g3, g4⟩ := f4.get hy
          refine ⟨d, e, ?_, g2, g4⟩
          rw [zipD, List.getElem?_map, (List.getElem?_zip_eq_some (z := (d, e))).mpr ⟨g1, g3⟩]; rfl
  · exact w2.elim⟩
/-! ### targets -/
abbrev WG := Vx → Ev → (Ev → Prop) → Prop
abbrev WGs := List PyData → Ev → (Ev → Prop) → Prop
def plainS : Slot → Prop
  | .no => True
  | .v _ => True
  | .tb _ => True
  | _ => False
def SubO (Γ' Γ : Ev) : Prop := ∀ (i : Nat) (s : Slot), Γ'[i]? = some s → plainS s ∨ Γ[i]? = some s
theorem SubO.refl (Γ : Ev) : SubO Γ Γ := fun _ _ h => .inr h
theorem SubO.trans {a b c : Ev} (h : SubO a b) (h' : SubO b c) : SubO a c := fun i s q => (h i s q).elim .inl fun q => h' i s q
theorem SubO.set {Γ : Ev} {i : Nat} {x : Vx} : SubO (Γ.set i (.v x)) Γ := fun j s h => by
  rcases set_get h with ⟨e1, e2, e3⟩ | ⟨e1, e2⟩
  · subst e3; exact .inl trivial
  · exact .inr e2
theorem wipe_get (σ : L2.St) (j : Nat) : ∀ vs : List Nat, (L2.wipe σ vs)[j]? = if j ∈ vs then σ[j]?.map (fun _ => none) else σ[j]?
  | [] => by simp [L2.wipe]
  | v :: vs => by
    unfold L2.wipe
    by_cases e : v = j
    · subst e
      rw [if_pos List.mem_cons_self]
      by_cases h : v < σ.length
      · rw [List.getElem?_set_self (by rw [wipe_length]; exact h), List.getElem?_eq_getElem h]; rfl
      · rw [List.getElem?_eq_none (by rw [List.length_set, wipe_length]; omega), List.getElem?_eq_none (by omega)]; rfl
    · rw [List.getElem?_set_ne e, wipe_get σ j vs]
      have : (j ∈ v :: vs) ↔ j ∈ vs := by
        rw [List.mem_cons]
        exact ⟨fun h => h.resolve_left (Ne.symm e), .inr⟩
      by_cases hm : j ∈ vs
      · rw [if_pos hm, if_pos (this.mpr hm)]
      · rw [if_neg hm, if_neg fun h => hm (this.mp h)]
theorem wipe_set {σ : L2.St} {i : Nat} {o : Option V} {vs : List Nat} (h : i ∈ vs) : L2.wipe (σ.set i o) vs = L2.wipe σ vs := by
  refine List.ext_getElem? fun j => ?_
  rw [wipe_get, wipe_get]
  by_cases hm : j ∈ vs
  · rw [if_pos hm, if_pos hm]
    by_cases hl : j < σ.length
    · rw [List.getElem?_eq_getElem hl, List.getElem?_eq_getElem (by rw [List.length_set]; exact hl)]; rfl
    · rw [List.getElem?_eq_none (l := σ) (by omega), List.getElem?_eq_none (l := σ.set i o) (by rw [List.length_set]; omega)]
  · rw [if_neg hm, if_neg hm, List.getElem?_set_ne fun e => hm (by rw [← e]; exact h)]
theorem wipe_wipe (σ : L2.St) (vs : List Nat) : L2.wipe (L2.wipe σ vs) vs = L2.wipe σ vs := by
  refine List.ext_getElem? fun j => ?_
  rw [wipe_get]
  by_cases hm : j ∈ vs
  · rw [if_pos hm, wipe_get, if_pos hm]
    cases σ[j]? <;> rfl
  · rw [if_neg hm]
structure SndG (g : TG) (ns : List Nat) (wg : WG) : Prop where
  run : ∀ (z : Fz) (σ : L2.St) (H : Hp) (Γ : Ev) (v : V) (x : Vx) (R : Ev → Prop) (Q : L2.St → Hp → Prop), Rp z σ H Γ → nq x → Dv z H v x → wg x Γ R → (∀ σ' Γ', Rp z σ' H Γ' → SubO Γ' Γ → (∀ vs : List Nat, (∀ i ∈ ns, i ∈ vs) → L2.wipe σ' vs = L2.wipe σ vs) → R Γ' → Q σ' H) → g v σ H Q
structure SndGs (g : TGs) (ns : List Nat) (wg : WGs) : Prop where
  run : ∀ (z : Fz) (σ : L2.St) (H : Hp) (Γ : Ev) (vs : List V) (ds : List PyData) (R : Ev → Prop) (Q : L2.St → Hp → Prop), Rp z σ H Γ → DtAll z H vs ds → wg ds Γ R → (∀ σ' Γ', Rp z σ' H Γ' → SubO Γ' Γ → (∀ vs : List Nat, (∀ i ∈ ns, i ∈ vs) → L2.wipe σ' vs = L2.wipe σ vs) → R Γ' → Q σ' H) → g vs σ H Q
def wgN (i : Nat) : WG := fun x Γ R => R (Γ.set i (.v x))
theorem sg_name (i : Nat) : SndG (gName i) [i] (wgN i) := ⟨fun z σ H Γ v x R Q r nx hx w k => k _ _ (r.set nx hx) .set (fun vs h => wipe_set (h i List.mem_cons_self)) w⟩
def wgNil : WGs := fun ds Γ R => ds = [] ∧ R Γ
def wgCons (wg : WG) (ws : WGs) : WGs := fun ds Γ R => match ds with
  | d :: r => wg (.d d) Γ fun Γ' => ws r Γ' R
  | [] => False
theorem sg_nil : SndGs gNil [] wgNil := ⟨fun z σ H Γ vs ds R Q r h w k => by
  obtain ⟨rfl, w⟩ := w
  cases h
  exact ⟨rfl, k _ _ r (.refl Γ) (fun _ _ => rfl) w⟩⟩
theorem sg_cons {g : TG} {gs : TGs} {ns ms : List Nat} {wg : WG} {ws : WGs} (h1 : SndG g ns wg) (h2 : SndGs gs ms ws) : SndGs (gCons g gs) (ns ++ ms) (wgCons wg ws) := ⟨fun z σ H Γ vs ds R Q r h w k => by
  unfold wgCons at w
  split at w
  · cases h with
    | cons a t =>
      refine ⟨_, _, rfl, h1.run z σ H Γ _ (.d _) _ _ r trivial (dD a) w fun σ' Γ' r' s' e' w' => h2.run z σ' H Γ' _ _ _ _ r' t w' fun σ2 Γ2 r2 s2 e2 w2 => k σ2 Γ2 r2 (s2.trans s') (fun vs hv => ?_) w2⟩
      rw [e2 vs fun i hi => hv i (List.mem_append_right _ hi), e' vs fun i hi => hv i (List.mem_append_left _ hi)]
  · exact w.elim⟩
def wgT (n : Nat) (ws : WGs) : WG := fun x Γ R => match x with
  | .d (.tuple ds) => ds.length = n ∧ ws ds Γ R
  | _ => False
theorem sg_tup {K : PySem.W.Frag} {n : Nat} {gs : TGs} {ns : List Nat} {ws : WGs} (h : SndGs gs ns ws) : SndG (gTup K n gs) ns (wgT n ws) := ⟨fun z σ H Γ v x R Q r nx hx w k => by
  unfold wgT at w
  split at w
  · cases hx with
    | tup d1 d2 d3 d4 => exact ⟨_, _, rfl, .inl (.inl d2), by rw [d4.length]; exact w.1, h.run z σ H Γ _ _ _ _ r d4 w.2 k⟩
  · exact w.elim⟩
/-! ### list comprehensions -/
def lcW (f : PyData → (Option PyData → Prop) → Prop) : List PyData → (List PyData → Prop) → Prop
  | [], R => R []
  | d :: ds, R => f d fun o => lcW f ds fun es => R (o.toList ++ es)
def LcB (f : PyData → (Option PyData → Prop) → Prop) (ds : List PyData) (R : List PyData → Prop) (_ : Box R) : Prop := lcW f ds R
def wOnlyD (we : WE) (Γ : Ev) (S : PyData → Prop) : Prop := we Γ fun x => match x with
  | .d y => S y
  | _ => False
def lcE (wg : WG) (wt : WT) (we : WE) (Γ : Ev) (d : PyData) (S : Option PyData → Prop) : Prop := wg (.d d) Γ fun Γ2 => wt Γ2 fun b => if b = true then wOnlyD we Γ2 fun y => S (some y) else S none
def wLc (wi : WI) (wg : WG) (wt : WT) (we : WE) (vs : List Nat) : WE := fun Γ R => wi Γ fun ds => ds.length ≤ NN ∧ LcB (lcE wg wt we (wipeE Γ vs)) ds (fun es => R (.d (.list es))) ⟨⟩
def wYes : WT := fun _ R => R true
theorem snd_yes : SndT tYes wYes := ⟨fun z σ H Γ R Q r w k => k true H (.refl _ H) w⟩
structure LcI (z : Fz) (H2 : Hp) (L : Addr) (f : PyData → (Option PyData → Prop) → Prop) (ds : List PyData) (R : List PyData → Prop) (i : Nat) (H' : Hp) : Prop where
  ex : ExB z.p H2 H'
  at_ : ∃ acc es, H' L = some (.lst acc) ∧ DtAll (z.av L) H' acc es ∧ es.length ≤ i ∧ lcW f (ds.drop i) fun rest => R (es ++ rest)
theorem rel_av {c : Bool} {z : Fz} {L : Addr} {H2 H' : Hp} (nL : H2 L = none) (e : ExB z.p H2 H') : Rel c z (z.av L) H2 H' := { (Go.av nL).trans (Go.ex (z := z.av L) e) with
  keep := fun _ a o n h t => e.keep a o n h t }
theorem snd_lc {ti : TI} {g : TG} {tt : TT} {te : TE} {vs ns : List Nat} {wi : WI} {wg : WG} {wt : WT} {we : WE} (hi : SndI true ti wi) (hg : SndG g ns wg) (hns : ∀ i ∈ ns, i ∈ vs) (ht : SndT tt wt) (he : SndE te we) : SndE (tLc ti g tt te vs) (wLc wi wg wt we vs) := ⟨fun z σ H Γ R Q r w k =>
  hi.run z σ H Γ _ _ r w fun J ds H2 e2 wk ⟨hl, wl⟩ L nL => by
    have wl : lcW (lcE wg wt we (wipeE Γ vs)) ds (fun es => R (.d (.list es))) := wl
    obtain ⟨G, Y, walk, hG, hY⟩ := wk.ex
    have r2 := r.up e2
    refine lc_it walk (LcI z H2 L (lcE wg wt we (wipeE Γ vs)) ds (fun es => R (.d (.list es)))) ⟨.new nL, [], [], upd_same, .nil, Nat.zero_le _, by simpa using wl⟩ (fun i H' _ q => hG _ H' (rel_av nL q.ex)) (fun i x H' H'' hi q y => ?_) fun H' q => ?_
    · obtain ⟨ex, acc, es, h1, h2, h3, h4⟩ := q
      have r3 : Rp (z.av L) σ H' Γ := r2.av nL ex ⟨_, h1, fun _ e => nomatch e⟩
      obtain ⟨d, g1, g2, g3⟩ := hY (z.av L) H' i x H'' (rel_av nL ex) r3.n r3.al hi y
      have ed : ds.drop i = d :: ds.drop (i + 1) := by
        obtain ⟨hlt, e⟩ := List.getElem?_eq_some_iff.mp g1
        rw [← e]
        exact List.drop_eq_getElem_cons hlt
      rw [ed] at h4
      have r4 := (r3.up g2).wipe vs
      have nLp : L ≠ z.p := (r2.al.ne nL).1
      refine hg.run (z.av L) (L2.wipe σ vs) H'' (wipeE Γ vs) x (.d d) _ _ r4 trivial (dD g3) h4 fun σ2 Γ2 r5 _ ew w5 => ⟨?_, ?_⟩
      · rw [ew vs hns, wipe_wipe]
      · refine ht.run (z.av L) σ2 H'' Γ2 _ _ r5 w5 fun b H5 e5 w6 => ?_
        have k5 := (g2.trans e5)
        split at w6
        · rename_i hb
          rw [if_pos hb]
          refine he.run (z.av L) σ2 H5 Γ2 _ _ (r5.up e5) w6 fun y xy H6 e6 hy w7 => ?_
          split at w7
          · rename_i d'
            have k6 := k5.trans e6
            refine ⟨acc, k6.keep L _ nLp h1, by rw [h2.length]; exact Nat.lt_of_lt_of_le (by omega : es.length < NN) NN_line, (ex.trans k6).mut r2.al.1 nL (.lst (k6.keep L _ nLp h1)), acc ++ [y], es ++ [d'], upd_same, ?_, by rw [List.length_append]; show _ + 1 ≤ _; omega, by simpa using w7⟩
            exact ((dts_go (Go.ex (z := z.av L) k6).toGs _ _ h2).append (.cons hy .nil)).to .mut
          · exact w7.elim
        · rename_i hb
          rw [if_neg hb]
          exact ⟨ex.trans k5, acc, es, k5.keep L _ nLp h1, dts_go (Go.ex (z := z.av L) k5).toGs _ _ h2, by omega, by simpa using w6⟩
    · obtain ⟨ex, acc, es, h1, h2, h3, h4⟩ := q
      rw [List.drop_length] at h4
      have h5 : R (.d (.list es)) := by simpa [lcW] using h4
      exact k _ _ H' (e2.trans ex) (dL (r2.al.ne nL) h1 (by rw [h2.length, r.n]; omega) (h2.to .unav)) h5⟩
/-- .. over a dict, which is locked meanwhile -/
def wLock (i : Nat) (we : WE) : WE := fun Γ R => match Γ[i]? with
  | some (.v (.dk kvs)) => we ((Γ.map lockS).set i (.fk kvs)) fun x => match x with | .d y => R (.d y) | _ => False
  | some (.ok _ kvs) => we ((Γ.map lockS).set i (.fk kvs)) fun x => match x with | .d y => R (.d y) | _ => False
  | some (.v (.dt kvs)) => we ((Γ.map lockS).set i (.ft kvs)) fun x => match x with | .d y => R (.d y) | _ => False
  | some (.ot _ kvs) => we ((Γ.map lockS).set i (.ft kvs)) fun x => match x with | .d y => R (.d y) | _ => False
  | _ => False
theorem lock_go {te : TE} {we : WE} {i : Nat} {z : Fz} {σ : L2.St} {H : Hp} {Γ : Ev} {R : Vx → Prop} {Q : VK} {d : Addr} {u : HO} {s : Slot} (h : SndE te we) (r : Rp z σ H Γ) (np : d ≠ z.p) (hd : H d = some u) (hu : isDict u) (hs : ∀ od, SlotOk z (upd H d (.frz od u)) σ[i]? s)
    (w : we ((Γ.map lockS).set i s) fun x => match x with | .d y => R (.d y) | _ => False) (k : ∀ v x H2, ExB z.p H H2 → Dv z H2 v x → R x → Q v H2) : tLockE te σ H Q := by
  refine ⟨d, u, hd, by cases u <;> first | exact trivial | exact hu.elim, fun od => ?_⟩
  refine h.run z σ _ _ _ _ ((r.lock hd hu (od := od)).re (hs od)) w fun v x H2 e2 hx w2 => ?_
  have h2 : H2 d = some (.frz od u) := e2.keep d _ np upd_same
  split at w2
  · have gd : Gd H d := by
      cases u with
      | dK kvs => exact .dK hd
      | dT kvs => exact .dT hd
      | _ => exact hu.elim
    refine ⟨h2, k v _ _ ⟨fun a o na ha nt => ?_, fun al => ?_, fun q bq => ?_, fun a ps na ha => ?_, fun P hT => tab_upd (.frz h2) (e2.tabs P (tab_upd gd hT))⟩ (dD (dt_go (.unlock h2) _ _ hx)) w2⟩
    · by_cases e : a = d
      · subst e; rw [hd] at ha; cases ha; exact upd_same
      · rw [upd_ne e]; exact e2.keep a o na (by rw [upd_ne e]; exact ha) nt
    · exact al_upd (isDict_seq hu).2 (e2.al (al_upd (fun _ e => nomatch e) al))
    · have b1 := ((Gs.lock (z := ⟨z.n, z.p, [], []⟩) (od := od) hd hu).bag q (by simp) bq).2
      exact ((Gs.unlock (z := ⟨z.n, z.p, [], []⟩) h2).bag q (by simp) (e2.bag q b1)).2
    · by_cases e : a = d
      · subst e; exact ((gd _ ha).1 ps rfl).elim
      · rw [upd_ne e]; exact e2.tb a ps na (by rw [upd_ne e]; exact ha)
  · exact w2.elim
theorem snd_lock {te : TE} {we : WE} {i : Nat} (h : SndE te we) : SndE (tLockE te) (wLock i we) := ⟨fun z σ H Γ R Q r w k => by
  unfold wLock at w
  split at w
  · rename_i kvs e
    obtain ⟨_, v, h1, a, rfl, h2, h3, h4⟩ := r.sl i _ e
    exact lock_go (s := .fk kvs) h r h2.1 h3 trivial (fun od => ⟨a, od, h1, h2.1, upd_same, h4⟩) w k
  · rename_i kvs e
    obtain ⟨h1, h2, h3, h4, h5⟩ := r.sl i _ e
    exact lock_go (s := .fk kvs) h r h3 h4 trivial (fun od => ⟨_, od, h1, h3, upd_same, h5⟩) w k
  · rename_i kvs e
    obtain ⟨_, v, h1, a, rfl, h2, h3, h4⟩ := r.sl i _ e
    exact lock_go (s := .ft kvs) h r h2.1 h3 trivial (fun od => ⟨a, od, h1, h2.1, upd_same, h4⟩) w k
  · rename_i kvs e
    obtain ⟨h1, h2, h3, h4, h5⟩ := r.sl i _ e
    exact lock_go (s := .ft kvs) h r h3 h4 trivial (fun od => ⟨_, od, h1, h3, upd_same, h5⟩) w k
  · exact w.elim⟩
end Dm
namespace Dm
open PySem L2 Pb
/-! ### statements -/
structure Post where
  nx : Ev → Prop
  rt : Vx → Prop
  bk : Ev → Prop
  ct : Ev → Prop
abbrev WS := Ev → Post → Prop
/-- the frame of a body: at its entry; where its loops began -/
structure Fr where
  z : Fz
  H : Hp
  K : List (Fz × Hp)
def isLk : Slot → Prop
  | .lk _ => True
  | .lt _ => True
  | .fk _ => True
  | .ft _ => True
  | _ => False
structure Rs (f : Fr) (z : Fz) (σ : L2.St) (H : Hp) (Γ : Ev) : Prop extends Rp z σ H Γ where
  p : z.p = f.z.p
  n0 : f.z.n = NN
  sub : ∀ a ∈ f.z.S, a ∈ z.S
  al0 : AlS f.z f.H
  ex : ExB f.z.p f.H H
  fr : ∀ (i : Nat) (s : Slot) (L : Addr), Γ[i]? = some s → s.own = some L → f.H L = none
  nd : ∀ (i j : Nat) (s t : Slot) (L : Addr), Γ[i]? = some s → Γ[j]? = some t → s.own = some L → t.own = some L → i = j
  ks : ∀ k ∈ f.K, Go k.1 z k.2 H
  nl : ∀ (i : Nat) (s : Slot), Γ[i]? = some s → ¬ isLk s
structure DOk (f : Fr) (D : Ends) (P : Post) : Prop where
  nx : ∀ z σ H Γ, Rs f z σ H Γ → P.nx Γ → D.nx σ H
  bk : ∀ z σ H Γ, Rs f z σ H Γ → P.bk Γ → D.bk σ H
  ct : ∀ z σ H Γ, Rs f z σ H Γ → P.ct Γ → D.ct σ H
  rt : ∀ v x H, ExB f.z.p f.H H → nq x → Dv f.z H v x → P.rt x → D.rt v H
  rf : ∀ L vs ds H, ExB f.z.p f.H H → f.H L = none → H L = some (.lst vs) → DtAll (f.z.av L) H vs ds → vs.length ≤ NN → P.rt (.fl ds) → D.rt (.ref L) H
structure SndS (ts : TS) (ws : WS) : Prop where
  run : ∀ (f : Fr) (z : Fz) (σ : L2.St) (H : Hp) (Γ : Ev) (D : Ends) (P : Post), Rs f z σ H Γ → DOk f D P → ws Γ P → ts D σ H
section
variable {f : Fr} {z : Fz} {σ σ' : L2.St} {H H' : Hp} {Γ Γ' : Ev} {D : Ends} {P : Post}
theorem plain_own {s : Slot} {L : Addr} (h : plainS s) (o : s.own = some L) : False := by cases s <;> first | exact h.elim | cases o
theorem Rs.up (r : Rs f z σ H Γ) (e : ExB z.p H H') : Rs f z σ H' Γ := { r.toRp.up e with
  p := r.p, n0 := r.n0, sub := r.sub, al0 := r.al0, ex := r.ex.trans (by rw [← r.p]; exact e), fr := r.fr, nd := r.nd, ks := fun k hk => (r.ks k hk).trans (.ex e), nl := r.nl }
/-- other slots, nothing more owned -/
theorem Rs.re (r : Rs f z σ H Γ) (q : Rp z σ' H Γ') (s : SubO Γ' Γ) : Rs f z σ' H Γ' := { q with
  p := r.p, n0 := r.n0, sub := r.sub, al0 := r.al0, ex := r.ex, ks := r.ks
  fr := fun i t L h o => (s i t h).elim (fun q => (plain_own q o).elim) fun q => r.fr i t L q o
  nd := fun i j t u L h h' o o' => (s i t h).elim (fun q => (plain_own q o).elim) fun q => (s j u h').elim (fun q' => (plain_own q' o').elim) fun q' => r.nd i j t u L q q' o o'
  nl := fun i t h => (s i t h).elim (fun q => by cases t <;> first | exact q.elim | exact id) fun q => r.nl i t q }
theorem Rs.rt {v : V} {x : Vx} (r : Rs f z σ H Γ) (nx : nq x) (h : Dv z H v x) : Dv f.z H v x := h.go nx (.sub (by rw [r.n, r.n0]; exact Nat.le_refl _) r.p.symm r.sub)
theorem Rs.setv {i : Nat} {v : V} {x : Vx} (r : Rs f z σ H Γ) (nx : nq x) (h : Dv z H v x) : Rs f z (σ.set i (some v)) H (Γ.set i (.v x)) := r.re (r.toRp.set nx h) .set
theorem DOk.next (d : DOk f D P) {N : L2.St → Hp → Prop} {N' : Ev → Prop} (h : ∀ z σ H Γ, Rs f z σ H Γ → N' Γ → N σ H) : DOk f { D with nx := N } { P with nx := N' } := ⟨h, d.bk, d.ct, d.rt, d.rf⟩
/-- a new thing at L: its slot is its own -/
theorem Rs.own {i : Nat} {L : Addr} {s : Slot} (r : Rs f z σ H Γ) (nL : H L = none) (e : ExB z.p H H') (al : Al L H') (so : s.own = some L) (h : SlotOk (z.av L) H' (some (some (.ref L))) s) : Rs f (z.av L) (σ.set i (some (.ref L))) H' (Γ.set i s) := by
  have r1 : Rp (z.av L) σ H' Γ := r.toRp.av nL e al
  have old : ∀ (j : Nat) (t : Slot), Γ[j]? = some t → t.own ≠ some L := fun j t ht o => by
    have g := r.sl j t ht
    cases t with
    | ol M xs => cases o; obtain ⟨_, _, _, vs, g4, _⟩ := g; rw [nL] at g4; cases g4
    | ok M xs => cases o; obtain ⟨_, _, _, g4, _⟩ := g; rw [nL] at g4; cases g4
    | ot M xs => cases o; obtain ⟨_, _, _, g4, _⟩ := g; rw [nL] at g4; cases g4
    | _ => cases o
  refine { r1.setS h with p := r.p, n0 := r.n0, sub := fun a ha => List.mem_cons_of_mem _ (r.sub a ha), al0 := r.al0, ex := r.ex.trans (by rw [← r.p]; exact e), fr := fun j t M ht o => ?_, nd := fun j k t u M ht hu o o' => ?_, ks := fun k hk => ((r.ks k hk).trans (.av nL)).trans (.ex (z := z.av L) e), nl := fun j t ht => ?_ }
  · rcases set_get ht with ⟨_, _, e3⟩ | ⟨_, e2⟩
    · subst e3
      rw [so] at o
      cases o
      exact r.ex.free r.al0.1 nL
    · exact r.fr j t M e2 o
  · rcases set_get ht with ⟨e1, _, e3⟩ | ⟨e1, e2⟩
    · rcases set_get hu with ⟨f1, _, f3⟩ | ⟨f1, f2⟩
      · rw [e1, f1]
      · subst e3; rw [so] at o; cases o; exact (old k u f2 o').elim
    · rcases set_get hu with ⟨f1, _, f3⟩ | ⟨f1, f2⟩
      · subst f3; rw [so] at o'; cases o'; exact (old j t e2 o).elim
      · exact r.nd j k t u M e2 f2 o o'
  · rcases set_get ht with ⟨_, _, e3⟩ | ⟨_, e2⟩
    · subst e3; cases t <;> first | exact id | cases so
    · exact r.nl j t e2
theorem own_gd {o : Option (Option V)} {s : Slot} {L : Addr} (h : SlotOk z H o s) (so : s.own = some L) : Gd H L := by
  cases s with
  | ol M xs => cases so; obtain ⟨_, _, _, vs, h4, _⟩ := h; exact .lst h4
  | ok M kvs => cases so; exact .dK h.2.2.2.1
  | ot M kvs => cases so; exact .dT h.2.2.2.1
  | _ => cases so
/-- the own thing at slot i is changed -/
theorem Rs.mut {i : Nat} {L : Addr} {s t : Slot} {o : HO} (nt : ∀ xs, o ≠ .tup xs) (r : Rs f z σ H Γ) (hs : Γ[i]? = some s) (so : s.own = some L) (to : t.own = some L) (hm : L ∈ z.S) (hp : L ≠ z.p) (h : SlotOk z (upd H L o) σ[i]? t) : Rs f z σ (upd H L o) (Γ.set i t) := by
  have fL := r.fr i s L hs so
  have go : Go z z H (upd H L o) := .mut hm hp
  have hi : i < Γ.length := (List.getElem?_eq_some_iff.mp hs).1
  refine { n := r.n, al := AlS.upd nt r.al (own_gd (r.sl i s hs) so), len := by rw [List.length_set]; exact r.len, sl := fun j u q => ?_, p := r.p, n0 := r.n0, sub := r.sub, al0 := r.al0, ex := r.ex.mut r.al0.1 fL (own_gd (r.sl i s hs) so), fr := fun j u M ht ou => ?_, nd := fun j k u w M ht hu ou ow => ?_, ks := fun k hk => (r.ks k hk).trans go, nl := fun j u ht => ?_ }
  · rcases set_get q with ⟨e1, e2, e3⟩ | ⟨e1, e2⟩
    · subst e1 e3; exact h
    · have g := r.sl j u e2
      have ne : ∀ M, u.own = some M → M ≠ L := fun M om em => e1 (r.nd j i u s L e2 hs (by rw [om, em]) so)
      have nr : ∀ (a : Addr) (w : HO), a ≠ L → H a = some w → upd H L o a = some w := fun a w n h => by rw [upd_ne n]; exact h
      cases u with
      | no => trivial
      | v x => obtain ⟨g0, v, g1, g2⟩ := g; exact ⟨g0, v, g1, g2.go g0 go⟩
      | ol M xs => obtain ⟨g1, g2, g3, vs, g4, g5, g6⟩ := g; exact ⟨g1, g2, g3, vs, nr _ _ (ne M rfl) g4, dts_go go.toGs _ _ g5, g6⟩
      | ok M xs => obtain ⟨g1, g2, g3, g4, g5⟩ := g; exact ⟨g1, g2, g3, nr _ _ (ne M rfl) g4, g5⟩
      | ot M xs => obtain ⟨g1, g2, g3, g4, g5⟩ := g; exact ⟨g1, g2, g3, nr _ _ (ne M rfl) g4, g5⟩
      | lk xs => exact (r.nl j _ e2 trivial).elim
      | lt xs => exact (r.nl j _ e2 trivial).elim
      | fk xs => exact (r.nl j _ e2 trivial).elim
      | ft xs => exact (r.nl j _ e2 trivial).elim
      | tb P => exact r.sl j _ e2
  · rcases set_get ht with ⟨_, _, e3⟩ | ⟨_, e2⟩
    · subst e3; rw [to] at ou; cases ou; exact fL
    · exact r.fr j u M e2 ou
  · rcases set_get ht with ⟨e1, _, e3⟩ | ⟨e1, e2⟩
    · rcases set_get hu with ⟨f1, _, f3⟩ | ⟨f1, f2⟩
      · rw [e1, f1]
      · subst e3; rw [to] at ou; cases ou; rw [e1]; exact r.nd i k s w L hs f2 so ow
    · rcases set_get hu with ⟨f1, _, f3⟩ | ⟨f1, f2⟩
      · subst f3; rw [to] at ow; cases ow; rw [f1]; exact r.nd j i u s L e2 hs ou so
      · exact r.nd j k u w M e2 f2 ou ow
  · rcases set_get ht with ⟨_, _, e3⟩ | ⟨_, e2⟩
    · subst e3; cases u <;> first | exact id | cases to
    · exact r.nl j u e2
end
/-! single statements -/
def wNext : WS := fun Γ P => P.nx Γ
def wSeq (a b : WS) : WS := fun Γ P => a Γ { P with nx := fun Γ' => b Γ' P }
def wRet (we : WE) : WS := fun Γ P => we Γ fun x => nq x ∧ P.rt x
def wRetN : WS := fun _ P => P.rt (.d .none)
def wDrop (we : WE) : WS := fun Γ P => we Γ fun _ => P.nx Γ
def wIf (wt : WT) (a b : WS) : WS := fun Γ P => wt Γ fun c => if c = true then a Γ P else b Γ P
def wNever : WS := fun _ _ => False
def wAsg (we : WE) (wg : WG) : WS := fun Γ P => we Γ fun x => nq x ∧ wg x Γ P.nx
theorem ss_next : SndS tNext wNext := ⟨fun f z σ H Γ D P r d w => d.nx z σ H Γ r w⟩
theorem ss_seq {t u : TS} {a b : WS} (h1 : SndS t a) (h2 : SndS u b) : SndS (tSeq t u) (wSeq a b) := ⟨fun f z σ H Γ D P r d w => h1.run f z σ H Γ _ _ r (d.next fun z σ H Γ r w => h2.run f z σ H Γ D P r d w) w⟩
theorem ss_ret {te : TE} {we : WE} (h : SndE te we) : SndS (tRet te) (wRet we) := ⟨fun f z σ H Γ D P r d w => h.run z σ H Γ _ _ r.toRp w fun v x H2 e2 hx w2 => d.rt v x H2 (r.up e2).ex w2.1 ((r.up e2).rt w2.1 hx) w2.2⟩
theorem ss_retN : SndS tRetN wRetN := ⟨fun f z σ H Γ D P r d w => d.rt _ (.d .none) H r.ex trivial dN w⟩
theorem ss_drop {te : TE} {we : WE} (h : SndE te we) : SndS (tDrop te) (wDrop we) := ⟨fun f z σ H Γ D P r d w => h.run z σ H Γ _ _ r.toRp w fun v x H2 e2 hx w2 => d.nx z σ H2 Γ (r.up e2) w2⟩
theorem ss_if {c : TT} {t u : TS} {wt : WT} {a b : WS} (hc : SndT c wt) (h1 : SndS t a) (h2 : SndS u b) : SndS (tIfS c t u) (wIf wt a b) := ⟨fun f z σ H Γ D P r d w => hc.run z σ H Γ _ _ r.toRp w fun x H2 e2 w2 => by
  split at w2
  · rename_i h; rw [if_pos h]; exact h1.run f z σ H2 Γ D P (r.up e2) d w2
  · rename_i h; rw [if_neg h]; exact h2.run f z σ H2 Γ D P (r.up e2) d w2⟩
theorem ss_never : SndS tNever wNever := ⟨fun f z σ H Γ D P r d w => w⟩
theorem ss_asg {te : TE} {g : TG} {ns : List Nat} {we : WE} {wg : WG} (h : SndE te we) (hg : SndG g ns wg) : SndS (tAsg te g) (wAsg we wg) := ⟨fun f z σ H Γ D P r d w => h.run z σ H Γ _ _ r.toRp w fun v x H2 e2 hx w2 => hg.run z σ H2 Γ v x _ _ (r.up e2).toRp w2.1 hx w2.2 fun σ' Γ' r' s' _ w' => d.nx z σ' H2 Γ' ((r.up e2).re r' s') w'⟩
/-! slots told in another order -/
theorem Rs.reix {f : Fr} {z : Fz} {σ σ' : L2.St} {H : Hp} {Γ Γ' : Ev} (r : Rs f z σ H Γ) (mp : Nat → Nat) (hl : σ'.length = Γ'.length) (h : ∀ (i : Nat) (s : Slot), Γ'[i]? = some s → s = .no ∨ (Γ[mp i]? = some s ∧ σ'[i]? = σ[mp i]?)) (inj : ∀ (i j : Nat) (s t : Slot), Γ'[i]? = some s → Γ'[j]? = some t → s ≠ .no → t ≠ .no → mp i = mp j → i = j) : Rs f z σ' H Γ' where
  n := r.n
  al := r.al
  len := hl
  sl := fun i s q => by
    rcases h i s q with e | ⟨e1, e2⟩
    · subst e; trivial
    · rw [e2]; exact r.sl _ s e1
  p := r.p
  n0 := r.n0
  sub := r.sub
  al0 := r.al0
  ex := r.ex
  fr := fun i s L q o => by
    rcases h i s q with e | ⟨e1, e2⟩
    · subst e; cases o
    · exact r.fr _ s L e1 o
  nd := fun i j s t L q q' o o' => by
    rcases h i s q with e | ⟨e1, e2⟩
    · subst e; cases o
    · rcases h j t q' with e' | ⟨e3, e4⟩
      · subst e'; cases o'
      · exact inj i j s t q q' (fun e => by rw [e] at o; cases o) (fun e => by rw [e] at o'; cases o') (r.nd _ _ s t L e1 e3 o o')
  ks := r.ks
  nl := fun i s q => by
    rcases h i s q with e | ⟨e1, e2⟩
    · subst e; exact id
    · exact r.nl _ s e1
section
variable {f : Fr} {z : Fz} {σ : L2.St} {H : Hp} {Γ : Ev} {o : Option V} {s : Slot}
theorem Rs.pushNo (r : Rs f z σ H Γ) : Rs f z (none :: σ) H (.no :: Γ) := r.reix (fun i => i - 1) (by rw [List.length_cons, List.length_cons, r.len]) (fun i s q => by
  cases i with
  | zero => left; simpa using q.symm
  | succ i => right; simpa using q) fun i j s t q q' n n' e => by
  cases i with
  | zero => exact (n (by simpa using q.symm)).elim
  | succ i =>
    cases j with
    | zero => exact (n' (by simpa using q'.symm)).elim
    | succ j => simpa using e
theorem Rs.drop1 (r : Rs f z (o :: σ) H (s :: Γ)) : Rs f z σ H Γ := r.reix (fun i => i + 1) (by have := r.len; simpa using this) (fun i t q => .inr ⟨by simpa using q, by simp⟩) fun i j s t _ _ _ _ e => by simpa using e
theorem Rs.dropN : ∀ {τ : L2.St} {Δ : Ev}, τ.length = Δ.length → Rs f z (τ ++ σ) H (Δ ++ Γ) → Rs f z σ H Γ
  | [], [], _, r => r
  | _ :: τ, _ :: Δ, h, r => Rs.dropN (by simpa using h) (Rs.drop1 r)
  | [], _ :: _, h, _ => by simp at h
  | _ :: _, [], h, _ => by simp at h
theorem Rs.push {v : V} {x : Vx} (r : Rs f z σ H Γ) (nx : nq x) (h : Dv z H v x) : Rs f z (some v :: σ) H (.v x :: Γ) := (r.pushNo.setv (i := 0) nx h)
theorem Rs.pushOwn {L : Addr} {H' : Hp} (r : Rs f z σ H Γ) (nL : H L = none) (e : ExB z.p H H') (al : Al L H') (so : s.own = some L) (h : SlotOk (z.av L) H' (some (some (.ref L))) s) : Rs f (z.av L) (some (.ref L) :: σ) H' (s :: Γ) := (r.pushNo.own (i := 0) nL e al so h)
/-- the first one goes to slot k -/
theorem Rs.move {k : Nat} (r : Rs f z (o :: σ) H (s :: Γ)) : Rs f z (σ.set k o) H (Γ.set k s) := r.reix (fun i => if i = k then 0 else i + 1) (by have := r.len; simpa using this) (fun i t q => by
  right
  rcases set_get q with ⟨e1, e2, e3⟩ | ⟨e1, e2⟩
  · subst e1 e3
    have lt : i < σ.length := by have := r.len; simp at this; omega
    rw [if_pos rfl, List.getElem?_set_self lt]
    exact ⟨rfl, rfl⟩
  · rw [if_neg e1, List.getElem?_set_ne (Ne.symm e1)]
    exact ⟨by simpa using e2, by simp⟩) fun i j s t _ _ _ _ e => by
  split at e <;> split at e <;> omega
end
/-- several at once: values, and things of their own -/
abbrev WM := Ev → (List Slot → Prop) → Prop
structure SndM (ta : TA) (wm : WM) : Prop where
  run : ∀ (f : Fr) (z : Fz) (σ : L2.St) (H : Hp) (Γ : Ev) (τ : L2.St) (Δ : Ev) (R : List Slot → Prop) (Q : List V → Hp → Prop), τ.length = Δ.length → Rs f z (τ ++ σ) H (Δ ++ Γ) → wm Γ R →
    (∀ vs ss z' H2, vs.length = ss.length → Rs f z' ((vs.map some).reverse ++ (τ ++ σ)) H2 (ss.reverse ++ (Δ ++ Γ)) → R ss → Q vs H2) → ta σ H Q
def wmNil : WM := fun _ R => R []
def wmV (we : WE) (wm : WM) : WM := fun Γ R => we Γ fun x => nq x ∧ wm Γ fun ss => R (.v x :: ss)
def wmL (wm : WM) : WM := fun Γ R => ∀ L, wm Γ fun ss => R (.ol L [] :: ss)
def wmT (wm : WM) : WM := fun Γ R => ∀ L, wm Γ fun ss => R (.ot L [] :: ss)
theorem sm_nil : SndM tNil wmNil := ⟨fun f z σ H Γ τ Δ R Q hl r w k => k [] [] z H rfl r w⟩
theorem rev_app {α : Type} (a : α) (l m : List α) : (a :: l).reverse ++ m = l.reverse ++ (a :: m) := by rw [List.reverse_cons, List.append_assoc]; rfl
theorem sm_v {te : TE} {ta : TA} {we : WE} {wm : WM} (he : SndE te we) (hm : SndM ta wm) : SndM (tCons te ta) (wmV we wm) := ⟨fun f z σ H Γ τ Δ R Q hl r w k =>
  he.run z σ H Γ _ _ (r.dropN hl).toRp w fun v x H2 e2 hx w2 => hm.run f z σ H2 Γ (some v :: τ) (.v x :: Δ) _ _ (by simpa using hl) ((r.up e2).push w2.1 hx) w2.2 fun vs ss z' H3 hl' r' w' => k (v :: vs) (.v x :: ss) z' H3 (by simpa using hl') (by rw [List.map_cons, rev_app, rev_app]; exact r') w'⟩
theorem sm_l {ta : TA} {wm : WM} (hm : SndM ta wm) : SndM (tCons (tLst tNil) ta) (wmL wm) := ⟨fun f z σ H Γ τ Δ R Q hl r w k => by
  refine ⟨Nat.zero_le _, fun L nL => ?_⟩
  have np := (r.al.ne nL).1
  refine hm.run f (z.av L) σ _ Γ (some (.ref L) :: τ) (.ol L [] :: Δ) _ _ (by simpa using hl) (r.pushOwn nL (.new nL) ⟨_, upd_same, fun _ e => nomatch e⟩ rfl ⟨rfl, List.mem_cons_self, np, [], upd_same, .nil, Nat.zero_le _⟩) (w L) fun vs ss z' H3 hl' r' w' => k (.ref L :: vs) (.ol L [] :: ss) z' H3 (by simpa using hl') (by rw [List.map_cons, rev_app, rev_app]; exact r') w'⟩
theorem sm_t {ta : TA} {wm : WM} (hm : SndM ta wm) : SndM (tCons tDNewT ta) (wmT wm) := ⟨fun f z σ H Γ τ Δ R Q hl r w k => fun L nL => by
  have np := (r.al.ne nL).1
  exact hm.run f (z.av L) σ _ Γ (some (.ref L) :: τ) (.ot L [] :: Δ) _ _ (by simpa using hl) (r.pushOwn nL (.new nL) ⟨_, upd_same, fun _ e => nomatch e⟩ rfl ⟨rfl, List.mem_cons_self, np, upd_same, fun _ h => nomatch h⟩) (w L) fun vs ss z' H3 hl' r' w' => k (.ref L :: vs) (.ot L [] :: ss) z' H3 (by simpa using hl') (by rw [List.map_cons, rev_app, rev_app]; exact r') w'⟩
def wPar (i j : Nat) (wm : WM) : WS := fun Γ P => wm Γ fun ss => match ss with
  | [s, t] => P.nx ((Γ.set i s).set j t)
  | _ => False
theorem len2 {α : Type} {l : List α} (h : l.length = 2) : ∃ a b, l = [a, b] := by
  match l, h with
  | [a, b], _ => exact ⟨a, b, rfl⟩
theorem len3 {α : Type} {l : List α} (h : l.length = 3) : ∃ a b c, l = [a, b, c] := by
  match l, h with
  | [a, b, c], _ => exact ⟨a, b, c, rfl⟩
theorem ss_par {i j : Nat} {ta : TA} {wm : WM} (hij : i ≠ j) (h : SndM ta wm) : SndS (tPar i j ta) (wPar i j wm) := ⟨fun f z σ H Γ D P r d w => h.run f z σ H Γ [] [] _ _ rfl r w fun vs ss z' H2 hl r' w' => by
  split at w'
  · rename_i s t
    obtain ⟨a, b, rfl⟩ := len2 hl
    refine ⟨a, b, rfl, d.nx z' _ H2 _ ?_ w'⟩
    have r1 : Rs f z' (some a :: σ.set j (some b)) H2 (s :: Γ.set j t) := Rs.move (k := j + 1) (o := some b) (s := t) (σ := some a :: σ) (Γ := s :: Γ) r'
    have r2 := Rs.move (k := i) r1
    rw [List.set_comm _ _ (Ne.symm hij), List.set_comm _ _ (Ne.symm hij)] at r2
    exact r2
  · exact w'.elim⟩
def wTri (i j k : Nat) (wm : WM) : WS := fun Γ P => wm Γ fun ss => match ss with
  | [s, t, u] => P.nx (((Γ.set i s).set j t).set k u)
  | _ => False
theorem ss_tri {K : PySem.W.Frag} {i j k : Nat} {ta : TA} {wm : WM} (hij : i ≠ j) (hik : i ≠ k) (hjk : j ≠ k) (h : SndM ta wm) : SndS (tAsg (tTup ta) (gTup K 3 (gCons (gName i) (gCons (gName j) (gCons (gName k) gNil))))) (wTri i j k wm) := ⟨fun f z σ H Γ D P r d w => h.run f z σ H Γ [] [] _ _ rfl r w fun vs ss z' H2 hl r' w' => by
  split at w'
  · rename_i s t u
    obtain ⟨a, b, c, rfl⟩ := len3 hl
    refine ⟨by show 3 ≤ sizeLine; decide, fun p np => ⟨p, _, rfl, .inl (.inl upd_same), rfl, _, _, rfl, _, _, rfl, _, _, rfl, rfl, ?_⟩⟩
    have r1 : Rs f z' (some b :: some a :: σ.set k (some c)) _ (t :: s :: Γ.set k u) := Rs.move (k := k + 2) (o := some c) (s := u) (σ := some b :: some a :: σ) (Γ := t :: s :: Γ) (r'.up (.new (o := .tup [a, b, c]) np))
    have r2 : Rs f z' (some a :: (σ.set k (some c)).set j (some b)) _ (s :: (Γ.set k u).set j t) := Rs.move (k := j + 1) r1
    have r3 := Rs.move (k := i) r2
    refine d.nx z' _ _ _ ?_ w'
    rw [List.set_comm _ _ (Ne.symm hjk), List.set_comm _ _ (Ne.symm hjk), List.set_comm _ _ (Ne.symm hik), List.set_comm _ _ (Ne.symm hik), List.set_comm _ _ (Ne.symm hij), List.set_comm _ _ (Ne.symm hij)] at r3
    exact r3
  · exact w'.elim⟩
/-! a list that is new -/
abbrev WF := Ev → (List PyData → Prop) → Prop
structure SndF (te : TE) (wf : WF) : Prop where
  run : ∀ (z : Fz) (σ : L2.St) (H : Hp) (Γ : Ev) (R : List PyData → Prop) (Q : VK), Rp z σ H Γ → wf Γ R → (∀ L vs ds H2, ExB z.p H H2 → H L = none → H2 L = some (.lst vs) → DtAll (z.av L) H2 vs ds → vs.length ≤ NN → R ds → Q (.ref L) H2) → te σ H Q
def wNew (i : Nat) (wf : WF) : WS := fun Γ P => wf Γ fun ds => ∀ L, P.nx (Γ.set i (.ol L ds))
theorem ss_new {i : Nat} {te : TE} {wf : WF} (h : SndF te wf) : SndS (tAsg te (gName i)) (wNew i wf) := ⟨fun f z σ H Γ D P r d w => h.run z σ H Γ _ _ r.toRp w fun L vs ds H2 e nL hL hd hl w2 => d.nx (z.av L) _ H2 _ (r.own (s := .ol L ds) nL e ⟨_, hL, fun _ e => nomatch e⟩ rfl ⟨rfl, List.mem_cons_self, (r.al.ne nL).1, vs, hL, hd, hl⟩) (w2 L)⟩
theorem sf_nil : SndF (tLst tNil) (fun _ R => R []) := ⟨fun z σ H Γ R Q r w k => ⟨Nat.zero_le _, fun L nL => k L [] [] _ (.new nL) nL upd_same .nil (Nat.zero_le _) w⟩⟩
def wRetF (wf : WF) : WS := fun Γ P => wf Γ fun ds => P.rt (.fl ds)
theorem av_sub {f : Fr} {z : Fz} {σ : L2.St} {H : Hp} {Γ : Ev} {L : Addr} (r : Rs f z σ H Γ) : Go (z.av L) (f.z.av L) H H := .sub (by show z.n ≤ f.z.n; rw [r.n, r.n0]; exact Nat.le_refl _) r.p.symm fun a ha => by
  rcases List.mem_cons.mp ha with e | e
  · rw [e]; exact List.mem_cons_self
  · exact List.mem_cons_of_mem _ (r.sub a e)
theorem ss_retF {te : TE} {wf : WF} (h : SndF te wf) : SndS (tRet te) (wRetF wf) := ⟨fun f z σ H Γ D P r d w => h.run z σ H Γ _ _ r.toRp w fun L vs ds H2 e nL hL hd hl w2 => by
  have r2 := r.up e
  exact d.rf L vs ds H2 r2.ex (r.ex.free r.al0.1 nL) hL (dts_go (av_sub r2).toGs _ _ hd) hl w2⟩
/-- return x -/
def wRetV (i : Nat) : WS := fun Γ P => match Γ[i]? with
  | some (.v x) => P.rt x
  | some (.ol _ xs) => P.rt (.fl xs)
  | some (.ok _ kvs) => P.rt (.dk kvs)
  | some (.ot _ kvs) => P.rt (.dt kvs)
  | _ => False
theorem ss_retV {i : Nat} : SndS (tRet (tVar i)) (wRetV i) := ⟨fun f z σ H Γ D P r d w => by
  have free : ∀ L, f.H L = none → okA f.z L := fun L h => r.al0.ne h
  unfold wRetV at w
  split at w
  · rename_i x e
    obtain ⟨nx, v, h1, h2⟩ := r.sl i _ e
    exact ⟨v, h1, d.rt v x H r.ex nx (r.rt nx h2) w⟩
  · rename_i L xs e
    obtain ⟨h1, h2, h3, vs, h4, h5, h6⟩ := r.sl i _ e
    refine ⟨_, h1, d.rf L vs xs H r.ex (r.fr i _ L e rfl) h4 (dts_go (Go.sub (z' := f.z.av L) (by show z.n ≤ f.z.n; rw [r.n, r.n0]; exact Nat.le_refl _) r.p.symm fun a ha => ?_).toGs _ _ h5) h6 w⟩
    rcases List.mem_cons.mp ha with e | e
    · rw [e]; exact h2
    · exact r.sub a e
  · rename_i L kvs e
    obtain ⟨h1, h2, h3, h4, h5⟩ := r.sl i _ e
    exact ⟨_, h1, d.rt _ (.dk kvs) H r.ex trivial ⟨L, rfl, free L (r.fr i _ L e rfl), h4, h5⟩ w⟩
  · rename_i L kvs e
    obtain ⟨h1, h2, h3, h4, h5⟩ := r.sl i _ e
    exact ⟨_, h1, d.rt _ (.dt kvs) H r.ex trivial ⟨L, rfl, free L (r.fr i _ L e rfl), h4, h5⟩ w⟩
  · exact w.elim⟩
end Dm
namespace Dm
open PySem L2 Pb
open PySem.W (AllAlike Sortable dataLe)
/-! ### new lists: sorted(..), comprehensions, slices -/
theorem sf_lc {ti : TI} {g : TG} {tt : TT} {te : TE} {vs ns : List Nat} {wi : WI} {wg : WG} {wt : WT} {we : WE} (hi : SndI true ti wi) (hg : SndG g ns wg) (hns : ∀ i ∈ ns, i ∈ vs) (ht : SndT tt wt) (he : SndE te we) :
    SndF (tLc ti g tt te vs) (fun Γ R => wi Γ fun ds => ds.length ≤ NN ∧ LcB (lcE wg wt we (wipeE Γ vs)) ds R ⟨⟩) := ⟨fun z σ H Γ R Q r w k =>
  hi.run z σ H Γ _ _ r w fun J ds H2 e2 wk ⟨hl, wl⟩ L nL => by
    have wl : lcW (lcE wg wt we (wipeE Γ vs)) ds R := wl
    obtain ⟨G, Y, walk, hG, hY⟩ := wk.ex
    have r2 := r.up e2
    refine lc_it walk (LcI z H2 L (lcE wg wt we (wipeE Γ vs)) ds R) ⟨.new nL, [], [], upd_same, .nil, Nat.zero_le _, by simpa using wl⟩ (fun i H' _ q => hG _ H' (rel_av nL q.ex)) (fun i x H' H'' hi q y => ?_) fun H' q => ?_
    · obtain ⟨ex, acc, es, h1, h2, h3, h4⟩ := q
      have r3 : Rp (z.av L) σ H' Γ := r2.av nL ex ⟨_, h1, fun _ e => nomatch e⟩
      obtain ⟨d, g1, g2, g3⟩ := hY (z.av L) H' i x H'' (rel_av nL ex) r3.n r3.al hi y
      have ed : ds.drop i = d :: ds.drop (i + 1) := by
        obtain ⟨hlt, e⟩ := List.getElem?_eq_some_iff.mp g1
        rw [← e]
        exact List.drop_eq_getElem_cons hlt
      rw [ed] at h4
      have r4 := (r3.up g2).wipe vs
      have nLp : L ≠ z.p := (r2.al.ne nL).1
      refine hg.run (z.av L) (L2.wipe σ vs) H'' (wipeE Γ vs) x (.d d) _ _ r4 trivial (dD g3) h4 fun σ2 Γ2 r5 _ ew w5 => ⟨?_, ?_⟩
      · rw [ew vs hns, wipe_wipe]
      · refine ht.run (z.av L) σ2 H'' Γ2 _ _ r5 w5 fun b H5 e5 w6 => ?_
        have k5 := (g2.trans e5)
        split at w6
        · rename_i hb
          rw [if_pos hb]
          refine he.run (z.av L) σ2 H5 Γ2 _ _ (r5.up e5) w6 fun y xy H6 e6 hy w7 => ?_
          split at w7
          · rename_i d'
            have k6 := k5.trans e6
            refine ⟨acc, k6.keep L _ nLp h1, by rw [h2.length]; exact Nat.lt_of_lt_of_le (by omega : es.length < NN) NN_line, (ex.trans k6).mut r2.al.1 nL (.lst (k6.keep L _ nLp h1)), acc ++ [y], es ++ [d'], upd_same, ?_, by rw [List.length_append]; show _ + 1 ≤ _; omega, by simpa using w7⟩
            exact ((dts_go (Go.ex (z := z.av L) k6).toGs _ _ h2).append (.cons hy .nil)).to .mut
          · exact w7.elim
        · rename_i hb
          rw [if_neg hb]
          exact ⟨ex.trans k5, acc, es, k5.keep L _ nLp h1, dts_go (Go.ex (z := z.av L) k5).toGs _ _ h2, by omega, by simpa using w6⟩
    · obtain ⟨ex, acc, es, h1, h2, h3, h4⟩ := q
      rw [List.drop_length] at h4
      have h5 : R es := by simpa [lcW] using h4
      exact k L acc es H' (e2.trans ex) (e2.free r.al.1 nL) h1 h2 (by rw [h2.length]; omega) h5⟩
theorem sf_sorted {K : PySem.W.Frag} {ta : TE} {wa : WE} (ha : SndE ta wa) : SndF (tCB (rSortD K) (tCons ta tNil)) (fun Γ R => wa Γ fun x => match lstOf x with | some ds => AllAlike ds ∧ Sortable ds ∧ (∀ d ∈ ds, d.depth ≤ 10) ∧ R (sortD ds) | none => False) := ⟨fun z σ H Γ R Q r w k => ha.run z σ H Γ _ _ r w fun v x H2 e2 hx w2 => by
  split at w2
  · rename_i ds e
    obtain ⟨a, vs, rfl, h1, h2, h3⟩ := lst_at e hx
    obtain ⟨g1, g2, g3, rr⟩ := w2
    obtain ⟨bs, e1, e2', hb⟩ := dt_zip h2
    subst e1 e2'
    refine ⟨_, bs, rfl, .inl (.inl h1), fun b q => Dt.dp' _ _ (hb b q), g1, g2, fun b q => g3 _ (List.mem_map.mpr ⟨b, q, rfl⟩), fun p hp => ?_⟩
    have hm : ∀ b ∈ sortB bs, Dt z H2 b.1 b.2 := fun b q => hb b ((List.mergeSort_perm bs _).mem_iff.mp q)
    rw [← sortB_snd] at rr
    refine k p _ _ _ (e2.trans (.new hp)) (e2.free r.al.1 hp) upd_same (dts_go ((Go.av hp).trans (.ex (z := z.av p) (.new hp))).toGs _ _ (zip_dt hm)) ?_ rr
    rw [List.length_map] at h3 ⊢
    unfold sortB
    rw [List.length_mergeSort, ← r.n]
    exact h3
  · exact w2.elim⟩
/-! ### what changes a thing of one's own -/
def wApp (i : Nat) (we : WE) : WS := fun Γ P => match Γ[i]? with
  | some (.ol L xs) => we Γ fun x => match x with
    | .d d => xs.length < NN ∧ P.nx (Γ.set i (.ol L (xs ++ [d])))
    | _ => False
  | _ => False
theorem ss_app {K : PySem.W.Frag} {i : Nat} {te : TE} {we : WE} (h : SndE te we) : SndS (tDrop (tBM K "list" rAppend (tVar i) (tCons te tNil))) (wApp i we) := ⟨fun f z σ H Γ D P r d w => by
  unfold wApp at w
  split at w
  · rename_i L xs e
    obtain ⟨h1, h2, h3, vs, h4, h5, h6⟩ := r.sl i _ e
    refine ⟨_, h1, .inl ⟨rfl, _, .inl (.inl h4)⟩, h.run z σ H Γ _ _ r.toRp w fun v x H2 e2 hx w2 => ?_⟩
    split at w2
    · have h42 := e2.keep L _ h3 h4
      refine ⟨L, vs, v, rfl, rfl, h42, by rw [h5.length]; exact Nat.lt_of_lt_of_le w2.1 NN_line, d.nx z σ _ _ (Rs.mut (t := .ol L (xs ++ [_])) (fun _ e => nomatch e) (r.up e2) e rfl rfl h2 h3 ⟨h1, h2, h3, vs ++ [v], upd_same, ?_, ?_⟩) w2.2⟩
      · exact dts_go (Go.mut h2 h3).toGs _ _ ((dts_go (Go.ex e2).toGs _ _ h5).append (.cons hx .nil))
      · rw [List.length_append, h5.length]; exact w2.1
    · exact w2.elim
  · exact w.elim⟩
def wExt (i : Nat) (we : WE) : WS := fun Γ P => match Γ[i]? with
  | some (.ol L xs) => we Γ fun x => match x with
    | .d (.list ds) => xs.length + ds.length ≤ NN ∧ P.nx (Γ.set i (.ol L (xs ++ ds)))
    | _ => False
  | _ => False
theorem ss_ext {K : PySem.W.Frag} {i : Nat} {te : TE} {we : WE} (h : SndE te we) : SndS (tDrop (tBM K "list" rExtend (tVar i) (tCons te tNil))) (wExt i we) := ⟨fun f z σ H Γ D P r d w => by
  unfold wExt at w
  split at w
  · rename_i L xs e
    obtain ⟨h1, h2, h3, vs, h4, h5, h6⟩ := r.sl i _ e
    refine ⟨_, h1, .inl ⟨rfl, _, .inl (.inl h4)⟩, h.run z σ H Γ _ _ r.toRp w fun v x H2 e2 hx w2 => ?_⟩
    split at w2
    · have h42 := e2.keep L _ h3 h4
      cases hx with
      | @lst b ws _ d1 d2 d3 d4 =>
        refine ⟨L, b, vs, ws, rfl, rfl, h42, d2, by rw [h5.length, d4.length]; exact Nat.le_trans w2.1 NN_line, d.nx z σ _ _ (Rs.mut (t := .ol L (xs ++ _)) (fun _ e => nomatch e) (r.up e2) e rfl rfl h2 h3 ⟨h1, h2, h3, vs ++ ws, upd_same, ?_, ?_⟩) w2.2⟩
        · exact dts_go (Go.mut h2 h3).toGs _ _ ((dts_go (Go.ex e2).toGs _ _ h5).append d4)
        · rw [List.length_append, h5.length, d4.length]; exact w2.1
    · exact w2.elim
  · exact w.elim⟩
/-- xs[i] = e -/
def wSetL (i : Nat) (wx we : WE) : WS := fun Γ P => match Γ[i]? with
  | some (.ol L xs) => we Γ fun x => wx Γ fun y => match x, y with
    | .d d, .d (.int k) => ∃ j, ixN xs.length k = some j ∧ P.nx (Γ.set i (.ol L (xs.set j d)))
    | _, _ => False
  | _ => False
theorem ss_setL {i : Nat} {te tx : TE} {we wx : WE} (h : SndE te we) (hx : SndE tx wx) : SndS (tAsg te (gSub (tVar i) tx rSetL)) (wSetL i wx we) := ⟨fun f z σ H Γ D P r d w => by
  unfold wSetL at w
  split at w
  · rename_i L xs e
    obtain ⟨h1, h2, h3, vs, h4, h5, h6⟩ := r.sl i _ e
    refine h.run z σ H Γ _ _ r.toRp w fun v x H2 e2 hv w2 => ⟨_, h1, hx.run z σ H2 Γ _ _ (r.up e2).toRp w2 fun u y H3 e3 hy w3 => ?_⟩
    split at w3
    · obtain ⟨j, ej, q⟩ := w3
      cases hy
      have h43 := e3.keep L _ h3 (e2.keep L _ h3 h4)
      refine ⟨L, vs, _, j, rfl, rfl, h43, by rw [h5.length]; exact ej, d.nx z σ _ _ (Rs.mut (t := .ol L (xs.set j _)) (fun _ e => nomatch e) ((r.up e2).up e3) e rfl rfl h2 h3 ⟨h1, h2, h3, vs.set j v, upd_same, ?_, by rw [List.length_set]; exact h6⟩) q⟩
      exact dts_go (Go.mut h2 h3).toGs _ _ (DtAll.set (dt_go (Go.ex e3).toGs _ _ hv) j (dts_go (Go.ex e3).toGs _ _ (dts_go (Go.ex e2).toGs _ _ h5)))
    · exact w3.elim
  · exact w.elim⟩
/-- d[k] = c -/
def putI {α : Type} [DecidableEq α] (kvs : List (α × Int)) (k : α) (c : Int) : List (α × Int) := if (kvs.any fun q => decide (q.1 = k)) = true then kvs.map (fun q => if q.1 = k then (q.1, c) else q) else kvs ++ [(k, c)]
def key2 (k : Str × Str) : List Key := [Sum.inr k.1, Sum.inr k.2]
theorem key2_inj {a b : Str × Str} (h : key2 a = key2 b) : a = b := by
  have e1 := List.cons.inj h
  have e2 := List.cons.inj e1.2
  exact Prod.ext (Sum.inr.inj e1.1) (Sum.inr.inj e2.1)
theorem any_keyed2 (k : Str × Str) : ∀ kvs : List Tk, ((kvs.map keyed2).any fun kv => decide (kv.1 = key2 k)) = kvs.any fun q => decide (q.1 = k)
  | [] => rfl
  | q :: r => by
    rw [List.map_cons, List.any_cons, List.any_cons, any_keyed2 k r]
    congr 1
    show decide (key2 q.1 = key2 k) = _
    by_cases h : q.1 = k
    · rw [decide_eq_true h, decide_eq_true (show key2 q.1 = key2 k by rw [h])]
    · rw [decide_eq_false h, decide_eq_false fun e => h (key2_inj e)]
theorem put_keyed2 (kvs : List Tk) (k : Str × Str) (c : Int) : putK (kvs.map keyed2) (key2 k) (.int c) = (putI kvs k c).map keyed2 := by
  unfold putK putI
  rw [any_keyed2]
  split
  · rw [List.map_map, List.map_map]
    refine List.map_congr_left fun q _ => ?_
    show (if key2 q.1 = key2 k then (key2 q.1, V.int c) else keyed2 q) = keyed2 (if q.1 = k then (q.1, c) else q)
    by_cases h : q.1 = k
    · rw [if_pos h, if_pos (by rw [h])]; rfl
    · rw [if_neg h, if_neg fun e => h (key2_inj e)]
  · rw [List.map_append]; rfl
theorem okT_put {kvs : List Tk} {k : Str × Str} {c : Int} (h : okT kvs) (hk : okS k.1 ∧ okS k.2) : okT (putI kvs k c) := fun q hq => by
  unfold putI at hq
  split at hq
  · obtain ⟨p, hp, e⟩ := List.mem_map.mp hq
    by_cases h' : p.1 = k
    · rw [if_pos h'] at e; rw [← e]; exact h p hp
    · rw [if_neg h'] at e; rw [← e]; exact h p hp
  · rcases List.mem_append.mp hq with e | e
    · exact h q e
    · rw [List.mem_singleton.mp e]; exact hk
def wPutT (i : Nat) (wk we : WE) : WS := fun Γ P => match Γ[i]? with
  | some (.ot L kvs) => we Γ fun x => wk Γ fun y => match x, y with
    | .d (.int c), .d (.tuple [.str a, .str b]) => kvs.length < NN ∧ P.nx (Γ.set i (.ot L (putI kvs (a, b) c)))
    | _, _ => False
  | _ => False
theorem ss_putT {i : Nat} {te tk : TE} {we wk : WE} (h : SndE te we) (hk : SndE tk wk) : SndS (sDPut (tVar i) tk te) (wPutT i wk we) := ⟨fun f z σ H Γ D P r d w => by
  unfold wPutT at w
  split at w
  · rename_i L kvs e
    obtain ⟨h1, h2, h3, h4, h5⟩ := r.sl i _ e
    refine h.run z σ H Γ _ _ r.toRp w fun v x H2 e2 hv w2 => ⟨_, h1, hk.run z σ H2 Γ _ _ (r.up e2).toRp w2 fun u y H3 e3 hy w3 => ?_⟩
    split at w3
    · rename_i c a b
      cases hv
      have h43 := e3.keep L _ h3 (e2.keep L _ h3 h4)
      cases hy with
      | tup d1 d2 d3 d4 =>
        cases d4 with
        | cons g1 t1 =>
          cases t1 with
          | cons g2 t2 =>
            cases t2
            cases g1 with
            | str _ l1 =>
              cases g2 with
              | str _ l2 =>
                rw [((r.up e2).up e3).n] at l1 l2
                refine ⟨L, _, rfl, .inr ⟨_, key2 (a, b), _, h43, rfl, d2, by rw [List.length_map]; exact Nat.lt_of_lt_of_le w3.1 NN_line, rfl⟩, d.nx z σ _ _ (Rs.mut (t := .ot L (putI kvs (a, b) c)) (fun _ e => nomatch e) ((r.up e2).up e3) e rfl rfl h2 h3 ⟨h1, h2, h3, ?_, okT_put h5 ⟨l1, l2⟩⟩) w3.2⟩
                rw [upd_same, put_keyed2]
    · exact w3.elim
  · exact w.elim⟩
/-! ### x += e -/
def wAug (i : Nat) (g : Int → Int → Int) (we : WE) : WS := fun Γ P => match Γ[i]? with
  | some (.v (.d (.int a))) => we Γ fun x => match x with
    | .d (.int b) => P.nx (Γ.set i (.v (.d (.int (g a b)))))
    | _ => False
  | _ => False
theorem ss_aug {i : Nat} {g : Int → Int → Int} {te : TE} {we : WE} (h : SndE te we) : SndS (tAug i te (ipI g)) (wAug i g we) := ⟨fun f z σ H Γ D P r d w => by
  unfold wAug at w
  split at w
  · rename_i a e
    obtain ⟨_, v, h1, h2⟩ := r.sl i _ e
    cases h2
    refine ⟨_, h1, h.run z σ H Γ _ _ r.toRp w fun v x H2 e2 hx w2 => ?_⟩
    split at w2
    · cases hx
      exact ⟨_, _, rfl, rfl, d.nx z _ H2 _ ((r.up e2).setv (x := .d (.int (g a _))) trivial (dI _)) w2⟩
    · exact w2.elim
  · exact w.elim⟩
/-! ### an own list is let go: it is data from here on -/
theorem Rs.frz {f : Fr} {z : Fz} {σ : L2.St} {H : Hp} {Γ : Ev} {i : Nat} {L : Addr} {xs : List PyData} (r : Rs f z σ H Γ) (e : Γ[i]? = some (.ol L xs)) : ∃ z', Rs f z' σ H (Γ.set i (.v (.d (.list xs)))) := by
  obtain ⟨h1, h2, h3, vs, h4, h5, h6⟩ := r.sl i _ e
  have fL := r.fr i _ L e rfl
  refine ⟨{ z with S := z.S.filter fun a => decide (a ≠ L) }, ?_⟩
  have sub : ∀ a ∈ ({ z with S := z.S.filter fun a => decide (a ≠ L) } : Fz).S, a ∈ z.S := fun a ha => (List.mem_filter.mp ha).1
  have go : Go z { z with S := z.S.filter fun a => decide (a ≠ L) } H H := .sub (Nat.le_refl _) rfl sub
  have keep : ∀ a ∈ z.S, a ≠ L → a ∈ z.S.filter fun a => decide (a ≠ L) := fun a ha n => List.mem_filter.mpr ⟨ha, by simpa using n⟩
  refine { n := r.n, al := ⟨r.al.1, fun a ha => r.al.2 a (sub a ha), r.al.3⟩, len := by rw [List.length_set]; exact r.len, sl := fun j t q => ?_, p := r.p, n0 := r.n0, sub := fun a ha => keep a (r.sub a ha) fun e => ?_, al0 := r.al0, ex := r.ex, fr := fun j t M q o => ?_, nd := fun j k t u M q q' o o' => ?_, ks := fun k hk => (r.ks k hk).trans go, nl := fun j t q => ?_ }
  · rcases set_get q with ⟨e1, e2, e3⟩ | ⟨e1, e2⟩
    · subst e1 e3
      refine ⟨trivial, _, h1, dL ⟨h3, fun m => ?_⟩ h4 (by show _ ≤ z.n; rw [r.n]; exact h6) (dts_go go.toGs _ _ h5)⟩
      have := (List.mem_filter.mp m).2
      simp at this
    · have g := r.sl j t e2
      have ne : ∀ M, t.own = some M → M ≠ L := fun M om em => e1 (r.nd j i t _ L e2 e (by rw [om, em]) rfl)
      cases t with
      | no => trivial
      | v x => obtain ⟨g0, v, g1, g2⟩ := g; exact ⟨g0, v, g1, g2.go g0 go⟩
      | ol M xs => obtain ⟨g1, g2, g3, vs, g4, g5, g6⟩ := g; exact ⟨g1, keep M g2 (ne M rfl), g3, vs, g4, dts_go go.toGs _ _ g5, g6⟩
      | ok M xs => obtain ⟨g1, g2, g3, g4, g5⟩ := g; exact ⟨g1, keep M g2 (ne M rfl), g3, g4, g5⟩
      | ot M xs => obtain ⟨g1, g2, g3, g4, g5⟩ := g; exact ⟨g1, keep M g2 (ne M rfl), g3, g4, g5⟩
      | lk xs => exact (r.nl j _ e2 trivial).elim
      | lt xs => exact (r.nl j _ e2 trivial).elim
      | fk xs => exact (r.nl j _ e2 trivial).elim
      | ft xs => exact (r.nl j _ e2 trivial).elim
      | tb P => exact r.sl j _ e2
  · obtain ⟨o, ho, _⟩ := r.al0.2 a ha
    rw [e, fL] at ho
    cases ho
  · rcases set_get q with ⟨_, _, e3⟩ | ⟨_, e2⟩
    · subst e3; cases o
    · exact r.fr j t M e2 o
  · rcases set_get q with ⟨_, _, e3⟩ | ⟨_, e2⟩
    · subst e3; cases o
    · rcases set_get q' with ⟨_, _, e3⟩ | ⟨_, e2'⟩
      · subst e3; cases o'
      · exact r.nd j k t u M e2 e2' o o'
  · rcases set_get q with ⟨_, _, e3⟩ | ⟨_, e2⟩
    · subst e3; exact id
    · exact r.nl j t e2
def wFrz (i : Nat) (ws : WS) : WS := fun Γ P => match Γ[i]? with
  | some (.ol _ xs) => ws (Γ.set i (.v (.d (.list xs)))) P
  | _ => ws Γ P
theorem ss_frz {i : Nat} {ts : TS} {ws : WS} (h : SndS ts ws) : SndS ts (wFrz i ws) := ⟨fun f z σ H Γ D P r d w => by
  unfold wFrz at w
  split at w
  · rename_i e
    obtain ⟨z', r'⟩ := r.frz e
    exact h.run f z' σ H _ D P r' d w
  · exact h.run f z σ H Γ D P r d w⟩
/-- what is known is forgotten, or told otherwise -/
theorem ss_imp {ts : TS} {ws ws' : WS} (h : SndS ts ws) (k : ∀ Γ P, ws' Γ P → ws Γ P) : SndS ts ws' := ⟨fun f z σ H Γ D P r d w => h.run f z σ H Γ D P r d (k Γ P w)⟩
/-! ### for, while -/
def wFor (wi : WI) (wg : WG) (wb : WS) : WS := fun Γ P => wi Γ fun ds => ∃ I : Nat → Ev → Prop, I 0 Γ ∧ (∀ (k : Nat) (d : PyData) (Γ' : Ev), ds[k]? = some d → I k Γ' → wg (.d d) Γ' fun Γ2 => wb Γ2 ⟨I (k + 1), P.rt, P.nx, I (k + 1)⟩) ∧ ∀ Γ', I ds.length Γ' → P.nx Γ'
theorem ss_for {ti : TI} {g : TG} {tb : TS} {ns : List Nat} {wi : WI} {wg : WG} {wb : WS} (hi : SndI false ti wi) (hg : SndG g ns wg) (hb : SndS tb wb) : SndS (tFor ti g tb) (wFor wi wg wb) := ⟨fun f z σ H Γ D P r d w => hi.run z σ H Γ _ _ r.toRp w fun J ds H2 e2 wk ⟨I, h0, hs, hd⟩ => by
  obtain ⟨G, Y, walk, hG, hY⟩ := wk.ex
  have r2 := r.up e2
  have rel : ∀ {z' : Fz} {H' : Hp}, Go z z' H2 H' → Rel false z z' H2 H' := fun g => { g with keep := fun e => nomatch e }
  refine for_it walk (fun i σ' H' => ∃ z' Γ', Rs f z' σ' H' Γ' ∧ Go z z' H2 H' ∧ I i Γ') ⟨z, Γ, r2, .ex (.refl _ _), h0⟩ (fun i σ' H' _ q => by obtain ⟨z', Γ', _, g, _⟩ := q; exact hG z' H' (rel g)) (fun i x σ' H' H'' hi q y => ?_) fun σ' H' q => ?_
  · obtain ⟨z', Γ', r', g', hI⟩ := q
    obtain ⟨dd, g1, g2, g3⟩ := hY z' H' i x H'' (rel g') r'.n r'.al hi y
    have r3 := r'.up g2
    refine hg.run z' σ' H'' Γ' x (.d dd) _ _ r3.toRp trivial (dD g3) (hs i dd Γ' g1 hI) fun σ4 Γ4 r4 s4 _ w4 => ?_
    have ks5 : ∀ k ∈ (z, H2) :: f.K, Go k.1 z' k.2 H'' := fun k hk => by
      rcases List.mem_cons.mp hk with e | e
      · subst e; exact g'.trans (.ex g2)
      · exact r3.ks k e
    have r5 : Rs ⟨f.z, f.H, (z, H2) :: f.K⟩ z' σ4 H'' Γ4 := { r3.re r4 s4 with ks := ks5 }
    have back : ∀ {z6 : Fz} {σ6 : L2.St} {H6 : Hp} {Γ6 : Ev}, Rs ⟨f.z, f.H, (z, H2) :: f.K⟩ z6 σ6 H6 Γ6 → Rs f z6 σ6 H6 Γ6 := fun r6 => { r6 with ks := fun k hk => r6.ks k (List.mem_cons_of_mem _ hk) }
    exact hb.run ⟨f.z, f.H, (z, H2) :: f.K⟩ z' σ4 H'' Γ4 _ ⟨I (i + 1), P.rt, P.nx, I (i + 1)⟩ r5 ⟨fun z6 σ6 H6 Γ6 r6 w6 => ⟨z6, Γ6, back r6, r6.ks _ List.mem_cons_self, w6⟩, fun z6 σ6 H6 Γ6 r6 w6 => d.nx z6 σ6 H6 Γ6 (back r6) w6, fun z6 σ6 H6 Γ6 r6 w6 => ⟨z6, Γ6, back r6, r6.ks _ List.mem_cons_self, w6⟩, d.rt, d.rf⟩ w4
  · obtain ⟨z', Γ', r', g', hI⟩ := q
    exact d.nx z' σ' H' Γ' r' (hd Γ' hI)⟩
/-- by a word and a measure -/
def wWhile (wt : WT) (wb : WS) : WS := fun Γ P => ∃ I : Nat → Ev → Prop, (∃ m, I m Γ) ∧ ∀ m Γ', I m Γ' → wt Γ' fun b => if b = true then wb Γ' ⟨fun Γ2 => ∃ m', m' < m ∧ I m' Γ2, P.rt, P.nx, fun Γ2 => ∃ m', m' < m ∧ I m' Γ2⟩ else P.nx Γ'
theorem ss_while {c : TT} {tb : TS} {wt : WT} {wb : WS} (hc : SndT c wt) (hb : SndS tb wb) : SndS (tWhile c tb) (wWhile wt wb) := ⟨fun f z σ H Γ D P r d ⟨I, ⟨m0, h0⟩, hs⟩ => by
  refine ⟨fun m σ' H' => ∃ z' Γ', Rs f z' σ' H' Γ' ∧ I m Γ', ⟨m0, z, Γ, r, h0⟩, fun m σ' H' ⟨z', Γ', r', hI⟩ => ?_⟩
  refine hc.run z' σ' H' Γ' _ _ r'.toRp (hs m Γ' hI) fun b H2 e2 w2 => ?_
  split at w2
  · rename_i h
    rw [if_pos h]
    refine ⟨fun σ6 H6 => ∃ m', m' < m ∧ ∃ z' Γ', Rs f z' σ6 H6 Γ' ∧ I m' Γ', fun σ6 H6 ⟨m', l, q⟩ => ⟨m', l, q⟩, hb.run f z' σ' H2 Γ' _ ⟨_, P.rt, P.nx, _⟩ (r'.up e2) ⟨fun z6 σ6 H6 Γ6 r6 ⟨m', l, w6⟩ => ⟨m', l, z6, Γ6, r6, w6⟩, d.nx, fun z6 σ6 H6 Γ6 r6 ⟨m', l, w6⟩ => ⟨m', l, z6, Γ6, r6, w6⟩, d.rt, d.rf⟩ w2⟩
  · rename_i h
    rw [if_neg h]
    exact d.nx z' σ' H2 Γ' (r'.up e2) w2⟩
/-! ### a def by its contract -/
def unF (R : Vx → Prop) : Vx → Prop
  | .fl ds => R (.d (.list ds))
  | x => R x
def allNq : List Vx → Prop
  | [] => True
  | x :: r => nq x ∧ allNq r
def spW (W : OA) : Sp := fun vs H Q _ => ∃ (z : Fz) (xs : List Vx) (R : Vx → Prop), z.n = NN ∧ AlS z H ∧ DvAll z H vs xs ∧ allNq xs ∧ W xs R ∧ (∀ v x H', ExB z.p H H' → nq x → Dv z H' v x → R x → Q v H') ∧
  ∀ L vs' ds H', ExB z.p H H' → H L = none → H' L = some (.lst vs') → DtAll (z.av L) H' vs' ds → vs'.length ≤ NN → R (.fl ds) → Q (.ref L) H'
/-- W of the arguments; a wall for words -/
def App (W : OA) (xs : List Vx) (R : Vx → Prop) (_ : Box R) : Prop := W xs R
def flOnly (R : List PyData → Prop) : Vx → Prop
  | .fl ds => R ds
  | _ => False
def wCall (W : OA) (wa : WA) : WE := fun Γ R => wa Γ fun xs => allNq xs ∧ App W xs (unF R) ⟨⟩
theorem snd_call {W : OA} {E : XK} {ta : TA} {wa : WA} (h : SndA ta wa) : SndE (tCall (spW W) [] E ta) (wCall W wa) := ⟨fun z σ H Γ R Q r w k => h.run z σ H Γ _ _ r w fun vs xs H2 e2 hs w2 => by
  show spW W (vs ++ []) H2 Q E
  rw [List.append_nil]
  refine ⟨z, xs, unF R, r.n, r.al.up e2, hs, w2.1, w2.2, fun v x H3 e3 nx hx rx => k v x H3 (e2.trans e3) hx ?_, fun L vs' ds H3 e3 nL hL hd hl rx => k _ (.d (.list ds)) H3 (e2.trans e3) (dL ((r.al.up e2).ne nL) hL (by rw [r.n]; exact hl) (hd.to .unav)) rx⟩
  cases x <;> first | exact rx | exact nx.elim⟩
theorem sf_call {W : OA} {E : XK} {ta : TA} {wa : WA} (h : SndA ta wa) : SndF (tCall (spW W) [] E ta) (fun Γ R => wa Γ fun xs => allNq xs ∧ App W xs (flOnly R) ⟨⟩) := ⟨fun z σ H Γ R Q r w k => h.run z σ H Γ _ _ r w fun vs xs H2 e2 hs w2 => by
  show spW W (vs ++ []) H2 Q E
  rw [List.append_nil]
  refine ⟨z, xs, _, r.n, r.al.up e2, hs, w2.1, w2.2, fun v x H3 e3 nx hx rx => ?_, fun L vs' ds H3 e3 nL hL hd hl rx => k L vs' ds H3 (e2.trans e3) (e2.free r.al.1 nL) hL hd hl rx⟩
  cases x <;> first | exact rx.elim | exact nx.elim⟩
def startE (n : Nat) (xs : List Vx) : Ev := xs.map .v ++ List.replicate (n - xs.length) .no
theorem start_rp {z : Fz} {H : Hp} {N : List Str} {vs : List V} {xs : List Vx} (n : z.n = NN) (al : AlS z H) (h : DvAll z H vs xs) (nx : allNq xs) : Rp z (start N vs) H (startE N.length xs) := by
  have hl := dvLen h
  refine ⟨n, al, ?_, fun i s q => ?_⟩
  · unfold L2.start startE
    rw [List.length_append, List.length_append, List.length_map, List.length_map, List.length_replicate, List.length_replicate, hl]
  · unfold startE at q
    unfold L2.start
    by_cases hi : i < xs.length
    · rw [List.getElem?_append_left (by rw [List.length_map]; exact hi)] at q
      rw [List.getElem?_append_left (by rw [List.length_map, hl]; exact hi)]
      have aux : ∀ {vs : List V} {xs : List Vx} (i : Nat) (s : Slot), DvAll z H vs xs → allNq xs → (xs.map Slot.v)[i]? = some s → SlotOk z H (vs.map some)[i]? s := by
        intro vs xs
        induction xs generalizing vs with
        | nil => intro i s _ _ q; simp at q
        | cons x r ih =>
          intro i s hv hn q
          match vs, hv with
          | v :: vs, hv =>
            cases i with
            | zero =>
              have : s = .v x := by simpa using q.symm
              subst this
              exact ⟨hn.1, v, rfl, hv.1⟩
            | succ i => simpa using ih i s hv.2 hn.2 (by simpa using q)
      exact aux i s h nx q
    · rw [List.getElem?_append_right (by rw [List.length_map]; omega), List.getElem?_replicate] at q
      split at q
      · cases q; trivial
      · cases q
theorem start_own {n : Nat} {xs : List Vx} {i : Nat} {s : Slot} (q : (startE n xs)[i]? = some s) : plainS s := by
  unfold startE at q
  by_cases hi : i < xs.length
  · rw [List.getElem?_append_left (by rw [List.length_map]; exact hi), List.getElem?_map] at q
    cases hx : xs[i]? with
    | none => rw [hx] at q; cases q
    | some x => rw [hx] at q; cases q; trivial
  · rw [List.getElem?_append_right (by rw [List.length_map]; omega), List.getElem?_replicate] at q
    split at q
    · cases q; trivial
    · cases q
theorem plain_lk {s : Slot} (h : plainS s) : ¬ isLk s := by cases s <;> first | exact id | exact h.elim
def posts (R : Vx → Prop) : Post := ⟨fun _ => R (.d .none), R, fun _ => False, fun _ => False⟩
theorem fn_body {W : OA} {n : Nat} {N : List Str} {vs : List V} {H : Hp} {Q : VK} {E : XK} {ts : TS} {ws : WS} (hn : N.length = n) (s : SndS ts ws) (h : spW W vs H Q E) (w : ∀ xs R, W xs R → ws (startE n xs) (posts R)) : ts { nx := fun _ H' => Q .non H', rt := Q } (start N vs) H := by
  subst hn
  obtain ⟨z, xs, R, n, al, hs, nx, hW, k1, k2⟩ := h
  refine s.run ⟨z, H, []⟩ z (start N vs) H (startE N.length xs) _ (posts R) ?_ ⟨fun z' σ' H' Γ' r' w' => k1 .non (.d .none) H' r'.ex trivial dN w', fun _ _ _ _ _ w' => w'.elim, fun _ _ _ _ _ w' => w'.elim, fun v x H' e nx hx rx => k1 v x H' e nx hx rx, fun L vs' ds H' e nL hL hd hl rx => k2 L vs' ds H' e nL hL hd hl rx⟩ (w xs R hW)
  exact { start_rp n al hs nx with p := rfl, n0 := n, sub := fun _ h => h, al0 := al, ex := .refl _ _, fr := fun i s L q o => (plain_own (start_own q) o).elim, nd := fun i j s t L q q' o o' => (plain_own (start_own q) o).elim, ks := fun k hk => (nomatch hk), nl := fun i s q => plain_lk (start_own q) }
theorem spW_len {W : OA} {n : Nat} (hW : ∀ xs R, W xs R → xs.length = n) {vs : List V} {H : Hp} {Q : VK} {E : XK} (h : spW W vs H Q E) : vs.length = n := by
  obtain ⟨z, xs, R, _, _, hs, _, w, _⟩ := h
  rw [dvLen hs, hW xs R w]
end Dm
namespace Dm
open PySem L2 Pb
/-! ### dict comprehensions: texts to ints -/
theorem any_keyed (k : Str) : ∀ kvs : List Si, ((kvs.map keyed).any fun kv => decide (kv.1 = (Sum.inr k : Key))) = kvs.any fun q => decide (q.1 = k)
  | [] => rfl
  | q :: r => by
    rw [List.map_cons, List.any_cons, List.any_cons, any_keyed k r]
    congr 1
    show decide ((Sum.inr q.1 : Key) = Sum.inr k) = _
    by_cases h : q.1 = k
    · rw [decide_eq_true h, decide_eq_true (by rw [h])]
    · rw [decide_eq_false h, decide_eq_false fun e => h (Sum.inr.inj e)]
theorem put_keyed (kvs : List Si) (k : Str) (c : Int) : putK (kvs.map keyed) (Sum.inr k) (.int c) = (putI kvs k c).map keyed := by
  unfold putK putI
  rw [any_keyed]
  split
  · rw [List.map_map, List.map_map]
    refine List.map_congr_left fun q _ => ?_
    show (if (Sum.inr q.1 : Key) = Sum.inr k then ((Sum.inr q.1 : Key), V.int c) else keyed q) = keyed (if q.1 = k then (q.1, c) else q)
    by_cases h : q.1 = k
    · rw [if_pos h, if_pos (by rw [h])]; rfl
    · rw [if_neg h, if_neg fun e => h (Sum.inr.inj e)]
  · rw [List.map_append]; rfl
theorem okK_put {kvs : List Si} {k : Str} {c : Int} (h : okK kvs) (hk : okS k) : okK (putI kvs k c) := fun q hq => by
  unfold putI at hq
  split at hq
  · obtain ⟨p, hp, e⟩ := List.mem_map.mp hq
    by_cases h' : p.1 = k
    · rw [if_pos h'] at e; rw [← e]; exact h p hp
    · rw [if_neg h'] at e; rw [← e]; exact h p hp
  · rcases List.mem_append.mp hq with e | e
    · exact h q e
    · rw [List.mem_singleton.mp e]; exact hk
theorem putI_len {α : Type} [DecidableEq α] (kvs : List (α × Int)) (k : α) (c : Int) : (putI kvs k c).length ≤ kvs.length + 1 := by
  unfold putI
  split
  · rw [List.length_map]; omega
  · rw [List.length_append]; exact Nat.le_refl _
def dcW (f : PyData → (Option Si → Prop) → Prop) : List PyData → List Si → (List Si → Prop) → Prop
  | [], acc, R => R acc
  | d :: ds, acc, R => f d fun o => dcW f ds (match o with | some q => putI acc q.1 q.2 | none => acc) R
def dcE (wg : WG) (wt : WT) (wk wv : WE) (Γ : Ev) (d : PyData) (S : Option Si → Prop) : Prop := wg (.d d) Γ fun Γ2 => wt Γ2 fun b => if b = true then wk Γ2 fun x => wv Γ2 fun y => (match x, y with
  | .d (.str k), .d (.int c) => S (some (k, c))
  | _, _ => False) else S none
def DcB (f : PyData → (Option Si → Prop) → Prop) (ds : List PyData) (acc : List Si) (R : List Si → Prop) (_ : Box R) : Prop := dcW f ds acc R
def wDc (wi : WI) (wg : WG) (wt : WT) (wk wv : WE) (vs : List Nat) : WE := fun Γ R => wi Γ fun ds => ds.length ≤ NN ∧ DcB (dcE wg wt wk wv (wipeE Γ vs)) ds [] (fun kvs => R (.dk kvs)) ⟨⟩
structure DcI (z : Fz) (H2 : Hp) (L : Addr) (f : PyData → (Option Si → Prop) → Prop) (ds : List PyData) (R : List Si → Prop) (i : Nat) (H' : Hp) : Prop where
  ex : ExB z.p H2 H'
  at_ : ∃ acc, H' L = some (.dK (acc.map keyed)) ∧ okK acc ∧ acc.length ≤ i ∧ dcW f (ds.drop i) acc R
theorem snd_dc {ti : TI} {g : TG} {tt : TT} {tk tv : TE} {vs ns : List Nat} {wi : WI} {wg : WG} {wt : WT} {wk wv : WE} (hi : SndI true ti wi) (hg : SndG g ns wg) (hns : ∀ i ∈ ns, i ∈ vs) (ht : SndT tt wt) (hk : SndE tk wk) (hv : SndE tv wv) : SndE (tDc ti g tt tk tv vs) (wDc wi wg wt wk wv vs) := ⟨fun z σ H Γ R Q r w k =>
  hi.run z σ H Γ _ _ r w fun J ds H2 e2 wkk ⟨hl, wl⟩ L nL => by
    have wl : dcW (dcE wg wt wk wv (wipeE Γ vs)) ds [] (fun kvs => R (.dk kvs)) := wl
    obtain ⟨G, Y, walk, hG, hY⟩ := wkk.ex
    have r2 := r.up e2
    refine dc_it walk (DcI z H2 L (dcE wg wt wk wv (wipeE Γ vs)) ds (fun kvs => R (.dk kvs))) ⟨.new nL, [], upd_same, fun _ h => (nomatch h), Nat.zero_le _, by simpa using wl⟩ (fun i H' _ q => hG _ H' (rel_av nL q.ex)) (fun i x H' H'' hi q y => ?_) fun H' q => ?_
    · obtain ⟨ex, acc, h1, h2, h3, h4⟩ := q
      have r3 : Rp (z.av L) σ H' Γ := r2.av nL ex ⟨_, h1, fun _ e => nomatch e⟩
      obtain ⟨d, g1, g2, g3⟩ := hY (z.av L) H' i x H'' (rel_av nL ex) r3.n r3.al hi y
      have ed : ds.drop i = d :: ds.drop (i + 1) := by
        obtain ⟨hlt, e⟩ := List.getElem?_eq_some_iff.mp g1
        rw [← e]
        exact List.drop_eq_getElem_cons hlt
      rw [ed] at h4
      have r4 := (r3.up g2).wipe vs
      have nLp : L ≠ z.p := (r2.al.ne nL).1
      refine hg.run (z.av L) (L2.wipe σ vs) H'' (wipeE Γ vs) x (.d d) _ _ r4 trivial (dD g3) h4 fun σ2 Γ2 r5 _ ew w5 => ⟨?_, ?_⟩
      · rw [ew vs hns, wipe_wipe]
      · refine ht.run (z.av L) σ2 H'' Γ2 _ _ r5 w5 fun b H5 e5 w6 => ?_
        have k5 := (g2.trans e5)
        split at w6
        · rename_i hb
          rw [if_pos hb]
          refine hk.run (z.av L) σ2 H5 Γ2 _ _ (r5.up e5) w6 fun y xy H6 e6 hy w7 => hv.run (z.av L) σ2 H6 Γ2 _ _ ((r5.up e5).up e6) w7 fun u xu H7 e7 hu w8 => ?_
          split at w8
          · rename_i kk c
            have k7 := (k5.trans e6).trans e7
            cases hu
            cases hy with
            | str _ l =>
              have l' : okS kk := by have := l; rw [show (z.av L).n = NN from r3.n] at this; exact this
              refine ⟨_, Sum.inr kk, rfl, k7.keep L _ nLp h1, by rw [List.length_map]; exact Nat.lt_of_lt_of_le (by omega : acc.length < NN) NN_line, (ex.trans k7).mut r2.al.1 nL (.dK (k7.keep L _ nLp h1)), putI acc kk c, ?_, okK_put h2 l', ?_, w8⟩
              · rw [upd_same, put_keyed]
              · have := putI_len acc kk c; omega
          · exact w8.elim
        · rename_i hb
          rw [if_neg hb]
          exact ⟨ex.trans k5, acc, k5.keep L _ nLp h1, h2, by omega, by simpa using w6⟩
    · obtain ⟨ex, acc, h1, h2, h3, h4⟩ := q
      rw [List.drop_length] at h4
      exact k _ _ H' (e2.trans ex) (show Dv z H' (.ref L) (.dk acc) from ⟨L, rfl, r2.al.ne nL, h1, h2⟩) h4⟩
/-! ### x = {} -/
def wNewT (i : Nat) : WS := fun Γ P => ∀ L, P.nx (Γ.set i (.ot L []))
theorem ss_newT {i : Nat} : SndS (tAsg tDNewT (gName i)) (wNewT i) := ⟨fun f z σ H Γ D P r d w L nL => d.nx (z.av L) _ _ _ (r.own (s := .ot L []) nL (.new nL) ⟨_, upd_same, fun _ e => nomatch e⟩ rfl ⟨rfl, List.mem_cons_self, (r.al.ne nL).1, upd_same, fun _ h => nomatch h⟩) (w L)⟩
/-! ### pairs as keys, walked -/
theorem snd_iKeysT {i : Nat} : SndI true (iKeys (tVar i)) (fun Γ R => match Γ[i]? with | some (.ft kvs) => R (kvs.map fun q => .tuple [.str q.1.1, .str q.1.2]) | _ => False) := ⟨fun z σ H Γ R Q r w k => by
  split at w
  · rename_i kvs e
    obtain ⟨a, f, h1, h2, h3, h4⟩ := r.sl i _ e
    refine ⟨_, h1, a, f, rfl, .inr ⟨_, h3, k _ _ H (.refl _ H) ⟨⟨_, _, by rw [List.length_map, ← List.length_map (f := keyed2)]; exact walk_keysT, fun z' H' q => q.keep rfl _ _ h2 h3, fun z' H' j x H'' q hn al hj y => ?_⟩⟩ w⟩⟩
    obtain ⟨rfl, kk, v, b, g1, rfl, g2⟩ := y
    rw [List.length_map] at hj
    rw [List.getElem?_map, List.getElem?_eq_getElem hj] at g1
    have g1 := Option.some.inj g1
    have ek : kk = key2 (kvs[j]).1 := (congrArg Prod.fst g1).symm
    subst ek
    have hk := h4 _ (List.getElem_mem hj)
    have nt : ∀ a, Al a H'' → b ≠ a := fun a ⟨o, ho, ht⟩ e => by
      rw [← e, g2] at ho
      exact ht _ (Option.some.inj ho).symm
    exact ⟨_, by rw [List.getElem?_map, List.getElem?_eq_getElem hj]; rfl, .refl _ _, .tup ⟨nt _ al.1, fun m => nt _ (al.2 b m) rfl⟩ g2 (by rw [hn]; exact (by decide : 2 ≤ NN)) (.cons (.str _ (by rw [hn]; exact hk.1)) (.cons (.str _ (by rw [hn]; exact hk.2)) .nil))⟩
  · exact w.elim⟩
end Dm
namespace Dm
open PySem L2 Pb
/-- a, b = x, y by a tuple -/
theorem ss_duo {K : PySem.W.Frag} {i j : Nat} {ta : TA} {wm : WM} (hij : i ≠ j) (h : SndM ta wm) : SndS (tAsg (tTup ta) (gTup K 2 (gCons (gName i) (gCons (gName j) gNil)))) (wPar i j wm) := ⟨fun f z σ H Γ D P r d w => h.run f z σ H Γ [] [] _ _ rfl r w fun vs ss z' H2 hl r' w' => by
  split at w'
  · rename_i s t
    obtain ⟨a, b, rfl⟩ := len2 hl
    refine ⟨by show 2 ≤ sizeLine; decide, fun p np => ⟨p, _, rfl, .inl (.inl upd_same), rfl, _, _, rfl, _, _, rfl, rfl, ?_⟩⟩
    have r1 : Rs f z' (some a :: σ.set j (some b)) _ (s :: Γ.set j t) := Rs.move (k := j + 1) (o := some b) (s := t) (σ := some a :: σ) (Γ := s :: Γ) (r'.up (.new (o := .tup [a, b]) np))
    have r2 := Rs.move (k := i) r1
    rw [List.set_comm _ _ (Ne.symm hij), List.set_comm _ _ (Ne.symm hij)] at r2
    exact d.nx z' _ _ _ r2 w'
  · exact w'.elim⟩
/-- xs[::-1] -/
def wRev (we : WE) : WE := fun Γ R => we Γ fun x => match lstOf x with
  | some ds => R (.d (.list ds.reverse))
  | none => False
theorem un_rev {X : Cx} {K : PySem.W.Frag} {e : Expr} {te : TE} {k : Nat} {p1 p2 p3 pos : Pos} (h : X.K = K) (he : PE X e te) : PE X (.Subscript e (.Slice none none (some (.UnaryOp .USub (.Constant (.int 1) k p1) p2)) p3) pos) (tRevL K te) := h ▸ pe_revL he
theorem dts_rev {z : Fz} {H : Hp} : ∀ {vs : List V} {ds : List PyData}, DtAll z H vs ds → DtAll z H vs.reverse ds.reverse
  | _, _, .nil => .nil
  | _, _, .cons a t => by rw [List.reverse_cons, List.reverse_cons]; exact (dts_rev t).append (.cons a .nil)
theorem snd_rev {K : PySem.W.Frag} {te : TE} {we : WE} (h : SndE te we) : SndE (tRevL K te) (wRev we) := ⟨fun z σ H Γ R Q r w k => h.run z σ H Γ _ _ r w fun v x H2 e2 hx w2 => by
  split at w2
  · rename_i ds e
    obtain ⟨a, vs, rfl, h1, h2, h3⟩ := lst_at e hx
    exact ⟨a, vs, rfl, .inl (.inl h1), fun p np => k _ _ _ (e2.trans (.new np)) (dL ((r.al.up e2).ne np) upd_same (by rw [List.length_reverse]; exact h3) ((dts_rev h2).mono (.new np))) w2⟩
  · exact w2.elim⟩
end Dm
namespace Dm
open PySem L2 Pb
/-! ### walls: where a word stops, and goes on by hand -/
def Hold (b : WS) (Γ : Ev) (P : Post) : Prop := b Γ P
theorem wSeq_e (a b : WS) (Γ : Ev) (P : Post) : wSeq a b Γ P = a Γ { P with nx := fun Γ' => Hold b Γ' P } := rfl
theorem Hold_go {b : WS} {Γ : Ev} {P : Post} (h : b Γ P) : Hold b Γ P := h
def IxK (ds : List PyData) (i : Int) (R : Vx → Prop) (_ : Box R) : Prop := ∃ d, atI ds i = some d ∧ R (.d d)
theorem oIx_l (ds : List PyData) (i : Int) (R : Vx → Prop) : oIx (.d (.list ds)) (.d (.int i)) R = IxK ds i R ⟨⟩ := rfl
theorem oIx_q (ds : List PyData) (i : Int) (R : Vx → Prop) : oIx (.q ds) (.d (.int i)) R = IxK ds i R ⟨⟩ := rfl
theorem oIx_t (ds : List PyData) (i : Int) (R : Vx → Prop) : oIx (.d (.tuple ds)) (.d (.int i)) R = IxK ds i R ⟨⟩ := rfl
theorem atI_0 {α : Type} (x : α) (r : List α) : atI (x :: r) 0 = some x := atI_nat (j := 0) rfl
theorem atI_1 {α : Type} (x y : α) (r : List α) : atI (x :: y :: r) 1 = some y := atI_nat (j := 1) rfl
theorem atI_2 {α : Type} (x y u : α) (r : List α) : atI (x :: y :: u :: r) 2 = some u := atI_nat (j := 2) rfl
theorem atI_3 {α : Type} (x y u v : α) (r : List α) : atI (x :: y :: u :: v :: r) 3 = some v := atI_nat (j := 3) rfl
theorem IxK_of {ds : List PyData} {i : Int} {d : PyData} {R : Vx → Prop} (h : atI ds i = some d) (r : R (.d d)) : IxK ds i R ⟨⟩ := ⟨d, h, r⟩
theorem IxK_eq {ds : List PyData} {i : Int} {d : PyData} (R : Vx → Prop) (h : atI ds i = some d) : IxK ds i R ⟨⟩ = R (.d d) := propext ⟨fun ⟨e, h1, r⟩ => by rw [h] at h1; cases h1; exact r, fun r => ⟨d, h, r⟩⟩
theorem IxK_0 (x : PyData) (r : List PyData) (R : Vx → Prop) : IxK (x :: r) 0 R ⟨⟩ = R (.d x) := IxK_eq R (atI_0 x r)
theorem IxK_1 (x y : PyData) (r : List PyData) (R : Vx → Prop) : IxK (x :: y :: r) 1 R ⟨⟩ = R (.d y) := IxK_eq R (atI_1 x y r)
theorem IxK_2 (x y u : PyData) (r : List PyData) (R : Vx → Prop) : IxK (x :: y :: u :: r) 2 R ⟨⟩ = R (.d u) := IxK_eq R (atI_2 x y u r)
theorem IxK_3 (x y u v : PyData) (r : List PyData) (R : Vx → Prop) : IxK (x :: y :: u :: v :: r) 3 R ⟨⟩ = R (.d v) := IxK_eq R (atI_3 x y u v r)
def DgK (o : Option (Option Int)) (R : Vx → Prop) (_ : Box R) : Prop := match o with
  | some (some c) => R (.d (.int c))
  | _ => False
theorem oDGet_e (x y : Vx) (R : Vx → Prop) : oDGet x y R = DgK (dLook x y) R ⟨⟩ := rfl
theorem DgK_some (c : Int) (R : Vx → Prop) : DgK (some (some c)) R ⟨⟩ = R (.d (.int c)) := rfl
theorem DgK_of {o : Option Int} {c : Int} {R : Vx → Prop} (h : o = some c) (r : R (.d (.int c))) : DgK (some o) R ⟨⟩ := by subst h; exact r
def ForI (wg : WG) (wb : WS) (ds : List PyData) (Γ : Ev) (P : Post) : Prop := ∃ I : Nat → Ev → Prop, I 0 Γ ∧ (∀ (k : Nat) (d : PyData) (Γ' : Ev), ds[k]? = some d → I k Γ' → wg (.d d) Γ' fun Γ2 => wb Γ2 ⟨I (k + 1), P.rt, P.nx, I (k + 1)⟩) ∧ ∀ Γ', I ds.length Γ' → P.nx Γ'
theorem wFor_e (wi : WI) (wg : WG) (wb : WS) (Γ : Ev) (P : Post) : wFor wi wg wb Γ P = wi Γ fun ds => ForI wg wb ds Γ P := rfl
theorem fSum_of {ds : List PyData} {R : Vx → Prop} (ns : List Int) (h : ds = ns.map PyData.int) (r : R (.d (.int ns.sum))) : F1 fSum ds R ⟨⟩ := ⟨ns, h, r⟩
theorem fDictP_of {ds : List PyData} {R : Vx → Prop} (kvs : List Si) (h : ds = kvs.map encP) (nd : (kvs.map (·.1)).Nodup) (r : R (.dk kvs)) : F1 fDictP ds R ⟨⟩ := ⟨kvs, h, nd, r⟩
theorem flOnly_fl (R : List PyData → Prop) (ds : List PyData) : flOnly R (.fl ds) = R ds := rfl
def isTru : Vx → Prop
  | .d (.bool true) => True
  | _ => False
def bodyPost (m : Nat) : Post := ⟨fun Γ => Γ.length = m + 2, isTru, fun _ => False, fun Γ => Γ.length = m + 2⟩
def tailPost : Post := ⟨fun _ => False, isTru, fun _ => False, fun _ => False⟩
/-- if test: return False, where the test fails -/
def wAssert (wt : WT) : WS := fun Γ P => wt Γ (fun c => c = false) ∧ P.nx Γ
theorem ss_assert {c : TT} {wt : WT} (h : SndT c wt) : SndS (tIfS c (tRet (tC (.bl false))) tNext) (wAssert wt) := ⟨fun f z σ H Γ D P r d w => h.run z σ H Γ _ _ r.toRp w.1 fun b H2 e2 hb => by
  subst hb
  exact iteF (d.nx z σ H2 Γ (r.up e2) w.2)⟩
/-- a statement, by what stands behind it -/
def wMid (a : WS) : WS := fun Γ P => ∃ N : Ev → Prop, a Γ ⟨N, P.rt, P.bk, P.ct⟩ ∧ ∀ Γ', N Γ' → P.nx Γ'
theorem ss_mid {t : TS} {a : WS} (h : SndS t a) : SndS t (wMid a) := ⟨fun f z σ H Γ D P r d ⟨N, w, k⟩ => h.run f z σ H Γ D ⟨N, P.rt, P.bk, P.ct⟩ r ⟨fun z σ H Γ r n => d.nx z σ H Γ r (k Γ n), d.bk, d.ct, d.rt, d.rf⟩ w⟩
theorem mid_at {a : WS} {Γ Γ' : Ev} {P : Post} (w : a Γ ⟨(· = Γ'), P.rt, P.bk, P.ct⟩) (k : P.nx Γ') : wMid a Γ P := ⟨(· = Γ'), w, fun _ e => e ▸ k⟩
theorem mid_by {a : WS} {Γ : Ev} {P : Post} (N : Ev → Prop) (w : a Γ ⟨N, P.rt, P.bk, P.ct⟩) (k : ∀ Γ', N Γ' → P.nx Γ') : wMid a Γ P := ⟨N, w, k⟩
/-- a loop, by what is kept -/
theorem for_by {wg : WG} {wb : WS} {ds : List PyData} {Γ : Ev} {P : Post} (I : Nat → Ev → Prop) (h0 : I 0 Γ) (hs : ∀ (k : Nat) (d : PyData) (Γ' : Ev), ds[k]? = some d → I k Γ' → wg (.d d) Γ' fun Γ2 => wb Γ2 ⟨I (k + 1), P.rt, P.nx, I (k + 1)⟩) (hd : ∀ Γ', I ds.length Γ' → P.nx Γ') : ForI wg wb ds Γ P := ⟨I, h0, hs, hd⟩
end Dm
/-! dict(zip(a tuple, a list)) -/
namespace Zd
open PySem
section
variable {prog : Program} {w : World} {A : Around} {E : Value → Shared → Prop} {s : Shared} {z TI TO T i1 i2 : Addr} {fp1 fp2 : List Addr} {n1 n2 i : Nat} {P1 P2 : Nat → Value → Prop} {St1 St2 : Nat → Heap → Prop} {f : Bool} {oT : Obj}
theorem out_item {Q : Value → Shared → Prop} (S : ZipSep2 z TI TO i1 i2 fp1 fp2) (D1 : Draws prog w A i1 fp1 n1 P1 St1) (D2 : Draws prog w A i2 fp2 n2 P2 St2)
    (hz : IsZipHeld s.heap z TI TO T f) (hT : s.heap.get? T = some oT) (hI : IsTupOf2 s.heap TI (.ref i1) (.ref i2)) (a1 : St1 i s.heap) (a2 : St2 i s.heap) (b1 : i < n1) (b2 : i < n2)
    (q : ∀ x y h' tk, P1 i x → P2 i y → IsZipHeld h' z TI TO T true → St1 (i + 1) h' → St2 (i + 1) h' → IsTupOf2 h' s.heap.objs.size x y →
      (∀ c o, c ≠ z → c ≠ i1 → c ≠ i2 → s.heap.get? c = some o → h'.get? c = some o) → Q (.ref s.heap.objs.size) { s with heap := h', toks := tk }) :
    wpAny (model prog w) A (Builtin.«zip.__next__» ⟨[.ref z], []⟩) (fun r s' => ∃ v, r = .done (.ret v) ∧ Q v s') E s := by
  obtain ⟨hp, g, d, tk0, os⟩ := s
  show wpAny _ _ (field (.ref z) 2 >>= _) _ _ _; refine wpAny_bind (wpAny_field hz rfl (x := .bool false) rfl ?_)
  show wpAny _ _ (field (.ref z) 3 >>= _) _ _ _; refine wpAny_bind (wpAny_field hz rfl (x := .ref TI) rfl ?_)
  refine wpAny_bind (wpAny_seqItems hI rfl ?_)
  show wpAny _ _ (Builtin.SmallTypes.ownedTupleIsFree (.ref z) >>= _) _ _ _; refine wpAny_bind (wpAny_tupleHeld_zip hz hT fun g0 z0 e0 => ?_)
  replace e0 : Heap.SameBut z hp g0 := e0
  simp only [Bool.false_eq_true, if_false]; refine wpAny_bind ?_
  rw [← Array.forIn_toList]; simp only [List.forIn_cons, List.forIn_nil]
  refine wpAny_bind (wpAny_bind (wpAny_holding ?_)); show wpAny _ _ (Builtin.SmallTypes.nextOf (.ref i1) >>= _) _ _ ⟨g0, g, d, tk0, os⟩
  refine wpAny_bind (D1.item i _ _ _ b1 (D1.over a1 e0 S.zf1) fun x p1 tk1 hx n1' e1 => wpAny_pure (wpAny_pure ?_))
  replace e1 : Heap.SameBut i1 g0 p1 := e1
  refine wpAny_bind (wpAny_bind (wpAny_holding ?_)); show wpAny _ _ (Builtin.SmallTypes.nextOf (.ref i2) >>= _) _ _ ⟨p1, g, d, tk1, os⟩
  refine wpAny_bind (D2.item i _ _ _ b2 (D2.over (D2.over a2 e0 S.zf2) e1 S.sep1_2) fun y p2 tk2 hy n2' e2 => wpAny_pure (wpAny_pure (wpAny_pure ?_)))
  replace e2 : Heap.SameBut i2 p1 p2 := e2
  show wpAny _ _ (newTuple [x, y] >>= _) _ _ _; refine wpAny_bind (wpAny_newTuple (wpAny_pure ⟨_, rfl, ?_⟩))
  have sz : p2.objs.size = hp.objs.size := by rw [e2.1, e1.1, e0.1]
  have zz : IsZipHeld p2 z TI TO T true := e2.extBut _ _ S.zi2 (e1.extBut _ _ S.zi1 z0)
  have m1 : St1 (i + 1) p2 := D1.over n1' e2 S.sep2_1
  have pr : IsTupOf2 (p2.push { cls := .type "tuple", data := .seq #[x, y] }) p2.objs.size x y := Heap.get?_push_size _ rfl
  show Q (.ref p2.objs.size) ⟨p2.push { cls := .type "tuple", data := .seq #[x, y] }, g, d, tk2, os⟩
  rw [sz] at pr ⊢
  exact q x y _ tk2 hx hy (Heap.get?_push_of_some _ zz) (D1.frame _ _ _ m1 fun b _ o e => Heap.get?_push_of_some _ e) (D2.frame _ _ _ n2' fun b _ o e => Heap.get?_push_of_some _ e) pr fun c o c1 c2 c3 e => Heap.get?_push_of_some _ (e2.extBut _ _ c3 (e1.extBut _ _ c2 (e0.extBut _ _ c1 e)))
theorem out_end {Q : Fin → Shared → Prop} (S : ZipSep2 z TI TO i1 i2 fp1 fp2) (D1 : Draws prog w A i1 fp1 n1 P1 St1) (D2 : Draws prog w A i2 fp2 n2 P2 St2)
    (hz : IsZipHeld s.heap z TI TO T f) (hT : s.heap.get? T = some oT) (hI : IsTupOf2 s.heap TI (.ref i1) (.ref i2)) (a1 : St1 i s.heap) (b1 : i = n1)
    (q : ∀ h' e, (∀ c o, c ≠ z → c ≠ i1 → s.heap.get? c = some o → h'.get? c = some o) → (∃ o, h'.get? e = some o ∧ o.cls = .type "StopIteration") → E (.ref e) { s with heap := h' }) :
    wpAny (model prog w) A (Builtin.«zip.__next__» ⟨[.ref z], []⟩) Q E s := by
  subst b1
  obtain ⟨hp, g, d, tk0, os⟩ := s
  show wpAny _ _ (field (.ref z) 2 >>= _) _ _ _; refine wpAny_bind (wpAny_field hz rfl (x := .bool false) rfl ?_)
  show wpAny _ _ (field (.ref z) 3 >>= _) _ _ _; refine wpAny_bind (wpAny_field hz rfl (x := .ref TI) rfl ?_)
  refine wpAny_bind (wpAny_seqItems hI rfl ?_)
  show wpAny _ _ (Builtin.SmallTypes.ownedTupleIsFree (.ref z) >>= _) _ _ _; refine wpAny_bind (wpAny_tupleHeld_zip hz hT fun g0 z0 e0 => ?_)
  replace e0 : Heap.SameBut z hp g0 := e0
  simp only [Bool.false_eq_true, if_false]; refine wpAny_bind ?_
  rw [← Array.forIn_toList]; simp only [List.forIn_cons, List.forIn_nil]
  refine wpAny_bind (wpAny_bind (wpAny_holding ?_)); show wpAny _ _ (Builtin.SmallTypes.nextOf (.ref i1) >>= _) _ _ ⟨g0, g, d, tk0, os⟩
  refine wpAny_bind (D1.done _ _ _ (D1.over a1 e0 S.zf1) fun p1 e e1 he => ?_)
  exact q p1 e (fun c o c1 c2 x => e1 _ _ c2 (e0.extBut _ _ c1 x)) he
theorem next_out {Q : Option Value → Shared → Prop} (S : ZipSep2 z TI TO i1 i2 fp1 fp2) (D1 : Draws prog w A.in1 i1 fp1 n1 P1 St1) (D2 : Draws prog w A.in1 i2 fp2 n2 P2 St2)
    (hz : IsZipHeld s.heap z TI TO T f) (hT : s.heap.get? T = some oT) (hI : IsTupOf2 s.heap TI (.ref i1) (.ref i2)) (a1 : St1 i s.heap) (a2 : St2 i s.heap) (b1 : i < n1) (b2 : i < n2)
    (q : ∀ x y h' tk, P1 i x → P2 i y → IsZipHeld h' z TI TO T true → St1 (i + 1) h' → St2 (i + 1) h' → IsTupOf2 h' s.heap.objs.size x y →
      (∀ c o, c ≠ z → c ≠ i1 → c ≠ i2 → s.heap.get? c = some o → h'.get? c = some o) → Q (some (.ref s.heap.objs.size)) { s with heap := h', toks := tk }) :
    wpAny (model prog w) A (pyNext (.ref z)) Q E s := by
  have ty : s.TypeIs (.ref z) "zip" := ⟨_, hz, rfl⟩
  unfold pyNext
  exact wpAny_bind (wpAny_attempt (wpAny_callSpecial?_slot (name := Str.ofString "__next__") ty F.slot_zip_next (wpAny_call_entry F.slot_zip_next ty F.entry_zip_next (out_item S D1 D2 hz hT hI a1 a2 b1 b2 fun x y h' tk c1 c2 c3 c4 c5 c6 c7 => wpAny_pure (q x y h' tk c1 c2 c3 c4 c5 c6 c7)) (F.args_zip_next_1 _))))
theorem next_over {Q : Option Value → Shared → Prop} (S : ZipSep2 z TI TO i1 i2 fp1 fp2) (D1 : Draws prog w A.in1 i1 fp1 n1 P1 St1) (D2 : Draws prog w A.in1 i2 fp2 n2 P2 St2)
    (hz : IsZipHeld s.heap z TI TO T f) (hT : s.heap.get? T = some oT) (hI : IsTupOf2 s.heap TI (.ref i1) (.ref i2)) (a1 : St1 i s.heap) (b1 : i = n1)
    (q : ∀ h', (∀ c o, c ≠ z → c ≠ i1 → s.heap.get? c = some o → h'.get? c = some o) → Q none { s with heap := h' }) : wpAny (model prog w) A (pyNext (.ref z)) Q E s := by
  have ty : s.TypeIs (.ref z) "zip" := ⟨_, hz, rfl⟩
  unfold pyNext
  refine wpAny_bind (wpAny_attempt (wpAny_callSpecial?_slot (name := Str.ofString "__next__") ty F.slot_zip_next (wpAny_call_entry F.slot_zip_next ty F.entry_zip_next (out_end S D1 D2 hz hT hI a1 b1 fun h' e hk he => ?_) (F.args_zip_next_1 _))))
  obtain ⟨o, ho, hc⟩ := he
  refine wpAny_bind (wpAny_isInstance (T := "StopIteration") (b := true) ⟨o, ho, hc⟩ isSubtype_stop (wpAny_pure (q _ hk)))
end
section
variable {prog : Program} {w : World}
/-- a zip over a tuple t and a list l, as many as the tuple has, which is as many as the list has -/
theorem arg_tl (z TI TO i1 i2 t l : Addr) (S : ZipSep2 z TI TO i1 i2 [i1, t] [i2, l]) (h1t : t ≠ i1) (h2l : l ≠ i2) (ne : TI ≠ t ∧ TI ≠ l ∧ t ≠ i2 ∧ l ≠ i1) (xs ys : Array Value) (hxy : xs.size = ys.size) :
    PairArg prog w "zip" z [z, TI, TO, i1, i2, t, l] [z, TO, i1, i2] xs.size (fun i k v => xs[i]? = some k ∧ ys[i]? = some v)
      (fun h => IsZip h z TI TO .none ∧ IsTupOf2 h TI (.ref i1) (.ref i2) ∧ IsTupOf2 h TO .none .none ∧ (h.IsTupleIter i1 t 0 ∧ h.IsTuple t xs) ∧ (h.IsListIter i2 l 0 ∧ h.IsList l ys)) where
  type := fun s ok => ⟨_, ok.1, rfl⟩
  notDict := by decide
  keep := fun h h' ⟨a, b, c, ⟨d1, d2⟩, e1, e2⟩ hk => ⟨hk _ _ a, hk _ _ b, hk _ _ c, ⟨d1.at fun o e => hk _ o e, d2.at fun o e => hk _ o e⟩, e1.at fun o e => hk _ o e, e2.at fun o e => hk _ o e⟩
  there := fun h ⟨a, b, c, ⟨⟨o1, d1, _⟩, o2, d2, _⟩, ⟨o3, d3, _⟩, o4, d4, _⟩ x hx => by
    simp only [List.mem_cons, List.not_mem_nil, or_false] at hx
    rcases hx with y | y | y | y | y | y | y <;> subst y
    · exact ⟨_, a⟩
    · exact ⟨_, b⟩
    · exact ⟨_, c⟩
    · exact ⟨_, d1⟩
    · exact ⟨_, d3⟩
    · exact ⟨_, d2⟩
    · exact ⟨_, d4⟩
  sub := fun b hb => by
    simp only [List.mem_cons, List.not_mem_nil, or_false] at hb
    rcases hb with y | y | y | y <;> subst y <;> simp
  noKeys := fun A s Q E hA ok h => getAttrOr_miss_zip ok.1 rfl rfl rfl zip_no_keys (by decide +kernel) hA h
  iter := fun A s d Q E hA ok hd hdf h => by
    obtain ⟨hz, hI, hO, s1, s2⟩ := ok
    simp only [List.mem_cons, List.not_mem_nil, or_false, not_or] at hdf
    obtain ⟨dz, dI, dO, d1, d2, dt, dl⟩ := hdf
    have hA1 : A.in1.handled = none := by simp [hA]
    have D1 := Draws.tuple (prog := prog) (w := w) hA1 i1 t h1t xs
    have D2 := Draws.list (prog := prog) (w := w) hA1 i2 l h2l ys
    refine wpAny_pyIter_zip hz (h z [z, TO, i1, i2] (fun i h => IsTupOf2 h TI (.ref i1) (.ref i2) ∧ (h.IsTupleIter i1 t i ∧ h.IsTuple t xs) ∧ (h.IsListIter i2 l i ∧ h.IsList l ys) ∧
      ((IsZip h z TI TO .none ∧ IsTupOf2 h TO .none .none) ∨ ∃ T f oT, IsZipHeld h z TI TO T f ∧ h.get? T = some oT ∧ (T ≠ z ∧ T ≠ i1 ∧ T ≠ i2) ∧ T ≠ d)) s.heap s.toks ?_ ⟨hI, s1, s2, .inl ⟨hz, hO⟩⟩ (fun _ _ e => e) fun b hb => .inl hb)
    refine ⟨fun hm => ?_, fun i g1 g2 st hk => ?_, fun i r Q₁ E₁ hi st hds hQ => ?_, fun r Q₁ E₁ st hQ => ?_⟩
    · simp only [List.mem_cons, List.not_mem_nil, or_false] at hm
      exact hm.elim dz fun m => m.elim dO fun m => m.elim d1 d2
    · obtain ⟨c1, c2, c3, c4⟩ := st
      refine ⟨hk _ _ (Ne.symm dI) c1, ⟨c2.1.at fun o e => hk _ o (Ne.symm d1) e, c2.2.at fun o e => hk _ o (Ne.symm dt) e⟩, ⟨c3.1.at fun o e => hk _ o (Ne.symm d2) e, c3.2.at fun o e => hk _ o (Ne.symm dl) e⟩, ?_⟩
      rcases c4 with ⟨c5, c6⟩ | ⟨T, f, oT, c5, c6, c7, c8⟩
      · exact .inl ⟨hk _ _ (Ne.symm dz) c5, hk _ _ (Ne.symm dO) c6⟩
      · exact .inr ⟨T, f, oT, hk _ _ (Ne.symm dz) c5, hk _ _ c8 c6, c7, c8⟩
    · obtain ⟨c1, c2, c3, c4⟩ := st
      have lt : ∀ {c o}, r.heap.get? c = some o → r.heap.objs.size ≠ c := fun e => Nat.ne_of_gt (Heap.lt_size e)
      have f1 : r.heap.objs.size ≠ i1 := let ⟨_, e, _⟩ := c2.1; lt e
      have f2 : r.heap.objs.size ≠ i2 := let ⟨_, e, _⟩ := c3.1; lt e
      rcases c4 with ⟨c5, c6⟩ | ⟨T, f, oT, c5, c6, c7, c8⟩
      · refine wpAny_pyNext_zipD2_item S D1 D2 c5 c1 c6 c2 c3 hi (hxy ▸ hi) fun x y h' tk q1 q2 k1 k2 k3 k4 k5 k6 k7 => ?_
        exact hQ r.heap.objs.size x y h' tk ⟨q1, q2⟩ (.inl ⟨_, k5, rfl, _, rfl⟩) ⟨k7 _ _ S.TIz S.TITO S.TIi1 S.TIi2 c1, k3, k4, .inr ⟨r.heap.objs.size, false, _, k1, k5, ⟨lt c5, f1, f2⟩, Nat.ne_of_gt hds⟩⟩
          fun c o hc e => k7 c o (fun x => hc (by simp [x])) (fun x => hc (by simp [x])) (fun x => hc (by simp [x])) (fun x => hc (by simp [x])) e
      · refine next_out S D1 D2 c5 c6 c1 c2 c3 hi (hxy ▸ hi) fun x y h' tk q1 q2 k1 k3 k4 k5 k7 => ?_
        exact hQ r.heap.objs.size x y h' tk ⟨q1, q2⟩ (.inl ⟨_, k5, rfl, _, rfl⟩) ⟨k7 _ _ S.TIz S.TIi1 S.TIi2 c1, k3, k4, .inr ⟨T, true, oT, k1, k7 _ _ c7.1 c7.2.1 c7.2.2 c6, c7, c8⟩⟩
          fun c o hc e => k7 c o (fun x => hc (by simp [x])) (fun x => hc (by simp [x])) (fun x => hc (by simp [x])) e
    · obtain ⟨c1, c2, c3, c4⟩ := st
      rcases c4 with ⟨c5, c6⟩ | ⟨T, f, oT, c5, c6, c7, c8⟩
      · exact wpAny_pyNext_zipD2_end S D1 D2 c5 c1 c6 c2 c3 (Nat.le_refl _) (by rw [hxy]; exact Nat.le_refl _) (.inl rfl) fun h' tk hk => hQ h' tk fun c o hc e => hk c o (fun x => hc (by simp [x])) (fun x => hc (by simp [x])) (fun x => hc (by simp [x])) (fun x => hc (by simp [x])) e
      · exact next_over S D1 D2 c5 c6 c1 c2 rfl fun h' hk => hQ h' r.toks fun c o hc e => hk c o (fun x => hc (by simp [x])) (fun x => hc (by simp [x])) e
end
end Zd
namespace Dm
open PySem PySem.Spec PyProof.Rows L2 Pb
def tDictZip (K : PySem.W.Frag) (ta : TA) : TE := fun σ H Q => ta σ H fun vs H1 => ∃ (t l : Addr) (ks : List Key) (ys : List V), vs = [.ref t, .ref l] ∧ SqT K H1 t (ks.map kV) ∧ SqL K H1 l ys ∧ ks.length = ys.length ∧ ∀ p, H1 p = none → Q (.ref p) (upd H1 p (.dK (mergeK [] (ks.zip ys))))
theorem zip_kv : ∀ {ks : List Key} {ys : List V} {us : List Value}, Vals ys us → KV (ks.zip ys) (ks.zip us)
  | [], _, _, _ => by rw [List.zip_nil_left, List.zip_nil_left]; exact .nil
  | k :: ks, _, _, .nil => by rw [List.zip_nil_right, List.zip_nil_right]; exact .nil
  | k :: ks, _, _, .cons h t => .cons ⟨rfl, h⟩ (zip_kv t)
theorem keys_is {P : Program} {w : World} {ks : List Key} {us : List Value} (r : Vals (ks.map kV) us) {i : Nat} {u : Value} (h : us[i]? = some u) : ∃ k, ks[i]? = some k ∧ (mixKind P w).is k u = true := by
  have hl := r.length
  rw [List.length_map] at hl
  have lt : i < ks.length := by rw [hl]; exact (List.getElem?_eq_some_iff.mp h).1
  obtain ⟨u', hu, ru⟩ := r.get (i := i) (x := kV ks[i]) (by rw [List.getElem?_map, List.getElem?_eq_getElem lt]; rfl)
  rw [h] at hu
  cases hu
  exact ⟨ks[i], List.getElem?_eq_getElem lt, kV_is ru⟩
theorem apart5 {n t : Nat} (ht : t < n) : (n + 4 ≠ t ∧ n + 3 ≠ t ∧ n + 2 ≠ t) ∧ (n + 1 ≠ t ∧ n ≠ t) := by omega
theorem mem2 {a b c : Nat} (h : a ≠ b) (h' : a ≠ c) : a ∉ ([b, c] : List Nat) := by simp [h, h']
theorem zip_sep (n t l : Nat) (ht : t < n) (hl : l < n) : ZipSep2 (n + 4) (n + 2) (n + 3) n (n + 1) [n, t] [n + 1, l] :=
  let A := apart5 ht
  let B := apart5 hl
  have p : ∀ {a b : Nat}, a ≠ b → (n + a ≠ n + b) := fun h e => h (by omega)
  have p0 : ∀ {a : Nat}, a ≠ 0 → (n + a ≠ n) := fun h e => h (by omega)
  ⟨p (by decide), p (by decide), p (by decide), p0 (by decide), List.mem_cons_self, mem2 (p0 (by decide)) A.1.1, mem2 (p0 (by decide)) A.1.2.1, p (by decide), List.mem_cons_self, mem2 (p (by decide)) B.1.1, mem2 (p (by decide)) B.1.2.1, mem2 (Ne.symm (p0 (by decide))) B.2.2, mem2 (p0 (by decide)) A.2.1⟩
theorem old_off {n b : Nat} (h : b < n) : b ∉ ([n + 4, n + 3, n, n + 1] : List Nat) := by
  simp only [List.mem_cons, List.not_mem_nil, or_false, not_or]; omega
theorem isTup_up {h h' : Heap} {t : Addr} {xs : Array Value} (p : h.IsTuple t xs) (hk : ∀ c o, h.get? c = some o → h'.get? c = some o) : h'.IsTuple t xs := p.at fun o e => hk _ o e
theorem pe_dictZip {X : Cx} {K : PySem.W.Frag} {e e2 : Expr} {ta : TA} {p p2 pos pos2 : Pos} (hc : X.calm = true) (eK : X.K = K) (hg : Gl X "dict") (hm : X.mg "dict" = none) (hv : bootBuiltins "dict" = some (.type "dict")) (hg2 : Gl X "zip") (hm2 : X.mg "zip" = none) (ha : PA X [e, e2] ta)
    (hs : starEach [e, e2] X.env = (false, eval e X.env) :: starEach [e2] X.env := by rfl) (hpl : (backTo pos2 (starEach [e2] X.env)).any (·.1) = false := by rfl)
    (hs0 : starEach [.Call (.Name "zip" p2) [e, e2] [] pos2] X.env = (false, eval (.Call (.Name "zip" p2) [e, e2] [] pos2) X.env) :: starEach [] X.env := by rfl) (hp0 : (backTo pos (starEach [] X.env)).any (·.1) = false := by rfl) :
    PE X (.Call (.Name "dict" p) [.Call (.Name "zip" p2) [e, e2] [] pos2] [] pos) (tDictZip K ta) := by
  subst eK
  refine ⟨fun pins s σ H Q I h => ?_⟩
  refine wpAny_Call_Name_kw (ld_blt I hg hm hv (PyProof.Rows.callWith_type1 ?_ hs0 hp0) (by decide) (by decide))
  rw [hs0]
  show wpAny _ _ (spliced ((false, eval (.Call (.Name "zip" p2) [e, e2] [] pos2) X.env) :: backTo pos (starEach [] X.env))) _ _ s
  refine Calls.spliced_cons ?_
  refine Call_ (ld_blt I hg2 hm2 PyProof.Rows.boot_zip (PyProof.Rows.callWith_type1 (thn (ha.run pos2 pins s σ H _ I h) fun us s1 ⟨vs, H1, I1, r1, q1⟩ => ?_) hs hpl))
  obtain ⟨t, l, ks, ys, rfl, ht, hl, hn, q⟩ := q1
  obtain ⟨u1, u2, rfl, r2, r3⟩ := vals2 r1
  cases (show u1 = Value.ref t from r2)
  cases (show u2 = Value.ref l from r3)
  obtain ⟨xs, rx, px, hz1⟩ := I1.tuple ht
  obtain ⟨ys', ry, py, hz2⟩ := I1.list hl
  have lx := rx.length
  have ly := ry.length
  rw [List.length_map] at lx
  have lt : t < s1.heap.objs.size := by obtain ⟨o, ho, _⟩ := px; exact Heap.lt_size ho
  have ll : l < s1.heap.objs.size := py.lt
  refine zip_begins2 (begins_tuple t xs.toArray) (begins_list l ys'.toArray) px py.isList fun h' hz hI hO g1 g2 hsz hk => Calls.spliced_nil ?_
  have hp : (ks.zip ys').length = xs.toArray.size := by rw [List.length_zip, List.size_toArray, ← lx, ← ly, hn]; exact Nat.min_self _
  refine PySem.call_dict_pairs (knd := mixKind X.prog X.w) (kvs := ks.zip ys') (Zd.arg_tl (s1.heap.objs.size + 4) (s1.heap.objs.size + 2) (s1.heap.objs.size + 3) s1.heap.objs.size (s1.heap.objs.size + 1) t l (zip_sep _ t l lt ll) (Nat.ne_of_lt lt) (Ne.symm (apart5 ll).2.1) ⟨(apart5 lt).1.2.2, (apart5 ll).1.2.2, Ne.symm (apart5 lt).2.1, Nat.ne_of_lt ll⟩ xs.toArray ys'.toArray (by rw [List.size_toArray, List.size_toArray, ← lx, ← ly, hn])) (I.ok.hd hc)
    ⟨hz, hI, hO, ⟨⟨_, g1, rfl, rfl⟩, isTup_up px hk⟩, ⟨_, g2, rfl, rfl⟩, py.isList.at fun o e => hk _ o e⟩ ⟨hp, fun i key v hr => ?_⟩ (by rw [List.size_toArray, ← lx, ← List.length_map (f := kV)]; exact rx.length ▸ hz1) fun h2 tk hd2 hk2 => ?_
  · obtain ⟨k, e1, e2⟩ := keys_is (P := X.prog) (w := X.w) rx (i := i) (u := key) (by have := hr.1; rwa [List.getElem?_toArray] at this)
    have e3 : ys'[i]? = some v := by have := hr.2; rwa [List.getElem?_toArray] at this
    exact ⟨k, by rw [List.getElem?_zip_eq_some]; exact ⟨e1, e3⟩, e2⟩
  · have hd3 : h2.DictOf (mixKind X.prog X.w) (s1.heap.objs.size + 5) (merged [] (ks.zip ys')) := by rw [← hsz]; exact hd2
    have hm3 : (s1.heap.objs.size + 5 == sysModules) = false := beq_eq_false_iff_ne.mpr (Nat.ne_of_gt (Nat.lt_add_right 5 I1.big))
    have hlen : (mergeK [] (ks.zip ys)).length ≤ sizeLine := by
      refine Nat.le_trans (length_mergeK (ks.zip ys) []) ?_
      rw [List.length_nil, Nat.zero_add, List.length_zip, hn, Nat.min_self]
      exact hz2
    have up : ∀ b u, s1.heap.get? b = some u → h2.get? b = some u := fun b u e => hk2 b u (old_off (Heap.lt_size e)) (hk b u e)
    show EP X pins σ Q (.ref h'.objs.size) _
    rw [hsz]
    exact ⟨.ref (s1.heap.objs.size + 5), upd H1 (s1.heap.objs.size + 5) (.dK (mergeK [] (ks.zip ys))), I1.laid (t' := tk) up (Nat.le_add_right _ _) (show ObjOk X.prog X.w _ _ _ (.dK (mergeK [] (ks.zip ys))) from ⟨hlen, hm3, merged [] (ks.zip ys'), KV.merge (zip_kv ry) .nil, hd3⟩), rfl, q _ (I1.hok.fresh (Nat.le_add_right _ _))⟩
def oZip : OA
  | [.d (.tuple ks), .d (.list vs)], R => ∃ (fs : List Str) (ns : List Int), ks = fs.map PyData.str ∧ vs = ns.map PyData.int ∧ fs.length = ns.length ∧ fs.Nodup ∧ R (.dk (fs.zip ns))
  | _, _ => False
def ZipK (xs : List Vx) (R : Vx → Prop) (_ : Box R) : Prop := oZip xs R
theorem zip_keyed : ∀ (fs : List Str) (ns : List Int), (fs.map (Sum.inr : Str → Key)).zip (ns.map V.int) = (fs.zip ns).map keyed
  | [], _ => by rw [List.map_nil, List.zip_nil_left]; rfl
  | _ :: _, [] => by rw [List.map_nil, List.zip_nil_right, List.zip_nil_right]; rfl
  | f :: fs, n :: ns => by rw [List.map_cons, List.map_cons, List.zip_cons_cons, List.zip_cons_cons, List.map_cons, zip_keyed fs ns]; rfl
theorem snd_dictZip {K : PySem.W.Frag} {ta : TA} {wa : WA} (h : SndA ta wa) : SndE (tDictZip K ta) (fun Γ R => wa Γ fun xs => ZipK xs R ⟨⟩) := ⟨fun z σ H Γ R Q r w k => h.run z σ H Γ _ _ r w fun vs xs H2 e2 hs w2 => by
  unfold ZipK oZip at w2
  split at w2
  · obtain ⟨fs, ns, rfl, rfl, hn, nd, rr⟩ := w2
    obtain ⟨v, w, rfl, h1, h2⟩ := dv2 hs
    cases h1 with
    | tup a1 a2 a3 a4 =>
      cases h2 with
      | lst b1 b2 b3 b4 =>
        obtain ⟨e3, e4⟩ := DtAll.strs_eq a4
        have e5 := DtAll.ints_eq b4
        subst e3 e5
        refine ⟨_, _, fs.map Sum.inr, ns.map V.int, rfl, ?_, .inl (.inl b2), by rw [List.length_map, List.length_map, hn], fun p hp => ?_⟩
        · rw [List.map_map]; exact .inl (.inl a2)
        have m1 : (fs.zip ns).map (·.1) = fs := List.map_fst_zip (by omega)
        have := merge_new (fs.zip ns) [] (by rw [List.nil_append, m1]; exact nd)
        rw [List.nil_append] at this
        refine k _ (.dk (fs.zip ns)) _ (e2.trans (.new hp)) ⟨p, rfl, (r.al.up e2).ne hp, ?_, fun q hq => ?_⟩ rr
        · rw [upd_same, zip_keyed]
          exact congrArg (fun l => some (HO.dK l)) this
        · have hm : q.1 ∈ fs := by rw [← m1]; exact List.mem_map.mpr ⟨q, hq, rfl⟩
          have := e4 q.1 hm
          rw [r.n] at this
          exact this
  · exact w2.elim⟩
theorem ss_par3 {i j k : Nat} {ta : TA} {wm : WM} (hij : i ≠ j) (hik : i ≠ k) (hjk : j ≠ k) (h : SndM ta wm) : SndS (tPar3 i j k ta) (wTri i j k wm) := ⟨fun f z σ H Γ D P r d w => h.run f z σ H Γ [] [] _ _ rfl r w fun vs ss z' H2 hl r' w' => by
  unfold wTri at w
  split at w'
  · rename_i s t u
    obtain ⟨a, b, c, rfl⟩ := len3 hl
    refine ⟨a, b, c, rfl, d.nx z' _ H2 _ ?_ w'⟩
    have r1 : Rs f z' (some b :: some a :: σ.set k (some c)) _ (t :: s :: Γ.set k u) := Rs.move (k := k + 2) (o := some c) (s := u) (σ := some b :: some a :: σ) (Γ := t :: s :: Γ) r'
    have r2 : Rs f z' (some a :: (σ.set k (some c)).set j (some b)) _ (s :: (Γ.set k u).set j t) := Rs.move (k := j + 1) r1
    have r3 := Rs.move (k := i) r2
    rw [List.set_comm _ _ (Ne.symm hjk), List.set_comm _ _ (Ne.symm hjk), List.set_comm _ _ (Ne.symm hik), List.set_comm _ _ (Ne.symm hik), List.set_comm _ _ (Ne.symm hij), List.set_comm _ _ (Ne.symm hij)] at r3
    exact r3
  · exact w'.elim⟩
end Dm
namespace Pb
open PySem L2
def topS (i : Nat) : Stmt := PySem.Challenge.pw_paidback_k10_orders_told_back.main.body.getD i (.Pass ⟨0, 0, 0, 0⟩)
structure Bt (mg : Str → Option Value) (k0 k1 k2 : Tok) : Prop where
  b_all : mg "all" = none
  b_bool : mg "bool" = none
  b_dict : mg "dict" = none
  b_enumerate : mg "enumerate" = none
  b_int : mg "int" = none
  b_isinstance : mg "isinstance" = none
  b_len : mg "len" = none
  b_max : mg "max" = none
  b_min : mg "min" = none
  b_range : mg "range" = none
  b_set : mg "set" = none
  b_sorted : mg "sorted" = none
  b_str : mg "str" = none
  b_tuple : mg "tuple" = none
  b_zip : mg "zip" = none
  c_MOST_CENTS : mg "MOST_CENTS" = some (.int (1000000000000000000) k0)
  c_MOST_LETTERS : mg "MOST_LETTERS" = some (.int (8) k1)
  c_MOST_KNOWN : mg "MOST_KNOWN" = some (.int (8) k2)
structure Df (K : PySem.W.Frag) (mg : Str → Option Value) (x : Str) (st : Stmt) (ps : List Str) (f : Addr) (fd : FuncData) : Prop where
  F : Fun K x x st f fd
  b : Binds K fd ps []
  g : mg x = some (.ref f)
def withinD (l m : Int) : PyData → Bool
  | .int i => decide (l ≤ i) && decide (i ≤ m)
  | _ => false
def spWithin : Sp := fun vs H Q _ => ∃ (z : Fz) (v : V) (d : PyData) (l m : Int), vs = [v, .int l, .int m] ∧ AlS z H ∧ Dt z H v d ∧ ∀ H', ExB z.p H H' → Q (.bl (withinD l m d)) H'
def spOne (f : PyData → Bool) : Sp := fun vs H Q _ => ∃ (z : Fz) (v : V) (d : PyData), vs = [v] ∧ z.n ≤ 100000 ∧ AlS z H ∧ Dt z H v d ∧ ∀ H', ExB z.p H H' → Q (.bl (f d)) H'
theorem yb_one {z : Fz} {ta : TE} {σ : L2.St} {H : Hp} {f : PyData → Bool} {d : PyData} {E : XK} (h : Yl z ta σ H (· = d)) (hn : z.n ≤ 100000) : YB z (tCall (spOne f) [] E (tCons ta tNil)) σ H (· = f d) := fun H1 e a Q q =>
  h H1 e a _ fun v d' H2 e2 hd hr => ⟨z, v, d, rfl, hn, a.up e2, by rw [← hr]; exact hd, fun H3 e3 => q _ H3 (e2.trans e3) rfl⟩
section
variable {P : Program} {w : World} {K : PySem.W.Frag} {mg : Str → Option Value} {base : Heap} {k0 k1 k2 : Tok}
abbrev s_is_whole_within : Stmt := topS 3
abbrev N_is_whole_within : List Str := ["thing", "least", "most"]
theorem sc_is_whole_within : FnScope N_is_whole_within ["thing", "least", "most"] (defScope s_is_whole_within) := ⟨rfl, rfl, rfl, by decide +kernel, rfl, by decide +kernel, by decide +kernel⟩
theorem ok_is_whole_within {f_is_whole_within : Addr} {fd_is_whole_within : FuncData} (D_is_whole_within : Df K mg "is_whole_within" s_is_whole_within ["thing", "least", "most"] f_is_whole_within fd_is_whole_within) (T : Bt mg k0 k1 k2) : FnOk P w K mg base CX0 1 f_is_whole_within fd_is_whole_within ["thing", "least", "most"] spWithin := by
  refine D_is_whole_within.F.ok sc_is_whole_within (fun vs H Q E h => ?_) (fun cdv A outer s H vs Q E hr h => ?_)
  · obtain ⟨z, v, d, l, m, rfl, _⟩ := h
    rfl
  obtain ⟨z, v, d, l, m, rfl, al, hd, q⟩ := h
  refine ⟨_, (pss_one (ps_ret (pe_and (pe_callB call_isi (by rfl) T.b_isinstance (by decide +kernel) (pa_cons (pv 0) (pa_cons (pe_bltn (v := .ty "int") (by rfl) T.b_int (by decide +kernel) rfl) pa_nil))) (pe_and (pe_not (pe_callB call_isi (by rfl) T.b_isinstance (by decide +kernel) (pa_cons (pv 0) (pa_cons (pe_bltn (v := .ty "bool") (by rfl) T.b_bool (by decide +kernel) rfl) pa_nil)))) (pe_one (pe_chain op_le op_le (pv 1) (pv 0) (pv 2))))))), ?_⟩
  refine y_retB (P := (· = (isiD "int" d && (!isiD "bool" d && withinD l m d)))) al ?_ fun b H1 e hb => ?_
  · refine yb_and (yb_isi okT_int (yl_var rfl hd)) fun e1 => yb_and (yb_not (yb_isi okT_bool (yl_var rfl hd))) fun e2 => ?_
    rw [isi_int] at e1
    rw [isi_bool] at e2
    cases hd with
    | int i => exact yb_chain (yi_var rfl) (yi_var rfl) (yi_var rfl)
    | bl b => cases e2
    | non => cases e1
    | str _ _ => cases e1
    | lst _ _ _ _ => cases e1
    | tup _ _ _ _ => cases e1
  · have : b = withinD l m d := by
      rw [hb, isi_int, isi_bool]
      cases d <;> simp [isI, isB, withinD]
    rw [this]
    exact q H1 e
abbrev s_is_cents : Stmt := topS 4
abbrev N_is_cents : List Str := ["thing"]
theorem sc_is_cents : FnScope N_is_cents ["thing"] (defScope s_is_cents) := ⟨rfl, rfl, rfl, by decide +kernel, rfl, by decide +kernel, by decide +kernel⟩
theorem ok_is_cents {f_is_cents : Addr} {fd_is_cents : FuncData} (D_is_cents : Df K mg "is_cents" s_is_cents ["thing"] f_is_cents fd_is_cents) {f_is_whole_within : Addr} {fd_is_whole_within : FuncData} (D_is_whole_within : Df K mg "is_whole_within" s_is_whole_within ["thing", "least", "most"] f_is_whole_within fd_is_whole_within) (G_is_whole_within : FnOk P w K mg base CX0 1 f_is_whole_within fd_is_whole_within ["thing", "least", "most"] spWithin) (T : Bt mg k0 k1 k2) : FnOk P w K mg base CX0 2 f_is_cents fd_is_cents ["thing"] (spOne (withinD 0 1000000000000000000)) := by
  refine D_is_cents.F.ok sc_is_cents (fun vs H Q E h => ?_) (fun cdv A outer s H vs Q E hr h => ?_)
  · obtain ⟨z, v, d, rfl, _⟩ := h
    rfl
  obtain ⟨z, v, d, rfl, hn, al, hd, q⟩ := h
  refine ⟨_, (pss_one (ps_ret (pe_call G_is_whole_within (hr.mono (by omega)) (by rfl) D_is_whole_within.g D_is_whole_within.F.kp D_is_whole_within.b .nil pass0 (pa_cons (pv 0) (pa_cons pe_int (pa_cons (pe_glob (v := .int (1000000000000000000)) (by rfl) T.c_MOST_CENTS ⟨_, rfl⟩) pa_nil)))))), ?_⟩
  exact ⟨v, rfl, z, v, d, 0, 1000000000000000000, rfl, al, hd, fun H1 e => q H1 e⟩
def chr1 (c : Nat) : Bool := decide (97 ≤ c) && decide (c ≤ 122)
def isNameS (x : Str) : Bool := (decide (1 ≤ x.length) && decide (x.length ≤ 8)) && x.cps.toList.all chr1
def isNameD : PyData → Bool
  | .str x => isNameS x
  | _ => false
def leS : R2 := fun x y H Q => ∃ i j, x = .str i ∧ y = .str j ∧ Q (.bl (!decide (j.cps.toList < i.cps.toList))) H
theorem sing_lt (a b : Nat) : decide ([a] < [b]) = decide (a < b) := by
  by_cases h : a < b
  · rw [decide_eq_true h]
    exact decide_eq_true (List.Lex.rel h)
  · rw [decide_eq_false h]
    refine decide_eq_false fun q => ?_
    cases q with
    | rel r => exact h r
    | cons r => cases r
theorem yb_between {z : Fz} {σ : L2.St} {H : Hp} {i c : Nat} (h : σ[i]? = some (some (.str ⟨#[c]⟩))) : YB z (tChain leS leS (tC (.str "a")) (tVar i) (tC (.str "z"))) σ H (· = chr1 c) := fun H1 e a Q q => by
  refine ⟨_, h, "a", ⟨#[c]⟩, rfl, rfl, _, rfl, ?_⟩
  have e1 : (!decide ((⟨#[c]⟩ : Str).cps.toList < (Str.ofString "a").cps.toList)) = decide (97 ≤ c) := by
    show (!decide ([c] < [97])) = _
    rw [sing_lt]
    by_cases h : c < 97
    · rw [decide_eq_true h, decide_eq_false (by omega)]; rfl
    · rw [decide_eq_false h, decide_eq_true (by omega)]; rfl
  have e2 : (!decide ((Str.ofString "z").cps.toList < (⟨#[c]⟩ : Str).cps.toList)) = decide (c ≤ 122) := by
    show (!decide ([122] < [c])) = _
    rw [sing_lt]
    by_cases h : 122 < c
    · rw [decide_eq_true h, decide_eq_false (by omega)]; rfl
    · rw [decide_eq_false h, decide_eq_true (by omega)]; rfl
  rw [e1]
  by_cases h1 : 97 ≤ c
  · rw [if_pos (decide_eq_true h1)]
    refine ⟨⟨#[c]⟩, "z", rfl, rfl, ?_⟩
    rw [e2]
    exact q _ H1 (.refl _ H1) (by unfold chr1; rw [decide_eq_true h1]; rfl)
  · rw [if_neg (by rw [decide_eq_false h1]; exact Bool.false_ne_true)]
    exact q _ H1 (.refl _ H1) (by unfold chr1; rw [decide_eq_false h1]; rfl)
abbrev s_is_name : Stmt := topS 5
abbrev N_is_name : List Str := ["thing", "letter"]
theorem sc_is_name : FnScope N_is_name ["thing"] (defScope s_is_name) := ⟨rfl, rfl, rfl, by decide +kernel, rfl, by decide +kernel, by decide +kernel⟩
theorem ok_is_name {f_is_name : Addr} {fd_is_name : FuncData} (D_is_name : Df K mg "is_name" s_is_name ["thing"] f_is_name fd_is_name) (T : Bt mg k0 k1 k2) : FnOk P w K mg base CX0 1 f_is_name fd_is_name ["thing"] (spOne isNameD) := by
  refine D_is_name.F.ok sc_is_name (fun vs H Q E h => ?_) (fun cdv A outer s H vs Q E hr h => ?_)
  · obtain ⟨z, v, d, rfl, _⟩ := h
    rfl
  obtain ⟨z, v, d, rfl, hn, al, hd, q⟩ := h
  have hz : z.n ≤ sizeLine := Nat.le_trans hn (by decide)
  refine ⟨_, (pss_cons (ps_if (PW.pt (pw_or (pt_not (pt_val (pe_callB call_isi (by rfl) T.b_isinstance (by decide +kernel) (pa_cons (pv 0) (pa_cons (pe_bltn (v := .ty "str") (by rfl) T.b_str (by decide +kernel) rfl) pa_nil))))) (pw_or1 (pt_not (pt_chain op_le op_le pe_int (pe_callB call_len_str (by rfl) T.b_len (by decide +kernel) (pa_cons (pv 0) pa_nil)) (pe_glob (v := .int (8)) (by rfl) T.c_MOST_LETTERS ⟨_, rfl⟩))))))
  (pss_one (ps_ret pe_bl))
  pss_nil)
  (pss_one (ps_ret (pe_callB (cr_all rfl) (by rfl) T.b_all (by decide +kernel) (pa_cons (pe_lc (own := [("letter", 1)]) (g := gName 1) (by rfl) sc_is_name.nd (pi_str (pv 0)) (blkOk_by (own := [("letter", 1)]) (N := N_is_name) (sc := defScope s_is_name) (by decide +kernel)) (fun _ _ _ _ _ => pg_name (i := 1) sc_is_name.nd rfl (Or.inl rfl)) (fun _ _ _ _ _ => pts_nil) (fun _ _ _ _ _ => (pe_chain op_le_str op_le_str pe_str (pv 1) pe_str))) pa_nil))))), ?_⟩
  by_cases hs : isS d = true
  · obtain ⟨x, rfl⟩ : ∃ x, d = .str x := by cases d <;> first | exact ⟨_, rfl⟩ | cases hs
    refine y_when (b := !(decide ((1 : Int) ≤ x.length) && decide ((x.length : Int) ≤ 8))) al ?_ (fun e H1 e1 => ?_) fun e H1 e1 => ?_
    · have h0 : YT z _ _ H (· = !true) := yt_not (b := true) (t := tB _) (yt_val (by have := yb_isi (K := K) okT_str (yl_var (i := 0) (σ := start N_is_name [v]) rfl hd); rw [isi_str] at this; exact this))
      exact (yt_or h0 fun _ => yt_not (yt_test (yb_chain yi_c (yi_lenS (yl_var rfl hd) hz) yi_c)))
    · have e0 : isNameD (.str x) = false := by
        show isNameS x = false
        unfold isNameS
        simp only [Bool.not_eq_true', Bool.and_eq_false_iff, decide_eq_false_iff_not] at e ⊢
        exact .inl (by omega)
      have g := q H1 e1
      rw [e0] at g
      exact g
    · dsimp only
      refine y_retB (P := (· = (x.cps.toList.map chr1).all id)) (al.up e1) (yb_all ?_) fun b H2 e2 hb => ?_
      · refine Yl.imp (yl_lcS (fun i d => ∃ c, x.cps[i]? = some c ∧ d = .bool (chr1 c)) (yl_var rfl (hd.mono e1)) hz (fun _ => rfl) fun i c L H0 H1 _ _ _ hc => Yl.imp (YB.l (yb_between rfl)) fun d ⟨b, h1, h2⟩ => ⟨c, hc, by rw [h1, h2]⟩) fun d ⟨es, h1, h2, h3⟩ => ?_
        rw [h1, List.map_map]
        refine congrArg PyData.list (map_of (by rw [h2, Array.length_toList]) fun j e he d hd => ?_)
        obtain ⟨c, g1, g2⟩ := h3 j e he
        rw [Array.getElem?_toList, g1] at hd
        cases hd
        exact g2
      · have e0 : b = isNameD (.str x) := by
          rw [hb]
          show _ = isNameS x
          unfold isNameS
          simp only [Bool.not_eq_false', Bool.and_eq_true, decide_eq_true_eq] at e
          rw [decide_eq_true (show 1 ≤ x.length by omega), decide_eq_true (show x.length ≤ 8 by omega), List.all_map]
          rfl
        rw [e0]
        exact q H2 (e1.trans e2)
  · have hs : isS d = false := by simpa using hs
    refine y_if (b := true) al ?_ (fun e H1 e1 => ?_) fun e H1 e1 => by cases e
    · have h0 : YT z _ _ H (· = !false) := yt_not (b := false) (t := tB _) (yt_val (by have := yb_isi (K := K) okT_str (yl_var (i := 0) (σ := start N_is_name [v]) rfl hd); rw [isi_str, hs] at this; exact this))
      exact yt_or (c := false) h0 fun q => by cases q
    · have e0 : isNameD d = false := by cases d <;> first | rfl | cases hs
      have g := q H1 e1
      rw [e0] at g
      exact g
def isPairD : PyData → Bool
  | .tuple [_, _] => true
  | _ => false
abbrev s_is_pair : Stmt := topS 6
abbrev N_is_pair : List Str := ["thing"]
theorem sc_is_pair : FnScope N_is_pair ["thing"] (defScope s_is_pair) := ⟨rfl, rfl, rfl, by decide +kernel, rfl, by decide +kernel, by decide +kernel⟩
theorem ok_is_pair {f_is_pair : Addr} {fd_is_pair : FuncData} (D_is_pair : Df K mg "is_pair" s_is_pair ["thing"] f_is_pair fd_is_pair) (T : Bt mg k0 k1 k2) : FnOk P w K mg base CX0 1 f_is_pair fd_is_pair ["thing"] (spOne isPairD) := by
  refine D_is_pair.F.ok sc_is_pair (fun vs H Q E h => ?_) (fun cdv A outer s H vs Q E hr h => ?_)
  · obtain ⟨z, v, d, rfl, _⟩ := h
    rfl
  obtain ⟨z, v, d, rfl, hn, al, hd, q⟩ := h
  refine ⟨_, (pss_one (ps_ret (pe_and (pe_callB call_isi (by rfl) T.b_isinstance (by decide +kernel) (pa_cons (pv 0) (pa_cons (pe_bltn (v := .ty "tuple") (by rfl) T.b_tuple (by decide +kernel) rfl) pa_nil))) (pe_one (pe_cmpR op_eq (pe_callB call_len_seq (by rfl) T.b_len (by decide +kernel) (pa_cons (pv 0) pa_nil)) pe_int (nomark _)))))), ?_⟩
  refine y_retB (P := (· = (isiD "tuple" d && decide (lenD d = 2)))) al ?_ fun b H1 e hb => ?_
  · refine yb_and (yb_isi okT_tuple (yl_var rfl hd)) fun e1 => ?_
    rw [isi_tuple] at e1
    obtain ⟨ds, rfl⟩ : ∃ ds, d = .tuple ds := by cases d <;> first | exact ⟨_, rfl⟩ | cases e1
    refine (yb_eqI (yi_lenT (yl_var rfl hd)) yi_c).imp fun b e => ?_
    rw [e]
    show decide ((ds.length : Int) = 2) = decide (ds.length = 2)
    by_cases h : ds.length = 2
    · rw [decide_eq_true h, decide_eq_true (by omega)]
    · rw [decide_eq_false h, decide_eq_false (by omega)]
  · have e0 : b = isPairD d := by
      rw [hb, isi_tuple]
      cases d with
      | tuple ds =>
        match ds with
        | [] => rfl
        | [_] => rfl
        | [_, _] => rfl
        | _ :: _ :: _ :: _ => rfl
      | _ => rfl
    rw [e0]
    exact q H1 e
def strsOf : List PyData → List Str
  | [] => []
  | .str x :: r => x :: strsOf r
  | _ :: r => strsOf r
theorem strsOf_map : ∀ {ds : List PyData}, ds.all isNameD = true → ds = (strsOf ds).map PyData.str
  | [], _ => rfl
  | .str x :: r, h => by
    rw [List.all_cons, Bool.and_eq_true] at h
    show _ = PyData.str x :: (strsOf r).map PyData.str
    rw [← strsOf_map h.2]
  | .none :: r, h => by simp [isNameD] at h
  | .bool _ :: r, h => by simp [isNameD] at h
  | .int _ :: r, h => by simp [isNameD] at h
  | .list _ :: r, h => by simp [isNameD] at h
  | .tuple _ :: r, h => by simp [isNameD] at h
  | .dict _ :: r, h => by simp [isNameD] at h
/-- len(set(names)) == len(names) -/
def uniqD (ds : List PyData) : Bool := decide (cntN (strsOf ds) (strsOf ds).length = ds.length)
def isFolkD : PyData → Bool
  | .tuple ds => decide (ds.length ≤ 40) && (ds.all isNameD && uniqD ds)
  | _ => false
theorem yb_uniq {z : Fz} {ta tb : TE} {σ : L2.St} {H : Hp} {K : PySem.W.Frag} {ds : List PyData} (h : Yl z ta σ H (· = .tuple ds)) (hb : Yl z tb σ H (· = .tuple ds)) (hl : ds.length ≤ 40) (ha : ds.all isNameD = true) :
    YB z (tOp rEq (tLenSetS K ta) (tCB (fun xs H Q => ∃ p ys, xs = [.ref p] ∧ (SqL K H p ys ∨ SqT K H p ys) ∧ Q (.int (ys.length : Int)) H) (tCons tb tNil))) σ H (· = uniqD ds) := by
  have hm := strsOf_map ha
  have h1 : YI z (tLenSetS K ta) σ H (· = (cntN (strsOf ds) (strsOf ds).length : Nat)) := fun H1 e a Q q => h H1 e a _ fun v d H2 e2 hd hr => by
    subst hr
    cases hd with
    | tup d1 d2 d3 d4 =>
      rw [hm] at d4
      obtain ⟨g1, _⟩ := d4.strs_eq
      rw [g1] at d2
      refine ⟨_, strsOf ds, rfl, .inl (.inl d2), ?_, q _ H2 e2 rfl⟩
      have : ds.length = (strsOf ds).length := by
        have := congrArg List.length hm
        rw [List.length_map] at this
        exact this
      omega
  refine (yb_eqI h1 (yi_lenT hb)).imp fun b e => ?_
  rw [e]
  unfold uniqD
  by_cases h : cntN (strsOf ds) (strsOf ds).length = ds.length
  · rw [decide_eq_true h, decide_eq_true (by omega)]
  · rw [decide_eq_false h, decide_eq_false (by omega)]
end
theorem y_unpack2 {z : Fz} {σ : L2.St} {H : Hp} {K : PySem.W.Frag} {D : Ends} {i j l : Nat} {v : V} {d1 d2 : PyData} (h : σ[i]? = some (some v)) (hd : Dt z H v (.tuple [d1, d2])) (k : ∀ v1 v2, Dt z H v1 d1 → Dt z H v2 d2 → D.nx ((σ.set j (some v1)).set l (some v2)) H) :
    tAsg (tVar i) (gTup K 2 (gCons (gName j) (gCons (gName l) gNil))) D σ H := by
  cases hd with
  | tup a b c t =>
    cases t with
    | cons t1 t2 =>
      cases t2 with
      | cons t2 t3 =>
        cases t3
        exact ⟨_, h, _, _, rfl, .inl (.inl b), rfl, _, _, rfl, _, _, rfl, rfl, k _ _ t1 t2⟩
def isStateD : PyData → Bool
  | .tuple [.int i, .tuple fs] => ((decide (0 ≤ i) && decide (i ≤ 1000000000000000000)) && isFolkD (.tuple fs)) && (decide (i = 0) || decide (0 < fs.length))
  | _ => false
section
variable {P : Program} {w : World} {K : PySem.W.Frag} {mg : Str → Option Value} {base : Heap} {k0 k1 k2 : Tok}
end
end Pb
namespace Pb
open PySem L2
section
variable {P : Program} {w : World} {K : PySem.W.Frag} {mg : Str → Option Value} {base : Heap} {k0 k1 k2 : Tok}
/-! ### a cell of the script, or 0 -/
def spCell (K : PySem.W.Frag) : Sp := fun vs H Q _ => ∃ (a : Addr) (ns : List Int) (k : Nat), vs = [.ref a, .int (k : Int)] ∧ SqL K H a (ns.map V.int) ∧ ∀ c, Q (.int c) H
abbrev s__law_cell_at : Stmt := topS 35
abbrev N__law_cell_at : List Str := ["script", "k"]
theorem sc__law_cell_at : FnScope N__law_cell_at ["script", "k"] (defScope s__law_cell_at) := ⟨rfl, rfl, rfl, by decide +kernel, rfl, by decide +kernel, by decide +kernel⟩
theorem ok__law_cell_at {f__law_cell_at : Addr} {fd__law_cell_at : FuncData} (D__law_cell_at : Df K mg "_law_cell_at" s__law_cell_at ["script", "k"] f__law_cell_at fd__law_cell_at) (T : Bt mg k0 k1 k2) : FnOk P w K mg base CX0 1 f__law_cell_at fd__law_cell_at ["script", "k"] (spCell K) := by
  refine D__law_cell_at.F.ok sc__law_cell_at (fun vs H Q E h => ?_) (fun cdv A outer s H vs Q E hr h => ?_)
  · obtain ⟨a, ns, k, rfl, _⟩ := h
    rfl
  obtain ⟨a, ns, k, rfl, hS, q⟩ := h
  refine ⟨_, (pss_cons (ps_if (pt_cmpR op_lt (pv 1) (pe_callB call_len_seq (by rfl) T.b_len (by decide +kernel) (pa_cons (pv 0) pa_nil)) (nomark _))
  (pss_one (ps_ret (pe_ix ix_list (pv 0) (pv 1) (fun _ _ => rfl))))
  pss_nil)
  (pss_one (ps_ret pe_int))), ?_⟩
  refine ⟨_, rfl, _, rfl, a, _, rfl, .inl hS, _, _, rfl, rfl, _, rfl, ite2 (fun h => ?_) fun h => q 0⟩
  have hk : k < ns.length := by
    have h := of_decide_eq_true h
    rw [List.length_map] at h
    omega
  refine ⟨_, rfl, _, rfl, a, _, _, .int ns[k], rfl, rfl, hS, atI_nat (j := k) ?_, q _⟩
  rw [List.getElem?_map, List.getElem?_eq_getElem hk]
  rfl
/-! ### the draws of a cell -/
def spDraws : Sp := fun vs H Q _ => ∃ c : Int, vs = [.int c, .int 400, .int 1000] ∧ ∀ (o : Addr) (xs : List Int) (H' : Hp), Same H H' → H o = none → xs.length = 400 → H' o = some (.lst (xs.map V.int)) → Q (.ref o) H'
theorem snoc_int (xs : List Int) (y : Int) : xs.map V.int ++ [.int y] = (xs ++ [y]).map V.int := by rw [List.map_append]; rfl
abbrev s__law_draws : Stmt := topS 36
abbrev N__law_draws : List Str := ["cell", "many", "size", "found", "rest", "stirred", "k"]
theorem sc__law_draws : FnScope N__law_draws ["cell", "many", "size"] (defScope s__law_draws) := ⟨rfl, rfl, rfl, by decide +kernel, rfl, by decide +kernel, by decide +kernel⟩
theorem ok__law_draws {f__law_draws : Addr} {fd__law_draws : FuncData} (D__law_draws : Df K mg "_law_draws" s__law_draws ["cell", "many", "size"] f__law_draws fd__law_draws) (T : Bt mg k0 k1 k2) : FnOk P w K mg base CX0 1 f__law_draws fd__law_draws ["cell", "many", "size"] spDraws := by
  refine D__law_draws.F.ok sc__law_draws (fun vs H Q E h => ?_) (fun cdv A outer s H vs Q E hr h => ?_)
  · obtain ⟨c, rfl, _⟩ := h
    rfl
  obtain ⟨c, rfl, q⟩ := h
  refine ⟨_, (pss_cons (ps_set (i := 3) sc__law_draws.nd rfl (Or.inl rfl) (pe_lst pa_nil))
  (pss_cons (ps_set (i := 4) sc__law_draws.nd rfl (Or.inl rfl) (pe_op op_mul (pv 0) (pe_callTy call_int1 (by rfl) T.b_int (by decide +kernel) (pa_cons (pe_cmpR op_ge (pv 0) (pe_op op_pow pe_int pe_int) (nomark _)) pa_nil))))
  (pss_cons (ps_set (i := 5) sc__law_draws.nd rfl (Or.inl rfl) (pe_op op_mod (pv 0) pe_int))
  (pss_cons (ps_for PassesOwn.never rfl (pi_range1 (by rfl) T.b_range (pa_cons (pe_op op_add (pv 1) pe_int) pa_nil)) (pg_name (i := 6) sc__law_draws.nd rfl (Or.inl rfl))
  (pss_cons (ps_set (i := 5) sc__law_draws.nd rfl (Or.inl rfl) (pe_op op_mod (pe_op op_add (pe_op op_add (pe_op op_add (pe_op op_mul (pv 5) (pv 5)) (pe_op op_mul pe_int (pv 5))) (pv 6)) pe_int) pe_int))
  (pss_one (ps_if (PW.pt (pw_and (pt_cmpR op_gt (pv 6) pe_int (nomark _)) (pw_and1 (pt_cmpR op_gt (pv 4) pe_int (nomark _)))))
  (pss_cons (ps_expr (pe_bm PySem.F.plainAttrs_list PySem.F.slot_list_append PySem.F.type_list_append mt_append (pv 3) (pa_cons (pe_op op_mod (pv 4) (pv 2)) pa_nil)))
  (pss_one (ps_set (i := 4) sc__law_draws.nd rfl (Or.inl rfl) (pe_op op_fdiv (pv 4) (pv 2)))))
  (pss_one (ps_if (pt_cmpR op_gt (pv 6) pe_int (nomark _))
  (pss_one (ps_expr (pe_bm PySem.F.plainAttrs_list PySem.F.slot_list_append PySem.F.type_list_append mt_append (pv 3) (pa_cons (pe_op op_mod (pe_op op_fdiv (pv 5) pe_int) (pv 2)) pa_nil))))
  pss_nil))))))
  (pss_one (ps_ret (pv 3))))))), ?_⟩
  -- found = []
  refine ⟨Nat.zero_le _, fun o no => ?_⟩
  -- rest
  refine ⟨_, rfl, _, rfl, _, _, rfl, rfl, ⟨by decide, by decide, by decide⟩, _, _, rfl, rfl, ?_⟩
  refine .inr ⟨_, rfl, _, _, rfl, rfl, .inr ?_, ?_⟩
  · split <;> exact ⟨by decide, by decide⟩
  -- stirred
  refine ⟨_, rfl, _, _, rfl, rfl, (by show (0 : Int) < 2305843009213693951; decide), ?_⟩
  -- for k in range(many + 3)
  refine ⟨_, rfl, _, _, rfl, rfl, _, rfl, by decide, by decide, for_range (lo := 0) (n := 403) (fun i σ H' => ∃ (r st : Int) (xs : List Int) (y : Option V), σ = [some (.int c), some (.int 400), some (.int 1000), some (.ref o), some (.int r), some (.int st), y] ∧ 0 ≤ st ∧ st < 2305843009213693951 ∧ xs.length = i - 3 ∧ Same H H' ∧ H' o = some (.lst (xs.map V.int)))
    ⟨_, c % 2305843009213693951, [], none, rfl, Int.emod_nonneg _ (by decide), Int.emod_lt_of_pos _ (by decide), rfl, same_new no, upd_same⟩ (fun i σ H' hi hP => ?_) fun σ H' hP => ?_⟩
  · obtain ⟨r, st, xs, y, rfl, s0, s1, hl, sm, ho⟩ := hP
    have b0 : -(2 ^ 64) < st ∧ st < 2 ^ 64 := ⟨by omega, by omega⟩
    -- stirred = ..
    refine ⟨_, rfl, _, rfl, _, _, rfl, rfl, .inl b0, _, rfl, _, _, rfl, rfl, .inl ⟨by decide, by decide⟩, _, _, rfl, rfl, _, rfl, _, _, rfl, rfl, _, _, rfl, rfl, _, _, rfl, rfl, (by show (0 : Int) < 2305843009213693951; decide), ?_⟩
    have t0 : 0 ≤ (st * st + 48271 * st + (0 + (i : Int)) + 1) % 2305843009213693951 := Int.emod_nonneg _ (by decide)
    have t1 : (st * st + 48271 * st + (0 + (i : Int)) + 1) % 2305843009213693951 < 2305843009213693951 := Int.emod_lt_of_pos _ (by decide)
    have sz : (xs.map V.int).length < sizeLine := by rw [List.length_map]; exact small1000 (by omega)
    -- if k > 2 and rest > 0
    refine ⟨_, rfl, _, _, rfl, rfl, _, rfl, ite2 (fun h2 => ?_) fun h2 => ?_⟩
    · have h2 : (2 : Int) < 0 + (i : Int) := of_decide_eq_true h2
      refine ⟨_, rfl, _, _, rfl, rfl, _, rfl, ite2 (fun h3 => ?_) fun h3 => ?_⟩
      · refine ⟨_, rfl, .inl ⟨rfl, _, .inl (.inl ho)⟩, _, rfl, _, rfl, _, _, rfl, rfl, (by show (0 : Int) < 1000; decide), _, _, _, rfl, rfl, ho, sz, ?_⟩
        rw [snoc_int]
        refine ⟨_, rfl, _, rfl, _, _, rfl, rfl, ⟨by decide, by decide⟩, ?_⟩
        exact ⟨_, _, _, _, rfl, t0, t1, by rw [List.length_append, hl]; show _ + 1 = _; omega, same_mut sm no, upd_same⟩
      · refine ⟨_, rfl, _, _, rfl, rfl, _, rfl, ite2 (fun _ => ?_) fun h => absurd (decide_eq_true h2) h⟩
        refine ⟨_, rfl, .inl ⟨rfl, _, .inl (.inl ho)⟩, _, rfl, _, _, rfl, rfl, ⟨by decide, by decide⟩, _, rfl, _, _, rfl, rfl, (by show (0 : Int) < 1000; decide), _, _, _, rfl, rfl, ho, sz, ?_⟩
        rw [snoc_int]
        exact ⟨_, _, _, _, rfl, t0, t1, by rw [List.length_append, hl]; show _ + 1 = _; omega, same_mut sm no, upd_same⟩
    · have h2' : ¬ (2 : Int) < 0 + (i : Int) := fun h => h2 (decide_eq_true h)
      refine iteF ⟨_, rfl, _, _, rfl, rfl, _, rfl, ite2 (fun h => absurd (of_decide_eq_true h) h2') fun _ => ?_⟩
      exact ⟨_, _, xs, _, rfl, t0, t1, by omega, sm, ho⟩
  · obtain ⟨r, st, xs, y, rfl, s0, s1, hl, sm, ho⟩ := hP
    exact ⟨_, rfl, q o xs H' sm no hl ho⟩
/-! ### a bag, bags -/
def spBag (K : PySem.W.Frag) : Sp := fun vs H Q _ => ∃ (a : Addr) (ns : List Int) (k : Nat), vs = [.ref a, .int (k : Int)] ∧ SqL K H a (ns.map V.int) ∧ ∀ (p q : Addr) (H' : Hp), Same H H' → H p = none → BagQ p q H' → Q (.ref p) H'
abbrev s__law_bag : Stmt := topS 37
abbrev N__law_bag : List Str := ["script", "k"]
theorem sc__law_bag : FnScope N__law_bag ["script", "k"] (defScope s__law_bag) := ⟨rfl, rfl, rfl, by decide +kernel, rfl, by decide +kernel, by decide +kernel⟩
theorem ok__law_bag {f__law_bag : Addr} {fd__law_bag : FuncData} (D__law_bag : Df K mg "_law_bag" s__law_bag ["script", "k"] f__law_bag fd__law_bag) {f__law_draws : Addr} {fd__law_draws : FuncData} (D__law_draws : Df K mg "_law_draws" s__law_draws ["cell", "many", "size"] f__law_draws fd__law_draws) {f__law_cell_at : Addr} {fd__law_cell_at : FuncData} (D__law_cell_at : Df K mg "_law_cell_at" s__law_cell_at ["script", "k"] f__law_cell_at fd__law_cell_at) (G__law_draws : FnOk P w K mg base CX0 1 f__law_draws fd__law_draws ["cell", "many", "size"] spDraws) (G__law_cell_at : FnOk P w K mg base CX0 1 f__law_cell_at fd__law_cell_at ["script", "k"] (spCell K)) (T : Bt mg k0 k1 k2) : FnOk P w K mg base CX0 2 f__law_bag fd__law_bag ["script", "k"] (spBag K) := by
  refine D__law_bag.F.ok sc__law_bag (fun vs H Q E h => ?_) (fun cdv A outer s H vs Q E hr h => ?_)
  · obtain ⟨a, ns, k, rfl, _⟩ := h
    rfl
  obtain ⟨a, ns, k, rfl, hS, q⟩ := h
  refine ⟨_, (pss_one (ps_ret (pe_lst (pa_cons (pe_call G__law_draws (hr.mono (by omega)) (by rfl) D__law_draws.g D__law_draws.F.kp D__law_draws.b .nil pass0 (pa_cons (pe_call G__law_cell_at (hr.mono (by omega)) (by rfl) D__law_cell_at.g D__law_cell_at.F.kp D__law_cell_at.b .nil pass0 (pa_cons (pv 0) (pa_cons (pv 1) pa_nil))) (pa_cons pe_int (pa_cons pe_int pa_nil)))) (pa_cons pe_int pa_nil))))), ?_⟩
  refine ⟨_, rfl, _, rfl, a, ns, k, rfl, hS, fun c => ?_⟩
  refine ⟨c, rfl, fun o xs H1 sm no hl ho => ?_⟩
  refine ⟨by show 2 ≤ sizeLine; decide, fun p np => ?_⟩
  refine q p o _ (sm.trans (same_new np)) (sm.free np) ⟨0, xs, ne_of_none ho np, Int.le_refl 0, hl, upd_same, ?_⟩
  rw [upd_ne (ne_of_none ho np)]
  exact ho
/-- the bags stand, apart from one another -/
def Bags (bs : List Addr) (H : Hp) : Prop := bs.Nodup ∧ ∀ b ∈ bs, ∃ q, BagQ b q H
def spBags (K : PySem.W.Frag) : Sp := fun vs H Q _ => ∃ (a : Addr) (ns : List Int) (m : Int), vs = [.ref a, .int m] ∧ SqL K H a (ns.map V.int) ∧ 1 ≤ m ∧ m ≤ 63 ∧ ∀ (l : Addr) (bs : List Addr) (H' : Hp), Same H H' → H' l = some (.lst (bs.map V.ref)) → Bags bs H' → bs.length ≤ 63 → Q (.ref l) H'
theorem bag_same {p q : Addr} {H H' : Hp} (s : Same H H') (h : BagQ p q H) : BagQ p q H' := (ExB.same s).bag q h
theorem bag_upd {p q l : Addr} {H : Hp} {o : HO} (h : BagQ p q H) (n1 : p ≠ l) (n2 : q ≠ l) : BagQ p q (upd H l o) := by
  obtain ⟨k, xs, h1, h2, h3, h4, h5⟩ := h
  exact ⟨k, xs, h1, h2, h3, by rw [upd_ne n1]; exact h4, by rw [upd_ne n2]; exact h5⟩
abbrev s__law_bags : Stmt := topS 38
abbrev N__law_bags : List Str := ["script", "limit", "k"]
theorem sc__law_bags : FnScope N__law_bags ["script", "limit"] (defScope s__law_bags) := ⟨rfl, rfl, rfl, by decide +kernel, rfl, by decide +kernel, by decide +kernel⟩
theorem ok__law_bags {f__law_bags : Addr} {fd__law_bags : FuncData} (D__law_bags : Df K mg "_law_bags" s__law_bags ["script", "limit"] f__law_bags fd__law_bags) {f__law_bag : Addr} {fd__law_bag : FuncData} (D__law_bag : Df K mg "_law_bag" s__law_bag ["script", "k"] f__law_bag fd__law_bag) (G__law_bag : FnOk P w K mg base CX0 2 f__law_bag fd__law_bag ["script", "k"] (spBag K)) (T : Bt mg k0 k1 k2) : FnOk P w K mg base CX0 3 f__law_bags fd__law_bags ["script", "limit"] (spBags K) := by
  refine D__law_bags.F.ok sc__law_bags (fun vs H Q E h => ?_) (fun cdv A outer s H vs Q E hr h => ?_)
  · obtain ⟨a, ns, m, rfl, _⟩ := h
    rfl
  obtain ⟨a, ns, m, rfl, hS, m1, m2, q⟩ := h
  refine ⟨_, (pss_one (ps_ret (pe_lc (own := [("k", 2)]) (g := gName 2) (by rfl) sc__law_bags.nd (pi_range1 (by rfl) T.b_range (pa_cons (pe_callB (call_max2 rfl) (by rfl) T.b_max (by decide +kernel) (pa_cons pe_int (pa_cons (pe_callB (call_min2 rfl) (by rfl) T.b_min (by decide +kernel) (pa_cons (pv 1) (pa_cons (pe_callB call_len_seq (by rfl) T.b_len (by decide +kernel) (pa_cons (pv 0) pa_nil)) pa_nil))) pa_nil))) pa_nil)) (blkOk_by (own := [("k", 2)]) (N := N__law_bags) (sc := defScope s__law_bags) (by decide +kernel)) (fun _ _ _ _ _ => pg_name (i := 2) sc__law_bags.nd rfl (Or.inl rfl)) (fun _ _ _ _ _ => pts_nil) (fun _ _ _ _ _ => (pe_call G__law_bag (hr.mono (by omega)) (by rfl) D__law_bag.g D__law_bag.F.kp D__law_bag.b .nil pass0 (pa_cons (pv 0) (pa_cons (pv 2) pa_nil))))))), ?_⟩
  refine ⟨_, rfl, _, rfl, a, _, rfl, .inl hS, _, _, rfl, _, _, rfl, ?_⟩
  generalize hm : (if (if (((ns.map V.int).length : Nat) : Int) < m then (((ns.map V.int).length : Nat) : Int) else m) > 1 then (if (((ns.map V.int).length : Nat) : Int) < m then (((ns.map V.int).length : Nat) : Int) else m) else 1) = n
  have hn : 1 ≤ n ∧ n ≤ 63 := by
    rw [← hm]
    split <;> split <;> omega
  refine ⟨n, rfl, by omega, by omega, fun l nl => lc_range (lo := 0) (n := n.toNat) (fun i H' => Same H H' ∧ ∃ bs : List Addr, H' l = some (.lst (bs.map V.ref)) ∧ bs.length = i ∧ bs.Nodup ∧ ∀ b ∈ bs, b ≠ l ∧ ∃ q, q ≠ l ∧ BagQ b q H') ⟨same_new nl, [], upd_same, rfl, List.nodup_nil, fun _ h => nomatch h⟩ (fun i H1 hi hP => ?_) fun H1 hP => ?_⟩
  · obtain ⟨sm, bs, h1, h2, h3, h4⟩ := hP
    refine ⟨rfl, tYes_go ?_⟩
    refine iteT ⟨_, rfl, _, rfl, a, ns, i, by rw [Int.zero_add]; rfl, sm.seq hS, fun p qq H2 s2 np bq => ?_⟩
    refine ⟨_, s2 _ _ h1, by rw [List.length_map, h2]; exact small1000 (by omega), same_mut (sm.trans s2) nl, bs ++ [p], ?_, by rw [List.length_append, h2]; rfl, ?_, fun b hb => ?_⟩
    · rw [upd_same, List.map_append]; rfl
    · refine List.nodup_append.mpr ⟨h3, (by simp), fun x hx y hy e => ?_⟩
      obtain ⟨_, q, _, k, xs, _, _, _, g, _⟩ := h4 x hx
      rw [List.mem_singleton.mp hy] at e
      rw [e, np] at g
      cases g
    · rcases List.mem_append.mp hb with hb | hb
      · obtain ⟨n1, q, n2, g⟩ := h4 b hb
        exact ⟨n1, q, n2, bag_upd (bag_same s2 g) n1 n2⟩
      · have e : b = p := List.mem_singleton.mp hb
        subst e
        obtain ⟨k, xs, g1, g2, g3, g4, g5⟩ := id bq
        have n1 : b ≠ l := fun e => by rw [e, h1] at np; cases np
        have n2 : qq ≠ l := fun e => by
          rw [e, s2 _ _ h1] at g5
          have g6 : bs.map V.ref = xs.map V.int := by
            have := Option.some.inj g5
            exact HO.lst.inj this
          have g7 : bs.length = xs.length := by
            have := congrArg List.length g6
            rw [List.length_map, List.length_map] at this
            exact this
          omega
        exact ⟨n1, qq, n2, bag_upd bq n1 n2⟩
  · obtain ⟨sm, bs, h1, h2, h3, h4⟩ := hP
    exact q l bs H1 sm h1 ⟨h3, fun b hb => (h4 b hb).2.elim fun q ⟨_, g⟩ => ⟨q, g⟩⟩ (by omega)
/-! ### what is drawn of a bag -/
def spTake : Sp := fun vs H Q _ => ∃ (p q : Addr) (m : Int), vs = [.ref p, .int m] ∧ 0 < m ∧ BagQ p q H ∧ ∀ r H', ExB p H H' → 0 ≤ r ∧ r < m → Q (.int r) H'
theorem bag_step {p q : Addr} {H : Hp} {k : Int} {xs : List Int} (h1 : q ≠ p) (h2 : 0 ≤ k) (h3 : xs.length = 400) (h4 : H p = some (.lst [.ref q, .int k])) (h5 : H q = some (.lst (xs.map V.int))) : ExB p H (upd H p (.lst [.ref q, .int (k + 1)])) := by
  refine ⟨fun a o na h _ => by rw [upd_ne na]; exact h, fun _ => ⟨_, upd_same, fun _ e => nomatch e⟩, fun q' ⟨k', xs', g1, g2, g3, g4, g5⟩ => ?_, fun a ps na h => ⟨ps, by rw [upd_ne na]; exact h⟩, fun P h => h.ext fun b o q => hid_at.mpr ⟨(hid_at.mp q).1, by rw [upd_ne (hid_at.mp q).1]; exact (hid_at.mp q).2⟩⟩
  rw [h4] at g4
  have e : q = q' := by
    have := HO.lst.inj (Option.some.inj g4)
    injection this with a b
    exact V.ref.inj a
  subst e
  exact ⟨k + 1, xs, h1, by omega, h3, upd_same, by rw [upd_ne h1]; exact h5⟩
abbrev s__law_take : Stmt := topS 39
abbrev N__law_take : List Str := ["bag", "many"]
theorem sc__law_take : FnScope N__law_take ["bag", "many"] (defScope s__law_take) := ⟨rfl, rfl, rfl, by decide +kernel, rfl, by decide +kernel, by decide +kernel⟩
theorem ok__law_take {f__law_take : Addr} {fd__law_take : FuncData} (D__law_take : Df K mg "_law_take" s__law_take ["bag", "many"] f__law_take fd__law_take) (T : Bt mg k0 k1 k2) : FnOk P w K mg base CX0 1 f__law_take fd__law_take ["bag", "many"] spTake := by
  refine D__law_take.F.ok sc__law_take (fun vs H Q E h => ?_) (fun cdv A outer s H vs Q E hr h => ?_)
  · obtain ⟨p, q, m, rfl, _⟩ := h
    rfl
  obtain ⟨p, q, m, rfl, hm, ⟨k, xs, h1, h2, h3, h4, h5⟩, qq⟩ := h
  refine ⟨_, (pss_cons (ps_asg (pe_op op_add (pe_ix ix_list (pv 0) pe_int (fun _ _ => rfl)) pe_int) (pg_sub (pv 0) pe_int set_list))
  (pss_one (ps_ret (pe_op op_mod (pe_ix ix_list (pe_ix ix_list (pv 0) pe_int (fun _ _ => rfl)) (pe_op op_mod (pe_ix ix_list (pv 0) pe_int (fun _ _ => rfl)) (pe_callB call_len_seq (by rfl) T.b_len (by decide +kernel) (pa_cons (pe_ix ix_list (pv 0) pe_int (fun _ _ => rfl)) pa_nil))) (fun _ _ => rfl)) (pv 1))))), ?_⟩
  -- bag[1] = bag[1] + 1
  refine ⟨_, rfl, p, _, 1, .int k, rfl, rfl, .inl (.inl h4), rfl, _, _, rfl, rfl, _, rfl, p, _, 1, 1, rfl, rfl, h4, rfl, ?_⟩
  have e := bag_step h1 h2 h3 h4 h5
  have g4 : upd H p (.lst [.ref q, .int (k + 1)]) p = some (.lst [.ref q, .int (k + 1)]) := upd_same
  have g5 : upd H p (.lst [.ref q, .int (k + 1)]) q = some (.lst (xs.map V.int)) := by rw [upd_ne h1]; exact h5
  have lt : ((k + 1) % 400).toNat < xs.length := by omega
  -- return
  refine ⟨_, rfl, p, _, 0, .ref q, rfl, rfl, .inl (.inl g4), rfl, ?_⟩
  refine ⟨_, rfl, p, _, 1, .int (k + 1), rfl, rfl, .inl (.inl g4), rfl, ?_⟩
  refine ⟨_, rfl, p, _, 0, .ref q, rfl, rfl, .inl (.inl g4), rfl, ?_⟩
  refine ⟨q, _, rfl, .inl (.inl (.inl g5)), _, _, rfl, rfl, ?_, ?_⟩
  · rw [List.length_map, h3]; exact (by decide : (0 : Int) < ((400 : Nat) : Int))
  refine ⟨q, _, _, .int xs[((k + 1) % 400).toNat], rfl, rfl, .inl (.inl g5), ?_, _, rfl, _, _, rfl, rfl, hm, qq _ _ e ⟨Int.emod_nonneg _ (by omega), Int.emod_lt_of_pos _ hm⟩⟩
  rw [List.length_map, h3]
  refine at_of (j := ((k + 1) % 400).toNat) ?_ ?_
  · show (k + 1) % ((400 : Nat) : Int) = _
    omega
  · rw [List.getElem?_map, List.getElem?_eq_getElem lt]
    rfl
theorem yi_take {z : Fz} {tm : TE} {σ : L2.St} {H : Hp} {E : XK} {i : Nat} {q : Addr} {m : Int} (h : σ[i]? = some (some (.ref z.p))) (hq : BagQ z.p q H) (hm : YI z tm σ H (· = m)) (m0 : 0 < m) : YI z (tCall spTake [] E (tCons (tVar i) (tCons tm tNil))) σ H (fun r => 0 ≤ r ∧ r < m) := fun H1 e a Q k =>
  ⟨_, h, hm H1 e a _ fun m' H2 e2 hm' => ⟨z.p, q, m, by rw [hm']; rfl, m0, (e.trans e2).bag q hq, fun r H3 e3 hr => k r H3 (e2.trans e3) hr⟩⟩
end
end Pb
namespace Pb
open PySem L2
section
variable {P : Program} {w : World} {K : PySem.W.Frag} {mg : Str → Option Value} {base : Heap} {k0 k1 k2 : Tok}
theorem bag_al {p q : Addr} {H : Hp} (h : BagQ p q H) : Al p H := by
  obtain ⟨_, _, _, _, _, h4, _⟩ := h
  exact ⟨_, h4, fun _ e => nomatch e⟩
abbrev s__law_far_draw : Stmt := topS 40
abbrev N__law_far_draw : List Str := ["bag", "many", "found", "much"]
theorem sc__law_far_draw : FnScope N__law_far_draw ["bag", "many"] (defScope s__law_far_draw) := ⟨rfl, rfl, rfl, by decide +kernel, rfl, by decide +kernel, by decide +kernel⟩
theorem ok__law_far_draw {f__law_far_draw : Addr} {fd__law_far_draw : FuncData} (D__law_far_draw : Df K mg "_law_far_draw" s__law_far_draw ["bag", "many"] f__law_far_draw fd__law_far_draw) {f__law_take : Addr} {fd__law_take : FuncData} (D__law_take : Df K mg "_law_take" s__law_take ["bag", "many"] f__law_take fd__law_take) (G__law_take : FnOk P w K mg base CX0 1 f__law_take fd__law_take ["bag", "many"] spTake) (T : Bt mg k0 k1 k2) : FnOk P w K mg base CX0 2 f__law_far_draw fd__law_far_draw ["bag", "many"] spTake := by
  refine D__law_far_draw.F.ok sc__law_far_draw (fun vs H Q E h => ?_) (fun cdv A outer s H vs Q E hr h => ?_)
  · obtain ⟨p, q, m, rfl, _⟩ := h
    rfl
  obtain ⟨p, q, m, rfl, hm, bq, qq⟩ := h
  refine ⟨_, (pss_cons (ps_par (i := 2) (j := 3) (by rfl) sc__law_far_draw.nd rfl rfl (by decide) rfl rfl (pa_cons pe_int (pa_cons (pv 1) pa_nil)) (by rfl))
  (pss_cons (ps_while PassesOwn.never (pt_cmpR op_gt (pv 3) pe_int (nomark _))
  (pss_one (ps_par (i := 2) (j := 3) (by rfl) sc__law_far_draw.nd rfl rfl (by decide) rfl rfl (pa_cons (pe_op op_add (pe_op op_mul pe_int (pv 2)) (pe_call G__law_take (hr.mono (by omega)) (by rfl) D__law_take.g D__law_take.F.kp D__law_take.b .nil pass0 (pa_cons (pv 0) (pa_cons pe_int pa_nil)))) (pa_cons (pe_op op_fdiv (pv 3) pe_int) pa_nil)) (by rfl))))
  (pss_one (ps_ret (pe_ix ix_list (pe_lst (pa_cons (pe_op op_mod (pv 2) (pv 1)) (pa_cons pe_int (pa_cons (pe_op op_sub (pv 1) pe_int) (pa_cons (pe_op op_mod (pv 2) (pv 1)) pa_nil))))) (pe_call G__law_take (hr.mono (by omega)) (by rfl) D__law_take.g D__law_take.F.kp D__law_take.b .nil pass0 (pa_cons (pv 0) (pa_cons pe_int pa_nil))) (fun _ _ => rfl)))))), ?_⟩
  refine ⟨_, rfl, _, _, rfl, ?_⟩
  refine ⟨fun n σ H' => ∃ f u : Int, σ = [some (.ref p), some (.int m), some (.int f), some (.int u)] ∧ n = u.toNat ∧ ExB p H H', ⟨_, 0, m, rfl, rfl, .refl p H⟩, fun n σ H' hW => ?_⟩
  obtain ⟨f, u, rfl, rfl, e1⟩ := hW
  refine ⟨_, rfl, _, _, rfl, rfl, _, rfl, ite2 (fun hu => ?_) fun hu => ?_⟩
  · have hu : 0 < u := of_decide_eq_true hu
    refine ⟨fun σ2 H2 => ∃ f : Int, σ2 = [some (.ref p), some (.int m), some (.int f), some (.int (u / 1000))] ∧ ExB p H H2, fun σ2 H2 ⟨f2, h1, h2⟩ => ⟨(u / 1000).toNat, by omega, f2, _, h1, rfl, h2⟩, ?_⟩
    exact ⟨_, rfl, _, _, rfl, rfl, .inl ⟨by decide, by decide⟩, _, rfl, p, q, 1000, rfl, by decide, e1.bag q bq, fun r H3 e3 hr => ⟨_, _, rfl, rfl, _, rfl, _, _, rfl, rfl, ⟨by decide, by decide⟩, _, _, rfl, _, rfl, e1.trans e3⟩⟩
  · refine ⟨_, rfl, _, rfl, _, _, rfl, rfl, hm, _, rfl, _, _, rfl, rfl, _, rfl, _, rfl, _, _, rfl, rfl, hm, by show 4 ≤ sizeLine; decide, fun t nt => ?_⟩
    have e2 : ExB p H (upd H' t (.lst [.int (f % m), .int 0, .int (m - 1), .int (f % m)])) := e1.trans (.new nt)
    refine ⟨_, rfl, p, q, 4, rfl, by decide, e2.bag q bq, fun r H3 e3 hr => ?_⟩
    have nt2 : t ≠ p := al_ne (e1.al (bag_al bq)) nt
    have g := e3.keep t _ nt2 upd_same
    have f0 : 0 ≤ f % m := Int.emod_nonneg _ (by omega)
    have f1 : f % m < m := Int.emod_lt_of_pos _ hm
    have : r = ((0 : Nat) : Int) ∨ r = ((1 : Nat) : Int) ∨ r = ((2 : Nat) : Int) ∨ r = ((3 : Nat) : Int) := by omega
    rcases this with h | h | h | h
    · exact ⟨t, _, r, .int (f % m), rfl, rfl, .inl (.inl g), at_of h rfl, qq _ _ (e2.trans e3) ⟨f0, f1⟩⟩
    · exact ⟨t, _, r, .int 0, rfl, rfl, .inl (.inl g), at_of h rfl, qq _ _ (e2.trans e3) ⟨by omega, by omega⟩⟩
    · exact ⟨t, _, r, .int (m - 1), rfl, rfl, .inl (.inl g), at_of h rfl, qq _ _ (e2.trans e3) ⟨by omega, by omega⟩⟩
    · exact ⟨t, _, r, .int (f % m), rfl, rfl, .inl (.inl g), at_of h rfl, qq _ _ (e2.trans e3) ⟨f0, f1⟩⟩
/-! ### 1 to many, mixed -/
structure Mix (m : Nat) (xs : List Int) : Prop where
  len : xs.length = m
  nd : xs.Nodup
  bd : ∀ x ∈ xs, 1 ≤ x ∧ x ≤ (m : Int)
theorem Mix.ins {m : Nat} {xs : List Int} (h : Mix m xs) (k : Nat) : Mix (m + 1) (xs.take k ++ [((m : Int) + 1)] ++ xs.drop k) := by
  have hp : (xs.take k ++ [((m : Int) + 1)] ++ xs.drop k).Perm (((m : Int) + 1) :: xs) := by
    have h1 : (xs.take k ++ [((m : Int) + 1)] ++ xs.drop k).Perm ([((m : Int) + 1)] ++ xs.take k ++ xs.drop k) := List.Perm.append_right _ List.perm_append_comm
    have h2 : [((m : Int) + 1)] ++ xs.take k ++ xs.drop k = ((m : Int) + 1) :: xs := by rw [List.append_assoc, List.take_append_drop]; rfl
    rw [h2] at h1
    exact h1
  refine ⟨?_, ?_, fun x hx => ?_⟩
  · rw [hp.length_eq, List.length_cons, h.len]
  · refine hp.nodup_iff.mpr (List.nodup_cons.mpr ⟨fun q => ?_, h.nd⟩)
    have := (h.bd _ q).2
    omega
  · rcases List.mem_cons.mp (hp.mem_iff.mp hx) with e | e
    · rw [e]
      exact ⟨by omega, by omega⟩
    · have := h.bd x e
      exact ⟨by omega, by omega⟩
def spMixed : Sp := fun vs H Q _ => ∃ (p q : Addr) (m : Nat), vs = [.ref p, .int (m : Int)] ∧ m ≤ 1000 ∧ BagQ p q H ∧ ∀ t xs H', ExB p H H' → H t = none → H' t = some (.tup (xs.map V.int)) → Mix m xs → Q (.ref t) H'
theorem ins_int (xs : List Int) (k : Nat) (y : Int) : (xs.map V.int).take k ++ [.int y] ++ (xs.map V.int).drop k = (xs.take k ++ [y] ++ xs.drop k).map V.int := by
  rw [List.map_append, List.map_append, List.map_take, List.map_drop]; rfl
abbrev s__law_mixed : Stmt := topS 41
abbrev N__law_mixed : List Str := ["bag", "many", "found", "one"]
theorem sc__law_mixed : FnScope N__law_mixed ["bag", "many"] (defScope s__law_mixed) := ⟨rfl, rfl, rfl, by decide +kernel, rfl, by decide +kernel, by decide +kernel⟩
theorem ok__law_mixed {f__law_mixed : Addr} {fd__law_mixed : FuncData} (D__law_mixed : Df K mg "_law_mixed" s__law_mixed ["bag", "many"] f__law_mixed fd__law_mixed) {f__law_take : Addr} {fd__law_take : FuncData} (D__law_take : Df K mg "_law_take" s__law_take ["bag", "many"] f__law_take fd__law_take) (G__law_take : FnOk P w K mg base CX0 1 f__law_take fd__law_take ["bag", "many"] spTake) (T : Bt mg k0 k1 k2) : FnOk P w K mg base CX0 2 f__law_mixed fd__law_mixed ["bag", "many"] spMixed := by
  refine D__law_mixed.F.ok sc__law_mixed (fun vs H Q E h => ?_) (fun cdv A outer s H vs Q E hr h => ?_)
  · obtain ⟨p, q, m, rfl, _⟩ := h
    rfl
  obtain ⟨p, q, m, rfl, hm, bq, qq⟩ := h
  have al := bag_al bq
  refine ⟨_, (pss_cons (ps_set (i := 2) sc__law_mixed.nd rfl (Or.inl rfl) (pe_lst pa_nil))
  (pss_cons (ps_for PassesOwn.never rfl (pi_range2 (by rfl) T.b_range (pa_cons pe_int (pa_cons (pe_op op_add (pv 1) pe_int) pa_nil))) (pg_name (i := 3) sc__law_mixed.nd rfl (Or.inl rfl))
  (pss_one (ps_expr (pe_bm PySem.F.plainAttrs_list PySem.F.slot_list_insert PySem.F.type_list_insert mt_insert (pv 2) (pa_cons (pe_call G__law_take (hr.mono (by omega)) (by rfl) D__law_take.g D__law_take.F.kp D__law_take.b .nil pass0 (pa_cons (pv 0) (pa_cons (pv 3) pa_nil))) (pa_cons (pv 3) pa_nil))))))
  (pss_one (ps_ret (pe_callTy call_tuple_of (by rfl) T.b_tuple (by decide +kernel) (pa_cons (pv 2) pa_nil)))))), ?_⟩
  refine ⟨Nat.zero_le _, fun o no => ?_⟩
  have no2 : o ≠ p := al_ne al no
  refine ⟨_, rfl, _, _, rfl, rfl, _, _, rfl, ⟨by decide, by decide, by omega, by omega⟩, ?_⟩
  have en : ((m : Int) + 1 - 1).toNat = m := by omega
  rw [en]
  refine for_range (lo := 1) (n := m) (fun i σ H' => ∃ (xs : List Int) (y : Option V), σ = [some (.ref p), some (.int (m : Int)), some (.ref o), y] ∧ Mix i xs ∧ ExB p H H' ∧ H' o = some (.lst (xs.map V.int)))
    ⟨[], none, rfl, ⟨rfl, List.nodup_nil, fun _ h => nomatch h⟩, .new no, upd_same⟩ (fun i σ H' hi hP => ?_) fun σ H' hP => ?_
  · obtain ⟨xs, y, rfl, mx, e1, ho⟩ := hP
    refine ⟨_, rfl, .inl ⟨rfl, _, .inl (.inl ho)⟩, _, rfl, _, rfl, p, q, 1 + (i : Int), rfl, by omega, e1.bag q bq, fun r H2 e2 hr => ?_⟩
    have ho2 := e2.keep o _ no2 ho
    refine ⟨_, rfl, o, _, r, _, rfl, rfl, ho2, by rw [List.length_map, mx.len]; exact small1000 (by omega), hr.1, by omega, ?_⟩
    rw [ins_int]
    have := mx.ins r.toNat
    rw [Int.add_comm] at this
    exact ⟨_, _, rfl, this, (e1.trans e2).mut al no (.lst ho2), upd_same⟩
  · obtain ⟨xs, y, rfl, mx, e1, ho⟩ := hP
    refine ⟨_, rfl, o, _, rfl, .inl ⟨.inl (.inl ho), fun t nt => ?_⟩⟩
    exact qq t xs _ (e1.trans (.new nt)) (e1.free al nt) upd_same mx
end
end Pb
namespace Pb
open PySem L2
/-! ### the names -/
def abc : Str := "abcdefghijklmnopqrstuvwxyz"
def ends (a : Str) : List Str := abc.cps.toList.map fun c => a ++ ⟨#[c]⟩
def names10 : List Str := ["ann", "bo", "cy", "dee", "eli", "fay", "gus", "hal", "ida", "jo"]
def namesL : List Str := names10 ++ ends "x" ++ ends "y"
theorem namesL_nd : namesL.Nodup := by decide +kernel
theorem namesL_len : namesL.length = 62 := by decide +kernel
local macro_rules | `(tactic| walk_at "lit") => `(tactic| first
  | exact ya_nil | exact yl_int | exact yl_bl | exact yl_non
  | exact yl_strK (by decide +kernel) (by assumption)
  | (refine ya_c1 ?_ ?_ <;> walk_at "lit"))
def spNames : Sp := fun vs H Q _ => ∃ (z : Fz) (m : Int), vs = [.int m] ∧ 100 ≤ z.n ∧ z.n ≤ 100000 ∧ AlS z H ∧ 0 ≤ m ∧ ∀ v H', ExB z.p H H' → Dt z H' v (.list ((namesL.take m.toNat).map PyData.str)) → Q v H'
section
variable {P : Program} {w : World} {K : PySem.W.Frag} {mg : Str → Option Value} {base : Heap} {k0 k1 k2 : Tok}
theorem ends_eq (a : Str) {es : List PyData} (h2 : es.length = abc.cps.size) (h3 : ∀ (j : Nat) e, es[j]? = some e → ∃ c, abc.cps[j]? = some c ∧ e = .str (a ++ ⟨#[c]⟩)) : es = (ends a).map PyData.str := by
  unfold ends
  rw [List.map_map]
  refine map_of (by rw [h2, Array.length_toList]) fun j e he d hd => ?_
  obtain ⟨c, g1, g2⟩ := h3 j e he
  rw [Array.getElem?_toList, g1] at hd
  cases hd
  exact g2
theorem abc_lt : ∀ (i c : Nat), abc.cps[i]? = some c → c < 1000 := by
  intro i c h
  have h1 : c ∈ abc.cps.toList := by
    rw [← Array.getElem?_toList] at h
    exact List.mem_of_getElem? h
  have h2 : ∀ x ∈ abc.cps.toList, x < 1000 := by decide +kernel
  exact h2 c h1
theorem app1_ok {a : Str} (ha : a = "x" ∨ a = "y") {i c : Nat} (h : abc.cps[i]? = some c) : (a ++ (⟨#[c]⟩ : Str)).length ≤ 30 ∧ PyData.strOk (a ++ (⟨#[c]⟩ : Str)) = true := by
  have l := abc_lt i c h
  have h1 : c ∈ abc.cps.toList := by
    rw [← Array.getElem?_toList] at h
    exact List.mem_of_getElem? h
  have h2 : ∀ x ∈ abc.cps.toList, (Str.ofString "x" ++ (⟨#[x]⟩ : Str)).length ≤ 30 ∧ PyData.strOk (Str.ofString "x" ++ (⟨#[x]⟩ : Str)) = true := by decide +kernel
  have h3 : ∀ x ∈ abc.cps.toList, (Str.ofString "y" ++ (⟨#[x]⟩ : Str)).length ≤ 30 ∧ PyData.strOk (Str.ofString "y" ++ (⟨#[x]⟩ : Str)) = true := by decide +kernel
  rcases ha with rfl | rfl
  · exact h2 c h1
  · exact h3 c h1
abbrev s__law_names : Stmt := topS 42
abbrev N__law_names : List Str := ["many", "first", "letters", "letter"]
theorem sc__law_names : FnScope N__law_names ["many"] (defScope s__law_names) := ⟨rfl, rfl, rfl, by decide +kernel, rfl, by decide +kernel, by decide +kernel⟩
theorem ok__law_names {f__law_names : Addr} {fd__law_names : FuncData} (D__law_names : Df K mg "_law_names" s__law_names ["many"] f__law_names fd__law_names) (T : Bt mg k0 k1 k2) : FnOk P w K mg base CX0 1 f__law_names fd__law_names ["many"] spNames := by
  refine D__law_names.F.ok sc__law_names (fun vs H Q E h => ?_) (fun cdv A outer s H vs Q E hr h => ?_)
  · obtain ⟨z, m, rfl, _⟩ := h
    rfl
  obtain ⟨z, m, rfl, n1, n2, al, hm, q⟩ := h
  have hz : z.n ≤ sizeLine := Nat.le_trans n2 (by decide)
  have n30 : 30 ≤ z.n := by omega
  refine ⟨_, (pss_cons (ps_set (i := 1) sc__law_names.nd rfl (Or.inl rfl) (pe_lst (pa_cons pe_str (pa_cons pe_str (pa_cons pe_str (pa_cons pe_str (pa_cons pe_str (pa_cons pe_str (pa_cons pe_str (pa_cons pe_str (pa_cons pe_str (pa_cons pe_str pa_nil))))))))))))
  (pss_cons (ps_set (i := 2) sc__law_names.nd rfl (Or.inl rfl) pe_str)
  (pss_one (ps_ret (pe_slice sl_list (pe_op op_cat (pe_op op_cat (pv 1) (pe_lc (own := [("letter", 3)]) (g := gName 3) (by rfl) sc__law_names.nd (pi_str (pv 2)) (blkOk_by (own := [("letter", 3)]) (N := N__law_names) (sc := defScope s__law_names) (by decide +kernel)) (fun _ _ _ _ _ => pg_name (i := 3) sc__law_names.nd rfl (Or.inl rfl)) (fun _ _ _ _ _ => pts_nil) (fun _ _ _ _ _ => (pe_op op_add_str pe_str (pv 3))))) (pe_lc (own := [("letter", 3)]) (g := gName 3) (by rfl) sc__law_names.nd (pi_str (pv 2)) (blkOk_by (own := [("letter", 3)]) (N := N__law_names) (sc := defScope s__law_names) (by decide +kernel)) (fun _ _ _ _ _ => pg_name (i := 3) sc__law_names.nd rfl (Or.inl rfl)) (fun _ _ _ _ _ => pts_nil) (fun _ _ _ _ _ => (pe_op op_add_str pe_str (pv 3))))) po_none (po_some (pv 0))))))), ?_⟩
  refine y_asg (R := (· = .list (names10.map PyData.str))) al ?_ fun v d H1 e1 hd hr => ?_
  · refine yl_lst1 ?_ (by show 10 ≤ z.n; omega) hz
    walk_at "lit"
  subst hr
  dsimp only
  refine y_asg (R := (· = .str abc)) (al.up e1) (yl_strK (by decide +kernel) n30) fun v2 d2 H2 e2 hd2 hr2 => ?_
  subst hr2
  cases hd2
  replace hd := hd.mono e2
  replace e1 := e1.trans e2
  clear e2
  revert e1 hd
  revert H2
  intro H1 hd e1
  have a1 := al.up e1
  have part {a : Str} (ha : a = "x" ∨ a = "y") {tq : TE} (hq : tq = tC (.str a)) : Yl z (tLc (iStr (tVar 2)) (gName 3) tYes (tOp (fun x y H Q => ∃ i j : Str, x = .str i ∧ y = .str j ∧ i.length + j.length ≤ sizeLine ∧ Q (.str (i ++ j)) H) tq (tVar 3)) [3]) [some (.int m), some v, some (.str abc), none] H1 (· = .list ((ends a).map PyData.str)) := by
    refine Yl.imp (yl_lcS (fun i d => ∃ c, abc.cps[i]? = some c ∧ d = .str (a ++ ⟨#[c]⟩)) (yl_var rfl (.str abc ⟨Nat.le_trans (by decide +kernel : abc.length ≤ 30) n30, by decide +kernel⟩)) hz (fun _ => rfl) fun i c L H0 H2 _ _ _ hc => ?_) fun d ⟨es, h1, h2, h3⟩ => by rw [h1, ends_eq a h2 h3]
    have ok := app1_ok ha hc
    subst hq
    refine Yl.imp (yl_addS (yl_strK (x := a) ?_ n30) (.inr fun H3 _ Q k => ⟨_, rfl, k⟩) ⟨Nat.le_trans ok.1 n30, ok.2⟩ ?_) fun d e => ⟨c, hc, e⟩
    · rcases ha with rfl | rfl <;> decide +kernel
    · rcases ha with rfl | rfl <;> (show 1 + 1 ≤ sizeLine; decide)
  dsimp only
  refine y_ret (z := z) (R := (· = .list ((namesL.take m.toNat).map PyData.str))) a1 ?_ fun v' d H2 e2 hd2 hr => by subst hr; exact q v' H2 (e1.trans e2) hd2
  refine Yl.imp (yl_toL (yl_cat1 (yl_cat1 (yl_var rfl hd) (part (.inl rfl) rfl) ?_ hz) (part (.inr rfl) rfl) ?_ hz) (yi_var rfl) hm) fun d e => ?_
  · show 10 + 26 ≤ z.n
    omega
  · show 36 + 26 ≤ z.n
    omega
  · rw [e, ← List.map_append, ← List.map_append, ← List.map_take]
    rfl
end
end Pb
namespace Pb
open PySem L2
theorem yl_names {z : Fz} {tm : TE} {σ : L2.St} {H : Hp} {E : XK} {m : Int} (hm : YI z tm σ H (· = m)) (m0 : 0 ≤ m) (n1 : 100 ≤ z.n) (n2 : z.n ≤ 100000) : Yl z (tCall spNames [] E (tCons tm tNil)) σ H (· = .list ((namesL.take m.toNat).map PyData.str)) := fun H1 e a Q k =>
  hm H1 e a _ fun m' H2 e2 hm' => by
    subst hm'
    exact ⟨z, _, rfl, n1, n2, a.up e2, m0, fun v H3 e3 hd => k v _ H3 (e2.trans e3) hd rfl⟩
theorem yl_mixed {z : Fz} {tm : TE} {σ : L2.St} {H : Hp} {E : XK} {i m : Nat} {q : Addr} (h : σ[i]? = some (some (.ref z.p))) (hq : BagQ z.p q H) (hm : YI z tm σ H (· = (m : Int))) (m0 : m ≤ 1000) (mn : m ≤ z.n) :
    Yl z (tCall spMixed [] E (tCons (tVar i) (tCons tm tNil))) σ H (fun d => ∃ ds, d = .tuple ds ∧ ∃ xs : List Int, ds = xs.map PyData.int ∧ Mix m xs) := fun H1 e a Q k =>
  ⟨_, h, hm H1 e a _ fun m' H2 e2 hm' => ⟨z.p, q, m, by rw [hm']; rfl, m0, (e.trans e2).bag q hq, fun t xs H3 e3 nt ht mx => k _ _ H3 (e2.trans e3) (.tup ((a.up e2).ne nt) ht (by rw [List.length_map, mx.len]; exact mn) (.ints xs)) ⟨_, rfl, xs, rfl, mx⟩⟩⟩
theorem yi_far {z : Fz} {tm : TE} {σ : L2.St} {H : Hp} {E : XK} {i : Nat} {q : Addr} {m : Int} (h : σ[i]? = some (some (.ref z.p))) (hq : BagQ z.p q H) (hm : YI z tm σ H (· = m)) (m0 : 0 < m) : YI z (tCall spTake [] E (tCons (tVar i) (tCons tm tNil))) σ H (fun r => 0 ≤ r ∧ r < m) := yi_take h hq hm m0
/-- a drawn state: bills from 0 to far (or 59), folk of at most most unlike names, bills 0 where there are none -/
structure Drawn (most : Nat) (far : Int) (d : PyData) : Prop where
  ex : ∃ (i : Int) (fs : List Str), d = .tuple [.int i, .tuple (fs.map PyData.str)] ∧ 0 ≤ i ∧ (i ≤ 59 ∨ i ≤ far) ∧ fs.Nodup ∧ fs.length ≤ most ∧ (∀ x ∈ fs, x ∈ namesL.take (most + 4)) ∧ (fs = [] → i = 0)
def spState : Sp := fun vs H Q _ => ∃ (z : Fz) (q : Addr) (most : Nat) (far : Int), vs = [.ref z.p, .int (most : Int), .int far] ∧ 100 ≤ z.n ∧ z.n ≤ 100000 ∧ AlS z H ∧ BagQ z.p q H ∧ most ≤ 58 ∧ 0 ≤ far ∧ ∀ v d H', ExB z.p H H' → Dt z H' v d → Drawn most far d → Q v H'
theorem yl_state {z : Fz} {tm tf : TE} {σ : L2.St} {H : Hp} {E : XK} {i most : Nat} {q : Addr} {far : Int} (h : σ[i]? = some (some (.ref z.p))) (hq : BagQ z.p q H) (hm : YI z tm σ H (· = (most : Int))) (hf : YI z tf σ H (· = far)) (m0 : most ≤ 58) (f0 : 0 ≤ far) (n1 : 100 ≤ z.n) (n2 : z.n ≤ 100000) :
    Yl z (tCall spState [] E (tCons (tVar i) (tCons tm (tCons tf tNil)))) σ H (Drawn most far) := fun H1 e a Q k =>
  ⟨_, h, hm H1 e a _ fun m' H2 e2 hm' => hf H2 (e.trans e2) (a.up e2) _ fun f' H3 e3 hf' => ⟨z, q, most, far, by rw [hm', hf']; rfl, n1, n2, (a.up e2).up e3, ((e.trans e2).trans e3).bag q hq, m0, f0, fun v d H4 e4 hd hD => k v d H4 ((e2.trans e3).trans e4) hd hD⟩⟩
theorem nodup_pick {xs : List Int} {ns : List Str} (hn : ns.Nodup) (hx : xs.Nodup) (hb : ∀ x ∈ xs, 1 ≤ x ∧ x ≤ (ns.length : Int)) : (xs.map fun x => ns.getD (x - 1).toNat Str.empty).Nodup := by
  induction xs with
  | nil => exact List.nodup_nil
  | cons x r ih =>
    rw [List.nodup_cons] at hx
    rw [List.map_cons, List.nodup_cons]
    refine ⟨fun h => ?_, ih hx.2 fun y hy => hb y (List.mem_cons_of_mem _ hy)⟩
    obtain ⟨y, hy, e⟩ := List.mem_map.mp h
    have b1 := hb x List.mem_cons_self
    have b2 := hb y (List.mem_cons_of_mem _ hy)
    have l1 : (x - 1).toNat < ns.length := by omega
    have l2 : (y - 1).toNat < ns.length := by omega
    rw [List.getD_eq_getElem?_getD, List.getD_eq_getElem?_getD, List.getElem?_eq_getElem l1, List.getElem?_eq_getElem l2] at e
    have := (List.getElem_inj hn).mp e
    have : x = y := by omega
    rw [this] at hx
    exact hx.1 hy
section
variable {P : Program} {w : World} {K : PySem.W.Frag} {mg : Str → Option Value} {base : Heap} {k0 k1 k2 : Tok}
end
end Pb
namespace Dm
open PySem L2 Pb
/-! ### what the earlier promises say of data -/
def Wb (f : PyData → Bool) : OA
  | [.d x], R => R (.d (.bool (f x)))
  | _, _ => False
theorem wr_one {f : PyData → Bool} : ∀ vs H Q E, spW (Wb f) vs H Q E → spOne f vs H Q E := by
  rintro vs H Q E ⟨z, xs, R, n, al, hs, nx, w, k, _⟩
  unfold Wb at w
  split at w
  · obtain ⟨v, rfl, hv⟩ := dv1 hs
    exact ⟨z, v, _, rfl, Nat.le_of_eq n, al, hv, fun H' e => k _ (.d (.bool _)) H' e trivial (dB _) w⟩
  · exact w.elim
theorem dv3 {z : Fz} {H : Hp} {vs : List V} {x y t : Vx} (h : DvAll z H vs [x, y, t]) : ∃ v w u, vs = [v, w, u] ∧ Dv z H v x ∧ Dv z H w y ∧ Dv z H u t := by
  match vs, h with
  | [v, w, u], h => exact ⟨v, w, u, rfl, h.1, h.2.1, h.2.2.1⟩
def W_is_whole_within : OA
  | [.d x, .d (.int l), .d (.int m)], R => R (.d (.bool (withinD l m x)))
  | _, _ => False
theorem wr_within : ∀ vs H Q E, spW W_is_whole_within vs H Q E → spWithin vs H Q E := by
  rintro vs H Q E ⟨z, xs, R, n, al, hs, nx, w, k, _⟩
  unfold W_is_whole_within at w
  split at w
  · obtain ⟨v, u, t, rfl, hv, hu, ht⟩ := dv3 hs
    cases hu; cases ht
    exact ⟨z, v, _, _, _, rfl, al, hv, fun H' e => k _ (.d (.bool _)) H' e trivial (dB _) w⟩
  · exact w.elim
def W__law_take : OA
  | [.bag, .d (.int m)], R => 0 < m ∧ ∀ r : Int, 0 ≤ r → r < m → R (.d (.int r))
  | _, _ => False
theorem wr_take : ∀ vs H Q E, spW W__law_take vs H Q E → spTake vs H Q E := by
  rintro vs H Q E ⟨z, xs, R, n, al, hs, nx, w, k, _⟩
  unfold W__law_take at w
  split at w
  · obtain ⟨v, u, rfl, ⟨rfl, q, hq, bq⟩, hu⟩ := dv2 hs
    cases hu
    exact ⟨z.p, q, _, rfl, w.1, bq, fun r H' e hr => k _ (.d (.int r)) H' e trivial (dI _) (w.2 r hr.1 hr.2)⟩
  · exact w.elim
def W__law_mixed : OA
  | [.bag, .d (.int m)], R => (0 ≤ m ∧ m ≤ 1000) ∧ ∀ xs : List Int, Mix m.toNat xs → R (.d (.tuple (xs.map PyData.int)))
  | _, _ => False
theorem wr_mixed : ∀ vs H Q E, spW W__law_mixed vs H Q E → spMixed vs H Q E := by
  rintro vs H Q E ⟨z, xs, R, n, al, hs, nx, w, k, _⟩
  unfold W__law_mixed at w
  split at w
  · rename_i m
    obtain ⟨v, u, rfl, ⟨rfl, q, hq, bq⟩, hu⟩ := dv2 hs
    cases hu
    have e0 : ((m.toNat : Nat) : Int) = m := by omega
    exact ⟨z.p, q, m.toNat, by rw [e0], by omega, bq, fun t ys H' e nt ht mx => k _ (.d (.tuple (ys.map PyData.int))) H' e trivial (dT (al.ne nt) ht (by rw [List.length_map, mx.len, n]; exact Nat.le_trans (by omega : m.toNat ≤ 1000) (by decide)) (.ints ys)) (w.2 ys mx)⟩
  · exact w.elim
def W__law_names : OA
  | [.d (.int m)], R => 0 ≤ m ∧ R (.d (.list ((namesL.take m.toNat).map PyData.str)))
  | _, _ => False
theorem wr_names : ∀ vs H Q E, spW W__law_names vs H Q E → spNames vs H Q E := by
  rintro vs H Q E ⟨z, xs, R, n, al, hs, nx, w, k, _⟩
  unfold W__law_names at w
  split at w
  · obtain ⟨v, rfl, hv⟩ := dv1 hs
    cases hv
    exact ⟨z, _, rfl, by rw [n]; decide, Nat.le_of_eq n, al, w.1, fun v H' e hd => k v (.d _) H' e trivial (dD hd) w.2⟩
  · exact w.elim
def W__law_a_state : OA
  | [.bag, .d (.int m), .d (.int far)], R => (0 ≤ m ∧ m ≤ 58 ∧ 0 ≤ far) ∧ ∀ d, Drawn m.toNat far d → R (.d d)
  | _, _ => False
theorem wr_state : ∀ vs H Q E, spW W__law_a_state vs H Q E → spState vs H Q E := by
  rintro vs H Q E ⟨z, xs, R, n, al, hs, nx, w, k, _⟩
  unfold W__law_a_state at w
  split at w
  · rename_i m far
    obtain ⟨v, u, t, rfl, ⟨rfl, q, hq, bq⟩, hu, ht⟩ := dv3 hs
    cases hu; cases ht
    have e0 : ((m.toNat : Nat) : Int) = m := by omega
    exact ⟨z, q, m.toNat, far, by rw [e0], by rw [n]; decide, Nat.le_of_eq n, al, bq, by omega, w.1.2.2, fun v d H' e hd hD => k v (.d d) H' e trivial (dD hd) (w.2 d hD)⟩
  · exact w.elim
/-! ### words for the goals -/
theorem startE_0 : startE 0 [] = [] := rfl
theorem startE_s (n : Nat) (x : Vx) (xs : List Vx) : startE (n + 1) (x :: xs) = .v x :: startE n xs := by
  unfold startE
  rw [List.map_cons, List.length_cons, Nat.add_sub_add_right]; rfl
theorem startE_n (n : Nat) : startE (n + 1) [] = .no :: startE n [] := by
  unfold startE
  simp [List.replicate_succ]
theorem nq_d (x : PyData) : nq (.d x) = True := rfl
theorem nq_dk (x : List Si) : nq (.dk x) = True := rfl
theorem nq_dt (x : List Tk) : nq (.dt x) = True := rfl
theorem nq_bag : nq .bag = True := rfl
theorem unF_d (R : Vx → Prop) (x : PyData) : unF R (.d x) = R (.d x) := rfl
theorem unF_dk (R : Vx → Prop) (x : List Si) : unF R (.dk x) = R (.dk x) := rfl
theorem unF_dt (R : Vx → Prop) (x : List Tk) : unF R (.dt x) = R (.dt x) := rfl
theorem unF_bag (R : Vx → Prop) : unF R .bag = R .bag := rfl
theorem unF_fl (R : Vx → Prop) (x : List PyData) : unF R (.fl x) = R (.d (.list x)) := rfl
local macro_rules | `(tactic| walk_at "w") => `(tactic| try simp -dsimp only [startE_0, startE_s, startE_n, posts, wNext, wSeq_e, wRet, wRetN, wDrop, wIf, wNever, wAsg, wPar, wTri, wNew, wRetF, wRetV, wApp, wExt, wSetL, wPutT, wAug, wFrz, wNewT, wgN, wgT, wgNil, wgCons, wmNil, wmV, wmL, wmT,
  wVar, readS, wK, wOp, oI, cT, oCmp, oEqv, datOf, oIsN, oAdd, oIx_l, oIx_q, oIx_t, IxK_0, IxK_1, IxK_2, IxK_3, oIn, wNeg, wAndV, wOrV, wNotV, wTst, wNot, wAnd, wOr, wIfE, wChain, wNil, wCons, allD, wTup, wLst, wC, wNoPart, wPart, wSl, oLen, wIsi, oInt, o2I, o1, lstOf, oListC, oTupC, oDGet_e, DgK_some, dLook, dkOf, dtOf, wDGet3, isDx, wSortIt,
  wISeq, wIRng1, wIRng2, wIStr, wIEnumT, wIZip, wLc, wYes, wLock, wDc, lcE, dcE, wOnlyD, wipeE, lockS, wCall, allNq, unF_d, unF_dk, unF_dt, unF_bag, unF_fl, nq_d, nq_dk, nq_dt, nq_bag, List.map_cons, List.map_nil, List.set_cons_zero, List.set_cons_succ, List.getElem?_cons_zero, List.getElem?_cons_succ, Option.map_some, Option.map_none, true_and, and_true, decide_eq_true_eq, Bool.not_eq_true', id, if_true, Bool.true_eq_false, Bool.false_eq_true, if_false, ite_true, ite_false, NN, List.length_cons, List.length_nil, List.length_map, Nat.zero_add, Nat.reduceAdd, Nat.reduceLeDiff, and_self, cDiv, cMul, List.append_nil, List.nil_append, wRev, wFor_e, flOnly_fl, List.replicate_succ, List.replicate_zero, Bool.not_true, Bool.not_false, bodyPost, tailPost, isTru, wAssert, Bool.not_eq_false', decide_eq_false_iff_not])
local macro_rules | `(tactic| walk_at "v") => `(tactic| try simp -dsimp only [startE_0, startE_s, startE_n, posts, wNext, wSeq_e, wRet, wRetN, wDrop, wIf, wNever, wAsg, wPar, wTri, wNew, wRetF, wRetV, wApp, wExt, wSetL, wPutT, wAug, wFrz, wNewT, wgN, wgT, wgNil, wgCons, wmNil, wmV, wmL, wmT,
  wVar, readS, wK, wOp, oI, cT, oCmp, oEqv, datOf, oIsN, oAdd, oIx_l, oIx_q, oIx_t, IxK_0, IxK_1, IxK_2, IxK_3, oIn, wNeg, wAndV, wOrV, wNotV, wTst, wNot, wAnd, wOr, wIfE, wChain, wNil, wCons, allD, wTup, wLst, wC, wNoPart, wPart, wSl, oLen, wIsi, oInt, o2I, o1, lstOf, oListC, oTupC, oDGet_e, DgK_some, dLook, dkOf, dtOf, wDGet3, isDx, wSortIt,
  wISeq, wIRng1, wIRng2, wIStr, wIEnumT, wIZip, wLc, wYes, wLock, wDc, lcE, dcE, wOnlyD, wipeE, lockS, wCall, allNq, unF_d, unF_dk, unF_dt, unF_bag, unF_fl, nq_d, nq_dk, nq_dt, nq_bag, List.map_cons, List.map_nil, List.set_cons_zero, List.set_cons_succ, List.getElem?_cons_zero, List.getElem?_cons_succ, Option.map_some, Option.map_none, true_and, and_true, decide_eq_true_eq, Bool.not_eq_true', id, if_true, Bool.true_eq_false, Bool.false_eq_true, if_false, ite_true, ite_false, NN, List.length_cons, List.length_nil, List.length_map, Nat.zero_add, Nat.reduceAdd, Nat.reduceLeDiff, and_self, cDiv, cMul, List.append_nil, List.nil_append, wRev, wFor_e, flOnly_fl, List.replicate_succ, List.replicate_zero, Bool.not_true, Bool.not_false, bodyPost, tailPost, isTru, wAssert, Bool.not_eq_false', decide_eq_false_iff_not, Hold, App])
local macro_rules | `(tactic| walk_at "n") => `(tactic| (refine Hold_go ?_; walk_at "w"))
theorem lcW_map {f : PyData → (Option PyData → Prop) → Prop} {g : PyData → Option PyData} : ∀ {ds : List PyData} {R : List PyData → Prop}, (∀ d ∈ ds, ∀ S, S (g d) → f d S) → R (ds.filterMap g) → lcW f ds R
  | [], R, _, r => r
  | d :: ds, R, h, r => h d List.mem_cons_self _ (lcW_map (fun e he => h e (List.mem_cons_of_mem _ he)) (by
    rw [List.filterMap_cons] at r
    cases q : g d with
    | none => rw [q] at r; exact r
    | some y => rw [q] at r; exact r))
/-- a comprehension over xs, told by f of each -/
theorem lcW_of {α : Type} {f : PyData → (Option PyData → Prop) → Prop} {c : α → PyData} {g : α → PyData} {xs : List α} {R : List PyData → Prop} (h : ∀ x ∈ xs, ∀ S, S (some (g x)) → f (c x) S) (r : R (xs.map g)) : lcW f (xs.map c) R := by
  induction xs generalizing R with
  | nil => exact r
  | cons x xs ih => exact h x List.mem_cons_self _ (ih (fun y hy => h y (List.mem_cons_of_mem _ hy)) r)
/-- .. with a test -/
theorem lcW_if {α : Type} {f : PyData → (Option PyData → Prop) → Prop} {c : α → PyData} {p : α → Bool} {g : α → PyData} {xs : List α} {R : List PyData → Prop} (h : ∀ x ∈ xs, ∀ S, S (if p x = true then some (g x) else none) → f (c x) S) (r : R ((xs.filter p).map g)) : lcW f (xs.map c) R := by
  induction xs generalizing R with
  | nil => exact r
  | cons x xs ih =>
    refine h x List.mem_cons_self _ ?_
    by_cases q : p x = true
    · rw [if_pos q]
      rw [List.filter_cons_of_pos q] at r
      exact ih (fun y hy => h y (List.mem_cons_of_mem _ hy)) r
    · rw [if_neg q]
      rw [List.filter_cons_of_neg q] at r
      exact ih (fun y hy => h y (List.mem_cons_of_mem _ hy)) r
theorem putI_new {α : Type} [DecidableEq α] {kvs : List (α × Int)} {k : α} {c : Int} (h : k ∉ kvs.map (·.1)) : putI kvs k c = kvs ++ [(k, c)] := by
  unfold putI
  rw [if_neg]
  intro e
  obtain ⟨q, hq, e⟩ := List.any_eq_true.mp e
  exact h (List.mem_map.mpr ⟨q, hq, of_decide_eq_true e⟩)
theorem dcW_of {α : Type} {f : PyData → (Option Si → Prop) → Prop} {c : α → PyData} {g : α → Si} : ∀ {xs : List α} {acc : List Si} {R : List Si → Prop}, (∀ x ∈ xs, ∀ S, S (some (g x)) → f (c x) S) → ((acc ++ xs.map g).map (·.1)).Nodup → R (acc ++ xs.map g) → dcW f (xs.map c) acc R
  | [], acc, R, _, _, r => by rw [List.map_nil, List.append_nil] at r; exact r
  | x :: xs, acc, R, h, nd, r => by
    refine h x List.mem_cons_self _ ?_
    have hno : (g x).1 ∉ acc.map (·.1) := fun hm => by
      rw [List.map_append, List.nodup_append] at nd
      exact nd.2.2 _ hm _ (by simp) rfl
    show dcW f (xs.map c) (putI acc (g x).1 (g x).2) R
    rw [putI_new hno]
    refine dcW_of (fun y hy => h y (List.mem_cons_of_mem _ hy)) ?_ ?_
    · rw [List.append_assoc]; exact nd
    · rw [List.append_assoc]; exact r
end Dm
namespace Dm
open PySem L2 Pb
open PySem.W (AllAlike Sortable)
/-! ### the mathematics -/
def canBill (b : Int) (fs : List Str) (c : Int) : Bool := decide ((0 : Int) < fs.length) && decide (b + c ≤ 1000000000000000000)
def canCome (fs : List Str) (x : Str) : Bool := (!decide (x ∈ fs)) && decide ((fs.length : Int) < 40)
def canGo (b : Int) (fs : List Str) (x : Str) : Bool := decide (x ∈ fs) && (decide ((1 : Int) < fs.length) || decide (b = 0))
def extrasL (M L : List Si) : List Si := (M.filter fun q => decide ((look L q.1).getD 0 < q.2)).map fun q => (q.1, q.2 - (look L q.1).getD 0)
abbrev Tr := Str × Str × Int
def enc3 (t : Tr) : PyData := .tuple [.str t.1, .str t.2.1, .int t.2.2]
def without (fs : List Str) (x : Str) : List Str := fs.filter fun y => !decide (y = x)
def billT (b : Int) (fs : List Str) (c : Int) : List Tr := (extrasL (sharesL (b + c) fs) (sharesL b fs)).map fun q => (q.1, "", q.2)
def comeT (b : Int) (fs : List Str) (x : Str) : List Tr := (extrasL (sharesL b fs) (sharesL b (fs ++ [x]))).map fun q => (x, q.1, q.2)
def goT (b : Int) (fs : List Str) (x : Str) : List Tr := (extrasL (sharesL b (without fs x)) (sharesL b fs)).map fun q => (q.1, x, q.2)
theorem inD_strs (x : Str) : ∀ fs : List Str, inD (.str x) (fs.map PyData.str) = decide (x ∈ fs)
  | [] => rfl
  | y :: r => by
    have ih := inD_strs x r
    unfold inD at ih ⊢
    rw [List.map_cons, List.any_cons, ih]
    show (y == x || _) = _
    by_cases h : x = y
    · subst h; simp
    · have : (y == x) = false := by simpa using fun e : y = x => h e.symm
      rw [this]
      simp [h]
theorem flat_strs (fs : List Str) : (fs.map PyData.str).all flatD = true := by rw [List.all_map, List.all_eq_true]; exact fun _ _ => rfl
theorem eqv_str (x y : Str) : PyData.eqv (.str x) (.str y) = decide (x = y) := by
  rw [PyData.eqv]
  by_cases h : x = y
  · subst h; simp
  · rw [decide_eq_false h]; simpa using h
theorem eqv_int (x y : Int) : PyData.eqv (.int x) (.int y) = decide (x = y) := by
  rw [PyData.eqv]
  by_cases h : x = y
  · subst h; simp
  · rw [decide_eq_false h]; simpa using h
theorem depth_str (x : Str) : PyData.depth (.str x) = 0 := by simp [PyData.depth]
theorem depth_int (x : Int) : PyData.depth (.int x) = 0 := by simp [PyData.depth]
theorem alikeP (l : List Si) : AllAlike (l.map encP) := .of fun b b' => rfl
theorem sortableP (l : List Si) : Sortable (l.map encP) := .tuples fun b => ⟨_, _, rfl⟩
theorem depthP (l : List Si) : ∀ d ∈ l.map encP, d.depth ≤ 10 := fun d hd => by
  obtain ⟨t, _, e⟩ := List.mem_map.mp hd
  rw [← e]
  simp [encP, PyData.depth, PyData.depthAll]
theorem alike3 (l : List Tr) : AllAlike (l.map enc3) := .of fun b b' => rfl
theorem sortable3 (l : List Tr) : Sortable (l.map enc3) := .tuples fun b => ⟨_, _, rfl⟩
theorem depth3 (l : List Tr) : ∀ d ∈ l.map enc3, d.depth ≤ 10 := fun d hd => by
  obtain ⟨t, _, e⟩ := List.mem_map.mp hd
  rw [← e]
  simp [enc3, PyData.depth, PyData.depthAll]
theorem mem_shares {b : Int} {fs : List Str} {q : Si} (h : q ∈ sharesL b fs) : q.1 ∈ fs := by
  rw [← sharesL_names b fs]
  exact List.mem_map.mpr ⟨q, h, rfl⟩
theorem look_isSome {b : Int} {fs : List Str} {x : Str} (nd : fs.Nodup) (h : x ∈ fs) : (look (sharesL b fs) x).isSome = true := by
  obtain ⟨i, hi⟩ := List.mem_iff_getElem?.mp h
  rw [look_shares nd hi]; rfl
theorem look_mem {kvs : List Si} (nd : (kvs.map (·.1)).Nodup) {q : Si} (h : q ∈ kvs) : look kvs q.1 = some q.2 := by
  obtain ⟨i, hi⟩ := List.mem_iff_getElem?.mp h
  exact look_at nd hi
theorem nd_names {b : Int} {fs : List Str} (nd : fs.Nodup) : ((sharesL b fs).map (·.1)).Nodup := by rw [sharesL_names]; exact nd
theorem nd_snoc {fs : List Str} {x : Str} (nd : fs.Nodup) (h : x ∉ fs) : (fs ++ [x]).Nodup := List.nodup_append.mpr ⟨nd, by simp, fun a ha c hc e => by rw [List.mem_singleton.mp hc] at e; rw [e] at ha; exact h ha⟩
theorem nd_without {fs : List Str} (x : Str) (nd : fs.Nodup) : (without fs x).Nodup := nd.sublist List.filter_sublist
theorem len_without (fs : List Str) (x : Str) : (without fs x).length ≤ fs.length := List.length_filter_le _ _
theorem enum_shares (b : Int) (fs : List Str) : sharesL b fs = fs.zipIdx.map fun q => (q.1, shareZ b fs.length q.2) := rfl
theorem extras_len (M L : List Si) : (extrasL M L).length ≤ M.length := by unfold extrasL; rw [List.length_map]; exact List.length_filter_le _ _
/-! ### promises -/
def W_share : OA
  | [.d (.int b), .d (.int n), .d (.int p)], R => (0 < n ∧ n ≤ 1000000) ∧ 0 ≤ p ∧ R (.d (.int (shareZ b n.toNat p.toNat)))
  | _, _ => False
def W_shares : OA
  | [.d (.tuple [.int b, .tuple ds])], R => ∃ fs : List Str, ds = fs.map PyData.str ∧ fs.Nodup ∧ fs.length ≤ 1000 ∧ R (.dk (sharesL b fs))
  | _, _ => False
def W_paid_pairs : OA
  | [.d (.tuple [.int b, .tuple ds])], R => ∃ fs : List Str, ds = fs.map PyData.str ∧ fs.Nodup ∧ fs.length ≤ 1000 ∧ R (.fl (sortD ((sharesL b fs).map encP)))
  | _, _ => False
def W_can_bill : OA
  | [.d (.tuple [.int b, .tuple ds]), .d (.int c)], R => ∃ fs : List Str, ds = fs.map PyData.str ∧ R (.d (.bool (canBill b fs c)))
  | _, _ => False
def W_can_come : OA
  | [.d (.tuple [.int b, .tuple ds]), .d (.str x)], R => ∃ fs : List Str, ds = fs.map PyData.str ∧ R (.d (.bool (canCome fs x)))
  | _, _ => False
def W_can_go : OA
  | [.d (.tuple [.int b, .tuple ds]), .d (.str x)], R => ∃ fs : List Str, ds = fs.map PyData.str ∧ R (.d (.bool (canGo b fs x)))
  | _, _ => False
def W_billed : OA
  | [.d (.tuple [.int b, .tuple ds]), .d (.int c)], R => R (.d (.tuple [.int (b + c), .tuple ds]))
  | _, _ => False
def W_joined : OA
  | [.d (.tuple [.int b, .tuple ds]), .d (.str x)], R => ∃ fs : List Str, ds = fs.map PyData.str ∧ fs.length ≤ 1000 ∧ R (.d (stD b (fs ++ [x])))
  | _, _ => False
def W_parted : OA
  | [.d (.tuple [.int b, .tuple ds]), .d (.str x)], R => ∃ fs : List Str, ds = fs.map PyData.str ∧ fs.length ≤ 1000 ∧ R (.d (stD b (without fs x)))
  | _, _ => False
def W_extras : OA
  | [.dk M, .dk L], R => (M.map (·.1)).Nodup ∧ (∀ q ∈ M, (look L q.1).isSome = true) ∧ M.length ≤ 1000 ∧ R (.d (.list ((extrasL M L).map encP)))
  | _, _ => False
def W_bill_triples : OA
  | [.d (.tuple [.int b, .tuple ds]), .d (.int c)], R => ∃ fs : List Str, ds = fs.map PyData.str ∧ fs.Nodup ∧ fs.length ≤ 900 ∧ R (.fl (sortD ((billT b fs c).map enc3)))
  | _, _ => False
def W_come_triples : OA
  | [.d (.tuple [.int b, .tuple ds]), .d (.str x)], R => ∃ fs : List Str, ds = fs.map PyData.str ∧ fs.Nodup ∧ fs.length ≤ 900 ∧ x ∉ fs ∧ R (.fl (sortD ((comeT b fs x).map enc3)))
  | _, _ => False
def W_go_triples : OA
  | [.d (.tuple [.int b, .tuple ds]), .d (.str x)], R => ∃ fs : List Str, ds = fs.map PyData.str ∧ fs.Nodup ∧ fs.length ≤ 900 ∧ R (.fl (sortD ((goT b fs x).map enc3)))
  | _, _ => False
local macro_rules | `(tactic| walk_at "w") => `(tactic| try simp -dsimp only [startE_0, startE_s, startE_n, posts, wNext, wSeq_e, wRet, wRetN, wDrop, wIf, wNever, wAsg, wPar, wTri, wNew, wRetF, wRetV, wApp, wExt, wSetL, wPutT, wAug, wFrz, wNewT, wgN, wgT, wgNil, wgCons, wmNil, wmV, wmL, wmT,
  wVar, readS, wK, wOp, oI, cT, oCmp, oEqv, datOf, oIsN, oAdd, oIx_l, oIx_q, oIx_t, IxK_0, IxK_1, IxK_2, IxK_3, oIn, wNeg, wAndV, wOrV, wNotV, wTst, wNot, wAnd, wOr, wIfE, wChain, wNil, wCons, allD, wTup, wLst, wC, wNoPart, wPart, wSl, oLen, wIsi, oInt, o2I, o1, lstOf, oListC, oTupC, oDGet_e, DgK_some, dLook, dkOf, dtOf, wDGet3, isDx, wSortIt,
  wISeq, wIRng1, wIRng2, wIStr, wIEnumT, wIZip, wLc, wYes, wLock, wDc, lcE, dcE, wOnlyD, wipeE, lockS, wCall, allNq, unF_d, unF_dk, unF_dt, unF_bag, unF_fl, nq_d, nq_dk, nq_dt, nq_bag, List.map_cons, List.map_nil, List.set_cons_zero, List.set_cons_succ, List.getElem?_cons_zero, List.getElem?_cons_succ, Option.map_some, Option.map_none, true_and, and_true, decide_eq_true_eq, Bool.not_eq_true', id, if_true, Bool.true_eq_false, Bool.false_eq_true, if_false, ite_true, ite_false, NN, List.length_cons, List.length_nil, List.length_map, Nat.zero_add, Nat.reduceAdd, Nat.reduceLeDiff, and_self, cDiv, cMul, List.append_nil, List.nil_append, wRev, wFor_e, flOnly_fl, List.replicate_succ, List.replicate_zero, Bool.not_true, Bool.not_false, bodyPost, tailPost, isTru, wAssert, Bool.not_eq_false', decide_eq_false_iff_not])
local macro_rules | `(tactic| walk_at "v") => `(tactic| try simp -dsimp only [startE_0, startE_s, startE_n, posts, wNext, wSeq_e, wRet, wRetN, wDrop, wIf, wNever, wAsg, wPar, wTri, wNew, wRetF, wRetV, wApp, wExt, wSetL, wPutT, wAug, wFrz, wNewT, wgN, wgT, wgNil, wgCons, wmNil, wmV, wmL, wmT,
  wVar, readS, wK, wOp, oI, cT, oCmp, oEqv, datOf, oIsN, oAdd, oIx_l, oIx_q, oIx_t, IxK_0, IxK_1, IxK_2, IxK_3, oIn, wNeg, wAndV, wOrV, wNotV, wTst, wNot, wAnd, wOr, wIfE, wChain, wNil, wCons, allD, wTup, wLst, wC, wNoPart, wPart, wSl, oLen, wIsi, oInt, o2I, o1, lstOf, oListC, oTupC, oDGet_e, DgK_some, dLook, dkOf, dtOf, wDGet3, isDx, wSortIt,
  wISeq, wIRng1, wIRng2, wIStr, wIEnumT, wIZip, wLc, wYes, wLock, wDc, lcE, dcE, wOnlyD, wipeE, lockS, wCall, allNq, unF_d, unF_dk, unF_dt, unF_bag, unF_fl, nq_d, nq_dk, nq_dt, nq_bag, List.map_cons, List.map_nil, List.set_cons_zero, List.set_cons_succ, List.getElem?_cons_zero, List.getElem?_cons_succ, Option.map_some, Option.map_none, true_and, and_true, decide_eq_true_eq, Bool.not_eq_true', id, if_true, Bool.true_eq_false, Bool.false_eq_true, if_false, ite_true, ite_false, NN, List.length_cons, List.length_nil, List.length_map, Nat.zero_add, Nat.reduceAdd, Nat.reduceLeDiff, and_self, cDiv, cMul, List.append_nil, List.nil_append, wRev, wFor_e, flOnly_fl, List.replicate_succ, List.replicate_zero, Bool.not_true, Bool.not_false, bodyPost, tailPost, isTru, wAssert, Bool.not_eq_false', decide_eq_false_iff_not, Hold, App, W_share, W_shares, W_paid_pairs, W_can_bill, W_can_come, W_can_go, W_billed, W_joined, W_parted, W_extras, W_bill_triples, W_come_triples, W_go_triples, stD])
local macro_rules | `(tactic| walk_at "n") => `(tactic| (refine Hold_go ?_; walk_at "w"))
section
variable {P : Program} {w : World} {K : PySem.W.Frag} {mg : Str → Option Value} {base : Heap} {k0 k1 k2 : Tok}
abbrev s_share : Stmt := topS 7
abbrev N_share : List Str := ["bills", "many", "place"]
theorem sc_share : FnScope N_share ["bills", "many", "place"] (defScope s_share) := ⟨rfl, rfl, rfl, by decide +kernel, rfl, by decide +kernel, by decide +kernel⟩
theorem ok_share {f_share : Addr} {fd_share : FuncData} (D_share : Df K mg "share" s_share ["bills", "many", "place"] f_share fd_share) (T : Bt mg k0 k1 k2) : FnOk P w K mg base CX0 1 f_share fd_share ["bills", "many", "place"] (spW W_share) := by
  refine D_share.F.ok sc_share (fun vs H Q E h => spW_len (n := 3) (fun xs R h => by unfold W_share at h; split at h <;> first | rfl | exact h.elim) h) (fun cdv A outer s H vs Q E hr h => ?_)
  refine ⟨_, (pss_cons (ps_if (pt_cmpR un_lt (pv 0) (pv 2) (nomark _))
  (pss_one (ps_ret pe_int))
  pss_nil)
  (pss_one (ps_ret (pe_op op_fdivW (pe_op op_sub (pe_op (un_add (K := K) rfl) (pe_op op_sub (pv 0) (pv 2)) (pv 1)) pe_int) (pv 1))))), fn_body (n := 3) rfl (ss_seq (ss_if (snd_tTest (snd_op so_cmp (snd_var 0) (snd_var 2)))
  (ss_ret (snd_int _))
  ss_next)
  (ss_ret (snd_op so_div (snd_op so_sub (snd_op so_add (snd_op so_sub (snd_var 0) (snd_var 2)) (snd_var 1)) (snd_int _)) (snd_var 1)))) h ?_⟩
  intro xs R hW
  unfold W_share at hW
  split at hW
  rotate_left
  · exact hW.elim
  rename_i b n p
  obtain ⟨⟨n0, n1⟩, p0, r⟩ := hW
  walk_at "v"
  have e1 : ((p.toNat : Nat) : Int) = p := by omega
  have e2 : ((n.toNat : Nat) : Int) = n := by omega
  unfold shareZ at r
  rw [e1, e2] at r
  split
  · rename_i h
    rw [if_pos h] at r
    exact r
  · rename_i h
    rw [if_neg h] at r
    exact ⟨⟨n0, by omega⟩, r⟩
end
end Dm
namespace Dm
open PySem L2 Pb
open PySem.W (AllAlike Sortable)
/-! ### states -/
structure StOk (b : Int) (fs : List Str) : Prop where
  b0 : 0 ≤ b
  b1 : b ≤ 1000000000000000000
  nd : fs.Nodup
  len : fs.length ≤ 40
  nm : ∀ x ∈ fs, isNameS x = true
  em : fs = [] → b = 0
theorem cntN_nd {xs : List Str} (nd : xs.Nodup) : ∀ i, i ≤ xs.length → cntN xs i = i
  | 0, _ => rfl
  | i + 1, h => by
    unfold cntN
    rw [cntN_nd nd i (by omega), if_neg]
    intro hm
    have lt : i < xs.length := by omega
    rw [List.getD_eq_getElem?_getD, List.getElem?_eq_getElem lt] at hm
    obtain ⟨j, hj⟩ := List.mem_iff_getElem?.mp hm
    rw [List.getElem?_take] at hj
    split at hj
    · have := (List.getElem?_inj (i := j) (j := i) (by have := (List.getElem?_eq_some_iff.mp hj).1; omega) nd).mp (by rw [hj, List.getElem?_eq_getElem lt]; rfl)
      omega
    · cases hj
theorem strsOf_strs : ∀ fs : List Str, strsOf (fs.map PyData.str) = fs
  | [] => rfl
  | x :: r => by rw [List.map_cons]; show x :: strsOf _ = _; rw [strsOf_strs r]
theorem StOk.is {b : Int} {fs : List Str} (h : StOk b fs) : isStateD (stD b fs) = true := by
  have h1 : isFolkD (.tuple (fs.map PyData.str)) = true := by
    show (decide ((fs.map PyData.str).length ≤ 40) && ((fs.map PyData.str).all isNameD && uniqD (fs.map PyData.str))) = true
    rw [List.length_map, decide_eq_true h.len]
    have h2 : (fs.map PyData.str).all isNameD = true := by
      rw [List.all_map, List.all_eq_true]
      exact fun x hx => h.nm x hx
    have h3 : uniqD (fs.map PyData.str) = true := by
      unfold uniqD
      rw [strsOf_strs, List.length_map, decide_eq_true (cntN_nd h.nd _ (Nat.le_refl _))]
    rw [h2, h3]; rfl
  show (((decide (0 ≤ b) && decide (b ≤ 1000000000000000000)) && isFolkD (.tuple (fs.map PyData.str))) && (decide (b = 0) || decide (0 < (fs.map PyData.str).length))) = true
  rw [h1, decide_eq_true h.b0, decide_eq_true h.b1, List.length_map]
  cases fs with
  | nil => rw [decide_eq_true (h.em rfl)]; rfl
  | cons x r => rw [decide_eq_true (show 0 < (x :: r).length by simp), Bool.or_true]; rfl
/-! ### promises -/
def W_check_state : OA
  | [.d x], R => isStateD x = true ∧ R (.d .none)
  | _, _ => False
def W_paid : OA
  | [.d (.tuple [.int b, .tuple ds])], R => ∃ fs : List Str, ds = fs.map PyData.str ∧ StOk b fs ∧ R (.fl (sortD ((sharesL b fs).map encP)))
  | _, _ => False
def W_bill_handed : OA
  | [.d (.tuple [.int b, .tuple ds]), .d (.int c)], R => ∃ fs : List Str, ds = fs.map PyData.str ∧ StOk b fs ∧ 0 ≤ c ∧ fs ≠ [] ∧ b + c ≤ 1000000000000000000 ∧ R (.fl (sortD ((billT b fs c).map enc3)))
  | _, _ => False
def W_come_handed : OA
  | [.d (.tuple [.int b, .tuple ds]), .d (.str x)], R => ∃ fs : List Str, ds = fs.map PyData.str ∧ StOk b fs ∧ isNameS x = true ∧ x ∉ fs ∧ fs.length < 40 ∧ R (.fl (sortD ((comeT b fs x).map enc3)))
  | _, _ => False
def W_go_handed : OA
  | [.d (.tuple [.int b, .tuple ds]), .d (.str x)], R => ∃ fs : List Str, ds = fs.map PyData.str ∧ StOk b fs ∧ x ∈ fs ∧ (1 < fs.length ∨ b = 0) ∧ R (.fl (sortD ((goT b fs x).map enc3)))
  | _, _ => False
local macro_rules | `(tactic| walk_at "w") => `(tactic| try simp -dsimp only [startE_0, startE_s, startE_n, posts, wNext, wSeq_e, wRet, wRetN, wDrop, wIf, wNever, wAsg, wPar, wTri, wNew, wRetF, wRetV, wApp, wExt, wSetL, wPutT, wAug, wFrz, wNewT, wgN, wgT, wgNil, wgCons, wmNil, wmV, wmL, wmT,
  wVar, readS, wK, wOp, oI, cT, oCmp, oEqv, datOf, oIsN, oAdd, oIx_l, oIx_q, oIx_t, IxK_0, IxK_1, IxK_2, IxK_3, oIn, wNeg, wAndV, wOrV, wNotV, wTst, wNot, wAnd, wOr, wIfE, wChain, wNil, wCons, allD, wTup, wLst, wC, wNoPart, wPart, wSl, oLen, wIsi, oInt, o2I, o1, lstOf, oListC, oTupC, oDGet_e, DgK_some, dLook, dkOf, dtOf, wDGet3, isDx, wSortIt,
  wISeq, wIRng1, wIRng2, wIStr, wIEnumT, wIZip, wLc, wYes, wLock, wDc, lcE, dcE, wOnlyD, wipeE, lockS, wCall, allNq, unF_d, unF_dk, unF_dt, unF_bag, unF_fl, nq_d, nq_dk, nq_dt, nq_bag, List.map_cons, List.map_nil, List.set_cons_zero, List.set_cons_succ, List.getElem?_cons_zero, List.getElem?_cons_succ, Option.map_some, Option.map_none, true_and, and_true, decide_eq_true_eq, Bool.not_eq_true', id, if_true, Bool.true_eq_false, Bool.false_eq_true, if_false, ite_true, ite_false, NN, List.length_cons, List.length_nil, List.length_map, Nat.zero_add, Nat.reduceAdd, Nat.reduceLeDiff, and_self, cDiv, cMul, List.append_nil, List.nil_append, wRev, wFor_e, flOnly_fl, List.replicate_succ, List.replicate_zero, Bool.not_true, Bool.not_false, bodyPost, tailPost, isTru, wAssert, Bool.not_eq_false', decide_eq_false_iff_not])
local macro_rules | `(tactic| walk_at "v") => `(tactic| try simp -dsimp only [startE_0, startE_s, startE_n, posts, wNext, wSeq_e, wRet, wRetN, wDrop, wIf, wNever, wAsg, wPar, wTri, wNew, wRetF, wRetV, wApp, wExt, wSetL, wPutT, wAug, wFrz, wNewT, wgN, wgT, wgNil, wgCons, wmNil, wmV, wmL, wmT,
  wVar, readS, wK, wOp, oI, cT, oCmp, oEqv, datOf, oIsN, oAdd, oIx_l, oIx_q, oIx_t, IxK_0, IxK_1, IxK_2, IxK_3, oIn, wNeg, wAndV, wOrV, wNotV, wTst, wNot, wAnd, wOr, wIfE, wChain, wNil, wCons, allD, wTup, wLst, wC, wNoPart, wPart, wSl, oLen, wIsi, oInt, o2I, o1, lstOf, oListC, oTupC, oDGet_e, DgK_some, dLook, dkOf, dtOf, wDGet3, isDx, wSortIt,
  wISeq, wIRng1, wIRng2, wIStr, wIEnumT, wIZip, wLc, wYes, wLock, wDc, lcE, dcE, wOnlyD, wipeE, lockS, wCall, allNq, unF_d, unF_dk, unF_dt, unF_bag, unF_fl, nq_d, nq_dk, nq_dt, nq_bag, List.map_cons, List.map_nil, List.set_cons_zero, List.set_cons_succ, List.getElem?_cons_zero, List.getElem?_cons_succ, Option.map_some, Option.map_none, true_and, and_true, decide_eq_true_eq, Bool.not_eq_true', id, if_true, Bool.true_eq_false, Bool.false_eq_true, if_false, ite_true, ite_false, NN, List.length_cons, List.length_nil, List.length_map, Nat.zero_add, Nat.reduceAdd, Nat.reduceLeDiff, and_self, cDiv, cMul, List.append_nil, List.nil_append, wRev, wFor_e, flOnly_fl, List.replicate_succ, List.replicate_zero, Bool.not_true, Bool.not_false, bodyPost, tailPost, isTru, wAssert, Bool.not_eq_false', decide_eq_false_iff_not, Hold, App, W_share, W_shares, W_paid_pairs, W_can_bill, W_can_come, W_can_go, W_billed, W_joined, W_parted, W_extras, W_bill_triples, W_come_triples, W_go_triples, stD, W_check_state, W_paid, Wb])
local macro_rules | `(tactic| walk_at "n") => `(tactic| (refine Hold_go ?_; walk_at "w"))
section
variable {P : Program} {w : World} {K : PySem.W.Frag} {mg : Str → Option Value} {base : Heap} {k0 k1 k2 : Tok}
end
end Dm
namespace Dm
open PySem L2 Pb
theorem perm_sum {a b : List Int} (h : a.Perm b) : a.sum = b.sum := by
  induction h with
  | nil => rfl
  | cons x _ ih => rw [List.sum_cons, List.sum_cons, ih]
  | swap x y l => simp only [List.sum_cons]; omega
  | trans _ _ i1 i2 => rw [i1, i2]
theorem share_eq {b : Int} {n p : Nat} (hb : 0 ≤ b) (hp : p < n) : shareZ b n p = b / n + (if (p : Int) < b % n then 1 else 0) := by
  have hn : (0 : Int) < n := by omega
  have h1 := Int.mul_ediv_add_emod b n
  have h2 := Int.emod_nonneg b (show (n : Int) ≠ 0 by omega)
  have h3 := Int.emod_lt_of_pos b hn
  generalize hq : b / (n : Int) = q at *
  generalize hr : b % (n : Int) = r at *
  unfold shareZ
  by_cases hlt : b < (p : Int)
  · rw [if_pos hlt]
    have hq0 : q = 0 := by rw [← hq]; exact Int.ediv_eq_zero_of_lt hb (by omega)
    have hr0 : r = b := by rw [← hr]; exact Int.emod_eq_of_lt hb (by omega)
    rw [hq0, hr0, if_neg (by omega)]; rfl
  · rw [if_neg hlt]
    have e : b - p + n - 1 = (r - p + n - 1) + n * q := by omega
    rw [e, Int.add_mul_ediv_left _ _ (show (n : Int) ≠ 0 by omega)]
    by_cases hpr : (p : Int) < r
    · rw [if_pos hpr]
      have e2 : r - p + n - 1 = (r - p - 1) + n * 1 := by omega
      rw [e2, Int.add_mul_ediv_left _ _ (show (n : Int) ≠ 0 by omega), Int.ediv_eq_zero_of_lt (by omega) (by omega)]
      omega
    · rw [if_neg hpr, Int.ediv_eq_zero_of_lt (by omega) (by omega)]
      omega
theorem sum_ind (r : Int) (h : 0 ≤ r) : ∀ n : Nat, ((List.range n).map fun (i : Nat) => if (i : Int) < r then (1 : Int) else 0).sum = if (n : Int) ≤ r then (n : Int) else r
  | 0 => by simp [h]
  | n + 1 => by
    rw [List.range_succ, List.map_append, List.sum_append, sum_ind r h n]
    simp only [List.map_cons, List.map_nil, List.sum_cons, List.sum_nil]
    split <;> split <;> split <;> omega
theorem sum_add {α : Type} (f g : α → Int) : ∀ l : List α, (l.map fun x => f x + g x).sum = (l.map f).sum + (l.map g).sum
  | [] => rfl
  | x :: l => by simp only [List.map_cons, List.sum_cons, sum_add f g l]; omega
theorem sum_sub {α : Type} (f g : α → Int) : ∀ l : List α, (l.map fun x => f x - g x).sum = (l.map f).sum - (l.map g).sum
  | [] => rfl
  | x :: l => by simp only [List.map_cons, List.sum_cons, sum_sub f g l]; omega
theorem sum_const {α : Type} (c : Int) : ∀ l : List α, (l.map fun _ => c).sum = l.length * c
  | [] => by simp
  | x :: l => by
    simp only [List.map_cons, List.sum_cons, sum_const c l, List.length_cons]
    rw [show ((l.length + 1 : Nat) : Int) = l.length + 1 by omega, Int.add_mul]; omega
/-- all bills are paid -/
theorem sum_shares {b : Int} {n : Nat} (hb : 0 ≤ b) (hn : 0 < n) : ((List.range n).map (shareZ b n)).sum = b := by
  have e : (List.range n).map (shareZ b n) = (List.range n).map fun (i : Nat) => b / n + (if (i : Int) < b % n then 1 else 0) := List.map_congr_left fun i hi => share_eq hb (List.mem_range.mp hi)
  rw [e, sum_add, sum_const, sum_ind _ (Int.emod_nonneg _ (by omega)), List.length_range]
  have h3 := Int.emod_lt_of_pos b (show (0 : Int) < n by omega)
  have h1 := Int.mul_ediv_add_emod b n
  rw [if_neg (by omega)]
  exact h1
theorem share_nonneg {b : Int} {n p : Nat} (hb : 0 ≤ b) (hp : p < n) : 0 ≤ shareZ b n p := by
  rw [share_eq hb hp]
  have := Int.ediv_nonneg hb (show (0 : Int) ≤ n by omega)
  split <;> omega
/-- those ahead never less -/
theorem share_anti {b : Int} {n p q : Nat} (hb : 0 ≤ b) (hpq : p ≤ q) (hq : q < n) : shareZ b n q ≤ shareZ b n p := by
  rw [share_eq hb hq, share_eq hb (by omega)]
  split <;> split <;> omega
theorem share_cent {b : Int} {n p q : Nat} (hb : 0 ≤ b) (hp : p < n) (hq : q < n) : shareZ b n p ≤ shareZ b n q + 1 := by
  rw [share_eq hb hq, share_eq hb hp]
  split <;> split <;> omega
/-- with greater bills nobody less -/
theorem share_mono {b c : Int} {n p : Nat} (h : b ≤ c) : shareZ b n p ≤ shareZ c n p := by
  unfold shareZ
  by_cases h1 : b < (p : Int)
  · rw [if_pos h1]
    by_cases h2 : c < (p : Int)
    · rw [if_pos h2]; exact Int.le_refl _
    · rw [if_neg h2]
      by_cases hn : n = 0
      · subst hn; simp
      · exact Int.ediv_nonneg (by omega) (by omega)
  · rw [if_neg h1, if_neg (by omega)]
    by_cases hn : n = 0
    · subst hn; simp
    · exact Int.ediv_le_ediv (by omega) (by omega)
/-- with more who are in nobody more -/
theorem share_more {b : Int} {n p : Nat} (hb : 0 ≤ b) (hp : p < n) : shareZ b (n + 1) p ≤ shareZ b n p := by
  unfold shareZ
  by_cases h1 : b < (p : Int)
  · rw [if_pos h1, if_pos h1]; exact Int.le_refl _
  · rw [if_neg h1, if_neg h1]
    have hn : (0 : Int) < n := by omega
    -- x / (n + 1) ≤ y / n with x = d + n, y = d + n - 1, d = b - p ≥ 0
    refine (Int.le_ediv_iff_mul_le hn).mpr ?_
    have hx : 0 ≤ b - p + ((n + 1 : Nat) : Int) - 1 := by omega
    have k0 := Int.ediv_nonneg hx (show (0 : Int) ≤ ((n + 1 : Nat) : Int) by omega)
    have k1 := Int.mul_ediv_add_emod (b - p + ((n + 1 : Nat) : Int) - 1) ((n + 1 : Nat) : Int)
    have k2 := Int.emod_nonneg (b - p + ((n + 1 : Nat) : Int) - 1) (show ((n + 1 : Nat) : Int) ≠ 0 by omega)
    generalize (b - p + ((n + 1 : Nat) : Int) - 1) / ((n + 1 : Nat) : Int) = k at *
    generalize (b - p + ((n + 1 : Nat) : Int) - 1) % ((n + 1 : Nat) : Int) = m at *
    have e : ((n + 1 : Nat) : Int) * k = n * k + k := by rw [show ((n + 1 : Nat) : Int) = n + 1 by omega, Int.add_mul]; omega
    rw [e] at k1
    have e2 : k * n = n * k := Int.mul_comm _ _
    rw [e2]
    by_cases hk : k = 0
    · subst hk; simp; omega
    · omega
theorem share_last {b : Int} {n : Nat} (hb : 0 ≤ b) : shareZ b (n + 1) n = b / ((n : Int) + 1) := by
  rw [share_eq hb (by omega)]
  have h3 := Int.emod_lt_of_pos b (show (0 : Int) < ((n + 1 : Nat) : Int) by omega)
  rw [if_neg (by omega)]
  rw [show ((n + 1 : Nat) : Int) = (n : Int) + 1 by omega]; omega
theorem look_in {kvs : List Si} {x : Str} {c : Int} (h : look kvs x = some c) : (x, c) ∈ kvs := by
  unfold look at h
  cases q : kvs.find? (fun q => decide (q.1 = x)) with
  | none => rw [q] at h; cases h
  | some p =>
    rw [q] at h
    have h1 := List.find?_some q
    have h2 := List.mem_of_find?_eq_some q
    have e1 : p.1 = x := by simpa using h1
    have e2 : p.2 = c := by simpa using h
    rw [← e1, ← e2]
    exact h2
theorem look_perm {l l' : List Si} (nd : (l.map (·.1)).Nodup) (p : l.Perm l') (x : Str) : look l' x = look l x := by
  have nd' : (l'.map (·.1)).Nodup := (p.map _).nodup_iff.mp nd
  cases h : look l x with
  | some c => exact look_mem nd' (q := (x, c)) (p.mem_iff.mp (look_in h))
  | none =>
    cases h' : look l' x with
    | none => rfl
    | some c =>
      have := look_mem nd (q := (x, c)) (p.mem_iff.mpr (look_in h'))
      rw [h] at this
      cases this
def sumOf (E : List Si) : Int := (E.map (·.2)).sum
theorem sum_named {E : List Si} (nd : (E.map (·.1)).Nodup) (x : Str) : sumOf (E.filter fun q => decide (q.1 = x)) = (look E x).getD 0 := by
  induction E with
  | nil => rfl
  | cons p r ih =>
    rw [List.map_cons, List.nodup_cons] at nd
    by_cases h : p.1 = x
    · rw [List.filter_cons_of_pos (by simpa using h)]
      have e : r.filter (fun q => decide (q.1 = x)) = [] := List.filter_eq_nil_iff.mpr fun q hq e => nd.1 (by rw [h, ← (of_decide_eq_true e : q.1 = x)]; exact List.mem_map.mpr ⟨q, hq, rfl⟩)
      rw [e]
      unfold look
      rw [List.find?_cons_of_pos (by simpa using h)]
      simp [sumOf]
    · rw [List.filter_cons_of_neg (by simpa using h), ih nd.2]
      unfold look
      rw [List.find?_cons_of_neg (by simpa using h)]
theorem extras_nd {M L : List Si} (nd : (M.map (·.1)).Nodup) : ((extrasL M L).map (·.1)).Nodup := by
  unfold extrasL
  rw [List.map_map]
  exact nd.sublist (List.filter_sublist.map _)
theorem extras_mem {M L : List Si} {q : Si} (h : q ∈ extrasL M L) : 1 ≤ q.2 ∧ q.1 ∈ M.map (·.1) := by
  unfold extrasL at h
  obtain ⟨p, hp, e⟩ := List.mem_map.mp h
  obtain ⟨h1, h2⟩ := List.mem_filter.mp hp
  have := of_decide_eq_true h2
  rw [← e]
  exact ⟨by show 1 ≤ p.2 - _; omega, List.mem_map.mpr ⟨p, h1, rfl⟩⟩
/-- what one has beyond -/
theorem look_extras {M L : List Si} (nd : (M.map (·.1)).Nodup) {x : Str} {m l : Int} (hm : look M x = some m) (hl : look L x = some l) (h : l ≤ m) : (look (extrasL M L) x).getD 0 = m - l := by
  by_cases h1 : l < m
  · have hin : (x, m - l) ∈ extrasL M L := by
      unfold extrasL
      exact List.mem_map.mpr ⟨(x, m), List.mem_filter.mpr ⟨look_in hm, by show decide ((look L x).getD 0 < m) = true; rw [hl]; exact decide_eq_true h1⟩, by show (x, m - (look L x).getD 0) = _; rw [hl]; rfl⟩
    rw [look_mem (extras_nd nd) hin]; rfl
  · have hno : x ∉ (extrasL M L).map (·.1) := fun hx => by
      obtain ⟨q, hq, e⟩ := List.mem_map.mp hx
      unfold extrasL at hq
      obtain ⟨p, hp, e2⟩ := List.mem_map.mp hq
      obtain ⟨h3, h4⟩ := List.mem_filter.mp hp
      have h4 := of_decide_eq_true h4
      have e3 : p.1 = x := by rw [← e, ← e2]
      have h5 := look_mem nd h3
      rw [e3, hm] at h5
      rw [e3, hl] at h4
      have := Option.some.inj h5
      simp at h4
      omega
    rw [look_none hno]
    show (0 : Int) = _
    omega
theorem extras_sum {M L : List Si} (h : ∀ q ∈ M, (look L q.1).getD 0 ≤ q.2) : sumOf (extrasL M L) = (M.map fun q => q.2 - (look L q.1).getD 0).sum := by
  induction M with
  | nil => rfl
  | cons p r ih =>
    have ih := ih fun q hq => h q (List.mem_cons_of_mem _ hq)
    unfold sumOf extrasL at ih ⊢
    rw [List.map_cons, List.sum_cons, ← ih]
    by_cases h1 : (look L p.1).getD 0 < p.2
    · rw [List.filter_cons_of_pos (by simpa using h1)]
      simp
    · rw [List.filter_cons_of_neg (by simpa using h1)]
      have := h p List.mem_cons_self
      have e : p.2 - (look L p.1).getD 0 = 0 := by omega
      rw [e]
      omega
theorem shares_map {α : Type} {b : Int} {fs : List Str} {F : Si → α} {G : Nat → α} (h : ∀ (i : Nat) (x : Str), fs[i]? = some x → F (x, shareZ b fs.length i) = G i) : (sharesL b fs).map F = (List.range fs.length).map G := by
  refine List.ext_getElem? fun i => ?_
  rw [List.getElem?_map, List.getElem?_map]
  cases hx : fs[i]? with
  | none =>
    have := List.getElem?_eq_none_iff.mp hx
    rw [List.getElem?_eq_none_iff.mpr (by rw [sharesL_len]; exact this), List.getElem?_eq_none_iff.mpr (by rw [List.length_range]; exact this)]; rfl
  | some x =>
    have lt := (List.getElem?_eq_some_iff.mp hx).1
    rw [sharesL_at hx, List.getElem?_range lt]
    exact congrArg some (h i x hx)
theorem sharesL_sum {b : Int} {fs : List Str} (hb : 0 ≤ b) (h : fs = [] → b = 0) : sumOf (sharesL b fs) = b := by
  unfold sumOf
  rw [shares_map (G := shareZ b fs.length) fun i x _ => rfl]
  by_cases hf : fs = []
  · subst hf; rw [h rfl]; rfl
  · exact sum_shares hb (List.length_pos_iff.mpr hf)
theorem mem_at {fs : List Str} {x : Str} (h : x ∈ fs) : ∃ i : Nat, fs[i]? = some x := List.mem_iff_getElem?.mp h
/-! one comes -/
theorem at_snoc {fs : List Str} {x y : Str} {i : Nat} (h : fs[i]? = some y) : (fs ++ [x])[i]? = some y := by
  rw [List.getElem?_append_left (List.getElem?_eq_some_iff.mp h).1]; exact h
theorem look_come {b : Int} {fs : List Str} {x y : Str} {i : Nat} (nd : (fs ++ [x]).Nodup) (h : fs[i]? = some y) : look (sharesL b (fs ++ [x])) y = some (shareZ b (fs.length + 1) i) := by
  have := look_shares (b := b) nd (at_snoc h)
  rw [List.length_append] at this
  exact this
theorem look_comer {b : Int} {fs : List Str} {x : Str} (nd : (fs ++ [x]).Nodup) : look (sharesL b (fs ++ [x])) x = some (shareZ b (fs.length + 1) fs.length) := by
  have := look_shares (b := b) nd (i := fs.length) (x := x) (by simp)
  rw [List.length_append] at this
  exact this
theorem come_le {b : Int} {fs : List Str} {x : Str} (hb : 0 ≤ b) (nd : (fs ++ [x]).Nodup) : ∀ q ∈ sharesL b fs, (look (sharesL b (fs ++ [x])) q.1).getD 0 ≤ q.2 := fun q hq => by
  obtain ⟨i, hi⟩ := List.mem_iff_getElem?.mp hq
  have lt : i < fs.length := by have := (List.getElem?_eq_some_iff.mp hi).1; rwa [sharesL_len] at this
  rw [sharesL_at (List.getElem?_eq_getElem lt)] at hi
  rw [← Option.some.inj hi]
  rw [look_come nd (List.getElem?_eq_getElem lt)]
  exact share_more hb lt
theorem come_sum {b : Int} {fs : List Str} {x : Str} (hb : 0 ≤ b) (hf : fs ≠ []) (nd : (fs ++ [x]).Nodup) : sumOf (extrasL (sharesL b fs) (sharesL b (fs ++ [x]))) = shareZ b (fs.length + 1) fs.length := by
  have hn := List.length_pos_iff.mpr hf
  rw [extras_sum (come_le hb nd), shares_map (G := fun i => shareZ b fs.length i - shareZ b (fs.length + 1) i) fun i y hy => by rw [look_come nd hy]; rfl, sum_sub, sum_shares hb hn]
  have h1 := sum_shares (n := fs.length + 1) hb (by omega)
  rw [List.range_succ, List.map_append, List.sum_append] at h1
  simp at h1
  omega
/-! one goes -/
theorem without_erase {fs : List Str} {x : Str} {k : Nat} (nd : fs.Nodup) (h : fs[k]? = some x) : without fs x = fs.eraseIdx k := by
  induction fs generalizing k with
  | nil => simp at h
  | cons y r ih =>
    rw [List.nodup_cons] at nd
    unfold without at ih ⊢
    cases k with
    | zero =>
      have e : y = x := by simpa using h
      subst e
      rw [List.filter_cons_of_neg (by simp)]
      show r.filter _ = r
      refine List.filter_eq_self.mpr fun z hz => ?_
      simp only [Bool.not_eq_true', decide_eq_false_iff_not]
      intro e
      rw [e] at hz
      exact nd.1 hz
    | succ k =>
      have h' : r[k]? = some x := by simpa using h
      have hn : y ≠ x := fun e => nd.1 (by rw [e]; exact List.mem_of_getElem? h')
      rw [List.filter_cons_of_pos (by simpa using hn), ih nd.2 h']
      rfl
def skip (k j : Nat) : Nat := if j < k then j else j + 1
theorem erase_at {fs : List Str} {k j : Nat} : (fs.eraseIdx k)[j]? = fs[skip k j]? := by
  rw [List.getElem?_eraseIdx]
  unfold skip
  split <;> rfl
theorem erase_len {fs : List Str} {k : Nat} (h : k < fs.length) : (fs.eraseIdx k).length = fs.length - 1 := by rw [List.length_eraseIdx, if_pos h]
theorem sum_skip (f : Nat → Int) (k : Nat) : ∀ n : Nat, k < n → ((List.range (n - 1)).map fun j => f (skip k j)).sum + f k = ((List.range n).map f).sum
  | 0, h => by omega
  | n + 1, h => by
    rw [Nat.add_sub_cancel, List.range_succ, List.map_append, List.sum_append]
    simp only [List.map_cons, List.map_nil, List.sum_cons, List.sum_nil]
    by_cases e : k = n
    · subst e
      have : ((List.range k).map fun j => f (skip k j)) = (List.range k).map f := List.map_congr_left fun j hj => by unfold skip; rw [if_pos (List.mem_range.mp hj)]
      rw [this]
      omega
    · have ih := sum_skip f k n (by omega)
      obtain ⟨m, rfl⟩ : ∃ m, n = m + 1 := ⟨n - 1, by omega⟩
      rw [Nat.add_sub_cancel] at ih
      rw [← ih, List.range_succ, List.map_append, List.sum_append]
      simp only [List.map_cons, List.map_nil, List.sum_cons, List.sum_nil]
      have : skip k m = m + 1 := by unfold skip; rw [if_neg (by omega)]
      rw [this]
      omega
theorem skip_lt {k j n : Nat} (hk : k < n) (hj : j < n - 1) : skip k j < n := by unfold skip; split <;> omega
theorem go_share {b : Int} {n k j : Nat} (hb : 0 ≤ b) (hk : k < n) (hj : j < n - 1) : shareZ b n (skip k j) ≤ shareZ b (n - 1) j := by
  obtain ⟨m, rfl⟩ : ∃ m, n = m + 1 := ⟨n - 1, by omega⟩
  rw [Nat.add_sub_cancel] at hj ⊢
  have h1 : j ≤ skip k j := by unfold skip; split <;> omega
  exact Int.le_trans (share_anti hb h1 (skip_lt hk (by omega))) (share_more hb hj)
theorem look_stay {b : Int} {fs : List Str} {x y : Str} {k j : Nat} (nd : fs.Nodup) (hk : fs[k]? = some x) (hj : (without fs x)[j]? = some y) : look (sharesL b (without fs x)) y = some (shareZ b (fs.length - 1) j) ∧ look (sharesL b fs) y = some (shareZ b fs.length (skip k j)) := by
  have lt := (List.getElem?_eq_some_iff.mp hk).1
  refine ⟨?_, ?_⟩
  · rw [look_shares (nd_without x nd) hj, without_erase nd hk, erase_len lt]
  · rw [without_erase nd hk, erase_at] at hj
    exact look_shares nd hj
theorem go_len {fs : List Str} {x : Str} {k : Nat} (nd : fs.Nodup) (hk : fs[k]? = some x) : (without fs x).length = fs.length - 1 := by rw [without_erase nd hk, erase_len (List.getElem?_eq_some_iff.mp hk).1]
theorem go_le {b : Int} {fs : List Str} {x : Str} {k : Nat} (hb : 0 ≤ b) (nd : fs.Nodup) (hk : fs[k]? = some x) : ∀ q ∈ sharesL b (without fs x), (look (sharesL b fs) q.1).getD 0 ≤ q.2 := fun q hq => by
  obtain ⟨j, hj⟩ := List.mem_iff_getElem?.mp hq
  have lt : j < (without fs x).length := by have := (List.getElem?_eq_some_iff.mp hj).1; rwa [sharesL_len] at this
  have hy := List.getElem?_eq_getElem lt
  rw [sharesL_at hy] at hj
  rw [← Option.some.inj hj]
  have h2 := (look_stay (b := b) nd hk hy).2
  rw [h2, go_len nd hk]
  rw [go_len nd hk] at lt
  exact go_share hb (List.getElem?_eq_some_iff.mp hk).1 lt
theorem go_sum {b : Int} {fs : List Str} {x : Str} {k : Nat} (hb : 0 ≤ b) (nd : fs.Nodup) (hk : fs[k]? = some x) (h1 : 1 < fs.length ∨ b = 0) : sumOf (extrasL (sharesL b (without fs x)) (sharesL b fs)) = shareZ b fs.length k := by
  have lt := (List.getElem?_eq_some_iff.mp hk).1
  rw [extras_sum (go_le hb nd hk), shares_map (G := fun j => shareZ b (fs.length - 1) j - shareZ b fs.length (skip k j)) fun j y hy => by
    rw [(look_stay (b := b) nd hk hy).2, go_len nd hk]; rfl, sum_sub, go_len nd hk]
  have e := sum_skip (shareZ b fs.length) k fs.length lt
  rw [sum_shares hb (by omega)] at e
  by_cases h2 : 1 < fs.length
  · rw [sum_shares hb (by omega)]
    omega
  · have hb0 : b = 0 := h1.resolve_left h2
    have h3 : fs.length - 1 = 0 := by omega
    rw [h3] at e ⊢
    simp at e ⊢
    omega
/-! a bill comes -/
theorem bill_le {b c : Int} {fs : List Str} (hc : 0 ≤ c) (nd : fs.Nodup) : ∀ q ∈ sharesL (b + c) fs, (look (sharesL b fs) q.1).getD 0 ≤ q.2 := fun q hq => by
  obtain ⟨i, hi⟩ := List.mem_iff_getElem?.mp hq
  have lt : i < fs.length := by have := (List.getElem?_eq_some_iff.mp hi).1; rwa [sharesL_len] at this
  rw [sharesL_at (List.getElem?_eq_getElem lt)] at hi
  rw [← Option.some.inj hi, look_shares nd (List.getElem?_eq_getElem lt)]
  exact share_mono (by omega)
theorem bill_sum {b c : Int} {fs : List Str} (hb : 0 ≤ b) (hc : 0 ≤ c) (nd : fs.Nodup) (hf : fs ≠ []) : sumOf (extrasL (sharesL (b + c) fs) (sharesL b fs)) = c := by
  have hn := List.length_pos_iff.mpr hf
  rw [extras_sum (bill_le hc nd), shares_map (G := fun i => shareZ (b + c) fs.length i - shareZ b fs.length i) fun i y hy => by rw [look_shares nd hy]; rfl, sum_sub, sum_shares hb hn, sum_shares (by omega) hn]
  omega
theorem sortD_map {α : Type} (f : α → PyData) (l : List α) : sortD (l.map f) = (l.mergeSort (PySem.W.dataLe false f)).map f := (PySem.W.sort_maps f fun a _ b _ => rfl).symm
end Dm
namespace Pb
open PySem L2
def spLawP (Ps : List Addr) (K : PySem.W.Frag) : Sp := fun vs H Q _ => ∃ (a : Addr) (ns : List Int), vs = [.ref a] ∧ SqL K H a (ns.map V.int) ∧ ns.length ≤ 63 ∧ (∀ P ∈ Ps, NdefX.TabN H P lamAt) ∧ ∀ H', Q (.bl true) H'
def spLaw (K : PySem.W.Frag) : Sp := fun vs H Q _ => ∃ (a : Addr) (ns : List Int), vs = [.ref a] ∧ SqL K H a (ns.map V.int) ∧ ns.length ≤ 63 ∧ ∀ H', Q (.bl true) H'
end Pb
namespace Dm
open PySem L2 Pb
/-! ### a law: for bag in bags .., then the rest -/
theorem isTrue_v {z : Fz} {H : Hp} {v : V} {x : Vx} (h : isTru x) (hx : Dv z H v x) : v = .bl true := by
  unfold isTru at h
  split at h
  · cases hx; rfl
  · exact h.elim
theorem nos_ok {z : Fz} {H : Hp} {σ : L2.St} {m : Nat} (n : z.n = NN) (al : AlS z H) (hl : σ.length = m) : Rp z σ H (List.replicate m .no) := ⟨n, al, by rw [List.length_replicate]; exact hl, fun i s q => by
  rw [List.getElem?_replicate] at q
  split at q
  · cases q; trivial
  · cases q⟩
theorem nos_plain {m i : Nat} {s : Slot} (q : (List.replicate m Slot.no)[i]? = some s) : plainS s := by
  rw [List.getElem?_replicate] at q
  split at q
  · cases q; trivial
  · cases q
theorem rs_of {z : Fz} {σ : L2.St} {H : Hp} {Γ : Ev} (r : Rp z σ H Γ) (pl : ∀ (i : Nat) (s : Slot), Γ[i]? = some s → plainS s) : Rs ⟨z, H, []⟩ z σ H Γ := { r with
  p := rfl, n0 := r.n, sub := fun _ h => h, al0 := r.al, ex := .refl _ _, fr := fun i s L q o => (plain_own (pl i s q) o).elim, nd := fun i j s t L q q' o o' => (plain_own (pl i s q) o).elim, ks := fun k hk => (nomatch hk), nl := fun i s q => plain_lk (pl i s q) }
theorem Rp.first {z : Fz} {σ : L2.St} {H : Hp} {s s0 : Slot} {Γ : Ev} (r : Rp z σ H (s :: Γ)) (h : SlotOk z H σ[0]? s0) : Rp z σ H (s0 :: Γ) := ⟨r.n, r.al, r.len, fun i u q => by
  match i, q with
  | 0, q => cases q; exact h
  | i + 1, q => exact r.sl (i + 1) u q⟩
theorem tab_hide {b P : Addr} {H : Hp} {xs : List V} (h : H b = some (.lst xs)) (t : NdefX.TabN H P lamAt) : NdefX.TabN (hid b H) P lamAt := by
  obtain ⟨ps, h1, h2, h3⟩ := t
  have g : Gd H b := .lst h
  refine ⟨ps, hid_at.mpr ⟨fun e => (g _ (by rw [← e]; exact h1)).1 ps rfl, h1⟩, h2, fun pos cv hc => ?_⟩
  obtain ⟨c, e1, e2⟩ := h3 pos cv hc
  exact ⟨c, e1, hid_at.mpr ⟨fun e => (g _ (by rw [← e]; exact e2)).2 _ _ rfl, e2⟩⟩
theorem tab_show {b P : Addr} {H : Hp} (t : NdefX.TabN (hid b H) P lamAt) : NdefX.TabN H P lamAt := t.ext fun b o e => (hid_at.mp e).2
theorem law_goS (T : List Addr) (s0 : Slot) (p0 : plainS s0) (o0 : ∀ (b : Addr) (H' : Hp) (o : Option (Option V)), SlotOk ⟨NN, b, [], T⟩ H' o s0) {K : PySem.W.Frag} {tb tt : TS} {wb wt : WS} {m : Nat} {E : XK} {lim : Int} {a : Addr} {ns : List Int} {σ : L2.St} {H : Hp} {D : Ends} (hbd : SndS tb wb) (ht : SndS tt wt) (hl : 1 ≤ lim ∧ lim ≤ 63) (hσ : σ.length = m + 2) (h0 : σ[0]? = some (some (.ref a))) (hS : SqL K H a (ns.map V.int)) (hT : ∀ P ∈ T, NdefX.TabN H P lamAt)
    (q : ∀ H', D.rt (.bl true) H') (w1 : wb (s0 :: .v .bag :: List.replicate m .no) (bodyPost m)) (w2 : wt (s0 :: List.replicate (m + 1) .no) tailPost) :
    tSeq (tFor (iSeq K (tCall (spBags K) [] E (tCons (tVar 0) (tCons (tC (.int lim)) tNil)))) (gName 1) tb) tt D σ H := by
  refine ⟨_, h0, a, ns, lim, rfl, hS, hl.1, hl.2, fun l bs H0 sm hL bags bl => .inl ⟨l, rfl, ⟨_, .inl (.inl hL)⟩, ?_⟩⟩
  have notl : ∀ {b qq : Addr} {H' : Hp}, H' l = some (.lst (bs.map V.ref)) → BagQ b qq H' → b ≠ l := fun {b qq H'} hl' hq e => by
    obtain ⟨k, xs, _, _, _, h4, _⟩ := hq
    rw [e, hl'] at h4
    have h5 := HO.lst.inj (Option.some.inj h4)
    have h6 : bs.length = 2 := by
      have := congrArg List.length h5
      rw [List.length_map] at this
      exact this
    match bs, h6 with
    | [b1, b2], _ => cases h5
  refine for_list (K := K) (xs := bs.map V.ref) (fun i σ' H' => σ'.length = m + 2 ∧ H' l = some (.lst (bs.map V.ref)) ∧ (∀ (j : Nat) (b : Addr), i ≤ j → bs[j]? = some b → ∃ q, BagQ b q H') ∧ ∀ P ∈ T, NdefX.TabN H' P lamAt) ⟨hσ, hL, fun j b _ hb => bags.2 b (List.mem_of_getElem? hb), fun P m => (hT P m).ext sm⟩ (fun i σ' H' _ w => .inl (.inl w.2.1)) (fun i x σ' H' hi w => ?_) fun σ' H' w => ?_
  · obtain ⟨hl', hL', hB, hTT⟩ := w
    obtain ⟨b, hb, rfl⟩ : ∃ b, bs[i]? = some b ∧ x = .ref b := by
      rw [List.getElem?_map] at hi
      cases e : bs[i]? with
      | none => rw [e] at hi; cases hi
      | some b => rw [e] at hi; exact ⟨b, rfl, (Option.some.inj hi).symm⟩
    obtain ⟨qq, bq⟩ := hB i b (Nat.le_refl i) hb
    have al : AlS ⟨NN, b, [], T⟩ H' := ⟨bag_al bq, fun _ h => (nomatch h), fun P m => by obtain ⟨_, _, _, _, _, f4, _⟩ := bq; exact tab_hide f4 (hTT P m)⟩
    have bagv : Dv ⟨NN, b, [], T⟩ H' (.ref b) .bag := ⟨rfl, qq, fun h => (nomatch h), bq⟩
    have r1 : Rp ⟨NN, b, [], T⟩ (σ'.set 1 (some (.ref b))) H' ((List.replicate (m + 2) .no).set 1 (.v .bag)) := (nos_ok rfl al hl').set trivial bagv
    have eΓ : (List.replicate (m + 2) Slot.no).set 1 (.v .bag) = .no :: .v .bag :: List.replicate m .no := by
      rw [List.replicate_succ, List.replicate_succ]; rfl
    rw [eΓ] at r1
    replace r1 := r1.first (s0 := s0) (o0 b H' _)
    have pl : ∀ (j : Nat) (s : Slot), (s0 :: .v .bag :: List.replicate m .no)[j]? = some s → plainS s := fun j s hs => by
      match j, hs with
      | 0, hs => cases hs; exact p0
      | 1, hs => cases hs; trivial
      | j + 2, hs => exact nos_plain (m := m) (i := j) (by simpa using hs)
    have r2 := rs_of r1 pl
    have next : ∀ z' σ2 H2 Γ2, Rs ⟨⟨NN, b, [], T⟩, H', []⟩ z' σ2 H2 Γ2 → Γ2.length = m + 2 → σ2.length = m + 2 ∧ H2 l = some (.lst (bs.map V.ref)) ∧ (∀ (j : Nat) (b : Addr), i + 1 ≤ j → bs[j]? = some b → ∃ q, BagQ b q H2) ∧ ∀ P ∈ T, NdefX.TabN H2 P lamAt := fun z' σ2 H2 Γ2 r3 hΓ => by
      have ex : ExB b H' H2 := r3.ex
      refine ⟨by rw [r3.len]; exact hΓ, ex.keep l _ (Ne.symm (notl hL' bq)) hL', fun j b' hj hb2 => ?_, fun P m => tab_show (ex.tabs P (al.3 P m))⟩
      obtain ⟨q2, k2, xs2, g1, g2, g3, g4, g5⟩ := hB j b' (by omega) hb2
      have nb : b' ≠ b := fun e => by
        have := (List.getElem?_inj (i := i) (j := j) (List.getElem?_eq_some_iff.mp hb).1 bags.1).mp (by rw [hb, hb2, e])
        omega
      have nq : q2 ≠ b := fun e => by
        obtain ⟨k3, xs3, _, _, _, f4, _⟩ := bq
        rw [e, f4] at g5
        have := congrArg List.length (HO.lst.inj (Option.some.inj g5))
        rw [List.length_map, g3] at this
        cases this
      exact ⟨q2, k2, xs2, g1, g2, g3, ex.keep _ _ nb g4, ex.keep _ _ nq g5⟩
    exact hbd.run _ _ _ H' _ _ (bodyPost m) r2 ⟨next, fun _ _ _ _ _ w => w.elim, next, fun v x H2 e nx hx w => by rw [isTrue_v w hx]; exact q H2, fun L vs ds H2 e nL hL hd hl w => w.elim⟩ w1
  · obtain ⟨hl', hL', _, hTT⟩ := w
    have al : AlS ⟨NN, l, [], T⟩ H' := ⟨⟨_, hL', fun _ e => nomatch e⟩, fun _ h => (nomatch h), fun P m => tab_hide hL' (hTT P m)⟩
    have r0 := nos_ok rfl al hl'
    rw [List.replicate_succ] at r0
    have r1 := rs_of (r0.first (s0 := s0) (o0 l H' _)) (fun i s q => by
      match i, q with
      | 0, q => cases q; exact p0
      | i + 1, q => exact nos_plain (m := m + 1) (i := i) (by simpa using q))
    exact ht.run _ _ σ' H' _ D tailPost r1 ⟨fun _ _ _ _ _ w => w.elim, fun _ _ _ _ _ w => w.elim, fun _ _ _ _ _ w => w.elim, fun v x H2 e nx hx w => by rw [isTrue_v w hx]; exact q H2, fun L vs ds H2 e nL hL hd hl w => w.elim⟩ w2
theorem law_go {K : PySem.W.Frag} {tb tt : TS} {wb wt : WS} {m : Nat} {E : XK} {lim : Int} {a : Addr} {ns : List Int} {σ : L2.St} {H : Hp} {D : Ends} (hbd : SndS tb wb) (ht : SndS tt wt) (hl : 1 ≤ lim ∧ lim ≤ 63) (hσ : σ.length = m + 2) (h0 : σ[0]? = some (some (.ref a))) (hS : SqL K H a (ns.map V.int))
    (q : ∀ H', D.rt (.bl true) H') (w1 : wb (.no :: .v .bag :: List.replicate m .no) (bodyPost m)) (w2 : wt (List.replicate (m + 2) .no) tailPost) :
    tSeq (tFor (iSeq K (tCall (spBags K) [] E (tCons (tVar 0) (tCons (tC (.int lim)) tNil)))) (gName 1) tb) tt D σ H := law_goS [] .no trivial (fun _ _ _ => trivial) hbd ht hl hσ h0 hS (fun _ h => nomatch h) q w1 w2
/-- where the law makes lambdas: slot 0 tells its table -/
theorem law_goP (Ps : List Addr) {K : PySem.W.Frag} {tb tt : TS} {wb wt : WS} {m : Nat} {E : XK} {lim : Int} {a : Addr} {ns : List Int} {σ : L2.St} {H : Hp} {D : Ends} (hbd : SndS tb wb) (ht : SndS tt wt) (hl : 1 ≤ lim ∧ lim ≤ 63) (hσ : σ.length = m + 2) (h0 : σ[0]? = some (some (.ref a))) (hS : SqL K H a (ns.map V.int)) (hT : ∀ P ∈ Ps, NdefX.TabN H P lamAt)
    (q : ∀ H', D.rt (.bl true) H') (w1 : wb (.tb Ps :: .v .bag :: List.replicate m .no) (bodyPost m)) (w2 : wt (.tb Ps :: List.replicate (m + 1) .no) tailPost) :
    tSeq (tFor (iSeq K (tCall (spBags K) [] E (tCons (tVar 0) (tCons (tC (.int lim)) tNil)))) (gName 1) tb) tt D σ H := law_goS Ps (.tb Ps) trivial (fun _ _ _ P h => h) hbd ht hl hσ h0 hS hT q w1 w2
end Dm
namespace Dm
open PySem L2 Pb
open PySem.W (AllAlike Sortable dataLe)
/-! ### == of data, how deep data is -/
theorem eqvAll_map {α : Type} [DecidableEq α] {f : α → PyData} (h : ∀ x y, PyData.eqv (f x) (f y) = decide (x = y)) : ∀ a b : List α, PyData.eqvAll (a.map f) (b.map f) = decide (a = b)
  | [], [] => by simp [PyData.eqvAll]
  | [], _ :: _ => by simp [PyData.eqvAll]
  | _ :: _, [] => by simp [PyData.eqvAll]
  | x :: a, y :: b => by
    rw [List.map_cons, List.map_cons, PyData.eqvAll, h, eqvAll_map h a b]
    by_cases h1 : x = y
    · by_cases h2 : a = b
      · simp [h1, h2]
      · simp [h1, h2]
    · simp [h1]
theorem eqv_list {α : Type} [DecidableEq α] {f : α → PyData} (h : ∀ x y, PyData.eqv (f x) (f y) = decide (x = y)) (a b : List α) : PyData.eqv (.list (a.map f)) (.list (b.map f)) = decide (a = b) := by
  rw [PyData.eqv]; exact eqvAll_map h a b
theorem eqv_tuple {α : Type} [DecidableEq α] {f : α → PyData} (h : ∀ x y, PyData.eqv (f x) (f y) = decide (x = y)) (a b : List α) : PyData.eqv (.tuple (a.map f)) (.tuple (b.map f)) = decide (a = b) := by
  rw [PyData.eqv]; exact eqvAll_map h a b
theorem eqv_encP (x y : Si) : PyData.eqv (encP x) (encP y) = decide (x = y) := by
  unfold encP
  rw [PyData.eqv, PyData.eqvAll, PyData.eqvAll, PyData.eqvAll, eqv_str, eqv_int]
  obtain ⟨a, b⟩ := x
  obtain ⟨c, d⟩ := y
  by_cases h1 : a = c <;> by_cases h2 : b = d <;> simp [h1, h2]
theorem eqv_enc3 (x y : Tr) : PyData.eqv (enc3 x) (enc3 y) = decide (x = y) := by
  unfold enc3
  rw [PyData.eqv, PyData.eqvAll, PyData.eqvAll, PyData.eqvAll, PyData.eqvAll, eqv_str, eqv_str, eqv_int]
  obtain ⟨a, b, e⟩ := x
  obtain ⟨c, d, f⟩ := y
  by_cases h1 : a = c <;> by_cases h2 : b = d <;> by_cases h3 : e = f <;> simp [h1, h2, h3]
theorem eqv_state (b c : Int) (fs gs : List Str) : PyData.eqv (.tuple [.int b, .tuple (fs.map PyData.str)]) (.tuple [.int c, .tuple (gs.map PyData.str)]) = (decide (b = c) && decide (fs = gs)) := by
  rw [PyData.eqv, PyData.eqvAll, PyData.eqvAll, PyData.eqvAll, eqv_int, eqv_tuple eqv_str]
  simp
theorem eqv_lnil {α : Type} {f : α → PyData} (a : List α) : PyData.eqv (.list (a.map f)) (.list []) = a.isEmpty := by
  cases a <;> simp [PyData.eqv, PyData.eqvAll]
theorem eqv_tnil {α : Type} {f : α → PyData} (a : List α) : PyData.eqv (.tuple (a.map f)) (.tuple []) = a.isEmpty := by
  cases a <;> simp [PyData.eqv, PyData.eqvAll]
theorem eqv_nil : PyData.eqv (.list []) (.list []) = true := by simp [PyData.eqv, PyData.eqvAll]
theorem depthAll_le {α : Type} {f : α → PyData} {k : Nat} (h : ∀ x, (f x).depth ≤ k) : ∀ l : List α, PyData.depthAll (l.map f) ≤ k
  | [] => by simp [PyData.depthAll]
  | x :: l => by rw [List.map_cons, PyData.depthAll]; exact Nat.max_le.mpr ⟨h x, depthAll_le h l⟩
theorem depth_list {α : Type} {f : α → PyData} {k : Nat} (h : ∀ x, (f x).depth ≤ k) (l : List α) : (PyData.list (l.map f)).depth ≤ k + 1 := by
  rw [PyData.depth]; exact Nat.succ_le_succ (depthAll_le h l)
theorem depth_tuple {α : Type} {f : α → PyData} {k : Nat} (h : ∀ x, (f x).depth ≤ k) (l : List α) : (PyData.tuple (l.map f)).depth ≤ k + 1 := by
  rw [PyData.depth]; exact Nat.succ_le_succ (depthAll_le h l)
theorem dl_int (l : List Int) : (PyData.list (l.map PyData.int)).depth ≤ 64 := Nat.le_trans (depth_list (k := 0) (fun x => by rw [depth_int]; exact Nat.le_refl _) l) (by decide)
theorem dl_str (l : List Str) : (PyData.list (l.map PyData.str)).depth ≤ 64 := Nat.le_trans (depth_list (k := 0) (fun x => by rw [depth_str]; exact Nat.le_refl _) l) (by decide)
theorem dt_str (l : List Str) : (PyData.tuple (l.map PyData.str)).depth ≤ 64 := Nat.le_trans (depth_tuple (k := 0) (fun x => by rw [depth_str]; exact Nat.le_refl _) l) (by decide)
theorem d_nil : (PyData.list []).depth ≤ 64 := by simp [PyData.depth, PyData.depthAll]
theorem d_tnil : (PyData.tuple []).depth ≤ 64 := by simp [PyData.depth, PyData.depthAll]
theorem d_int (x : Int) : (PyData.int x).depth ≤ 64 := by rw [depth_int]; decide
theorem d_str (x : Str) : (PyData.str x).depth ≤ 64 := by rw [depth_str]; decide
theorem d_none : PyData.none.depth ≤ 64 := by simp [PyData.depth]
theorem d_bool (b : Bool) : (PyData.bool b).depth ≤ 64 := by simp [PyData.depth]
theorem d_encP (x : Si) : (encP x).depth ≤ 1 := by simp [encP, PyData.depth, PyData.depthAll]
theorem d_enc3 (x : Tr) : (enc3 x).depth ≤ 1 := by simp [enc3, PyData.depth, PyData.depthAll]
theorem dl_encP (l : List Si) : (PyData.list (l.map encP)).depth ≤ 64 := Nat.le_trans (depth_list d_encP l) (by decide)
theorem dl_enc3 (l : List Tr) : (PyData.list (l.map enc3)).depth ≤ 64 := Nat.le_trans (depth_list d_enc3 l) (by decide)
theorem d_state (b : Int) (fs : List Str) : (PyData.tuple [.int b, .tuple (fs.map PyData.str)]).depth ≤ 64 := by
  rw [PyData.depth, PyData.depthAll, PyData.depthAll, PyData.depthAll, depth_int]
  have := depth_tuple (f := PyData.str) (k := 0) (fun x => by rw [depth_str]; exact Nat.le_refl _) fs
  omega
/-! ### sorted -/
def srtP (l : List Si) : List Si := l.mergeSort (dataLe false encP)
def srt3 (l : List Tr) : List Tr := l.mergeSort (dataLe false enc3)
theorem sortP_eq (l : List Si) : sortD (l.map encP) = (srtP l).map encP := sortD_map encP l
theorem sort3_eq (l : List Tr) : sortD (l.map enc3) = (srt3 l).map enc3 := sortD_map enc3 l
theorem srtP_perm (l : List Si) : (srtP l).Perm l := List.mergeSort_perm _ _
theorem srt3_perm (l : List Tr) : (srt3 l).Perm l := List.mergeSort_perm _ _
theorem srtP_nd {l : List Si} (nd : (l.map (·.1)).Nodup) : ((srtP l).map (·.1)).Nodup := ((srtP_perm l).map _).nodup_iff.mpr nd
theorem look_srtP {l : List Si} (nd : (l.map (·.1)).Nodup) (x : Str) : look (srtP l) x = look l x := look_perm nd (srtP_perm l).symm x
/-! ### drawn states -/
theorem names_ok : ∀ x ∈ namesL, isNameS x = true := by decide +kernel
theorem zed_new : (Str.ofString "zed") ∉ namesL := by decide +kernel
structure Dr (most : Nat) (far b : Int) (fs : List Str) : Prop where
  b0 : 0 ≤ b
  b1 : b ≤ 59 ∨ b ≤ far
  nd : fs.Nodup
  len : fs.length ≤ most
  nm : ∀ x ∈ fs, x ∈ namesL
  em : fs = [] → b = 0
theorem drawn_dr {most : Nat} {far : Int} {d : PyData} (h : Drawn most far d) : ∃ b fs, d = .tuple [.int b, .tuple (fs.map PyData.str)] ∧ Dr most far b fs := by
  obtain ⟨b, fs, h1, h2, h3, h4, h5, h6, h7⟩ := h.ex
  exact ⟨b, fs, h1, h2, h3, h4, h5, fun x hx => List.mem_of_mem_take (h6 x hx), h7⟩
theorem Dr.ok {most : Nat} {far b : Int} {fs : List Str} (h : Dr most far b fs) (hm : most ≤ 40) (hf : far ≤ 1000000000000000000) : StOk b fs := ⟨h.b0, by have := h.b1; omega, h.nd, Nat.le_trans h.len hm, fun x hx => names_ok x (h.nm x hx), h.em⟩
theorem Dr.zed {most : Nat} {far b : Int} {fs : List Str} (h : Dr most far b fs) : (Str.ofString "zed") ∉ fs := fun hm => zed_new (h.nm _ hm)
theorem StOk.come {b : Int} {fs : List Str} {x : Str} (h : StOk b fs) (hx : x ∉ fs) (hn : isNameS x = true) (hl : fs.length < 40) : StOk b (fs ++ [x]) := ⟨h.b0, h.b1, nd_snoc h.nd hx, by rw [List.length_append]; exact hl, fun y hy => by
  rcases List.mem_append.mp hy with e | e
  · exact h.nm y e
  · rw [List.mem_singleton.mp e]; exact hn, fun e => by simp at e⟩
theorem StOk.go {b : Int} {fs : List Str} {x : Str} (h : StOk b fs) (hx : x ∈ fs) (hl : 1 < fs.length ∨ b = 0) : StOk b (without fs x) := by
  obtain ⟨k, hk⟩ := mem_at hx
  have hlen := go_len h.nd hk
  refine ⟨h.b0, h.b1, nd_without x h.nd, by have := h.len; omega, fun y hy => h.nm y (List.mem_filter.mp hy).1, fun e => ?_⟩
  rcases hl with h1 | h1
  · rw [e] at hlen
    simp at hlen
    omega
  · exact h1
theorem StOk.bill {b c : Int} {fs : List Str} (h : StOk b fs) (hc : 0 ≤ c) (hf : fs ≠ []) (hm : b + c ≤ 1000000000000000000) : StOk (b + c) fs := ⟨by have := h.b0; omega, hm, h.nd, h.len, h.nm, fun e => absurd e hf⟩
/-! ### calls -/
theorem go_take {m : Int} {R : Vx → Prop} {u : Box R} (h : 0 < m) (k : ∀ r : Int, 0 ≤ r → r < m → R (.d (.int r))) : App W__law_take [.bag, .d (.int m)] R u := ⟨h, k⟩
theorem go_state {m far : Int} {R : Vx → Prop} {u : Box R} (h : 0 ≤ m ∧ m ≤ 58 ∧ 0 ≤ far) (k : ∀ b fs, Dr m.toNat far b fs → R (.d (.tuple [.int b, .tuple (fs.map PyData.str)]))) : App W__law_a_state [.bag, .d (.int m), .d (.int far)] R u := ⟨h, fun d hd => by
  obtain ⟨b, fs, rfl, hD⟩ := drawn_dr hd
  exact k b fs hD⟩
theorem go_paid {b : Int} {fs : List Str} {R : Vx → Prop} {u : Box R} (ok : StOk b fs) (k : R (.fl ((srtP (sharesL b fs)).map encP))) : App W_paid [.d (.tuple [.int b, .tuple (fs.map PyData.str)])] R u := ⟨fs, rfl, ok, by rw [sortP_eq]; exact k⟩
theorem go_bill {b c : Int} {fs : List Str} {R : Vx → Prop} {u : Box R} (ok : StOk b fs) (c0 : 0 ≤ c) (ne : fs ≠ []) (hm : b + c ≤ 1000000000000000000) (k : R (.fl ((srt3 (billT b fs c)).map enc3))) : App W_bill_handed [.d (.tuple [.int b, .tuple (fs.map PyData.str)]), .d (.int c)] R u := ⟨fs, rfl, ok, c0, ne, hm, by rw [sort3_eq]; exact k⟩
theorem go_come {b : Int} {fs : List Str} {x : Str} {R : Vx → Prop} {u : Box R} (ok : StOk b fs) (hn : isNameS x = true) (hx : x ∉ fs) (hl : fs.length < 40) (k : R (.fl ((srt3 (comeT b fs x)).map enc3))) : App W_come_handed [.d (.tuple [.int b, .tuple (fs.map PyData.str)]), .d (.str x)] R u := ⟨fs, rfl, ok, hn, hx, hl, by rw [sort3_eq]; exact k⟩
theorem go_go {b : Int} {fs : List Str} {x : Str} {R : Vx → Prop} {u : Box R} (ok : StOk b fs) (hx : x ∈ fs) (hl : 1 < fs.length ∨ b = 0) (k : R (.fl ((srt3 (goT b fs x)).map enc3))) : App W_go_handed [.d (.tuple [.int b, .tuple (fs.map PyData.str)]), .d (.str x)] R u := ⟨fs, rfl, ok, hx, hl, by rw [sort3_eq]; exact k⟩
theorem go_names {m : Int} {R : Vx → Prop} {u : Box R} (h : 0 ≤ m) (k : R (.d (.list ((namesL.take m.toNat).map PyData.str)))) : App W__law_names [.d (.int m)] R u := ⟨h, k⟩
theorem go_mixed {m : Int} {R : Vx → Prop} {u : Box R} (h : 0 ≤ m ∧ m ≤ 1000) (k : ∀ xs : List Int, Mix m.toNat xs → R (.d (.tuple (xs.map PyData.int)))) : App W__law_mixed [.bag, .d (.int m)] R u := ⟨h, k⟩
/-- one of two -/
theorem ix2 {x y : PyData} {r : Int} {R : Vx → Prop} {u : Box R} (h0 : 0 ≤ r) (h1 : r < 2) (hx : r = 0 → R (.d x)) (hy : r = 1 → R (.d y)) : IxK [x, y] r R u := by
  rcases (by omega : r = 0 ∨ r = 1) with h | h
  · subst h; exact IxK_of (atI_0 x [y]) (hx rfl)
  · subst h; exact IxK_of (atI_1 x y []) (hy rfl)
theorem atI_pos {α : Type} {l : List α} {i : Int} (h0 : 0 ≤ i) (h1 : i < l.length) : ∃ x, atI l i = some x ∧ l[i.toNat]? = some x := by
  have lt : i.toNat < l.length := by omega
  refine ⟨l[i.toNat], ?_, List.getElem?_eq_getElem lt⟩
  have := atI_nat (j := i.toNat) (List.getElem?_eq_getElem lt)
  rw [show ((i.toNat : Nat) : Int) = i by omega] at this
  exact this
end Dm
/-! several except clauses, each of them binding the caught one to a name -/
namespace Xt
open PySem PySem.Spec PyProof.Rows L2
abbrev Sts := Addr → Value → Option Addr → TS
/-- how a suite ends: its name is gone -/
abbrev ends (D : Ends) (i : Nat) : Ends where
  nx := fun τ G => D.nx (τ.set i none) G
  rt := D.rt
  bk := fun τ G => D.bk (τ.set i none) G
  ct := fun τ G => D.ct (τ.set i none) G
/-- the clauses, one behind the other -/
def wish (K : PySem.W.Frag) (i : Nat) (D : Ends) (out : WX) : List (Value × Sts) → WX
  | [] => out
  | q :: more => fun cls d τ G => ∃ m, PySem.W.exmOne K cls q.1 = some m ∧ (m = true → ∀ a, G a = none → q.2 a cls d (ends D i) (τ.set i (some (.ref a))) G) ∧ (m = false → wish K i D out more cls d τ G)
inductive Clauses (X : Cx) (n : Str) : List ExceptHandler → List (Value × Sts) → Prop
  | none : Clauses X n [] []
  | one {y : Str} {c : Value} {ts : Sts} {b : Stmt} {bs : List Stmt} {p1 p2 : Pos} {hs : List ExceptHandler} {l : List (Value × Sts)} (names : Names X y c)
      (suite : ∀ (a : Addr) (o : Obj) (cls : Value) (d : Option Addr) (pn : List (Addr × Obj)), L2N.Zn cls d o → (∃ fs, o.data = .fields fs) → PSs (X.suite a ((a, o) :: pn)) (b :: bs) (ts a cls d)) (more : Clauses X n hs l) :
      Clauses X n (ExceptHandler.ExceptHandler (some (Expr.Name y p1)) (some n) (b :: bs) p2 :: hs) ((c, ts) :: l)
/-- the exception a has been caught: in st it is set down; sI is the state that it was raised in -/
structure Caught (X : Cx) (pins : List (Addr × Obj)) (τ : L2.St) (G : Hp) (cls : Value) (d : Option Addr) (a : Addr) (ground : Heap) (sI st : Shared) : Prop where
  inv : Inv X pins τ G sI
  kept : ∀ b o, sI.heap.get? b = some o → b ∉ frs X.stack → ground.get? b = some o
  slots : sI.heap.UpToSlots st.heap
  flying : HandSPX.FlyingZ ground (X.env :: X.outer) a (L2N.Zn cls d) st.heap
  fresh : G a = none
  os : st.os = sI.os
  bare : AllBare st.gens
section
variable {X : Cx} {pins : List (Addr × Obj)} {τ : L2.St} {G : Hp} {cls : Value} {d : Option Addr} {a : Addr} {ground : Heap} {sI st : Shared}
theorem Caught.here (k : Caught X pins τ G cls d a ground sI st) : Inv X pins τ G st := k.inv.landed k.kept k.flying.1 k.slots k.os k.bare
theorem Caught.away (k : Caught X pins τ G cls d a ground sI st) (hf : X.env.frame = some X.env.locals) : a ≠ X.env.locals ∧ a ∉ X.fs := by
  obtain ⟨o, fs, ho, _, hfs⟩ := k.flying.there
  have off : a ∉ frs (X.env :: X.outer) := fun m => by
    obtain ⟨_, o2, h2, no⟩ := k.flying.2.2.1.mem m
    cases ho.symm.trans h2
    exact no _ hfs
  refine ⟨fun e => off ?_, fun m => off ?_⟩
  · rw [e]
    exact List.mem_filterMap.mpr ⟨_, List.mem_cons_self, hf⟩
  · obtain ⟨v, hv, r⟩ := List.mem_filterMap.mp m
    exact List.mem_filterMap.mpr ⟨v, List.mem_cons_of_mem _ hv, r⟩
/-- the same one, set down once more -/
theorem Caught.move (k : Caught X pins τ G cls d a ground sI st) {h : Heap} (fl : HandSPX.FlyingZ ground (X.env :: X.outer) a (L2N.Zn cls d) h) (u : st.heap.UpToSlots h) : Caught X pins τ G cls d a ground sI { st with heap := h } :=
  ⟨k.inv, k.kept, k.slots.trans u, fl, k.fresh, k.os, k.bare⟩
/-- a clause's class is told, and it is seen whether it is the exception's -/
theorem Caught.test (k : Caught X pins τ G cls d a ground sI st) (hf : X.env.frame = some X.env.locals) {y : Str} {c : Value} {p : Pos} {m : Bool} (names : Names X y c) (hm : PySem.W.exmOne X.K cls c = some m) {Q : Bool → Shared → Prop} {E E' : Value → Shared → Prop} (q : Q m st) :
    wpAny (model X.prog X.w) (X.A.mark (some (.ref a))) (eval (.Name y p) X.env) (fun v s1 => wpAny (model X.prog X.w) (X.A.mark (some (.ref a))) (excMatches (.ref a) v) Q E' s1) E st := by
  obtain ⟨o, fs, ho, hz, hfs⟩ := k.flying.there
  have S := k.here.suite ho hfs k.fresh (k.away hf).1 (k.away hf).2
  have ty : PySem.W.Looks (model X.prog X.w) st.heap (typeOf (.ref a)) cls := fun _ _ _ _ same w => wpAny_typeOf_ref (same _ _ ho) (by rw [hz.1]; exact w)
  have yes := (PySem.W.exm_one (M := model X.prog X.w) k.here.kIn ty hm).here (A := X.A.mark (some (.ref a))) (E := E') q
  obtain ⟨g, dbg, at1 | ⟨no, boot, nn⟩⟩ := names
  · exact ld_glob (X := X.suite a _) S g at1 yes dbg
  · exact ld_blt (X := X.suite a _) S g no boot yes nn dbg
theorem Caught.pass (k : Caught X pins τ G cls d a ground sI st) (hs : X.stack = X.env :: X.outer) (hf : X.env.frame = some X.env.locals) {W : WX} (tk : L2N.Takes X W) (w : W cls d τ G) {Q : Flow → Shared → Prop} : wpAny (model X.prog X.w) X.A (handleBy (.ref a) X.env []) Q X.xe st := by
  refine wpAny_handleBy_nil ?_
  have up : wpAny (model X.prog X.w) X.A (setFlight (.ref a) X.env.frame) (fun _ s1 => wpAny (model X.prog X.w) X.A (throw (.ref a) : Sem Flow) Q X.xe s1) X.xe st := by
    rw [hf]
    refine HandSPX.setFlight_upZ k.flying fun h held u => wpAny_throw (tk _ _ ⟨a, ground, sI, pins, τ, G, cls, d, rfl, k.inv, k.kept, k.slots.trans u, ?_, k.fresh, k.os, k.bare, w⟩)
    rw [hs]
    exact Or.inr (Or.inr held)
  obtain ⟨_, _, _, o, fs, tb, _, _, ho, _, hfs, h1, _⟩ := k.flying
  have some_ : ¬ ((Value.ref tb == Value.none) = true) := by simp
  unfold PySem.passOn
  refine wpAny_bind (wpAny_field ho hfs h1 ?_)
  rw [if_neg some_]
  first
    | exact wpAny_bind up
    | exact wpAny_bind (wpAny_pure (wpAny_bind up))
theorem Caught.clauses {i : Nat} {n : Str} {D : Ends} {W : WX} (hs : X.stack = X.env :: X.outer) (hf : X.env.frame = some X.env.locals) (nd : X.N.Nodup) (at_ : X.N[i]? = some n) (loc : X.env.kindOf n = some .local) (tk : L2N.Takes X W) {hds : List ExceptHandler} {l : List (Value × Sts)} (cs : Clauses X n hds l) :
    Caught X pins τ G cls d a ground sI st → wish X.K i D W l cls d τ G → wpAny (model X.prog X.w) X.A (handleBy (.ref a) X.env hds) (SP X pins D) X.xe st := by
  induction cs with
  | none => exact fun k w => k.pass hs hf tk w
  | one names suite _ ih =>
    intro k ⟨m, hm, yes, no⟩
    refine wpAny_handleBy_cons (codeAny_handlers_test (k.test hf names hm ?_)) (fun e => nomatch e)
    cases m with
    | false => exact ih k (no rfl)
    | true =>
      refine codeAny_handlers_suite_as (HandSPX.lands_againZ k.flying fun h fl u => ?_)
      have k2 := k.move fl u
      obtain ⟨o, fs, ho, hz, hfs⟩ := k2.flying.there
      have S := k2.here.suite ho hfs k2.fresh (k2.away hf).1 (k2.away hf).2
      refine store_ok (X := X.suite a ((a, o) :: (X.pn ++ pins))) (v := V.ref a) S nd at_ (Or.inl loc) rfl (fun s5 S5 => ?_) (Or.inr loc)
      have run := (suite a o cls d (X.pn ++ pins) hz ⟨fs, hfs⟩).run [] s5 (τ.set i (some (.ref a))) G (ends D i) S5 (yes rfl a k2.fresh)
      refine wpAny_mono run (fun fl6 s6 hq => ?_) fun _ _ z => z.elim
      match fl6, hq with
      | .next, ⟨τ6, G6, S6, q6⟩ => exact gone_ok (S6.unsuite k.inv.ok) nd at_ loc fun s7 J => ⟨_, G6, J, q6⟩
      | .brk, ⟨τ6, G6, S6, q6⟩ => exact gone_ok (S6.unsuite k.inv.ok) nd at_ loc fun s7 J => ⟨_, G6, J, q6⟩
      | .cont, ⟨τ6, G6, S6, q6⟩ => exact gone_ok (S6.unsuite k.inv.ok) nd at_ loc fun s7 J => ⟨_, G6, J, q6⟩
      | .ret u6, ⟨v6, τ6, G6, S6, r6, q6⟩ => exact gone_ok (S6.unsuite k.inv.ok) nd at_ loc fun s7 J => ⟨v6, _, G6, J, r6, q6⟩
/-- try: body; except .. as n: ..; except .. as n: .. -/
theorem ps_tryAs {body : List Stmt} {h0 : ExceptHandler} {hds : List ExceptHandler} {l : List (Value × Sts)} {pos : Pos} {tb : WX → TS} {W : WX} {i : Nat} {n : Str} (hs : X.stack = X.env :: X.outer) (hf : X.env.frame = some X.env.locals) (nd : X.N.Nodup) (at_ : X.N[i]? = some n) (loc : X.env.kindOf n = some .local) (tk : L2N.Takes X W)
    (hb : ∀ (V : WX) (pn : List (Addr × Obj)) (xe : Value → Shared → Prop), L2N.Takes (X.tr pn xe) V → PSs (X.tr pn xe) body (tb V)) (cs : Clauses X n (h0 :: hds) l) :
    PS X (.Try body (h0 :: hds) [] [] pos) (fun D τ G => tb (wish X.K i D W l) D τ G) := by
  refine ⟨fun pins st τ G D J h => wpAny_Try_except ?_⟩
  have inner := (hb (wish X.K i D W l) (X.pn ++ pins) (fun e s1 => wpAny (model X.prog X.w) X.A (noteFrame e X.env) (fun _ s2 => wpAny (model X.prog X.w) X.A (setFlight e none) (fun _ s3 => wpAny (model X.prog X.w) X.A (handleBy e X.env (h0 :: hds)) (SP X pins D) X.xe s3) X.xe s2) X.xe s1) ?landing).run [] st τ G D (J.toTry _) h
  case landing =>
    rintro e s1 ⟨a, ground, sI, pins2, τ2, G2, cls, d, rfl, J2, kept, slots, sky, fresh, os, bare, w⟩
    rw [show (X.tr (X.pn ++ pins) _).stack = X.env :: X.outer from hs] at sky
    have frames : X.A.frames = some (X.env :: X.outer) := by rw [J.ok.frames, hs]
    exact L2N.Sky.land L2N.Zn.steady frames hf sky fun h fl u => Caught.clauses hs hf nd at_ loc tk cs ⟨J2.ofTry J.ok, kept, slots.trans u, fl, fresh, os, bare⟩ w
  refine wpAny_mono inner (fun f s1 q => ?_) fun _ _ z => z
  match f, q with
  | .next, ⟨τ2, G2, J2, q⟩ => exact wpAny_execs_nil ⟨τ2, G2, J2.ofTry J.ok, q⟩
  | .brk, ⟨τ2, G2, J2, q⟩ => exact ⟨τ2, G2, J2.ofTry J.ok, q⟩
  | .cont, ⟨τ2, G2, J2, q⟩ => exact ⟨τ2, G2, J2.ofTry J.ok, q⟩
  | .ret u, ⟨v, τ2, G2, J2, r, q⟩ => exact ⟨v, τ2, G2, J2.ofTry J.ok, r, q⟩
end
end Xt
/-! lists walked and pairs taken apart while an exception is handled -/
namespace Xh
open PySem PySem.Spec PyProof.Rows HotX
section
variable {P : Program} {w : World} {A : Around} {E : Value → Shared → Prop} {st : Shared}
/-- heaps: all but one thing stands -/
abbrev But (k : Addr) (g g' : Heap) : Prop := ∀ b o, b ≠ k → g.get? b = some o → g'.get? b = some o
theorem stop_hot {x k : Addr} {g : Heap} {Q : Option Value → Shared → Prop} {R : Fin → Shared → Prop} (hot : HotAt A x g) (old : But k st.heap g) (fin : ∀ g', But k st.heap g' → Q none { st with heap := g' }) :
    wpAny (model P w) A.in1 (newExc (.type "StopIteration") [] >>= fun v => (raiseNew v : Sem Fin)) R (fun v s1 => wpAny (model P w) A (do if ← isInstance v (.type "StopIteration") then pure none else throw v) Q E s1) { st with heap := g } := by
  obtain ⟨hx, o, fs, ho, hf, hc⟩ := hot
  have push2 : ∀ {a b : Obj} {c : Addr} {u : Obj}, g.get? c = some u → ((g.push a).push b).get? c = some u := fun e => Heap.get?_push_of_some _ (Heap.get?_push_of_some _ e)
  simp only [newExc, newTuple]
  refine wpAny_bind (wpAny_bind (wpAny_newObj_type (wpAny_bind (m := firstArgMember _ _) (wpAny_of_eq (a := Value.none) (by first | rfl | (simp only [firstArgMember]; rfl)) (wpAny_newObj_type ?_ (by size_fits)))) (by size_fits)))
  refine raiseNew_hot (x1 := x) ⟨hx, o, fs, push2 ho, hf, hc⟩ (Nat.ne_of_lt (Heap.lt_size (Heap.get?_push_of_some _ ho))) (Heap.get?_push_size _ rfl) rfl (by first | (simp; done) | (simp; omega)) ?_
  refine wpAny_bind (wpAny_isInstance (b := true) ⟨_, Heap.get?_update_self _ (Heap.get?_push_size _ rfl) rfl, rfl⟩ isSubtype_stop (wpAny_pure (fin _ fun b u hb e => ?_)))
  have e2 := old b u hb e
  rw [Heap.get?_update_other _ _ (Nat.ne_of_gt (Heap.lt_size (Heap.get?_push_of_some _ e2)))]
  exact push2 e2
theorem list_stop {k l x : Addr} {i : Nat} {xs : Array Value} {Q : Option Value → Shared → Prop} (hot : HotAt A x st.heap) (nx : x ≠ k) (it : st.heap.IsListIter k l i) (src : st.heap.IsList l xs) (over : xs[i]? = none) (fin : ∀ g', But k st.heap g' → Q none { st with heap := g' }) : wpAny (model P w) A (pyNext (.ref k)) Q E st := by
  obtain ⟨hx, oh, fs, hoh, hfs, hcx⟩ := hot
  obtain ⟨ok, hok, _, dk⟩ := id it
  obtain ⟨ol, hol, _, m, dl⟩ := src
  have full : ¬ ((Value.ref l == Value.none) = true) := Bool.false_ne_true
  unfold pyNext
  refine wpAny_bind (wpAny_attempt (wpAny_callSpecial?_slot (name := Str.ofString "__next__") it.typeIs slot_listiter_next (wpAny_call_entry slot_listiter_next it.typeIs entry_listiter_next ?_ (args_listiter_next _))))
  refine wpAny_bind (m := field (.ref k) 0) (wpAny_field hok dk (x := .ref l) rfl ?_)
  show wpAny _ _ (ite ((Value.ref l == Value.none) = true) _ _) _ _ st
  rw [if_neg full]
  refine wpAny_bind (m := field (.ref k) 1) (wpAny_field hok dk (x := .int i 0) rfl (wpAny_bind (m := seqItems? (.ref l)) (wpAny_seqItems hol dl ?_)))
  simp only [over, Int.toNat_natCast]
  refine wpAny_bind (wpAny_rule (wpAny_bind (wpAny_setField hok dk (by simp) ?_)))
  unfold Builtin.SmallTypes.stopIteration
  refine stop_hot (x := x) (k := k) ⟨hx, oh, fs, ?_, hfs, hcx⟩ (fun b u hb e => ?_) fin
  · exact (Heap.SameBut.update ..).extBut x oh nx hoh
  · exact (Heap.SameBut.update ..).extBut b u hb e
theorem tuple_stop {k l x : Addr} {i : Nat} {xs : Array Value} {Q : Option Value → Shared → Prop} (hot : HotAt A x st.heap) (nx : x ≠ k) (it : IsTupIter st.heap k l i) (src : IsTup st.heap l xs) (over : xs[i]? = none) (fin : ∀ g', But k st.heap g' → Q none { st with heap := g' }) : wpAny (model P w) A (pyNext (.ref k)) Q E st := by
  obtain ⟨hx, oh, fs, hoh, hfs, hcx⟩ := hot
  obtain ⟨ok, hok, _, dk⟩ := id it
  obtain ⟨ol, hol, _, m, dl⟩ := src
  have full : ¬ ((Value.ref l == Value.none) = true) := Bool.false_ne_true
  unfold pyNext
  refine wpAny_bind (wpAny_attempt (wpAny_callSpecial?_slot (name := Str.ofString "__next__") it.typeIs slot_tupleiter_next (wpAny_call_entry slot_tupleiter_next it.typeIs entry_tupleiter_next ?_ (args_tupleiter_next _))))
  refine wpAny_bind (m := field (.ref k) 0) (wpAny_field hok dk (x := .ref l) rfl ?_)
  show wpAny _ _ (ite ((Value.ref l == Value.none) = true) _ _) _ _ st
  rw [if_neg full]
  refine wpAny_bind (m := field (.ref k) 1) (wpAny_field hok dk (x := .int i 0) rfl (wpAny_bind (m := seqItems? (.ref l)) (wpAny_seqItems hol dl ?_)))
  simp only [over, Int.toNat_natCast]
  refine wpAny_bind (wpAny_rule (wpAny_bind (wpAny_setField hok dk (by simp) ?_)))
  unfold Builtin.SmallTypes.stopIteration
  refine stop_hot (x := x) (k := k) ⟨hx, oh, fs, ?_, hfs, hcx⟩ (fun b u hb e => ?_) fin
  · exact (Heap.SameBut.update ..).extBut x oh nx hoh
  · exact (Heap.SameBut.update ..).extBut b u hb e
/-- a tuple taken apart into as many names -/
theorem apart_hot {env : Env} {es : List Expr} {n : Nat} {p : Pos} {t x : Addr} {xs : Array Value} {Q : Unit → Shared → Prop} (hot : HotAt A x st.heap) (tup : IsTup st.heap t xs) (len : (assignEach es env).length = xs.size) (plain : (assignEach es env).findIdx? (·.1) = none)
    (go : ∀ g', (∀ b o, st.heap.get? b = some o → g'.get? b = some o) → wpAny (model P w) A (assignInOrder ((assignEach es env).map (·.2)) xs.toList) Q E { st with heap := g' }) : wpAny (model P w) A (assign (.Tuple es n p) env (.ref t)) Q E st := by
  obtain ⟨ot, hot_, _⟩ := id tup
  have tn : t ≠ st.heap.objs.size := Nat.ne_of_lt (Heap.lt_size hot_)
  obtain ⟨hx, ox, fs, hox, hfs, hcx⟩ := hot
  have xn : x ≠ st.heap.objs.size := Nat.ne_of_lt (Heap.lt_size hox)
  rw [assign_Tuple]
  refine wpAny_bind (wpAny_standAt ?_)
  unfold unpack
  rw [len, plain]
  refine wpAny_bind (wpAny_holding ?_)
  unfold unpackItems notIterableAtAll
  refine wpAny_bind (wpAny_bind (wpAny_specialOf tup.typeIs slot_tuple_iter.lookup (wpAny_pure ?_)))
  simp only [Bool.false_eq_true, if_false]
  refine wpAny_bind (wpAny_holding (iter_tuple tup (wpAny_bind (wpAny_holding (draw_tuple (t := t) tn xs.size 0 _ _ ⟨_, Heap.get?_push_size _ rfl, rfl, rfl⟩ (tup.push _) (by omega) fun g1 it1 same1 => ?_)))))
  have whole : List.take xs.size (List.drop 0 xs.toList) = xs.toList := by
    rw [List.drop_zero, List.take_of_length_le]
    simp
  rw [whole, if_neg (by simp)]
  have old1 : ∀ b o, b ≠ st.heap.objs.size → st.heap.get? b = some o → g1.get? b = some o := fun b o hb e => same1.extBut b o hb (Heap.get?_push_of_some _ e)
  have hot1 : HotAt A x g1 := ⟨hx, ox, fs, old1 x ox xn hox, hfs, hcx⟩
  refine wpAny_bind (wpAny_holding (tuple_stop (st := { st with heap := g1 }) hot1 xn it1 ((tup.push _).extBut same1.extBut tn) (by simp) fun g2 old2 => ?_))
  simp only [Option.isSome_none, Bool.false_eq_true, if_false]
  exact wpAny_pure (go g2 fun b o e => old2 b o (Nat.ne_of_lt (Heap.lt_size e)) (old1 b o (Nat.ne_of_lt (Heap.lt_size e)) e))
/-- a list's walk, x the exception that is handled meanwhile -/
theorem goes_hot {tg : Expr} {k l x : Addr} (hx : A.handled = some (.ref x)) (kl : l ≠ k) (kx : x ≠ k) (xs : Array Value) :
    Goes P w A tg k [k, l, x] [k] xs.size (fun i v _ => xs[i]? = some v) (fun i g => g.IsListIter k l i ∧ g.IsList l xs ∧ HotAt A x g) where
  sub := fun b hb => by rw [List.mem_singleton.mp hb]; exact List.mem_cons_self
  frame := fun i g g' q keep => ⟨q.1.at fun o e => keep k (by simp) o e, q.2.1.at fun o e => keep l (by simp) o e, q.2.2.1, by
    obtain ⟨_, o, fs, h1, h2, h3⟩ := q.2.2
    exact ⟨o, fs, keep x (by simp) o h1, h2, h3⟩⟩
  goes := fun i s1 Q E1 hi q fin => by
    obtain ⟨q1, q2, q3, o, fs, h1, h2, h3⟩ := q
    refine wpAny_pyNext_list_item q1 q2 (x := xs[i]) (by simp [hi]) fun g it same => ⟨xs[i], rfl, ?_⟩
    refine letGo_of_cls (I := k) it.choose_spec.1 it.choose_spec.2.1 it.choose_spec.2.2 (by decide) ?_
    exact fin _ g s1.toks (by simp [hi]) ⟨it, q2.extBut same.extBut kl, q3, o, fs, same.extBut x o kx h1, h2, h3⟩ (fun b u hb e => same.extBut b u (fun z => hb (by simp [z])) e) (Nat.le_refl _)
  stops := fun s1 Q E1 q fin => list_stop q.2.2 kx q.1 q.2.1 (by simp) fun g old => ⟨rfl, fin g s1.toks (fun b u hb e => old b u (fun z => hb (by simp [z])) e) (Nat.le_refl _)⟩
  self := fun i s1 Q E1 q fin => wpAny_pyIter_listiter q.1 fin
end
end Xh
/-! [word for word, there in words if there], in an except suite -/
namespace Xp
open PySem PySem.Spec PyProof.Rows HotX L2 Xh
abbrev Pr := Addr × Str × Bool
def picked (l : List Pr) : List V := (l.filter fun q => q.2.2).map fun q => V.str q.2.1
def tPick (K : PySem.W.Frag) (i : Nat) : TE := fun τ G Q => ∃ (L : Addr) (l : List Pr), τ[i]? = some (some (.ref L)) ∧ G L = some (.lst (l.map fun q => V.ref q.1)) ∧ (∀ q ∈ l, G q.1 = some (.tup [.str q.2.1, .bl q.2.2])) ∧ l.length ≤ sizeLine ∧ ∀ p, G p = none → Q (.ref p) (upd G p (.lst (picked l)))
theorem picked_snoc (l : List Pr) (q : Pr) : picked (l ++ [q]) = picked l ++ (if q.2.2 = true then [V.str q.2.1] else []) := by
  unfold picked
  rw [List.filter_append, List.map_append]
  congr 1
  by_cases h : q.2.2 = true
  · rw [if_pos h, List.filter_cons_of_pos (p := fun q : Pr => q.2.2) h]; rfl
  · rw [if_neg h, List.filter_cons_of_neg (p := fun q : Pr => q.2.2) h]; rfl
section
variable {Y : Cx}
theorem pe_pick {i n : Nat} {wd th ws : Str} {scope : Scope} {cl : List (Str × Addr)} {p1 p2 p3 p4 p5 p6 pos : Pos} (hot : L2H.HotC Y) (hN : Y.N[i]? = some ws) (vis : Vis Y.env.scope ws) (clo : closureFor scope Y.env = pure cl) (nocell : ∀ y ∈ scope.names, y.2 ≠ .cell) (kind : scope.kind = .function) (nms : ∀ y ∈ scope.names, y.2 = .local → scope.names.lookup y.1 = some .local)
    (lw : ∀ C, (compEnvC scope cl C Y.env).kindOf wd = some .local) (lt : ∀ C, (compEnvC scope cl C Y.env).kindOf th = some .local) (ne : wd ≠ th) (dw : (wd == ("__debug__" : Str)) = false) (dt : (th == ("__debug__" : Str)) = false) (db : (ws == ("__debug__" : Str)) = false := by decide) (cd : (ws == ("__classdict__" : Str)) = false := by decide) :
    PE Y (.ListComp (.Name wd p1) [⟨.Tuple [.Name wd p2, .Name th p3] n p4, .Name ws p5, [.Name th p6], 0⟩] scope pos) (tPick Y.K i) := by
  refine ⟨fun pins st τ G Q J hq => ?_⟩
  obtain ⟨L, l, at_, hL, hl, len, fin⟩ := hq
  refine ListComp_goes clo nocell kind nms (thn ((pe_var (pos := p5) hN vis db cd).run pins st τ G (fun v G1 => v = .ref L ∧ G1 = G) J ⟨.ref L, at_, rfl, rfl⟩) fun u s1 ⟨v, G1, J1, r1, e1, e2⟩ => ?_)
  subst e1 e2
  cases r1
  obtain ⟨x, hx⟩ := hot.at J1
  obtain ⟨hxh, ox, fs, hox, hfs, hcx⟩ := id hx
  obtain ⟨z, us, cap, rel, obj⟩ := J1.hok L _ hL
  have isl : s1.heap.IsList L us.toArray := ⟨_, obj, rfl, _, rfl⟩
  refine wpAny_pyIter_list isl ?_
  have lL : L < s1.heap.objs.size := Heap.lt_size obj
  have lx : x < s1.heap.objs.size := Heap.lt_size hox
  have ulen : us.length = l.length := by rw [← rel.length, List.length_map]
  have new : ∀ {o : Obj} {b : Addr} {u : Obj}, s1.heap.get? b = some u → (s1.heap.push o).get? b = some u := fun e => Heap.get?_push_of_some _ e
  refine ⟨s1.heap.objs.size, [s1.heap.objs.size, L, x], [s1.heap.objs.size], us.toArray.size, _, _, rfl, goes_hot hxh (Nat.ne_of_lt lL) (Nat.ne_of_lt lx) us.toArray, by simpa [ulen] using len, ⟨⟨_, Heap.get?_push_size _ rfl, rfl, rfl⟩, ⟨_, new obj, rfl, _, rfl⟩, hxh, ox, fs, new hox, hfs, hcx⟩, fun b hb => ?_, fun D C s3 beg => ?_⟩
  · rw [Heap.size_push]
    rcases List.mem_cons.mp hb with e | hb
    · rw [e]; exact Nat.lt_succ_self _
    rcases List.mem_cons.mp hb with e | hb
    · rw [e]; exact Nat.lt_succ_of_lt lL
    · rw [List.mem_singleton.mp hb]; exact Nat.lt_succ_of_lt lx
  obtain ⟨⟨h3, t3, rfl⟩, old3, nD, nC, nDC, ns3⟩ := beg
  rw [Heap.size_push] at nD nC
  refine ⟨fun j ys s4 => ∃ h tk, s4 = { s1 with heap := h, toks := tk } ∧ (∀ b o, s1.heap.get? b = some o → h.get? b = some o) ∧ (∃ m, h.Ns C m) ∧ Vals (picked (l.take j)) ys, ⟨h3, t3, rfl, fun b o e => old3 b o (new e), ⟨_, ns3⟩, .nil⟩, ?_, ?_, ?_⟩
  · rintro j ys s4 h4 tk ⟨h, tk0, rfl, k1, ⟨m, k2⟩, k3⟩ kept _
    have low : ∀ b o, s1.heap.get? b = some o → b ∉ D :: [s1.heap.objs.size] := fun b o e hm => by
      have lb := Heap.lt_size e
      rcases List.mem_cons.mp hm with q | q
      · rw [q] at lb; exact Nat.lt_irrefl _ (Nat.lt_of_lt_of_le (Nat.lt_succ_of_lt lb) nD)
      · rw [List.mem_singleton.mp q] at lb; exact Nat.lt_irrefl _ lb
    refine ⟨h4, tk, rfl, fun b o e => kept b o (low b o e) (k1 b o e), ⟨m, k2.at fun o e => kept C o (fun hm => ?_) e⟩, k3⟩
    rcases List.mem_cons.mp hm with q | q
    · exact nDC q.symm
    · rw [List.mem_singleton.mp q] at nC; exact Nat.lt_irrefl _ nC
  · rintro j v ys s4 hj hv hst ⟨h, tk, rfl, k1, ⟨m, k2⟩, k3⟩ pl
    obtain ⟨it1, il1, hot1⟩ := hst
    have jl : j < l.length := by simpa [ulen] using hj
    obtain ⟨q, hq⟩ : ∃ q, l[j]? = some q := ⟨_, List.getElem?_eq_getElem jl⟩
    have qm := List.mem_of_getElem? hq
    have ev : v = .ref q.1 := by
      obtain ⟨u, hu, ru⟩ := rel.get (i := j) (x := V.ref q.1) (by rw [List.getElem?_map, hq]; rfl)
      have : us[j]? = some v := by simpa using hv
      rw [this] at hu
      cases hu
      exact ru
    subst ev
    obtain ⟨zt, its, rt, tup⟩ := J1.hok q.1 _ (hl q qm)
    cases rt with
    | cons ra rr =>
    cases rr with
    | cons rb rn =>
    cases rn
    obtain ⟨t1, rfl⟩ := ra
    cases rb
    have cc : ∀ {b : Addr} {o : Obj}, s1.heap.get? b = some o → b ≠ C := fun e z => by
      have lb := Heap.lt_size e
      rw [z] at lb
      exact Nat.lt_irrefl _ (Nat.lt_of_lt_of_le (Nat.lt_succ_of_lt lb) nC)
    have kc : s1.heap.objs.size ≠ C := fun z => by rw [← z] at nC; exact Nat.lt_irrefl _ nC
    have hp : ((compEnvC scope cl C Y.env).scope.kind == .class || ((compEnvC scope cl C Y.env).scope.kind == .module && (compEnvC scope cl C Y.env).locals != (compEnvC scope cl C Y.env).globals)) = false := by
      show ((relabel scope Y.env).kind == .class || ((relabel scope Y.env).kind == .module && _)) = false
      rw [show (relabel scope Y.env).kind = .function from kind]; rfl
    refine apart_hot (x := x) hot1 (tup.keeps k1) rfl rfl fun g1 keep1 => ?_
    refine assignInOrder_cons (wpAny_assign_Name (wpAny_storeName_local (lw C) (m := m) (k2.keeps keep1) (fun g2 ns2 same2 => ?_) hp))
    refine assignInOrder_cons (wpAny_assign_Name (wpAny_storeName_local (lt C) ns2 (fun g3 ns3' same3 => assignInOrder_nil ?_) hp))
    have up : ∀ {b : Addr} {o : Obj}, b ≠ C → h.get? b = some o → g3.get? b = some o := fun nb e => same3.extBut _ _ nb (same2.extBut _ _ nb (keep1 _ _ e))
    have st3 : g3.IsListIter s1.heap.objs.size L (j + 1) ∧ g3.IsList L us.toArray ∧ HotAt Y.A x g3 := ⟨it1.at fun o e => up kc e, il1.at fun o e => up (cc obj) e, hxh, ox, fs, up (cc hox) (k1 _ _ hox), hfs, hcx⟩
    have pl3 : g3.PlainList D ys.toArray := by
      obtain ⟨c0, e0⟩ := pl
      exact ⟨c0, up nDC e0⟩
    have inn : ∀ {b : Addr} {o : Obj}, s1.heap.get? b = some o → g3.get? b = some o := fun e => up (cc e) (k1 _ _ e)
    have tw : l.take (j + 1) = l.take j ++ [q] := by rw [List.take_succ, hq]; rfl
    refine wpAny_tests_one (isTrue_plain (wpAny_Name (wpAny_loadName_local (by show (relabel scope Y.env).kind = _; exact kind) (lt C) ns3' (if_pos rfl) (wpAny_truthy_bool ?_)) dt))
    split
    · rename_i hb
      refine wpAny_Name (wpAny_loadName_local (by show (relabel scope Y.env).kind = _; exact kind) (lw C) ns3' (v := .str q.2.1 t1) (by rw [if_neg ne, if_pos rfl]) ?_) dw
      refine ⟨⟨g3, _, rfl, fun b o e => inn e, ⟨_, ns3'⟩, ?_⟩, st3, pl3⟩
      rw [tw, picked_snoc, if_pos hb]
      exact k3.append (.cons ⟨t1, rfl⟩ .nil)
    · rename_i hb
      refine ⟨⟨g3, _, rfl, fun b o e => inn e, ⟨_, ns3'⟩, ?_⟩, st3, pl3⟩
      rw [tw, picked_snoc, if_neg hb, List.append_nil]
      exact k3
  · rintro ys s4 ⟨h, tk, rfl, k1, ⟨m, k2⟩, k3⟩ ⟨cap2, hD⟩
    refine ⟨m, k2, fun g same => ?_⟩
    have whole : l.take us.toArray.size = l := List.take_of_length_le (by simp [ulen])
    rw [whole] at k3
    have cc : ∀ {b : Addr} {o : Obj}, s1.heap.get? b = some o → b ≠ C := fun e z => by
      have lb := Heap.lt_size e
      rw [z] at lb
      exact Nat.lt_irrefl _ (Nat.lt_of_lt_of_le (Nat.lt_succ_of_lt lb) nC)
    have fr : s1.heap.objs.size ≤ D := Nat.le_of_succ_le nD
    refine ⟨.ref D, upd G1 D (.lst (picked l)), J1.laid (t' := tk) (fun b u e => same.extBut b u (cc e) (k1 b u e)) fr ⟨?_, ys, cap2, k3, same.extBut D _ nDC hD⟩, rfl, fin D (J1.hok.fresh fr)⟩
    unfold picked
    rw [List.length_map]
    exact Nat.le_trans (List.length_filter_le _ _) len
end
end Xp
/-! contracts of defs that may raise; a try around a call -/
namespace Dm
open PySem L2 Pb
abbrev OX := List Vx → (Vx → Prop) → (Addr → Prop) → Prop
def spX (W : OX) : Sp := fun vs H Q E => ∃ (z : Fz) (xs : List Vx) (R : Vx → Prop) (X : Addr → Prop), z.n = NN ∧ AlS z H ∧ DvAll z H vs xs ∧ allNq xs ∧ W xs R X ∧ (∀ v x H', ExB z.p H H' → nq x → Dv z H' v x → R x → Q v H') ∧
  (∀ L vs' ds H', ExB z.p H H' → H L = none → H' L = some (.lst vs') → DtAll (z.av L) H' vs' ds → vs'.length ≤ NN → R (.fl ds) → Q (.ref L) H') ∧ ∀ C H', ExB z.p H H' → X C → E (.ref C) none H'
abbrev WSX := Ev → Post → (Addr → Prop) → Prop
structure SndX (E : XK) (ts : TS) (ws : WSX) : Prop where
  run : ∀ (f : Fr) (z : Fz) (σ : L2.St) (H : Hp) (Γ : Ev) (D : Ends) (P : Post) (X : Addr → Prop), Rs f z σ H Γ → DOk f D P → (∀ C H', ExB f.z.p f.H H' → X C → E (.ref C) none H') → ws Γ P X → ts D σ H
section
variable {E : XK}
theorem sx_of {ts : TS} {ws : WS} (h : SndS ts ws) : SndX E ts (fun Γ P _ => ws Γ P) := ⟨fun f z σ H Γ D P X r d _ w => h.run f z σ H Γ D P r d w⟩
theorem sx_seq {t u : TS} {a b : WSX} (h1 : SndX E t a) (h2 : SndX E u b) : SndX E (tSeq t u) (fun Γ P X => a Γ { P with nx := fun Γ' => b Γ' P X } X) := ⟨fun f z σ H Γ D P X r d e w => h1.run f z σ H Γ _ _ X r (d.next fun z σ H Γ r w => h2.run f z σ H Γ D P X r d e w) e w⟩
theorem sx_if {c : TT} {t u : TS} {wt : WT} {a b : WSX} (hc : SndT c wt) (h1 : SndX E t a) (h2 : SndX E u b) : SndX E (tIfS c t u) (fun Γ P X => wt Γ fun k => if k = true then a Γ P X else b Γ P X) := ⟨fun f z σ H Γ D P X r d e w => hc.run z σ H Γ _ _ r.toRp w fun x H2 e2 w2 => by
  split at w2
  · rename_i h; rw [if_pos h]; exact h1.run f z σ H2 Γ D P X (r.up e2) d e w2
  · rename_i h; rw [if_neg h]; exact h2.run f z σ H2 Γ D P X (r.up e2) d e w2⟩
theorem sx_raise {C : Addr} : SndX E (fun _ _ H => E (.ref C) none H) (fun _ _ X => X C) := ⟨fun f z σ H Γ D P X r d e w => e C H r.ex w⟩
/-- a check called as a statement -/
def AppX (W : OX) (xs : List Vx) (R : Vx → Prop) (X : Addr → Prop) (_ : Box R) : Prop := W xs R X
theorem sx_check {W : OX} {ta : TA} {wa : WA} (h : SndA ta wa) : SndX E (tDrop (tCallS (spX W) (fun _ => E) ta)) (fun Γ P X => wa Γ fun xs => allNq xs ∧ AppX W xs (fun _ => P.nx Γ) X ⟨⟩) := ⟨fun f z σ H Γ D P X r d e w => h.run z σ H Γ _ _ r.toRp w fun vs xs H2 e2 hs w2 => by
  have r2 := r.up e2
  exact ⟨z, xs, _, X, r.n, r2.al, hs, w2.1, w2.2, fun v x H3 e3 _ _ q => d.nx z σ H3 Γ (r2.up e3) q, fun L vs' ds H3 e3 _ _ _ _ q => d.nx z σ H3 Γ (r2.up e3) q, fun C H3 e3 q => e C H3 (r2.up e3).ex q⟩⟩
theorem fn_bodyX {W : OX} {n : Nat} {N : List Str} {vs : List V} {H : Hp} {Q : VK} {ts : TS} {ws : WSX} (hn : N.length = n) (s : SndX E ts ws) (h : spX W vs H Q E) (w : ∀ xs R X, W xs R X → ws (startE n xs) (posts R) X) : ts { nx := fun _ H' => Q .non H', rt := Q } (start N vs) H := by
  subst hn
  obtain ⟨z, xs, R, X, n, al, hs, nx, hW, k1, k2, k3⟩ := h
  refine s.run ⟨z, H, []⟩ z (start N vs) H (startE N.length xs) _ (posts R) X ?_ ⟨fun z' σ' H' Γ' r' w' => k1 .non (.d .none) H' r'.ex trivial dN w', fun _ _ _ _ _ w' => w'.elim, fun _ _ _ _ _ w' => w'.elim, fun v x H' e nx hx rx => k1 v x H' e nx hx rx, fun L vs' ds H' e nL hL hd hl rx => k2 L vs' ds H' e nL hL hd hl rx⟩ k3 (w xs R X hW)
  exact { start_rp n al hs nx with p := rfl, n0 := n, sub := fun _ h => h, al0 := al, ex := .refl _ _, fr := fun i s L q o => (plain_own (start_own q) o).elim, nd := fun i j s t L q q' o o' => (plain_own (start_own q) o).elim, ks := fun k hk => (nomatch hk), nl := fun i s q => plain_lk (start_own q) }
theorem spX_len {W : OX} {n : Nat} (hW : ∀ xs R X, W xs R X → xs.length = n) {vs : List V} {H : Hp} {Q : VK} (h : spX W vs H Q E) : vs.length = n := by
  obtain ⟨z, xs, R, X, _, _, hs, _, w, _⟩ := h
  rw [dvLen hs, hW xs R X w]
end
/-- a def that may raise -/
theorem okN {P : Program} {w : World} {K : PySem.W.Frag} {mg : Str → Option Value} {base : Heap} {x : Str} {st : Stmt} {f : Addr} {fd : FuncData} {N ps : List Str} {k : Nat} {sp : Sp} (F : Fun K x x st f fd) (S : FnScope N ps (defScope st)) (len : ∀ vs H Q E, sp vs H Q E → vs.length = ps.length)
    (body : ∀ (cd : Value) (A : Around) (outer : List Env) (s : Shared) (H : Hp) (vs : List V) (Q : VK) (E : XK), Room k (A.deeper (PyProof.Rows.envOfC x (defScope st) s.heap.objs.size f cd)) → sp vs H Q E → ∃ t, PSs (cxOf (L2N.CX P w) P w K mg base N x (defScope st) f cd A outer s H E) (defBody st) t ∧ t { nx := fun _ H' => Q .non H', rt := Q } (start N vs) H) :
    FnOk P w K mg base (L2N.CX P w) (k + 1) f fd ps sp := by
  obtain ⟨oc, od, kV, doc, pm, an, cd, ct, sl, rfl, lk, hcd⟩ := F.ex
  exact fn_of lk hcd S len fun A outer s H vs Q E hr hsp => body cd A outer s H vs Q E hr hsp
/-! ### a call by a local name, out of which an exception may come -/
def tCallH (i : Nat) (f : Addr) (sp : Sp) (E : L2.St → XK) (t : TA) : TE := fun σ H Q => σ[i]? = some (some (.ref f)) ∧ t σ H fun vs H1 => sp vs H1 Q (E σ)
theorem pe_callH {X : Cx} {CX : CXT} {k i : Nat} {f : Addr} {fd : FuncData} {ps : List Str} {sp : Sp} {E : L2.St → XK} {x : Str} {p pos : Pos} {e : Expr} {es : List Expr} {t : TA} (F : FnOk X.prog X.w X.K X.mg X.base CX k f fd ps sp) (room : Room k X.A) (at_ : X.N[i]? = some x) (vis : Vis X.env.scope x) (kp : PySem.W.keepIn X.K (.ref f) = true) (b : Binds X.K fd ps []) (out : ∀ σ, PassesAt CX X σ (E σ)) (args : PA X (e :: es) t)
    (d1 : (x == ("__debug__" : Str)) = false := by decide) (d2 : (x == ("__classdict__" : Str)) = false := by decide) (st1 : starEach (e :: es) X.env = (false, eval e X.env) :: starEach es X.env := by rfl) (st2 : (backTo pos (starEach es X.env)).any (·.1) = false := by rfl) : PE X (.Call (.Name x p) (e :: es) [] pos) (tCallH i f sp E t) := by
  refine ⟨fun pins s σ H Q J ⟨h1, h2⟩ => wpAny_Call_Name_kw ?_⟩
  refine thn ((pe_var (pos := p) at_ vis d1 d2).run pins s σ H (fun v G => v = .ref f ∧ G = H) J ⟨.ref f, h1, rfl, rfl⟩) fun u s1 ⟨v, G, J1, r1, e1, e2⟩ => ?_
  subst e1 e2
  cases r1
  exact PySem.W.callWith_K (h₀ := X.base) J.ok.mod.kin kp (thn (args.run pos pins s1 σ _ _ J1 h2) fun us s2 ⟨vs, G2, J2, r, q⟩ => ⟨J2.kIn, run_fnS F room b (out σ) J2 r q⟩) st1 st2
/-! ### slots forgotten -/
theorem Rp.forget {z : Fz} {σ : L2.St} {H : Hp} {Γ : Ev} {i : Nat} (r : Rp z σ H Γ) : Rp z (σ.set i none) H (Γ.set i .no) := ⟨r.n, r.al, by rw [List.length_set, List.length_set]; exact r.len, fun j s q => by
  rcases set_get q with ⟨e1, e2, e3⟩ | ⟨e1, e2⟩
  · subst e3; trivial
  · rw [List.getElem?_set_ne (Ne.symm e1)]; exact r.sl j s e2⟩
theorem SubO.forget {Γ : Ev} {i : Nat} : SubO (Γ.set i .no) Γ := fun j s h => by
  rcases set_get h with ⟨e1, e2, e3⟩ | ⟨e1, e2⟩
  · subst e3; exact .inl trivial
  · exact .inr e2
theorem Rs.forget {f : Fr} {z : Fz} {σ : L2.St} {H : Hp} {Γ : Ev} {i : Nat} (r : Rs f z σ H Γ) : Rs f z (σ.set i none) H (Γ.set i .no) := r.re r.toRp.forget .forget
/-! ### try: f(..) except A as e: .. except B as e: .. except C as e: suite -/
abbrev postAs (P : Post) (i : Nat) : Post := ⟨fun Γ => P.nx (Γ.set i .no), P.rt, fun Γ => P.bk (Γ.set i .no), fun Γ => P.ct (Γ.set i .no)⟩
/-- what is known of the class of an exception: it is none of the first two clauses', and the third's -/
structure Hits (K : PySem.W.Frag) (c1 c2 c3 : Value) (C : Addr) : Prop where
  a : PySem.W.exmOne K (.ref C) c1 = some false
  b : PySem.W.exmOne K (.ref C) c2 = some false
  c : PySem.W.exmOne K (.ref C) c3 = some true
def wTry (i ei : Nat) (f : Addr) (W : OX) (wa : WA) (Ok : Addr → Prop) (ws : Addr → Addr → WS) : WS := fun Γ P => Γ[i]? = some (.v (.rf f)) ∧ wa Γ fun xs => allNq xs ∧ AppX W xs (fun _ => P.nx Γ) (fun C => Ok C ∧ ∀ a, ws C a (Γ.set ei (.v (.rf a))) (postAs P ei)) ⟨⟩
theorem ss_try {K : PySem.W.Frag} {i ei : Nat} {f : Addr} {W : OX} {ta : TA} {wa : WA} {Ok : Addr → Prop} {c1 c2 c3 : Value} {ts : Addr → Addr → TS} {ws : Addr → Addr → WS} {V : WX} (h : SndA ta wa) (hits : ∀ C, Ok C → Hits K c1 c2 c3 C) (suite : ∀ C a, Ok C → SndS (ts C a) (ws C a)) :
    SndS (fun D σ H => (fun V' : WX => tDrop (tCallH i f (spX W) (L2.WE V') ta)) (Xt.wish K ei D V [(c1, fun _ _ _ => tNever), (c2, fun _ _ _ => tNever), (c3, fun a cls d D σ H => ∃ C, Ok C ∧ cls = .ref C ∧ d = none ∧ ts C a D σ H)]) D σ H) (wTry i ei f W wa Ok ws) := ⟨fun fr z σ H Γ D P r d w => by
  obtain ⟨w1, w2⟩ := w
  obtain ⟨_, v, s1, s2⟩ := r.sl i _ w1
  cases (show v = .ref f from s2)
  refine ⟨s1, h.run z σ H Γ _ _ r.toRp w2 fun vs xs H2 e2 hs w3 => ?_⟩
  have r2 := r.up e2
  refine ⟨z, xs, _, _, r.n, r2.al, hs, w3.1, w3.2, fun v x H3 e3 _ _ q => d.nx z σ H3 Γ (r2.up e3) q, fun L vs' ds H3 e3 _ _ _ _ q => d.nx z σ H3 Γ (r2.up e3) q, fun C H3 e3 q => ?_⟩
  obtain ⟨ok, q⟩ := q
  have k := hits C ok
  refine ⟨false, k.a, (fun e => nomatch e), fun _ => ⟨false, k.b, (fun e => nomatch e), fun _ => ⟨true, k.c, fun _ a na => ⟨C, ok, rfl, rfl, ?_⟩, (fun e => nomatch e)⟩⟩⟩
  exact (suite C a ok).run fr z _ H3 _ _ (postAs P ei) ((r2.up e3).setv (i := ei) (x := .rf a) trivial rfl) ⟨fun z' σ' H' Γ' r' w' => d.nx z' _ H' _ r'.forget w', fun z' σ' H' Γ' r' w' => d.bk z' _ H' _ r'.forget w', fun z' σ' H' Γ' r' w' => d.ct z' _ H' _ r'.forget w', d.rt, d.rf⟩ (q a)⟩
/-! ### in the suite -/
def wIsE (i : Nat) (a : Addr) (b : Bool) : WE := fun Γ R => Γ[i]? = some (.v (.rf a)) ∧ R (.d (.bool b))
theorem snd_isE {K : PySem.W.Frag} {C a : Addr} {i : Nat} {c : V} {cv : Value} {b : Bool} (hc : ∀ u, L2.RelV c u → u = cv) (hk : PySem.W.kitOne K (.ref C) cv = some b) : SndE (tCB (rIsE K C a) (tCons (tVar i) (tCons (tC c) tNil))) (wIsE i a b) := ⟨fun z σ H Γ R Q r ⟨w1, w2⟩ k => by
  obtain ⟨_, v, s1, s2⟩ := r.sl i _ w1
  cases (show v = .ref a from s2)
  exact ⟨_, s1, c, cv, b, rfl, hc, hk, k _ _ H (.refl _ H) (dB _) w2⟩⟩
def encW (q : Str × Bool) : PyData := .tuple [.str q.1, .bool q.2]
def PickK (ds : List PyData) (R : Vx → Prop) (_ : Box R) : Prop := ∃ l : List (Str × Bool), ds = l.map encW ∧ R (.d (.list ((l.filter (·.2)).map fun q => .str q.1)))
def wPick (i : Nat) : WE := fun Γ R => match Γ[i]? with
  | some (.v (.d (.list ds))) => PickK ds R ⟨⟩
  | _ => False
theorem pick_dt {z : Fz} {H : Hp} : ∀ {l : List (Str × Bool)} {vs : List V}, DtAll z H vs (l.map encW) → ∃ prs : List Xp.Pr, vs = prs.map (fun q => V.ref q.1) ∧ (∀ q ∈ prs, H q.1 = some (.tup [.str q.2.1, .bl q.2.2])) ∧ prs.map (·.2) = l ∧ ∀ q ∈ l, q.1.length ≤ z.n ∧ PyData.strOk q.1 = true
  | [], _, h => by cases h; exact ⟨[], rfl, fun _ h => (nomatch h), rfl, fun _ h => nomatch h⟩
  | q :: l, _, h => by
    cases h with
    | cons a t =>
      obtain ⟨prs, h1, h2, h3, h4⟩ := pick_dt t
      cases a with
      | tup d1 d2 d3 d4 =>
        cases d4 with
        | cons f1 t1 =>
          cases t1 with
          | cons f2 t2 =>
            cases t2
            cases f2
            cases f1 with
            | str _ ok =>
              refine ⟨(_, q.1, q.2) :: prs, by rw [h1]; rfl, fun x hx => ?_, by rw [List.map_cons, h3], fun x hx => ?_⟩
              · rcases List.mem_cons.mp hx with e | e
                · rw [e]; exact d2
                · exact h2 x e
              · rcases List.mem_cons.mp hx with e | e
                · rw [e]; exact ok
                · exact h4 x e
theorem snd_pick {K : PySem.W.Frag} {i : Nat} : SndE (Xp.tPick K i) (wPick i) := ⟨fun z σ H Γ R Q r w k => by
  unfold wPick at w
  split at w
  · rename_i ds e
    obtain ⟨l, rfl, w⟩ := w
    obtain ⟨_, v, s1, s2⟩ := r.sl i _ e
    cases s2 with
    | lst d1 d2 d3 d4 =>
      obtain ⟨prs, e1, e2, e3, e4⟩ := pick_dt d4
      subst e1
      have len : (prs.filter fun q => q.2.2).length ≤ NN := by
        have := List.length_filter_le (fun q : Xp.Pr => q.2.2) prs
        rw [List.length_map, r.n] at d3
        omega
      refine ⟨_, prs, s1, d2, e2, ?_, fun p np => k _ _ _ (.new np) (dL (r.al.ne np) upd_same (by unfold Xp.picked; rw [List.length_map, r.n]; exact len) ?_) w⟩
      · rw [List.length_map, r.n] at d3
        exact Nat.le_trans d3 NN_line
      · have all : ∀ (l2 : List (Str × Bool)), (∀ q ∈ l2, q.1.length ≤ z.n ∧ PyData.strOk q.1 = true) → ∀ {G : Hp}, DtAll z G (l2.map fun q => V.str q.1) (l2.map fun q => PyData.str q.1) := fun l2 => by
          induction l2 with
          | nil => exact fun _ _ => .nil
          | cons q l2 ih => exact fun hq G => .cons (.str _ (hq q List.mem_cons_self)) (ih fun x hx => hq x (List.mem_cons_of_mem _ hx))
        have eq : Xp.picked prs = (l.filter (·.2)).map fun q => V.str q.1 := by
          unfold Xp.picked
          rw [← e3, List.filter_map, List.map_map]; rfl
        rw [eq]
        exact all _ fun q hq => e4 q (List.mem_filter.mp hq).1
  · exact w.elim⟩
end Dm
/-! a lambda that captures nothing: made, and known from then on -/
namespace Lm
open PySem PySem.Spec PyProof.Rows L2 LamX NdefX
open Pb (hid hid_at lamAt)
structure Lam where
  qual : Str
  params : Arguments
  body : Expr
  scope : Scope
abbrev Lam.obj (L : Lam) (c : Addr) (pm ctv : Value) : Obj := PySem.W.kla_obj "<lambda>" L.qual L.params L.body L.scope [] pm c ctv
/-- the object at f is this lambda, its code object is at c -/
def LmO (f c : Addr) (L : Lam) : HO := .ext fun h => ∃ pm ctv, h.get? f = some (L.obj c pm ctv)
/-- all stands but the table at P, which grows -/
def Grow (P : Addr) (H H1 : Hp) : Prop := ∀ b o, b ≠ P → H b = some o → H1 b = some o
def tLm (P : Addr) (L : Lam) : TE := fun σ H Q => TabN H P lamAt ∧ ∀ f c H1, Grow P H H1 → TabN H1 P lamAt → (∀ p o, H p = some o → TabN (hid p H) P lamAt → c ≠ p ∧ f ≠ p ∧ TabN (hid p H1) P lamAt) → H f = none → H1 f = some (LmO f c L) → H1 c = some (CodeO c L.qual) → Q (.ref f) H1
variable {X : Cx} {pins : List (Addr × Obj)} {σ : L2.St} {H : Hp} {s : Shared}
/-- the object just pushed is a lambda -/
theorem known {L : Lam} {c : Addr} {pm ctv : Value} {t : Nat} (J : Inv X pins σ H s) : Inv X pins σ (upd H s.heap.objs.size (LmO s.heap.objs.size c L)) { s with heap := s.heap.push (L.obj c pm ctv), toks := t } := by
  have here : (s.heap.push (L.obj c pm ctv)).get? s.heap.objs.size = some (L.obj c pm ctv) := Heap.get?_push_size _ rfl
  exact J.laid (a := s.heap.objs.size) (fun b u e => Heap.get?_push_of_some _ e) (Nat.le_refl _) ⟨⟨pm, ctv, here⟩, ⟨_, here⟩, fun _ _ ⟨pm, ctv, z⟩ st => ⟨pm, ctv, st _ z⟩⟩
theorem pe_lam {P c0 : Addr} {params : Arguments} {body : Expr} {scope : Scope} {pos : Pos} (TB : TabB X.base X.mg c0 P) (code : X.env.code = .ref c0) (hq : lamAt pos.line pos.col = X.env.qual ++ "<lambda>") (nodef : defaultsOf params X.env = ([], [])) (clo : closureFor scope X.env = pure []) :
    PE X (.Lambda params body scope pos) (tLm P ⟨X.env.qual ++ "<lambda>", params, body, scope⟩) := by
  refine ⟨fun pins s σ H Q J ⟨tab, fin⟩ => PySem.W.kla_eval nodef ?_⟩
  obtain ⟨ps, hP, three, all⟩ := id tab
  have obj : s.heap.get? P = some { cls := .none, data := .fields ps } := J.hok P _ hP
  have blt : s.heap.BuiltinsAt X.mg P := TB.bm.keeps J.bk
  cases q : codeAmong pos ps.toList with
  | some cv =>
    obtain ⟨c, rfl, hc⟩ := all pos cv q
    refine PySem.W.kla_makeFunctionHit (mg := X.mg) clo J.ok.glob (J.mod.glob.keeps J.bk) code (TB.code.keeps J.bk) obj three q blt fun ctv h' tk ext _ => ?_
    have J1 : Inv X pins σ H { s with heap := h', toks := tk } := J.kept ext
    have J2 := known (L := ⟨X.env.qual ++ "<lambda>", params, body, scope⟩) (c := c) (pm := (X.mg "__name__").getD .none) (ctv := ctv) (t := tk) J1
    have free : H h'.objs.size = none := J1.hok.fresh (Nat.le_refl _)
    have stay : ∀ b o, H b = some o → upd H h'.objs.size (LmO h'.objs.size c ⟨X.env.qual ++ "<lambda>", params, body, scope⟩) b = some o := fun b o e => by rw [upd_ne (ne_of_none e free)]; exact e
    refine ⟨.ref _, _, J2, rfl, fin _ c _ (fun b o _ e => stay b o e) (tab.ext stay) (fun p o hp tp => ⟨?_, fun e => ?_, tp.ext fun b u g => hid_at.mpr ⟨(hid_at.mp g).1, stay b u (hid_at.mp g).2⟩⟩) free upd_same (stay _ _ (by rw [← hq]; exact hc))⟩
    · obtain ⟨ps2, k1, _, k3⟩ := tp
      have k2 := (hid_at.mp k1).2
      rw [hP] at k2
      cases k2
      obtain ⟨c2, z1, z2⟩ := k3 pos _ q
      cases z1
      exact (hid_at.mp z2).1
    · rw [← e, free] at hp; cases hp
  | none =>
    refine PySem.W.kla_makeFunction (mg := X.mg) clo J.ok.glob (J.mod.glob.keeps J.bk) code (TB.code.keeps J.bk) obj three q TB.gP blt fun c ctv h' tk ext old new rec_ tbl => ?_
    obtain ⟨_, oc, vs, t, e, hoc, hd, hv⟩ := rec_
    cases e
    have freeC : H c = none := J.hok.fresh old
    have J1 := inv_table (t' := tk) (more := #[rawInt pos.line, rawInt pos.col, .ref c]) J hP (fun b o n g => ext b o n g) tbl old ⟨oc, vs, t, hoc, hd, hv⟩
    have J2 := known (L := ⟨X.env.qual ++ "<lambda>", params, body, scope⟩) (c := c) (pm := (X.mg "__name__").getD .none) (ctv := ctv) (t := tk) J1
    have nPc : P ≠ c := ne_of_none hP freeC
    have freeF := J1.hok.fresh (Nat.le_refl h'.objs.size)
    have up : ∀ b o, upd (upd H P (.tbl (ps ++ #[rawInt pos.line, rawInt pos.col, .ref c]))) c (CodeO c (X.env.qual ++ "<lambda>")) b = some o → upd (upd (upd H P (.tbl (ps ++ #[rawInt pos.line, rawInt pos.col, .ref c]))) c (CodeO c (X.env.qual ++ "<lambda>"))) h'.objs.size (LmO h'.objs.size c ⟨X.env.qual ++ "<lambda>", params, body, scope⟩) b = some o := fun b o e => by rw [upd_ne (ne_of_none e freeF)]; exact e
    have grow : Grow P H (upd (upd H P (.tbl (ps ++ #[rawInt pos.line, rawInt pos.col, .ref c]))) c (CodeO c (X.env.qual ++ "<lambda>"))) := fun b o n e => by rw [upd_ne (ne_of_none e freeC), upd_ne n]; exact e
    have tab1 : TabN (upd (upd H P (.tbl (ps ++ #[rawInt pos.line, rawInt pos.col, .ref c]))) c (CodeO c (X.env.qual ++ "<lambda>"))) P lamAt := by
      have lst : (ps ++ #[rawInt pos.line, rawInt pos.col, .ref c]).toList = ps.toList ++ [rawInt pos.line, rawInt pos.col, .ref c] := by simp
      refine ⟨_, by rw [upd_ne nPc, upd_same], by rw [lst]; exact PySem.TriplesOk_snoc _ _ _ _ three, fun pos2 cv2 g => ?_⟩
      rw [lst] at g
      rcases among_app2 _ three g with z | ⟨z, z1, z2⟩
      · obtain ⟨c2, e2, h2⟩ := all pos2 cv2 z
        exact ⟨c2, e2, grow _ _ (fun w => by rw [w, hP] at h2; exact codeO_ne ps (Option.some.inj h2).symm) h2⟩
      · exact ⟨c, z, by rw [← z1, ← z2, hq]; exact upd_same⟩
    have free : H h'.objs.size = none := J.hok.fresh (Nat.le_trans old (Nat.le_of_lt new))
    refine ⟨.ref _, _, J2, rfl, fin _ c _ (fun b o n e => up b o (grow b o n e)) (tab1.ext up) (fun p o hp tp => ⟨fun e => ?_, fun e => ?_, ?_⟩) free upd_same (up _ _ upd_same)⟩
    · rw [← e, freeC] at hp; cases hp
    · rw [← e, free] at hp; cases hp
    · obtain ⟨ps2, k1, _, k3⟩ := tp
      obtain ⟨nP, k2⟩ := hid_at.mp k1
      rw [hP] at k2
      cases k2
      have nc : c ≠ p := fun e => by rw [← e, freeC] at hp; cases hp
      obtain ⟨ps3, m1, m2, m3⟩ := tab1
      have m0 : ps3 = ps ++ #[rawInt pos.line, rawInt pos.col, .ref c] := by
        rw [upd_ne nPc, upd_same] at m1
        cases m1; rfl
      subst m0
      have lst : (ps ++ #[rawInt pos.line, rawInt pos.col, .ref c]).toList = ps.toList ++ [rawInt pos.line, rawInt pos.col, .ref c] := by simp
      refine ⟨_, hid_at.mpr ⟨nP, up _ _ m1⟩, m2, fun pos2 cv2 g => ?_⟩
      obtain ⟨c2, e2, h2⟩ := m3 pos2 cv2 g
      refine ⟨c2, e2, hid_at.mpr ⟨?_, up _ _ h2⟩⟩
      rw [lst] at g
      rcases among_app _ three g with z | z
      · obtain ⟨c3, e3, h3⟩ := k3 pos2 cv2 z
        rw [e2] at e3
        cases e3
        exact (hid_at.mp h3).1
      · rw [e2] at z
        cases z
        exact nc
end Lm
/-! a lambda that captures nothing: called -/
namespace Lm
open PySem PySem.Spec PyProof.Rows L2 LamX NdefX
abbrev Lam.nf (L : Lam) (c : Addr) : NF := ⟨"<lambda>", L.qual, L.params, [], L.scope, [], c⟩
/-- the promise of a lambda, wherever it stands -/
structure LOk (P : Program) (w : World) (K : PySem.W.Frag) (mg : Str → Option Value) (base : Heap) (CX : CXT) (k : Nat) (L : Lam) (ps : List Str) (sp : Sp) : Prop where
  len : ∀ vs H Q E, sp vs H Q E → vs.length = ps.length
  run : ∀ (f c : Addr) (A : Around) (outer : List Env) (s : Shared) (H : Hp) (us : List Value) (vs : List V) (Q : VK) (E : XK), Room k A → Env0 P w K mg base A outer s H → H f = some (LmO f c L) → H c = some (CodeO c L.qual) → Vals vs us → sp vs H Q E →
    codeAny (model P w) A (.call (.ref f) ⟨us, []⟩) (CR CX outer P w H s Q E) s
theorem no_cells {h : Heap} {H : Hp} : CellsAt [] [] [] h H := ⟨rfl, fun y c e => (nomatch e), fun x y c e => (nomatch e), fun i y e => (by rw [List.getElem?_nil] at e; cases e)⟩
section
variable {CX : CXT} {P : Program} {w : World} {K : PySem.W.Frag} {mg : Str → Option Value} {base : Heap} {N ps : List Str} {L : Lam} {k : Nat} {sp : Sp}
theorem lok_of (S : NScope N ps [] L.scope) (bind : ∀ (pm ctv : Value) (c : Addr) (us : List Value), us.length = ps.length → bindArgs (PySem.W.kla_fn "<lambda>" L.qual L.params L.body L.scope [] pm (.ref c) ctv) ⟨us, []⟩ = pure (ps.zip us)) (len : ∀ vs H Q E, sp vs H Q E → vs.length = ps.length)
    (body : ∀ (f c : Addr) (A : Around) (outer : List Env) (s : Shared) (H : Hp) (vs : List V) (Q : VK) (E : XK), Room k (A.deeper (envF (L.nf c) f s.heap.objs.size)) → sp vs H Q E → ∃ t, PE (ncx CX P w K mg base N (L.nf c) f A outer s H E) L.body t ∧ t (startF N vs []) H Q) :
    LOk P w K mg base CX (k + 1) L ps sp := by
  refine ⟨len, fun f c A outer s H us vs Q E room e0 hf hc rel h => ?_⟩
  obtain ⟨⟨pm, ctv, obj⟩, _, _⟩ := e0.hok f _ hf
  have nolim : s.heap.NoLimit := e0.mod.nolimit.keeps fun b o e => (e0.bs b o e).1
  have lv := len _ _ _ _ h
  refine PySem.W.kla_callFunE room.depth obj rfl S.co S.gen rfl (codeO_at e0.hok hc) ?_
  rw [bind pm ctv c us (by rw [← rel.length]; exact lv)]
  refine wpAny_pure (wpAny_newFunctionEnv S.nocell (fun ⟨n, _⟩ hy => S.par n (List.of_mem_zip hy).1) (fun h1 ns sub => ⟨nolim.fresh _ sub, ?_⟩) S.kind)
  obtain ⟨t, pe, go⟩ := body f c A outer s H vs Q E (room.deeper _) h
  have J := inv_startN (F := L.nf c) (f := f) (CX := CX) (E := E) (tk := s.toks + (ps.zip us).length) S room.hd e0 lv rel no_cells ns fun b o e => sub.extBut b o (Nat.ne_of_lt (Heap.lt_size e)) (Heap.get?_push_of_some _ e)
  refine PySem.W.kla_codeExpr (wpAny_mono (pe.run [] _ _ H _ J go) (fun u s2 q => ?_) fun _ _ z => z)
  obtain ⟨v, H2, J2, rv, q⟩ := q
  exact ⟨v, H2, J2.os, J2.bare, J2.base, J2.hok, rv, q⟩
end
/-- a call by a local name, out of which an exception may come -/
def tCallL (i : Nat) (L : Lam) (sp : Sp) (E : L2.St → XK) (t : TA) : TE := fun σ H Q => ∃ f c, σ[i]? = some (some (.ref f)) ∧ H f = some (LmO f c L) ∧ t σ H fun vs H1 => H1 f = some (LmO f c L) ∧ H1 c = some (CodeO c L.qual) ∧ sp vs H1 Q (E σ)
section
variable {X : Cx} {pins : List (Addr × Obj)} {σ : L2.St} {H : Hp} {s : Shared}
theorem fn_at {f c : Addr} {L : Lam} (J : Inv X pins σ H s) (e : H f = some (LmO f c L)) : PySem.W.FnAt f s.heap := by
  obtain ⟨⟨pm, ctv, obj⟩, _, _⟩ := J.hok f _ e
  exact ⟨_, _, _, _, obj⟩
theorem pe_callL {CX : CXT} {k i : Nat} {L : Lam} {ps : List Str} {sp : Sp} {E : L2.St → XK} {x : Str} {p pos : Pos} {e : Expr} {es : List Expr} {t : TA} (F : LOk X.prog X.w X.K X.mg X.base CX k L ps sp) (room : Room k X.A) (at_ : X.N[i]? = some x) (vis : Vis X.env.scope x) (out : ∀ σ, PassesAt CX X σ (E σ)) (args : PA X (e :: es) t)
    (d1 : (x == ("__debug__" : Str)) = false := by decide) (d2 : (x == ("__classdict__" : Str)) = false := by decide) (st1 : starEach (e :: es) X.env = (false, eval e X.env) :: starEach es X.env := by rfl) (st2 : (backTo pos (starEach es X.env)).any (·.1) = false := by rfl) : PE X (.Call (.Name x p) (e :: es) [] pos) (tCallL i L sp E t) := by
  refine ⟨fun pins s σ H Q J ⟨f, c, h1, h2, h3⟩ => wpAny_Call_Name_kw ?_⟩
  refine thn ((pe_var (pos := p) at_ vis d1 d2).run pins s σ H (fun v G => v = .ref f ∧ G = H) J ⟨.ref f, h1, rfl, rfl⟩) fun u s1 ⟨v, G, J1, r1, e1, e2⟩ => ?_
  subst e1 e2
  cases r1
  refine PySem.W.callWith_F (first := []) (fn_at J1 h2) (thn (args.run pos pins s1 σ _ _ J1 h3) fun us s2 ⟨vs, G2, J2, r, g1, g2, q⟩ => ⟨fn_at J2 g1, ?_⟩) st1 st2
  refine wpAny_call (codeAny_mono (F.run f c X.A X.stack s2 G2 us vs Q (E σ) room J2.env0 g1 g2 r q) fun res s3 hq => ?_)
  match res, hq with
  | .error _, hq => exact out σ pins G2 s2 _ s3 J2 hq
  | .ok (.ret _), hq => exact J2.after hq
  | .ok .next, hq => exact hq.elim
  | .ok .brk, hq => exact hq.elim
  | .ok .cont, hq => exact hq.elim
end
end Lm
/-! lambdas over the data layer -/
namespace Dm
open PySem L2 Pb
/-- a lambda made leaves all data as it was -/
theorem ex_lam {p P c f : Addr} {H H1 : Hp} (hp : Al p H) (t : NdefX.TabN (hid p H) P lamAt) (g : Lm.Grow P H H1) (t1 : NdefX.TabN H1 P lamAt) (k : ∀ p o, H p = some o → NdefX.TabN (hid p H) P lamAt → c ≠ p ∧ f ≠ p ∧ NdefX.TabN (hid p H1) P lamAt) : ExB p H H1 := by
  obtain ⟨ps, h1, h2, h3⟩ := id t
  obtain ⟨nP, hP⟩ := hid_at.mp h1
  have off : ∀ a o, H a = some o → (∀ ps, o ≠ HO.tbl ps) → a ≠ P := fun a o ha nt e => by
    rw [e, hP] at ha
    exact nt ps (Option.some.inj ha).symm
  refine ⟨fun a o _ ha nt => g a o (off a o ha nt) ha, fun ⟨o, ho, nt⟩ => ⟨o, g p o (Ne.symm nP) ho, nt⟩, fun q ⟨k, xs, g1, g2, g3, g4, g5⟩ => ⟨k, xs, g1, g2, g3, g p _ (Ne.symm nP) g4, g q _ (off q _ g5 fun _ z => nomatch z) g5⟩, fun a ps' na ha => ?_, fun P' tp => ?_⟩
  · by_cases e : a = P
    · subst e
      obtain ⟨ps2, m1, _⟩ := t1
      exact ⟨ps2, m1⟩
    · exact ⟨ps', g a _ e ha⟩
  · by_cases e : P' = P
    · subst e
      obtain ⟨o, ho, _⟩ := hp
      exact (k p o ho tp).2.2
    · obtain ⟨ps2, m1, m2, m3⟩ := tp
      obtain ⟨n1, m1⟩ := hid_at.mp m1
      refine ⟨ps2, hid_at.mpr ⟨n1, g P' _ e m1⟩, m2, fun pos cv hc => ?_⟩
      obtain ⟨c2, e1, e2⟩ := m3 pos cv hc
      obtain ⟨n2, e2⟩ := hid_at.mp e2
      exact ⟨c2, e1, hid_at.mpr ⟨n2, g c2 _ (off c2 _ e2 LamX.codeO_ne) e2⟩⟩
/-! ### a def that is given a lambda first -/
/-- what is known of the lambda in the frame's heap -/
structure Held (L : Lm.Lam) (f c p : Addr) (H : Hp) : Prop where
  fn : H f = some (Lm.LmO f c L)
  cd : H c = some (LamX.CodeO c L.qual)
  nf : f ≠ p
  nc : c ≠ p
theorem lmO_ne {f c : Addr} {L : Lm.Lam} (ps : Array Value) : Lm.LmO f c L ≠ HO.tbl ps := fun z => by unfold Lm.LmO at z; cases z
theorem Held.up {L : Lm.Lam} {f c p : Addr} {H H' : Hp} (h : Held L f c p H) (e : ExB p H H') : Held L f c p H' := ⟨e.keep f _ h.nf h.fn lmO_ne, e.keep c _ h.nc h.cd LamX.codeO_ne, h.nf, h.nc⟩
def spL (L : Lm.Lam) (W : List Vx → (Vx → Prop) → Prop) : Sp := fun vs H Q _ => ∃ (z : Fz) (f c : Addr) (us : List V) (xs : List Vx) (R : Vx → Prop), vs = .ref f :: us ∧ z.n = NN ∧ AlS z H ∧ Held L f c z.p H ∧ DvAll z H us xs ∧ allNq xs ∧ W xs R ∧ (∀ v x H', ExB z.p H H' → nq x → Dv z H' v x → R x → Q v H') ∧
  (∀ K vs' ds H', ExB z.p H H' → H K = none → H' K = some (.lst vs') → DtAll (z.av K) H' vs' ds → vs'.length ≤ NN → R (.fl ds) → Q (.ref K) H')
/-- statements over frames whose heap holds the lambda at f -/
structure SndHL (L : Lm.Lam) (f c : Addr) (ts : TS) (ws : WS) : Prop where
  run : ∀ (fr : Fr) (z : Fz) (σ : L2.St) (H : Hp) (Γ : Ev) (D : Ends) (P : Post), Held L f c fr.z.p fr.H → Rs fr z σ H Γ → DOk fr D P → ws Γ P → ts D σ H
theorem si_of {L : Lm.Lam} {f c : Addr} {ts : TS} {ws : WS} (h : SndS ts ws) : SndHL L f c ts ws := ⟨fun fr z σ H Γ D P _ r d w => h.run fr z σ H Γ D P r d w⟩
theorem si_seq {L : Lm.Lam} {f c : Addr} {t u : TS} {a b : WS} (h1 : SndHL L f c t a) (h2 : SndHL L f c u b) : SndHL L f c (tSeq t u) (wSeq a b) := ⟨fun fr z σ H Γ D P hl r d w => h1.run fr z σ H Γ _ _ hl r (d.next fun z σ H Γ r w => h2.run fr z σ H Γ D P hl r d w) w⟩
theorem sl_try {K : PySem.W.Frag} {i ei : Nat} {L : Lm.Lam} {f c : Addr} {W : OX} {ta : TA} {wa : WA} {Ok : Addr → Prop} {c1 c2 c3 : Value} {ts : Addr → Addr → TS} {ws : Addr → Addr → WS} {V : WX} (h : SndA ta wa) (hits : ∀ C, Ok C → Hits K c1 c2 c3 C) (suite : ∀ C a, Ok C → SndS (ts C a) (ws C a)) :
    SndHL L f c (fun D σ H => (fun V' : WX => tDrop (Lm.tCallL i L (spX W) (L2.WE V') ta)) (Xt.wish K ei D V [(c1, fun _ _ _ => tNever), (c2, fun _ _ _ => tNever), (c3, fun a cls d D σ H => ∃ C, Ok C ∧ cls = .ref C ∧ d = none ∧ ts C a D σ H)]) D σ H) (wTry i ei f W wa Ok ws) := ⟨fun fr z σ H Γ D P hl r d w => by
  obtain ⟨w1, w2⟩ := w
  obtain ⟨_, v, s1, s2⟩ := r.sl i _ w1
  cases (show v = .ref f from s2)
  have hl1 := hl.up r.ex
  refine ⟨f, c, s1, hl1.fn, h.run z σ H Γ _ _ r.toRp w2 fun vs xs H2 e2 hs w3 => ?_⟩
  have r2 := r.up e2
  have hl2 := hl.up r2.ex
  refine ⟨hl2.fn, hl2.cd, z, xs, _, _, r.n, r2.al, hs, w3.1, w3.2, fun v x H3 e3 _ _ q => d.nx z σ H3 Γ (r2.up e3) q, fun L vs' ds H3 e3 _ _ _ _ q => d.nx z σ H3 Γ (r2.up e3) q, fun C H3 e3 q => ?_⟩
  obtain ⟨ok, q⟩ := q
  have k := hits C ok
  refine ⟨false, k.a, (fun e => nomatch e), fun _ => ⟨false, k.b, (fun e => nomatch e), fun _ => ⟨true, k.c, fun _ a na => ⟨C, ok, rfl, rfl, ?_⟩, (fun e => nomatch e)⟩⟩⟩
  exact (suite C a ok).run fr z _ H3 _ _ (postAs P ei) ((r2.up e3).setv (i := ei) (x := .rf a) trivial rfl) ⟨fun z' σ' H' Γ' r' w' => d.nx z' _ H' _ r'.forget w', fun z' σ' H' Γ' r' w' => d.bk z' _ H' _ r'.forget w', fun z' σ' H' Γ' r' w' => d.ct z' _ H' _ r'.forget w', d.rt, d.rf⟩ (q a)⟩
theorem fn_bodyL {L : Lm.Lam} {W : List Vx → (Vx → Prop) → Prop} {n : Nat} {N : List Str} {vs : List V} {H : Hp} {Q : VK} {E : XK} {ts : TS} {ws : Addr → WS} (hn : N.length = n) (s : ∀ f c, SndHL L f c ts (ws f)) (h : spL L W vs H Q E) (w : ∀ f xs R, W xs R → ws f (startE n (.rf f :: xs)) (posts R)) : ts { nx := fun _ H' => Q .non H', rt := Q } (start N vs) H := by
  subst hn
  obtain ⟨z, f, c, us, xs, R, rfl, n, al, hl, hs, nx, hW, k1, k2⟩ := h
  refine (s f c).run ⟨z, H, []⟩ z (start N (.ref f :: us)) H (startE N.length (.rf f :: xs)) _ (posts R) hl ?_ ⟨fun z' σ' H' Γ' r' w' => k1 .non (.d .none) H' r'.ex trivial dN w', fun _ _ _ _ _ w' => w'.elim, fun _ _ _ _ _ w' => w'.elim, fun v x H' e nx hx rx => k1 v x H' e nx hx rx, fun K vs' ds H' e nL hL hd hl rx => k2 K vs' ds H' e nL hL hd hl rx⟩ (w f xs R hW)
  have hs2 : DvAll z H (.ref f :: us) (.rf f :: xs) := ⟨rfl, hs⟩
  have nx2 : allNq (.rf f :: xs) := ⟨trivial, nx⟩
  exact { start_rp n al hs2 nx2 with p := rfl, n0 := n, sub := fun _ h => h, al0 := al, ex := .refl _ _, fr := fun i s L q o => (plain_own (start_own q) o).elim, nd := fun i j s t L q q' o o' => (plain_own (start_own q) o).elim, ks := fun k hk => (nomatch hk), nl := fun i s q => plain_lk (start_own q) }
theorem spL_len {L : Lm.Lam} {W : List Vx → (Vx → Prop) → Prop} {n : Nat} (hW : ∀ xs R, W xs R → xs.length = n) {vs : List V} {H : Hp} {Q : VK} {E : XK} (h : spL L W vs H Q E) : vs.length = n + 1 := by
  obtain ⟨z, f, c, us, xs, R, rfl, _, _, _, hs, _, w, _⟩ := h
  rw [List.length_cons, dvLen hs, hW xs R w]
/-! ### g(lambda .., x, y ..), where slot 0 tells the table -/
def wLam (i : Nat) (P : Addr) (W : List Vx → (Vx → Prop) → Prop) (wa : WA) : WE := fun Γ R => (∃ Ps, Γ[i]? = some (.tb Ps) ∧ P ∈ Ps) ∧ wa Γ fun xs => allNq xs ∧ W xs (unF R)
theorem snd_lam (i : Nat) {P : Addr} {L : Lm.Lam} {W : List Vx → (Vx → Prop) → Prop} {E : XK} {ta : TA} {wa : WA} (h : SndA ta wa) : SndE (tCall (spL L W) [] E (tCons (Lm.tLm P L) ta)) (wLam i P W wa) := ⟨fun z σ H Γ R Q r w k => by
  obtain ⟨⟨Ps, w0, wP⟩, w⟩ := w
  have t0 := r.al.3 P (r.sl i _ w0 P wP)
  obtain ⟨o, ho, _⟩ := id r.al.1
  refine ⟨t0.ext fun b o e => (hid_at.mp e).2, fun f c H1 g t1 kk nf hf hc => ?_⟩
  have ex := ex_lam r.al.1 t0 g t1 kk
  have hp := kk z.p o ho t0
  have held : Held L f c z.p H1 := ⟨hf, hc, hp.2.1, hp.1⟩
  have r1 := r.up ex
  refine h.run z σ H1 Γ _ _ r1 w fun us xs H2 e2 hs w2 => ?_
  show spL L W ((.ref f :: us) ++ []) H2 Q E
  rw [List.append_nil]
  refine ⟨z, f, c, us, xs, unF R, rfl, r.n, r1.al.up e2, held.up e2, hs, w2.1, w2.2, fun v x H3 e3 nx hx rx => k v x H3 (ex.trans (e2.trans e3)) hx ?_, fun M vs' ds H3 e3 nL hL hd hl rx => k _ (.d (.list ds)) H3 (ex.trans (e2.trans e3)) (dL ((r1.al.up e2).ne nL) hL (by rw [r.n]; exact hl) (hd.to .unav)) rx⟩
  cases x <;> first | exact rx | exact nx.elim⟩
end Dm
/-! lambdas of a law: where they stand, what they promise -/
namespace Lm
open PySem PySem.Spec PyProof.Rows L2 LamX
abbrev noP : Pos := ⟨0, 0, 0, 0⟩
def noE : Expr := .Name "" noP
abbrev sAt (l : List Stmt) (i : Nat) : Stmt := l.getD i (.Pass noP)
abbrev sTest : Stmt → Expr
  | .If t _ _ _ => t
  | .While t _ _ _ => t
  | _ => noE
abbrev sBody : Stmt → List Stmt
  | .If _ b _ _ => b
  | .For _ _ b _ _ => b
  | .While _ b _ _ => b
  | _ => []
abbrev sVal : Stmt → Expr
  | .Assign _ v _ => v
  | .Return (some v) _ => v
  | .Expr v _ => v
  | _ => noE
abbrev eLeft : Expr → Expr
  | .Compare l _ _ _ => l
  | _ => noE
abbrev eArg (i : Nat) : Expr → Expr
  | .Call _ es _ _ => es.getD i noE
  | _ => noE
abbrev eVal (i : Nat) : Expr → Expr
  | .BoolOp _ es _ => es.getD i noE
  | _ => noE
abbrev eOpd : Expr → Expr
  | .UnaryOp _ e _ => e
  | _ => noE
abbrev lamOf (q : Str) : Expr → Lam
  | .Lambda a b s _ => ⟨q, a, b, s⟩
  | e => ⟨q, ⟨[], [], none, [], [], none, []⟩, e, ⟨.function, [], false, false, []⟩⟩
theorem pe_lam2 {X : Cx} {P c0 : Addr} {L : Lam} {e : Expr} {pos : Pos} (TB : TabB X.base X.mg c0 P) (code : X.env.code = .ref c0) (hq : X.env.qual ++ "<lambda>" = L.qual) (hl : Pb.lamAt pos.line pos.col = L.qual) (he : e = .Lambda L.params L.body L.scope pos) (nodef : defaultsOf L.params X.env = ([], [])) (clo : closureFor L.scope X.env = pure []) : PE X e (tLm P L) := by
  subst he
  have h := pe_lam (pos := pos) (body := L.body) TB code (hl.trans hq.symm) nodef clo
  rw [hq] at h
  exact h
end Lm
namespace Dm
open PySem L2 Pb
/-- a def whose code object is known -/
theorem okC {P : Program} {w : World} {K : PySem.W.Frag} {mg : Str → Option Value} {base : Heap} {x : Str} {st : Stmt} {f c0 : Addr} {fd : FuncData} {N ps : List Str} {k : Nat} {sp : Sp} (F : Fun K x x st f fd) (hc : fd.code = .ref c0) (S : FnScope N ps (defScope st)) (len : ∀ vs H Q E, sp vs H Q E → vs.length = ps.length)
    (body : ∀ (A : Around) (outer : List Env) (s : Shared) (H : Hp) (vs : List V) (Q : VK) (E : XK), Room k (A.deeper (PyProof.Rows.envOfC x (defScope st) s.heap.objs.size f (.ref c0))) → sp vs H Q E → ∃ t, PSs (cxOf CX0 P w K mg base N x (defScope st) f (.ref c0) A outer s H E).nox (defBody st) t ∧ t { nx := fun _ H' => Q .non H', rt := Q } (start N vs) H) :
    FnOk P w K mg base CX0 (k + 1) f fd ps sp := by
  obtain ⟨oc, od, kV, doc, pm, an, cd, ct, sl, rfl, lk, hcd⟩ := F.ex
  cases (show cd = .ref c0 from hc)
  exact fn_of lk hcd S len fun A outer s H vs Q E hr hsp => (body A outer s H vs Q E hr hsp).elim fun t ⟨h, q⟩ => ⟨t, h.nox, q⟩
/-! ### a def that makes lambdas: its last slot, no name of the def's, tells the table -/
def spT (P : Addr) (W : OA) : Sp := fun vs H Q _ => ∃ (z : Fz) (xs : List Vx) (R : Vx → Prop), P ∈ z.T ∧ z.n = NN ∧ AlS z H ∧ DvAll z H vs xs ∧ allNq xs ∧ W xs R ∧ (∀ v x H', ExB z.p H H' → nq x → Dv z H' v x → R x → Q v H') ∧
  ∀ L vs' ds H', ExB z.p H H' → H L = none → H' L = some (.lst vs') → DtAll (z.av L) H' vs' ds → vs'.length ≤ NN → R (.fl ds) → Q (.ref L) H'
theorem spT_len {P : Addr} {W : OA} {n : Nat} (hW : ∀ xs R, W xs R → xs.length = n) {vs : List V} {H : Hp} {Q : VK} {E : XK} (h : spT P W vs H Q E) : vs.length = n := by
  obtain ⟨z, xs, R, _, _, _, hs, _, w, _⟩ := h
  rw [dvLen hs, hW xs R w]
theorem Rp.tbs {z : Fz} {σ : L2.St} {H : Hp} {Γ : Ev} {i : Nat} {Ps : List Addr} (r : Rp z σ H Γ) (h : ∀ P ∈ Ps, P ∈ z.T) : Rp z σ H (Γ.set i (.tb Ps)) := ⟨r.n, r.al, by rw [List.length_set]; exact r.len, fun j s q => by
  rcases set_get q with ⟨e1, e2, e3⟩ | ⟨e1, e2⟩
  · subst e3; exact h
  · exact r.sl j s e2⟩
def wCallT (i : Nat) (P : Addr) (W : OA) (wa : WA) : WE := fun Γ R => (∃ Ps, Γ[i]? = some (.tb Ps) ∧ P ∈ Ps) ∧ wCall W wa Γ R
theorem snd_callT (i : Nat) {P : Addr} {W : OA} {E : XK} {ta : TA} {wa : WA} (h : SndA ta wa) : SndE (tCall (spT P W) [] E ta) (wCallT i P W wa) := ⟨fun z σ H Γ R Q r ⟨⟨Ps, w0, wP⟩, w⟩ k => h.run z σ H Γ _ _ r w fun vs xs H2 e2 hs w2 => by
  show spT P W (vs ++ []) H2 Q E
  rw [List.append_nil]
  refine ⟨z, xs, unF R, r.sl i _ w0 P wP, r.n, r.al.up e2, hs, w2.1, w2.2, fun v x H3 e3 nx hx rx => k v x H3 (e2.trans e3) hx ?_, fun L vs' ds H3 e3 nL hL hd hl rx => k _ (.d (.list ds)) H3 (e2.trans e3) (dL ((r.al.up e2).ne nL) hL (by rw [r.n]; exact hl) (hd.to .unav)) rx⟩
  cases x <;> first | exact rx | exact nx.elim⟩
theorem start_tb {n m i : Nat} {xs : List Vx} {Ps : List Addr} {s : Slot} (h : ((startE n xs).set m (.tb Ps))[i]? = some s) : plainS s := by
  rcases set_get h with ⟨e1, e2, e3⟩ | ⟨e1, e2⟩
  · subst e3; trivial
  · exact start_own e2
theorem fn_bodyT {P : Addr} {W : OA} {n : Nat} {N : List Str} {vs : List V} {H : Hp} {Q : VK} {E : XK} {ts : TS} {ws : WS} (hn : N.length = n + 1) (s : SndS ts ws) (h : spT P W vs H Q E) (w : ∀ xs R, W xs R → ws ((startE (n + 1) xs).set n (.tb [P])) (posts R)) : ts { nx := fun _ H' => Q .non H', rt := Q } (start N vs) H := by
  obtain ⟨z, xs, R, hT, nn, al, hs, nx, hW, k1, k2⟩ := h
  have r := start_rp (N := N) nn al hs nx
  rw [hn] at r
  refine s.run ⟨z, H, []⟩ z (start N vs) H _ _ (posts R) ?_ ⟨fun z' σ' H' Γ' r' w' => k1 .non (.d .none) H' r'.ex trivial dN w', fun _ _ _ _ _ w' => w'.elim, fun _ _ _ _ _ w' => w'.elim, fun v x H' e nx hx rx => k1 v x H' e nx hx rx, fun L vs' ds H' e nL hL hd hl rx => k2 L vs' ds H' e nL hL hd hl rx⟩ (w xs R hW)
  exact { r.tbs (i := n) (Ps := [P]) (fun p hp => by rw [List.mem_singleton] at hp; rw [hp]; exact hT) with p := rfl, n0 := nn, sub := fun _ h => h, al0 := al, ex := .refl _ _, fr := fun i s L q o => (plain_own (start_tb q) o).elim, nd := fun i j s t L q q' o o' => (plain_own (start_tb q) o).elim, ks := fun k hk => (nomatch hk), nl := fun i s q => plain_lk (start_tb q) }
/-- lambda a, b, c: f(a) -/
def lam1 (W : OX) : OX
  | [x, _, _], R, X => W [x] R X
  | _, _, _ => False
/-- lambda a, b, c: f(a, b) -/
def lam2 (W : OX) : OX
  | [x, y, _], R, X => W [x, y] R X
  | _, _, _ => False
theorem lam1_len {W : OX} {xs : List Vx} {R : Vx → Prop} {X : Addr → Prop} (h : lam1 W xs R X) : xs.length = 3 := by
  unfold lam1 at h; split at h <;> first | rfl | exact h.elim
theorem lam2_len {W : OX} {xs : List Vx} {R : Vx → Prop} {X : Addr → Prop} (h : lam2 W xs R X) : xs.length = 3 := by
  unfold lam2 at h; split at h <;> first | rfl | exact h.elim
theorem lam1_go {W : OX} {N : List Str} {vs : List V} {H : Hp} {Q : VK} {E : XK} (h : spX (lam1 W) vs H Q E) : tCallS (spX W) (fun _ => E) (tCons (tVar 0) tNil) (NdefX.startF N vs []) H Q := by
  obtain ⟨z, xs, R, X, n, al, hs, nx, hW, k1, k2, k3⟩ := h
  unfold lam1 at hW
  split at hW
  · rename_i x _ _
    match vs, hs with
    | [v1, v2, v3], hs => exact ⟨v1, rfl, z, [x], R, X, n, al, ⟨hs.1, trivial⟩, ⟨nx.1, trivial⟩, hW, k1, k2, k3⟩
  · exact hW.elim
theorem lam2_go {W : OX} {N : List Str} {vs : List V} {H : Hp} {Q : VK} {E : XK} (h : spX (lam2 W) vs H Q E) : tCallS (spX W) (fun _ => E) (tCons (tVar 0) (tCons (tVar 1) tNil)) (NdefX.startF N vs []) H Q := by
  obtain ⟨z, xs, R, X, n, al, hs, nx, hW, k1, k2, k3⟩ := h
  unfold lam2 at hW
  split at hW
  · rename_i x y _
    match vs, hs with
    | [v1, v2, v3], hs => exact ⟨v1, rfl, v2, rfl, z, [x, y], R, X, n, al, ⟨hs.1, hs.2.1, trivial⟩, ⟨nx.1, nx.2.1, trivial⟩, hW, k1, k2, k3⟩
  · exact hW.elim
/-- `_law_refused` given a lambda whose promise is W -/
def WL_refused (Ok : Addr → Prop) (kin : Addr → PyData) (W : OX) : List Vx → (Vx → Prop) → Prop
  | [x1, x2, x3], R => allNq [x1, x2, x3] ∧ ∀ (R' : Vx → Prop) (X' : Addr → Prop), (R (.d (.list [])) → ∀ x, R' x) → (∀ C, Ok C → R (.d (kin C)) → X' C) → W [x1, x2, x3] R' X'
  | _, _ => False
end Dm
namespace LamX
open PySem PySem.Spec PyProof.Rows L2
/-- the end, where the tables of the top's defs are known to be empty -/
theorem end_tabs {l : PySem.W.OpenLaw} {m k : Nat} {pr : Program} {loose : List Str} {XP : (Str → Option Value) → Heap → Prop} {YP : World → Heap → Prop} {d : DefRec} {K : Params → PySem.W.Frag} {CX : World → CXT} {x : Str}
    (most : l.most = some m) (small : m ≤ sizeLine) (nodef : d.params.defaults = []) (room : Room k callerA) (kin : ∀ (w : World) (h : Heap), YP w h → (K w.params).In h)
    (law : ∀ (w : World) (mg : Str → Option Value) (fa : Addr) (h : Heap), YP w h → (K w.params).In h → h.Ns mainGlobals mg → mg d.name = some (.ref fa) → (∀ (y : Str) (c P : Addr), ((recsOf pr).any fun e => e.name == y) = true → PySem.W.tabIn (K w.params) y = some (c, P) → PySem.W.CodeHd h c P ∧ h.get? P = some (PySem.W.tabObj #[])) → LawAtS l w (K w.params) (CX w) k m x mg fa h)
    (none_out : ∀ (w : World) (H : Hp) (s : Shared) (e : Value) (s' : Shared), CX w [] H s (fun _ _ _ => False) e s' → False) :
    PySem.W.WalkO pr loose XP YP l.row.toRowW d [] (fun f vs => PySem.call f vs) := by
  refine Att.attach_callB most nodef fun w st0 st1 mg mb fa ob pmv cdv dcv sc us is Gr Yh _ _ _ named scr whole few bits gens => ?_
  have inK := kin w _ Yh
  obtain ⟨fd, tabs, sp, e1, e2, e3, e4, e5, e6⟩ := law w mg fa _ Yh inK Gr.T.g named fun y c P here t => by
    cases q : (recsOf pr).find? fun e => e.name == y with
    | none =>
      obtain ⟨dL, hm, he⟩ := List.any_eq_true.mp here
      exact absurd he (List.find?_eq_none.mp q dL hm)
    | some dL => exact PySem.W.tab_of Gr.T inK q t
  exact law_callTs inK Gr.T.g Gr.T.b Gr.T.builtins Gr.T.nolimit gens e1 e2 e3 Gr.T.bmain scr whole (Nat.le_trans few small) room e6 e4 (fun H hT hS => e5 H sc is few bits hT hS) fun H e s' => none_out w H st1 e s'
end LamX
namespace Dm
open PySem L2 Pb
/-! ### an own dict is let go: it is a value from here on -/
theorem Rs.frzT {f : Fr} {z : Fz} {σ : L2.St} {H : Hp} {Γ : Ev} {i : Nat} {L : Addr} {kvs : List Tk} (r : Rs f z σ H Γ) (e : Γ[i]? = some (.ot L kvs)) : ∃ z', Rs f z' σ H (Γ.set i (.v (.dt kvs))) := by
  obtain ⟨h1, h2, h3, h4, h5⟩ := r.sl i _ e
  have fL := r.fr i _ L e rfl
  refine ⟨{ z with S := z.S.filter fun a => decide (a ≠ L) }, ?_⟩
  have sub : ∀ a ∈ ({ z with S := z.S.filter fun a => decide (a ≠ L) } : Fz).S, a ∈ z.S := fun a ha => (List.mem_filter.mp ha).1
  have go : Go z { z with S := z.S.filter fun a => decide (a ≠ L) } H H := .sub (Nat.le_refl _) rfl sub
  have keep : ∀ a ∈ z.S, a ≠ L → a ∈ z.S.filter fun a => decide (a ≠ L) := fun a ha n => List.mem_filter.mpr ⟨ha, by simpa using n⟩
  refine { n := r.n, al := ⟨r.al.1, fun a ha => r.al.2 a (sub a ha), r.al.3⟩, len := by rw [List.length_set]; exact r.len, sl := fun j t q => ?_, p := r.p, n0 := r.n0, sub := fun a ha => keep a (r.sub a ha) fun e => ?_, al0 := r.al0, ex := r.ex, fr := fun j t M q o => ?_, nd := fun j k t u M q q' o o' => ?_, ks := fun k hk => (r.ks k hk).trans go, nl := fun j t q => ?_ }
  · rcases set_get q with ⟨e1, e2, e3⟩ | ⟨e1, e2⟩
    · subst e1 e3
      refine ⟨trivial, _, h1, L, rfl, ⟨h3, fun m => ?_⟩, h4, h5⟩
      have := (List.mem_filter.mp m).2
      simp at this
    · have g := r.sl j t e2
      have ne : ∀ M, t.own = some M → M ≠ L := fun M om em => e1 (r.nd j i t _ L e2 e (by rw [om, em]) rfl)
      cases t with
      | no => trivial
      | v x => obtain ⟨g0, v, g1, g2⟩ := g; exact ⟨g0, v, g1, g2.go g0 go⟩
      | ol M xs => obtain ⟨g1, g2, g3, vs, g4, g5, g6⟩ := g; exact ⟨g1, keep M g2 (ne M rfl), g3, vs, g4, dts_go go.toGs _ _ g5, g6⟩
      | ok M xs => obtain ⟨g1, g2, g3, g4, g5⟩ := g; exact ⟨g1, keep M g2 (ne M rfl), g3, g4, g5⟩
      | ot M xs => obtain ⟨g1, g2, g3, g4, g5⟩ := g; exact ⟨g1, keep M g2 (ne M rfl), g3, g4, g5⟩
      | lk xs => exact (r.nl j _ e2 trivial).elim
      | lt xs => exact (r.nl j _ e2 trivial).elim
      | fk xs => exact (r.nl j _ e2 trivial).elim
      | ft xs => exact (r.nl j _ e2 trivial).elim
      | tb P => exact r.sl j _ e2
  · obtain ⟨o, ho, _⟩ := r.al0.2 a ha
    rw [e, fL] at ho
    cases ho
  · rcases set_get q with ⟨_, _, e3⟩ | ⟨_, e2⟩
    · subst e3; cases o
    · exact r.fr j t M e2 o
  · rcases set_get q with ⟨_, _, e3⟩ | ⟨_, e2⟩
    · subst e3; cases o
    · rcases set_get q' with ⟨_, _, e3⟩ | ⟨_, e2'⟩
      · subst e3; cases o'
      · exact r.nd j k t u M e2 e2' o o'
  · rcases set_get q with ⟨_, _, e3⟩ | ⟨_, e2⟩
    · subst e3; exact id
    · exact r.nl j t e2
def wFrzT (i : Nat) (ws : WS) : WS := fun Γ P => match Γ[i]? with
  | some (.ot _ kvs) => ws (Γ.set i (.v (.dt kvs))) P
  | _ => ws Γ P
theorem ss_frzT {i : Nat} {ts : TS} {ws : WS} (h : SndS ts ws) : SndS ts (wFrzT i ws) := ⟨fun f z σ H Γ D P r d w => by
  unfold wFrzT at w
  split at w
  · rename_i e
    obtain ⟨z', r'⟩ := r.frzT e
    exact h.run f z' σ H _ D P r' d w
  · exact h.run f z σ H Γ D P r d w⟩
/-! ### a def that changes its first argument, a dict by pairs -/
def dropH (H : Hp) (L : Addr) : Hp := fun a => if a = L then none else H a
theorem drop_same {H : Hp} {L : Addr} : dropH H L L = none := by unfold dropH; rw [if_pos rfl]
theorem drop_ne {H : Hp} {L a : Addr} (h : a ≠ L) : dropH H L a = H a := by unfold dropH; rw [if_neg h]
theorem drop_some {H : Hp} {L a : Addr} {o : HO} (h : dropH H L a = some o) : a ≠ L ∧ H a = some o := by
  unfold dropH at h
  split at h
  · cases h
  · exact ⟨by assumption, h⟩
abbrev OM := List Tk → List Vx → (List Tk → Prop) → Prop
theorem ex_drop {p L : Addr} {H : Hp} : ExB p (dropH H L) H := .same fun a o h => (drop_some h).2
theorem dvs_go {z z' : Fz} {H H' : Hp} (e : Go z z' H H') : ∀ {vs : List V} {xs : List Vx}, allNq xs → DvAll z H vs xs → DvAll z' H' vs xs
  | [], [], _, h => trivial
  | v :: vs, x :: xs, n, h => ⟨h.1.go n.1 e, dvs_go e n.2 h.2⟩
  | [], _ :: _, _, h => h.elim
  | _ :: _, [], _, h => h.elim
def spM (W : OM) : Sp := fun vs H Q _ => ∃ (z : Fz) (L : Addr) (kvs : List Tk) (us : List V) (xs : List Vx) (R : List Tk → Prop), vs = .ref L :: us ∧ z.n = NN ∧ L ≠ z.p ∧ L ∉ z.S ∧ AlS z (dropH H L) ∧ H L = some (.dT (kvs.map keyed2)) ∧ okT kvs ∧ DvAll z (dropH H L) us xs ∧ allNq xs ∧ W kvs xs R ∧
  ∀ H' kvs', ExB z.p (dropH H L) H' → H' L = some (.dT (kvs'.map keyed2)) → okT kvs' → R kvs' → Q .non H'
def postM (L : Addr) (R : List Tk → Prop) : Post := ⟨fun Γ => ∃ kvs, Γ[0]? = some (.ot L kvs) ∧ R kvs, fun _ => False, fun _ => False, fun _ => False⟩
theorem fn_bodyM {W : OM} {n : Nat} {x : Str} {N : List Str} {vs : List V} {H : Hp} {Q : VK} {E : XK} {ts : TS} {ws : WS} (hn : N.length = n) (s : SndS ts ws) (h : spM W vs H Q E) (w : ∀ L kvs xs R, W kvs xs R → ws (.ot L kvs :: startE n xs) (postM L R)) : ts { nx := fun _ H' => Q .non H', rt := Q } (start (x :: N) vs) H := by
  subst hn
  obtain ⟨z, L, kvs, us, xs, R, rfl, n, np, ns, al, hL, ok, hs, nx, hW, k⟩ := h
  have e0 : start (x :: N) (.ref L :: us) = some (.ref L) :: start N us := by
    unfold L2.start
    rw [List.map_cons, List.length_cons, List.length_cons, Nat.add_sub_add_right]; rfl
  rw [e0]
  have r0 : Rs ⟨z, dropH H L, []⟩ z (start N us) (dropH H L) (startE N.length xs) := { start_rp n al hs nx with p := rfl, n0 := n, sub := fun _ h => h, al0 := al, ex := .refl _ _, fr := fun i s L q o => (plain_own (start_own q) o).elim, nd := fun i j s t L q q' o o' => (plain_own (start_own q) o).elim, ks := fun k hk => (nomatch hk), nl := fun i s q => plain_lk (start_own q) }
  have r1 : Rs ⟨z, dropH H L, []⟩ (z.av L) (some (.ref L) :: start N us) H (.ot L kvs :: startE N.length xs) := r0.pushOwn drop_same ex_drop ⟨_, hL, fun _ e => nomatch e⟩ rfl ⟨rfl, List.mem_cons_self, np, hL, ok⟩
  refine s.run ⟨z, dropH H L, []⟩ (z.av L) _ H _ _ (postM L R) r1 ⟨fun z' σ' H' Γ' r' w' => ?_, fun _ _ _ _ _ w' => w'.elim, fun _ _ _ _ _ w' => w'.elim, fun _ _ _ _ _ _ w' => w'.elim, fun _ _ _ _ _ _ _ _ _ w' => w'.elim⟩ (w L kvs xs R hW)
  obtain ⟨kvs', g1, g2⟩ := w'
  obtain ⟨_, _, _, g3, g4⟩ := r'.sl 0 _ g1
  exact k H' kvs' r'.ex g3 g4 g2
theorem spM_len {W : OM} {n : Nat} (hW : ∀ kvs xs R, W kvs xs R → xs.length = n) {vs : List V} {H : Hp} {Q : VK} {E : XK} (h : spM W vs H Q E) : vs.length = n + 1 := by
  obtain ⟨z, L, kvs, us, xs, R, rfl, _, _, _, _, _, _, hs, _, w, _⟩ := h
  rw [List.length_cons, dvLen hs, hW kvs xs R w]
/-- W of the dict and the others; a wall -/
def AppM (W : OM) (kvs : List Tk) (xs : List Vx) (R : List Tk → Prop) (_ : Box R) : Prop := W kvs xs R
theorem tab_but {p t : Addr} {H H' : Hp} {P : Addr} (g : Gd H t) (k : ∀ b o, b ≠ t → H b = some o → H' b = some o) (h : NdefX.TabN (hid p H) P lamAt) : NdefX.TabN (hid p H') P lamAt := by
  obtain ⟨ps, h1, h2, h3⟩ := h
  obtain ⟨n1, h1⟩ := hid_at.mp h1
  refine ⟨ps, hid_at.mpr ⟨n1, k _ _ (fun z => (g _ (by rw [← z]; exact h1)).1 ps rfl) h1⟩, h2, fun pos cv hc => ?_⟩
  obtain ⟨c, e1, e2⟩ := h3 pos cv hc
  obtain ⟨n2, e2⟩ := hid_at.mp e2
  exact ⟨c, e1, hid_at.mpr ⟨n2, k _ _ (fun z => (g _ (by rw [← z]; exact e2)).2 _ _ rfl) e2⟩⟩
def wCallM (i : Nat) (W : OM) (wa : WA) : WS := fun Γ P => match Γ[i]? with
  | some (.ot L kvs) => wa Γ fun xs => allNq xs ∧ AppM W kvs xs (fun kvs' => P.nx (Γ.set i (.ot L kvs'))) ⟨⟩
  | _ => False
theorem ss_callM {W : OM} {E : XK} {i : Nat} {ta : TA} {wa : WA} (h : SndA ta wa) : SndS (tDrop (tCall (spM W) [] E (tCons (tVar i) ta))) (wCallM i W wa) := ⟨fun f z σ H Γ D P r d w => by
  unfold wCallM at w
  split at w
  · rename_i L kvs e
    obtain ⟨h1, h2, h3, h4, h5⟩ := r.sl i _ e
    refine ⟨_, h1, h.run z σ H Γ _ _ r.toRp w fun us xs H2 e2 hs w2 => ?_⟩
    show spM W ((.ref L :: us) ++ []) H2 _ E
    rw [List.append_nil]
    have r2 := r.up e2
    have h42 := e2.keep L _ h3 h4
    have go : Go z { z with S := z.S.filter fun a => decide (a ≠ L) } H2 (dropH H2 L) := by
      have sub : ∀ a, okA z a → okA { z with S := z.S.filter fun a => decide (a ≠ L) } a := fun a k => ⟨k.1, fun m => k.2 (List.mem_filter.mp m).1⟩
      have ne : ∀ a, a ∉ z.S → a ≠ L := fun a k e => k (by rw [e]; exact h2)
      exact { n := Nat.le_refl _, p := rfl
              lst := fun a xs k h => ⟨by rw [drop_ne (ne a k.2)]; exact h, sub a k⟩
              tup := fun a xs k h => ⟨by rw [drop_ne (ne a k.2)]; exact h, sub a k⟩
              dk := fun a xs k h => ⟨by rw [drop_ne (ne a k.2)]; exact h, sub a k⟩
              dt := fun a xs k h => ⟨by rw [drop_ne (ne a k.2)]; exact h, sub a k⟩
              bag := fun q k ⟨c, xs, g1, g2, g3, g4, g5⟩ => ⟨fun m => k (List.mem_filter.mp m).1, c, xs, g1, g2, g3, by rw [drop_ne (Ne.symm h3)]; exact g4, by rw [drop_ne (ne q k)]; exact g5⟩ }
    have al2 := r2.al
    have alp : ∀ a, a ≠ L → Al a H2 → Al a (dropH H2 L) := fun a n ⟨o, g1, g2⟩ => ⟨o, by rw [drop_ne n]; exact g1, g2⟩
    refine ⟨{ z with S := z.S.filter fun a => decide (a ≠ L) }, L, kvs, us, xs, _, rfl, r.n, h3, fun m => ?_, ⟨alp _ (Ne.symm h3) al2.1, fun a ha => ?_, fun P m => tab_but (.dT h42) (fun b o n q => by rw [drop_ne n]; exact q) (al2.3 P m)⟩, h42, h5, dvs_go go w2.1 hs, w2.1, w2.2, fun H' kvs' ex hL' ok' hn => ?_⟩
    · have := (List.mem_filter.mp m).2
      simp at this
    · have hf := List.mem_filter.mp ha
      exact alp a (by simpa using hf.2) (al2.2 a hf.1)
    · have r3 := Rs.mut (o := .dT (kvs'.map keyed2)) (t := .ot L kvs') (fun _ e => nomatch e) r2 e rfl rfl h2 h3 ⟨h1, h2, h3, upd_same, ok'⟩
      refine d.nx z σ H' _ (r3.up ⟨fun a o na ha nt => ?_, fun ⟨o, g1, g2⟩ => ?_, fun q ⟨c, xs, g1, g2, g3, g4, g5⟩ => ?_, fun a ps na ha => ?_, fun P hT => ex.tabs P (tab_but (.dT (kvs := kvs'.map keyed2) (t := L) upd_same) (fun b o n q => by rw [upd_ne n] at q; rw [drop_ne n]; exact q) hT)⟩) hn
      · by_cases ea : a = L
        · subst ea; rw [upd_same] at ha; cases ha; exact hL'
        · rw [upd_ne ea] at ha; exact ex.keep a o na (by rw [drop_ne ea]; exact ha) nt
      · rw [upd_ne (Ne.symm h3)] at g1
        exact ex.al ⟨o, by rw [drop_ne (Ne.symm h3)]; exact g1, g2⟩
      · have nq : q ≠ L := fun e => by rw [e, upd_same] at g5; cases g5
        rw [upd_ne (Ne.symm h3)] at g4
        rw [upd_ne nq] at g5
        exact ex.bag q ⟨c, xs, g1, g2, g3, by rw [drop_ne (Ne.symm h3)]; exact g4, by rw [drop_ne nq]; exact g5⟩
      · have ea : a ≠ L := fun e => by rw [e, upd_same] at ha; cases ha
        rw [upd_ne ea] at ha
        exact ex.tb a ps na (by rw [drop_ne ea]; exact ha)
  · exact w.elim⟩
end Dm
/-! the order of triples and of pairs: what is sorted hangs on what is in it alone -/
namespace Dm
open PySem L2 Pb
open PySem.W (AllAlike Sortable dataLe dataLt alike)
def sLt (x y : Str) : Prop := x.cps.toList < y.cps.toList
instance (x y : Str) : Decidable (sLt x y) := inferInstanceAs (Decidable (x.cps.toList < y.cps.toList))
theorem str_ext {x y : Str} (h : x.cps.toList = y.cps.toList) : x = y := by
  obtain ⟨⟨a⟩⟩ := x
  obtain ⟨⟨b⟩⟩ := y
  simp only at h
  rw [h]
theorem sLt_irrefl (x : Str) : ¬ sLt x x := List.lt_irrefl _
theorem sLt_trans {x y z : Str} (a : sLt x y) (b : sLt y z) : sLt x z := List.lt_trans a b
theorem sLt_tri (x y : Str) : sLt x y ∨ x = y ∨ sLt y x := by
  by_cases h1 : sLt x y
  · exact .inl h1
  · by_cases h2 : sLt y x
    · exact .inr (.inr h2)
    · exact .inr (.inl (str_ext (List.le_antisymm (List.not_lt.mp h2) (List.not_lt.mp h1))))
theorem sLt_asymm {x y : Str} (a : sLt x y) (b : sLt y x) : False := sLt_irrefl _ (sLt_trans a b)
/-- not above, by a first key and then the rest -/
def le3 (t u : Tr) : Prop := sLt t.1 u.1 ∨ (t.1 = u.1 ∧ (sLt t.2.1 u.2.1 ∨ (t.2.1 = u.2.1 ∧ t.2.2 ≤ u.2.2)))
instance (t u : Tr) : Decidable (le3 t u) := inferInstanceAs (Decidable (_ ∨ _))
theorem lt3_eq (t u : Tr) : dataLt (enc3 t) (enc3 u) = decide (sLt t.1 u.1 ∨ (t.1 = u.1 ∧ (sLt t.2.1 u.2.1 ∨ (t.2.1 = u.2.1 ∧ t.2.2 < u.2.2)))) := by
  have e0 : PyProof.Rows.lexLt PyProof.Rows.itemOrd (PySem.W.keyToksAll []) (PySem.W.keyToksAll []) = false := PyProof.Rows.lex_irrefl _
  unfold enc3
  rw [PySem.W.dataLt_tuple, PySem.W.dataLt_cons (by simp [alike]), PySem.W.dataLt_cons (by simp [alike]), PySem.W.dataLt_cons (by simp [alike]), e0, eqv_str, eqv_str, eqv_int, PySem.W.dataLt_str, PySem.W.dataLt_str, PySem.W.dataLt_int]
  have s1 := sLt_irrefl t.1
  have s2 := sLt_irrefl t.2.1
  by_cases h1 : t.1 = u.1
  · by_cases h2 : t.2.1 = u.2.1
    · by_cases h3 : t.2.2 = u.2.2
      · rw [h1] at s1; rw [h2] at s2
        simp [h1, h2, h3, s1, s2]
      · rw [h1] at s1; rw [h2] at s2
        simp [h1, h2, h3, s1, s2]
    · rw [h1] at s1
      simp [h1, h2, s1]
      rfl
  · simp [h1]
    rfl
theorem le3_eq (t u : Tr) : dataLe false enc3 t u = decide (le3 t u) := by
  show (!dataLt (enc3 u) (enc3 t)) = _
  rw [lt3_eq]
  by_cases h : le3 t u
  · rw [decide_eq_true h, decide_eq_false]; rfl
    rintro (q | ⟨q1, q | ⟨q2, q⟩⟩)
    · rcases h with p | ⟨p, _⟩
      · exact sLt_asymm q p
      · rw [p] at q; exact sLt_irrefl _ q
    · rcases h with p | ⟨_, p | ⟨p, _⟩⟩
      · rw [q1] at p; exact sLt_irrefl _ p
      · exact sLt_asymm q p
      · rw [p] at q; exact sLt_irrefl _ q
    · rcases h with p | ⟨_, p | ⟨_, p⟩⟩
      · rw [q1] at p; exact sLt_irrefl _ p
      · rw [q2] at p; exact sLt_irrefl _ p
      · omega
  · rw [decide_eq_false h, decide_eq_true]; rfl
    refine Decidable.byContradiction fun k => h ?_
    rcases sLt_tri t.1 u.1 with a | a | a
    · exact .inl a
    · rcases sLt_tri t.2.1 u.2.1 with b | b | b
      · exact .inr ⟨a, .inl b⟩
      · exact .inr ⟨a, .inr ⟨b, by
          refine Int.not_lt.mp fun c => k (.inr ⟨a.symm, .inr ⟨b.symm, c⟩⟩)⟩⟩
      · exact (k (.inr ⟨a.symm, .inl b⟩)).elim
    · exact (k (.inl a)).elim
theorem le3_trans {a b c : Tr} (h : le3 a b) (k : le3 b c) : le3 a c := by
  rcases h with h | ⟨h, h'⟩
  · rcases k with k | ⟨k, _⟩
    · exact .inl (sLt_trans h k)
    · exact .inl (k ▸ h)
  · rcases k with k | ⟨k, k'⟩
    · exact .inl (h ▸ k)
    · refine .inr ⟨h.trans k, ?_⟩
      rcases h' with h' | ⟨h1, h2⟩
      · rcases k' with k' | ⟨k1, _⟩
        · exact .inl (sLt_trans h' k')
        · exact .inl (k1 ▸ h')
      · rcases k' with k' | ⟨k1, k2⟩
        · exact .inl (h1 ▸ k')
        · exact .inr ⟨h1.trans k1, by omega⟩
theorem le3_total (a b : Tr) : le3 a b ∨ le3 b a := by
  rcases sLt_tri a.1 b.1 with h | h | h
  · exact .inl (.inl h)
  · rcases sLt_tri a.2.1 b.2.1 with k | k | k
    · exact .inl (.inr ⟨h, .inl k⟩)
    · rcases Int.le_total a.2.2 b.2.2 with l | l
      · exact .inl (.inr ⟨h, .inr ⟨k, l⟩⟩)
      · exact .inr (.inr ⟨h.symm, .inr ⟨k.symm, l⟩⟩)
    · exact .inr (.inr ⟨h.symm, .inl k⟩)
  · exact .inr (.inl h)
theorem le3_antisymm {a b : Tr} (h : le3 a b) (k : le3 b a) : a = b := by
  obtain ⟨a1, a2, a3⟩ := a
  obtain ⟨b1, b2, b3⟩ := b
  simp only [le3] at h k
  rcases h with h | ⟨h, h'⟩
  · rcases k with k | ⟨k, _⟩
    · exact (sLt_asymm h k).elim
    · rw [k] at h; exact (sLt_irrefl _ h).elim
  · subst h
    rcases k with k | ⟨_, k'⟩
    · exact (sLt_irrefl _ k).elim
    · rcases h' with h' | ⟨h1, h2⟩
      · rcases k' with k' | ⟨k1, _⟩
        · exact (sLt_asymm h' k').elim
        · rw [k1] at h'; exact (sLt_irrefl _ h').elim
      · subst h1
        rcases k' with k' | ⟨_, k2⟩
        · exact (sLt_irrefl _ k').elim
        · rw [Int.le_antisymm h2 k2]
theorem srt3_up (l : List Tr) : (srt3 l).Pairwise le3 := by
  have h := List.pairwise_mergeSort (le := dataLe false enc3) (fun a b c p q => by
    rw [le3_eq] at p q ⊢
    exact decide_eq_true (le3_trans (of_decide_eq_true p) (of_decide_eq_true q))) (fun a b => by
    rw [le3_eq, le3_eq, Bool.or_eq_true]
    exact (le3_total a b).elim (fun h => .inl (decide_eq_true h)) (fun h => .inr (decide_eq_true h))) l
  exact h.imp fun {a b} p => by
    have p : dataLe false enc3 a b = true := p
    rw [le3_eq] at p
    exact of_decide_eq_true p
theorem srt3_of_perm {l l' : List Tr} (p : l.Perm l') : srt3 l = srt3 l' :=
  List.Perm.eq_of_pairwise (fun a b _ _ h k => le3_antisymm h k) (srt3_up l) (srt3_up l') (((srt3_perm l).trans p).trans (srt3_perm l').symm)
theorem srt3_id {l : List Tr} (h : l.Pairwise le3) : srt3 l = l :=
  List.Perm.eq_of_pairwise (fun a b _ _ h k => le3_antisymm h k) (srt3_up l) h (srt3_perm l)
end Dm
namespace Dm
open PySem L2 Pb PyProof.Rows
/-! ### a op b op c op .. as a test -/
abbrev TL := V → L2.St → Hp → (Bool → Hp → Prop) → Prop
def tlOne (r : R2) (tb : TE) : TL := fun x σ H Q => tb σ H fun y H1 => r x y H1 fun z H2 => ∃ k, z = .bl k ∧ Q k H2
def tlCons (r : R2) (tb : TE) (tl : TL) : TL := fun x σ H Q => tb σ H fun y H1 => r x y H1 fun z H2 => ∃ k, z = .bl k ∧ (if k = true then tl y σ H2 Q else Q false H2)
def tChN (ta : TE) (tl : TL) : TT := fun σ H Q => ta σ H fun x H1 => tl x σ H1 Q
structure PLk (X : Cx) (ops : List CmpOp) (es : List Expr) (t : TL) : Prop where
  run : ∀ (pos : Pos) (pins : List (Addr × Obj)) (s : Shared) (σ : L2.St) (H : Hp) (x : V) (v : Value) (Q : Bool → Hp → Prop), Inv X pins σ H s → L2.RelV x v → t x σ H Q →
    wpAny (model X.prog X.w) X.A (testChain pos v ops (evalEach es X.env)) (fun b s' => ∃ H', Inv X pins σ H' s' ∧ Q b H') X.xe s
section
variable {X : Cx}
theorem plk_one {op : CmpOp} {r : R2} {e : Expr} {te : TE} (ho : OpR X (compareOp op) r) (he : PE X e te) : PLk X [op] [e] (tlOne r te) := ⟨fun pos pins s σ H x v Q I rx h => by
  refine test_last (thn (he.run pins s σ H _ I h) fun w' s4 ⟨z', H4, I4, r4, q4⟩ => thn (ho pins s4 σ H4 x z' v w' _ I4 rx r4 q4) fun d' s5 ⟨z2, H5, I5, r5, k2, e2, q5⟩ => ?_)
  subst e2
  cases r5
  exact wpAny_truthy_bool ⟨H5, I5, q5⟩⟩
theorem plk_cons {op op' : CmpOp} {ops : List CmpOp} {r : R2} {e e' : Expr} {es : List Expr} {te : TE} {tl : TL} (ho : OpR X (compareOp op) r) (he : PE X e te) (hl : PLk X (op' :: ops) (e' :: es) tl) : PLk X (op :: op' :: ops) (e :: e' :: es) (tlCons r te tl) := ⟨fun pos pins s σ H x v Q I rx h => by
  refine test_link (thn (he.run pins s σ H _ I h) fun u s2 ⟨y, H2, I2, r2, q2⟩ => thn (ho pins s2 σ H2 x y v u _ I2 rx r2 q2) fun d s3 ⟨z, H3, I3, r3, k, e, q3⟩ => ?_)
  subst e
  cases r3
  refine wpAny_truthy_bool ?_
  cases k with
  | false => exact ite_ff ⟨H3, I3, q3⟩
  | true => exact ite_tt (hl.run pos pins s3 σ H3 y u Q I3 r2 q3)⟩
theorem pt_chainN {op op' : CmpOp} {ops : List CmpOp} {a e e' : Expr} {es : List Expr} {ta : TE} {tl : TL} {pos : Pos} (ha : PE X a ta) (hl : PLk X (op :: op' :: ops) (e :: e' :: es) tl)
    (hm : lastMarks (op :: op' :: ops) (e :: e' :: es) = false := by with_unfolding_all rfl) : PT X (.Compare a (op :: op' :: ops) (e :: e' :: es) pos) (tChN ta tl) := by
  refine ⟨fun pins s σ H Q I h => ?_⟩
  exact isTrue_chain (thn (ha.run pins s σ H _ I h) fun v s1 ⟨x, H1, I1, r1, q1⟩ => hl.run pos pins s1 σ H1 x v Q I1 r1 q1) hm
end
abbrev WL := Vx → Ev → (Bool → Prop) → Prop
structure SndL (t : TL) (w : WL) : Prop where
  run : ∀ (z : Fz) (σ : L2.St) (H : Hp) (Γ : Ev) (v : V) (x : Vx) (R : Bool → Prop) (Q : Bool → Hp → Prop), Rp z σ H Γ → Dv z H v x → w x Γ R → (∀ b H2, ExB z.p H H2 → R b → Q b H2) → t v σ H Q
def wlOne (o : O2) (wb : WE) : WL := fun x Γ R => wb Γ fun y => o x y fun t => match t with
  | .d (.bool b) => R b
  | _ => False
def wlCons (o : O2) (wb : WE) (wl : WL) : WL := fun x Γ R => wb Γ fun y => o x y fun t => match t with
  | .d (.bool b) => if b = true then wl y Γ R else R false
  | _ => False
def wChN (wa : WE) (wl : WL) : WT := fun Γ R => wa Γ fun x => wl x Γ R
theorem snd_lone {r : R2} {o : O2} {tb : TE} {wb : WE} (ho : SndOp r o) (hb : SndE tb wb) : SndL (tlOne r tb) (wlOne o wb) := ⟨fun z σ H Γ v x R Q r hx w k => hb.run z σ H Γ _ _ r w fun u y H2 e2 hy w2 => ho.run z H2 v u x y _ _ r.n (r.al.up e2) (hx.up e2) hy w2 fun b t H3 e3 ht w3 => by
  split at w3
  · cases ht; exact ⟨_, rfl, k _ H3 (e2.trans e3) w3⟩
  · exact w3.elim⟩
theorem snd_lcons {r : R2} {o : O2} {tb : TE} {wb : WE} {tl : TL} {wl : WL} (ho : SndOp r o) (hb : SndE tb wb) (hl : SndL tl wl) : SndL (tlCons r tb tl) (wlCons o wb wl) := ⟨fun z σ H Γ v x R Q r hx w k => hb.run z σ H Γ _ _ r w fun u y H2 e2 hy w2 => ho.run z H2 v u x y _ _ r.n (r.al.up e2) (hx.up e2) hy w2 fun b t H3 e3 ht w3 => by
  split at w3
  · rename_i c
    cases ht
    refine ⟨c, rfl, ?_⟩
    split at w3
    · rename_i h
      rw [if_pos h]
      exact hl.run z σ H3 Γ u y R Q ((r.up e2).up e3) (hy.up e3) w3 fun b H4 e4 => k b H4 ((e2.trans e3).trans e4)
    · rename_i h
      rw [if_neg h]
      exact k _ H3 (e2.trans e3) w3
  · exact w3.elim⟩
theorem snd_chN {ta : TE} {wa : WE} {tl : TL} {wl : WL} (ha : SndE ta wa) (hl : SndL tl wl) : SndT (tChN ta tl) (wChN wa wl) := ⟨fun z σ H Γ R Q r w k => ha.run z σ H Γ _ _ r w fun v x H2 e2 hx w2 => hl.run z σ H2 Γ v x R Q (r.up e2) hx w2 fun b H3 e3 => k b H3 (e2.trans e3)⟩
/-! ### the truth of an own list -/
def wTru (i : Nat) : WT := fun Γ R => match Γ[i]? with
  | some (.ol _ xs) => R (!xs.isEmpty)
  | _ => False
theorem snd_truth {K : PySem.W.Frag} (i : Nat) : SndT (fun σ H Q => tVar i σ H fun x H' => ∃ k, TruV K x H' k ∧ Q k H') (wTru i) := ⟨fun z σ H Γ R Q r w k => by
  unfold wTru at w
  split at w
  · rename_i L xs e
    obtain ⟨h1, h2, h3, vs, h4, h5, h6⟩ := r.sl i _ e
    refine ⟨_, h1, !vs.isEmpty, .inl ⟨vs, .inl (.inl h4), rfl⟩, k _ H (.refl _ H) ?_⟩
    have : vs.isEmpty = xs.isEmpty := by cases h5 <;> rfl
    rw [this]; exact w
  · exact w.elim⟩
end Dm
/-! sorted(set(texts)) -/
namespace Pb
open PySem PySem.Spec PyProof.Rows L2
def strOf (e : Int × Value) : Str := match e.2 with
  | .str x _ => x
  | _ => Str.empty
abbrev Led (w : World) (t : SetTable) : Prop := w.params.followText "set-order" = true ∨ t.led = true
/-- entries and table of a set of texts that can be walked -/
structure Txt (P : Program) (w : World) (es : Array (Int × Value)) (t : SetTable) : Prop where
  el : ElemsOf (PySem.strKind P w) es.toList
  nd : (es.toList.map strOf).Nodup
  few : es.size < scanBound
  fit : t.fits es.size = true
  ris : Ris t.place.toList
  led : Led w t
theorem elem_str {P : Program} {w : World} {l : List (Int × Value)} (h : ElemsOf (PySem.strKind P w) l) {e : Int × Value} (he : e ∈ l) : ∃ tk, e.2 = .str (strOf e) tk := by
  obtain ⟨⟨k, hk, _⟩, _⟩ := h e he
  obtain ⟨tk, q⟩ := Value.isStrOf_shape hk
  refine ⟨tk, ?_⟩
  unfold strOf
  rw [q]
theorem is_str {P : Program} {w : World} {l : List (Int × Value)} (h : ElemsOf (PySem.strKind P w) l) {e : Int × Value} (he : e ∈ l) (x : Str) : (PySem.strKind P w).is x e.2 = true ↔ strOf e = x := by
  obtain ⟨tk, q⟩ := elem_str h he
  rw [q]
  show (strOf e == x) = true ↔ _
  exact beq_iff_eq
theorem Txt.relay {P : Program} {w : World} {es : Array (Int × Value)} {t : SetTable} (g : Txt P w es t) (m : Nat) : Txt P w (relayAll t es m).1 (relayAll t es m).2.1 ∧ (relayAll t es m).1.toList.Perm es.toList := by
  have pm := relayAll_perm t es m
  have sz : (relayAll t es m).1.size = es.size := by rw [← Array.length_toList, pm.length_eq, Array.length_toList]
  exact ⟨⟨fun e he => g.el e (pm.mem_iff.mp he), (pm.map strOf).nodup_iff.mpr g.nd, by rw [sz]; exact g.few, relayAll_fits t es m, relayAll_ris t es m, g.led.imp id fun z => by rw [relayAll_led]; exact z⟩, pm⟩
theorem Txt.lay {P : Program} {w : World} {es : Array (Int × Value)} {t : SetTable} (g : Txt P w es t) {x : Str} {tk : Tok} (new : x ∉ es.toList.map strOf) (room : es.size + 1 < scanBound) :
    Txt P w (layNew t es ((PySem.strKind P w).hash x) (.str x tk)).1 (layNew t es ((PySem.strKind P w).hash x) (.str x tk)).2.1 ∧ (layNew t es ((PySem.strKind P w).hash x) (.str x tk)).1.toList.Perm (es.toList ++ [((PySem.strKind P w).hash x, .str x tk)]) := by
  have pm := layNew_perm t es ((PySem.strKind P w).hash x) (.str x tk)
  rw [Array.toList_push] at pm
  have sz : (layNew t es ((PySem.strKind P w).hash x) (.str x tk)).1.size = es.size + 1 := by rw [← Array.length_toList, pm.length_eq, List.length_append, Array.length_toList]; rfl
  refine ⟨⟨(g.el.push (strKind_is P w x tk) rfl).perm pm, ?_, by rw [sz]; exact room, layNew_fits _ _ _ _, layNew_ris _ _ _ _ g.ris, g.led.imp id fun z => by rw [layNew_led]; exact z⟩, pm⟩
  have q := pm.map strOf
  rw [List.map_append] at q
  refine q.nodup_iff.mpr (List.nodup_append.mpr ⟨g.nd, by simp, fun a ha b hb z => new ?_⟩)
  have : b = x := by simpa [strOf] using hb
  rw [← this, ← z]; exact ha
/-- the set of texts at a -/
def TxtAt (P : Program) (w : World) (h : Heap) (a : Addr) (xs : List Str) : Prop := ∃ o es ep t, h.get? a = some o ∧ o.ExactSet ∧ o.data = .set es ep t ∧ Txt P w es t ∧ es.size ≤ xs.length ∧ ∀ y, y ∈ es.toList.map strOf ↔ y ∈ xs
section
variable {P : Program} {w : World} {A : Around} {E : Value → Shared → Prop} {s : Shared} {a : Addr}
theorem TxtAt.kept {h h' : Heap} {xs : List Str} (T : TxtAt P w h a xs) (k : ∀ o, h.get? a = some o → h'.get? a = some o) : TxtAt P w h' a xs := by
  obtain ⟨o, es, ep, t, ho, r⟩ := T
  exact ⟨o, es, ep, t, k o ho, r⟩
theorem gave {b : Bool} {s1 : Shared} {R : Unit → Shared → Prop} (q : R () s1) : wpAny (model P w) A (match b with | true => rule "set.scan.the-table-gave-way" | false => pure ()) R E s1 := by
  cases b
  · exact wpAny_pure q
  · exact wpAny_rule q
theorem txt_tail {g : Bool → Sem Unit} (gw : ∀ (b : Bool) (s1 : Shared) (R : Unit → Shared → Prop), R () s1 → wpAny (model P w) A (g b) R E s1) {o : Obj} {es es1 : Array (Int × Value)} {ep : Nat} {t t2 : SetTable} {ys : List Str} (ho : s.heap.get? a = some o) (hex : o.ExactSet) (hd : o.data = .set es ep t)
    (gd : Txt P w es1 t2) (sz : es1.size ≤ ys.length) (mem : ∀ y, y ∈ es1.toList.map strOf ↔ y ∈ ys) {dummy : Bool} {R : Option Bool → Shared → Prop} (fin : ∀ h', Heap.SameBut a s.heap h' → TxtAt P w h' a ys → R (some true) { s with heap := h' }) :
    wpAny (model P w) A (storeSet a es1 t2 >>= fun _ => if (!dummy && t2.tooFull) = true then
        g (relayAll t2 es1 (SetTable.grown es1.size)).2.2 >>= fun _ => storeSet a (relayAll t2 es1 (SetTable.grown es1.size)).1 (relayAll t2 es1 (SetTable.grown es1.size)).2.1 >>= fun _ => pure (some true)
      else pure (some true)) R E s := by
  have b1 := Heap.SameBut.update s.heap a (Obj.putSet es1 t2)
  have o1 := store_at (es' := es1) (t' := t2) ho hd
  refine wpAny_bind (wpAny_storeSet_of ho hd ?_ (fits_of_scanBound gd.few))
  split
  · obtain ⟨g2, pm⟩ := gd.relay (SetTable.grown es1.size)
    generalize relayAll t2 es1 (SetTable.grown es1.size) = Z at g2 pm ⊢
    refine wpAny_bind (gw _ _ _ (wpAny_bind (wpAny_storeSet_of o1 rfl ?_ (fits_of_scanBound g2.few))))
    have o2 := store_at (es' := Z.1) (t' := Z.2.1) o1 rfl
    exact wpAny_pure (fin _ (b1.trans (Heap.SameBut.update _ a _)) ⟨_, Z.1, _, Z.2.1, o2, hex, rfl, g2, by rw [← Array.length_toList, pm.length_eq, Array.length_toList]; exact sz, fun y => ((pm.map strOf).mem_iff).trans (mem y)⟩)
  · exact wpAny_pure (fin _ b1 ⟨_, es1, _, t2, o1, hex, rfl, gd, sz, mem⟩)
theorem Txt.plain {es : Array (Int × Value)} {t : SetTable} (g : Txt P w es t) : Txt P w es { t with plain := false } := ⟨g.el, g.nd, g.few, SetTable.fits_plain_off g.fit, g.ris, g.led⟩
theorem txt_add {xs : List Str} {x : Str} {tk : Tok} {Q : Bool → Shared → Prop} (T : TxtAt P w s.heap a xs) (room : xs.length + 1 < scanBound)
    (fin : ∀ b h', Heap.SameBut a s.heap h' → TxtAt P w h' a (xs ++ [x]) → Q b { s with heap := h' }) : wpAny (model P w) A (setAddHashed a (.str x tk) ((PySem.strKind P w).hash x)) Q E s := by
  obtain ⟨o, es, ep, t, ho, hex, hd, g, sz, mem⟩ := T
  have rm : es.size + 1 < scanBound := by omega
  have same : ∀ {l : List (Int × Value)}, l.Perm (es.toList ++ [((PySem.strKind P w).hash x, .str x tk)]) → ∀ y, y ∈ l.map strOf ↔ y ∈ xs ++ [x] := fun {l} pm y => by
    rw [(pm.map strOf).mem_iff, List.map_append, List.mem_append, List.mem_append, mem y]
    rfl
  unfold setAddHashed setAddHashedIn
  refine wpAny_holding (wpAny_bind (wpAny_setState_of ho hd g.fit ?_))
  dsimp only
  rw [byScan_of (x := .str x tk) rfl g.few g.el, if_pos rfl]
  unfold setAddByScan
  refine wpAny_bind (wpAny_bind (wpAny_rule (wpAny_bind (wpAny_setScan_of (strKind_is P w x tk) ho hd g.fit g.el ?_))))
  cases look : List.findIdx? (fun e => (PySem.strKind P w).is x e.2) es.toList with
  | some j =>
    obtain ⟨hj, pj, _⟩ := List.findIdx?_eq_some_iff_getElem.mp look
    have hx : x ∈ es.toList.map strOf := List.mem_map.mpr ⟨_, List.getElem_mem hj, (is_str g.el (List.getElem_mem hj) x).mp pj⟩
    refine wpAny_pure (wpAny_pure ?_)
    refine fin _ s.heap (Heap.SameBut.refl a s.heap) ⟨o, es, ep, t, ho, hex, hd, g, by rw [List.length_append]; omega, fun y => ?_⟩
    rw [mem y, List.mem_append, List.mem_singleton]
    exact ⟨.inl, fun z => z.elim id fun z => by rw [z]; exact (mem x).mp hx⟩
  | none =>
    have hx : x ∉ es.toList.map strOf := fun z => by
      obtain ⟨e, he, q⟩ := List.mem_map.mp z
      have := List.findIdx?_eq_none_iff.mp look e he
      rw [(is_str g.el he x).mpr q] at this
      cases this
    obtain ⟨g1, pm1⟩ := g.lay (tk := tk) hx rm
    have sz1 := pm1.length_eq
    rw [Array.length_toList, List.length_append, Array.length_toList] at sz1
    generalize layNew t es ((PySem.strKind P w).hash x) (.str x tk) = Z at g1 pm1 sz1 ⊢
    obtain ⟨es1, t1, dummy, gv⟩ := Z
    dsimp only at g1 pm1 sz1 ⊢
    have sz2 : es1.size ≤ (xs ++ [x]).length := by rw [sz1, List.length_append]; exact Nat.add_le_add_right sz _
    refine wpAny_bind (gave ?_)
    split
    · refine wpAny_bind ?_
      rw [hashByValue_scannable 8 (show (Value.str x tk).scannable = true from rfl)]
      refine wpAny_pure ?_
      refine txt_tail (fun b s1 R q => gave q) ho hex hd (ys := xs ++ [x]) ?_ sz2 (same pm1) (fun h' sb r => wpAny_pure (fin _ h' sb r))
      split
      · exact g1
      · exact g1.plain
    · refine wpAny_bind (wpAny_pure ?_)
      rw [if_pos rfl]
      exact txt_tail (fun b s1 R q => gave q) ho hex hd g1 sz2 (same pm1) (fun h' sb r => wpAny_pure (fin _ h' sb r))
end
section
variable {P : Program} {w : World} {A : Around} {R : Result → Shared → Prop} {I : Addr} {fp wr : List Addr} {G : Array GenState → Array GenState → Prop} {n : Nat} {Pv : Nat → Value → Prop} {St : Nat → Shared → Prop}
/-- text by text into the set at a -/
theorem upd_txt (W : WalksS P w A.in1 I fp wr G n Pv St) (a : Addr) (na : a ∉ fp) (xs : List Str) (lx : xs.length = n) (few : n + 1 < scanBound) (vals : ∀ i v, Pv i v → ∃ t, v = .str (xs.getD i Str.empty) t) :
    ∀ (k i : Nat) (s : Shared), n - i = k → i ≤ n → St i s → TxtAt P w s.heap a (xs.take i) →
      (∀ s', Moved (a :: wr) G s s' → TxtAt P w s'.heap a xs → R (.ok (.ret .none)) s') →
      codeAny (model P w) A (.builtin "set.update.loop" ⟨[.ref a, .ref I], []⟩) R s := by
  have naw : a ∉ wr := fun z => na (W.sub _ z)
  have wide : ∀ b ∈ wr, b ∈ a :: wr := fun b z => .tail _ z
  intro k
  induction k with
  | zero =>
    intro i s e1 e2 st T fin
    obtain rfl : i = n := by omega
    rw [← lx, List.take_length] at T
    refine codeAny_builtin PyProof.Rows.F.entry_set_update_loop ?_
    rw [Around.under_plainId PyProof.Rows.F.plain_set_update_loop _]
    show wpAny _ A.in1 (pyNext (.ref I) >>= _) _ _ s
    refine wpAny_bind (W.done s _ _ st fun s' mv => wpAny_pure (fin s' (mv.mono wide) (T.kept fun o q => mv.heap a _ naw q)))
  | succ k ih =>
    intro i s e1 e2 st T fin
    have lt : i < n := by omega
    refine codeAny_builtin PyProof.Rows.F.entry_set_update_loop ?_
    rw [Around.under_plainId PyProof.Rows.F.plain_set_update_loop _]
    show wpAny _ A.in1 (pyNext (.ref I) >>= _) _ _ s
    refine wpAny_bind (W.item i s _ _ lt st fun v s' pv st' mv => ?_)
    obtain ⟨tk, rfl⟩ := vals i v pv
    have T1 : TxtAt P w s'.heap a (xs.take i) := T.kept fun o q => mv.heap a _ naw q
    have grow : xs.take i ++ [xs.getD i Str.empty] = xs.take (i + 1) := by
      have l : i < xs.length := by omega
      rw [List.take_succ, List.getElem?_eq_getElem l, List.getD_eq_getElem?_getD, List.getElem?_eq_getElem l]; rfl
    show wpAny _ A.in1 (holding [Value.str (xs.getD i Str.empty) tk] (setAdd a (.str (xs.getD i Str.empty) tk)) >>= _) _ _ s'
    refine wpAny_bind (wpAny_holding ?_)
    unfold setAdd
    refine wpAny_holding (wpAny_bind ((PySem.strKind P w).pyHash (k := xs.getD i Str.empty) (strKind_is _ _ _ _) ?_))
    refine txt_add (s := { s' with toks := s'.toks + 1 }) T1 (by rw [List.length_take]; omega) fun b h' sb T2 => ?_
    rw [grow] at T2
    refine wpAny_pure ⟨plainId_quiet PyProof.Rows.F.plain_set_update_loop _, ih (i + 1) _ (by omega) lt (W.frame _ s' _ _ st' (Nat.le_succ _) fun b z o q => ?_) T2 fun s'' mv2 T3 => fin s'' (Moved.trans W.gtrans ((mv.mono wide).then_heap (Nat.le_succ _) fun b o z q => ?_) mv2) T3⟩
    · rw [sb.2 b (fun y : b = a => na (by rw [← y]; exact z))]; exact q
    · rw [sb.2 b (fun y : b = a => z (by rw [y]; exact List.mem_cons_self))]; exact q
end
section
variable {P : Program} {w : World} {A : Around} {E : Value → Shared → Prop} {s : Shared}
theorem txt_new {h : Heap} {a : Addr} (ho : h.get? a = some (set0 (!w.params.followText "set-order"))) : TxtAt P w h a [] := by
  refine ⟨_, #[], 0, _, ho, ⟨rfl, rfl, rfl⟩, rfl, ⟨fun e he => by simp at he, by simp, by decide, rfl, List.Pairwise.nil, ?_⟩, Nat.zero_le _, fun y => by simp⟩
  show _ ∨ (!w.params.followText "set-order") = true
  cases w.params.followText "set-order"
  · exact .inr rfl
  · exact .inl rfl
abbrev TxtEnd (P : Program) (w : World) (s : Shared) (xs : List Str) (h' : Heap) : Prop := TxtAt P w h' s.heap.objs.size xs ∧ ∀ b o, b < s.heap.objs.size → s.heap.get? b = some o → h'.get? b = some o
/-- set(l), l a list of texts -/
theorem set_listS {l : Addr} {items : Array Value} {xs : List Str} {Q : Value → Shared → Prop} (calm : A.handled = none) (hl : s.heap.IsList l items) (hi : StrsAre items.toList xs) (few : xs.length + 1 < scanBound)
    (fin : ∀ (h' : Heap) (tk : Nat), TxtEnd P w s xs h' → Q (.ref s.heap.objs.size) { s with heap := h', toks := tk }) : wpAny (model P w) A (call (.type "set") [.ref l]) Q E s := by
  have sz : xs.length = items.size := by rw [← StrsAre.len_eq hi, Array.length_toList]
  obtain ⟨c, tl, hmro⟩ := PySem.F.called_set.mro
  have made := PySem.F.called_set.made
  have sub := PySem.F.called_set.sub
  refine wpAny_call (codeAny_of_tree ?_)
  show wpAny _ _ (callAny (.type "set") _) _ _ _
  refine wpAny_pure ⟨Code.quiet_builtin _ (by decide +kernel), codeAny_builtin PySem.F.entry_type_call ?_⟩
  rw [Around.under_plain (weight_type_call_type "set" [.ref l] []) rfl]
  have n1 := PySem.F.called_set.notType
  have n2 := PySem.F.called_set.canCreate
  have n3 := PySem.F.typeCall_set_1 (.ref l)
  repeat (any_goals (first | assumption | wp_step))
  refine codeAny_mono (code_set_led1 (.ref l) (E := E) (Q₁ := fun obj s1 => obj = .ref s.heap.objs.size ∧ s1 = { s with heap := s.heap.push (set0 (!w.params.followText "set-order")) }) ⟨rfl, rfl⟩) fun r s1 hr => ?_
  generalize eled : (!w.params.followText "set-order") = led at hr
  cases r with
  | error e => exact hr
  | ok fl =>
    cases fl with
    | ret obj =>
      obtain ⟨rfl, rfl⟩ := hr
      have hS : (s.heap.push (set0 led)).get? s.heap.objs.size = some (set0 led) := Heap.get?_push_size _ rfl
      have hT : Shared.TypeIs { s with heap := s.heap.push (set0 led) } (.ref s.heap.objs.size) "set" := ⟨_, hS, rfl⟩
      have m1 := PySem.F.called_set.init.lookup
      have m2 := PySem.F.called_set.init.bind (.ref s.heap.objs.size)
      repeat (any_goals (first | assumption | wp_step))
      refine codeAny_mono (codeAny_call_builtin (R := wants (fun r s2 => r = .none ∧ ∃ h' tk, s2 = { s with heap := h', toks := tk } ∧ TxtEnd P w s xs h') E) PySem.F.called_set.init.plain PySem.F.entry_set_init (check_set_init_1 hT ?_)) fun r2 s2 hr2 => ?_
      · obtain ⟨ol, hol, hcl, nl, hdl⟩ := hl
        obtain ⟨ocls, odict, odata, oslots⟩ := ol
        simp only at hcl hdl
        subst hcl
        subst hdl
        have hol' : (s.heap.push (set0 led)).get? l = some { cls := .type "list", dict := odict, data := .seq items nl, slots := oslots } := Heap.get?_push_of_some _ hol
        have u1 := PySem.F.sub_list_set
        have u2 := PySem.F.sub_list_frozenset
        have u3 : (Value.type "list" == Value.type "dict") = false := by decide
        have hl1 : (s.heap.push (set0 led)).IsList l items := ⟨_, hol', rfl, nl, rfl⟩
        unfold Builtin.«set.__init__» noKeywords Builtin.Frozenset.updateFrom
        generalize eit : pyIter = it
        wp_walk
        subst eit
        refine wpAny_pyIter_list hl1 (wpAny_bind (wpAny_runValue ?_))
        have lS : l < s.heap.objs.size := Heap.lt_size hol
        have calm3 : A.in1.in1.in1.handled = none := by simp [calm]
        have ne : l ≠ (s.heap.push (set0 led)).objs.size := by rw [Heap.size_push]; exact Nat.ne_of_lt (Nat.lt_succ_of_lt lS)
        have apart : s.heap.objs.size ∉ [(s.heap.push (set0 led)).objs.size, l] := by
          rw [Heap.size_push]
          simp only [List.mem_cons, List.not_mem_nil, or_false, not_or]
          exact ⟨Nat.ne_of_lt (Nat.lt_succ_self _), Nat.ne_of_gt lS⟩
        have vals : ∀ (i : Nat) (v : Value), items[i]? = some v → ∃ t, v = .str (xs.getD i Str.empty) t := fun i v hv => SS.strs_at hi i v (by rw [Array.getElem?_toList]; exact hv)
        refine upd_txt ((Walks.list calm3 _ l ne items).toS) s.heap.objs.size apart xs sz (by omega) vals (items.size - 0) 0 _ (by omega) (Nat.zero_le _) ⟨⟨_, Heap.get?_push_size _ rfl, rfl, rfl⟩, (hl1.push _)⟩ ?_ ?_
        · rw [List.take_zero]
          exact txt_new (by rw [eled]; exact Heap.get?_push_of_some _ hS)
        · intro s' mv T
          obtain ⟨h', g', d', tk', os'⟩ := s'
          obtain rfl : g' = s.gens := mv.gens
          obtain rfl : d' = s.drawn := mv.drawn
          obtain rfl : os' = s.os := mv.os
          show wpAny _ _ _ _ _ _
          refine wpAny_pure ?_
          show wpAny _ _ (ret Value.none) _ _ _
          refine wpAny_pure ⟨rfl, h', tk', rfl, T, fun b o hb e => ?_⟩
          have b1 : b ≠ s.heap.objs.size := Nat.ne_of_lt hb
          have b2 : b ≠ (s.heap.push (set0 led)).objs.size := by rw [Heap.size_push]; exact Nat.ne_of_lt (Nat.lt_succ_of_lt hb)
          exact mv.heap b o (by simp only [List.mem_cons, List.not_mem_nil, or_false, not_or]; exact ⟨b1, b2⟩) (Heap.get?_push_of_some _ (Heap.get?_push_of_some _ e))
      · cases r2 with
        | error e => exact hr2
        | ok fl2 =>
          cases fl2 with
          | ret r =>
            obtain ⟨rfl, h', tk, rfl, T⟩ := hr2
            repeat (any_goals (first | assumption | wp_step))
            exact fin _ _ T
          | _ => exact hr2.elim
    | _ => exact hr.elim
end
end Pb
/-! sorted(set(texts)): walked, sorted -/
namespace Pb
open PySem PySem.Spec PyProof.Rows L2
section
variable {P : Program} {w : World} {A : Around} {E : Value → Shared → Prop} {s : Shared} {a : Addr}
def txtOf (v : Value) : Str := match v with
  | .str x _ => x
  | _ => Str.empty
theorem strs_of : ∀ (l : List Value), (∀ v ∈ l, ∃ x tk, v = Value.str x tk) → StrsAre l (l.map txtOf)
  | [], _ => .nil
  | v :: l, h => by
    obtain ⟨x, tk, rfl⟩ := h v List.mem_cons_self
    exact .cons x tk (strs_of l fun u hu => h u (List.mem_cons_of_mem _ hu))
theorem sorted_txt {xs : List Str} {Q : Value → Shared → Prop} (T : TxtAt P w s.heap a xs) (calm : A.handled = none) (few : xs.length < 64)
    (fin : ∀ s' p (out : Array Value) (c : Nat) (ys : List Str), (∀ b o, s.heap.get? b = some o → s'.heap.get? b = some o) → s'.gens = s.gens → s'.os = s.os → s.heap.objs.size ≤ p →
      s'.heap.get? p = some (seqObj "list" out c) → StrsAre out.toList ys → sortedS ys = true → ys.Nodup → (∀ y, y ∈ ys ↔ y ∈ xs) → ys.length ≤ xs.length → Q (.ref p) s') :
    wpAny (model P w) A (call (.builtin "sorted") [.ref a]) Q E s := by
  obtain ⟨o, es, ep, t, ho, hex, hd, g, sz, mem⟩ := T
  refine Calls.call_function_entry kind_sorted plain_sorted entry_sorted (args_sorted1 _) ?_
  unfold Builtin.«sorted»
  refine wpAny_bind (m := checkCount "sorted" 1 1 _) (wpAny_pure (wpAny_bind (collect_set (A := A.in1) calm ⟨o, ho, hex.1, hd⟩ g.fit g.few g.ris g.led fun s1 vs keep big gens os pm => ?_)))
  have vl : vs.length = es.size := by rw [pm.length_eq, List.length_map, Array.length_toList]
  have hS : StrsAre vs (vs.map txtOf) := strs_of vs fun v hv => by
    obtain ⟨e, he, q⟩ := List.mem_map.mp (pm.mem_iff.mp hv)
    obtain ⟨tk, h1⟩ := elem_str g.el he
    exact ⟨strOf e, tk, by rw [← q]; exact h1⟩
  have pk : (vs.map txtOf).Perm (es.toList.map strOf) := by
    have q := pm.map txtOf
    rw [List.map_map] at q
    exact q
  refine wpAny_bind (wpAny_newList ?_ (by rw [vl, sizeLine_eq]; omega))
  have oL : (s1.heap.push (seqObj "list" vs.toArray 0)).get? s1.heap.objs.size = some (seqObj "list" vs.toArray 0) := Heap.get?_push_size _ rfl
  refine wpAny_bind (wpAny_holding (wpAny_call_entry slot_list_sort ⟨_, oL, rfl⟩ entry_list_sort (list_sort_treeK strKind_oneLt oL hS.keysOf (fun v1 v2 rest e => keyKind_strs (by rw [← e]; exact hS)) (by omega) fun st' a1 a2 => ⟨_, rfl, ?_⟩) (args_list_sort _)))
  obtain ⟨ys, y1, y2, y3⟩ := sorted_out_str hS a1 a2
  obtain ⟨c, hc⟩ := sortedHeap_at (vs := vs) (out := (arrOf st').map (·.2)) oL
  have pn : ys.Perm (es.toList.map strOf) := y2.trans pk
  refine wpAny_pure ⟨_, rfl, fin _ s1.heap.objs.size _ c ys (fun b u e => ?_) gens os big hc y1 y3 (pn.nodup_iff.mpr g.nd) (fun y => (pn.mem_iff).trans (mem y)) (by rw [pn.length_eq, List.length_map, Array.length_toList]; exact sz)⟩
  have q := keep b u e
  have lt := Heap.lt_size q
  show (sortedHeap (s1.heap.push (seqObj "list" vs.toArray 0)) s1.heap.objs.size vs _).get? b = some u
  rw [sortedHeap_old (Nat.ne_of_lt lt) (by rw [size_push']; exact Nat.lt_succ_of_lt lt)]
  exact Heap.get?_push_of_some _ q
end
section
variable {X : Cx}
def tSortSet (K : PySem.W.Frag) (ta : TE) : TE := fun σ H Q => ta σ H fun x H1 => ∃ l, ∃ xs : List Str, x = .ref l ∧ SqL K H1 l (xs.map V.str) ∧ xs.length < 64 ∧ ∀ (ys : List Str) (p : Addr), sortedS ys = true → ys.Nodup → (∀ y, y ∈ ys ↔ y ∈ xs) → ys.length ≤ xs.length → H1 p = none → Q (.ref p) (upd H1 p (.lst (ys.map V.str)))
theorem pe_sortSet {a : Expr} {ta : TE} {p p2 q pos : Pos} (hc : X.calm = true) (hg : Gl X "sorted") (hm : X.mg "sorted" = none) (hg2 : Gl X "set") (hm2 : X.mg "set" = none) (ha : PE X a ta)
    (na : starEach [a] X.env = (false, eval a X.env) :: starEach [] X.env := by rfl) : PE X (.Call (.Name "sorted" p) [.Call (.Name "set" p2) [a] [] q] [] pos) (tSortSet X.K ta) := by
  refine ⟨fun pins s σ H Q I h => ?_⟩
  refine Call_ (ld_blt I hg hm boot_sorted ?_)
  refine PyProof.Rows.callWith_builtin1 (PyProof.Rows.args_cons ?_ rfl) rfl rfl
  refine Call_ (ld_blt I hg2 hm2 boot_set ?_)
  refine PyProof.Rows.callWith_type1 (PyProof.Rows.args_cons (thn (ha.run pins s σ H _ I h) fun v s1 ⟨x, H1, I1, r1, q1⟩ => PyProof.Rows.args_nil ?_) na) na rfl
  obtain ⟨l, xs, rfl, hq, h1, q1⟩ := q1
  cases r1
  obtain ⟨its, r, pl, hz⟩ := I1.list hq
  refine set_listS (xs := xs) (I1.ok.hd hc) pl.isList (by simpa using strsAre_of r) (by unfold scanBound; omega) fun h' tk ⟨T, keep⟩ => ?_
  refine PyProof.Rows.args_nil ?_
  have I2 : Inv X pins σ H1 { s1 with heap := h', toks := tk } := I1.kept fun b o e => keep b o (Heap.lt_size e) e
  have T2 : TxtAt X.prog X.w ({ s1 with heap := h', toks := tk } : Shared).heap s1.heap.objs.size xs := T
  generalize ({ s1 with heap := h', toks := tk } : Shared) = s2 at I2 T2 ⊢
  refine sorted_txt T2 (I2.ok.hd hc) h1 fun s' p out c ys k g o hp hg hi srt nd mem len => ?_
  have few : (ys.map V.str).length ≤ sizeLine := by rw [List.length_map, sizeLine_eq]; omega
  have free : H1 p = none := I2.hok.fresh hp
  have J : Inv X pins σ (upd H1 p (.lst (ys.map V.str))) { s2 with heap := s'.heap, gens := s'.gens, drawn := s'.drawn, toks := s'.toks } :=
    I2.call (ch := []) (Un.laid k hp free) (I2.hok.laid k hp ⟨few, out.toList, c, vals_of_strs hi, hg⟩) (by rw [g]; exact I2.bare) (fun _ z => nomatch z)
  have e : s' = { s2 with heap := s'.heap, gens := s'.gens, drawn := s'.drawn, toks := s'.toks } := by
    cases s'
    cases s2
    cases o
    rfl
  rw [e]
  exact ⟨.ref p, _, J, rfl, q1 ys p srt nd mem len free⟩
end
end Pb
/-! sorted(set(texts)) over data -/
namespace Dm
open PySem L2 Pb
open PyProof.Rows (sortedS risingS)
theorem un_sortSet {X : Cx} {K : PySem.W.Frag} {a : Expr} {ta : TE} {p p2 q pos : Pos} (e : X.K = K) (hc : X.calm = true) (hg : Gl X "sorted") (hm : X.mg "sorted" = none) (hg2 : Gl X "set") (hm2 : X.mg "set" = none) (ha : PE X a ta)
    (na : starEach [a] X.env = (false, eval a X.env) :: starEach [] X.env := by rfl) : PE X (.Call (.Name "sorted" p) [.Call (.Name "set" p2) [a] [] q] [] pos) (tSortSet K ta) := by
  subst e
  exact pe_sortSet hc hg hm hg2 hm2 ha na
def SsK (ds : List PyData) (R : Vx → Prop) (_ : Box R) : Prop := ∃ xs : List Str, ds = xs.map PyData.str ∧ xs.length < 64 ∧ ∀ ys : List Str, sortedS ys = true → ys.Nodup → (∀ y, y ∈ ys ↔ y ∈ xs) → R (.d (.list (ys.map PyData.str)))
def wSortSet (we : WE) : WE := fun Γ R => we Γ fun x => match x with
  | .d (.list ds) => SsK ds R ⟨⟩
  | _ => False
theorem dts_str {z : Fz} {H : Hp} : ∀ {xs : List Str} {vs : List V}, DtAll z H vs (xs.map PyData.str) → vs = xs.map V.str ∧ ∀ x ∈ xs, x.length ≤ z.n ∧ PyData.strOk x = true
  | [], _, h => by cases h; exact ⟨rfl, fun _ h => nomatch h⟩
  | x :: xs, _, h => by
    cases h with
    | cons a t =>
      obtain ⟨h1, h2⟩ := dts_str t
      cases a with
      | str _ ok =>
        refine ⟨by rw [h1]; rfl, fun y hy => ?_⟩
        rcases List.mem_cons.mp hy with e | e
        · rw [e]; exact ok
        · exact h2 y e
theorem dts_of {z : Fz} {H : Hp} : ∀ {ys : List Str}, (∀ x ∈ ys, x.length ≤ z.n ∧ PyData.strOk x = true) → DtAll z H (ys.map V.str) (ys.map PyData.str)
  | [], _ => .nil
  | y :: ys, h => .cons (.str _ (h y List.mem_cons_self)) (dts_of fun x hx => h x (List.mem_cons_of_mem _ hx))
theorem snd_sortSet {K : PySem.W.Frag} {te : TE} {we : WE} (h : SndE te we) : SndE (tSortSet K te) (wSortSet we) := ⟨fun z σ H Γ R Q r w k => h.run z σ H Γ _ _ r w fun v x H2 e2 hx w2 => by
  split at w2
  · obtain ⟨xs, rfl, few, w3⟩ := w2
    cases hx with
    | lst d1 d2 d3 d4 =>
      obtain ⟨rfl, ok⟩ := dts_str d4
      refine ⟨_, xs, rfl, .inl (.inl d2), few, fun ys p srt nd mem len free => ?_⟩
      exact k _ _ _ (e2.trans (.new free)) (dL ((r.al.up e2).ne free) upd_same (by rw [List.length_map, r.n]; exact Nat.le_trans len (Nat.le_trans (Nat.le_of_lt few) (by decide))) (dts_of fun x hx => ok x ((mem x).mp hx))) (w3 ys srt nd mem)
  · exact w2.elim⟩
/-! ### x *= e -/
def ipM : TIp := fun x y H Q => ∃ i j, x = .int i ∧ y = .int j ∧ CMul i j ∧ Q (.int (i * j)) H
theorem ip_mul {X : Cx} : PIp X .Mult ipM := fun pins s σ H x y v u Q J r1 r2 ⟨i, j, e1, e2, c, q⟩ => by
  subst e1 e2
  obtain ⟨t, rfl⟩ := r1
  obtain ⟨t', rfl⟩ := r2
  exact PyProof.Rows.imul_int ⟨.int _, H, J.tok _, ⟨_, rfl⟩, q⟩ c.ok
def wAugM (i : Nat) (we : WE) : WS := fun Γ P => match Γ[i]? with
  | some (.v (.d (.int a))) => we Γ fun x => match x with
    | .d (.int b) => cMul a b ∧ P.nx (Γ.set i (.v (.d (.int (a * b)))))
    | _ => False
  | _ => False
theorem ss_augM {i : Nat} {te : TE} {we : WE} (h : SndE te we) : SndS (tAug i te ipM) (wAugM i we) := ⟨fun f z σ H Γ D P r d w => by
  unfold wAugM at w
  split at w
  · rename_i a e
    obtain ⟨_, v, h1, h2⟩ := r.sl i _ e
    cases h2
    refine ⟨_, h1, h.run z σ H Γ _ _ r.toRp w fun v x H2 e2 hx w2 => ?_⟩
    split at w2
    · cases hx
      refine ⟨_, _, rfl, rfl, ?_, d.nx z _ H2 _ ((r.up e2).setv (x := .d (.int (a * _))) trivial (dI _)) w2.2⟩
      rcases w2.1 with h | h
      · exact .inl ⟨by omega, by omega⟩
      · exact .inr ⟨by omega, by omega⟩
    · exact w2.elim
  · exact w.elim⟩
/-! what it is -/
theorem cps_lt {x y : Str} : PySem.Spec.ltCps x.cps.toList y.cps.toList = true ↔ sLt x y := by
  rw [PyProof.Rows.ltCps_eq]
  exact decide_eq_true_iff
theorem rise_up : ∀ {l : List Str} {p : Str}, risingS p l = true → (p :: l).Nodup → (p :: l).Pairwise sLt
  | [], p, _, _ => List.pairwise_singleton _ _
  | x :: r, p, h, nd => by
    have h1 := (Bool.and_eq_true _ _).mp h
    have nd1 := List.nodup_cons.mp nd
    have up := rise_up h1.2 nd1.2
    have hx : ¬ sLt x p := fun q => by
      have := h1.1
      rw [cps_lt.mpr q] at this
      cases this
    have lt : sLt p x := by
      rcases sLt_tri p x with q | q | q
      · exact q
      · exact (nd1.1 (by rw [q]; exact List.mem_cons_self)).elim
      · exact (hx q).elim
    refine List.pairwise_cons.mpr ⟨fun y hy => ?_, up⟩
    rcases List.mem_cons.mp hy with e | e
    · rw [e]; exact lt
    · exact sLt_trans lt ((List.pairwise_cons.mp up).1 y e)
theorem srt_up {l : List Str} (h : sortedS l = true) (nd : l.Nodup) : l.Pairwise sLt := by
  cases l with
  | nil => exact .nil
  | cons x r => exact rise_up h nd
theorem up_uniq : ∀ {a b : List Str}, a.Pairwise sLt → b.Pairwise sLt → (∀ x, x ∈ a ↔ x ∈ b) → a = b
  | [], [], _, _, _ => rfl
  | [], y :: b, _, _, h => by have := (h y).mpr List.mem_cons_self; cases this
  | x :: a, [], _, _, h => by have := (h x).mp List.mem_cons_self; cases this
  | x :: a, y :: b, ha, hb, h => by
    have a1 := List.pairwise_cons.mp ha
    have b1 := List.pairwise_cons.mp hb
    have e : x = y := by
      rcases List.mem_cons.mp ((h x).mp List.mem_cons_self) with e | e
      · exact e
      · rcases List.mem_cons.mp ((h y).mpr List.mem_cons_self) with e2 | e2
        · exact e2.symm
        · exact (sLt_asymm (a1.1 y e2) (b1.1 x e)).elim
    subst e
    congr 1
    refine up_uniq a1.2 b1.2 fun z => ⟨fun hz => ?_, fun hz => ?_⟩
    · rcases List.mem_cons.mp ((h z).mp (List.mem_cons_of_mem _ hz)) with e | e
      · have := a1.1 z hz; rw [e] at this; exact (sLt_irrefl _ this).elim
      · exact e
    · rcases List.mem_cons.mp ((h z).mpr (List.mem_cons_of_mem _ hz)) with e | e
      · have := b1.1 z hz; rw [e] at this; exact (sLt_irrefl _ this).elim
      · exact e
end Dm
/-! what is known of all, and the orders that fit -/
namespace Dm
open PySem L2 Pb
/-- a pair (name, cents) -/
def knownB : PyData → Bool
  | .tuple [a, b] => isNameD a && withinD 0 1000000000000000000 b
  | _ => false
def nameOf : PyData → Str
  | .tuple (.str x :: _) => x
  | _ => Str.empty
def upB (l : List Str) : Bool := decide (l.Pairwise sLt)
/-- what is_known tells of any thing -/
def isKnownD : PyData → Bool
  | .tuple ds => (decide (1 ≤ ds.length) && decide (ds.length ≤ 8)) && (ds.all knownB && upB (ds.map nameOf))
  | _ => false
def W_is_known : OA
  | [.d x], R => R (.d (.bool (isKnownD x)))
  | _, _ => False
def W_check_known : OA
  | [.d x], R => isKnownD x = true ∧ R (.d .none)
  | _, _ => False
def W_check_bills : OA
  | [.d (.int b)], R => (0 ≤ b ∧ b ≤ 1000000000000000000) ∧ R (.d .none)
  | _, _ => False
def fact : Nat → Nat
  | 0 => 1
  | n + 1 => fact n * (n + 1)
def W_factorial : OA
  | [.d (.int m)], R => ∃ n : Nat, m = n ∧ n ≤ 20 ∧ R (.d (.int (fact n : Nat)))
  | _, _ => False
theorem lcW_id {f : PyData → (Option PyData → Prop) → Prop} {g : PyData → PyData} {xs : List PyData} {R : List PyData → Prop} (h : ∀ x ∈ xs, ∀ S, S (some (g x)) → f x S) (r : R (xs.map g)) : lcW f xs R := by
  have k := lcW_of (c := fun d => d) (xs := xs) h r
  rwa [List.map_id'] at k
theorem two_of {x : PyData} (h : isPairD x = true) : ∃ a b, x = .tuple [a, b] := by
  unfold isPairD at h
  split at h
  · exact ⟨_, _, rfl⟩
  · cases h
theorem known_pair {d : PyData} (h : knownB d = true) : ∃ (x : Str) (c : Int), d = .tuple [.str x, .int c] ∧ isNameS x = true ∧ 0 ≤ c ∧ c ≤ 1000000000000000000 := by
  unfold knownB at h
  split at h
  · rename_i a b
    rw [Bool.and_eq_true] at h
    cases a with
    | str x =>
      cases b with
      | int c =>
        have h2 : (decide (0 ≤ c) && decide (c ≤ 1000000000000000000)) = true := h.2
        rw [Bool.and_eq_true] at h2
        exact ⟨x, c, rfl, h.1, of_decide_eq_true h2.1, of_decide_eq_true h2.2⟩
      | _ => cases h.2
    | _ => cases h.1
  · cases h
local macro_rules | `(tactic| walk_at "w") => `(tactic| try simp -dsimp only [startE_0, startE_s, startE_n, posts, wNext, wSeq_e, wRet, wRetN, wDrop, wIf, wNever, wAsg, wPar, wTri, wNew, wRetF, wRetV, wApp, wExt, wSetL, wPutT, wAug, wFrz, wFrzT, wCallM, postM, wSortSet, wAugM, wlOne, wlCons, wChN, wTru, wNewT, wgN, wgT, wgNil, wgCons, wmNil, wmV, wmL, wmT,
  wVar, readS, wK, wOp, oI, cT, oCmp, oEqv, datOf, oIsN, oAdd, oIx_l, oIx_q, oIx_t, IxK_0, IxK_1, IxK_2, IxK_3, oIn, wNeg, wAndV, wOrV, wNotV, wTst, wNot, wAnd, wOr, wIfE, wChain, wNil, wCons, allD, wTup, wLst, wC, wNoPart, wPart, wSl, oLen, wIsi, oInt, o2I, o1, lstOf, oListC, oTupC, oDGet_e, DgK_some, dLook, dkOf, dtOf, wDGet3, isDx, wSortIt,
  wISeq, wIRng1, wIRng2, wIStr, wIEnumT, wIZip, wLc, wYes, wLock, wDc, lcE, dcE, wOnlyD, wipeE, lockS, wCall, allNq, unF_d, unF_dk, unF_dt, unF_bag, unF_fl, nq_d, nq_dk, nq_dt, nq_bag, List.map_cons, List.map_nil, List.set_cons_zero, List.set_cons_succ, List.getElem?_cons_zero, List.getElem?_cons_succ, Option.map_some, Option.map_none, true_and, and_true, decide_eq_true_eq, Bool.not_eq_true', id, if_true, Bool.true_eq_false, Bool.false_eq_true, if_false, ite_true, ite_false, NN, List.length_cons, List.length_nil, List.length_map, Nat.zero_add, Nat.reduceAdd, Nat.reduceLeDiff, and_self, cDiv, cMul, List.append_nil, List.nil_append, wRev, wFor_e, flOnly_fl, List.replicate_succ, List.replicate_zero, Bool.not_true, Bool.not_false, bodyPost, tailPost, isTru, wAssert, Bool.not_eq_false', decide_eq_false_iff_not])
local macro_rules | `(tactic| walk_at "v") => `(tactic| try simp -dsimp only [startE_0, startE_s, startE_n, posts, wNext, wSeq_e, wRet, wRetN, wDrop, wIf, wNever, wAsg, wPar, wTri, wNew, wRetF, wRetV, wApp, wExt, wSetL, wPutT, wAug, wFrz, wFrzT, wCallM, postM, wSortSet, wAugM, wlOne, wlCons, wChN, wTru, wNewT, wgN, wgT, wgNil, wgCons, wmNil, wmV, wmL, wmT,
  wVar, readS, wK, wOp, oI, cT, oCmp, oEqv, datOf, oIsN, oAdd, oIx_l, oIx_q, oIx_t, IxK_0, IxK_1, IxK_2, IxK_3, oIn, wNeg, wAndV, wOrV, wNotV, wTst, wNot, wAnd, wOr, wIfE, wChain, wNil, wCons, allD, wTup, wLst, wC, wNoPart, wPart, wSl, oLen, wIsi, oInt, o2I, o1, lstOf, oListC, oTupC, oDGet_e, DgK_some, dLook, dkOf, dtOf, wDGet3, isDx, wSortIt,
  wISeq, wIRng1, wIRng2, wIStr, wIEnumT, wIZip, wLc, wYes, wLock, wDc, lcE, dcE, wOnlyD, wipeE, lockS, wCall, allNq, unF_d, unF_dk, unF_dt, unF_bag, unF_fl, nq_d, nq_dk, nq_dt, nq_bag, List.map_cons, List.map_nil, List.set_cons_zero, List.set_cons_succ, List.getElem?_cons_zero, List.getElem?_cons_succ, Option.map_some, Option.map_none, true_and, and_true, decide_eq_true_eq, Bool.not_eq_true', id, if_true, Bool.true_eq_false, Bool.false_eq_true, if_false, ite_true, ite_false, NN, List.length_cons, List.length_nil, List.length_map, Nat.zero_add, Nat.reduceAdd, Nat.reduceLeDiff, and_self, cDiv, cMul, List.append_nil, List.nil_append, wRev, wFor_e, flOnly_fl, List.replicate_succ, List.replicate_zero, Bool.not_true, Bool.not_false, bodyPost, tailPost, isTru, wAssert, Bool.not_eq_false', decide_eq_false_iff_not, Hold, App, W_is_known, W_check_known, W_check_bills, Wb, W_is_whole_within])
local macro_rules | `(tactic| walk_at "n") => `(tactic| (refine Hold_go ?_; walk_at "w"))
section
variable {P : Program} {w : World} {K : PySem.W.Frag} {mg : Str → Option Value} {base : Heap} {k0 k1 k2 : Tok}
abbrev s_check_bills : Stmt := topS 27
abbrev N_check_bills : List Str := ["bills"]
theorem sc_check_bills : FnScope N_check_bills ["bills"] (defScope s_check_bills) := ⟨rfl, rfl, rfl, by decide +kernel, rfl, by decide +kernel, by decide +kernel⟩
theorem ok_check_bills {f_check_bills : Addr} {fd_check_bills : FuncData} (D_check_bills : Df K mg "check_bills" s_check_bills ["bills"] f_check_bills fd_check_bills) {f_is_cents : Addr} {fd_is_cents : FuncData} (D_is_cents : Df K mg "is_cents" s_is_cents ["thing"] f_is_cents fd_is_cents) (G_is_cents : FnOk P w K mg base CX0 2 f_is_cents fd_is_cents ["thing"] (spW (Wb (withinD 0 1000000000000000000)))) (T : Bt mg k0 k1 k2) : FnOk P w K mg base CX0 3 f_check_bills fd_check_bills ["bills"] (spW W_check_bills) := by
  refine D_check_bills.F.ok sc_check_bills (fun vs H Q E h => spW_len (n := 1) (fun xs R h => by unfold W_check_bills at h; split at h <;> first | rfl | exact h.elim) h) (fun cdv A outer s H vs Q E hr h => ?_)
  refine ⟨_, (pss_one (ps_if (pt_not (pt_val (pe_call G_is_cents (hr.mono (by omega)) (by rfl) D_is_cents.g D_is_cents.F.kp D_is_cents.b .nil pass0 (pa_cons (pv 0) pa_nil))))
  (pss_one ps_never)
  pss_nil)), fn_body (n := 1) rfl (ss_if (snd_not (snd_tB (snd_call (snd_cons (snd_var 0) snd_nil))))
  ss_never
  ss_next) h ?_⟩
  intro xs R hW
  unfold W_check_bills at hW
  split at hW
  rotate_left
  · exact hW.elim
  rename_i b
  obtain ⟨h, r⟩ := hW
  walk_at "v"
  rw [if_neg (by rw [show withinD 0 1000000000000000000 (.int b) = true by show (decide (0 ≤ b) && decide (b ≤ 1000000000000000000)) = true; rw [decide_eq_true h.1, decide_eq_true h.2]; rfl]; decide)]
  exact r
abbrev s_is_known : Stmt := topS 30
abbrev N_is_known : List Str := ["thing", "names", "part", "name", "cents"]
theorem sc_is_known : FnScope N_is_known ["thing"] (defScope s_is_known) := ⟨rfl, rfl, rfl, by decide +kernel, rfl, by decide +kernel, by decide +kernel⟩
theorem ok_is_known {f_is_known : Addr} {fd_is_known : FuncData} (D_is_known : Df K mg "is_known" s_is_known ["thing"] f_is_known fd_is_known) {f_is_cents : Addr} {fd_is_cents : FuncData} (D_is_cents : Df K mg "is_cents" s_is_cents ["thing"] f_is_cents fd_is_cents) {f_is_name : Addr} {fd_is_name : FuncData} (D_is_name : Df K mg "is_name" s_is_name ["thing"] f_is_name fd_is_name) {f_is_pair : Addr} {fd_is_pair : FuncData} (D_is_pair : Df K mg "is_pair" s_is_pair ["thing"] f_is_pair fd_is_pair) (G_is_cents : FnOk P w K mg base CX0 2 f_is_cents fd_is_cents ["thing"] (spW (Wb (withinD 0 1000000000000000000)))) (G_is_name : FnOk P w K mg base CX0 1 f_is_name fd_is_name ["thing"] (spW (Wb isNameD))) (G_is_pair : FnOk P w K mg base CX0 1 f_is_pair fd_is_pair ["thing"] (spW (Wb isPairD))) (T : Bt mg k0 k1 k2) : FnOk P w K mg base CX0 3 f_is_known fd_is_known ["thing"] (spW W_is_known) := by
  refine D_is_known.F.ok sc_is_known (fun vs H Q E h => spW_len (n := 1) (fun xs R h => by unfold W_is_known at h; split at h <;> first | rfl | exact h.elim) h) (fun cdv A outer s H vs Q E hr h => ?_)
  refine ⟨_, (pss_cons (ps_if (PW.pt (pw_or (pt_not (pt_val (pe_callB (kk_call_isi (K := K) rfl) (by rfl) T.b_isinstance (by decide +kernel) (pa_cons (pv 0) (pa_cons (pe_bltn (v := .ty "tuple") (by rfl) T.b_tuple (by decide +kernel) rfl) pa_nil))))) (pw_or1 (pt_not (pt_chain un_le un_le pe_int (pe_callB (un_len (K := K) rfl) (by rfl) T.b_len (by decide +kernel) (pa_cons (pv 0) pa_nil)) (pe_glob (v := .int (8)) (by rfl) T.c_MOST_KNOWN ⟨_, rfl⟩))))))
  (pss_one (ps_ret pe_bl))
  pss_nil)
  (pss_cons (ps_if (pt_not (pt_val (pe_callB (un_all (K := K) rfl rfl) (by rfl) T.b_all (by decide +kernel) (pa_cons (pe_lc (own := [("part", 2)]) (g := gName 2) (by rfl) sc_is_known.nd (pi_seq (K := K) rfl (pv 0)) (blkOk_by (own := [("part", 2)]) (N := N_is_known) (sc := defScope s_is_known) (by decide +kernel)) (fun _ _ _ _ _ => (pg_name (i := 2) sc_is_known.nd rfl (Or.inl rfl))) (fun _ _ _ _ _ => pts_nil) (fun _ _ _ _ _ => (pe_and (pe_call G_is_pair (hr.mono (by omega)) (by rfl) D_is_pair.g D_is_pair.F.kp D_is_pair.b .nil pass0 (pa_cons (pv 2) pa_nil)) (pe_and (pe_call G_is_name (hr.mono (by omega)) (by rfl) D_is_name.g D_is_name.F.kp D_is_name.b .nil pass0 (pa_cons (pe_ix (un_ix (K := K) rfl) (pv 2) pe_int (fun _ _ => rfl)) pa_nil)) (pe_one (pe_call G_is_cents (hr.mono (by omega)) (by rfl) D_is_cents.g D_is_cents.F.kp D_is_cents.b .nil pass0 (pa_cons (pe_ix (un_ix (K := K) rfl) (pv 2) pe_int (fun _ _ => rfl)) pa_nil))))))) pa_nil))))
  (pss_one (ps_ret pe_bl))
  pss_nil)
  (pss_cons (ps_setLc (i := 1) (own := [("name", 3), ("cents", 4)]) (g := gTup K 2 (gCons (gName 3) (gCons (gName 4) gNil))) (by rfl) sc_is_known.nd rfl rfl (sw_true rfl rfl rfl (by decide +kernel)) (pi_seq (K := K) rfl (pv 0)) (blkOk_by (own := [("name", 3), ("cents", 4)]) (N := N_is_known) (sc := defScope s_is_known) (by decide +kernel)) (fun _ _ _ _ _ => (pg_tup (by rfl) (pgs_cons (pg_name (i := 3) sc_is_known.nd rfl (Or.inl rfl)) (pgs_cons (pg_name (i := 4) sc_is_known.nd rfl (Or.inl rfl)) pgs_nil)))) (fun _ _ _ _ _ => pts_nil) (fun _ _ _ _ _ => (pv 3)))
  (pss_one (ps_ret (pe_cmpR (kk_op_eqD (K := K) hr.units rfl) (pv 1) (un_sortSet (K := K) rfl rfl (by rfl) T.b_sorted (by rfl) T.b_set (pv 1)) (nomark _))))))), fn_body (n := 5) rfl (ss_seq (ss_if (snd_or (snd_not (snd_tB (snd_isi okT_tuple (snd_var 0)))) (snd_not (snd_tTest (snd_chain so_cmp so_cmp (snd_int _) (snd_cb sc_len (snd_cons (snd_var 0) snd_nil)) (snd_int _)))))
  (ss_ret (snd_bl _))
  ss_next)
  (ss_seq (ss_if (snd_not (snd_tB (snd_cb sc_all (snd_cons (snd_lc (snd_iSeq (snd_var 0)) (sg_name 2) (by decide) snd_yes (snd_andV (snd_call (snd_cons (snd_var 2) snd_nil)) (snd_andV (snd_call (snd_cons (snd_op so_ix (snd_var 2) (snd_int _)) snd_nil)) (snd_call (snd_cons (snd_op so_ix (snd_var 2) (snd_int _)) snd_nil))))) snd_nil))))
  (ss_ret (snd_bl _))
  ss_next)
  (ss_seq (ss_asg (snd_lc (snd_iSeq (snd_var 0)) (sg_tup (n := 2) (sg_cons (sg_name 3) (sg_cons (sg_name 4) sg_nil))) (by decide) snd_yes (snd_var 3)) (sg_name 1))
  (ss_ret (snd_op so_eq (snd_var 1) (snd_sortSet (snd_var 1))))))) h ?_⟩
  intro xs R hW
  unfold W_is_known at hW
  split at hW
  rotate_left
  · exact hW.elim
  rename_i x
  have r : R (.d (.bool (isKnownD x))) := hW
  walk_at "w"
  by_cases ht : isiD "tuple" x = false
  · rw [if_pos ht]
    have e : isKnownD x = false := by cases x <;> first | rfl | cases ht
    rw [e] at r
    exact r
  rw [if_neg ht]
  obtain ⟨ds, rfl⟩ : ∃ ds, x = .tuple ds := by
    cases x <;> first | exact ⟨_, rfl⟩ | exact (ht rfl).elim
  walk_at "w"
  have no : ¬ (1 ≤ ds.length ∧ ds.length ≤ 8) → isKnownD (.tuple ds) = false := fun h => by
    show ((decide (1 ≤ ds.length) && decide (ds.length ≤ 8)) && _) = false
    rw [← Bool.decide_and, decide_eq_false h]; rfl
  by_cases g1 : (1 : Int) ≤ ds.length
  rotate_left
  · rw [if_neg g1]
    rw [no (by omega)] at r
    exact r
  rw [if_pos g1]
  by_cases g2 : (ds.length : Int) ≤ 8
  rotate_left
  · rw [if_pos g2]
    rw [no (by omega)] at r
    exact r
  rw [if_neg (by omega)]
  have e : isKnownD (.tuple ds) = (ds.all knownB && upB (ds.map nameOf)) := by
    show ((decide (1 ≤ ds.length) && decide (ds.length ≤ 8)) && _) = _
    rw [decide_eq_true (by omega), decide_eq_true (by omega)]; rfl
  rw [e] at r
  walk_at "n"
  refine ⟨by omega, lcW_id (g := fun d => .bool (knownB d)) (fun d hm S hS => ?_) ?_⟩
  · walk_at "v"
    by_cases hp : isPairD d = true
    · rw [if_pos hp]
      obtain ⟨a, b, rfl⟩ := two_of hp
      have hS : S (some (.bool (isNameD a && withinD 0 1000000000000000000 b))) := hS
      walk_at "v"
      cases q : isNameD a with
      | true => rw [q] at hS; rw [if_pos rfl]; exact hS
      | false => rw [q] at hS; rw [if_neg (by decide)]; exact hS
    · rw [if_neg hp]
      have e : knownB d = false := by
        unfold knownB
        split
        · exact (hp rfl).elim
        · rfl
      rw [e] at hS
      exact hS
  walk_at "w"
  refine ⟨ds.map knownB, by rw [List.map_map]; rfl, ?_⟩
  rw [List.all_map, show (id ∘ knownB) = knownB from rfl]
  walk_at "w"
  cases q : ds.all knownB with
  | false =>
    rw [q] at r
    rw [if_pos rfl]
    exact r
  | true =>
    rw [q] at r
    rw [if_neg (by decide)]
    rw [List.all_eq_true] at q
    walk_at "n"
    refine ⟨by omega, lcW_id (g := fun d => .str (nameOf d)) (fun d hm S hS => ?_) ?_⟩
    · obtain ⟨x, c, rfl, _⟩ := known_pair (q d hm)
      walk_at "w"
      exact hS
    walk_at "w"
    walk_at "n"
    have nl : (ds.map nameOf).length < 64 := by rw [List.length_map]; omega
    have em : (ds.map fun d => PyData.str (nameOf d)) = (ds.map nameOf).map PyData.str := by rw [List.map_map]; rfl
    rw [em]
    refine ⟨ds.map nameOf, rfl, nl, fun ys srt nd mem => ?_⟩
    have up := srt_up srt nd
    walk_at "w"
    rw [eqv_list eqv_str]
    refine ⟨dl_str _, dl_str _, ?_⟩
    have e : decide (ds.map nameOf = ys) = upB (ds.map nameOf) := by
      unfold upB
      by_cases h : (ds.map nameOf).Pairwise sLt
      · rw [decide_eq_true h, decide_eq_true (up_uniq h up fun x => (mem x).symm)]
      · rw [decide_eq_false h, decide_eq_false fun z => h (by rw [z]; exact up)]
    rw [e]
    exact r
abbrev s_check_known : Stmt := topS 31
abbrev N_check_known : List Str := ["known"]
theorem sc_check_known : FnScope N_check_known ["known"] (defScope s_check_known) := ⟨rfl, rfl, rfl, by decide +kernel, rfl, by decide +kernel, by decide +kernel⟩
theorem ok_check_known {f_check_known : Addr} {fd_check_known : FuncData} (D_check_known : Df K mg "check_known" s_check_known ["known"] f_check_known fd_check_known) {f_is_known : Addr} {fd_is_known : FuncData} (D_is_known : Df K mg "is_known" s_is_known ["thing"] f_is_known fd_is_known) (G_is_known : FnOk P w K mg base CX0 3 f_is_known fd_is_known ["thing"] (spW W_is_known)) (T : Bt mg k0 k1 k2) : FnOk P w K mg base CX0 4 f_check_known fd_check_known ["known"] (spW W_check_known) := by
  refine D_check_known.F.ok sc_check_known (fun vs H Q E h => spW_len (n := 1) (fun xs R h => by unfold W_check_known at h; split at h <;> first | rfl | exact h.elim) h) (fun cdv A outer s H vs Q E hr h => ?_)
  refine ⟨_, (pss_one (ps_if (pt_not (pt_val (pe_call G_is_known (hr.mono (by omega)) (by rfl) D_is_known.g D_is_known.F.kp D_is_known.b .nil pass0 (pa_cons (pv 0) pa_nil))))
  (pss_one ps_never)
  pss_nil)), fn_body (n := 1) rfl (ss_if (snd_not (snd_tB (snd_call (snd_cons (snd_var 0) snd_nil))))
  ss_never
  ss_next) h ?_⟩
  intro xs R hW
  unfold W_check_known at hW
  split at hW
  rotate_left
  · exact hW.elim
  rename_i x
  obtain ⟨h, r⟩ := hW
  walk_at "v"
  rw [h]
  exact r
abbrev s_factorial : Stmt := topS 32
abbrev N_factorial : List Str := ["many", "ways", "number"]
theorem sc_factorial : FnScope N_factorial ["many"] (defScope s_factorial) := ⟨rfl, rfl, rfl, by decide +kernel, rfl, by decide +kernel, by decide +kernel⟩
theorem ok_factorial {f_factorial : Addr} {fd_factorial : FuncData} (D_factorial : Df K mg "factorial" s_factorial ["many"] f_factorial fd_factorial) (T : Bt mg k0 k1 k2) : FnOk P w K mg base CX0 1 f_factorial fd_factorial ["many"] (spW W_factorial) := by
  refine D_factorial.F.ok sc_factorial (fun vs H Q E h => spW_len (n := 1) (fun xs R h => by unfold W_factorial at h; split at h <;> first | rfl | exact h.elim) h) (fun cdv A outer s H vs Q E hr h => ?_)
  refine ⟨_, (pss_cons (ps_set (i := 1) sc_factorial.nd rfl (Or.inl rfl) pe_int)
  (pss_cons (ps_for PassesOwn.never rfl (pi_range2 (by rfl) T.b_range (pa_cons pe_int (pa_cons (pe_op (un_add (K := K) rfl) (pv 0) pe_int) pa_nil))) (pg_name (i := 2) sc_factorial.nd rfl (Or.inl rfl))
  (pss_one (ps_aug (i := 1) sc_factorial.nd rfl (Or.inl rfl) (pv 2) ip_mul)))
  (pss_one (ps_ret (pv 1))))), fn_body (n := 3) rfl (ss_seq (ss_asg (snd_int _) (sg_name 1))
  (ss_seq (ss_for (snd_iRng2 (snd_cons (snd_int _) (snd_cons (snd_op so_add (snd_var 0) (snd_int _)) snd_nil))) (sg_name 2)
  (ss_augM (i := 1) (snd_var 2)))
  (ss_retV (i := 1)))) h ?_⟩
  intro xs R hW
  unfold W_factorial at hW
  split at hW
  rotate_left
  · exact hW.elim
  rename_i m
  obtain ⟨n, rfl, n20, r⟩ := hW
  walk_at "w"
  walk_at "n"
  refine ⟨⟨by decide, by decide, by omega, by omega⟩, ?_⟩
  refine for_by (fun k Γ' => ∃ s2 : Slot, Γ' = [Slot.v (Vx.d (PyData.int n)), Slot.v (Vx.d (PyData.int (fact (k + 1) : Nat))), s2]) ⟨_, rfl⟩ (fun k d Γ' hk hI => ?_) (fun Γ' hI => ?_)
  · obtain ⟨s2, rfl⟩ := hI
    have kl := (List.getElem?_eq_some_iff.mp hk).1
    rw [upTo_len] at kl
    rw [upTo_at kl] at hk
    cases hk
    walk_at "w"
    have e : ((fact (k + 1) : Nat) : Int) * (2 + (k : Int)) = (fact (k + 1 + 1) : Nat) := by
      rw [show fact (k + 1 + 1) = fact (k + 1) * (k + 1 + 1) from rfl, Int.natCast_mul]
      congr 1; omega
    rw [e]
    exact ⟨.inr ⟨by omega, by omega⟩, _, rfl⟩
  · obtain ⟨s2, rfl⟩ := hI
    rw [upTo_len]
    walk_at "w"
    walk_at "n"
    have e : fact (((n : Int) + 1 - 2).toNat + 1) = fact n := by
      cases n with
      | zero => rfl
      | succ n => rw [show ((((n + 1 : Nat)) : Int) + 1 - 2).toNat + 1 = n + 1 by omega]
    rw [e]
    exact r
end
end Dm
/-! orders told back -/
namespace Dm
open PySem L2 Pb
open PySem.W (AllAlike Sortable dataLe)
abbrev In := Int × Str
def encN (q : In) : PyData := .tuple [.int q.1, .str q.2]
def rowK (kv : List Si) : List In := (kv.map fun q => (-q.2, q.1)).mergeSort (dataLe false encN)
theorem rowK_perm (kv : List Si) : (rowK kv).Perm (kv.map fun q => (-q.2, q.1)) := List.mergeSort_perm _ _
def sharesN (b : Int) (n : Nat) : List Int := (List.range n).map (shareZ b n)
def ordD (b : Int) (kv : List Si) : PyData := if (rowK kv).map (fun q => -q.1) = sharesN b kv.length then .tuple [.int ((fact (b % kv.length).toNat : Nat) * (fact (kv.length - (b % kv.length).toNat) : Nat)), .tuple ((rowK kv).map fun q => .str q.2)] else .tuple [.int 0, .none]
structure KvOk (kv : List Si) : Prop where
  l1 : 1 ≤ kv.length
  l8 : kv.length ≤ 8
  up : (kv.map (·.1)).Pairwise sLt
  nm : ∀ q ∈ kv, isNameS q.1 = true
  c0 : ∀ q ∈ kv, 0 ≤ q.2
  c1 : ∀ q ∈ kv, q.2 ≤ 1000000000000000000
theorem KvOk.is {kv : List Si} (h : KvOk kv) : isKnownD (.tuple (kv.map encP)) = true := by
  show ((decide (1 ≤ (kv.map encP).length) && decide ((kv.map encP).length ≤ 8)) && ((kv.map encP).all knownB && upB ((kv.map encP).map nameOf))) = true
  rw [List.length_map, decide_eq_true h.l1, decide_eq_true h.l8, List.map_map, show (nameOf ∘ encP) = (·.1) from rfl]
  unfold upB
  have e : kv.all (knownB ∘ encP) = true := by
    rw [List.all_eq_true]
    intro q hq
    show (isNameS q.1 && (decide (0 ≤ q.2) && decide (q.2 ≤ 1000000000000000000))) = true
    rw [h.nm q hq, decide_eq_true (h.c0 q hq), decide_eq_true (h.c1 q hq)]; rfl
  rw [decide_eq_true h.up, List.all_map, e]; rfl
theorem alikeN (l : List In) : AllAlike (l.map encN) := .of fun b b' => rfl
theorem sortableN (l : List In) : Sortable (l.map encN) := .tuples fun b => ⟨_, _, rfl⟩
theorem d_encN (q : In) : (encN q).depth ≤ 10 := by simp [encN, PyData.depth, PyData.depthAll]
theorem row_len (kv : List Si) : (rowK kv).length = kv.length := by rw [(rowK_perm kv).length_eq, List.length_map]
theorem fact_le {n : Nat} (h : n ≤ 8) : fact n ≤ 40320 := by
  rcases (by omega : n = 0 ∨ n = 1 ∨ n = 2 ∨ n = 3 ∨ n = 4 ∨ n = 5 ∨ n = 6 ∨ n = 7 ∨ n = 8) with h | h | h | h | h | h | h | h | h <;> subst h <;> decide
def W_orders : OA
  | [.d (.int b), .d (.tuple ds)], R => ∃ kv : List Si, ds = kv.map encP ∧ KvOk kv ∧ 0 ≤ b ∧ b ≤ 1000000000000000000 ∧ R (.d (ordD b kv))
  | _, _ => False
local macro_rules | `(tactic| walk_at "w") => `(tactic| try simp -dsimp only [startE_0, startE_s, startE_n, posts, wNext, wSeq_e, wRet, wRetN, wDrop, wIf, wNever, wAsg, wPar, wTri, wNew, wRetF, wRetV, wApp, wExt, wSetL, wPutT, wAug, wFrz, wFrzT, wCallM, postM, wSortSet, wAugM, wlOne, wlCons, wChN, wTru, wNewT, wgN, wgT, wgNil, wgCons, wmNil, wmV, wmL, wmT,
  wVar, readS, wK, wOp, oI, cT, oCmp, oEqv, datOf, oIsN, oAdd, oIx_l, oIx_q, oIx_t, IxK_0, IxK_1, IxK_2, IxK_3, oIn, wNeg, wAndV, wOrV, wNotV, wTst, wNot, wAnd, wOr, wIfE, wChain, wNil, wCons, allD, wTup, wLst, wC, wNoPart, wPart, wSl, oLen, wIsi, oInt, o2I, o1, lstOf, oListC, oTupC, oDGet_e, DgK_some, dLook, dkOf, dtOf, wDGet3, isDx, wSortIt,
  wISeq, wIRng1, wIRng2, wIStr, wIEnumT, wIZip, wLc, wYes, wLock, wDc, lcE, dcE, wOnlyD, wipeE, lockS, wCall, allNq, unF_d, unF_dk, unF_dt, unF_bag, unF_fl, nq_d, nq_dk, nq_dt, nq_bag, List.map_cons, List.map_nil, List.set_cons_zero, List.set_cons_succ, List.getElem?_cons_zero, List.getElem?_cons_succ, Option.map_some, Option.map_none, true_and, and_true, decide_eq_true_eq, Bool.not_eq_true', id, if_true, Bool.true_eq_false, Bool.false_eq_true, if_false, ite_true, ite_false, NN, List.length_cons, List.length_nil, List.length_map, Nat.zero_add, Nat.reduceAdd, Nat.reduceLeDiff, and_self, cDiv, cMul, List.append_nil, List.nil_append, wRev, wFor_e, flOnly_fl, List.replicate_succ, List.replicate_zero, Bool.not_true, Bool.not_false, bodyPost, tailPost, isTru, wAssert, Bool.not_eq_false', decide_eq_false_iff_not])
local macro_rules | `(tactic| walk_at "v") => `(tactic| try simp -dsimp only [startE_0, startE_s, startE_n, posts, wNext, wSeq_e, wRet, wRetN, wDrop, wIf, wNever, wAsg, wPar, wTri, wNew, wRetF, wRetV, wApp, wExt, wSetL, wPutT, wAug, wFrz, wFrzT, wCallM, postM, wSortSet, wAugM, wlOne, wlCons, wChN, wTru, wNewT, wgN, wgT, wgNil, wgCons, wmNil, wmV, wmL, wmT,
  wVar, readS, wK, wOp, oI, cT, oCmp, oEqv, datOf, oIsN, oAdd, oIx_l, oIx_q, oIx_t, IxK_0, IxK_1, IxK_2, IxK_3, oIn, wNeg, wAndV, wOrV, wNotV, wTst, wNot, wAnd, wOr, wIfE, wChain, wNil, wCons, allD, wTup, wLst, wC, wNoPart, wPart, wSl, oLen, wIsi, oInt, o2I, o1, lstOf, oListC, oTupC, oDGet_e, DgK_some, dLook, dkOf, dtOf, wDGet3, isDx, wSortIt,
  wISeq, wIRng1, wIRng2, wIStr, wIEnumT, wIZip, wLc, wYes, wLock, wDc, lcE, dcE, wOnlyD, wipeE, lockS, wCall, allNq, unF_d, unF_dk, unF_dt, unF_bag, unF_fl, nq_d, nq_dk, nq_dt, nq_bag, List.map_cons, List.map_nil, List.set_cons_zero, List.set_cons_succ, List.getElem?_cons_zero, List.getElem?_cons_succ, Option.map_some, Option.map_none, true_and, and_true, decide_eq_true_eq, Bool.not_eq_true', id, if_true, Bool.true_eq_false, Bool.false_eq_true, if_false, ite_true, ite_false, NN, List.length_cons, List.length_nil, List.length_map, Nat.zero_add, Nat.reduceAdd, Nat.reduceLeDiff, and_self, cDiv, cMul, List.append_nil, List.nil_append, wRev, wFor_e, flOnly_fl, List.replicate_succ, List.replicate_zero, Bool.not_true, Bool.not_false, bodyPost, tailPost, isTru, wAssert, Bool.not_eq_false', decide_eq_false_iff_not, Hold, App, W_check_known, W_check_bills, W_factorial, W_share])
local macro_rules | `(tactic| walk_at "n") => `(tactic| (refine Hold_go ?_; walk_at "w"))
section
variable {P : Program} {w : World} {K : PySem.W.Frag} {mg : Str → Option Value} {base : Heap} {k0 k1 k2 : Tok}
abbrev s_orders : Stmt := topS 33
abbrev N_orders : List Str := ["bills", "known", "many", "row", "with_more", "name", "cents", "less", "place"]
theorem sc_orders : FnScope N_orders ["bills", "known"] (defScope s_orders) := ⟨rfl, rfl, rfl, by decide +kernel, rfl, by decide +kernel, by decide +kernel⟩
theorem ok_orders {f_orders : Addr} {fd_orders : FuncData} (D_orders : Df K mg "orders" s_orders ["bills", "known"] f_orders fd_orders) {f_share : Addr} {fd_share : FuncData} (D_share : Df K mg "share" s_share ["bills", "many", "place"] f_share fd_share) {f_check_bills : Addr} {fd_check_bills : FuncData} (D_check_bills : Df K mg "check_bills" s_check_bills ["bills"] f_check_bills fd_check_bills) {f_check_known : Addr} {fd_check_known : FuncData} (D_check_known : Df K mg "check_known" s_check_known ["known"] f_check_known fd_check_known) {f_factorial : Addr} {fd_factorial : FuncData} (D_factorial : Df K mg "factorial" s_factorial ["many"] f_factorial fd_factorial) (G_share : FnOk P w K mg base CX0 1 f_share fd_share ["bills", "many", "place"] (spW W_share)) (G_check_bills : FnOk P w K mg base CX0 3 f_check_bills fd_check_bills ["bills"] (spW W_check_bills)) (G_check_known : FnOk P w K mg base CX0 4 f_check_known fd_check_known ["known"] (spW W_check_known)) (G_factorial : FnOk P w K mg base CX0 1 f_factorial fd_factorial ["many"] (spW W_factorial)) (T : Bt mg k0 k1 k2) : FnOk P w K mg base CX0 5 f_orders fd_orders ["bills", "known"] (spW W_orders) := by
  refine D_orders.F.ok sc_orders (fun vs H Q E h => spW_len (n := 2) (fun xs R h => by unfold W_orders at h; split at h <;> first | rfl | exact h.elim) h) (fun cdv A outer s H vs Q E hr h => ?_)
  refine ⟨_, (pss_cons (ps_expr (pe_call G_check_bills (hr.mono (by omega)) (by rfl) D_check_bills.g D_check_bills.F.kp D_check_bills.b .nil pass0 (pa_cons (pv 0) pa_nil)))
  (pss_cons (ps_expr (pe_call G_check_known (hr.mono (by omega)) (by rfl) D_check_known.g D_check_known.F.kp D_check_known.b .nil pass0 (pa_cons (pv 1) pa_nil)))
  (pss_cons (ps_set (i := 2) sc_orders.nd rfl (Or.inr rfl) (pe_callB (un_len (K := K) rfl) (by rfl) T.b_len (by decide +kernel) (pa_cons (pv 1) pa_nil)))
  (pss_cons (ps_set (i := 3) sc_orders.nd rfl (Or.inl rfl) (pe_callB (un_sorted (K := K) hr.units rfl) (by rfl) T.b_sorted (by decide +kernel) (pa_cons (pe_lc (own := [("name", 5), ("cents", 6)]) (g := gTup K 2 (gCons (gName 5) (gCons (gName 6) gNil))) (by rfl) sc_orders.nd (pi_seq (K := K) rfl (pv 1)) (blkOk_by (own := [("name", 5), ("cents", 6)]) (N := N_orders) (sc := defScope s_orders) (by decide +kernel)) (fun _ _ _ _ _ => (pg_tup (by rfl) (pgs_cons (pg_name (i := 5) sc_orders.nd rfl (Or.inl rfl)) (pgs_cons (pg_name (i := 6) sc_orders.nd rfl (Or.inl rfl)) pgs_nil)))) (fun _ _ _ _ _ => pts_nil) (fun _ _ _ _ _ => (pe_tup (pa_cons (pe_un un_neg (pv 6)) (pa_cons (pv 5) pa_nil))))) pa_nil)))
  (pss_cons (ps_if (pt_cmpR (kk_op_neD (K := K) hr.units rfl) (pe_lc (own := [("less", 7), ("name", 5)]) (g := gTup K 2 (gCons (gName 7) (gCons (gName 5) gNil))) (by rfl) sc_orders.nd (pi_seq (K := K) rfl (pv 3)) (blkOk_by (own := [("less", 7), ("name", 5)]) (N := N_orders) (sc := defScope s_orders) (by decide +kernel)) (fun _ _ _ _ _ => (pg_tup (by rfl) (pgs_cons (pg_name (i := 7) sc_orders.nd rfl (Or.inl rfl)) (pgs_cons (pg_name (i := 5) sc_orders.nd rfl (Or.inl rfl)) pgs_nil)))) (fun _ _ _ _ _ => pts_nil) (fun _ _ _ _ _ => (pe_un un_neg (pv 7)))) (pe_lc (own := [("place", 8)]) (g := gName 8) (by rfl) sc_orders.nd (pi_range1 (by rfl) T.b_range (pa_cons (pv 2) pa_nil)) (blkOk_by (own := [("place", 8)]) (N := N_orders) (sc := defScope s_orders) (by decide +kernel)) (fun _ _ _ _ _ => (pg_name (i := 8) sc_orders.nd rfl (Or.inl rfl))) (fun _ _ _ _ _ => pts_nil) (fun _ _ _ _ _ => (pe_call G_share (hr.mono (by omega)) (by rfl) D_share.g D_share.F.kp D_share.b .nil pass0 (pa_cons (pv 0) (pa_cons (pv 2) (pa_cons (pv 8) pa_nil)))))) (nomark _))
  (pss_one (ps_ret (pe_tup (pa_cons pe_int (pa_cons pe_non pa_nil)))))
  pss_nil)
  (pss_cons (ps_set (i := 4) sc_orders.nd rfl (Or.inl rfl) (pe_op op_mod (pv 0) (pv 2)))
  (pss_one (ps_ret (pe_tup (pa_cons (pe_op op_mul (pe_call G_factorial (hr.mono (by omega)) (by rfl) D_factorial.g D_factorial.F.kp D_factorial.b .nil pass0 (pa_cons (pv 4) pa_nil)) (pe_call G_factorial (hr.mono (by omega)) (by rfl) D_factorial.g D_factorial.F.kp D_factorial.b .nil pass0 (pa_cons (pe_op op_sub (pv 2) (pv 4)) pa_nil))) (pa_cons (pe_callTy (un_tuple (K := K) rfl) (by rfl) T.b_tuple (by decide +kernel) (pa_cons (pe_lc (own := [("less", 7), ("name", 5)]) (g := gTup K 2 (gCons (gName 7) (gCons (gName 5) gNil))) (by rfl) sc_orders.nd (pi_seq (K := K) rfl (pv 3)) (blkOk_by (own := [("less", 7), ("name", 5)]) (N := N_orders) (sc := defScope s_orders) (by decide +kernel)) (fun _ _ _ _ _ => (pg_tup (by rfl) (pgs_cons (pg_name (i := 7) sc_orders.nd rfl (Or.inl rfl)) (pgs_cons (pg_name (i := 5) sc_orders.nd rfl (Or.inl rfl)) pgs_nil)))) (fun _ _ _ _ _ => pts_nil) (fun _ _ _ _ _ => (pv 5))) pa_nil)) pa_nil))))))))))), fn_body (n := 9) rfl (ss_seq (ss_drop (snd_call (snd_cons (snd_var 0) snd_nil)))
  (ss_seq (ss_drop (snd_call (snd_cons (snd_var 1) snd_nil)))
  (ss_seq (ss_asg (snd_cb sc_len (snd_cons (snd_var 1) snd_nil)) (sg_name 2))
  (ss_seq (ss_asg (snd_cb sc_sorted (snd_cons (snd_lc (snd_iSeq (snd_var 1)) (sg_tup (n := 2) (sg_cons (sg_name 5) (sg_cons (sg_name 6) sg_nil))) (by decide) snd_yes (snd_tup (snd_cons (snd_neg (snd_var 6)) (snd_cons (snd_var 5) snd_nil)))) snd_nil)) (sg_name 3))
  (ss_seq (ss_if (snd_tTest (snd_op so_ne (snd_lc (snd_iSeq (snd_var 3)) (sg_tup (n := 2) (sg_cons (sg_name 7) (sg_cons (sg_name 5) sg_nil))) (by decide) snd_yes (snd_neg (snd_var 7))) (snd_lc (snd_iRng1 (snd_cons (snd_var 2) snd_nil)) (sg_name 8) (by decide) snd_yes (snd_call (snd_cons (snd_var 0) (snd_cons (snd_var 2) (snd_cons (snd_var 8) snd_nil)))))))
  (ss_ret (snd_tup (snd_cons (snd_int _) (snd_cons snd_non snd_nil))))
  ss_next)
  (ss_seq (ss_asg (snd_op so_mod (snd_var 0) (snd_var 2)) (sg_name 4))
  (ss_ret (snd_tup (snd_cons (snd_op so_mul (snd_call (snd_cons (snd_var 4) snd_nil)) (snd_call (snd_cons (snd_op so_sub (snd_var 2) (snd_var 4)) snd_nil))) (snd_cons (snd_cb sc_tuple (snd_cons (snd_lc (snd_iSeq (snd_var 3)) (sg_tup (n := 2) (sg_cons (sg_name 7) (sg_cons (sg_name 5) sg_nil))) (by decide) snd_yes (snd_var 5)) snd_nil)) snd_nil)))))))))) h ?_⟩
  intro xs R hW
  unfold W_orders at hW
  split at hW
  rotate_left
  · exact hW.elim
  rename_i b ds
  obtain ⟨kv, rfl, ok, b0, b1, r⟩ := hW
  have l1 := ok.l1
  have l8 := ok.l8
  walk_at "w"
  refine ⟨⟨b0, b1⟩, ?_⟩
  walk_at "w"
  walk_at "n"
  refine ⟨ok.is, ?_⟩
  walk_at "w"
  walk_at "n"
  walk_at "n"
  refine ⟨by omega, lcW_of (g := fun q => encN (-q.2, q.1)) (fun q hq S hS => ?_) ?_⟩
  · simp only [encP]
    walk_at "w"
    exact hS
  walk_at "w"
  rw [show (kv.map fun q => encN (-q.2, q.1)) = (kv.map fun q => (-q.2, q.1)).map encN by rw [List.map_map]; rfl]
  refine ⟨alikeN _, sortableN _, fun d hd => by obtain ⟨q, _, rfl⟩ := List.mem_map.mp hd; exact d_encN q, ?_⟩
  rw [sortD_map, show (kv.map fun q => (-q.2, q.1)).mergeSort (dataLe false encN) = rowK kv from rfl]
  have rl := row_len kv
  unfold ordD at r
  generalize rowK kv = row at r rl ⊢
  walk_at "w"
  walk_at "n"
  refine ⟨by omega, lcW_of (g := fun q : In => .int (-q.1)) (fun q hq S hS => ?_) ?_⟩
  · simp only [encN]
    walk_at "w"
    exact hS
  walk_at "w"
  refine ⟨⟨by omega, by omega⟩, by rw [upTo_len]; omega, ?_⟩
  unfold upTo
  rw [show ((kv.length : Int)).toNat = kv.length from rfl]
  refine lcW_of (c := fun (i : Nat) => PyData.int (0 + (i : Int))) (g := fun i => .int (shareZ b kv.length i)) (fun i hi S hS => ?_) ?_
  · have := List.mem_range.mp hi
    walk_at "v"
    refine ⟨⟨by omega, by omega⟩, by omega, ?_⟩
    rw [show (0 + (i : Int)).toNat = i by omega]
    exact hS
  walk_at "w"
  rw [show (row.map fun q : In => PyData.int (-q.1)) = (row.map fun q => -q.1).map PyData.int by rw [List.map_map]; rfl, show ((List.range kv.length).map fun i => PyData.int (shareZ b kv.length i)) = (sharesN b kv.length).map PyData.int by unfold sharesN; rw [List.map_map]; rfl, eqv_list eqv_int]
  refine ⟨dl_int _, dl_int _, ?_⟩
  by_cases hq : (row.map fun q => -q.1) = sharesN b kv.length
  · rw [if_pos hq] at r
    rw [if_neg (by rw [decide_eq_true hq]; decide)]
    walk_at "n"
    refine ⟨by omega, ?_⟩
    have m0 : 0 ≤ b % (kv.length : Int) := Int.emod_nonneg _ (by omega)
    have m1 : b % (kv.length : Int) < kv.length := Int.emod_lt_of_pos _ (by omega)
    walk_at "n"
    refine ⟨(b % (kv.length : Int)).toNat, by omega, by omega, ?_⟩
    walk_at "w"
    refine ⟨kv.length - (b % (kv.length : Int)).toNat, by omega, by omega, ?_⟩
    walk_at "w"
    have f8 := fact_le (show (b % (kv.length : Int)).toNat ≤ 8 by omega)
    refine ⟨.inl ⟨by omega, by omega⟩, by omega, lcW_of (g := fun q : In => .str q.2) (fun q hq S hS => ?_) ?_⟩
    · simp only [encN]
      walk_at "w"
      exact hS
    walk_at "w"
    exact r
  · rw [if_neg hq] at r
    rw [if_pos (decide_eq_false hq)]
    exact r
end
end Dm
/-! set(texts) == set(texts) -/
namespace Pb
open PySem PySem.Spec PyProof.Rows L2
theorem entry_set_eq : entryFor table "set.__eq__" = some Builtin.«frozenset.__eq__» :=
  entryFor_alias (id' := "frozenset.__eq__") (by kernel_rfl) rfl (by decide +kernel) (by kernel_rfl)
theorem nodup_le : ∀ {a b : List Str}, a.Nodup → (∀ x ∈ a, x ∈ b) → a.length ≤ b.length
  | [], b, _, _ => Nat.zero_le _
  | x :: a, b, nd, h => by
    have nd1 := List.nodup_cons.mp nd
    have hx := h x List.mem_cons_self
    have l := nodup_le (b := b.erase x) nd1.2 fun y hy => (List.mem_erase_of_ne (fun z => nd1.1 (by rw [← z]; exact hy))).mpr (h y (List.mem_cons_of_mem _ hy))
    have l2 := List.length_erase_of_mem hx
    have l3 := List.length_pos_of_mem hx
    rw [List.length_cons]
    omega
section
variable {P : Program} {w : World} {A : Around} {E : Value → Shared → Prop} {s : Shared} {a b : Addr}
theorem TxtAt.setOf {xs : List Str} {h : Heap} (T : TxtAt P w h a xs) : ∃ n, h.SetOf (PySem.strKind P w) a (fun x => decide (x ∈ xs)) n := by
  obtain ⟨o, es, ep, t, ho, hex, hd, g, sz, mem⟩ := T
  refine ⟨_, o, es, ep, t, ho, hex, hd, g.el, fun k => ?_, g.few, g.fit, rfl⟩
  rw [decide_eq_true_iff, ← mem k]
  constructor
  · intro z
    obtain ⟨e, he, q⟩ := List.mem_map.mp z
    exact ⟨e, he, (is_str g.el he k).mpr q⟩
  · rintro ⟨e, he, q⟩
    exact List.mem_map.mpr ⟨e, he, (is_str g.el he k).mp q⟩
theorem quiet_str {v : Value} (h : ∃ x tk, v = .str x tk) {Q : Bool → Shared → Prop} (q : Q true s) : wpAny (model P w) A (Builtin.Frozenset.quietEq v) Q E s := by
  obtain ⟨x, tk, rfl⟩ := h
  exact wpAny_pure q
theorem walk_unseen {es eb : Array (Int × Value)} {oa ob : Obj} {ea eb' : Nat} {ta tb : SetTable} (ha : s.heap.get? a = some oa) (hda : oa.data = .set es ea ta) (ga : Txt P w es ta)
    (hb : s.heap.get? b = some ob) (hdb : ob.data = .set eb eb' tb) (gb : Txt P w eb tb) {Q : List (Int × Value) → Shared → Prop} (q : Q es.toList s) : wpAny (model P w) A (Builtin.Frozenset.walkUnseen a b) Q E s := by
  unfold Builtin.Frozenset.walkUnseen
  refine wpAny_bind (wpAny_setEntries_of ha hda ga.fit (wpAny_bind (wpAny_setEntries_of hb hdb gb.fit ?_)))
  have all : ∀ e ∈ es.toList ++ eb.toList, ∃ x tk, e.2 = .str x tk := fun e he => by
    rcases List.mem_append.mp he with h | h
    · obtain ⟨tk, q⟩ := elem_str ga.el h; exact ⟨_, tk, q⟩
    · obtain ⟨tk, q⟩ := elem_str gb.el h; exact ⟨_, tk, q⟩
  generalize es.toList ++ eb.toList = l at all
  refine wpAny_bind (wpAny_forIn_list _ (fun (r : List (Int × Value)) (b : Option (List (Int × Value)) × Unit) s1 => (∀ e ∈ r, ∃ x tk, e.2 = .str x tk) ∧ b = (none, ()) ∧ s1 = s) _ (fun x rest b s1 ⟨h1, h2, h3⟩ => ?_) (fun b s1 ⟨_, h2, h3⟩ => ?_) l _ ⟨all, rfl, rfl⟩)
  · obtain ⟨k, v⟩ := x
    refine wpAny_bind (quiet_str (h1 _ List.mem_cons_self) ?_)
    exact wpAny_pure ⟨fun e he => h1 e (List.mem_cons_of_mem _ he), rfl, h3⟩
  · subst h2 h3
    exact wpAny_pure q
theorem subset_txt {xs ys : List Str} {id : String} (Ta : TxtAt P w s.heap a xs) (Tb : TxtAt P w s.heap b ys) {Q : Bool → Shared → Prop}
    (fin : ∀ r : Bool, (r = true ↔ ∀ x, x ∈ xs → x ∈ ys) → Q r s) : wpAny (model P w) A (Builtin.Frozenset.subsetOf id a b) Q E s := by
  have ⟨n, Sb⟩ := Tb.setOf
  obtain ⟨oa, es, ea, ta, ha, hxa, hda, ga, sa, ma⟩ := Ta
  obtain ⟨ob, eb, ebp, tb, hb, hxb, hdb, gb, sb, mb⟩ := Tb
  unfold Builtin.Frozenset.subsetOf Builtin.Frozenset.sizeOf
  refine wpAny_bind (wpAny_bind (wpAny_setEntries_of ha hda ga.fit (wpAny_pure (wpAny_bind (wpAny_bind (wpAny_setEntries_of hb hdb gb.fit (wpAny_pure ?_)))))))
  by_cases big : es.size > eb.size
  · rw [if_pos big]
    refine wpAny_pure (fin false ⟨fun z => (nomatch z), fun z => ?_⟩)
    have l1 := nodup_le ga.nd fun x hx => (mb x).mpr (z x ((ma x).mp hx))
    rw [List.length_map, List.length_map, Array.length_toList, Array.length_toList] at l1
    omega
  rw [if_neg big]
  refine wpAny_bind (wpAny_setEpoch_of ha hda ga.fit (wpAny_bind (walk_unseen ha hda ga hb hdb gb ?_)))
  refine wpAny_bind (wpAny_forIn_list _ (fun (r : List (Int × Value)) (b : Option Bool × Unit) s1 => (∀ e ∈ r, e ∈ es.toList) ∧ (∀ e ∈ es.toList, e ∈ r ∨ strOf e ∈ ys) ∧ b = (none, ()) ∧ s1 = s) _ (fun x rest b s1 ⟨h1, h4, h2, h3⟩ => ?_) (fun b s1 ⟨_, h4, h2, h3⟩ => ?_) es.toList _ ⟨fun e he => he, fun e he => .inl he, rfl, rfl⟩)
  · obtain ⟨k, v⟩ := x
    subst h3
    have hm := h1 _ List.mem_cons_self
    obtain ⟨⟨x, hx, hk⟩, hs⟩ := ga.el _ hm
    have hk : k = (PySem.strKind P w).hash x := hk
    have hv : strOf (k, v) = x := (is_str ga.el hm x).mp hx
    subst hk
    refine wpAny_bind (wpAny_holding (wpAny_setFind_of hx hs Sb fun r hr => ?_))
    cases r with
    | none =>
      have hr : false = decide (x ∈ ys) := hr
      have no := of_decide_eq_false hr.symm
      refine wpAny_pure (wpAny_pure (fin false ⟨fun z => (nomatch z), fun z => (no (z x ?_)).elim⟩))
      exact (ma x).mp (List.mem_map.mpr ⟨_, hm, hv⟩)
    | some j =>
      have hr : true = decide (x ∈ ys) := hr
      have yes := of_decide_eq_true hr.symm
      unfold Builtin.Frozenset.unchanged
      refine wpAny_bind (wpAny_bind (wpAny_setEpoch_of ha hda ga.fit ?_))
      rw [if_neg (by simp)]
      refine wpAny_pure (wpAny_pure ⟨fun e he => h1 e (List.mem_cons_of_mem _ he), fun e he => ?_, rfl, rfl⟩)
      rcases h4 e he with h | h
      · rcases List.mem_cons.mp h with h | h
        · rw [h, hv]; exact .inr yes
        · exact .inl h
      · exact .inr h
  · subst h2 h3
    refine wpAny_pure (fin true ⟨fun _ x hx => ?_, fun _ => rfl⟩)
    obtain ⟨e, he, q⟩ := List.mem_map.mp ((ma x).mpr hx)
    rcases h4 e he with h | h
    · cases h
    · rw [← q]; exact h
theorem eq_txt {xs ys : List Str} (Ta : TxtAt P w s.heap a xs) (Tb : TxtAt P w s.heap b ys) (hu : A.units < cLine) {Q : Value → Shared → Prop}
    (fin : ∀ r : Bool, (r = true ↔ ∀ x, x ∈ xs ↔ x ∈ ys) → Q (.bool r) s) : wpAny (model P w) A (compareOp .Eq (.ref a) (.ref b)) Q E s := by
  have Ta' := Ta
  have Tb' := Tb
  obtain ⟨oa, es, ea, ta, ha, hxa, hda, ga, sa, ma⟩ := Ta
  obtain ⟨ob, eb, ebp, tb, hb, hxb, hdb, gb, sb, mb⟩ := Tb
  have hTa : s.TypeIs (.ref a) "set" := ⟨oa, ha, hxa.1⟩
  have hTb : s.TypeIs (.ref b) "set" := ⟨ob, hb, hxb.1⟩
  refine wpAny_richCompare_same_room (op := .Eq) hTa hTb F.slot_set_eq (wpAny_call_entry F.slot_set_eq hTa entry_set_eq ?_ (F.args_set_eq_2 _ _)) hu
  show wpAny _ _ (Builtin.Frozenset.slot1 "__eq__" _ >>= _) _ _ _
  unfold Builtin.Frozenset.slot1 slotArgs
  refine wpAny_bind ?_
  simp only [List.isEmpty_nil, Bool.not_true, Bool.false_eq_true, ↓reduceIte, bind_assoc, List.length_nil, bne_self_eq_false, List.length_cons, pure_bind]
  refine wpAny_pure ?_
  unfold Builtin.Frozenset.isAnySet orM
  refine wpAny_bind (wpAny_bind (wpAny_isInstance hTb PySem.F.sub_set_set ?_))
  refine wpAny_pure ?_
  rw [if_neg (by decide)]
  unfold Builtin.Frozenset.addrOf
  refine wpAny_bind (wpAny_pure (wpAny_bind (wpAny_pure ?_)))
  unfold Builtin.Frozenset.sizeOf
  refine wpAny_bind (wpAny_bind (wpAny_setEntries_of ha hda ga.fit (wpAny_pure (wpAny_bind (wpAny_bind (wpAny_setEntries_of hb hdb gb.fit (wpAny_pure ?_)))))))
  refine wpAny_bind ?_
  have back : ∀ r : Bool, (r = true ↔ ∀ x, x ∈ xs ↔ x ∈ ys) → wpAny (model P w) A.in1 (ret (Value.bool r)) (fun fin s' => ∃ v, fin = Fin.done (Flow.ret v) ∧ v ≠ Value.notImplemented ∧ Q v s') E s := fun r hr => wpAny_pure ⟨_, rfl, fun z => (nomatch z), fin r hr⟩
  by_cases sz : es.size = eb.size
  rotate_left
  · rw [if_pos (by simpa using sz)]
    refine wpAny_pure (back false ⟨fun z => (nomatch z), fun z => (sz ?_).elim⟩)
    have l1 := nodup_le ga.nd fun x hx => (mb x).mpr ((z x).mp ((ma x).mp hx))
    have l2 := nodup_le gb.nd fun x hx => (ma x).mpr ((z x).mpr ((mb x).mp hx))
    rw [List.length_map, List.length_map, Array.length_toList, Array.length_toList] at l1 l2
    omega
  rw [if_neg (by simp [sz])]
  unfold andM
  refine wpAny_bind (wpAny_bind (wpAny_isInstance hTa PySem.F.sub_set_frozenset ?_))
  refine wpAny_pure ?_
  rw [if_neg (by decide)]
  refine subset_txt Ta' Tb' fun r hr => back r ?_
  refine hr.trans ⟨fun z x => ⟨z x, fun hx => ?_⟩, fun z x => (z x).mp⟩
  apply Classical.byContradiction
  intro hn
  have l1 := nodup_le (a := x :: es.toList.map strOf) (b := eb.toList.map strOf) (List.nodup_cons.mpr ⟨fun q => hn ((ma x).mp q), ga.nd⟩) fun y hy => by
    rcases List.mem_cons.mp hy with e | e
    · rw [e]; exact (mb x).mpr hx
    · exact (mb y).mpr (z y ((ma y).mp e))
  rw [List.length_cons, List.length_map, List.length_map, Array.length_toList, Array.length_toList] at l1
  omega
end
end Pb
/-! set(a tuple of texts), as a thing that is held; two of them compared; tuples of texts compared -/
namespace Pb
open PySem PySem.Spec PyProof.Rows L2
section
variable {P : Program} {w : World} {A : Around} {E : Value → Shared → Prop} {s : Shared}
/-- set(t), t a tuple of texts -/
theorem set_tupS {l : Addr} {items : Array Value} {xs : List Str} {Q : Value → Shared → Prop} (calm : A.handled = none) (hl : s.heap.IsTuple l items) (hi : StrsAre items.toList xs) (few : xs.length + 1 < scanBound)
    (fin : ∀ (h' : Heap) (tk : Nat), TxtEnd P w s xs h' → Q (.ref s.heap.objs.size) { s with heap := h', toks := tk }) : wpAny (model P w) A (call (.type "set") [.ref l]) Q E s := by
  have sz : xs.length = items.size := by rw [← StrsAre.len_eq hi, Array.length_toList]
  obtain ⟨c, tl, hmro⟩ := PySem.F.called_set.mro
  have made := PySem.F.called_set.made
  have sub := PySem.F.called_set.sub
  refine wpAny_call (codeAny_of_tree ?_)
  show wpAny _ _ (callAny (.type "set") _) _ _ _
  refine wpAny_pure ⟨Code.quiet_builtin _ (by decide +kernel), codeAny_builtin PySem.F.entry_type_call ?_⟩
  rw [Around.under_plain (weight_type_call_type "set" [.ref l] []) rfl]
  have n1 := PySem.F.called_set.notType
  have n2 := PySem.F.called_set.canCreate
  have n3 := PySem.F.typeCall_set_1 (.ref l)
  repeat (any_goals (first | assumption | wp_step))
  refine codeAny_mono (code_set_led1 (.ref l) (E := E) (Q₁ := fun obj s1 => obj = .ref s.heap.objs.size ∧ s1 = { s with heap := s.heap.push (set0 (!w.params.followText "set-order")) }) ⟨rfl, rfl⟩) fun r s1 hr => ?_
  generalize eled : (!w.params.followText "set-order") = led at hr
  cases r with
  | error e => exact hr
  | ok fl =>
    cases fl with
    | ret obj =>
      obtain ⟨rfl, rfl⟩ := hr
      have hS : (s.heap.push (set0 led)).get? s.heap.objs.size = some (set0 led) := Heap.get?_push_size _ rfl
      have hT : Shared.TypeIs { s with heap := s.heap.push (set0 led) } (.ref s.heap.objs.size) "set" := ⟨_, hS, rfl⟩
      have m1 := PySem.F.called_set.init.lookup
      have m2 := PySem.F.called_set.init.bind (.ref s.heap.objs.size)
      repeat (any_goals (first | assumption | wp_step))
      refine codeAny_mono (codeAny_call_builtin (R := wants (fun r s2 => r = .none ∧ ∃ h' tk, s2 = { s with heap := h', toks := tk } ∧ TxtEnd P w s xs h') E) PySem.F.called_set.init.plain PySem.F.entry_set_init (check_set_init_1 hT ?_)) fun r2 s2 hr2 => ?_
      · obtain ⟨ol, hol, hcl, nl, hdl⟩ := hl
        obtain ⟨ocls, odict, odata, oslots⟩ := ol
        simp only at hcl hdl
        subst hcl
        subst hdl
        have hol' : (s.heap.push (set0 led)).get? l = some { cls := .type "tuple", dict := odict, data := .seq items nl, slots := oslots } := Heap.get?_push_of_some _ hol
        have u1 := PySem.F.sub_tuple_set
        have u2 := PySem.F.sub_tuple_frozenset
        have u3 : (Value.type "tuple" == Value.type "dict") = false := by decide
        have hl1 : (s.heap.push (set0 led)).IsTuple l items := ⟨_, hol', rfl, nl, rfl⟩
        unfold Builtin.«set.__init__» noKeywords Builtin.Frozenset.updateFrom
        generalize eit : pyIter = it
        wp_walk
        subst eit
        refine wpAny_pyIter_tuple hl1 (wpAny_bind (wpAny_runValue ?_))
        have lS : l < s.heap.objs.size := Heap.lt_size hol
        have calm3 : A.in1.in1.in1.handled = none := by simp [calm]
        have ne : l ≠ (s.heap.push (set0 led)).objs.size := by rw [Heap.size_push]; exact Nat.ne_of_lt (Nat.lt_succ_of_lt lS)
        have apart : s.heap.objs.size ∉ [(s.heap.push (set0 led)).objs.size, l] := by
          rw [Heap.size_push]
          simp only [List.mem_cons, List.not_mem_nil, or_false, not_or]
          exact ⟨Nat.ne_of_lt (Nat.lt_succ_self _), Nat.ne_of_gt lS⟩
        have vals : ∀ (i : Nat) (v : Value), items[i]? = some v → ∃ t, v = .str (xs.getD i Str.empty) t := fun i v hv => SS.strs_at hi i v (by rw [Array.getElem?_toList]; exact hv)
        refine upd_txt ((Walks.tuple calm3 _ l ne items).toS) s.heap.objs.size apart xs sz (by omega) vals (items.size - 0) 0 _ (by omega) (Nat.zero_le _) ⟨⟨_, Heap.get?_push_size _ rfl, rfl, rfl⟩, ⟨_, Heap.get?_push_of_some _ hol', rfl, nl, rfl⟩⟩ ?_ ?_
        · rw [List.take_zero]
          exact txt_new (by rw [eled]; exact Heap.get?_push_of_some _ hS)
        · intro s' mv T
          obtain ⟨h', g', d', tk', os'⟩ := s'
          obtain rfl : g' = s.gens := mv.gens
          obtain rfl : d' = s.drawn := mv.drawn
          obtain rfl : os' = s.os := mv.os
          show wpAny _ _ _ _ _ _
          refine wpAny_pure ?_
          show wpAny _ _ (ret Value.none) _ _ _
          refine wpAny_pure ⟨rfl, h', tk', rfl, T, fun b o hb e => ?_⟩
          have b1 : b ≠ s.heap.objs.size := Nat.ne_of_lt hb
          have b2 : b ≠ (s.heap.push (set0 led)).objs.size := by rw [Heap.size_push]; exact Nat.ne_of_lt (Nat.lt_succ_of_lt hb)
          exact mv.heap b o (by simp only [List.mem_cons, List.not_mem_nil, or_false, not_or]; exact ⟨b1, b2⟩) (Heap.get?_push_of_some _ (Heap.get?_push_of_some _ e))
      · cases r2 with
        | error e => exact hr2
        | ok fl2 =>
          cases fl2 with
          | ret r =>
            obtain ⟨rfl, h', tk, rfl, T⟩ := hr2
            repeat (any_goals (first | assumption | wp_step))
            exact fin _ _ T
          | _ => exact hr2.elim
    | _ => exact hr.elim
end
section
variable {X : Cx}
def TxtO (P : Program) (w : World) (a : Addr) (xs : List Str) : HO := .ext fun h => TxtAt P w h a xs
theorem txtO_new {P : Program} {w : World} {H : Hp} {h : Heap} {a : Addr} {xs : List Str} (T : TxtAt P w h a xs) : ObjOk P w H h a (TxtO P w a xs) := by
  have ⟨o, _, _, _, ho, _⟩ := T
  exact ⟨T, ⟨o, ho⟩, fun h1 h2 p k => TxtAt.kept p k⟩
/-- set(t) -/
def tSetT (X : Cx) (K : PySem.W.Frag) (ta : TE) : TE := fun σ H Q => ta σ H fun x H1 => ∃ l, ∃ xs : List Str, x = .ref l ∧ SqT K H1 l (xs.map V.str) ∧ xs.length < 64 ∧ ∀ p, H1 p = none → Q (.ref p) (upd H1 p (TxtO X.prog X.w p xs))
theorem pe_setT {a : Expr} {ta : TE} {p2 q : Pos} (hc : X.calm = true) (hg2 : Gl X "set") (hm2 : X.mg "set" = none) (ha : PE X a ta)
    (na : starEach [a] X.env = (false, eval a X.env) :: starEach [] X.env := by rfl) : PE X (.Call (.Name "set" p2) [a] [] q) (tSetT X X.K ta) := by
  refine ⟨fun pins s σ H Q I h => ?_⟩
  refine Call_ (ld_blt I hg2 hm2 boot_set ?_)
  refine PyProof.Rows.callWith_type1 (PyProof.Rows.args_cons (thn (ha.run pins s σ H _ I h) fun v s1 ⟨x, H1, I1, r1, q1⟩ => PyProof.Rows.args_nil ?_) na) na rfl
  obtain ⟨l, xs, rfl, hq, h1, q1⟩ := q1
  cases r1
  obtain ⟨its, r, pl, hz⟩ := I1.tuple hq
  refine set_tupS (xs := xs) (I1.ok.hd hc) pl (by simpa using strsAre_of r) (by unfold scanBound; omega) fun h' tk ⟨T, keep⟩ => ?_
  exact ⟨.ref s1.heap.objs.size, _, I1.laid (t' := tk) (o := TxtO X.prog X.w s1.heap.objs.size xs) (fun b ob q => keep b ob (Heap.lt_size q) q) (Nat.le_refl _) (txtO_new T), rfl, q1 _ (I1.hok.fresh (Nat.le_refl _))⟩
def rEqTxt (X : Cx) : R2 := fun x y H Q => ∃ a b xs ys, x = .ref a ∧ y = .ref b ∧ H a = some (TxtO X.prog X.w a xs) ∧ H b = some (TxtO X.prog X.w b ys) ∧ ∀ r : Bool, (r = true ↔ ∀ x, x ∈ xs ↔ x ∈ ys) → Q (.bl r) H
theorem op_eqTxt (hu : X.A.units < cLine) : OpR X (compareOp .Eq) (rEqTxt X) := by
  intro pins s σ H x y v u Q I rx ry h
  obtain ⟨a, b, xs, ys, rfl, rfl, ha, hb, q⟩ := h
  cases rx
  cases ry
  exact eq_txt (I.hok a _ ha).1 (I.hok b _ hb).1 hu fun r hr => ⟨.bl r, H, I, rfl, q r hr⟩
/-- t < u, both of texts -/
def ltL : List Str → List Str → Bool
  | _, [] => false
  | [], _ :: _ => true
  | x :: xs, y :: ys => if x = y then ltL xs ys else decide (x.cps.toList < y.cps.toList)
theorem lex_ltL : ∀ (xs ys : List Str) (i : Nat) (e r : Nat → Bool), (∀ j, j < xs.length → j < ys.length → e (i + j) = decide (xs.getD j Str.empty = ys.getD j Str.empty)) → (∀ j, j < xs.length → j < ys.length → r (i + j) = decide ((xs.getD j Str.empty).cps.toList < (ys.getD j Str.empty).cps.toList)) →
    Ob.lexAt e r (decide (xs.length < ys.length)) i (min xs.length ys.length) = ltL xs ys
  | xs, [], i, e, r, _, _ => by
    cases xs <;> simp [ltL, Ob.lexAt]
  | [], y :: ys, i, e, r, _, _ => by simp [ltL, Ob.lexAt]
  | x :: xs, y :: ys, i, e, r, he, hr => by
    have ih := lex_ltL xs ys (i + 1) e r (fun j h1 h2 => by
      have := he (j + 1) (by rw [List.length_cons]; omega) (by rw [List.length_cons]; omega)
      rw [show i + 1 + j = i + (j + 1) by omega]; exact this) (fun j h1 h2 => by
      have := hr (j + 1) (by rw [List.length_cons]; omega) (by rw [List.length_cons]; omega)
      rw [show i + 1 + j = i + (j + 1) by omega]; exact this)
    have e0 := he 0 (Nat.zero_lt_succ _) (Nat.zero_lt_succ _)
    have r0 := hr 0 (Nat.zero_lt_succ _) (Nat.zero_lt_succ _)
    have e0 : e i = decide (x = y) := e0
    have r0 : r i = decide (x.cps.toList < y.cps.toList) := r0
    rw [List.length_cons, List.length_cons, show min (xs.length + 1) (ys.length + 1) = min xs.length ys.length + 1 by omega, Ob.lexAt_succ, show decide (xs.length + 1 < ys.length + 1) = decide (xs.length < ys.length) by by_cases h : xs.length < ys.length <;> simp [h], ih, e0, r0]
    by_cases q : x = y <;> simp [ltL, q]
def rLtTS (K : PySem.W.Frag) : R2 := fun x y H Q => ∃ (a b : Addr) (xs ys : List Str), x = .ref a ∧ y = .ref b ∧ SqT K H a (xs.map V.str) ∧ SqT K H b (ys.map V.str) ∧ Q (.bl (ltL xs ys)) H
theorem op_ltTS (hu : X.A.units < cLine) : OpR X (compareOp .Lt) (rLtTS X.K) := by
  intro pins s σ H x y v u Q I rx ry h
  obtain ⟨a, b, xs, ys, rfl, rfl, ha, hb, q⟩ := h
  cases rx
  cases ry
  obtain ⟨its, r1, p1, _⟩ := I.tuple ha
  obtain ⟨its2, r2, p2, _⟩ := I.tuple hb
  have i1 : StrsAre its.toArray.toList xs := by simpa using strsAre_of r1
  have i2 : StrsAre its2.toArray.toList ys := by simpa using strsAre_of r2
  have e1 : its.toArray.size = xs.length := by rw [← StrsAre.len_eq i1, Array.length_toList]
  have e2 : its2.toArray.size = ys.length := by rw [← StrsAre.len_eq i2, Array.length_toList]
  have at1 : ∀ j (h1 : j < its.toArray.size), ∃ t, its.toArray[j] = .str (xs.getD j Str.empty) t := fun j h1 => SS.strs_at i1 j _ (by rw [Array.getElem?_toList]; exact Array.getElem?_eq_getElem h1)
  have at2 : ∀ j (h1 : j < its2.toArray.size), ∃ t, its2.toArray[j] = .str (ys.getD j Str.empty) t := fun j h1 => SS.strs_at i2 j _ (by rw [Array.getElem?_toList]; exact Array.getElem?_eq_getElem h1)
  have R := Ob.RcOp.tuples_lt (A := X.A) (s := s) (e := fun j => decide (xs.getD j Str.empty = ys.getD j Str.empty)) (r := fun j => decide ((xs.getD j Str.empty).cps.toList < (ys.getD j Str.empty).cps.toList)) p1 p2 hu (fun j h1 h2 => by
    obtain ⟨t, et⟩ := at1 j h1
    obtain ⟨t', et'⟩ := at2 j h2
    rw [et, et']
    have z : (xs.getD j Str.empty == ys.getD j Str.empty) = decide (xs.getD j Str.empty = ys.getD j Str.empty) := by
      by_cases q : xs.getD j Str.empty = ys.getD j Str.empty
      · rw [decide_eq_true q]; exact beq_iff_eq.mpr q
      · rw [decide_eq_false q]; exact beq_eq_false_iff_ne.mpr q
    rw [← z]
    exact SeqAt.EqAt.str_str _ _ _ _) (fun j h1 h2 _ => by
    obtain ⟨t, et⟩ := at1 j h1
    obtain ⟨t', et'⟩ := at2 j h2
    rw [et, et']
    exact fun _ _ _ _ h => PyProof.Rows.lt_str h)
  rw [e1, e2, lex_ltL xs ys 0 _ _ (fun j _ _ => by rw [Nat.zero_add]) (fun j _ _ => by rw [Nat.zero_add])] at R
  have z : wpAny (model X.prog X.w) X.A (compareOp .Lt (.ref a) (.ref b)) (EP X pins σ Q) X.xe s := R X.prog X.w X.xe (EP X pins σ Q) ⟨.bl _, H, I, rfl, q⟩
  exact z
end
end Pb
/-! sorted(a tuple of texts) -/
namespace Pb
open PySem PySem.Spec PyProof.Rows L2
section
variable {P : Program} {w : World} {A : Around} {E : Value → Shared → Prop} {s : Shared} {a : Addr}
theorem sorted_tupS {xs : List Str} {its : List Value} {Q : Value → Shared → Prop} (ht : s.heap.IsTuple a its.toArray) (hi : StrsAre its xs) (few : xs.length < 64)
    (fin : ∀ s' p (out : Array Value) (c : Nat) (ys : List Str), (∀ b o, s.heap.get? b = some o → s'.heap.get? b = some o) → s'.gens = s.gens → s'.os = s.os → s.heap.get? p = none →
      s'.heap.get? p = some (seqObj "list" out c) → StrsAre out.toList ys → sortedS ys = true → ys.Perm xs → Q (.ref p) s') :
    wpAny (model P w) A (call (.builtin "sorted") [.ref a]) Q E s := by
  refine Calls.call_function_entry kind_sorted plain_sorted entry_sorted (args_sorted1 _) ?_
  obtain ⟨o, ho, hc, n, hd⟩ := ht
  have vl : its.length = xs.length := StrsAre.len_eq hi
  unfold Builtin.«sorted»
  refine wpAny_bind (m := checkCount "sorted" 1 1 _) (wpAny_pure (wpAny_bind (wpAny_collect_seq (A := A.in1) a (T := "tuple") (.inr rfl) ho hc hd fun h' keep => ?_)))
  show wpAny _ _ (newList its >>= _) _ _ _
  refine wpAny_bind (wpAny_newList ?_ (by rw [vl, sizeLine_eq]; omega))
  have oL : (h'.push (seqObj "list" its.toArray 0)).get? h'.objs.size = some (seqObj "list" its.toArray 0) := Heap.get?_push_size _ rfl
  refine wpAny_bind (wpAny_holding (wpAny_call_entry slot_list_sort ⟨_, oL, rfl⟩ entry_list_sort (list_sort_treeK strKind_oneLt oL hi.keysOf (fun v1 v2 rest e => keyKind_strs (by rw [← e]; exact hi)) (by omega) fun st' a1 a2 => ⟨_, rfl, ?_⟩) (args_list_sort _)))
  obtain ⟨ys, y1, y2, y3⟩ := sorted_out_str hi a1 a2
  obtain ⟨c, hc2⟩ := sortedHeap_at (vs := its) (out := (arrOf st').map (·.2)) oL
  have none : s.heap.get? h'.objs.size = none := by
    cases q : s.heap.get? h'.objs.size with
    | none => rfl
    | some u => exact absurd (Heap.lt_size (keep _ _ q)) (Nat.lt_irrefl _)
  refine wpAny_pure ⟨_, rfl, fin _ h'.objs.size _ c ys (fun b u e => ?_) rfl rfl none hc2 y1 y3 y2⟩
  have q := keep b u e
  have lt := Heap.lt_size q
  show (sortedHeap (h'.push (seqObj "list" its.toArray 0)) h'.objs.size its _).get? b = some u
  rw [sortedHeap_old (Nat.ne_of_lt lt) (by rw [size_push']; exact Nat.lt_succ_of_lt lt)]
  exact Heap.get?_push_of_some _ q
end
section
variable {X : Cx}
/-- sorted(t), t a tuple of texts -/
def rSortT (K : PySem.W.Frag) : List V → Hp → VK → Prop := fun vs H Q => ∃ (a : Addr) (xs : List Str), vs = [.ref a] ∧ SqT K H a (xs.map V.str) ∧ xs.length < 64 ∧ ∀ (ys : List Str) (p : Addr), sortedS ys = true → ys.Perm xs → H p = none → Q (.ref p) (upd H p (.lst (ys.map V.str)))
theorem cr_sortT : CallR X (.builtin "sorted") (rSortT X.K) := by
  intro pins s σ H vs us Q I r h
  obtain ⟨a, xs, rfl, hs, few, q⟩ := h
  obtain ⟨its, rv, ht, hz⟩ := I.tuple hs
  obtain ⟨u, rfl, e1⟩ := vals1 r
  cases (show u = Value.ref a from e1)
  refine sorted_tupS ht (by simpa using strsAre_of rv) few fun s' p out c ys k g o hp hg hi srt pm => ?_
  have few : (ys.map V.str).length ≤ sizeLine := by rw [List.length_map, pm.length_eq, sizeLine_eq]; omega
  have free : H p = none := I.hok.gone hp
  have J : Inv X pins σ (upd H p (.lst (ys.map V.str))) { s with heap := s'.heap, gens := s'.gens, drawn := s'.drawn, toks := s'.toks } :=
    I.call (ch := []) (Un.laidN k hp free) (I.hok.laidN k free ⟨few, out.toList, c, vals_of_strs hi, hg⟩) (by rw [g]; exact I.bare) (fun _ z => nomatch z)
  have e : s' = { s with heap := s'.heap, gens := s'.gens, drawn := s'.drawn, toks := s'.toks } := by
    cases s'
    cases s
    cases o
    rfl
  rw [e]
  exact ⟨.ref p, _, J, rfl, q ys p srt pm free⟩
end
end Pb
/-! set(texts) == set(texts), tuple < tuple, over data -/
namespace Dm
open PySem L2 Pb
theorem un_setT {X : Cx} {K : PySem.W.Frag} {a : Expr} {ta : TE} {p2 q : Pos} (e : X.K = K) (hc : X.calm = true) (hg2 : Gl X "set") (hm2 : X.mg "set" = none) (ha : PE X a ta)
    (na : starEach [a] X.env = (false, eval a X.env) :: starEach [] X.env := by rfl) : PE X (.Call (.Name "set" p2) [a] [] q) (tSetT X K ta) := by
  subst e
  exact pe_setT hc hg2 hm2 ha na
theorem un_eqSet {X : Cx} (hu : X.A.units + 64 < cLine) : OpR X (compareOp .Eq) (rEqTxt X) := op_eqTxt (by omega)
theorem un_ltT {X : Cx} {K : PySem.W.Frag} (hu : X.A.units + 64 < cLine) (e : X.K = K) : OpR X (compareOp .Lt) (rLtTS K) := e ▸ op_ltTS (by omega)
def EsA (ds : List PyData) (k : List Str → Prop) : Prop := ∃ xs : List Str, ds = xs.map PyData.str ∧ xs.length < 64 ∧ k xs
def EsK (xs : List Str) (es : List PyData) (R : Vx → Prop) (_ : Box R) : Prop := ∃ ys : List Str, es = ys.map PyData.str ∧ ys.length < 64 ∧ ∀ r : Bool, (r = true ↔ ∀ x, x ∈ xs ↔ x ∈ ys) → R (.d (.bool r))
def wEqSet (wa wb : WE) : WE := fun Γ R => wa Γ fun x => match x with
  | .d (.tuple ds) => EsA ds fun xs => wb Γ fun y => match y with
    | .d (.tuple es) => EsK xs es R ⟨⟩
    | _ => False
  | _ => False
theorem snd_eqSet {X : Cx} {K : PySem.W.Frag} {ta tb : TE} {wa wb : WE} (ha : SndE ta wa) (hb : SndE tb wb) : SndE (tOp (rEqTxt X) (tSetT X K ta) (tSetT X K tb)) (wEqSet wa wb) := ⟨fun z σ H Γ R Q r w k => ha.run z σ H Γ _ _ r w fun v x H2 e2 hx w2 => by
  split at w2
  · obtain ⟨xs, rfl, few, w2⟩ := w2
    cases hx with
    | tup d1 d2 d3 d4 =>
      obtain ⟨rfl, ok⟩ := dts_str d4
      refine ⟨_, xs, rfl, .inl (.inl d2), few, fun p free => ?_⟩
      have e3 : ExB z.p H2 (upd H2 p (TxtO X.prog X.w p xs)) := .new free
      refine hb.run z σ _ Γ _ _ ((r.up e2).up e3) w2 fun u y H4 e4 hy w4 => ?_
      split at w4
      · obtain ⟨ys, rfl, few2, w5⟩ := w4
        cases hy with
        | tup c1 c2 c3 c4 =>
          obtain ⟨rfl, ok2⟩ := dts_str c4
          refine ⟨_, ys, rfl, .inl (.inl c2), few2, fun p2 free2 => ?_⟩
          have pp : p ≠ z.p := ((r.al.up e2).ne free).1
          have h4 : H4 p = some (TxtO X.prog X.w p xs) := e4.keep p _ pp upd_same (by intro ps h; cases h)
          have ne : p ≠ p2 := ne_of_none h4 free2
          refine ⟨p, p2, xs, ys, rfl, rfl, by rw [upd_ne ne]; exact h4, upd_same, fun b hb => ?_⟩
          exact k _ _ _ (((e2.trans e3).trans e4).trans (.new free2)) (dB b) (w5 b hb)
      · exact w4.elim
  · exact w2.elim⟩
def LtK (ds es : List PyData) (R : Vx → Prop) (_ : Box R) : Prop := ∃ xs ys : List Str, ds = xs.map PyData.str ∧ es = ys.map PyData.str ∧ R (.d (.bool (ltL xs ys)))
def oLtT : O2
  | .d (.tuple ds), .d (.tuple es), R => LtK ds es R ⟨⟩
  | _, _, _ => False
theorem so_ltT {K : PySem.W.Frag} : SndOp (rLtTS K) oLtT := ⟨fun z H v w x y R Q n al hx hy o k => by
  unfold oLtT at o
  split at o
  · obtain ⟨xs, ys, rfl, rfl, o⟩ := o
    cases hx with
    | tup d1 d2 d3 d4 =>
      cases hy with
      | tup c1 c2 c3 c4 =>
        obtain ⟨rfl, ok⟩ := dts_str d4
        obtain ⟨rfl, ok2⟩ := dts_str c4
        exact ⟨_, _, xs, ys, rfl, rfl, .inl (.inl d2), .inl (.inl c2), k _ _ _ (.refl _ _) (dB _) o⟩
  · exact o.elim⟩
/-- sorted(t), t a tuple of texts -/
def StK (ds : List PyData) (R : Vx → Prop) (_ : Box R) : Prop := ∃ xs : List Str, ds = xs.map PyData.str ∧ xs.length < 64 ∧ ∀ ys : List Str, ys.Pairwise (fun a b => ¬ sLt b a) → ys.Perm xs → R (.d (.list (ys.map PyData.str)))
def oSortT : OA
  | [.d (.tuple ds)], R => StK ds R ⟨⟩
  | _, _ => False
theorem rise_le : ∀ {l : List Str} {p : Str}, PyProof.Rows.risingS p l = true → (p :: l).Pairwise fun a b => ¬ sLt b a
  | [], p, _ => List.pairwise_singleton _ _
  | x :: r, p, h => by
    have h1 := (Bool.and_eq_true _ _).mp h
    have up := rise_le h1.2
    have hx : ¬ sLt x p := fun q => by
      have := h1.1
      rw [cps_lt.mpr q] at this
      cases this
    refine List.pairwise_cons.mpr ⟨fun y hy z => ?_, up⟩
    rcases List.mem_cons.mp hy with e | e
    · rw [e] at z; exact hx z
    · have k := (List.pairwise_cons.mp up).1 y e
      rcases sLt_tri x y with q | q | q
      · exact hx (sLt_trans q z)
      · rw [q] at hx; exact hx z
      · exact k q
theorem srt_le {l : List Str} (h : PyProof.Rows.sortedS l = true) : l.Pairwise fun a b => ¬ sLt b a := by
  cases l with
  | nil => exact .nil
  | cons x r => exact rise_le h
theorem un_sortT {X : Cx} {K : PySem.W.Frag} (e : X.K = K) : CallR X (.builtin "sorted") (rSortT K) := e ▸ cr_sortT
theorem sc_sortT {K : PySem.W.Frag} : SndC (rSortT K) oSortT := ⟨fun z H vs xs R Q n al hs o k => by
  unfold oSortT at o
  split at o
  · obtain ⟨xs, rfl, few, o⟩ := o
    obtain ⟨v, rfl, hx⟩ := dv1 hs
    cases hx with
    | tup d1 d2 d3 d4 =>
      obtain ⟨rfl, ok⟩ := dts_str d4
      refine ⟨_, xs, rfl, .inl (.inl d2), few, fun ys p srt pm free => ?_⟩
      exact k _ _ _ (.new free) (dL (al.ne free) upd_same (by rw [List.length_map, n, pm.length_eq]; exact Nat.le_trans (Nat.le_of_lt few) (by decide)) (dts_of fun x hx => ok x (pm.mem_iff.mp hx))) (o ys (srt_le srt) pm)
  · exact o.elim⟩
end Dm
/-! the mathematics of orders -/
namespace Dm
open PySem L2 Pb
open PySem.W (AllAlike Sortable dataLe dataLt alike)
/-- data that stand in a strict order -/
structure SO {α : Type} (f : α → PyData) (lt : α → α → Prop) : Prop where
  eq : ∀ a b, dataLt (f a) (f b) = true ↔ lt a b
  irr : ∀ a, ¬ lt a a
  tr : ∀ {a b c}, lt a b → lt b c → lt a c
  tri : ∀ a b, lt a b ∨ a = b ∨ lt b a
section
variable {α : Type} {f : α → PyData} {lt : α → α → Prop}
theorem SO.le (h : SO f lt) (a b : α) : dataLe false f a b = true ↔ ¬ lt b a := by
  show (!dataLt (f b) (f a)) = true ↔ _
  rw [← h.eq b a]
  cases dataLt (f b) (f a) <;> simp
theorem SO.up (h : SO f lt) (l : List α) : (l.mergeSort (dataLe false f)).Pairwise fun a b => ¬ lt b a := by
  have k := List.pairwise_mergeSort (le := dataLe false f) (fun a b c p q => by
    rw [h.le] at p q ⊢
    intro z
    rcases h.tri a b with e | e | e
    · exact q (h.tr z e)
    · rw [e] at z; exact q z
    · exact p e) (fun a b => by
    rw [Bool.or_eq_true, h.le, h.le]
    rcases h.tri a b with e | e | e
    · exact .inl fun z => h.irr _ (h.tr e z)
    · rw [e]; exact .inl (h.irr _)
    · exact .inr fun z => h.irr _ (h.tr e z)) l
  exact k.imp fun {a b} p => (h.le a b).mp p
theorem SO.anti (h : SO f lt) {a b : α} (p : ¬ lt b a) (q : ¬ lt a b) : a = b := by
  rcases h.tri a b with e | e | e
  · exact (q e).elim
  · exact e
  · exact (p e).elim
theorem SO.uniq (h : SO f lt) {l l' : List α} (p : l.Perm l') (u : l.Pairwise fun a b => ¬ lt b a) (u' : l'.Pairwise fun a b => ¬ lt b a) : l = l' :=
  List.Perm.eq_of_pairwise (fun a b _ _ x y => h.anti x y) u u' p
theorem SO.sort (h : SO f lt) {l l' : List α} (p : l.Perm l') (u' : l'.Pairwise fun a b => ¬ lt b a) : l.mergeSort (dataLe false f) = l' :=
  h.uniq ((List.mergeSort_perm _ _).trans p) (h.up l) u'
theorem SO.perm (h : SO f lt) {l l' : List α} (p : l.Perm l') : l.mergeSort (dataLe false f) = l'.mergeSort (dataLe false f) := h.sort (p.trans (List.mergeSort_perm _ _).symm) (h.up l')
end
theorem so_str : SO PyData.str sLt where
  eq a b := by rw [PySem.W.dataLt_str]; exact decide_eq_true_iff
  irr := sLt_irrefl
  tr := sLt_trans
  tri := sLt_tri
theorem lex0 : PyProof.Rows.lexLt PyProof.Rows.itemOrd (PySem.W.keyToksAll []) (PySem.W.keyToksAll []) = false := PyProof.Rows.lex_irrefl _
abbrev ltP (t u : Si) : Prop := sLt t.1 u.1 ∨ (t.1 = u.1 ∧ t.2 < u.2)
abbrev ltN (t u : In) : Prop := t.1 < u.1 ∨ (t.1 = u.1 ∧ sLt t.2 u.2)
theorem ltP_eq (t u : Si) : dataLt (encP t) (encP u) = decide (ltP t u) := by
  unfold encP
  rw [PySem.W.dataLt_tuple, PySem.W.dataLt_cons (by simp [alike]), PySem.W.dataLt_cons (by simp [alike]), lex0, eqv_str, eqv_int, PySem.W.dataLt_str, PySem.W.dataLt_int]
  have s1 := sLt_irrefl t.1
  by_cases h1 : t.1 = u.1
  · rw [h1] at s1
    by_cases h3 : t.2 = u.2
    · simp [h1, h3, s1]
    · simp [h1, h3, s1]
  · simp [h1]
    rfl
theorem ltN_eq (t u : In) : dataLt (encN t) (encN u) = decide (ltN t u) := by
  unfold encN
  rw [PySem.W.dataLt_tuple, PySem.W.dataLt_cons (by simp [alike]), PySem.W.dataLt_cons (by simp [alike]), lex0, eqv_str, eqv_int, PySem.W.dataLt_str, PySem.W.dataLt_int]
  have s1 := sLt_irrefl t.2
  by_cases h1 : t.1 = u.1
  · by_cases h3 : t.2 = u.2
    · rw [h3] at s1
      simp [h1, h3, s1]
    · simp [h1, h3]
      rfl
  · simp [h1]
theorem so_P : SO encP ltP where
  eq a b := by rw [ltP_eq]; exact decide_eq_true_iff
  irr a := by
    rintro (h | ⟨_, h⟩)
    · exact sLt_irrefl _ h
    · omega
  tr := by
    rintro a b c (h | ⟨h, h'⟩) (k | ⟨k, k'⟩)
    · exact .inl (sLt_trans h k)
    · exact .inl (k ▸ h)
    · exact .inl (h ▸ k)
    · exact .inr ⟨h.trans k, by omega⟩
  tri := by
    rintro ⟨a, i⟩ ⟨b, j⟩
    rcases sLt_tri a b with h | h | h
    · exact .inl (.inl h)
    · subst h
      rcases (by omega : i < j ∨ i = j ∨ j < i) with k | k | k
      · exact .inl (.inr ⟨rfl, k⟩)
      · rw [k]; exact .inr (.inl rfl)
      · exact .inr (.inr (.inr ⟨rfl, k⟩))
    · exact .inr (.inr (.inl h))
theorem so_N : SO encN ltN where
  eq a b := by rw [ltN_eq]; exact decide_eq_true_iff
  irr a := by
    rintro (h | ⟨_, h⟩)
    · omega
    · exact sLt_irrefl _ h
  tr := by
    rintro a b c (h | ⟨h, h'⟩) (k | ⟨k, k'⟩)
    · exact .inl (by omega)
    · exact .inl (by omega)
    · exact .inl (by omega)
    · exact .inr ⟨h.trans k, sLt_trans h' k'⟩
  tri := by
    rintro ⟨i, a⟩ ⟨j, b⟩
    rcases (by omega : i < j ∨ i = j ∨ j < i) with h | h | h
    · exact .inl (.inl h)
    · subst h
      rcases sLt_tri a b with k | k | k
      · exact .inl (.inr ⟨rfl, k⟩)
      · rw [k]; exact .inr (.inl rfl)
      · exact .inr (.inr (.inr ⟨rfl, k⟩))
    · exact .inr (.inr (.inl h))
theorem srtP_of_perm {l l' : List Si} (p : l.Perm l') : srtP l = srtP l' := so_P.perm p
theorem srtP_iff {l l' : List Si} : srtP l = srtP l' ↔ l.Perm l' := ⟨fun h => ((srtP_perm l).symm.trans (by rw [h])).trans (srtP_perm l'), srtP_of_perm⟩
/-- names that differ rise -/
theorem srtP_rise {l : List Si} (nd : (l.map (·.1)).Nodup) : ((srtP l).map (·.1)).Pairwise sLt := by
  have u : (srtP l).Pairwise fun a b => ¬ ltP b a := so_P.up l
  have nd2 := srtP_nd nd
  rw [List.pairwise_map]
  have nd3 : (srtP l).Pairwise fun a b => a.1 ≠ b.1 := List.pairwise_map.mp nd2
  exact (u.and nd3).imp fun {a b} ⟨h, k⟩ => by
    rcases sLt_tri a.1 b.1 with e | e | e
    · exact e
    · exact (k e).elim
    · exact (h (.inl e)).elim
/-! ### perms -/
theorem nd_perm {a b : List Si} (na : a.Nodup) (nb : b.Nodup) (h : ∀ x, x ∈ a ↔ x ∈ b) : a.Perm b := (List.perm_ext_iff_of_nodup na nb).mpr h
theorem ndS_perm {a b : List Str} (na : a.Nodup) (nb : b.Nodup) (h : ∀ x, x ∈ a ↔ x ∈ b) : a.Perm b := (List.perm_ext_iff_of_nodup na nb).mpr h
/-! ### shares of an order -/
section
variable {b : Int} {fs gs : List Str}
abbrev ovr (b : Int) (fs : List Str) : Nat := (b % (fs.length : Int)).toNat
theorem at_shares {x : Str} {c : Int} : (x, c) ∈ sharesL b fs ↔ ∃ i, fs[i]? = some x ∧ c = shareZ b fs.length i := by
  constructor
  · intro h
    obtain ⟨i, hi⟩ := List.mem_iff_getElem?.mp h
    have lt : i < fs.length := by have := (List.getElem?_eq_some_iff.mp hi).1; rwa [sharesL_len] at this
    rw [sharesL_at (List.getElem?_eq_getElem lt)] at hi
    cases hi
    exact ⟨i, List.getElem?_eq_getElem lt, rfl⟩
  · rintro ⟨i, h, rfl⟩
    exact List.mem_of_getElem? (sharesL_at h)
theorem take_at {n : Nat} {x : Str} : x ∈ fs.take n ↔ ∃ i, i < n ∧ fs[i]? = some x := by
  rw [List.mem_iff_getElem?]
  constructor
  · rintro ⟨i, h⟩
    rw [List.getElem?_take] at h
    split at h
    · exact ⟨i, by assumption, h⟩
    · cases h
  · rintro ⟨i, h, k⟩
    exact ⟨i, by rw [List.getElem?_take, if_pos h]; exact k⟩
theorem at_uniq (nd : fs.Nodup) {i j : Nat} {x : Str} (h : fs[i]? = some x) (k : fs[j]? = some x) : i = j := by
  obtain ⟨h1, h2⟩ := List.getElem?_eq_some_iff.mp h
  obtain ⟨k1, k2⟩ := List.getElem?_eq_some_iff.mp k
  rcases Nat.lt_trichotomy i j with q | q | q
  · exact (List.pairwise_iff_getElem.mp nd i j h1 k1 q (h2.trans k2.symm)).elim
  · exact q
  · exact (List.pairwise_iff_getElem.mp nd j i k1 h1 q (k2.trans h2.symm)).elim
theorem mem_shares2 (hb : 0 ≤ b) (nd : fs.Nodup) {x : Str} {c : Int} : (x, c) ∈ sharesL b fs ↔ x ∈ fs ∧ c = b / fs.length + (if x ∈ fs.take (ovr b fs) then 1 else 0) := by
  have m0 : ∀ i : Nat, i < fs.length → 0 ≤ b % (fs.length : Int) := fun i h => Int.emod_nonneg _ (by omega)
  have ov : ovr b fs = (b % (fs.length : Int)).toNat := rfl
  rw [at_shares]
  constructor
  · rintro ⟨i, h, rfl⟩
    have lt := (List.getElem?_eq_some_iff.mp h).1
    refine ⟨List.mem_of_getElem? h, ?_⟩
    rw [share_eq hb lt]
    have := m0 i lt
    by_cases q : (i : Int) < b % fs.length
    · rw [if_pos q, if_pos (take_at.mpr ⟨i, by omega, h⟩)]
    · rw [if_neg q, if_neg fun z => ?_]
      obtain ⟨j, j1, j2⟩ := take_at.mp z
      have := at_uniq nd h j2
      omega
  · rintro ⟨h, rfl⟩
    obtain ⟨i, hi⟩ := mem_at h
    have lt := (List.getElem?_eq_some_iff.mp hi).1
    refine ⟨i, hi, ?_⟩
    rw [share_eq hb lt]
    have := m0 i lt
    by_cases q : (i : Int) < b % fs.length
    · rw [if_pos q, if_pos (take_at.mpr ⟨i, by omega, hi⟩)]
    · rw [if_neg q, if_neg fun z => ?_]
      obtain ⟨j, j1, j2⟩ := take_at.mp z
      have := at_uniq nd hi j2
      omega
theorem shares_nd (nd : fs.Nodup) : (sharesL b fs).Nodup := by
  have h : ((sharesL b fs).map (·.1)).Nodup := by rw [sharesL_names]; exact nd
  exact (List.pairwise_map.mp h).imp fun {a c} k z => k (by rw [z])
/-- paid of two orders is the same: the same folk have the cent more -/
theorem same_iff (hb : 0 ≤ b) (p : fs.Perm gs) (nd : fs.Nodup) : srtP (sharesL b fs) = srtP (sharesL b gs) ↔ ∀ x, x ∈ fs.take (ovr b fs) ↔ x ∈ gs.take (ovr b fs) := by
  have nd2 : gs.Nodup := p.nodup_iff.mp nd
  have l := p.length_eq
  have ov : ovr b gs = ovr b fs := by unfold ovr; rw [l]
  rw [srtP_iff]
  constructor
  · intro h x
    constructor
    · intro hx
      have hf := List.mem_of_mem_take hx
      have m1 := (mem_shares2 hb nd (x := x) (c := b / fs.length + 1)).mpr ⟨hf, by rw [if_pos hx]⟩
      have m2 := ((mem_shares2 hb nd2).mp (h.mem_iff.mp m1)).2
      rw [l, ov] at m2
      by_cases q : x ∈ gs.take (ovr b fs)
      · exact q
      · rw [if_neg q] at m2; omega
    · intro hx
      have hf := List.mem_of_mem_take hx
      have m1 := (mem_shares2 hb nd2 (x := x) (c := b / gs.length + 1)).mpr ⟨hf, by rw [ov, if_pos hx]⟩
      have m2 := ((mem_shares2 hb nd).mp (h.mem_iff.mpr m1)).2
      rw [l] at m2
      by_cases q : x ∈ fs.take (ovr b fs)
      · exact q
      · rw [if_neg q] at m2; omega
  · intro h
    refine nd_perm (shares_nd nd) (shares_nd nd2) fun ⟨x, c⟩ => ?_
    rw [mem_shares2 hb nd, mem_shares2 hb nd2, ov, l, p.mem_iff]
    by_cases q : x ∈ fs.take (ovr b fs)
    · rw [if_pos q, if_pos ((h x).mp q)]
    · rw [if_neg q, if_neg fun z => q ((h x).mpr z)]
end
/-! ### the first of the orders -/
theorem low : ∀ {A A' B B' : List Str}, A.Pairwise sLt → A'.Perm A → ltL B' B = false → ltL (A' ++ B') (A ++ B) = false
  | [], A', B, B', _, p, h => by rw [List.Perm.eq_nil p]; exact h
  | x :: A, A', B, B', up, p, h => by
    have up1 := List.pairwise_cons.mp up
    cases A' with
    | nil => exact absurd p.length_eq (by simp)
    | cons y A' =>
      rw [List.cons_append, List.cons_append, ltL]
      by_cases e : y = x
      · subst e
        rw [if_pos rfl]
        exact low up1.2 ((List.perm_cons _).mp p) h
      · rw [if_neg e]
        refine decide_eq_false fun z => ?_
        rcases List.mem_cons.mp (p.mem_iff.mp List.mem_cons_self) with q | q
        · exact e q
        · exact sLt_asymm z (up1.1 y q)
theorem shares_down {b : Int} {n : Nat} (hb : 0 ≤ b) : (sharesN b n).Pairwise fun a c => ¬ a < c := by
  unfold sharesN
  rw [List.pairwise_map]
  refine List.Pairwise.imp_of_mem ?_ List.pairwise_lt_range
  intro i j hi hj h
  have := share_anti (b := b) (n := n) hb (Nat.le_of_lt h) (List.mem_range.mp hj)
  omega
/-- the row of a known thing that fits -/
structure Row (b : Int) (nm : List Str) (kv : List Si) : Prop where
  b0 : 0 ≤ b
  nd : nm.Nodup
  len : kv.length = nm.length
  eq : (rowK kv).map (fun q => -q.1) = sharesN b kv.length
  pm : ((rowK kv).map (·.2)).Perm nm
  sh : sharesL b ((rowK kv).map (·.2)) = (rowK kv).map fun q => (q.2, -q.1)
theorem row_of {b : Int} {nm fs : List Str} (hb : 0 ≤ b) (nd : nm.Nodup) (p : fs.Perm nm) : Row b nm (srtP (sharesL b fs)) := by
  have len : (srtP (sharesL b fs)).length = fs.length := by rw [(srtP_perm _).length_eq, sharesL_len]
  have pm := rowK_perm (srtP (sharesL b fs))
  have eq : (rowK (srtP (sharesL b fs))).map (fun q => -q.1) = sharesN b (srtP (sharesL b fs)).length := by
    have p1 : ((rowK (srtP (sharesL b fs))).map (fun q => -q.1)).Perm (sharesN b fs.length) := by
      have e1 := pm.map fun q : In => -q.1
      rw [List.map_map] at e1
      refine e1.trans ?_
      have e2 := (srtP_perm (sharesL b fs)).map ((fun q : In => -q.1) ∘ fun q : Si => (-q.2, q.1))
      refine e2.trans ?_
      unfold sharesN
      rw [shares_map (G := shareZ b fs.length) fun i x _ => by show - -_ = _; rw [Int.neg_neg]]
    rw [len]
    refine List.Perm.eq_of_pairwise (le := fun a c : Int => ¬ a < c) (fun a c _ _ x y => by omega) ?_ (shares_down hb) p1
    rw [List.pairwise_map]
    have u : (rowK (srtP (sharesL b fs))).Pairwise fun a c => ¬ ltN c a := so_N.up _
    exact u.imp fun {a c} h z => h (.inl (by omega))
  have rl := row_len (srtP (sharesL b fs))
  refine ⟨hb, nd, by rw [len, p.length_eq], eq, ?_, ?_⟩
  · have e1 := pm.map fun q : In => q.2
    rw [List.map_map] at e1
    refine e1.trans ?_
    have e2 := (srtP_perm (sharesL b fs)).map ((fun q : In => q.2) ∘ fun q : Si => (-q.2, q.1))
    refine e2.trans ?_
    rw [show ((fun q : In => q.2) ∘ fun q : Si => (-q.2, q.1)) = (·.1) from rfl, sharesL_names]
    exact p
  · generalize rowK (srtP (sharesL b fs)) = row at eq rl ⊢
    generalize (srtP (sharesL b fs)).length = n at eq rl
    refine List.ext_getElem? fun i => ?_
    cases h : row[i]? with
    | none =>
      have := List.getElem?_eq_none_iff.mp h
      rw [List.getElem?_eq_none_iff.mpr (by rw [sharesL_len, List.length_map]; exact this), List.getElem?_eq_none_iff.mpr (by rw [List.length_map]; exact this)]
    | some q =>
      have lt := (List.getElem?_eq_some_iff.mp h).1
      have h2 : (row.map (·.2))[i]? = some q.2 := by rw [List.getElem?_map, h]; rfl
      rw [sharesL_at h2, List.length_map, List.getElem?_map, h]
      have h3 := congrArg (fun l => l[i]?) eq
      unfold sharesN at h3
      rw [List.getElem?_map, h, List.getElem?_map, List.getElem?_range (by omega)] at h3
      have h3 : -q.1 = shareZ b n i := Option.some.inj h3
      show some (q.2, shareZ b row.length i) = some (q.2, -q.1)
      rw [h3, rl]
section
variable {b : Int} {nm : List Str} {kv : List Si}
abbrev frst (kv : List Si) : List Str := (rowK kv).map (·.2)
theorem Row.paid (h : Row b nm kv) (up : (kv.map (·.1)).Pairwise sLt) : srtP (sharesL b (frst kv)) = kv := by
  rw [h.sh]
  refine so_P.sort ?_ ?_
  · have e := (rowK_perm kv).map fun q : In => (q.2, -q.1)
    refine e.trans ?_
    rw [List.map_map, show ((fun q : In => (q.2, -q.1)) ∘ fun q : Si => (-q.2, q.1)) = id by funext ⟨x, c⟩; show (x, - -c) = (x, c); rw [Int.neg_neg], List.map_id]
  · exact (List.pairwise_map.mp up).imp fun {a c} h z => by
      rcases z with z | ⟨z, _⟩
      · exact sLt_asymm h z
      · rw [z] at h; exact sLt_irrefl _ h
theorem Row.flen (h : Row b nm kv) : (frst kv).length = nm.length := h.pm.length_eq
/-- who has the cent more stands in the order of names, so do the others -/
theorem Row.cut (h : Row b nm kv) {i j : Nat} {x y : Str} (ij : i < j) (hi : (frst kv)[i]? = some x) (hj : (frst kv)[j]? = some y) (c : (j < ovr b nm) ∨ (ovr b nm ≤ i)) : sLt x y := by
  have u : (rowK kv).Pairwise fun a c => ¬ ltN c a := so_N.up _
  rw [List.getElem?_map] at hi hj
  obtain ⟨q, hq, rfl⟩ := Option.map_eq_some_iff.mp hi
  obtain ⟨r, hr, rfl⟩ := Option.map_eq_some_iff.mp hj
  obtain ⟨l1, e1⟩ := List.getElem?_eq_some_iff.mp hq
  obtain ⟨l2, e2⟩ := List.getElem?_eq_some_iff.mp hr
  have nlt := List.pairwise_iff_getElem.mp u i j l1 l2 ij
  rw [e1, e2] at nlt
  have rl := row_len kv
  have cents : ∀ (k : Nat) (p : In), (rowK kv)[k]? = some p → -p.1 = shareZ b nm.length k := fun k p hp => by
    have l := (List.getElem?_eq_some_iff.mp hp).1
    have h3 := congrArg (fun l => l[k]?) h.eq
    unfold sharesN at h3
    rw [List.getElem?_map, hp, List.getElem?_map, List.getElem?_range (by omega)] at h3
    have h3 : -p.1 = shareZ b kv.length k := Option.some.inj h3
    rw [h3, h.len]
  have c1 := cents i q hq
  have c2 := cents j r hr
  have nl := h.len
  have jl : j < nm.length := by omega
  have m0 : 0 ≤ b % (nm.length : Int) := Int.emod_nonneg _ (by omega)
  rw [share_eq h.b0 (by omega)] at c1
  rw [share_eq h.b0 jl] at c2
  have e : q.1 = r.1 := by
    unfold ovr at c
    rcases c with c | c
    · rw [if_pos (by omega)] at c1 c2; omega
    · rw [if_neg (by omega)] at c1 c2; omega
  have ne : q.2 ≠ r.2 := fun z => by
    have fd : (frst kv).Nodup := h.pm.nodup_iff.mpr h.nd
    have := at_uniq fd (i := i) (j := j) (x := q.2) (by rw [List.getElem?_map, hq]; rfl) (by rw [List.getElem?_map, hr, z]; rfl)
    omega
  rcases sLt_tri q.2 r.2 with z | z | z
  · exact z
  · exact (ne z).elim
  · exact (nlt (.inr ⟨e.symm, z⟩)).elim
theorem Row.least (h : Row b nm kv) {fs : List Str} (p : fs.Perm nm) (same : ∀ x, x ∈ fs.take (ovr b nm) ↔ x ∈ (frst kv).take (ovr b nm)) : ltL fs (frst kv) = false := by
  have nd := h.nd
  have fnd : fs.Nodup := p.nodup_iff.mpr nd
  have gnd : (frst kv).Nodup := h.pm.nodup_iff.mpr nd
  have p1 : (fs.take (ovr b nm)).Perm ((frst kv).take (ovr b nm)) := ndS_perm (fnd.sublist (List.take_sublist _ _)) (gnd.sublist (List.take_sublist _ _)) same
  have p2 : (fs.drop (ovr b nm)).Perm ((frst kv).drop (ovr b nm)) := by
    have e : fs.Perm (frst kv) := p.trans h.pm.symm
    rw [← List.take_append_drop (ovr b nm) fs, ← List.take_append_drop (ovr b nm) (frst kv)] at e
    exact (List.perm_append_left_iff _).mp ((p1.symm.append_right _).trans e)
  have u1 : ((frst kv).take (ovr b nm)).Pairwise sLt := by
    rw [List.pairwise_iff_getElem]
    intro i j hi hj ij
    rw [List.length_take] at hi hj
    rw [List.getElem_take, List.getElem_take]
    exact h.cut ij (List.getElem?_eq_getElem (by omega)) (List.getElem?_eq_getElem (by omega)) (.inl (by omega))
  have u2 : ((frst kv).drop (ovr b nm)).Pairwise sLt := by
    rw [List.pairwise_iff_getElem]
    intro i j hi hj ij
    rw [List.length_drop] at hi hj
    rw [List.getElem_drop, List.getElem_drop]
    exact h.cut (i := ovr b nm + i) (j := ovr b nm + j) (by omega) (List.getElem?_eq_getElem (by omega)) (List.getElem?_eq_getElem (by omega)) (.inr (by omega))
  rw [← List.take_append_drop (ovr b nm) fs, ← List.take_append_drop (ovr b nm) (frst kv)]
  refine low u1 p1 ?_
  have := low (B := []) (B' := []) u2 p2 rfl
  rwa [List.append_nil, List.append_nil] at this
end
/-- a cent more: no order -/
theorem row_sum {b : Int} {kv : List Si} (hb : 0 ≤ b) (l : 0 < kv.length) (h : (kv.map (·.2)).sum ≠ b) : (rowK kv).map (fun q => -q.1) ≠ sharesN b kv.length := fun z => h (by
  have e := (rowK_perm kv).map fun q : In => -q.1
  rw [List.map_map, show ((fun q : In => -q.1) ∘ fun q : Si => (-q.2, q.1)) = (·.2) by funext ⟨x, c⟩; show - -c = c; rw [Int.neg_neg]] at e
  rw [← perm_sum e, z]
  exact sum_shares hb l)
end Dm
/-! all orders, counted -/
namespace Dm
open PySem L2 Pb
open PySem.W (AllAlike Sortable dataLe dataLt alike)
def encO (l : List Str) : PyData := .tuple (l.map PyData.str)
/-! ### the order of rows -/
theorem ltL_irr : ∀ a : List Str, ltL a a = false
  | [] => rfl
  | x :: a => by rw [ltL, if_pos rfl]; exact ltL_irr a
theorem ltL_tri : ∀ a b : List Str, ltL a b = true ∨ a = b ∨ ltL b a = true
  | [], [] => .inr (.inl rfl)
  | [], _ :: _ => .inl rfl
  | _ :: _, [] => .inr (.inr rfl)
  | x :: a, y :: b => by
    by_cases e : x = y
    · subst e
      rw [ltL, ltL, if_pos rfl, if_pos rfl]
      rcases ltL_tri a b with h | h | h
      · exact .inl h
      · exact .inr (.inl (by rw [h]))
      · exact .inr (.inr h)
    · rw [ltL, ltL, if_neg e, if_neg (Ne.symm e)]
      rcases sLt_tri x y with h | h | h
      · exact .inl (decide_eq_true h)
      · exact (e h).elim
      · exact .inr (.inr (decide_eq_true h))
theorem ltL_tr : ∀ {a b c : List Str}, ltL a b = true → ltL b c = true → ltL a c = true
  | _, [], _, h, _ => by rw [ltL] at h; cases h
  | _, _ :: _, [], _, h => by rw [ltL] at h; cases h
  | [], _ :: _, _ :: _, _, _ => rfl
  | x :: a, y :: b, z :: c, h, k => by
    rw [ltL] at h k ⊢
    by_cases e : x = y
    · subst e
      rw [if_pos rfl] at h
      by_cases f : x = z
      · rw [if_pos f] at k ⊢; exact ltL_tr h k
      · rw [if_neg f] at k ⊢; exact k
    · rw [if_neg e] at h
      have h := of_decide_eq_true h
      by_cases f : y = z
      · subst f
        rw [if_neg e]; exact decide_eq_true h
      · rw [if_neg f] at k
        have k := of_decide_eq_true k
        have hk : sLt x z := sLt_trans h k
        rw [if_neg fun q => by rw [q] at hk; exact sLt_irrefl _ hk]
        exact decide_eq_true hk
theorem toks_lt : ∀ a b : List Str, PyProof.Rows.lexLt PyProof.Rows.itemOrd (PySem.W.keyToksAll (a.map PyData.str)) (PySem.W.keyToksAll (b.map PyData.str)) = ltL a b
  | [], [] => by rw [ltL]; exact lex0
  | [], y :: b => by rw [ltL]; simp [PySem.W.keyToksAll, PyProof.Rows.lexLt]; exact .inl (by decide)
  | x :: a, [] => by rw [ltL]; simp [PySem.W.keyToksAll, PyProof.Rows.lexLt]; exact ⟨by decide, fun h => absurd h (by decide)⟩
  | x :: a, y :: b => by
    rw [List.map_cons, List.map_cons, PySem.W.dataLt_cons (by simp [alike]), toks_lt a b, eqv_str, PySem.W.dataLt_str, ltL]
    by_cases e : x = y
    · simp [e]
    · simp [e]
theorem ltO_eq (a b : List Str) : dataLt (encO a) (encO b) = ltL a b := by
  unfold encO
  rw [PySem.W.dataLt_tuple]
  exact toks_lt a b
theorem so_O : SO encO (fun a b => ltL a b = true) where
  eq a b := by rw [ltO_eq]
  irr a := by rw [ltL_irr]; exact fun h => nomatch h
  tr := ltL_tr
  tri := ltL_tri
/-- the least stands first -/
theorem sort_head {l : List (List Str)} {x : List Str} (hx : x ∈ l) (low : ∀ y ∈ l, ltL y x = false) : ∃ t, l.mergeSort (dataLe false encO) = x :: t := by
  have u := so_O.up l
  have p := List.mergeSort_perm l (dataLe false encO)
  cases h : l.mergeSort (dataLe false encO) with
  | nil => rw [h] at p; exact absurd (p.mem_iff.mpr hx) (by simp)
  | cons y t =>
    rw [h] at u p
    have hy : y ∈ l := p.mem_iff.mp List.mem_cons_self
    rcases List.mem_cons.mp (p.mem_iff.mpr hx) with e | e
    · exact ⟨t, by rw [e]⟩
    · have h1 := (List.pairwise_cons.mp u).1 x e
      have h2 := low y hy
      rcases ltL_tri x y with q | q | q
      · exact (h1 q).elim
      · exact ⟨t, by rw [q]⟩
      · rw [h2] at q; cases q
/-! ### all orders -/
def ext (nm : List Str) (o : List Str) : List (List Str) := (nm.filter fun x => !decide (x ∈ o)).map fun x => o ++ [x]
def ords (nm : List Str) : Nat → List (List Str)
  | 0 => [[]]
  | k + 1 => (ords nm k).flatMap (ext nm)
theorem ext_len (nm o : List Str) : (ext nm o).length ≤ nm.length := by unfold ext; rw [List.length_map]; exact List.length_filter_le _ _
theorem flat_le {α β : Type} {f : α → List β} {n : Nat} (h : ∀ a, (f a).length ≤ n) : ∀ l : List α, (l.flatMap f).length ≤ l.length * n
  | [] => by simp
  | a :: l => by
    rw [List.flatMap_cons, List.length_append, List.length_cons, Nat.add_mul, Nat.one_mul]
    have := flat_le h l
    have := h a
    omega
theorem ords_le {nm : List Str} (h : nm.length ≤ 6) : ∀ k, k ≤ 6 → (ords nm k).length ≤ 6 ^ k
  | 0, _ => Nat.le_refl _
  | k + 1, hk => by
    have h1 : (ords nm (k + 1)).length ≤ (ords nm k).length * nm.length := flat_le (ext_len nm) _
    have h2 := ords_le h k (by omega)
    have h3 : (ords nm k).length * nm.length ≤ 6 ^ k * 6 := Nat.mul_le_mul h2 h
    rw [Nat.pow_succ]
    omega
theorem mem_ords {nm : List Str} : ∀ {k : Nat} {o : List Str}, o ∈ ords nm k → o.length = k ∧ o.Nodup ∧ ∀ x ∈ o, x ∈ nm
  | 0, o, h => by
    rw [show o = [] by simpa [ords] using h]
    exact ⟨rfl, .nil, fun _ z => by cases z⟩
  | k + 1, o, h => by
    obtain ⟨p, hp, ho⟩ := List.mem_flatMap.mp h
    obtain ⟨x, hx, rfl⟩ := List.mem_map.mp ho
    obtain ⟨x1, x2⟩ := List.mem_filter.mp hx
    have x2 : x ∉ p := by simpa using x2
    obtain ⟨h1, h2, h3⟩ := mem_ords hp
    refine ⟨by rw [List.length_append, h1]; rfl, nd_snoc h2 x2, fun y hy => ?_⟩
    rcases List.mem_append.mp hy with e | e
    · exact h3 y e
    · rw [List.mem_singleton.mp e]; exact x1
theorem ords_mem {nm : List Str} : ∀ {k : Nat} {o : List Str}, o.length = k → o.Nodup → (∀ x ∈ o, x ∈ nm) → o ∈ ords nm k
  | 0, o, h, _, _ => by rw [List.length_eq_zero_iff.mp h]; exact List.mem_singleton.mpr rfl
  | k + 1, o, h, nd, sub => by
    have ne : o ≠ [] := fun e => by rw [e] at h; cases h
    obtain ⟨p, x, rfl⟩ : ∃ p x, o = p ++ [x] := ⟨o.dropLast, o.getLast ne, (List.dropLast_concat_getLast ne).symm⟩
    have nd2 := List.nodup_append.mp nd
    refine List.mem_flatMap.mpr ⟨p, ords_mem (by rw [List.length_append] at h; simpa using h) nd2.1 fun y hy => sub y (List.mem_append_left _ hy), ?_⟩
    refine List.mem_map.mpr ⟨x, List.mem_filter.mpr ⟨sub x (List.mem_append_right _ List.mem_cons_self), ?_⟩, rfl⟩
    have : x ∉ p := fun z => nd2.2.2 x z x List.mem_cons_self rfl
    simpa using this
/-! ### those that fit, counted -/
section
variable {nm : List Str} {T : Str → Int} {sh : List Int}
def fitB (T : Str → Int) (sh : List Int) (o : List Str) : Bool := decide (o.map T = sh.take o.length)
theorem fit_snoc {o : List Str} {x : Str} (lt : o.length < sh.length) : fitB T sh (o ++ [x]) = (fitB T sh o && decide (T x = sh.getD o.length 0)) := by
  unfold fitB
  rw [← Bool.decide_and]
  refine decide_eq_decide.mpr ?_
  rw [List.map_append, List.length_append, List.length_singleton, List.take_succ, List.getElem?_eq_getElem lt, List.getD_eq_getElem?_getD, List.getElem?_eq_getElem lt]
  show o.map T ++ [T x] = sh.take o.length ++ [sh[o.length]] ↔ _ ∧ T x = sh[o.length]
  constructor
  · intro h
    have l : (o.map T).length = (sh.take o.length).length := by rw [List.length_map, List.length_take]; omega
    obtain ⟨h1, h2⟩ := List.append_inj h l
    exact ⟨h1, List.singleton_inj.mp h2⟩
  · rintro ⟨h1, h2⟩
    rw [h1, h2]
def goodL (nm : List Str) (T : Str → Int) (sh : List Int) (k : Nat) : List (List Str) := (ords nm k).filter (fitB T sh)
def cnt (nm : List Str) (T : Str → Int) (o : List Str) (c : Int) : Nat := (nm.filter fun x => !decide (x ∈ o) && decide (T x = c)).length
theorem ext_good {o : List Str} (lt : o.length < sh.length) : ((ext nm o).filter (fitB T sh)).length = if fitB T sh o = true then cnt nm T o (sh.getD o.length 0) else 0 := by
  unfold ext cnt
  rw [List.filter_map, List.length_map, List.filter_filter]
  by_cases h : fitB T sh o = true
  · rw [if_pos h]
    congr 1
    refine List.filter_congr fun x _ => ?_
    show (fitB T sh (o ++ [x]) && !decide (x ∈ o)) = _
    rw [fit_snoc lt, h, Bool.true_and, Bool.and_comm]
  · rw [if_neg h, List.length_eq_zero_iff, List.filter_eq_nil_iff]
    intro x _
    show ¬ (fitB T sh (o ++ [x]) && !decide (x ∈ o)) = true
    rw [fit_snoc lt, Bool.eq_false_iff.mpr h]
    simp
theorem sum_step {α : Type} {p : α → Bool} {f : α → Nat} {c : Nat} : ∀ l : List α, (∀ a ∈ l, f a = if p a = true then c else 0) → (l.map f).sum = (l.filter p).length * c
  | [], _ => by simp
  | a :: l, g => by
    have ih := sum_step l fun b hb => g b (List.mem_cons_of_mem _ hb)
    have ga := g a List.mem_cons_self
    rw [List.map_cons, List.sum_cons, ih, ga]
    cases q : p a with
    | true => rw [List.filter_cons_of_pos q, List.length_cons, if_pos rfl, Nat.add_mul, Nat.one_mul]; omega
    | false => rw [List.filter_cons_of_neg (by rw [q]; decide), if_neg (by decide)]; omega
theorem good_step {k : Nat} (lt : k < sh.length) {c : Nat} (h : ∀ o ∈ ords nm k, fitB T sh o = true → cnt nm T o (sh.getD k 0) = c) : (goodL nm T sh (k + 1)).length = (goodL nm T sh k).length * c := by
  unfold goodL
  rw [ords, List.filter_flatMap, List.length_flatMap]
  refine sum_step _ fun o ho => ?_
  have ol := (mem_ords ho).1
  rw [ext_good (by omega), ol]
  by_cases q : fitB T sh o = true
  · rw [if_pos q, if_pos q]; exact h o ho q
  · rw [if_neg q, if_neg q]
theorem cnt_eq {o : List Str} {c : Int} (nd : nm.Nodup) (no : o.Nodup) (sub : ∀ x ∈ o, x ∈ nm) : cnt nm T o c + (o.map T).count c = (nm.map T).count c := by
  have c1 : ∀ l : List Str, (l.map T).count c = (l.filter fun x => decide (T x = c)).length := fun l => by
    rw [List.count_eq_countP, List.countP_map, List.countP_eq_length_filter]
    congr 1
  rw [c1, c1]
  unfold cnt
  have p : (o.filter fun x => decide (T x = c)).Perm (nm.filter fun x => decide (x ∈ o) && decide (T x = c)) := by
    refine ndS_perm (no.sublist List.filter_sublist) (nd.sublist List.filter_sublist) fun x => ?_
    rw [List.mem_filter, List.mem_filter]
    constructor
    · rintro ⟨h1, h2⟩
      exact ⟨sub x h1, by rw [decide_eq_true h1, h2]; rfl⟩
    · rintro ⟨h1, h2⟩
      rw [Bool.and_eq_true] at h2
      exact ⟨of_decide_eq_true h2.1, h2.2⟩
  rw [p.length_eq]
  clear p sub no nd
  induction nm with
  | nil => rfl
  | cons x l ih =>
    by_cases h1 : x ∈ o <;> by_cases h2 : T x = c <;> simp only [List.filter_cons, h1, h2, decide_true, decide_false, Bool.not_true, Bool.not_false, Bool.true_and, Bool.false_and, if_true, List.length_cons, Bool.false_eq_true, if_false] <;> omega
/-- in how many orders shares are met -/
theorem good_count {over m : Nat} {q : Int} (om : over ≤ m) (nd : nm.Nodup) (hs : sh = List.replicate over (q + 1) ++ List.replicate (m - over) q) (pm : (nm.map T).Perm sh) : (goodL nm T sh m).length = fact over * fact (m - over) := by
  have sl : sh.length = m := by rw [hs, List.length_append, List.length_replicate, List.length_replicate]; omega
  have step : ∀ k, k < m → (goodL nm T sh (k + 1)).length = (goodL nm T sh k).length * (if k < over then over - k else m - k) := fun k hk => good_step (by omega) fun o ho hf => by
    obtain ⟨o1, o2, o3⟩ := mem_ords ho
    have e := cnt_eq (T := T) (c := sh.getD k 0) nd o2 o3
    have e2 : o.map T = sh.take k := by have := of_decide_eq_true hf; rwa [o1] at this
    rw [e2, pm.count_eq] at e
    have e3 : sh.count (sh.getD k 0) = (sh.take k).count (sh.getD k 0) + (sh.drop k).count (sh.getD k 0) := by rw [← List.count_append, List.take_append_drop]
    have g : sh.getD k 0 = if k < over then q + 1 else q := by
      rw [hs, List.getD_eq_getElem?_getD]
      by_cases h : k < over
      · rw [if_pos h, List.getElem?_append_left (by rw [List.length_replicate]; exact h), List.getElem?_replicate_of_lt h]; rfl
      · rw [if_neg h, List.getElem?_append_right (by rw [List.length_replicate]; omega), List.length_replicate, List.getElem?_replicate_of_lt (by omega)]; rfl
    have e4 : (sh.drop k).count (sh.getD k 0) = if k < over then over - k else m - k := by
      rw [g, hs, List.drop_append, List.length_replicate, List.drop_replicate, List.drop_replicate, List.count_append, List.count_replicate, List.count_replicate]
      by_cases h : k < over
      · have z : ¬ q = q + 1 := by omega
        simp only [h, if_true, beq_self_eq_true, beq_iff_eq, z, if_false]; omega
      · have z : ¬ q + 1 = q := by omega
        simp only [h, if_false, beq_self_eq_true, beq_iff_eq, z, if_true]; omega
    omega
  have a : ∀ k, k ≤ over → (goodL nm T sh k).length * fact (over - k) = fact over := by
    intro k
    induction k with
    | zero => intro _; rw [Nat.sub_zero]; show ([[]] : List (List Str)).length * _ = _; rw [List.length_singleton, Nat.one_mul]
    | succ k ih =>
      intro h
      have ih := ih (by omega)
      rw [step k (by omega), if_pos (by omega), Nat.mul_assoc]
      rw [show over - k = (over - (k + 1)) + 1 by omega, fact, Nat.mul_comm (fact _)] at ih
      rw [show over - k = over - (k + 1) + 1 by omega]
      exact ih
  have b : ∀ k, over ≤ k → k ≤ m → (goodL nm T sh k).length * fact (m - k) = fact over * fact (m - over) := by
    intro k
    induction k with
    | zero => intro h _; have := a 0 (by omega); rw [show over = 0 by omega] at this ⊢; rw [Nat.sub_zero] at this ⊢; rw [show (goodL nm T sh 0).length = fact 0 by rw [← this]; show _ = _ * 1; rw [Nat.mul_one]]
    | succ k ih =>
      intro h1 h2
      by_cases h : over ≤ k
      · have ih := ih h (by omega)
        rw [step k (by omega), if_neg (by omega), Nat.mul_assoc, ← ih]
        rw [show m - k = (m - (k + 1)) + 1 by omega, fact, Nat.mul_comm (fact _)]
      · have := a (k + 1) (by omega)
        rw [show over = k + 1 by omega] at this ⊢
        rw [Nat.sub_self] at this
        rw [← this]
        show _ = _ * 1 * _
        rw [Nat.mul_one]
  have := b m om (Nat.le_refl _)
  rw [Nat.sub_self] at this
  rw [← this]
  show _ = _ * 1
  rw [Nat.mul_one]
end
/-! ### what orders tells is what all orders tell -/
theorem shares_rep {b : Int} {m : Nat} (hb : 0 ≤ b) (hm : 0 < m) : sharesN b m = List.replicate (b % m).toNat (b / m + 1) ++ List.replicate (m - (b % m).toNat) (b / m) := by
  have m0 : 0 ≤ b % (m : Int) := Int.emod_nonneg _ (by omega)
  have m1 : b % (m : Int) < m := Int.emod_lt_of_pos _ (by omega)
  unfold sharesN
  refine List.ext_getElem? fun i => ?_
  rw [List.getElem?_map, List.getElem?_append, List.length_replicate, List.getElem?_replicate, List.getElem?_replicate]
  by_cases h : i < m
  · rw [List.getElem?_range h, Option.map_some, share_eq hb h]
    by_cases q : i < (b % (m : Int)).toNat
    · rw [if_pos q, if_pos q, if_pos (by omega)]
    · have z1 : ¬ (i : Int) < b % (m : Int) := by omega
      have z2 : i - (b % (m : Int)).toNat < m - (b % (m : Int)).toNat := by omega
      rw [if_neg q, if_neg z1, if_pos z2, Int.add_zero]
  · rw [List.getElem?_eq_none_iff.mpr (by rw [List.length_range]; omega), if_neg (by omega), if_neg (by omega)]; rfl
theorem sharesN_len (b : Int) (m : Nat) : (sharesN b m).length = m := by unfold sharesN; rw [List.length_map, List.length_range]
section
variable {b : Int} {nm : List Str} {T : Str → Int}
abbrev tblK (nm : List Str) (T : Str → Int) : List Si := nm.map fun x => (x, T x)
theorem row_T (q : In) (h : q ∈ rowK (tblK nm T)) : q.1 = -T q.2 := by
  have h := (rowK_perm _).mem_iff.mp h
  rw [List.map_map] at h
  obtain ⟨x, _, rfl⟩ := List.mem_map.mp h
  rfl
theorem row_cents : (rowK (tblK nm T)).map (fun q => -q.1) = (frst (tblK nm T)).map T := by
  rw [List.map_map]
  refine List.map_congr_left fun q hq => ?_
  show -q.1 = T q.2
  rw [row_T q hq, Int.neg_neg]
theorem row_names : (frst (tblK nm T)).Perm nm := by
  have e := (rowK_perm (tblK nm T)).map fun q : In => q.2
  rw [List.map_map, List.map_map] at e
  refine e.trans ?_
  rw [show (((fun q : In => q.2) ∘ fun q : Si => (-q.2, q.1)) ∘ fun x : Str => (x, T x)) = id from rfl, List.map_id]
theorem tbl_len : (tblK nm T).length = nm.length := List.length_map _
theorem fit_take (hb : 0 ≤ b) (nd : nm.Nodup) (hm : 0 < nm.length) {y : List Str} (p : y.Perm nm) (h : y.map T = sharesN b nm.length) (x : Str) : x ∈ y.take (ovr b nm) ↔ x ∈ nm ∧ T x = b / nm.length + 1 := by
  have yl := p.length_eq
  have m0 : 0 ≤ b % (nm.length : Int) := Int.emod_nonneg _ (by omega)
  have m1 : b % (nm.length : Int) < nm.length := Int.emod_lt_of_pos _ (by omega)
  have ov : ovr b nm = (b % (nm.length : Int)).toNat := rfl
  have val : ∀ (i : Nat) (z : Str), y[i]? = some z → T z = b / nm.length + if (i : Int) < b % nm.length then 1 else 0 := fun i z hz => by
    have l := (List.getElem?_eq_some_iff.mp hz).1
    have e := congrArg (fun l => l[i]?) h
    unfold sharesN at e
    rw [List.getElem?_map, hz, List.getElem?_map, List.getElem?_range (by omega)] at e
    rw [← share_eq hb (by omega)]
    exact Option.some.inj e
  rw [take_at, ← p.mem_iff]
  constructor
  · rintro ⟨i, h1, h2⟩
    have := val i x h2
    rw [if_pos (by omega)] at this
    exact ⟨List.mem_of_getElem? h2, this⟩
  · rintro ⟨h1, h2⟩
    obtain ⟨i, hi⟩ := mem_at h1
    have := val i x hi
    refine ⟨i, ?_, hi⟩
    by_cases q : (i : Int) < b % nm.length
    · omega
    · rw [if_neg q] at this; omega
theorem row_mk (hb : 0 ≤ b) (nd : nm.Nodup) (h : (rowK (tblK nm T)).map (fun q => -q.1) = sharesN b (tblK nm T).length) : Row b nm (tblK nm T) := by
  refine ⟨hb, nd, tbl_len, h, row_names, ?_⟩
  have rl := row_len (tblK nm T)
  generalize rowK (tblK nm T) = row at h rl ⊢
  generalize (tblK nm T).length = n at h rl
  refine List.ext_getElem? fun i => ?_
  cases hq : row[i]? with
  | none =>
    have := List.getElem?_eq_none_iff.mp hq
    rw [List.getElem?_eq_none_iff.mpr (by rw [sharesL_len, List.length_map]; exact this), List.getElem?_eq_none_iff.mpr (by rw [List.length_map]; exact this)]
  | some q =>
    have lt := (List.getElem?_eq_some_iff.mp hq).1
    have h2 : (row.map (·.2))[i]? = some q.2 := by rw [List.getElem?_map, hq]; rfl
    rw [sharesL_at h2, List.length_map, List.getElem?_map, hq]
    have h3 := congrArg (fun l => l[i]?) h
    unfold sharesN at h3
    rw [List.getElem?_map, hq, List.getElem?_map, List.getElem?_range (by omega)] at h3
    have h3 : -q.1 = shareZ b n i := Option.some.inj h3
    show some (q.2, shareZ b row.length i) = some (q.2, -q.1)
    rw [h3, rl]
def topD : List (List Str) → PyData
  | [] => .none
  | x :: _ => encO x
theorem mem_good (nd : nm.Nodup) {y : List Str} : y ∈ goodL nm T (sharesN b nm.length) nm.length ↔ y.Perm nm ∧ y.map T = sharesN b nm.length := by
  unfold goodL
  rw [List.mem_filter]
  constructor
  · rintro ⟨h1, h2⟩
    obtain ⟨a1, a2, a3⟩ := mem_ords h1
    have e := of_decide_eq_true h2
    rw [a1, List.take_of_length_le (by rw [sharesN_len]; exact Nat.le_refl _)] at e
    refine ⟨ndS_perm a2 nd fun x => ⟨a3 x, fun hx => ?_⟩, e⟩
    apply Classical.byContradiction
    intro hn
    have := nodup_le (a := x :: y) (b := nm) (List.nodup_cons.mpr ⟨hn, a2⟩) fun z hz => by
      rcases List.mem_cons.mp hz with e | e
      · rw [e]; exact hx
      · exact a3 z e
    rw [List.length_cons] at this
    omega
  · rintro ⟨h1, h2⟩
    refine ⟨ords_mem h1.length_eq (h1.nodup_iff.mpr nd) fun x hx => h1.mem_iff.mp hx, ?_⟩
    unfold fitB
    rw [h1.length_eq, List.take_of_length_le (by rw [sharesN_len]; exact Nat.le_refl _)]
    exact decide_eq_true h2
theorem ord_all (hb : 0 ≤ b) (nd : nm.Nodup) (hm : 0 < nm.length) : ordD b (tblK nm T) = .tuple [.int ((goodL nm T (sharesN b nm.length) nm.length).length : Nat), topD ((goodL nm T (sharesN b nm.length) nm.length).mergeSort (dataLe false encO))] := by
  have m0 : 0 ≤ b % (nm.length : Int) := Int.emod_nonneg _ (by omega)
  have m1 : b % (nm.length : Int) < nm.length := Int.emod_lt_of_pos _ (by omega)
  unfold ordD
  by_cases h : (rowK (tblK nm T)).map (fun q => -q.1) = sharesN b (tblK nm T).length
  · rw [if_pos h]
    have row := row_mk hb nd h
    rw [row_cents, tbl_len] at h
    have fin : frst (tblK nm T) ∈ goodL nm T (sharesN b nm.length) nm.length := (mem_good nd).mpr ⟨row_names, h⟩
    obtain ⟨t, ht⟩ := sort_head fin fun y hy => by
      obtain ⟨y1, y2⟩ := (mem_good nd).mp hy
      exact row.least y1 fun x => (fit_take hb nd hm y1 y2 x).trans (fit_take hb nd hm row_names h x).symm
    rw [ht, tbl_len, good_count (over := (b % (nm.length : Int)).toNat) (q := b / nm.length) (by omega) nd (shares_rep hb hm) (by rw [← h]; exact (row_names.map T).symm), Int.natCast_mul]
    show _ = PyData.tuple [_, .tuple ((frst (tblK nm T)).map PyData.str)]
    rw [List.map_map]; rfl
  · rw [if_neg h]
    have e : goodL nm T (sharesN b nm.length) nm.length = [] := by
      refine List.eq_nil_iff_forall_not_mem.mpr fun y hy => h ?_
      obtain ⟨y1, y2⟩ := (mem_good nd).mp hy
      rw [tbl_len]
      refine List.Perm.eq_of_pairwise (le := fun a c : Int => ¬ a < c) (fun a c _ _ x y => by omega) ?_ (shares_down hb) ?_
      · rw [List.pairwise_map]
        have u : (rowK (tblK nm T)).Pairwise fun a c => ¬ ltN c a := so_N.up _
        exact u.imp fun {a c} h z => h (.inl (by omega))
      · rw [row_cents, ← y2]
        exact (row_names.trans y1.symm).map T
    rw [e, List.mergeSort_nil]
    rfl
end
end Dm
/-! who is refused, as the laws ask it -/
namespace Dm
open PySem L2 Pb
theorem nq_rf (a : Addr) : nq (.rf a) = True := rfl
theorem unF_rf (R : Vx → Prop) (x : Addr) : unF R (.rf x) = R (.rf x) := rfl
abbrev wRef (f : Addr) : WE := wK (.rf f)
theorem snd_ref (f : Addr) : SndE (tC (.ref f)) (wK (.rf f)) := ⟨fun z σ H Γ R Q r w k => k _ (.rf f) H (.refl _ H) (show Dv z H (.ref f) (.rf f) from rfl) w⟩
/-- a list so many times -/
def oRep : O2
  | .d (.list ds), .d (.int k), R => (k ≤ 1000 ∧ 0 ≤ k ∧ ds.length * k.toNat ≤ 1000) ∧ R (.d (.list (List.replicate k.toNat ds).flatten))
  | _, _, _ => False
theorem dt_rep {z : Fz} {H : Hp} {vs : List V} {ds : List PyData} (h : DtAll z H vs ds) : ∀ n : Nat, DtAll z H (List.replicate n vs).flatten (List.replicate n ds).flatten
  | 0 => .nil
  | n + 1 => by
    rw [List.replicate_succ, List.replicate_succ, List.flatten_cons, List.flatten_cons]
    exact h.append (dt_rep h n)
theorem so_rep : SndOp rRep oRep := ⟨fun z H v w x y R Q n al hx hy o k => by
  unfold oRep at o
  split at o
  · obtain ⟨⟨o1, o2, o3⟩, o4⟩ := o
    cases hy
    cases hx with
    | lst d1 d2 d3 d4 =>
      refine ⟨_, _, _, rfl, rfl, d2, by omega, by omega, ?_, fun t ht => k _ _ _ (.new ht) (dL (al.ne ht) upd_same ?_ ((dt_rep d4 _).mono (.new ht))) o4⟩
      · rw [d4.length]; exact Nat.le_trans o3 (by rw [sizeLine_eq]; omega)
      · rw [List.length_flatten, List.map_replicate, List.sum_replicate_nat, d4.length, n, Nat.mul_comm]
        exact Nat.le_trans o3 (by decide)
  · exact o.elim⟩
theorem takesN {X : Cx} : L2N.Takes X (fun _ _ _ _ => False) := fun u s' ⟨_, _, _, _, _, _, _, _, _, _, _, _, _, _, _, _, w⟩ => w.elim
theorem hot_of {X : Cx} {a : Addr} {o : Obj} {cls : Value} {d : Option Addr} {pn : List (Addr × Obj)} (hz : L2N.Zn cls d o) (hf : ∃ fs, o.data = .fields fs) : L2H.HotC (X.suite a ((a, o) :: pn)) := by
  obtain ⟨fs, e⟩ := hf
  exact ⟨(a, o), ⟨rfl, fs, e, hz.2.2 fs e⟩, List.mem_cons_self⟩
theorem suite_of {X : Cx} {a : Addr} {o : Obj} {cls : Value} {d : Option Addr} {pn : List (Addr × Obj)} {Ok : Addr → Prop} {ts : Addr → TS} {st : List Stmt} (hz : L2N.Zn cls d o) (hf : ∃ fs, o.data = .fields fs) (h : ∀ C, Ok C → L2N.Zn (.ref C) none o → PSs (X.suite a ((a, o) :: pn)) st (ts C)) :
    PSs (X.suite a ((a, o) :: pn)) st (fun D σ H => ∃ C, Ok C ∧ cls = .ref C ∧ d = none ∧ ts C D σ H) := by
  refine ⟨fun pins s σ H D J ⟨C, ok, e1, e2, w⟩ => ?_⟩
  subst e1 e2
  exact (h C ok hz).run pins s σ H D J w
def bitOf (K : PySem.W.Frag) (C c : Addr) : Bool := (PySem.W.kitOne K (.ref C) (.ref c)).getD false
structure OkC (K : PySem.W.Frag) (c1 c2 c3 : Addr) (cs : List Addr) (C : Addr) : Prop where
  hits : Hits K (.ref c1) (.ref c2) (.ref c3) C
  exc : ExcC K C
  q : ∀ c ∈ cs, PySem.W.kitOne K (.ref C) (.ref c) = some (bitOf K C c)
  v : PySem.W.kitOne K (.ref C) (.type "ValueError") = some true
def words14 : List Str := ["NoState", "NoCents", "NoName", "NoDeeds", "NoTimes", "NoMany", "NoPlace", "NoSeen", "NoPaid", "Full", "Nobody", "TooMuch", "LastOne", "NothingLeft"].map Str.ofString
def kinOf (K : PySem.W.Frag) (cs : List Addr) (C : Addr) : PyData := .list ((((words14.zip (cs.map (bitOf K C))).filter (·.2)).map fun q => PyData.str q.1) ++ [.bool true])
def W__law_refused (K : PySem.W.Frag) (c1 c2 c3 : Addr) (cs : List Addr) (fD : Addr) (W : OX) : OA
  | [.rf g, x1, x2, x3], R => g = fD ∧ allNq [x1, x2, x3] ∧ ∀ (R' : Vx → Prop) (X' : Addr → Prop), (R (.d (.list [])) → ∀ x, R' x) → (∀ C, OkC K c1 c2 c3 cs C → R (.d (kinOf K cs C)) → X' C) → W [x1, x2, x3] R' X'
  | _, _ => False
structure Cz (K : PySem.W.Frag) (mg : Str → Option Value) (c_ClubError c_NoState c_NoCents c_NoName c_NoDeeds c_NoTimes c_NoMany c_NoPlace c_NoSeen c_NoPaid c_Nobody c_TooMuch c_Full c_LastOne c_NothingLeft c_Twice c_NotIn : Addr) : Prop where
  b_ValueError : mg "ValueError" = none
  g_ClubError : mg "ClubError" = some (.ref c_ClubError)
  g_NoState : mg "NoState" = some (.ref c_NoState)
  g_NoCents : mg "NoCents" = some (.ref c_NoCents)
  g_NoName : mg "NoName" = some (.ref c_NoName)
  g_NoDeeds : mg "NoDeeds" = some (.ref c_NoDeeds)
  g_NoTimes : mg "NoTimes" = some (.ref c_NoTimes)
  g_NoMany : mg "NoMany" = some (.ref c_NoMany)
  g_NoPlace : mg "NoPlace" = some (.ref c_NoPlace)
  g_NoSeen : mg "NoSeen" = some (.ref c_NoSeen)
  g_NoPaid : mg "NoPaid" = some (.ref c_NoPaid)
  g_Nobody : mg "Nobody" = some (.ref c_Nobody)
  g_TooMuch : mg "TooMuch" = some (.ref c_TooMuch)
  g_Full : mg "Full" = some (.ref c_Full)
  g_LastOne : mg "LastOne" = some (.ref c_LastOne)
  g_NothingLeft : mg "NothingLeft" = some (.ref c_NothingLeft)
  g_Twice : mg "Twice" = some (.ref c_Twice)
  g_NotIn : mg "NotIn" = some (.ref c_NotIn)
  x_NoCents : PySem.W.excIn K c_NoCents [.type "ValueError", .type "Exception", .type "BaseException", .type "object"] "ValueError.__new__" = true
  k_NoCents : PySem.W.keepIn K (.ref c_NoCents) = true
  b_NoCents : PySem.W.subIn K (.ref c_NoCents) (.type "BaseException") = some true
  t_NoCents : PySem.W.typeIn K (.ref c_NoCents) = some (.type "type")
  e_NoCents : ExcC K c_NoCents
  h_NoCents : Hits K (.ref c_Twice) (.ref c_NotIn) (.ref c_ClubError) c_NoCents
  q_NoCents_NoState : PySem.W.kitOne K (.ref c_NoCents) (.ref c_NoState) = some false
  q_NoCents_NoCents : PySem.W.kitOne K (.ref c_NoCents) (.ref c_NoCents) = some true
  q_NoCents_NoName : PySem.W.kitOne K (.ref c_NoCents) (.ref c_NoName) = some false
  q_NoCents_NoDeeds : PySem.W.kitOne K (.ref c_NoCents) (.ref c_NoDeeds) = some false
  q_NoCents_NoTimes : PySem.W.kitOne K (.ref c_NoCents) (.ref c_NoTimes) = some false
  q_NoCents_NoMany : PySem.W.kitOne K (.ref c_NoCents) (.ref c_NoMany) = some false
  q_NoCents_NoPlace : PySem.W.kitOne K (.ref c_NoCents) (.ref c_NoPlace) = some false
  q_NoCents_NoSeen : PySem.W.kitOne K (.ref c_NoCents) (.ref c_NoSeen) = some false
  q_NoCents_NoPaid : PySem.W.kitOne K (.ref c_NoCents) (.ref c_NoPaid) = some false
  q_NoCents_Full : PySem.W.kitOne K (.ref c_NoCents) (.ref c_Full) = some false
  q_NoCents_Nobody : PySem.W.kitOne K (.ref c_NoCents) (.ref c_Nobody) = some false
  q_NoCents_TooMuch : PySem.W.kitOne K (.ref c_NoCents) (.ref c_TooMuch) = some false
  q_NoCents_LastOne : PySem.W.kitOne K (.ref c_NoCents) (.ref c_LastOne) = some false
  q_NoCents_NothingLeft : PySem.W.kitOne K (.ref c_NoCents) (.ref c_NothingLeft) = some false
  v_NoCents : PySem.W.kitOne K (.ref c_NoCents) (.type "ValueError") = some true
  x_NoPaid : PySem.W.excIn K c_NoPaid [.type "ValueError", .type "Exception", .type "BaseException", .type "object"] "ValueError.__new__" = true
  k_NoPaid : PySem.W.keepIn K (.ref c_NoPaid) = true
  b_NoPaid : PySem.W.subIn K (.ref c_NoPaid) (.type "BaseException") = some true
  t_NoPaid : PySem.W.typeIn K (.ref c_NoPaid) = some (.type "type")
  e_NoPaid : ExcC K c_NoPaid
  h_NoPaid : Hits K (.ref c_Twice) (.ref c_NotIn) (.ref c_ClubError) c_NoPaid
  q_NoPaid_NoState : PySem.W.kitOne K (.ref c_NoPaid) (.ref c_NoState) = some false
  q_NoPaid_NoCents : PySem.W.kitOne K (.ref c_NoPaid) (.ref c_NoCents) = some false
  q_NoPaid_NoName : PySem.W.kitOne K (.ref c_NoPaid) (.ref c_NoName) = some false
  q_NoPaid_NoDeeds : PySem.W.kitOne K (.ref c_NoPaid) (.ref c_NoDeeds) = some false
  q_NoPaid_NoTimes : PySem.W.kitOne K (.ref c_NoPaid) (.ref c_NoTimes) = some false
  q_NoPaid_NoMany : PySem.W.kitOne K (.ref c_NoPaid) (.ref c_NoMany) = some false
  q_NoPaid_NoPlace : PySem.W.kitOne K (.ref c_NoPaid) (.ref c_NoPlace) = some false
  q_NoPaid_NoSeen : PySem.W.kitOne K (.ref c_NoPaid) (.ref c_NoSeen) = some false
  q_NoPaid_NoPaid : PySem.W.kitOne K (.ref c_NoPaid) (.ref c_NoPaid) = some true
  q_NoPaid_Full : PySem.W.kitOne K (.ref c_NoPaid) (.ref c_Full) = some false
  q_NoPaid_Nobody : PySem.W.kitOne K (.ref c_NoPaid) (.ref c_Nobody) = some false
  q_NoPaid_TooMuch : PySem.W.kitOne K (.ref c_NoPaid) (.ref c_TooMuch) = some false
  q_NoPaid_LastOne : PySem.W.kitOne K (.ref c_NoPaid) (.ref c_LastOne) = some false
  q_NoPaid_NothingLeft : PySem.W.kitOne K (.ref c_NoPaid) (.ref c_NothingLeft) = some false
  v_NoPaid : PySem.W.kitOne K (.ref c_NoPaid) (.type "ValueError") = some true
def wInD (x : PyData) : Bool := withinD 1 1000000000000000000 x
def W_check_times : OA
  | [.d x], R => wInD x = true ∧ R (.d .none)
  | _, _ => False
def WX_check_times (c : Addr) : OX
  | [.d x], R, X => (wInD x = true → R (.d .none)) ∧ (wInD x = false → X c)
  | _, _, _ => False
local macro_rules | `(tactic| walk_at "w") => `(tactic| try simp -dsimp only [startE_0, startE_s, startE_n, posts, wNext, wSeq_e, wRet, wRetN, wDrop, wIf, wNever, wAsg, wPar, wTri, wNew, wRetF, wRetV, wApp, wExt, wSetL, wPutT, wAug, wFrz, wFrzT, wCallM, postM, wTry, wIsE, wPick, oRep, wRef, nq_rf, unF_rf, wNewT, wgN, wgT, wgNil, wgCons, wmNil, wmV, wmL, wmT,
  wVar, readS, wK, wOp, oI, cT, oCmp, oEqv, datOf, oIsN, oAdd, oIx_l, oIx_q, oIx_t, IxK_0, IxK_1, IxK_2, IxK_3, oIn, wNeg, wAndV, wOrV, wNotV, wTst, wNot, wAnd, wOr, wIfE, wChain, wNil, wCons, allD, wTup, wLst, wC, wNoPart, wPart, wSl, oLen, wIsi, oInt, o2I, o1, lstOf, oListC, oTupC, oDGet_e, DgK_some, dLook, dkOf, dtOf, wDGet3, isDx, wSortIt,
  wISeq, wIRng1, wIRng2, wIStr, wIEnumT, wIZip, wLc, wYes, wLock, wDc, lcE, dcE, wOnlyD, wipeE, lockS, wCall, allNq, unF_d, unF_dk, unF_dt, unF_bag, unF_fl, nq_d, nq_dk, nq_dt, nq_bag, List.map_cons, List.map_nil, List.set_cons_zero, List.set_cons_succ, List.getElem?_cons_zero, List.getElem?_cons_succ, Option.map_some, Option.map_none, true_and, and_true, decide_eq_true_eq, Bool.not_eq_true', id, if_true, Bool.true_eq_false, Bool.false_eq_true, if_false, ite_true, ite_false, NN, List.length_cons, List.length_nil, List.length_map, Nat.zero_add, Nat.reduceAdd, Nat.reduceLeDiff, and_self, cDiv, cMul, List.append_nil, List.nil_append, wRev, wFor_e, flOnly_fl, List.replicate_succ, List.replicate_zero, Bool.not_true, Bool.not_false, bodyPost, tailPost, isTru, wAssert, Bool.not_eq_false', decide_eq_false_iff_not])
local macro_rules | `(tactic| walk_at "v") => `(tactic| try simp -dsimp only [startE_0, startE_s, startE_n, posts, wNext, wSeq_e, wRet, wRetN, wDrop, wIf, wNever, wAsg, wPar, wTri, wNew, wRetF, wRetV, wApp, wExt, wSetL, wPutT, wAug, wFrz, wFrzT, wCallM, postM, wTry, wIsE, wPick, oRep, wRef, nq_rf, unF_rf, wNewT, wgN, wgT, wgNil, wgCons, wmNil, wmV, wmL, wmT,
  wVar, readS, wK, wOp, oI, cT, oCmp, oEqv, datOf, oIsN, oAdd, oIx_l, oIx_q, oIx_t, IxK_0, IxK_1, IxK_2, IxK_3, oIn, wNeg, wAndV, wOrV, wNotV, wTst, wNot, wAnd, wOr, wIfE, wChain, wNil, wCons, allD, wTup, wLst, wC, wNoPart, wPart, wSl, oLen, wIsi, oInt, o2I, o1, lstOf, oListC, oTupC, oDGet_e, DgK_some, dLook, dkOf, dtOf, wDGet3, isDx, wSortIt,
  wISeq, wIRng1, wIRng2, wIStr, wIEnumT, wIZip, wLc, wYes, wLock, wDc, lcE, dcE, wOnlyD, wipeE, lockS, wCall, allNq, unF_d, unF_dk, unF_dt, unF_bag, unF_fl, nq_d, nq_dk, nq_dt, nq_bag, List.map_cons, List.map_nil, List.set_cons_zero, List.set_cons_succ, List.getElem?_cons_zero, List.getElem?_cons_succ, Option.map_some, Option.map_none, true_and, and_true, decide_eq_true_eq, Bool.not_eq_true', id, if_true, Bool.true_eq_false, Bool.false_eq_true, if_false, ite_true, ite_false, NN, List.length_cons, List.length_nil, List.length_map, Nat.zero_add, Nat.reduceAdd, Nat.reduceLeDiff, and_self, cDiv, cMul, List.append_nil, List.nil_append, wRev, wFor_e, flOnly_fl, List.replicate_succ, List.replicate_zero, Bool.not_true, Bool.not_false, bodyPost, tailPost, isTru, wAssert, Bool.not_eq_false', decide_eq_false_iff_not, Hold, App, W_check_times, W_is_whole_within, Wb])
local macro_rules | `(tactic| walk_at "n") => `(tactic| (refine Hold_go ?_; walk_at "w"))
section
variable {P : Program} {w : World} {K : PySem.W.Frag} {mg : Str → Option Value} {base : Heap} {k0 k1 k2 : Tok}
abbrev s__law_refused : Stmt := topS 44
abbrev N__law_refused : List Str := ["call", "one", "two", "three", "kin", "e", "words", "word", "there"]
theorem sc__law_refused : FnScope N__law_refused ["call", "one", "two", "three"] (defScope s__law_refused) := ⟨rfl, rfl, rfl, by decide +kernel, rfl, by decide +kernel, by decide +kernel⟩
theorem ok__law_refused {kf : Nat} {fD : Addr} {fdD : FuncData} {psD : List Str} {W : OX} (FD : FnOk P w K mg base (L2N.CX P w) kf fD fdD psD (spX W)) (kD : PySem.W.keepIn K (.ref fD) = true) (bD : Binds K fdD psD []) {f__law_refused : Addr} {fd__law_refused : FuncData} (D__law_refused : Df K mg "_law_refused" s__law_refused ["call", "one", "two", "three"] f__law_refused fd__law_refused) (T : Bt mg k0 k1 k2) {c_ClubError c_NoState c_NoCents c_NoName c_NoDeeds c_NoTimes c_NoMany c_NoPlace c_NoSeen c_NoPaid c_Nobody c_TooMuch c_Full c_LastOne c_NothingLeft c_Twice c_NotIn : Addr} (Z : Cz K mg c_ClubError c_NoState c_NoCents c_NoName c_NoDeeds c_NoTimes c_NoMany c_NoPlace c_NoSeen c_NoPaid c_Nobody c_TooMuch c_Full c_LastOne c_NothingLeft c_Twice c_NotIn) : FnOk P w K mg base CX0 (kf + 1) f__law_refused fd__law_refused ["call", "one", "two", "three"] (spW (W__law_refused K c_Twice c_NotIn c_ClubError [c_NoState, c_NoCents, c_NoName, c_NoDeeds, c_NoTimes, c_NoMany, c_NoPlace, c_NoSeen, c_NoPaid, c_Full, c_Nobody, c_TooMuch, c_LastOne, c_NothingLeft] fD W)) := by
  refine D__law_refused.F.ok sc__law_refused (fun vs H Q E h => spW_len (n := 4) (fun xs R h => by unfold W__law_refused at h; split at h <;> first | rfl | exact h.elim) h) (fun cdv A outer s H vs Q E hr h => ?_)
  refine ⟨_, (pss_cons (ps_set (i := 4) sc__law_refused.nd rfl (Or.inl rfl) (pe_lst pa_nil)) (pss_cons (Xt.ps_tryAs (i := 5) rfl rfl sc__law_refused.nd rfl rfl takesN (fun V pn xe tk => pss_one (ps_expr (pe_callH (i := 0) FD (hr.mono (by omega)) rfl (.inl rfl) kD bD (fun σ => L2N.passAt tk σ) (pa_cons (pv 1) (pa_cons (pv 2) (pa_cons (pv 3) pa_nil)))))) (.one ⟨rfl, by decide +kernel, .inl Z.g_Twice⟩ (fun _ _ _ _ _ _ _ => pss_one ps_never) (.one ⟨rfl, by decide +kernel, .inl Z.g_NotIn⟩ (fun _ _ _ _ _ _ _ => pss_one ps_never) (.one ⟨rfl, by decide +kernel, .inl Z.g_ClubError⟩ (fun a o cls d pn hz hf => suite_of (Ok := (OkC K c_Twice c_NotIn c_ClubError [c_NoState, c_NoCents, c_NoName, c_NoDeeds, c_NoTimes, c_NoMany, c_NoPlace, c_NoSeen, c_NoPaid, c_Full, c_Nobody, c_TooMuch, c_LastOne, c_NothingLeft])) (ts := fun C => _) hz hf (fun C ok hz => (pss_cons (ps_set (i := 6) sc__law_refused.nd rfl (Or.inl rfl) (pe_lst (pa_cons (pe_tup (pa_cons pe_str (pa_cons (pe_callB (call_isE ok.exc hz.zc hf) (by rfl) T.b_isinstance (by decide +kernel) (pa_cons (pv 5) (pa_cons (pe_glob (v := .ref c_NoState) (by rfl) Z.g_NoState rfl) pa_nil))) pa_nil))) (pa_cons (pe_tup (pa_cons pe_str (pa_cons (pe_callB (call_isE ok.exc hz.zc hf) (by rfl) T.b_isinstance (by decide +kernel) (pa_cons (pv 5) (pa_cons (pe_glob (v := .ref c_NoCents) (by rfl) Z.g_NoCents rfl) pa_nil))) pa_nil))) pa_nil))))
  (pss_cons (ps_set (i := 6) sc__law_refused.nd rfl (Or.inl rfl) (pe_op (un_add (K := K) rfl) (pv 6) (pe_lst (pa_cons (pe_tup (pa_cons pe_str (pa_cons (pe_callB (call_isE ok.exc hz.zc hf) (by rfl) T.b_isinstance (by decide +kernel) (pa_cons (pv 5) (pa_cons (pe_glob (v := .ref c_NoName) (by rfl) Z.g_NoName rfl) pa_nil))) pa_nil))) pa_nil))))
  (pss_cons (ps_set (i := 6) sc__law_refused.nd rfl (Or.inl rfl) (pe_op (un_add (K := K) rfl) (pv 6) (pe_lst (pa_cons (pe_tup (pa_cons pe_str (pa_cons (pe_callB (call_isE ok.exc hz.zc hf) (by rfl) T.b_isinstance (by decide +kernel) (pa_cons (pv 5) (pa_cons (pe_glob (v := .ref c_NoDeeds) (by rfl) Z.g_NoDeeds rfl) pa_nil))) pa_nil))) (pa_cons (pe_tup (pa_cons pe_str (pa_cons (pe_callB (call_isE ok.exc hz.zc hf) (by rfl) T.b_isinstance (by decide +kernel) (pa_cons (pv 5) (pa_cons (pe_glob (v := .ref c_NoTimes) (by rfl) Z.g_NoTimes rfl) pa_nil))) pa_nil))) pa_nil)))))
  (pss_cons (ps_set (i := 6) sc__law_refused.nd rfl (Or.inl rfl) (pe_op (un_add (K := K) rfl) (pv 6) (pe_lst (pa_cons (pe_tup (pa_cons pe_str (pa_cons (pe_callB (call_isE ok.exc hz.zc hf) (by rfl) T.b_isinstance (by decide +kernel) (pa_cons (pv 5) (pa_cons (pe_glob (v := .ref c_NoMany) (by rfl) Z.g_NoMany rfl) pa_nil))) pa_nil))) (pa_cons (pe_tup (pa_cons pe_str (pa_cons (pe_callB (call_isE ok.exc hz.zc hf) (by rfl) T.b_isinstance (by decide +kernel) (pa_cons (pv 5) (pa_cons (pe_glob (v := .ref c_NoPlace) (by rfl) Z.g_NoPlace rfl) pa_nil))) pa_nil))) pa_nil)))))
  (pss_cons (ps_set (i := 6) sc__law_refused.nd rfl (Or.inl rfl) (pe_op (un_add (K := K) rfl) (pv 6) (pe_lst (pa_cons (pe_tup (pa_cons pe_str (pa_cons (pe_callB (call_isE ok.exc hz.zc hf) (by rfl) T.b_isinstance (by decide +kernel) (pa_cons (pv 5) (pa_cons (pe_glob (v := .ref c_NoSeen) (by rfl) Z.g_NoSeen rfl) pa_nil))) pa_nil))) (pa_cons (pe_tup (pa_cons pe_str (pa_cons (pe_callB (call_isE ok.exc hz.zc hf) (by rfl) T.b_isinstance (by decide +kernel) (pa_cons (pv 5) (pa_cons (pe_glob (v := .ref c_NoPaid) (by rfl) Z.g_NoPaid rfl) pa_nil))) pa_nil))) pa_nil)))))
  (pss_cons (ps_set (i := 6) sc__law_refused.nd rfl (Or.inl rfl) (pe_op (un_add (K := K) rfl) (pv 6) (pe_lst (pa_cons (pe_tup (pa_cons pe_str (pa_cons (pe_callB (call_isE ok.exc hz.zc hf) (by rfl) T.b_isinstance (by decide +kernel) (pa_cons (pv 5) (pa_cons (pe_glob (v := .ref c_Full) (by rfl) Z.g_Full rfl) pa_nil))) pa_nil))) pa_nil))))
  (pss_cons (ps_set (i := 6) sc__law_refused.nd rfl (Or.inl rfl) (pe_op (un_add (K := K) rfl) (pv 6) (pe_lst (pa_cons (pe_tup (pa_cons pe_str (pa_cons (pe_callB (call_isE ok.exc hz.zc hf) (by rfl) T.b_isinstance (by decide +kernel) (pa_cons (pv 5) (pa_cons (pe_glob (v := .ref c_Nobody) (by rfl) Z.g_Nobody rfl) pa_nil))) pa_nil))) (pa_cons (pe_tup (pa_cons pe_str (pa_cons (pe_callB (call_isE ok.exc hz.zc hf) (by rfl) T.b_isinstance (by decide +kernel) (pa_cons (pv 5) (pa_cons (pe_glob (v := .ref c_TooMuch) (by rfl) Z.g_TooMuch rfl) pa_nil))) pa_nil))) pa_nil)))))
  (pss_cons (ps_set (i := 6) sc__law_refused.nd rfl (Or.inl rfl) (pe_op (un_add (K := K) rfl) (pv 6) (pe_lst (pa_cons (pe_tup (pa_cons pe_str (pa_cons (pe_callB (call_isE ok.exc hz.zc hf) (by rfl) T.b_isinstance (by decide +kernel) (pa_cons (pv 5) (pa_cons (pe_glob (v := .ref c_LastOne) (by rfl) Z.g_LastOne rfl) pa_nil))) pa_nil))) (pa_cons (pe_tup (pa_cons pe_str (pa_cons (pe_callB (call_isE ok.exc hz.zc hf) (by rfl) T.b_isinstance (by decide +kernel) (pa_cons (pv 5) (pa_cons (pe_glob (v := .ref c_NothingLeft) (by rfl) Z.g_NothingLeft rfl) pa_nil))) pa_nil))) pa_nil)))))
  (pss_one (ps_set (i := 4) sc__law_refused.nd rfl (Or.inl rfl) (pe_op (un_add (K := K) rfl) (Xp.pe_pick (i := 6) (cl := []) (hot_of hz hf) rfl (.inl rfl) rfl (by decide +kernel) rfl (by decide +kernel) (fun _ => rfl) (fun _ => rfl) (by decide +kernel) (by decide +kernel) (by decide +kernel)) (pe_lst (pa_cons (pe_callB (call_isE ok.exc hz.zc hf) (by rfl) T.b_isinstance (by decide +kernel) (pa_cons (pv 5) (pa_cons (pe_bltn (v := .ty "ValueError") (by rfl) Z.b_ValueError (by decide +kernel) rfl) pa_nil))) pa_nil))))))))))))))) .none)))) (pss_one (ps_ret (pv 4))))), fn_body (n := 9) rfl (ss_seq (ss_asg (snd_lst snd_nil) (sg_name 4)) (ss_seq (ss_try (Ok := (OkC K c_Twice c_NotIn c_ClubError [c_NoState, c_NoCents, c_NoName, c_NoDeeds, c_NoTimes, c_NoMany, c_NoPlace, c_NoSeen, c_NoPaid, c_Full, c_Nobody, c_TooMuch, c_LastOne, c_NothingLeft])) (snd_cons (snd_var 1) (snd_cons (snd_var 2) (snd_cons (snd_var 3) snd_nil))) (fun C ok => ok.hits) (fun C a ok => (ss_seq (ss_asg (snd_lst (snd_cons (snd_tup (snd_cons (snd_str _ (by decide +kernel)) (snd_cons (snd_isE (i := 5) (fun _ r => r) (ok.q c_NoState (by simp))) snd_nil))) (snd_cons (snd_tup (snd_cons (snd_str _ (by decide +kernel)) (snd_cons (snd_isE (i := 5) (fun _ r => r) (ok.q c_NoCents (by simp))) snd_nil))) snd_nil))) (sg_name 6))
  (ss_seq (ss_asg (snd_op so_add (snd_var 6) (snd_lst (snd_cons (snd_tup (snd_cons (snd_str _ (by decide +kernel)) (snd_cons (snd_isE (i := 5) (fun _ r => r) (ok.q c_NoName (by simp))) snd_nil))) snd_nil))) (sg_name 6))
  (ss_seq (ss_asg (snd_op so_add (snd_var 6) (snd_lst (snd_cons (snd_tup (snd_cons (snd_str _ (by decide +kernel)) (snd_cons (snd_isE (i := 5) (fun _ r => r) (ok.q c_NoDeeds (by simp))) snd_nil))) (snd_cons (snd_tup (snd_cons (snd_str _ (by decide +kernel)) (snd_cons (snd_isE (i := 5) (fun _ r => r) (ok.q c_NoTimes (by simp))) snd_nil))) snd_nil)))) (sg_name 6))
  (ss_seq (ss_asg (snd_op so_add (snd_var 6) (snd_lst (snd_cons (snd_tup (snd_cons (snd_str _ (by decide +kernel)) (snd_cons (snd_isE (i := 5) (fun _ r => r) (ok.q c_NoMany (by simp))) snd_nil))) (snd_cons (snd_tup (snd_cons (snd_str _ (by decide +kernel)) (snd_cons (snd_isE (i := 5) (fun _ r => r) (ok.q c_NoPlace (by simp))) snd_nil))) snd_nil)))) (sg_name 6))
  (ss_seq (ss_asg (snd_op so_add (snd_var 6) (snd_lst (snd_cons (snd_tup (snd_cons (snd_str _ (by decide +kernel)) (snd_cons (snd_isE (i := 5) (fun _ r => r) (ok.q c_NoSeen (by simp))) snd_nil))) (snd_cons (snd_tup (snd_cons (snd_str _ (by decide +kernel)) (snd_cons (snd_isE (i := 5) (fun _ r => r) (ok.q c_NoPaid (by simp))) snd_nil))) snd_nil)))) (sg_name 6))
  (ss_seq (ss_asg (snd_op so_add (snd_var 6) (snd_lst (snd_cons (snd_tup (snd_cons (snd_str _ (by decide +kernel)) (snd_cons (snd_isE (i := 5) (fun _ r => r) (ok.q c_Full (by simp))) snd_nil))) snd_nil))) (sg_name 6))
  (ss_seq (ss_asg (snd_op so_add (snd_var 6) (snd_lst (snd_cons (snd_tup (snd_cons (snd_str _ (by decide +kernel)) (snd_cons (snd_isE (i := 5) (fun _ r => r) (ok.q c_Nobody (by simp))) snd_nil))) (snd_cons (snd_tup (snd_cons (snd_str _ (by decide +kernel)) (snd_cons (snd_isE (i := 5) (fun _ r => r) (ok.q c_TooMuch (by simp))) snd_nil))) snd_nil)))) (sg_name 6))
  (ss_seq (ss_asg (snd_op so_add (snd_var 6) (snd_lst (snd_cons (snd_tup (snd_cons (snd_str _ (by decide +kernel)) (snd_cons (snd_isE (i := 5) (fun _ r => r) (ok.q c_LastOne (by simp))) snd_nil))) (snd_cons (snd_tup (snd_cons (snd_str _ (by decide +kernel)) (snd_cons (snd_isE (i := 5) (fun _ r => r) (ok.q c_NothingLeft (by simp))) snd_nil))) snd_nil)))) (sg_name 6))
  (ss_asg (snd_op so_add (snd_pick (K := K) (i := 6)) (snd_lst (snd_cons (snd_isE (i := 5) (fun _ r => r) ok.v) snd_nil))) (sg_name 4)))))))))))) (ss_retV (i := 4)))) h ?_⟩
  intro xs R hW
  unfold W__law_refused at hW
  split at hW
  rotate_left
  · exact hW.elim
  rename_i g x1 x2 x3
  obtain ⟨rfl, nq3, h⟩ := hW
  walk_at "w"
  walk_at "n"
  refine ⟨by simpa only [allNq, and_true] using nq3, h _ _ (fun r x => ?_) (fun C ok r => ⟨ok, fun a => ?_⟩)⟩
  · walk_at "w"
    walk_at "n"
    exact r
  · walk_at "w"
    walk_at "n"
    walk_at "n"
    refine ⟨by simp, ?_⟩
    walk_at "n"
    refine ⟨by simp, ?_⟩
    walk_at "n"
    refine ⟨by simp, ?_⟩
    walk_at "n"
    refine ⟨by simp, ?_⟩
    walk_at "n"
    refine ⟨by simp, ?_⟩
    walk_at "n"
    refine ⟨by simp, ?_⟩
    walk_at "n"
    refine ⟨words14.zip ([c_NoState, c_NoCents, c_NoName, c_NoDeeds, c_NoTimes, c_NoMany, c_NoPlace, c_NoSeen, c_NoPaid, c_Full, c_Nobody, c_TooMuch, c_LastOne, c_NothingLeft].map (bitOf K C)), rfl, ?_⟩
    generalize ek : words14.zip ([c_NoState, c_NoCents, c_NoName, c_NoDeeds, c_NoTimes, c_NoMany, c_NoPlace, c_NoSeen, c_NoPaid, c_Full, c_Nobody, c_TooMuch, c_LastOne, c_NothingLeft].map (bitOf K C)) = pk
    have lk : pk.length ≤ 14 := by rw [← ek]; simp [words14]
    have lf := List.length_filter_le (fun q : Str × Bool => q.2) pk
    walk_at "w"
    refine ⟨by omega, ?_⟩
    walk_at "n"
    unfold kinOf at r
    rw [ek] at r
    exact r
end
end Dm
/-! who is refused, asked through a lambda -/
namespace Dm
open PySem L2 Pb
local macro_rules | `(tactic| walk_at "w") => `(tactic| try simp -dsimp only [startE_0, startE_s, startE_n, posts, wNext, wSeq_e, wRet, wRetN, wDrop, wIf, wNever, wAsg, wPar, wTri, wNew, wRetF, wRetV, wApp, wExt, wSetL, wPutT, wAug, wFrz, wFrzT, wCallM, postM, wTry, wIsE, wPick, oRep, wRef, nq_rf, unF_rf, wLam, wCallT, wNewT, wgN, wgT, wgNil, wgCons, wmNil, wmV, wmL, wmT,
  wVar, readS, wK, wOp, oI, cT, oCmp, oEqv, datOf, oIsN, oAdd, oIx_l, oIx_q, oIx_t, IxK_0, IxK_1, IxK_2, IxK_3, oIn, wNeg, wAndV, wOrV, wNotV, wTst, wNot, wAnd, wOr, wIfE, wChain, wNil, wCons, allD, wTup, wLst, wC, wNoPart, wPart, wSl, oLen, wIsi, oInt, o2I, o1, lstOf, oListC, oTupC, oDGet_e, DgK_some, dLook, dkOf, dtOf, wDGet3, isDx, wSortIt,
  wISeq, wIRng1, wIRng2, wIStr, wIEnumT, wIZip, wLc, wYes, wLock, wDc, lcE, dcE, wOnlyD, wipeE, lockS, wCall, allNq, unF_d, unF_dk, unF_dt, unF_bag, unF_fl, nq_d, nq_dk, nq_dt, nq_bag, List.map_cons, List.map_nil, List.set_cons_zero, List.set_cons_succ, List.getElem?_cons_zero, List.getElem?_cons_succ, Option.map_some, Option.map_none, true_and, and_true, decide_eq_true_eq, Bool.not_eq_true', id, if_true, Bool.true_eq_false, Bool.false_eq_true, if_false, ite_true, ite_false, NN, List.length_cons, List.length_nil, List.length_map, Nat.zero_add, Nat.reduceAdd, Nat.reduceLeDiff, and_self, cDiv, cMul, List.append_nil, List.nil_append, wRev, wFor_e, flOnly_fl, List.replicate_succ, List.replicate_zero, Bool.not_true, Bool.not_false, bodyPost, tailPost, isTru, wAssert, Bool.not_eq_false', decide_eq_false_iff_not])
local macro_rules | `(tactic| walk_at "v") => `(tactic| try simp -dsimp only [startE_0, startE_s, startE_n, posts, wNext, wSeq_e, wRet, wRetN, wDrop, wIf, wNever, wAsg, wPar, wTri, wNew, wRetF, wRetV, wApp, wExt, wSetL, wPutT, wAug, wFrz, wFrzT, wCallM, postM, wTry, wIsE, wPick, oRep, wRef, nq_rf, unF_rf, wLam, wCallT, wNewT, wgN, wgT, wgNil, wgCons, wmNil, wmV, wmL, wmT,
  wVar, readS, wK, wOp, oI, cT, oCmp, oEqv, datOf, oIsN, oAdd, oIx_l, oIx_q, oIx_t, IxK_0, IxK_1, IxK_2, IxK_3, oIn, wNeg, wAndV, wOrV, wNotV, wTst, wNot, wAnd, wOr, wIfE, wChain, wNil, wCons, allD, wTup, wLst, wC, wNoPart, wPart, wSl, oLen, wIsi, oInt, o2I, o1, lstOf, oListC, oTupC, oDGet_e, DgK_some, dLook, dkOf, dtOf, wDGet3, isDx, wSortIt,
  wISeq, wIRng1, wIRng2, wIStr, wIEnumT, wIZip, wLc, wYes, wLock, wDc, lcE, dcE, wOnlyD, wipeE, lockS, wCall, allNq, unF_d, unF_dk, unF_dt, unF_bag, unF_fl, nq_d, nq_dk, nq_dt, nq_bag, List.map_cons, List.map_nil, List.set_cons_zero, List.set_cons_succ, List.getElem?_cons_zero, List.getElem?_cons_succ, Option.map_some, Option.map_none, true_and, and_true, decide_eq_true_eq, Bool.not_eq_true', id, if_true, Bool.true_eq_false, Bool.false_eq_true, if_false, ite_true, ite_false, NN, List.length_cons, List.length_nil, List.length_map, Nat.zero_add, Nat.reduceAdd, Nat.reduceLeDiff, and_self, cDiv, cMul, List.append_nil, List.nil_append, wRev, wFor_e, flOnly_fl, List.replicate_succ, List.replicate_zero, Bool.not_true, Bool.not_false, bodyPost, tailPost, isTru, wAssert, Bool.not_eq_false', decide_eq_false_iff_not, Hold, App, W_is_whole_within, Wb])
local macro_rules | `(tactic| walk_at "n") => `(tactic| (refine Hold_go ?_; walk_at "w"))
section
variable {P : Program} {w : World} {K : PySem.W.Frag} {mg : Str → Option Value} {base : Heap} {k0 k1 k2 : Tok}
theorem okL__law_refused {kf : Nat} {L : Lm.Lam} {psD : List Str} {W : OX} (FL : Lm.LOk P w K mg base (L2N.CX P w) kf L psD (spX W)) {f__law_refused : Addr} {fd__law_refused : FuncData} (D__law_refused : Df K mg "_law_refused" s__law_refused ["call", "one", "two", "three"] f__law_refused fd__law_refused) (T : Bt mg k0 k1 k2) {c_ClubError c_NoState c_NoCents c_NoName c_NoDeeds c_NoTimes c_NoMany c_NoPlace c_NoSeen c_NoPaid c_Nobody c_TooMuch c_Full c_LastOne c_NothingLeft c_Twice c_NotIn : Addr} (Z : Cz K mg c_ClubError c_NoState c_NoCents c_NoName c_NoDeeds c_NoTimes c_NoMany c_NoPlace c_NoSeen c_NoPaid c_Nobody c_TooMuch c_Full c_LastOne c_NothingLeft c_Twice c_NotIn) : FnOk P w K mg base CX0 (kf + 1) f__law_refused fd__law_refused ["call", "one", "two", "three"] (spL L (WL_refused (OkC K c_Twice c_NotIn c_ClubError [c_NoState, c_NoCents, c_NoName, c_NoDeeds, c_NoTimes, c_NoMany, c_NoPlace, c_NoSeen, c_NoPaid, c_Full, c_Nobody, c_TooMuch, c_LastOne, c_NothingLeft]) (kinOf K [c_NoState, c_NoCents, c_NoName, c_NoDeeds, c_NoTimes, c_NoMany, c_NoPlace, c_NoSeen, c_NoPaid, c_Full, c_Nobody, c_TooMuch, c_LastOne, c_NothingLeft]) W)) := by
  refine D__law_refused.F.ok sc__law_refused (fun vs H Q E h => spL_len (n := 3) (fun xs R h => by unfold WL_refused at h; split at h <;> first | rfl | exact h.elim) h) (fun cdv A outer s H vs Q E hr h => ?_)
  refine ⟨_, (pss_cons (ps_set (i := 4) sc__law_refused.nd rfl (Or.inl rfl) (pe_lst pa_nil)) (pss_cons (Xt.ps_tryAs (i := 5) rfl rfl sc__law_refused.nd rfl rfl takesN (fun V pn xe tk => pss_one (ps_expr (Lm.pe_callL (i := 0) FL (hr.mono (by omega)) rfl (.inl rfl) (fun σ => L2N.passAt tk σ) (pa_cons (pv 1) (pa_cons (pv 2) (pa_cons (pv 3) pa_nil)))))) (.one ⟨rfl, by decide +kernel, .inl Z.g_Twice⟩ (fun _ _ _ _ _ _ _ => pss_one ps_never) (.one ⟨rfl, by decide +kernel, .inl Z.g_NotIn⟩ (fun _ _ _ _ _ _ _ => pss_one ps_never) (.one ⟨rfl, by decide +kernel, .inl Z.g_ClubError⟩ (fun a o cls d pn hz hf => suite_of (Ok := (OkC K c_Twice c_NotIn c_ClubError [c_NoState, c_NoCents, c_NoName, c_NoDeeds, c_NoTimes, c_NoMany, c_NoPlace, c_NoSeen, c_NoPaid, c_Full, c_Nobody, c_TooMuch, c_LastOne, c_NothingLeft])) (ts := fun C => _) hz hf (fun C ok hz => (pss_cons (ps_set (i := 6) sc__law_refused.nd rfl (Or.inl rfl) (pe_lst (pa_cons (pe_tup (pa_cons pe_str (pa_cons (pe_callB (call_isE ok.exc hz.zc hf) (by rfl) T.b_isinstance (by decide +kernel) (pa_cons (pv 5) (pa_cons (pe_glob (v := .ref c_NoState) (by rfl) Z.g_NoState rfl) pa_nil))) pa_nil))) (pa_cons (pe_tup (pa_cons pe_str (pa_cons (pe_callB (call_isE ok.exc hz.zc hf) (by rfl) T.b_isinstance (by decide +kernel) (pa_cons (pv 5) (pa_cons (pe_glob (v := .ref c_NoCents) (by rfl) Z.g_NoCents rfl) pa_nil))) pa_nil))) pa_nil))))
  (pss_cons (ps_set (i := 6) sc__law_refused.nd rfl (Or.inl rfl) (pe_op (un_add (K := K) rfl) (pv 6) (pe_lst (pa_cons (pe_tup (pa_cons pe_str (pa_cons (pe_callB (call_isE ok.exc hz.zc hf) (by rfl) T.b_isinstance (by decide +kernel) (pa_cons (pv 5) (pa_cons (pe_glob (v := .ref c_NoName) (by rfl) Z.g_NoName rfl) pa_nil))) pa_nil))) pa_nil))))
  (pss_cons (ps_set (i := 6) sc__law_refused.nd rfl (Or.inl rfl) (pe_op (un_add (K := K) rfl) (pv 6) (pe_lst (pa_cons (pe_tup (pa_cons pe_str (pa_cons (pe_callB (call_isE ok.exc hz.zc hf) (by rfl) T.b_isinstance (by decide +kernel) (pa_cons (pv 5) (pa_cons (pe_glob (v := .ref c_NoDeeds) (by rfl) Z.g_NoDeeds rfl) pa_nil))) pa_nil))) (pa_cons (pe_tup (pa_cons pe_str (pa_cons (pe_callB (call_isE ok.exc hz.zc hf) (by rfl) T.b_isinstance (by decide +kernel) (pa_cons (pv 5) (pa_cons (pe_glob (v := .ref c_NoTimes) (by rfl) Z.g_NoTimes rfl) pa_nil))) pa_nil))) pa_nil)))))
  (pss_cons (ps_set (i := 6) sc__law_refused.nd rfl (Or.inl rfl) (pe_op (un_add (K := K) rfl) (pv 6) (pe_lst (pa_cons (pe_tup (pa_cons pe_str (pa_cons (pe_callB (call_isE ok.exc hz.zc hf) (by rfl) T.b_isinstance (by decide +kernel) (pa_cons (pv 5) (pa_cons (pe_glob (v := .ref c_NoMany) (by rfl) Z.g_NoMany rfl) pa_nil))) pa_nil))) (pa_cons (pe_tup (pa_cons pe_str (pa_cons (pe_callB (call_isE ok.exc hz.zc hf) (by rfl) T.b_isinstance (by decide +kernel) (pa_cons (pv 5) (pa_cons (pe_glob (v := .ref c_NoPlace) (by rfl) Z.g_NoPlace rfl) pa_nil))) pa_nil))) pa_nil)))))
  (pss_cons (ps_set (i := 6) sc__law_refused.nd rfl (Or.inl rfl) (pe_op (un_add (K := K) rfl) (pv 6) (pe_lst (pa_cons (pe_tup (pa_cons pe_str (pa_cons (pe_callB (call_isE ok.exc hz.zc hf) (by rfl) T.b_isinstance (by decide +kernel) (pa_cons (pv 5) (pa_cons (pe_glob (v := .ref c_NoSeen) (by rfl) Z.g_NoSeen rfl) pa_nil))) pa_nil))) (pa_cons (pe_tup (pa_cons pe_str (pa_cons (pe_callB (call_isE ok.exc hz.zc hf) (by rfl) T.b_isinstance (by decide +kernel) (pa_cons (pv 5) (pa_cons (pe_glob (v := .ref c_NoPaid) (by rfl) Z.g_NoPaid rfl) pa_nil))) pa_nil))) pa_nil)))))
  (pss_cons (ps_set (i := 6) sc__law_refused.nd rfl (Or.inl rfl) (pe_op (un_add (K := K) rfl) (pv 6) (pe_lst (pa_cons (pe_tup (pa_cons pe_str (pa_cons (pe_callB (call_isE ok.exc hz.zc hf) (by rfl) T.b_isinstance (by decide +kernel) (pa_cons (pv 5) (pa_cons (pe_glob (v := .ref c_Full) (by rfl) Z.g_Full rfl) pa_nil))) pa_nil))) pa_nil))))
  (pss_cons (ps_set (i := 6) sc__law_refused.nd rfl (Or.inl rfl) (pe_op (un_add (K := K) rfl) (pv 6) (pe_lst (pa_cons (pe_tup (pa_cons pe_str (pa_cons (pe_callB (call_isE ok.exc hz.zc hf) (by rfl) T.b_isinstance (by decide +kernel) (pa_cons (pv 5) (pa_cons (pe_glob (v := .ref c_Nobody) (by rfl) Z.g_Nobody rfl) pa_nil))) pa_nil))) (pa_cons (pe_tup (pa_cons pe_str (pa_cons (pe_callB (call_isE ok.exc hz.zc hf) (by rfl) T.b_isinstance (by decide +kernel) (pa_cons (pv 5) (pa_cons (pe_glob (v := .ref c_TooMuch) (by rfl) Z.g_TooMuch rfl) pa_nil))) pa_nil))) pa_nil)))))
  (pss_cons (ps_set (i := 6) sc__law_refused.nd rfl (Or.inl rfl) (pe_op (un_add (K := K) rfl) (pv 6) (pe_lst (pa_cons (pe_tup (pa_cons pe_str (pa_cons (pe_callB (call_isE ok.exc hz.zc hf) (by rfl) T.b_isinstance (by decide +kernel) (pa_cons (pv 5) (pa_cons (pe_glob (v := .ref c_LastOne) (by rfl) Z.g_LastOne rfl) pa_nil))) pa_nil))) (pa_cons (pe_tup (pa_cons pe_str (pa_cons (pe_callB (call_isE ok.exc hz.zc hf) (by rfl) T.b_isinstance (by decide +kernel) (pa_cons (pv 5) (pa_cons (pe_glob (v := .ref c_NothingLeft) (by rfl) Z.g_NothingLeft rfl) pa_nil))) pa_nil))) pa_nil)))))
  (pss_one (ps_set (i := 4) sc__law_refused.nd rfl (Or.inl rfl) (pe_op (un_add (K := K) rfl) (Xp.pe_pick (i := 6) (cl := []) (hot_of hz hf) rfl (.inl rfl) rfl (by decide +kernel) rfl (by decide +kernel) (fun _ => rfl) (fun _ => rfl) (by decide +kernel) (by decide +kernel) (by decide +kernel)) (pe_lst (pa_cons (pe_callB (call_isE ok.exc hz.zc hf) (by rfl) T.b_isinstance (by decide +kernel) (pa_cons (pv 5) (pa_cons (pe_bltn (v := .ty "ValueError") (by rfl) Z.b_ValueError (by decide +kernel) rfl) pa_nil))) pa_nil))))))))))))))) .none)))) (pss_one (ps_ret (pv 4))))), fn_bodyL (n := 9) rfl (fun f c => (si_seq (si_of (ss_asg (snd_lst snd_nil) (sg_name 4))) (si_seq (sl_try (Ok := (OkC K c_Twice c_NotIn c_ClubError [c_NoState, c_NoCents, c_NoName, c_NoDeeds, c_NoTimes, c_NoMany, c_NoPlace, c_NoSeen, c_NoPaid, c_Full, c_Nobody, c_TooMuch, c_LastOne, c_NothingLeft])) (snd_cons (snd_var 1) (snd_cons (snd_var 2) (snd_cons (snd_var 3) snd_nil))) (fun C ok => ok.hits) (fun C a ok => (ss_seq (ss_asg (snd_lst (snd_cons (snd_tup (snd_cons (snd_str _ (by decide +kernel)) (snd_cons (snd_isE (i := 5) (fun _ r => r) (ok.q c_NoState (by simp))) snd_nil))) (snd_cons (snd_tup (snd_cons (snd_str _ (by decide +kernel)) (snd_cons (snd_isE (i := 5) (fun _ r => r) (ok.q c_NoCents (by simp))) snd_nil))) snd_nil))) (sg_name 6))
  (ss_seq (ss_asg (snd_op so_add (snd_var 6) (snd_lst (snd_cons (snd_tup (snd_cons (snd_str _ (by decide +kernel)) (snd_cons (snd_isE (i := 5) (fun _ r => r) (ok.q c_NoName (by simp))) snd_nil))) snd_nil))) (sg_name 6))
  (ss_seq (ss_asg (snd_op so_add (snd_var 6) (snd_lst (snd_cons (snd_tup (snd_cons (snd_str _ (by decide +kernel)) (snd_cons (snd_isE (i := 5) (fun _ r => r) (ok.q c_NoDeeds (by simp))) snd_nil))) (snd_cons (snd_tup (snd_cons (snd_str _ (by decide +kernel)) (snd_cons (snd_isE (i := 5) (fun _ r => r) (ok.q c_NoTimes (by simp))) snd_nil))) snd_nil)))) (sg_name 6))
  (ss_seq (ss_asg (snd_op so_add (snd_var 6) (snd_lst (snd_cons (snd_tup (snd_cons (snd_str _ (by decide +kernel)) (snd_cons (snd_isE (i := 5) (fun _ r => r) (ok.q c_NoMany (by simp))) snd_nil))) (snd_cons (snd_tup (snd_cons (snd_str _ (by decide +kernel)) (snd_cons (snd_isE (i := 5) (fun _ r => r) (ok.q c_NoPlace (by simp))) snd_nil))) snd_nil)))) (sg_name 6))
  (ss_seq (ss_asg (snd_op so_add (snd_var 6) (snd_lst (snd_cons (snd_tup (snd_cons (snd_str _ (by decide +kernel)) (snd_cons (snd_isE (i := 5) (fun _ r => r) (ok.q c_NoSeen (by simp))) snd_nil))) (snd_cons (snd_tup (snd_cons (snd_str _ (by decide +kernel)) (snd_cons (snd_isE (i := 5) (fun _ r => r) (ok.q c_NoPaid (by simp))) snd_nil))) snd_nil)))) (sg_name 6))
  (ss_seq (ss_asg (snd_op so_add (snd_var 6) (snd_lst (snd_cons (snd_tup (snd_cons (snd_str _ (by decide +kernel)) (snd_cons (snd_isE (i := 5) (fun _ r => r) (ok.q c_Full (by simp))) snd_nil))) snd_nil))) (sg_name 6))
  (ss_seq (ss_asg (snd_op so_add (snd_var 6) (snd_lst (snd_cons (snd_tup (snd_cons (snd_str _ (by decide +kernel)) (snd_cons (snd_isE (i := 5) (fun _ r => r) (ok.q c_Nobody (by simp))) snd_nil))) (snd_cons (snd_tup (snd_cons (snd_str _ (by decide +kernel)) (snd_cons (snd_isE (i := 5) (fun _ r => r) (ok.q c_TooMuch (by simp))) snd_nil))) snd_nil)))) (sg_name 6))
  (ss_seq (ss_asg (snd_op so_add (snd_var 6) (snd_lst (snd_cons (snd_tup (snd_cons (snd_str _ (by decide +kernel)) (snd_cons (snd_isE (i := 5) (fun _ r => r) (ok.q c_LastOne (by simp))) snd_nil))) (snd_cons (snd_tup (snd_cons (snd_str _ (by decide +kernel)) (snd_cons (snd_isE (i := 5) (fun _ r => r) (ok.q c_NothingLeft (by simp))) snd_nil))) snd_nil)))) (sg_name 6))
  (ss_asg (snd_op so_add (snd_pick (K := K) (i := 6)) (snd_lst (snd_cons (snd_isE (i := 5) (fun _ r => r) ok.v) snd_nil))) (sg_name 4)))))))))))) (si_of (ss_retV (i := 4)))))) h ?_⟩
  intro g xs R hW
  unfold WL_refused at hW
  split at hW
  rotate_left
  · exact hW.elim
  rename_i x1 x2 x3
  obtain ⟨nq3, h⟩ := hW
  walk_at "w"
  walk_at "n"
  refine ⟨by simpa only [allNq, and_true] using nq3, h _ _ (fun r x => ?_) (fun C ok r => ⟨ok, fun a => ?_⟩)⟩
  · walk_at "w"
    walk_at "n"
    exact r
  · walk_at "w"
    walk_at "n"
    walk_at "n"
    refine ⟨by simp, ?_⟩
    walk_at "n"
    refine ⟨by simp, ?_⟩
    walk_at "n"
    refine ⟨by simp, ?_⟩
    walk_at "n"
    refine ⟨by simp, ?_⟩
    walk_at "n"
    refine ⟨by simp, ?_⟩
    walk_at "n"
    refine ⟨by simp, ?_⟩
    walk_at "n"
    refine ⟨words14.zip ([c_NoState, c_NoCents, c_NoName, c_NoDeeds, c_NoTimes, c_NoMany, c_NoPlace, c_NoSeen, c_NoPaid, c_Full, c_Nobody, c_TooMuch, c_LastOne, c_NothingLeft].map (bitOf K C)), rfl, ?_⟩
    generalize ek : words14.zip ([c_NoState, c_NoCents, c_NoName, c_NoDeeds, c_NoTimes, c_NoMany, c_NoPlace, c_NoSeen, c_NoPaid, c_Full, c_Nobody, c_TooMuch, c_LastOne, c_NothingLeft].map (bitOf K C)) = pk
    have lk : pk.length ≤ 14 := by rw [← ek]; simp [words14]
    have lf := List.length_filter_le (fun q : Str × Bool => q.2) pk
    walk_at "w"
    refine ⟨by omega, ?_⟩
    walk_at "n"
    unfold kinOf at r
    rw [ek] at r
    exact r
end
/-! classes -/
theorem bit_of {K : PySem.W.Frag} {C c : Addr} {b : Bool} (h : PySem.W.kitOne K (.ref C) (.ref c) = some b) : bitOf K C c = b := by unfold bitOf; rw [h]; rfl
theorem bit_at {K : PySem.W.Frag} {C c : Addr} {b : Bool} (h : PySem.W.kitOne K (.ref C) (.ref c) = some b) : PySem.W.kitOne K (.ref C) (.ref c) = some (bitOf K C c) := by rw [bit_of h]; exact h
end Dm
/-! dict(zip(a list, a list)) -/
namespace Zd
open PySem
section
variable {prog : Program} {w : World}
/-- a zip over two lists that are as long -/
theorem arg_ll (z TI TO i1 i2 t l : Addr) (S : ZipSep2 z TI TO i1 i2 [i1, t] [i2, l]) (h1t : t ≠ i1) (h2l : l ≠ i2) (ne : TI ≠ t ∧ TI ≠ l ∧ t ≠ i2 ∧ l ≠ i1) (xs ys : Array Value) (hxy : xs.size = ys.size) :
    PairArg prog w "zip" z [z, TI, TO, i1, i2, t, l] [z, TO, i1, i2] xs.size (fun i k v => xs[i]? = some k ∧ ys[i]? = some v)
      (fun h => IsZip h z TI TO .none ∧ IsTupOf2 h TI (.ref i1) (.ref i2) ∧ IsTupOf2 h TO .none .none ∧ (h.IsListIter i1 t 0 ∧ h.IsList t xs) ∧ (h.IsListIter i2 l 0 ∧ h.IsList l ys)) where
  type := fun s ok => ⟨_, ok.1, rfl⟩
  notDict := by decide
  keep := fun h h' ⟨a, b, c, ⟨d1, d2⟩, e1, e2⟩ hk => ⟨hk _ _ a, hk _ _ b, hk _ _ c, ⟨d1.at fun o e => hk _ o e, d2.at fun o e => hk _ o e⟩, e1.at fun o e => hk _ o e, e2.at fun o e => hk _ o e⟩
  there := fun h ⟨a, b, c, ⟨⟨o1, d1, _⟩, o2, d2, _⟩, ⟨o3, d3, _⟩, o4, d4, _⟩ x hx => by
    simp only [List.mem_cons, List.not_mem_nil, or_false] at hx
    rcases hx with y | y | y | y | y | y | y <;> subst y
    · exact ⟨_, a⟩
    · exact ⟨_, b⟩
    · exact ⟨_, c⟩
    · exact ⟨_, d1⟩
    · exact ⟨_, d3⟩
    · exact ⟨_, d2⟩
    · exact ⟨_, d4⟩
  sub := fun b hb => by
    simp only [List.mem_cons, List.not_mem_nil, or_false] at hb
    rcases hb with y | y | y | y <;> subst y <;> simp
  noKeys := fun A s Q E hA ok h => getAttrOr_miss_zip ok.1 rfl rfl rfl zip_no_keys (by decide +kernel) hA h
  iter := fun A s d Q E hA ok hd hdf h => by
    obtain ⟨hz, hI, hO, s1, s2⟩ := ok
    simp only [List.mem_cons, List.not_mem_nil, or_false, not_or] at hdf
    obtain ⟨dz, dI, dO, d1, d2, dt, dl⟩ := hdf
    have hA1 : A.in1.handled = none := by simp [hA]
    have D1 := Draws.list (prog := prog) (w := w) hA1 i1 t h1t xs
    have D2 := Draws.list (prog := prog) (w := w) hA1 i2 l h2l ys
    refine wpAny_pyIter_zip hz (h z [z, TO, i1, i2] (fun i h => IsTupOf2 h TI (.ref i1) (.ref i2) ∧ (h.IsListIter i1 t i ∧ h.IsList t xs) ∧ (h.IsListIter i2 l i ∧ h.IsList l ys) ∧
      ((IsZip h z TI TO .none ∧ IsTupOf2 h TO .none .none) ∨ ∃ T f oT, IsZipHeld h z TI TO T f ∧ h.get? T = some oT ∧ (T ≠ z ∧ T ≠ i1 ∧ T ≠ i2) ∧ T ≠ d)) s.heap s.toks ?_ ⟨hI, s1, s2, .inl ⟨hz, hO⟩⟩ (fun _ _ e => e) fun b hb => .inl hb)
    refine ⟨fun hm => ?_, fun i g1 g2 st hk => ?_, fun i r Q₁ E₁ hi st hds hQ => ?_, fun r Q₁ E₁ st hQ => ?_⟩
    · simp only [List.mem_cons, List.not_mem_nil, or_false] at hm
      exact hm.elim dz fun m => m.elim dO fun m => m.elim d1 d2
    · obtain ⟨c1, c2, c3, c4⟩ := st
      refine ⟨hk _ _ (Ne.symm dI) c1, ⟨c2.1.at fun o e => hk _ o (Ne.symm d1) e, c2.2.at fun o e => hk _ o (Ne.symm dt) e⟩, ⟨c3.1.at fun o e => hk _ o (Ne.symm d2) e, c3.2.at fun o e => hk _ o (Ne.symm dl) e⟩, ?_⟩
      rcases c4 with ⟨c5, c6⟩ | ⟨T, f, oT, c5, c6, c7, c8⟩
      · exact .inl ⟨hk _ _ (Ne.symm dz) c5, hk _ _ (Ne.symm dO) c6⟩
      · exact .inr ⟨T, f, oT, hk _ _ (Ne.symm dz) c5, hk _ _ c8 c6, c7, c8⟩
    · obtain ⟨c1, c2, c3, c4⟩ := st
      have lt : ∀ {c o}, r.heap.get? c = some o → r.heap.objs.size ≠ c := fun e => Nat.ne_of_gt (Heap.lt_size e)
      have f1 : r.heap.objs.size ≠ i1 := let ⟨_, e, _⟩ := c2.1; lt e
      have f2 : r.heap.objs.size ≠ i2 := let ⟨_, e, _⟩ := c3.1; lt e
      rcases c4 with ⟨c5, c6⟩ | ⟨T, f, oT, c5, c6, c7, c8⟩
      · refine wpAny_pyNext_zipD2_item S D1 D2 c5 c1 c6 c2 c3 hi (hxy ▸ hi) fun x y h' tk q1 q2 k1 k2 k3 k4 k5 k6 k7 => ?_
        exact hQ r.heap.objs.size x y h' tk ⟨q1, q2⟩ (.inl ⟨_, k5, rfl, _, rfl⟩) ⟨k7 _ _ S.TIz S.TITO S.TIi1 S.TIi2 c1, k3, k4, .inr ⟨r.heap.objs.size, false, _, k1, k5, ⟨lt c5, f1, f2⟩, Nat.ne_of_gt hds⟩⟩
          fun c o hc e => k7 c o (fun x => hc (by simp [x])) (fun x => hc (by simp [x])) (fun x => hc (by simp [x])) (fun x => hc (by simp [x])) e
      · refine next_out S D1 D2 c5 c6 c1 c2 c3 hi (hxy ▸ hi) fun x y h' tk q1 q2 k1 k3 k4 k5 k7 => ?_
        exact hQ r.heap.objs.size x y h' tk ⟨q1, q2⟩ (.inl ⟨_, k5, rfl, _, rfl⟩) ⟨k7 _ _ S.TIz S.TIi1 S.TIi2 c1, k3, k4, .inr ⟨T, true, oT, k1, k7 _ _ c7.1 c7.2.1 c7.2.2 c6, c7, c8⟩⟩
          fun c o hc e => k7 c o (fun x => hc (by simp [x])) (fun x => hc (by simp [x])) (fun x => hc (by simp [x])) e
    · obtain ⟨c1, c2, c3, c4⟩ := st
      rcases c4 with ⟨c5, c6⟩ | ⟨T, f, oT, c5, c6, c7, c8⟩
      · exact wpAny_pyNext_zipD2_end S D1 D2 c5 c1 c6 c2 c3 (Nat.le_refl _) (by rw [hxy]; exact Nat.le_refl _) (.inl rfl) fun h' tk hk => hQ h' tk fun c o hc e => hk c o (fun x => hc (by simp [x])) (fun x => hc (by simp [x])) (fun x => hc (by simp [x])) (fun x => hc (by simp [x])) e
      · exact next_over S D1 D2 c5 c6 c1 c2 rfl fun h' hk => hQ h' r.toks fun c o hc e => hk c o (fun x => hc (by simp [x])) (fun x => hc (by simp [x])) e
end
end Zd
namespace Dm
open PySem PySem.Spec PyProof.Rows L2 Pb
def tDictZipL (K : PySem.W.Frag) (ta : TA) : TE := fun σ H Q => ta σ H fun vs H1 => ∃ (t l : Addr) (ks : List Key) (ys : List V), vs = [.ref t, .ref l] ∧ SqL K H1 t (ks.map kV) ∧ SqL K H1 l ys ∧ ks.length = ys.length ∧ ∀ p, H1 p = none → Q (.ref p) (upd H1 p (.dK (mergeK [] (ks.zip ys))))
theorem pe_dictZipL {X : Cx} {K : PySem.W.Frag} {e e2 : Expr} {ta : TA} {p p2 pos pos2 : Pos} (hc : X.calm = true) (eK : X.K = K) (hg : Gl X "dict") (hm : X.mg "dict" = none) (hv : bootBuiltins "dict" = some (.type "dict")) (hg2 : Gl X "zip") (hm2 : X.mg "zip" = none) (ha : PA X [e, e2] ta)
    (hs : starEach [e, e2] X.env = (false, eval e X.env) :: starEach [e2] X.env := by rfl) (hpl : (backTo pos2 (starEach [e2] X.env)).any (·.1) = false := by rfl)
    (hs0 : starEach [.Call (.Name "zip" p2) [e, e2] [] pos2] X.env = (false, eval (.Call (.Name "zip" p2) [e, e2] [] pos2) X.env) :: starEach [] X.env := by rfl) (hp0 : (backTo pos (starEach [] X.env)).any (·.1) = false := by rfl) :
    PE X (.Call (.Name "dict" p) [.Call (.Name "zip" p2) [e, e2] [] pos2] [] pos) (tDictZipL K ta) := by
  subst eK
  refine ⟨fun pins s σ H Q I h => ?_⟩
  refine wpAny_Call_Name_kw (ld_blt I hg hm hv (PyProof.Rows.callWith_type1 ?_ hs0 hp0) (by decide) (by decide))
  rw [hs0]
  show wpAny _ _ (spliced ((false, eval (.Call (.Name "zip" p2) [e, e2] [] pos2) X.env) :: backTo pos (starEach [] X.env))) _ _ s
  refine Calls.spliced_cons ?_
  refine Call_ (ld_blt I hg2 hm2 PyProof.Rows.boot_zip (PyProof.Rows.callWith_type1 (thn (ha.run pos2 pins s σ H _ I h) fun us s1 ⟨vs, H1, I1, r1, q1⟩ => ?_) hs hpl))
  obtain ⟨t, l, ks, ys, rfl, ht, hl, hn, q⟩ := q1
  obtain ⟨u1, u2, rfl, r2, r3⟩ := vals2 r1
  cases (show u1 = Value.ref t from r2)
  cases (show u2 = Value.ref l from r3)
  obtain ⟨xs, rx, px, hz1⟩ := I1.list ht
  obtain ⟨ys', ry, py, hz2⟩ := I1.list hl
  have lx := rx.length
  have ly := ry.length
  rw [List.length_map] at lx
  have lt : t < s1.heap.objs.size := px.lt
  have ll : l < s1.heap.objs.size := py.lt
  refine zip_begins2 (begins_list t xs.toArray) (begins_list l ys'.toArray) px.isList py.isList fun h' hz hI hO g1 g2 hsz hk => Calls.spliced_nil ?_
  have hp : (ks.zip ys').length = xs.toArray.size := by rw [List.length_zip, List.size_toArray, ← lx, ← ly, hn]; exact Nat.min_self _
  refine PySem.call_dict_pairs (knd := mixKind X.prog X.w) (kvs := ks.zip ys') (Zd.arg_ll (s1.heap.objs.size + 4) (s1.heap.objs.size + 2) (s1.heap.objs.size + 3) s1.heap.objs.size (s1.heap.objs.size + 1) t l (zip_sep _ t l lt ll) (Nat.ne_of_lt lt) (Ne.symm (apart5 ll).2.1) ⟨(apart5 lt).1.2.2, (apart5 ll).1.2.2, Ne.symm (apart5 lt).2.1, Nat.ne_of_lt ll⟩ xs.toArray ys'.toArray (by rw [List.size_toArray, List.size_toArray, ← lx, ← ly, hn])) (I.ok.hd hc)
    ⟨hz, hI, hO, ⟨⟨_, g1, rfl, rfl⟩, px.isList.at fun o e => hk _ o e⟩, ⟨_, g2, rfl, rfl⟩, py.isList.at fun o e => hk _ o e⟩ ⟨hp, fun i key v hr => ?_⟩ (by rw [List.size_toArray, ← lx, ← List.length_map (f := kV)]; exact rx.length ▸ hz1) fun h2 tk hd2 hk2 => ?_
  · obtain ⟨k, e1, e2⟩ := keys_is (P := X.prog) (w := X.w) rx (i := i) (u := key) (by have := hr.1; rwa [List.getElem?_toArray] at this)
    have e3 : ys'[i]? = some v := by have := hr.2; rwa [List.getElem?_toArray] at this
    exact ⟨k, by rw [List.getElem?_zip_eq_some]; exact ⟨e1, e3⟩, e2⟩
  · have hd3 : h2.DictOf (mixKind X.prog X.w) (s1.heap.objs.size + 5) (merged [] (ks.zip ys')) := by rw [← hsz]; exact hd2
    have hm3 : (s1.heap.objs.size + 5 == sysModules) = false := beq_eq_false_iff_ne.mpr (Nat.ne_of_gt (Nat.lt_add_right 5 I1.big))
    have hlen : (mergeK [] (ks.zip ys)).length ≤ sizeLine := by
      refine Nat.le_trans (length_mergeK (ks.zip ys) []) ?_
      rw [List.length_nil, Nat.zero_add, List.length_zip, hn, Nat.min_self]
      exact hz2
    have up : ∀ b u, s1.heap.get? b = some u → h2.get? b = some u := fun b u e => hk2 b u (old_off (Heap.lt_size e)) (hk b u e)
    show EP X pins σ Q (.ref h'.objs.size) _
    rw [hsz]
    exact ⟨.ref (s1.heap.objs.size + 5), upd H1 (s1.heap.objs.size + 5) (.dK (mergeK [] (ks.zip ys))), I1.laid (t' := tk) up (Nat.le_add_right _ _) (show ObjOk X.prog X.w _ _ _ (.dK (mergeK [] (ks.zip ys))) from ⟨hlen, hm3, merged [] (ks.zip ys'), KV.merge (zip_kv ry) .nil, hd3⟩), rfl, q _ (I1.hok.fresh (Nat.le_add_right _ _))⟩
def oZipL : OA
  | [.d (.list ks), .d (.list vs)], R => ∃ (fs : List Str) (ns : List Int), ks = fs.map PyData.str ∧ vs = ns.map PyData.int ∧ fs.length = ns.length ∧ fs.Nodup ∧ R (.dk (fs.zip ns))
  | _, _ => False
def ZipKL (xs : List Vx) (R : Vx → Prop) (_ : Box R) : Prop := oZipL xs R
theorem snd_dictZipL {K : PySem.W.Frag} {ta : TA} {wa : WA} (h : SndA ta wa) : SndE (tDictZipL K ta) (fun Γ R => wa Γ fun xs => ZipKL xs R ⟨⟩) := ⟨fun z σ H Γ R Q r w k => h.run z σ H Γ _ _ r w fun vs xs H2 e2 hs w2 => by
  unfold ZipKL oZipL at w2
  split at w2
  · obtain ⟨fs, ns, rfl, rfl, hn, nd, rr⟩ := w2
    obtain ⟨v, w, rfl, h1, h2⟩ := dv2 hs
    cases h1 with
    | lst a1 a2 a3 a4 =>
      cases h2 with
      | lst b1 b2 b3 b4 =>
        obtain ⟨e3, e4⟩ := DtAll.strs_eq a4
        have e5 := DtAll.ints_eq b4
        subst e3 e5
        refine ⟨_, _, fs.map Sum.inr, ns.map V.int, rfl, ?_, .inl (.inl b2), by rw [List.length_map, List.length_map, hn], fun p hp => ?_⟩
        · rw [List.map_map]; exact .inl (.inl a2)
        have m1 : (fs.zip ns).map (·.1) = fs := List.map_fst_zip (by omega)
        have := merge_new (fs.zip ns) [] (by rw [List.nil_append, m1]; exact nd)
        rw [List.nil_append] at this
        refine k _ (.dk (fs.zip ns)) _ (e2.trans (.new hp)) ⟨p, rfl, (r.al.up e2).ne hp, ?_, fun q hq => ?_⟩ rr
        · rw [upd_same, zip_keyed]
          exact congrArg (fun l => some (HO.dK l)) this
        · have hm : q.1 ∈ fs := by rw [← m1]; exact List.mem_map.mpr ⟨q, hq, rfl⟩
          have := e4 q.1 hm
          rw [r.n] at this
          exact this
  · exact w2.elim⟩
end Dm
/-! an own dict from texts to ints: made by dict(zip(..)), changed by d[k] = c -/
namespace Dm
open PySem PySem.Spec PyProof.Rows L2 Pb
def oNewZ (i : Nat) (Γ : Ev) (P : Post) : List Vx → Prop
  | [.d (.list ks), .d (.list vs)] => ∃ (fs : List Str) (ns : List Int), ks = fs.map PyData.str ∧ vs = ns.map PyData.int ∧ fs.length = ns.length ∧ fs.Nodup ∧ ∀ L, P.nx (Γ.set i (.ok L (fs.zip ns)))
  | _ => False
def wNewZ (i : Nat) (wa : WA) : WS := fun Γ P => wa Γ fun xs => oNewZ i Γ P xs
theorem ss_newZ {K : PySem.W.Frag} {i : Nat} {ta : TA} {wa : WA} (h : SndA ta wa) : SndS (tAsg (tDictZipL K ta) (gName i)) (wNewZ i wa) := ⟨fun f z σ H Γ D P r d w => h.run z σ H Γ _ _ r.toRp w fun vs xs H2 e2 hs w2 => by
  unfold oNewZ at w2
  split at w2
  · obtain ⟨fs, ns, rfl, rfl, hn, nd, rr⟩ := w2
    obtain ⟨v, w, rfl, h1, h2⟩ := dv2 hs
    cases h1 with
    | lst a1 a2 a3 a4 =>
      cases h2 with
      | lst b1 b2 b3 b4 =>
        obtain ⟨e3, e4⟩ := DtAll.strs_eq a4
        have e5 := DtAll.ints_eq b4
        subst e3 e5
        refine ⟨_, _, fs.map Sum.inr, ns.map V.int, rfl, ?_, .inl (.inl b2), by rw [List.length_map, List.length_map, hn], fun p hp => ?_⟩
        · rw [List.map_map]; exact .inl (.inl a2)
        have m1 : (fs.zip ns).map (·.1) = fs := List.map_fst_zip (by omega)
        have mk := merge_new (fs.zip ns) [] (by rw [List.nil_append, m1]; exact nd)
        rw [List.nil_append] at mk
        have he : upd H2 p (.dK (mergeK [] ((fs.map Sum.inr).zip (ns.map V.int)))) p = some (.dK ((fs.zip ns).map keyed)) := by
          rw [upd_same, zip_keyed]
          exact congrArg (fun l => some (HO.dK l)) mk
        have r2 := r.up e2
        refine d.nx (z.av p) _ _ _ (r2.own (s := .ok p (fs.zip ns)) hp (.new hp) ⟨_, he, fun _ e => nomatch e⟩ rfl ⟨rfl, List.mem_cons_self, (r2.al.ne hp).1, he, fun q hq => ?_⟩) (rr p)
        have hm : q.1 ∈ fs := by rw [← m1]; exact List.mem_map.mpr ⟨q, hq, rfl⟩
        have := e4 q.1 hm
        rw [r.n] at this
        exact this
  · exact w2.elim⟩
def wPutK (i : Nat) (wk we : WE) : WS := fun Γ P => match Γ[i]? with
  | some (.ok L kvs) => we Γ fun x => wk Γ fun y => match x, y with
    | .d (.int c), .d (.str a) => kvs.length < NN ∧ P.nx (Γ.set i (.ok L (putI kvs a c)))
    | _, _ => False
  | _ => False
theorem ss_putK {i : Nat} {te tk : TE} {we wk : WE} (h : SndE te we) (hk : SndE tk wk) : SndS (sDPut (tVar i) tk te) (wPutK i wk we) := ⟨fun f z σ H Γ D P r d w => by
  unfold wPutK at w
  split at w
  · rename_i L kvs e
    obtain ⟨h1, h2, h3, h4, h5⟩ := r.sl i _ e
    refine h.run z σ H Γ _ _ r.toRp w fun v x H2 e2 hv w2 => ⟨_, h1, hk.run z σ H2 Γ _ _ (r.up e2).toRp w2 fun u y H3 e3 hy w3 => ?_⟩
    split at w3
    · rename_i c a
      cases hv
      have h43 := e3.keep L _ h3 (e2.keep L _ h3 h4)
      cases hy with
      | str _ l1 =>
        rw [((r.up e2).up e3).n] at l1
        refine ⟨L, _, rfl, .inl ⟨_, Sum.inr a, h43, rfl, by rw [List.length_map]; exact Nat.lt_of_lt_of_le w3.1 NN_line, rfl⟩, d.nx z σ _ _ (Rs.mut (t := .ok L (putI kvs a c)) (fun _ e => nomatch e) ((r.up e2).up e3) e rfl rfl h2 h3 ⟨h1, h2, h3, ?_, okK_put h5 l1⟩) w3.2⟩
        rw [upd_same, put_keyed]
    · exact w3.elim
  · exact w.elim⟩
end Dm
/-! orders refused; all orders of some names -/
namespace Dm
open PySem L2 Pb
def WX_check_bills (c : Addr) : OX
  | [.d x], R, X => (withinD 0 1000000000000000000 x = true → R (.d .none)) ∧ (withinD 0 1000000000000000000 x = false → X c)
  | _, _, _ => False
def WX_check_known (c : Addr) : OX
  | [.d x], R, X => (isKnownD x = true → R (.d .none)) ∧ (isKnownD x = false → X c)
  | _, _, _ => False
def WX_orders (c d : Addr) : OX
  | [.d x, .d y], _, X => (withinD 0 1000000000000000000 x = false → X c) ∧ (withinD 0 1000000000000000000 x = true → isKnownD y = false ∧ X d)
  | _, _, _ => False
def W__law_shares : OA
  | [.d (.int b), .d (.int m)], R => (0 ≤ b ∧ 0 ≤ m ∧ m ≤ 1000) ∧ R (.fl ((sharesN b m.toNat).map PyData.int))
  | _, _ => False
def W__law_orders : OA
  | [.d (.tuple ds)], R => ∃ nm : List Str, ds = nm.map PyData.str ∧ nm.length ≤ 6 ∧ R (.d (.list ((ords nm nm.length).map encO)))
  | _, _ => False
theorem flat_take {α β : Type} (f : α → List β) (l : List α) (k : Nat) (a : α) (h : l[k]? = some a) : (l.take (k + 1)).flatMap f = (l.take k).flatMap f ++ f a := by
  rw [List.take_succ, h, List.flatMap_append]
  show _ ++ (f a ++ []) = _
  rw [List.append_nil]
local macro_rules | `(tactic| walk_at "w") => `(tactic| try simp -dsimp only [startE_0, startE_s, startE_n, posts, wNext, wSeq_e, wRet, wRetN, wDrop, wIf, wNever, wAsg, wPar, wTri, wNew, wRetF, wRetV, wApp, wExt, wSetL, wPutT, wAug, wFrz, wFrzT, wCallM, postM, wTry, wIsE, wPick, oRep, wRef, nq_rf, unF_rf, wlOne, wlCons, wChN, wTru, wNewT, wgN, wgT, wgNil, wgCons, wmNil, wmV, wmL, wmT,
  wVar, readS, wK, wOp, oI, cT, oCmp, oEqv, datOf, oIsN, oAdd, oIx_l, oIx_q, oIx_t, IxK_0, IxK_1, IxK_2, IxK_3, oIn, wNeg, wAndV, wOrV, wNotV, wTst, wNot, wAnd, wOr, wIfE, wChain, wNil, wCons, allD, wTup, wLst, wC, wNoPart, wPart, wSl, oLen, wIsi, oInt, o2I, o1, lstOf, oListC, oTupC, oDGet_e, DgK_some, dLook, dkOf, dtOf, wDGet3, isDx, wSortIt,
  wISeq, wIRng1, wIRng2, wIStr, wIEnumT, wIZip, wLc, wYes, wLock, wDc, lcE, dcE, wOnlyD, wipeE, lockS, wCall, allNq, unF_d, unF_dk, unF_dt, unF_bag, unF_fl, nq_d, nq_dk, nq_dt, nq_bag, List.map_cons, List.map_nil, List.set_cons_zero, List.set_cons_succ, List.getElem?_cons_zero, List.getElem?_cons_succ, Option.map_some, Option.map_none, true_and, and_true, decide_eq_true_eq, Bool.not_eq_true', id, if_true, Bool.true_eq_false, Bool.false_eq_true, if_false, ite_true, ite_false, NN, List.length_cons, List.length_nil, List.length_map, Nat.zero_add, Nat.reduceAdd, Nat.reduceLeDiff, and_self, cDiv, cMul, List.append_nil, List.nil_append, wRev, wFor_e, flOnly_fl, List.replicate_succ, List.replicate_zero, Bool.not_true, Bool.not_false, bodyPost, tailPost, isTru, wAssert, Bool.not_eq_false', decide_eq_false_iff_not])
local macro_rules | `(tactic| walk_at "v") => `(tactic| try simp -dsimp only [startE_0, startE_s, startE_n, posts, wNext, wSeq_e, wRet, wRetN, wDrop, wIf, wNever, wAsg, wPar, wTri, wNew, wRetF, wRetV, wApp, wExt, wSetL, wPutT, wAug, wFrz, wFrzT, wCallM, postM, wTry, wIsE, wPick, oRep, wRef, nq_rf, unF_rf, wlOne, wlCons, wChN, wTru, wNewT, wgN, wgT, wgNil, wgCons, wmNil, wmV, wmL, wmT,
  wVar, readS, wK, wOp, oI, cT, oCmp, oEqv, datOf, oIsN, oAdd, oIx_l, oIx_q, oIx_t, IxK_0, IxK_1, IxK_2, IxK_3, oIn, wNeg, wAndV, wOrV, wNotV, wTst, wNot, wAnd, wOr, wIfE, wChain, wNil, wCons, allD, wTup, wLst, wC, wNoPart, wPart, wSl, oLen, wIsi, oInt, o2I, o1, lstOf, oListC, oTupC, oDGet_e, DgK_some, dLook, dkOf, dtOf, wDGet3, isDx, wSortIt,
  wISeq, wIRng1, wIRng2, wIStr, wIEnumT, wIZip, wLc, wYes, wLock, wDc, lcE, dcE, wOnlyD, wipeE, lockS, wCall, allNq, unF_d, unF_dk, unF_dt, unF_bag, unF_fl, nq_d, nq_dk, nq_dt, nq_bag, List.map_cons, List.map_nil, List.set_cons_zero, List.set_cons_succ, List.getElem?_cons_zero, List.getElem?_cons_succ, Option.map_some, Option.map_none, true_and, and_true, decide_eq_true_eq, Bool.not_eq_true', id, if_true, Bool.true_eq_false, Bool.false_eq_true, if_false, ite_true, ite_false, NN, List.length_cons, List.length_nil, List.length_map, Nat.zero_add, Nat.reduceAdd, Nat.reduceLeDiff, and_self, cDiv, cMul, List.append_nil, List.nil_append, wRev, wFor_e, flOnly_fl, List.replicate_succ, List.replicate_zero, Bool.not_true, Bool.not_false, bodyPost, tailPost, isTru, wAssert, Bool.not_eq_false', decide_eq_false_iff_not, Hold, App, W_is_whole_within, WX_check_bills, WX_check_known, Wb, W_is_known])
local macro_rules | `(tactic| walk_at "n") => `(tactic| (refine Hold_go ?_; walk_at "w"))
section
variable {P : Program} {w : World} {K : PySem.W.Frag} {mg : Str → Option Value} {base : Heap} {k0 k1 k2 : Tok}
theorem okx_check_bills {c_ClubError c_NoState c_NoCents c_NoName c_NoDeeds c_NoTimes c_NoMany c_NoPlace c_NoSeen c_NoPaid c_Nobody c_TooMuch c_Full c_LastOne c_NothingLeft c_Twice c_NotIn : Addr} {f_check_bills : Addr} {fd_check_bills : FuncData} (D_check_bills : Df K mg "check_bills" s_check_bills ["bills"] f_check_bills fd_check_bills) {f_is_cents : Addr} {fd_is_cents : FuncData} (D_is_cents : Df K mg "is_cents" s_is_cents ["thing"] f_is_cents fd_is_cents) (G_is_cents : FnOk P w K mg base CX0 2 f_is_cents fd_is_cents ["thing"] (spW (Wb (withinD 0 1000000000000000000)))) (T : Bt mg k0 k1 k2) (Z : Cz K mg c_ClubError c_NoState c_NoCents c_NoName c_NoDeeds c_NoTimes c_NoMany c_NoPlace c_NoSeen c_NoPaid c_Nobody c_TooMuch c_Full c_LastOne c_NothingLeft c_Twice c_NotIn) : FnOk P w K mg base (L2N.CX P w) 3 f_check_bills fd_check_bills ["bills"] (spX (WX_check_bills c_NoCents)) := by
  refine okN D_check_bills.F sc_check_bills (fun vs H Q E h => spX_len (n := 1) (fun xs R X h => by unfold WX_check_bills at h; split at h <;> first | rfl | exact h.elim) h) (fun cdv A outer s H vs Q E hr h => ?_)
  refine ⟨_, (pss_one (ps_if (pt_not (pt_val (pe_call G_is_cents (hr.mono (by omega)) (by rfl) D_is_cents.g D_is_cents.F.kp D_is_cents.b .nil pass0 (pa_cons (pv 0) pa_nil)))) (pss_one (L2N.ps_raise rfl (L2N.takes_of rfl rfl rfl rfl) (L2N.pmk_own PySem.F.excBase_ValueError Z.x_NoCents Z.g_NoCents Z.k_NoCents (raises_own Z.b_NoCents Z.t_NoCents) rfl))) pss_nil)), fn_bodyX (n := 1) rfl (sx_if (snd_not (snd_tB (snd_call (snd_cons (snd_var 0) snd_nil)))) (sx_raise (C := c_NoCents)) (sx_of ss_next)) h ?_⟩
  intro xs R X hW
  unfold WX_check_bills at hW
  split at hW
  rotate_left
  · exact hW.elim
  rename_i x
  obtain ⟨h1, h2⟩ := hW
  walk_at "v"
  cases q : withinD 0 1000000000000000000 x with
  | false => exact h2 q
  | true => exact h1 q
theorem okx_check_known {c_ClubError c_NoState c_NoCents c_NoName c_NoDeeds c_NoTimes c_NoMany c_NoPlace c_NoSeen c_NoPaid c_Nobody c_TooMuch c_Full c_LastOne c_NothingLeft c_Twice c_NotIn : Addr} {f_check_known : Addr} {fd_check_known : FuncData} (D_check_known : Df K mg "check_known" s_check_known ["known"] f_check_known fd_check_known) {f_is_known : Addr} {fd_is_known : FuncData} (D_is_known : Df K mg "is_known" s_is_known ["thing"] f_is_known fd_is_known) (G_is_known : FnOk P w K mg base CX0 3 f_is_known fd_is_known ["thing"] (spW W_is_known)) (T : Bt mg k0 k1 k2) (Z : Cz K mg c_ClubError c_NoState c_NoCents c_NoName c_NoDeeds c_NoTimes c_NoMany c_NoPlace c_NoSeen c_NoPaid c_Nobody c_TooMuch c_Full c_LastOne c_NothingLeft c_Twice c_NotIn) : FnOk P w K mg base (L2N.CX P w) 4 f_check_known fd_check_known ["known"] (spX (WX_check_known c_NoPaid)) := by
  refine okN D_check_known.F sc_check_known (fun vs H Q E h => spX_len (n := 1) (fun xs R X h => by unfold WX_check_known at h; split at h <;> first | rfl | exact h.elim) h) (fun cdv A outer s H vs Q E hr h => ?_)
  refine ⟨_, (pss_one (ps_if (pt_not (pt_val (pe_call G_is_known (hr.mono (by omega)) (by rfl) D_is_known.g D_is_known.F.kp D_is_known.b .nil pass0 (pa_cons (pv 0) pa_nil)))) (pss_one (L2N.ps_raise rfl (L2N.takes_of rfl rfl rfl rfl) (L2N.pmk_own PySem.F.excBase_ValueError Z.x_NoPaid Z.g_NoPaid Z.k_NoPaid (raises_own Z.b_NoPaid Z.t_NoPaid) rfl))) pss_nil)), fn_bodyX (n := 1) rfl (sx_if (snd_not (snd_tB (snd_call (snd_cons (snd_var 0) snd_nil)))) (sx_raise (C := c_NoPaid)) (sx_of ss_next)) h ?_⟩
  intro xs R X hW
  unfold WX_check_known at hW
  split at hW
  rotate_left
  · exact hW.elim
  rename_i x
  obtain ⟨h1, h2⟩ := hW
  walk_at "v"
  cases q : isKnownD x with
  | false => exact h2 q
  | true => exact h1 q
theorem okx_orders {c_ClubError c_NoState c_NoCents c_NoName c_NoDeeds c_NoTimes c_NoMany c_NoPlace c_NoSeen c_NoPaid c_Nobody c_TooMuch c_Full c_LastOne c_NothingLeft c_Twice c_NotIn : Addr} {f_orders : Addr} {fd_orders : FuncData} (D_orders : Df K mg "orders" s_orders ["bills", "known"] f_orders fd_orders) {f_share : Addr} {fd_share : FuncData} (D_share : Df K mg "share" s_share ["bills", "many", "place"] f_share fd_share) {f_factorial : Addr} {fd_factorial : FuncData} (D_factorial : Df K mg "factorial" s_factorial ["many"] f_factorial fd_factorial) {f_check_bills : Addr} {fd_check_bills : FuncData} (D_check_bills : Df K mg "check_bills" s_check_bills ["bills"] f_check_bills fd_check_bills) {f_check_known : Addr} {fd_check_known : FuncData} (D_check_known : Df K mg "check_known" s_check_known ["known"] f_check_known fd_check_known) (G_share : FnOk P w K mg base CX0 1 f_share fd_share ["bills", "many", "place"] (spW W_share)) (G_factorial : FnOk P w K mg base CX0 1 f_factorial fd_factorial ["many"] (spW W_factorial)) (GX_check_bills : FnOk P w K mg base (L2N.CX P w) 3 f_check_bills fd_check_bills ["bills"] (spX (WX_check_bills c_NoCents))) (GX_check_known : FnOk P w K mg base (L2N.CX P w) 4 f_check_known fd_check_known ["known"] (spX (WX_check_known c_NoPaid))) (T : Bt mg k0 k1 k2) (Z : Cz K mg c_ClubError c_NoState c_NoCents c_NoName c_NoDeeds c_NoTimes c_NoMany c_NoPlace c_NoSeen c_NoPaid c_Nobody c_TooMuch c_Full c_LastOne c_NothingLeft c_Twice c_NotIn) : FnOk P w K mg base (L2N.CX P w) 5 f_orders fd_orders ["bills", "known"] (spX (WX_orders c_NoCents c_NoPaid)) := by
  refine okN D_orders.F sc_orders (fun vs H Q E h => spX_len (n := 2) (fun xs R X h => by unfold WX_orders at h; split at h <;> first | rfl | exact h.elim) h) (fun cdv A outer s H vs Q E hr h => ?_)
  refine ⟨_, (pss_cons (ps_expr (pe_callS GX_check_bills (hr.mono (by omega)) (by rfl) D_check_bills.g D_check_bills.F.kp D_check_bills.b (fun σ => L2N.passAt (L2N.takes_of rfl rfl rfl rfl) σ) (pa_cons (pv 0) pa_nil)))
  (pss_cons (ps_expr (pe_callS GX_check_known (hr.mono (by omega)) (by rfl) D_check_known.g D_check_known.F.kp D_check_known.b (fun σ => L2N.passAt (L2N.takes_of rfl rfl rfl rfl) σ) (pa_cons (pv 1) pa_nil)))
  (pss_cons (ps_set (i := 2) sc_orders.nd rfl (Or.inr rfl) (pe_callB (un_len (K := K) rfl) (by rfl) T.b_len (by decide +kernel) (pa_cons (pv 1) pa_nil)))
  (pss_cons (ps_set (i := 3) sc_orders.nd rfl (Or.inl rfl) (pe_callB (un_sorted (K := K) hr.units rfl) (by rfl) T.b_sorted (by decide +kernel) (pa_cons (pe_lc (own := [("name", 5), ("cents", 6)]) (g := gTup K 2 (gCons (gName 5) (gCons (gName 6) gNil))) (by rfl) sc_orders.nd (pi_seq (K := K) rfl (pv 1)) (blkOk_by (own := [("name", 5), ("cents", 6)]) (N := N_orders) (sc := defScope s_orders) (by decide +kernel)) (fun _ _ _ _ _ => (pg_tup (by rfl) (pgs_cons (pg_name (i := 5) sc_orders.nd rfl (Or.inl rfl)) (pgs_cons (pg_name (i := 6) sc_orders.nd rfl (Or.inl rfl)) pgs_nil)))) (fun _ _ _ _ _ => pts_nil) (fun _ _ _ _ _ => (pe_tup (pa_cons (pe_un un_neg (pv 6)) (pa_cons (pv 5) pa_nil))))) pa_nil)))
  (pss_cons (ps_if (pt_cmpR (kk_op_neD (K := K) hr.units rfl) (pe_lc (own := [("less", 7), ("name", 5)]) (g := gTup K 2 (gCons (gName 7) (gCons (gName 5) gNil))) (by rfl) sc_orders.nd (pi_seq (K := K) rfl (pv 3)) (blkOk_by (own := [("less", 7), ("name", 5)]) (N := N_orders) (sc := defScope s_orders) (by decide +kernel)) (fun _ _ _ _ _ => (pg_tup (by rfl) (pgs_cons (pg_name (i := 7) sc_orders.nd rfl (Or.inl rfl)) (pgs_cons (pg_name (i := 5) sc_orders.nd rfl (Or.inl rfl)) pgs_nil)))) (fun _ _ _ _ _ => pts_nil) (fun _ _ _ _ _ => (pe_un un_neg (pv 7)))) (pe_lc (own := [("place", 8)]) (g := gName 8) (by rfl) sc_orders.nd (pi_range1 (by rfl) T.b_range (pa_cons (pv 2) pa_nil)) (blkOk_by (own := [("place", 8)]) (N := N_orders) (sc := defScope s_orders) (by decide +kernel)) (fun _ _ _ _ _ => (pg_name (i := 8) sc_orders.nd rfl (Or.inl rfl))) (fun _ _ _ _ _ => pts_nil) (fun _ _ _ _ _ => (pe_call G_share (hr.mono (by omega)) (by rfl) D_share.g D_share.F.kp D_share.b .nil pass0 (pa_cons (pv 0) (pa_cons (pv 2) (pa_cons (pv 8) pa_nil)))))) (nomark _))
  (pss_one (ps_ret (pe_tup (pa_cons pe_int (pa_cons pe_non pa_nil)))))
  pss_nil)
  (pss_cons (ps_set (i := 4) sc_orders.nd rfl (Or.inl rfl) (pe_op op_mod (pv 0) (pv 2)))
  (pss_one (ps_ret (pe_tup (pa_cons (pe_op op_mul (pe_call G_factorial (hr.mono (by omega)) (by rfl) D_factorial.g D_factorial.F.kp D_factorial.b .nil pass0 (pa_cons (pv 4) pa_nil)) (pe_call G_factorial (hr.mono (by omega)) (by rfl) D_factorial.g D_factorial.F.kp D_factorial.b .nil pass0 (pa_cons (pe_op op_sub (pv 2) (pv 4)) pa_nil))) (pa_cons (pe_callTy (un_tuple (K := K) rfl) (by rfl) T.b_tuple (by decide +kernel) (pa_cons (pe_lc (own := [("less", 7), ("name", 5)]) (g := gTup K 2 (gCons (gName 7) (gCons (gName 5) gNil))) (by rfl) sc_orders.nd (pi_seq (K := K) rfl (pv 3)) (blkOk_by (own := [("less", 7), ("name", 5)]) (N := N_orders) (sc := defScope s_orders) (by decide +kernel)) (fun _ _ _ _ _ => (pg_tup (by rfl) (pgs_cons (pg_name (i := 7) sc_orders.nd rfl (Or.inl rfl)) (pgs_cons (pg_name (i := 5) sc_orders.nd rfl (Or.inl rfl)) pgs_nil)))) (fun _ _ _ _ _ => pts_nil) (fun _ _ _ _ _ => (pv 5))) pa_nil)) pa_nil))))))))))), fn_bodyX (n := 9) rfl (sx_seq (sx_check (snd_cons (snd_var 0) snd_nil))
  (sx_seq (sx_check (snd_cons (snd_var 1) snd_nil))
  (sx_seq (sx_of (ss_asg (snd_cb sc_len (snd_cons (snd_var 1) snd_nil)) (sg_name 2)))
  (sx_seq (sx_of (ss_asg (snd_cb sc_sorted (snd_cons (snd_lc (snd_iSeq (snd_var 1)) (sg_tup (n := 2) (sg_cons (sg_name 5) (sg_cons (sg_name 6) sg_nil))) (by decide) snd_yes (snd_tup (snd_cons (snd_neg (snd_var 6)) (snd_cons (snd_var 5) snd_nil)))) snd_nil)) (sg_name 3)))
  (sx_seq (sx_of (ss_if (snd_tTest (snd_op so_ne (snd_lc (snd_iSeq (snd_var 3)) (sg_tup (n := 2) (sg_cons (sg_name 7) (sg_cons (sg_name 5) sg_nil))) (by decide) snd_yes (snd_neg (snd_var 7))) (snd_lc (snd_iRng1 (snd_cons (snd_var 2) snd_nil)) (sg_name 8) (by decide) snd_yes (snd_call (snd_cons (snd_var 0) (snd_cons (snd_var 2) (snd_cons (snd_var 8) snd_nil)))))))
  (ss_ret (snd_tup (snd_cons (snd_int _) (snd_cons snd_non snd_nil))))
  ss_next))
  (sx_seq (sx_of (ss_asg (snd_op so_mod (snd_var 0) (snd_var 2)) (sg_name 4)))
  (sx_of (ss_ret (snd_tup (snd_cons (snd_op so_mul (snd_call (snd_cons (snd_var 4) snd_nil)) (snd_call (snd_cons (snd_op so_sub (snd_var 2) (snd_var 4)) snd_nil))) (snd_cons (snd_cb sc_tuple (snd_cons (snd_lc (snd_iSeq (snd_var 3)) (sg_tup (n := 2) (sg_cons (sg_name 7) (sg_cons (sg_name 5) sg_nil))) (by decide) snd_yes (snd_var 5)) snd_nil)) snd_nil))))))))))) h ?_⟩
  intro xs R X hW
  unfold WX_orders at hW
  split at hW
  rotate_left
  · exact hW.elim
  rename_i x y
  obtain ⟨h1, h2⟩ := hW
  walk_at "v"
  refine ⟨fun h => ?_, h1⟩
  obtain ⟨h3, h4⟩ := h2 h
  walk_at "v"
  exact ⟨fun g => (by rw [h3] at g; cases g), fun _ => h4⟩
abbrev s__law_shares : Stmt := topS 43
abbrev N__law_shares : List Str := ["bills", "many", "over", "place"]
theorem sc__law_shares : FnScope N__law_shares ["bills", "many"] (defScope s__law_shares) := ⟨rfl, rfl, rfl, by decide +kernel, rfl, by decide +kernel, by decide +kernel⟩
theorem ok__law_shares {f__law_shares : Addr} {fd__law_shares : FuncData} (D__law_shares : Df K mg "_law_shares" s__law_shares ["bills", "many"] f__law_shares fd__law_shares) (T : Bt mg k0 k1 k2) : FnOk P w K mg base CX0 1 f__law_shares fd__law_shares ["bills", "many"] (spW W__law_shares) := by
  refine D__law_shares.F.ok sc__law_shares (fun vs H Q E h => spW_len (n := 2) (fun xs R h => by unfold W__law_shares at h; split at h <;> first | rfl | exact h.elim) h) (fun cdv A outer s H vs Q E hr h => ?_)
  refine ⟨_, (pss_cons (ps_if (pt_cmpR (kk_op_eqD (K := K) hr.units rfl) (pv 1) pe_int (nomark _))
  (pss_one (ps_ret (pe_lst pa_nil)))
  pss_nil)
  (pss_cons (ps_set (i := 2) sc__law_shares.nd rfl (Or.inr rfl) (pe_op op_mod (pv 0) (pv 1)))
  (pss_one (ps_ret (pe_lc (own := [("place", 3)]) (g := gName 3) (by rfl) sc__law_shares.nd (pi_range1 (by rfl) T.b_range (pa_cons (pv 1) pa_nil)) (blkOk_by (own := [("place", 3)]) (N := N__law_shares) (sc := defScope s__law_shares) (by decide +kernel)) (fun _ _ _ _ _ => (pg_name (i := 3) sc__law_shares.nd rfl (Or.inl rfl))) (fun _ _ _ _ _ => pts_nil) (fun _ _ _ _ _ => (pe_op (un_add (K := K) rfl) (pe_op op_fdivW (pe_op op_sub (pv 0) (pv 2)) (pv 1)) (pe_callTy un_int (by rfl) T.b_int (by decide +kernel) (pa_cons (pe_cmpR un_lt (pv 3) (pv 2) (nomark _)) pa_nil))))))))), fn_body (n := 4) rfl (ss_seq (ss_if (snd_tTest (snd_op so_eq (snd_var 1) (snd_int _)))
  (ss_retF sf_nil)
  ss_next)
  (ss_seq (ss_asg (snd_op so_mod (snd_var 0) (snd_var 1)) (sg_name 2))
  (ss_retF (sf_lc (snd_iRng1 (snd_cons (snd_var 1) snd_nil)) (sg_name 3) (by decide) snd_yes (snd_op so_add (snd_op so_div (snd_op so_sub (snd_var 0) (snd_var 2)) (snd_var 1)) (snd_cb sc_int (snd_cons (snd_op so_cmp (snd_var 3) (snd_var 2)) snd_nil))))))) h ?_⟩
  intro xs R hW
  unfold W__law_shares at hW
  split at hW
  rotate_left
  · exact hW.elim
  rename_i b m
  obtain ⟨⟨b0, m0, m1⟩, r⟩ := hW
  walk_at "w"
  rw [eqv_int]
  refine ⟨d_int _, d_int _, ?_⟩
  by_cases h : m = 0
  · rw [decide_eq_true h]
    subst h
    exact r
  rw [decide_eq_false h]
  walk_at "w"
  walk_at "n"
  refine ⟨by omega, ?_⟩
  walk_at "w"
  walk_at "n"
  refine ⟨⟨by omega, by omega⟩, by rw [upTo_len]; omega, ?_⟩
  unfold upTo
  refine lcW_of (g := fun (i : Nat) => .int (shareZ b m.toNat i)) (fun i hi S hS => ?_) (by unfold sharesN at r; rw [List.map_map] at r; exact r)
  have him := List.mem_range.mp hi
  have hm : ((m.toNat : Nat) : Int) = m := by omega
  walk_at "w"
  refine ⟨by omega, ?_⟩
  rw [share_eq b0 him, hm] at hS
  have e : (b - b % m) / m = b / m := by
    have h1 := Int.mul_ediv_add_emod b m
    rw [show b - b % m = m * (b / m) by omega, Int.mul_ediv_cancel_left _ h]
  rw [e, Int.zero_add]
  exact hS
abbrev s__law_orders : Stmt := topS 45
abbrev N__law_orders : List Str := ["names", "found", "turn", "longer", "order", "name"]
theorem sc__law_orders : FnScope N__law_orders ["names"] (defScope s__law_orders) := ⟨rfl, rfl, rfl, by decide +kernel, rfl, by decide +kernel, by decide +kernel⟩
theorem ok__law_orders {f__law_orders : Addr} {fd__law_orders : FuncData} (D__law_orders : Df K mg "_law_orders" s__law_orders ["names"] f__law_orders fd__law_orders) (T : Bt mg k0 k1 k2) : FnOk P w K mg base CX0 1 f__law_orders fd__law_orders ["names"] (spW W__law_orders) := by
  refine D__law_orders.F.ok sc__law_orders (fun vs H Q E h => spW_len (n := 1) (fun xs R h => by unfold W__law_orders at h; split at h <;> first | rfl | exact h.elim) h) (fun cdv A outer s H vs Q E hr h => ?_)
  refine ⟨_, (pss_cons (ps_set (i := 1) sc__law_orders.nd rfl (Or.inl rfl) (pe_lst (pa_cons (pe_tup pa_nil) pa_nil)))
  (pss_cons (ps_for PassesOwn.never rfl (pi_seq (K := K) rfl (pv 0)) (pg_name (i := 2) sc__law_orders.nd rfl (Or.inl rfl))
  (pss_cons (ps_set (i := 3) sc__law_orders.nd rfl (Or.inl rfl) (pe_lst pa_nil))
  (pss_cons (ps_for PassesOwn.never rfl (pi_seq (K := K) rfl (pv 1)) (pg_name (i := 4) sc__law_orders.nd rfl (Or.inr rfl))
  (pss_one (ps_set (i := 3) sc__law_orders.nd rfl (Or.inl rfl) (pe_op (un_add (K := K) rfl) (pv 3) (pe_lc (own := [("name", 5)]) (g := gName 5) (by rfl) sc__law_orders.nd (pi_seq (K := K) rfl (pv 0)) (blkOk_by (own := [("name", 5)]) (N := N__law_orders) (sc := defScope s__law_orders) (by decide +kernel)) (fun _ _ _ _ _ => (pg_name (i := 5) sc__law_orders.nd rfl (Or.inl rfl))) (fun _ _ _ _ _ => (pts_one (pt_cmpR (un_notIn (K := K) rfl) (pv 5) (pv 4) (by rfl)))) (fun _ _ _ _ _ => (pe_op (un_add (K := K) rfl) (pv 4) (pe_tup (pa_cons (pv 5) pa_nil)))))))))
  (pss_one (ps_set (i := 1) sc__law_orders.nd rfl (Or.inl rfl) (pv 3))))))
  (pss_one (ps_ret (pv 1))))), fn_body (n := 6) rfl (ss_seq (ss_asg (snd_lst (snd_cons (snd_tup snd_nil) snd_nil)) (sg_name 1))
  (ss_seq (ss_for (snd_iSeq (snd_var 0)) (sg_name 2)
  (ss_seq (ss_asg (snd_lst snd_nil) (sg_name 3))
  (ss_seq (ss_for (snd_iSeq (snd_var 1)) (sg_name 4)
  (ss_asg (snd_op so_add (snd_var 3) (snd_lc (snd_iSeq (snd_var 0)) (sg_name 5) (by decide) (snd_tTest (snd_op so_notIn (snd_var 5) (snd_var 4))) (snd_op so_add (snd_var 4) (snd_tup (snd_cons (snd_var 5) snd_nil))))) (sg_name 3)))
  (ss_asg (snd_var 3) (sg_name 1)))))
  (ss_retV (i := 1)))) h ?_⟩
  intro xs R hW
  unfold W__law_orders at hW
  split at hW
  rotate_left
  · exact hW.elim
  rename_i ds
  obtain ⟨nm, rfl, n6, r⟩ := hW
  walk_at "w"
  walk_at "n"
  have few : ∀ k, k ≤ nm.length → (ords nm k).length ≤ 46656 := fun k hk => Nat.le_trans (ords_le n6 k (by omega)) (Nat.pow_le_pow_right (by decide) (show k ≤ 6 by omega))
  refine for_by (fun k Γ' => ∃ s2 s3 s4 : Slot, Γ' = [Slot.v (Vx.d (PyData.tuple (List.map PyData.str nm))), Slot.v (Vx.d (PyData.list ((ords nm k).map encO))), s2, s3, s4, Slot.no]) ⟨_, _, _, rfl⟩ (fun k d Γ' hk hI => ?_) (fun Γ' hI => ?_)
  · obtain ⟨s2, s3, s4, rfl⟩ := hI
    have kl := (List.getElem?_eq_some_iff.mp hk).1
    rw [List.length_map] at kl
    have fk := few k (by omega)
    have fk1 := few (k + 1) (by omega)
    walk_at "w"
    walk_at "n"
    refine for_by (fun j Γ' => ∃ s2 s4 : Slot, Γ' = [Slot.v (Vx.d (PyData.tuple (List.map PyData.str nm))), Slot.v (Vx.d (PyData.list ((ords nm k).map encO))), s2, Slot.v (Vx.d (PyData.list ((((ords nm k).take j).flatMap (ext nm)).map encO))), s4, Slot.no]) ⟨_, _, rfl⟩ (fun j d Γ' hj hJ => ?_) (fun Γ' hJ => ?_)
    · obtain ⟨s2, s4, rfl⟩ := hJ
      have jl := (List.getElem?_eq_some_iff.mp hj).1
      rw [List.length_map] at jl
      obtain ⟨o, ho⟩ : ∃ o, (ords nm k)[j]? = some o := ⟨_, List.getElem?_eq_getElem jl⟩
      rw [List.getElem?_map, ho] at hj
      cases hj
      have ol := (mem_ords (List.mem_of_getElem? ho)).1
      have tl : (((ords nm k).take j).flatMap (ext nm)).length ≤ (ords nm (k + 1)).length := by
        rw [ords, ← List.take_append_drop j (ords nm k), List.flatMap_append, List.length_append, List.take_append_drop]
        exact Nat.le_add_right _ _
      have el := ext_len nm o
      simp only [encO]
      walk_at "w"
      refine ⟨by omega, lcW_if (p := fun x => !decide (x ∈ o)) (g := fun x => encO (o ++ [x])) (fun x hx S hS => ?_) ?_⟩
      · walk_at "w"
        refine ⟨rfl, by rw [List.all_map]; exact List.all_eq_true.mpr fun _ _ => rfl, ?_⟩
        rw [inD_strs]
        by_cases h : x ∈ o
        · rw [decide_eq_true h] at hS ⊢
          exact hS
        · rw [decide_eq_false h] at hS ⊢
          refine ⟨by omega, ?_⟩
          unfold encO at hS
          rw [List.map_append] at hS
          exact hS
      walk_at "w"
      have fl : (nm.filter fun x => !decide (x ∈ o)).length ≤ nm.length := List.length_filter_le _ _
      have e : (((ords nm k).take (j + 1)).flatMap (ext nm)).map encO = (((ords nm k).take j).flatMap (ext nm)).map encO ++ (nm.filter fun x => !decide (x ∈ o)).map fun x => encO (o ++ [x]) := by
        rw [flat_take _ _ _ _ ho, List.map_append]
        congr 1
        unfold ext
        rw [List.map_map]
        rfl
      rw [← e]
      exact ⟨by omega, _, _, rfl⟩
    · obtain ⟨s2, s4, rfl⟩ := hJ
      rw [List.length_map, List.take_length]
      walk_at "w"
      walk_at "n"
      exact ⟨_, _, _, rfl⟩
  · obtain ⟨s2, s3, s4, rfl⟩ := hI
    rw [List.length_map]
    walk_at "w"
    walk_at "n"
    exact r
end
end Dm
/-! zip(a tuple, a list) walked; enumerate(a list) over data -/
namespace Zd
open PySem PySem.Spec PyProof.Rows L2 Pb Dm
structure MixAt (K : PySem.W.Frag) (H : Hp) (a b : Addr) (xs ys : List V) : Prop where
  t : SqT K H a xs
  l : SqL K H b ys
/-- a tuple at a, a list at b -/
def ItM (K : PySem.W.Frag) (a b : Addr) : It where
  go i H := ∃ xs ys, MixAt K H a b xs ys ∧ i < xs.length ∧ i < ys.length
  yld i H v H' := ∃ T x y, (v = .ref T ∧ H T = none ∧ H' = upd H T (.tup [x, y])) ∧ ∀ xs ys, MixAt K H a b xs ys → xs[i]? = some x ∧ ys[i]? = some y
  stop i H := ∃ xs ys, MixAt K H a b xs ys ∧ i = min xs.length ys.length
structure StM (z TI TO i1 i2 a b : Addr) (i : Nat) (h : Heap) : Prop where
  zp : IsZip h z TI TO .none
  ti : IsTupOf2 h TI (.ref i1) (.ref i2)
  to : ∃ x y, IsTupOf2 h TO x y
  c1 : h.IsTupleIter i1 a i
  c2 : h.IsListIter i2 b i
theorem StM.all {z TI TO i1 i2 a b c : Addr} {i : Nat} {h : Heap} (st : StM z TI TO i1 i2 a b i h) (m : c ∈ [z, TI, TO, i1, i2]) : ∃ o, h.get? c = some o ∧ ∀ v, o.data ≠ .cell v := by
  obtain ⟨p1, p2, ⟨x, y, p3⟩, ⟨o4, p4, _, d4⟩, ⟨o5, p5, _, d5⟩⟩ := st
  simp only [List.mem_cons, List.not_mem_nil, or_false] at m
  rcases m with e | e | e | e | e <;> subst e
  · exact ⟨_, p1, fun v q => nomatch q⟩
  · exact ⟨_, p2, fun v q => nomatch q⟩
  · exact ⟨_, p3, fun v q => nomatch q⟩
  · exact ⟨_, p4, fun v q => by rw [d4] at q; cases q⟩
  · exact ⟨_, p5, fun v q => by rw [d5] at q; cases q⟩
theorem off5 {c z TI TO i1 i2 : Addr} (h : c ∉ [z, TI, TO, i1, i2]) : (c ≠ z ∧ c ≠ TO) ∧ c ≠ i1 ∧ c ≠ i2 := by
  simp only [List.mem_cons, List.not_mem_nil, or_false, not_or] at h
  exact ⟨⟨h.1, h.2.2.1⟩, h.2.2.2.1, h.2.2.2.2⟩
theorem turn_mix {P : Program} {w : World} {K : PySem.W.Frag} {elts : List Expr} {kk : Nat} {tpos : Pos} {a b z TI TO i1 i2 : Addr} (S : ZipSep2 z TI TO i1 i2 [i1, a] [i2, b]) (na : a ≠ i1) (nb : b ≠ i2) :
    Turn P w K (.Tuple elts kk tpos) (ItM K a b) [z, TI, TO, i1, i2] z (StM z TI TO i1 i2 a b) := by
  refine ⟨List.mem_cons_self, fun i h st c m => st.all m, fun i h h' st k => ?_, ?_, ?_, fun A i s Q E st q => wpAny_pyIter_zip st.zp q⟩
  · obtain ⟨p1, p2, ⟨x, y, p3⟩, p4, p5⟩ := st
    exact ⟨k _ (by simp) _ p1, k _ (by simp) _ p2, ⟨x, y, k _ (by simp) _ p3⟩, p4.at fun o q => k _ (by simp) o q, p5.at fun o q => k _ (by simp) o q⟩
  · rintro X rfl rfl rfl hc i pins s σ H E I hf st ⟨xs, ys, mx, g1, g2⟩
    have there := fun c (m : c ∈ [z, TI, TO, i1, i2]) => st.all m
    obtain ⟨p1, p2, ⟨x0, y0, p3⟩, p4, p5⟩ := st
    obtain ⟨us, ru, pu, _⟩ := I.tuple mx.t
    obtain ⟨ws, rw', pw, _⟩ := I.list mx.l
    have hh : X.A.in1.handled = none := by simp [I.ok.hd hc]
    have lu := ru.length
    have lw := rw'.length
    refine wpAny_pyNext_zipD2_item S (Draws.tuple hh i1 a na us.toArray) (Draws.list hh i2 b nb ws.toArray) p1 p2 p3 ⟨p4, pu⟩ ⟨p5, pw.isList⟩ (by rw [List.size_toArray]; omega) (by rw [List.size_toArray]; omega) fun v1 v2 h' tk e1 e2 q1 q2 q3 q4 q5 q6 q7 => ?_
    refine ⟨_, rfl, wpAny_letOwnedTupleGo_zip (s := { s with heap := h', toks := tk }) q1 fun h2 z2 sb => ?_⟩
    obtain ⟨u1, hu1, r1⟩ := ru.get (List.getElem?_eq_getElem g1)
    obtain ⟨u2, hu2, r2⟩ := rw'.get (List.getElem?_eq_getElem g2)
    rw [List.getElem?_toArray] at e1 e2
    obtain rfl : u1 = v1 := Option.some.inj (hu1.symm.trans e1)
    obtain rfl : u2 = v2 := Option.some.inj (hu2.symm.trans e2)
    have big : ∀ c, c ∈ [z, TI, TO, i1, i2] → s.heap.objs.size ≠ c := fun c m => by
      obtain ⟨o, ho, _⟩ := there c m
      exact Nat.ne_of_gt (Heap.lt_size ho)
    have old : ∀ c o, c ≠ z → h'.get? c = some o → h2.get? c = some o := fun c o n e => (sb.2 c n).trans e
    have tp : h2.get? s.heap.objs.size = some { cls := .type "tuple", data := .seq #[u1, u2] } := old _ _ (big _ (by simp)) q5
    have I2 : Inv X pins σ (upd H s.heap.objs.size (.tup [xs[i], ys[i]])) { s with heap := h2, toks := tk } :=
      I.turnedNew (ch := [z, TI, TO, i1, i2]) (fun c o m e => by
        obtain ⟨⟨n1, n2⟩, n3, n4⟩ := off5 m
        exact old c o n1 (q7 c o n1 n2 n3 n4 e)) hf (Nat.le_refl _) ⟨by show 2 ≤ sizeLine; decide, [u1, u2], .cons r1 (.cons r2 .nil), ⟨_, tp, rfl, _, rfl⟩⟩
    refine ⟨.ref s.heap.objs.size, _, I2, rfl, ⟨s.heap.objs.size, xs[i], ys[i], ⟨rfl, I.hok.fresh (Nat.le_refl _), rfl⟩, fun xs' ys' m => ?_⟩, ⟨z2, old _ _ S.TIz (q7 _ _ S.TIz S.TITO S.TIi1 S.TIi2 p2), ⟨u1, u2, old _ _ S.TOz q2⟩, q3.1.at fun o e => old _ o (fun n => by have := S.zf1; rw [← n] at this; simp at this) e, q4.1.at fun o e => old _ o (fun n => by have := S.zf2; rw [← n] at this; simp at this) e⟩, fun c m => ?_⟩
    · rw [I.tuple_inj m.t mx.t, I.list_inj m.l mx.l]
      exact ⟨List.getElem?_eq_getElem g1, List.getElem?_eq_getElem g2⟩
    · rw [upd_ne (Ne.symm (big c m))]
      exact (hf c m).1
  · rintro X rfl rfl rfl hc i pins s σ H E I hf st ⟨xs, ys, mx, rfl⟩
    obtain ⟨p1, p2, ⟨x0, y0, p3⟩, p4, p5⟩ := st
    obtain ⟨us, ru, pu, _⟩ := I.tuple mx.t
    obtain ⟨ws, rw', pw, _⟩ := I.list mx.l
    have hh : X.A.in1.handled = none := by simp [I.ok.hd hc]
    have lu := ru.length
    have lw := rw'.length
    refine wpAny_pyNext_zipD2_end S (Draws.tuple hh i1 a na us.toArray) (Draws.list hh i2 b nb ws.toArray) p1 p2 p3 ⟨p4, pu⟩ ⟨p5, pw.isList⟩ (by rw [List.size_toArray]; omega) (by rw [List.size_toArray]; omega) (by rw [List.size_toArray, List.size_toArray]; omega) fun h' tk q7 => ?_
    refine ⟨rfl, I.turnedL (ch := [z, TI, TO, i1, i2]) (fun c o m e => ?_) hf⟩
    obtain ⟨⟨n1, n2⟩, n3, n4⟩ := off5 m
    exact q7 c o n1 n2 n3 n4 e
def iMix (K : PySem.W.Frag) (ta : TA) : TI := fun σ H R => ta σ H fun vs H1 => ∃ a b xs ys, vs = [.ref a, .ref b] ∧ MixAt K H1 a b xs ys ∧ R (ItM K a b) H1
theorem pi_mix {X : Cx} {K : PySem.W.Frag} {e e2 : Expr} {ta : TA} {p pos tpos : Pos} {elts : List Expr} {kk : Nat} (eK : X.K = K) (hg : Gl X "zip") (hm : X.mg "zip" = none) (ha : PA X [e, e2] ta)
    (hs : starEach [e, e2] X.env = (false, eval e X.env) :: starEach [e2] X.env := by rfl) (hpl : (backTo pos (starEach [e2] X.env)).any (·.1) = false := by rfl) : PI X (.Tuple elts kk tpos) (.Call (.Name "zip" p) [e, e2] [] pos) (iMix K ta) := by
  subst eK
  refine ⟨fun pins s σ H R I h => Call_ (ld_blt I hg hm PyProof.Rows.boot_zip (PyProof.Rows.callWith_type1 (thn (ha.run pos pins s σ H _ I h) fun us s1 ⟨vs, H1, I1, r1, q1⟩ => ?_) hs hpl))⟩
  obtain ⟨a, b, xs, ys, rfl, mx, q⟩ := q1
  obtain ⟨v1, v2, rfl, r2, r3⟩ := vals2 r1
  cases (show v1 = Value.ref a from r2)
  cases (show v2 = Value.ref b from r3)
  obtain ⟨us, ru, pu, _⟩ := I1.tuple mx.t
  obtain ⟨ws, rw', pw, _⟩ := I1.list mx.l
  have la : a < s1.heap.objs.size := by obtain ⟨o, ho, _⟩ := pu; exact Heap.lt_size ho
  have lb : b < s1.heap.objs.size := pw.lt
  refine zip_begins2 (begins_tuple a us.toArray) (begins_list b ws.toArray) pu pw.isList fun h' hz hI hO g1 g2 hsz hk => wpAny_pyIter_zip hz ?_
  refine ⟨_, [s1.heap.objs.size + 4, s1.heap.objs.size + 2, s1.heap.objs.size + 3, s1.heap.objs.size, s1.heap.objs.size + 1], _, _, H1, rfl, I1.kept (t' := s1.toks) hk, turn_mix (zip_sep _ a b la lb) (Nat.ne_of_lt la) (Ne.symm (apart5 lb).2.1), ⟨hz, hI, ⟨_, _, hO⟩, ⟨_, g1, rfl, rfl⟩, ⟨_, g2, rfl, rfl⟩⟩, fun c m => ?_, q⟩
  have le : s1.heap.objs.size ≤ c := by
    simp only [List.mem_cons, List.not_mem_nil, or_false] at m
    rcases m with e | e | e | e | e <;> rw [e] <;> first | exact Nat.le_refl _ | exact Nat.le_add_right _ _
  exact I1.fpOk le (I1.hok.fresh le)
theorem walk_mix {K : PySem.W.Frag} {a b : Addr} {xs ys : List V} {n : Nat} (hn : n = min xs.length ys.length) : Walk (ItM K a b) n (fun H => MixAt K H a b xs ys) (YPair (fun i => xs[i]?) (fun i => ys[i]?)) where
  goes := fun i H hi q => ⟨xs, ys, q, by omega, by omega⟩
  stops := fun H q => ⟨xs, ys, q, hn⟩
  yields := fun i H x H' _ q ⟨T, u, v, ⟨h1, h2, h3⟩, h4⟩ => ⟨T, u, v, h1, h2, h3, (h4 xs ys q).1, (h4 xs ys q).2⟩
end Zd
namespace Dm
open PySem L2 Pb Zd
def wIMix (wa : WA) : WI := fun Γ R => wa Γ fun xs => match xs with
  | [.d (.tuple a), .d (.list b)] => R (zipD a b)
  | _ => False
theorem snd_iMix {c : Bool} {K : PySem.W.Frag} {ta : TA} {wa : WA} (h : SndA ta wa) : SndI c (iMix K ta) (wIMix wa) := ⟨fun z σ H Γ R Q r w k => h.run z σ H Γ _ _ r w fun vs xs H2 e2 hs w2 => by
  split at w2
  · obtain ⟨v, v', rfl, hv, hv'⟩ := dv2 hs
    cases hv with
    | tup d1 d2 d3 d4 =>
      cases hv' with
      | lst f1 f2 f3 f4 =>
        refine ⟨_, _, _, _, rfl, ⟨.inl (.inl d2), .inl (.inl f2)⟩, k _ _ H2 e2 (wk_pair (walk_mix (K := K) rfl) ?_ (fun z' H' q => ⟨.inl (.inl (q.tup _ _ d1 d2).1), .inl (.inl (q.lst _ _ f1 f2).1)⟩) fun i x y hi hx hy => ?_) w2⟩
        · rw [zipD, List.length_map, List.length_zip, d4.length, f4.length]
        · obtain ⟨d, g1, g2⟩ := d4.get hx
          obtain ⟨e, g3, g4⟩ := f4.get hy
          refine ⟨d, e, ?_, g2, g4⟩
          rw [zipD, List.getElem?_map, (List.getElem?_zip_eq_some (z := (d, e))).mpr ⟨g1, g3⟩]; rfl
  · exact w2.elim⟩
/-- enumerate(a list) -/
def wIEnum (wa : WA) : WI := fun Γ R => wa Γ fun xs => match xs with
  | [.d (.list ds)] => R (enumD ds)
  | _ => False
theorem snd_iEnum {c : Bool} {K : PySem.W.Frag} {ta : TA} {wa : WA} (h : SndA ta wa) : SndI c (iEnum K ta) (wIEnum wa) := ⟨fun z σ H Γ R Q r w k => h.run z σ H Γ _ _ r w fun vs xs H2 e2 hs w2 => by
  split at w2
  · obtain ⟨v, rfl, hv⟩ := dv1 hs
    cases hv with
    | lst d1 d2 d3 d4 =>
      refine ⟨_, _, rfl, .inl (.inl d2), k _ _ H2 e2 (wk_pair (walk_enum (K := K)) ?_ (fun z' H' q => .inl (.inl (q.lst _ _ d1 d2).1)) fun i x y hi hx hy => ?_) w2⟩
      · rw [enumD, List.length_map, List.length_zipIdx, d4.length]
      · cases hx
        obtain ⟨d, g1, g2⟩ := d4.get hy
        exact ⟨.int i, d, by rw [enumD, List.getElem?_map, List.getElem?_zipIdx, g1]; simp, .int _, g2⟩
  · exact w2.elim⟩
end Dm
namespace Dm
open PySem L2 Pb
open PySem.W (AllAlike Sortable dataLe)
section
variable {K : PySem.W.Frag} {mg : Str → Option Value} {c_ClubError c_NoState c_NoCents c_NoName c_NoDeeds c_NoTimes c_NoMany c_NoPlace c_NoSeen c_NoPaid c_Nobody c_TooMuch c_Full c_LastOne c_NothingLeft c_Twice c_NotIn : Addr}
theorem okc_NoCents (Z : Cz K mg c_ClubError c_NoState c_NoCents c_NoName c_NoDeeds c_NoTimes c_NoMany c_NoPlace c_NoSeen c_NoPaid c_Nobody c_TooMuch c_Full c_LastOne c_NothingLeft c_Twice c_NotIn) : OkC K c_Twice c_NotIn c_ClubError [c_NoState, c_NoCents, c_NoName, c_NoDeeds, c_NoTimes, c_NoMany, c_NoPlace, c_NoSeen, c_NoPaid, c_Full, c_Nobody, c_TooMuch, c_LastOne, c_NothingLeft] c_NoCents := by
  refine ⟨Z.h_NoCents, Z.e_NoCents, fun c hc => ?_, Z.v_NoCents⟩
  simp only [List.mem_cons, List.not_mem_nil, or_false] at hc
  rcases hc with h | h | h | h | h | h | h | h | h | h | h | h | h | h
  all_goals rw [h]
  · exact bit_at Z.q_NoCents_NoState
  · exact bit_at Z.q_NoCents_NoCents
  · exact bit_at Z.q_NoCents_NoName
  · exact bit_at Z.q_NoCents_NoDeeds
  · exact bit_at Z.q_NoCents_NoTimes
  · exact bit_at Z.q_NoCents_NoMany
  · exact bit_at Z.q_NoCents_NoPlace
  · exact bit_at Z.q_NoCents_NoSeen
  · exact bit_at Z.q_NoCents_NoPaid
  · exact bit_at Z.q_NoCents_Full
  · exact bit_at Z.q_NoCents_Nobody
  · exact bit_at Z.q_NoCents_TooMuch
  · exact bit_at Z.q_NoCents_LastOne
  · exact bit_at Z.q_NoCents_NothingLeft
theorem kin_NoCents (Z : Cz K mg c_ClubError c_NoState c_NoCents c_NoName c_NoDeeds c_NoTimes c_NoMany c_NoPlace c_NoSeen c_NoPaid c_Nobody c_TooMuch c_Full c_LastOne c_NothingLeft c_Twice c_NotIn) : kinOf K [c_NoState, c_NoCents, c_NoName, c_NoDeeds, c_NoTimes, c_NoMany, c_NoPlace, c_NoSeen, c_NoPaid, c_Full, c_Nobody, c_TooMuch, c_LastOne, c_NothingLeft] c_NoCents = .list [.str (Str.ofString "NoCents"), .bool true] := by
  unfold kinOf
  rw [List.map_cons, List.map_cons, List.map_cons, List.map_cons, List.map_cons, List.map_cons, List.map_cons, List.map_cons, List.map_cons, List.map_cons, List.map_cons, List.map_cons, List.map_cons, List.map_cons, List.map_nil, bit_of Z.q_NoCents_NoState, bit_of Z.q_NoCents_NoCents, bit_of Z.q_NoCents_NoName, bit_of Z.q_NoCents_NoDeeds, bit_of Z.q_NoCents_NoTimes, bit_of Z.q_NoCents_NoMany, bit_of Z.q_NoCents_NoPlace, bit_of Z.q_NoCents_NoSeen, bit_of Z.q_NoCents_NoPaid, bit_of Z.q_NoCents_Full, bit_of Z.q_NoCents_Nobody, bit_of Z.q_NoCents_TooMuch, bit_of Z.q_NoCents_LastOne, bit_of Z.q_NoCents_NothingLeft]
  rfl
theorem okc_NoPaid (Z : Cz K mg c_ClubError c_NoState c_NoCents c_NoName c_NoDeeds c_NoTimes c_NoMany c_NoPlace c_NoSeen c_NoPaid c_Nobody c_TooMuch c_Full c_LastOne c_NothingLeft c_Twice c_NotIn) : OkC K c_Twice c_NotIn c_ClubError [c_NoState, c_NoCents, c_NoName, c_NoDeeds, c_NoTimes, c_NoMany, c_NoPlace, c_NoSeen, c_NoPaid, c_Full, c_Nobody, c_TooMuch, c_LastOne, c_NothingLeft] c_NoPaid := by
  refine ⟨Z.h_NoPaid, Z.e_NoPaid, fun c hc => ?_, Z.v_NoPaid⟩
  simp only [List.mem_cons, List.not_mem_nil, or_false] at hc
  rcases hc with h | h | h | h | h | h | h | h | h | h | h | h | h | h
  all_goals rw [h]
  · exact bit_at Z.q_NoPaid_NoState
  · exact bit_at Z.q_NoPaid_NoCents
  · exact bit_at Z.q_NoPaid_NoName
  · exact bit_at Z.q_NoPaid_NoDeeds
  · exact bit_at Z.q_NoPaid_NoTimes
  · exact bit_at Z.q_NoPaid_NoMany
  · exact bit_at Z.q_NoPaid_NoPlace
  · exact bit_at Z.q_NoPaid_NoSeen
  · exact bit_at Z.q_NoPaid_NoPaid
  · exact bit_at Z.q_NoPaid_Full
  · exact bit_at Z.q_NoPaid_Nobody
  · exact bit_at Z.q_NoPaid_TooMuch
  · exact bit_at Z.q_NoPaid_LastOne
  · exact bit_at Z.q_NoPaid_NothingLeft
theorem kin_NoPaid (Z : Cz K mg c_ClubError c_NoState c_NoCents c_NoName c_NoDeeds c_NoTimes c_NoMany c_NoPlace c_NoSeen c_NoPaid c_Nobody c_TooMuch c_Full c_LastOne c_NothingLeft c_Twice c_NotIn) : kinOf K [c_NoState, c_NoCents, c_NoName, c_NoDeeds, c_NoTimes, c_NoMany, c_NoPlace, c_NoSeen, c_NoPaid, c_Full, c_Nobody, c_TooMuch, c_LastOne, c_NothingLeft] c_NoPaid = .list [.str (Str.ofString "NoPaid"), .bool true] := by
  unfold kinOf
  rw [List.map_cons, List.map_cons, List.map_cons, List.map_cons, List.map_cons, List.map_cons, List.map_cons, List.map_cons, List.map_cons, List.map_cons, List.map_cons, List.map_cons, List.map_cons, List.map_cons, List.map_nil, bit_of Z.q_NoPaid_NoState, bit_of Z.q_NoPaid_NoCents, bit_of Z.q_NoPaid_NoName, bit_of Z.q_NoPaid_NoDeeds, bit_of Z.q_NoPaid_NoTimes, bit_of Z.q_NoPaid_NoMany, bit_of Z.q_NoPaid_NoPlace, bit_of Z.q_NoPaid_NoSeen, bit_of Z.q_NoPaid_NoPaid, bit_of Z.q_NoPaid_Full, bit_of Z.q_NoPaid_Nobody, bit_of Z.q_NoPaid_TooMuch, bit_of Z.q_NoPaid_LastOne, bit_of Z.q_NoPaid_NothingLeft]
  rfl
end
theorem go_refL {W : OX} {Ok : Addr → Prop} {kin : Addr → PyData} {c : Addr} {x1 x2 x3 : PyData} {R : Vx → Prop} (okc : Ok c) (hW : ∀ (R' : Vx → Prop) (X' : Addr → Prop), X' c → W [.d x1, .d x2, .d x3] R' X') (k : R (.d (kin c))) : WL_refused Ok kin W [.d x1, .d x2, .d x3] R := ⟨⟨trivial, trivial, trivial, trivial⟩, fun R' X' h1 h2 => hW R' X' (h2 c okc k)⟩
theorem go_orders {b : Int} {kv : List Si} {R : Vx → Prop} {u : Box R} (ok : KvOk kv) (b0 : 0 ≤ b) (b1 : b ≤ 1000000000000000000) (k : R (.d (ordD b kv))) : App W_orders [.d (.int b), .d (.tuple (kv.map encP))] R u := ⟨kv, rfl, ok, b0, b1, k⟩
theorem share_in {b : Int} {n p : Nat} (hb : 0 ≤ b) (hn : 0 < n) : 0 ≤ shareZ b n p ∧ shareZ b n p ≤ b := by
  have n0 : (0 : Int) < n := by omega
  unfold shareZ
  split
  · omega
  · rename_i h
    refine ⟨Int.ediv_nonneg (by omega) (by omega), Int.lt_add_one_iff.mp ((Int.ediv_lt_iff_lt_mul n0).mpr ?_)⟩
    have : b * 1 ≤ b * n := Int.mul_le_mul_of_nonneg_left (by omega) hb
    rw [Int.add_mul, Int.one_mul]
    omega
theorem dt_encP (l : List Si) : (PyData.tuple (l.map encP)).depth ≤ 64 := Nat.le_trans (depth_tuple d_encP l) (by decide)
/-- what is known of an order -/
structure Kn (b : Int) (nm : List Str) (kv : List Si) : Prop where
  ok : KvOk kv
  row : Row b nm kv
  top : ∀ q ∈ kv, q.2 ≤ b
  sum : (kv.map (·.2)).sum = b
theorem kn_of {b : Int} {nm fs : List Str} (b0 : 0 ≤ b) (b1 : b ≤ 1000000000000000000) (nd : nm.Nodup) (n1 : 1 ≤ nm.length) (n8 : nm.length ≤ 8) (hn : ∀ x ∈ nm, isNameS x = true) (p : fs.Perm nm) : Kn b nm (srtP (sharesL b fs)) := by
  have fl := p.length_eq
  have fnd : fs.Nodup := p.nodup_iff.mpr nd
  have len : (srtP (sharesL b fs)).length = nm.length := by rw [(srtP_perm _).length_eq, sharesL_len, fl]
  have mem : ∀ q ∈ srtP (sharesL b fs), q.1 ∈ fs ∧ 0 ≤ q.2 ∧ q.2 ≤ b := fun q hq => by
    obtain ⟨x, c⟩ := q
    obtain ⟨i, h1, h2⟩ := at_shares.mp ((srtP_perm _).mem_iff.mp hq)
    have := share_in (b := b) (n := fs.length) (p := i) b0 (by omega)
    exact ⟨List.mem_of_getElem? h1, by show 0 ≤ c; omega, by show c ≤ b; omega⟩
  refine ⟨⟨by omega, by omega, srtP_rise (by rw [sharesL_names]; exact fnd), fun q hq => hn _ (p.mem_iff.mp (mem q hq).1), fun q hq => (mem q hq).2.1, fun q hq => by have := (mem q hq).2.2; omega⟩, row_of b0 nd p, fun q hq => (mem q hq).2.2, ?_⟩
  rw [perm_sum ((srtP_perm _).map _)]
  exact sharesL_sum b0 fun e => by rw [e] at fl; simp at fl; omega
theorem cut_last (ds : List PyData) (x : PyData) : cutD (ds ++ [x]) none (some (-1)) = ds := by
  have e : HT.sIx (ds ++ [x]).length (ds ++ [x]).length (some (-1)) = ds.length := by
    rw [List.length_append]
    show HT.sIx (ds.length + 1) (ds.length + 1) (some (-1)) = ds.length
    unfold HT.sIx
    simp
    omega
  unfold cutD
  rw [e]
  show ((ds ++ [x]).drop 0).take (ds.length - 0) = ds
  rw [List.drop_zero, Nat.sub_zero, List.take_left]
theorem atI_end {α : Type} (l : List α) (x : α) : atI (l ++ [x]) (-1) = some x := by
  unfold atI ixN
  rw [if_neg (by decide), List.length_append, List.length_singleton, if_pos (by omega)]
  show (l ++ [x])[(-1 + ((l.length + 1 : Nat) : Int)).toNat]? = some x
  rw [show (-1 + ((l.length + 1 : Nat) : Int)).toNat = l.length by omega]
  simp
/-! names by their places -/
def pk (l : List Str) (i : Int) : Str := l.getD (i - 1).toNat Str.empty
theorem pk_get {l : List Str} {i : Int} (h0 : 1 ≤ i) (h1 : i ≤ l.length) : l[(i - 1).toNat]? = some (pk l i) := by
  unfold pk
  rw [List.getD_eq_getElem?_getD, List.getElem?_eq_getElem (by omega)]; rfl
theorem pk_at {l : List Str} {i : Int} (h0 : 1 ≤ i) (h1 : i ≤ l.length) : atI (l.map PyData.str) (i - 1) = some (.str (pk l i)) := by
  obtain ⟨x, e1, e2⟩ := atI_pos (l := l.map PyData.str) (i := i - 1) (by omega) (by rw [List.length_map]; omega)
  rw [e1]
  rw [List.getElem?_map, pk_get h0 h1] at e2
  exact e2.symm
theorem pk_mem {l : List Str} {i : Int} (h0 : 1 ≤ i) (h1 : i ≤ l.length) : pk l i ∈ l := List.mem_of_getElem? (pk_get h0 h1)
theorem pk_nd {l : List Str} {xs : List Int} (nd : l.Nodup) (nx : xs.Nodup) (bd : ∀ x ∈ xs, 1 ≤ x ∧ x ≤ l.length) : (xs.map (pk l)).Nodup := by
  show List.Pairwise _ _
  rw [List.pairwise_map]
  refine List.Pairwise.imp_of_mem (R := fun a b => a ≠ b) ?_ nx
  intro a b ha hb ne z
  have := at_uniq nd (pk_get (bd a ha).1 (bd a ha).2) (by rw [z]; exact pk_get (bd b hb).1 (bd b hb).2)
  have := bd a ha
  have := bd b hb
  omega
theorem sub_perm {a b : List Str} (na : a.Nodup) (nb : b.Nodup) (h : ∀ x ∈ a, x ∈ b) (l : a.length = b.length) : a.Perm b := by
  refine ndS_perm na nb fun x => ⟨h x, fun hx => ?_⟩
  apply Classical.byContradiction
  intro hn
  have := nodup_le (a := x :: a) (b := b) (List.nodup_cons.mpr ⟨hn, na⟩) fun y hy => by
    rcases List.mem_cons.mp hy with e | e
    · rw [e]; exact hx
    · exact h y e
  rw [List.length_cons] at this
  omega
theorem pk_perm {l : List Str} {xs : List Int} (nd : l.Nodup) (mx : Mix l.length xs) : (xs.map (pk l)).Perm l :=
  sub_perm (pk_nd nd mx.nd mx.bd) nd (fun x hx => by obtain ⟨i, hi, rfl⟩ := List.mem_map.mp hx; exact pk_mem (mx.bd i hi).1 (mx.bd i hi).2) (by rw [List.length_map, mx.len])
theorem alikeS (l : List Str) : AllAlike (l.map PyData.str) := .of fun b b' => rfl
theorem nm_up {l : List Str} (nd : l.Nodup) : (l.mergeSort (dataLe false PyData.str)).Pairwise sLt := by
  have u := so_str.up l
  have nd2 : (l.mergeSort (dataLe false PyData.str)).Nodup := (List.mergeSort_perm _ _).nodup_iff.mpr nd
  exact (u.and nd2).imp fun {a b} ⟨h, k⟩ => by
    rcases sLt_tri a b with e | e | e
    · exact e
    · exact (k e).elim
    · exact (h e).elim
theorem zip_shs (b : Int) (fs : List Str) : fs.zip (sharesN b fs.length) = sharesL b fs := by
  have e : ∀ (n : Nat) (gs : List Str) (k : Nat), k + gs.length = n → gs.zip (((List.range' k gs.length)).map (shareZ b n)) = (gs.zipIdx k).map fun q => (q.1, shareZ b n q.2) := by
    intro n gs
    induction gs with
    | nil => intro k h; rfl
    | cons x r ih =>
      intro k h
      rw [List.length_cons, List.range'_succ, List.map_cons, List.zip_cons_cons, List.zipIdx_cons, List.map_cons, ih (k + 1) (by rw [List.length_cons] at h; omega)]
  have := e fs.length fs 0 (by omega)
  unfold sharesN sharesL
  rw [List.range_eq_range']
  exact this
theorem look_map (k : Str) (c : Int) (x : Str) : ∀ kvs : List Si, (kvs.any fun q => decide (q.1 = k)) = true ∨ x ≠ k → look (kvs.map fun q => if q.1 = k then (q.1, c) else q) x = if x = k then some c else look kvs x
  | [], h => by
    rcases h with h | h
    · cases h
    · rw [if_neg h]; rfl
  | q :: r, h => by
    rw [List.map_cons]
    unfold look
    by_cases e : q.1 = k
    · rw [if_pos e]
      by_cases f : q.1 = x
      · rw [List.find?_cons_of_pos (by simpa using f), if_pos (f.symm.trans e)]; rfl
      · rw [List.find?_cons_of_neg (by simpa using f), List.find?_cons_of_neg (by simpa using f)]
        have nk : x ≠ k := fun z => f (e.trans z.symm)
        have ih := look_map k c x r (.inr nk)
        unfold look at ih
        exact ih
    · rw [if_neg e]
      by_cases f : q.1 = x
      · rw [List.find?_cons_of_pos (by simpa using f), List.find?_cons_of_pos (by simpa using f), if_neg fun z => e (f.trans z)]
      · rw [List.find?_cons_of_neg (by simpa using f), List.find?_cons_of_neg (by simpa using f)]
        have ih := look_map k c x r (h.imp (fun z => by rw [List.any_cons, decide_eq_false e] at z; exact z) id)
        unfold look at ih
        exact ih
theorem look_put (kvs : List Si) (k : Str) (c : Int) (x : Str) : look (putI kvs k c) x = if x = k then some c else look kvs x := by
  unfold putI
  split
  · rename_i h
    exact look_map k c x kvs (.inl h)
  · rename_i h
    have h : (kvs.any fun q => decide (q.1 = k)) = false := Bool.eq_false_iff.mpr h
    unfold look
    rw [List.find?_append]
    by_cases f : x = k
    · subst f
      rw [if_pos rfl]
      have e : kvs.find? (fun q => decide (q.1 = x)) = none := by
        rw [List.find?_eq_none]
        intro q hq z
        have := List.any_eq_false.mp h q hq
        exact this z
      rw [e]
      simp
    · rw [if_neg f]
      cases q : kvs.find? (fun q => decide (q.1 = x)) with
      | some y => rfl
      | none =>
        have : ¬ k = x := fun z => f z.symm
        simp [this]
theorem zip_enc : ∀ (o : List Str) (n : List Int), zipD (o.map PyData.str) (n.map PyData.int) = (o.zip n).map fun q => PyData.tuple [.str q.1, .int q.2]
  | [], _ => by simp [zipD]
  | _ :: _, [] => by simp [zipD]
  | x :: o, y :: n => by
    have ih := zip_enc o n
    simp only [List.map_cons, List.zip_cons_cons, zipD] at ih ⊢
    rw [ih]
theorem zip_fit {T : Str → Int} : ∀ (o : List Str) (sh : List Int), o.length = sh.length → ((o.zip sh).filter fun q => !decide (T q.1 = q.2)).isEmpty = decide (o.map T = sh)
  | [], [], _ => rfl
  | [], _ :: _, h => by cases h
  | _ :: _, [], h => by cases h
  | x :: o, y :: sh, h => by
    have ih := zip_fit (T := T) o sh (Nat.succ.inj h)
    rw [List.zip_cons_cons, List.map_cons]
    by_cases e : T x = y
    · rw [List.filter_cons_of_neg (by simp [e]), ih, e]
      by_cases g : o.map T = sh
      · rw [decide_eq_true g, decide_eq_true (by rw [g])]
      · rw [decide_eq_false g, decide_eq_false fun z => g (List.cons.inj z).2]
    · rw [List.filter_cons_of_pos (by simp [e]), decide_eq_false fun z => e (List.cons.inj z).1]; rfl
theorem alike_strs : ∀ xs ys : List Str, PySem.W.alikeAll (xs.map .str) (ys.map .str) = true
  | [], _ => by simp [PySem.W.alikeAll]
  | _ :: _, [] => by simp [PySem.W.alikeAll]
  | x :: xs, y :: ys => by
    have ih := alike_strs xs ys
    simp only [List.map_cons, PySem.W.alikeAll, ih, PySem.W.alike, Bool.and_true]
theorem alike_O (a c : List Str) : PySem.W.alike (encO a) (encO c) = true := by
  unfold encO
  rw [PySem.W.alike]
  exact alike_strs a c
theorem d_encO (l : List Str) : (encO l).depth ≤ 10 := Nat.le_trans (depth_tuple (k := 0) (fun x => by rw [depth_str]; exact Nat.le_refl _) l) (by decide)
abbrev nm8 : List Str := namesL.take 8
abbrev kv8 : List Si := nm8.zipIdx.map fun q => (q.1, 1 + if (5 : Int) < (q.2 : Int) then 1 else 0)
theorem nm8_up : nm8.Pairwise sLt := by decide +kernel
theorem nm9_up : (namesL.take 9).Pairwise sLt := by decide +kernel
theorem row8 : rowK kv8 = (nm8.drop 6).map (fun x => (-2, x)) ++ (nm8.take 6).map fun x => (-1, x) := so_N.sort (by decide +kernel) (by decide +kernel)
theorem eight_ord : ordD 10 kv8 = .tuple [.int 1440, .tuple ((nm8.drop 6 ++ nm8.take 6).map PyData.str)] := by
  unfold ordD
  rw [row8, if_pos (by decide +kernel)]
  rw [show (((fact ((10 : Int) % (kv8.length : Int)).toNat : Nat) : Int) * (fact (kv8.length - ((10 : Int) % (kv8.length : Int)).toNat) : Nat)) = 1440 by decide +kernel, List.map_append, List.map_append, List.map_map, List.map_map]
  rfl
theorem eight_ok : KvOk kv8 := ⟨by decide +kernel, by decide +kernel, by decide +kernel, by decide +kernel, by decide +kernel, by decide +kernel⟩
theorem one_ok : KvOk [(Str.ofString "ann", 0)] := ⟨by decide +kernel, by decide +kernel, by decide +kernel, by decide +kernel, by decide +kernel, by decide +kernel⟩
theorem one_ord : ordD 1 [(Str.ofString "ann", 0)] = .tuple [.int 0, .none] := by
  unfold ordD
  rw [if_neg (by
    rw [show rowK [(Str.ofString "ann", 0)] = [(0, Str.ofString "ann")] from so_N.sort (by decide +kernel) (by decide +kernel)]
    decide +kernel)]
theorem enum_strs (l : List Str) : enumD (l.map PyData.str) = l.zipIdx.map fun q => PyData.tuple [.int (q.2 : Nat), .str q.1] := by
  unfold enumD
  rw [List.zipIdx_map, List.map_map]; rfl
def annD (x : String) (c : Int) : PyData := .tuple [.str (Str.ofString x), .int c]
theorem bads_no : ∀ d ∈ [PyData.none, PyData.tuple [], PyData.list [PyData.tuple [PyData.str (Str.ofString "ann"), PyData.int 1]],
      PyData.tuple [PyData.tuple [PyData.str (Str.ofString "ann"), PyData.int 1], PyData.tuple [PyData.str (Str.ofString "ann"), PyData.int 1]],
      PyData.tuple [PyData.tuple [PyData.str (Str.ofString "bo"), PyData.int 1], PyData.tuple [PyData.str (Str.ofString "ann"), PyData.int 1]],
      PyData.tuple [PyData.tuple [PyData.str (Str.ofString "Ann"), PyData.int 1]]] ++ [PyData.tuple [PyData.tuple [PyData.str (Str.ofString "ann"), PyData.int (-1)]], PyData.tuple [PyData.tuple [PyData.str (Str.ofString "ann")]]], isKnownD d = false := by
  intro d hd
  simp only [List.cons_append, List.nil_append, List.mem_cons, List.not_mem_nil, or_false] at hd
  rcases hd with rfl | rfl | rfl | rfl | rfl | rfl | rfl | rfl <;> decide +kernel
theorem odds_no : ∀ d ∈ [PyData.int (-1), .int (1000000000000000000 + 1), .bool true, .none], withinD 0 1000000000000000000 d = false := by
  intro d hd
  simp only [List.mem_cons, List.not_mem_nil, or_false] at hd
  rcases hd with rfl | rfl | rfl | rfl <;> decide +kernel
theorem nine_no : isKnownD (.tuple ((namesL.take 9).map fun x => PyData.tuple [.str x, .int 1])) = false := by decide +kernel
structure Tab (nm : List Str) (kvs : List Si) : Prop where
  v : ∀ x ∈ nm, ∃ c, look kvs x = some c ∧ 0 ≤ c ∧ c ≤ 1000000000000000000
  l : kvs.length ≤ 100
theorem dl_one {α : Type} (l : List α) : (PyData.list (l.map fun _ => PyData.int 1)).depth ≤ 64 := Nat.le_trans (depth_list (k := 0) (fun x => by rw [depth_int]; exact Nat.le_refl _) l) (by decide)
theorem go_shs {b m : Int} {R : Vx → Prop} {u : Box R} (h : 0 ≤ b ∧ 0 ≤ m ∧ m ≤ 1000) (k : R (.fl ((sharesN b m.toNat).map PyData.int))) : App W__law_shares [.d (.int b), .d (.int m)] R u := ⟨h, k⟩
theorem go_all {nm : List Str} {R : Vx → Prop} {u : Box R} (h : nm.length ≤ 6) (k : R (.d (.list ((ords nm nm.length).map encO)))) : App W__law_orders [.d (.tuple (nm.map PyData.str))] R u := ⟨nm, rfl, h, k⟩
local macro_rules | `(tactic| walk_at "w") => `(tactic| try simp -dsimp only [startE_0, startE_s, startE_n, posts, wNext, wSeq_e, wRet, wRetN, wDrop, wIf, wNever, wAsg, wPar, wTri, wNew, wRetF, wRetV, wApp, wExt, wSetL, wPutT, wAug, wFrz, wFrzT, wCallM, postM, wNewZ, oNewZ, wPutK, wIMix, wIEnum, wEqSet, oLtT, oSortT, wSortSet, wAugM, wTry, wIsE, wPick, oRep, wRef, nq_rf, unF_rf, wLam, wCallT, wlOne, wlCons, wChN, wTru, wNewT, wgN, wgT, wgNil, wgCons, wmNil, wmV, wmL, wmT,
  wVar, readS, wK, wOp, oI, cT, oCmp, oEqv, datOf, oIsN, oAdd, oIx_l, oIx_q, oIx_t, IxK_0, IxK_1, IxK_2, IxK_3, oIn, wNeg, wAndV, wOrV, wNotV, wTst, wNot, wAnd, wOr, wIfE, wChain, wNil, wCons, allD, wTup, wLst, wC, wNoPart, wPart, wSl, oLen, wIsi, oInt, o2I, o1, lstOf, oListC, oTupC, oDGet_e, DgK_some, dLook, dkOf, dtOf, wDGet3, isDx, wSortIt,
  wISeq, wIRng1, wIRng2, wIStr, wIEnumT, wIZip, wLc, wYes, wLock, wDc, lcE, dcE, wOnlyD, wipeE, lockS, wCall, allNq, unF_d, unF_dk, unF_dt, unF_bag, unF_fl, nq_d, nq_dk, nq_dt, nq_bag, List.map_cons, List.map_nil, List.set_cons_zero, List.set_cons_succ, List.getElem?_cons_zero, List.getElem?_cons_succ, Option.map_some, Option.map_none, true_and, and_true, decide_eq_true_eq, Bool.not_eq_true', id, if_true, Bool.true_eq_false, Bool.false_eq_true, if_false, ite_true, ite_false, NN, List.length_cons, List.length_nil, List.length_map, Nat.zero_add, Nat.reduceAdd, Nat.reduceLeDiff, and_self, cDiv, cMul, List.append_nil, List.nil_append, wRev, wFor_e, flOnly_fl, List.replicate_succ, List.replicate_zero, Bool.not_true, Bool.not_false, bodyPost, tailPost, isTru, wAssert, Bool.not_eq_false', decide_eq_false_iff_not])
local macro_rules | `(tactic| walk_at "v") => `(tactic| try simp -dsimp only [startE_0, startE_s, startE_n, posts, wNext, wSeq_e, wRet, wRetN, wDrop, wIf, wNever, wAsg, wPar, wTri, wNew, wRetF, wRetV, wApp, wExt, wSetL, wPutT, wAug, wFrz, wFrzT, wCallM, postM, wNewZ, oNewZ, wPutK, wIMix, wIEnum, wEqSet, oLtT, oSortT, wSortSet, wAugM, wTry, wIsE, wPick, oRep, wRef, nq_rf, unF_rf, wLam, wCallT, wlOne, wlCons, wChN, wTru, wNewT, wgN, wgT, wgNil, wgCons, wmNil, wmV, wmL, wmT,
  wVar, readS, wK, wOp, oI, cT, oCmp, oEqv, datOf, oIsN, oAdd, oIx_l, oIx_q, oIx_t, IxK_0, IxK_1, IxK_2, IxK_3, oIn, wNeg, wAndV, wOrV, wNotV, wTst, wNot, wAnd, wOr, wIfE, wChain, wNil, wCons, allD, wTup, wLst, wC, wNoPart, wPart, wSl, oLen, wIsi, oInt, o2I, o1, lstOf, oListC, oTupC, oDGet_e, DgK_some, dLook, dkOf, dtOf, wDGet3, isDx, wSortIt,
  wISeq, wIRng1, wIRng2, wIStr, wIEnumT, wIZip, wLc, wYes, wLock, wDc, lcE, dcE, wOnlyD, wipeE, lockS, wCall, allNq, unF_d, unF_dk, unF_dt, unF_bag, unF_fl, nq_d, nq_dk, nq_dt, nq_bag, List.map_cons, List.map_nil, List.set_cons_zero, List.set_cons_succ, List.getElem?_cons_zero, List.getElem?_cons_succ, Option.map_some, Option.map_none, true_and, and_true, decide_eq_true_eq, Bool.not_eq_true', id, if_true, Bool.true_eq_false, Bool.false_eq_true, if_false, ite_true, ite_false, NN, List.length_cons, List.length_nil, List.length_map, Nat.zero_add, Nat.reduceAdd, Nat.reduceLeDiff, and_self, cDiv, cMul, List.append_nil, List.nil_append, wRev, wFor_e, flOnly_fl, List.replicate_succ, List.replicate_zero, Bool.not_true, Bool.not_false, bodyPost, tailPost, isTru, wAssert, Bool.not_eq_false', decide_eq_false_iff_not, Hold, App, W__law_names, W__law_shares, W__law_orders])
local macro_rules | `(tactic| walk_at "n") => `(tactic| (refine Hold_go ?_; walk_at "w"))
section
variable {P : Program} {w : World} {K : PySem.W.Frag} {mg : Str → Option Value} {base : Heap} {k0 k1 k2 : Tok}
abbrev s_law : Stmt := topS 46
abbrev N_law : List Str := ["script", "bag", "many", "names", "bills", "order", "table", "name", "known", "good", "row", "eight", "bads", "bad", "nine", "odd", "place", "cents"]
theorem sc_law : FnScope N_law ["script"] (defScope s_law) := ⟨rfl, rfl, rfl, by decide +kernel, rfl, by decide +kernel, by decide +kernel⟩
abbrev lm_law_0 : Lm.Lam := Lm.lamOf "law.<locals>.<lambda>" (Lm.eArg 0 (Lm.eLeft (Lm.sTest (Lm.sAt (Lm.sBody (Lm.sAt (defBody s_law) 5)) 0))))
theorem lok_law_0 {c_NoCents c_NoPaid : Addr} {f_orders : Addr} {fd_orders : FuncData} (D_orders : Df K mg "orders" s_orders ["bills", "known"] f_orders fd_orders) (GX_orders : FnOk P w K mg base (L2N.CX P w) 5 f_orders fd_orders ["bills", "known"] (spX (WX_orders c_NoCents c_NoPaid))) : Lm.LOk P w K mg base (L2N.CX P w) 6 lm_law_0 ["a", "b", "c"] (spX (lam2 (WX_orders c_NoCents c_NoPaid))) :=
  Lm.lok_of (N := ["a", "b", "c"]) (NdefX.nscope_by (by decide +kernel)) (fun pm ctv c us hl => match us, hl with | [_, _, _], _ => rfl) (fun vs H Q E h => spX_len (n := 3) (fun xs R X h => lam2_len h) h) (fun f c A outer s H vs Q E hr h => ⟨_, pe_callS GX_orders (hr.mono (by omega)) (by rfl) D_orders.g D_orders.F.kp D_orders.b (fun σ => L2N.passAt (L2N.takes_of rfl rfl rfl rfl) σ) (pa_cons (pv 0) (pa_cons (pv 1) pa_nil)), lam2_go h⟩)
abbrev lm_law_1 : Lm.Lam := Lm.lamOf "law.<locals>.<lambda>" (Lm.eArg 0 (Lm.eLeft (Lm.sTest (Lm.sAt (Lm.sBody (Lm.sAt (defBody s_law) 7)) 0))))
theorem lok_law_1 {c_NoCents c_NoPaid : Addr} {f_orders : Addr} {fd_orders : FuncData} (D_orders : Df K mg "orders" s_orders ["bills", "known"] f_orders fd_orders) (GX_orders : FnOk P w K mg base (L2N.CX P w) 5 f_orders fd_orders ["bills", "known"] (spX (WX_orders c_NoCents c_NoPaid))) : Lm.LOk P w K mg base (L2N.CX P w) 6 lm_law_1 ["a", "b", "c"] (spX (lam2 (WX_orders c_NoCents c_NoPaid))) :=
  Lm.lok_of (N := ["a", "b", "c"]) (NdefX.nscope_by (by decide +kernel)) (fun pm ctv c us hl => match us, hl with | [_, _, _], _ => rfl) (fun vs H Q E h => spX_len (n := 3) (fun xs R X h => lam2_len h) h) (fun f c A outer s H vs Q E hr h => ⟨_, pe_callS GX_orders (hr.mono (by omega)) (by rfl) D_orders.g D_orders.F.kp D_orders.b (fun σ => L2N.passAt (L2N.takes_of rfl rfl rfl rfl) σ) (pa_cons (pv 0) (pa_cons (pv 1) pa_nil)), lam2_go h⟩)
abbrev lm_law_2 : Lm.Lam := Lm.lamOf "law.<locals>.<lambda>" (Lm.eArg 0 (Lm.eLeft (Lm.sTest (Lm.sAt (defBody s_law) 8))))
theorem lok_law_2 {c_NoCents c_NoPaid : Addr} {f_orders : Addr} {fd_orders : FuncData} (D_orders : Df K mg "orders" s_orders ["bills", "known"] f_orders fd_orders) (GX_orders : FnOk P w K mg base (L2N.CX P w) 5 f_orders fd_orders ["bills", "known"] (spX (WX_orders c_NoCents c_NoPaid))) : Lm.LOk P w K mg base (L2N.CX P w) 6 lm_law_2 ["a", "b", "c"] (spX (lam2 (WX_orders c_NoCents c_NoPaid))) :=
  Lm.lok_of (N := ["a", "b", "c"]) (NdefX.nscope_by (by decide +kernel)) (fun pm ctv c us hl => match us, hl with | [_, _, _], _ => rfl) (fun vs H Q E h => spX_len (n := 3) (fun xs R X h => lam2_len h) h) (fun f c A outer s H vs Q E hr h => ⟨_, pe_callS GX_orders (hr.mono (by omega)) (by rfl) D_orders.g D_orders.F.kp D_orders.b (fun σ => L2N.passAt (L2N.takes_of rfl rfl rfl rfl) σ) (pa_cons (pv 0) (pa_cons (pv 1) pa_nil)), lam2_go h⟩)
theorem ok_law {c_ClubError c_NoState c_NoCents c_NoName c_NoDeeds c_NoTimes c_NoMany c_NoPlace c_NoSeen c_NoPaid c_Nobody c_TooMuch c_Full c_LastOne c_NothingLeft c_Twice c_NotIn : Addr} {tc_law tp_law : Addr} {f_law : Addr} {fd_law : FuncData} (D_law : Df K mg "law" s_law ["script"] f_law fd_law) {f_orders : Addr} {fd_orders : FuncData} (D_orders : Df K mg "orders" s_orders ["bills", "known"] f_orders fd_orders) {f__law_bags : Addr} {fd__law_bags : FuncData} (D__law_bags : Df K mg "_law_bags" s__law_bags ["script", "limit"] f__law_bags fd__law_bags) {f__law_take : Addr} {fd__law_take : FuncData} (D__law_take : Df K mg "_law_take" s__law_take ["bag", "many"] f__law_take fd__law_take) {f__law_far_draw : Addr} {fd__law_far_draw : FuncData} (D__law_far_draw : Df K mg "_law_far_draw" s__law_far_draw ["bag", "many"] f__law_far_draw fd__law_far_draw) {f__law_mixed : Addr} {fd__law_mixed : FuncData} (D__law_mixed : Df K mg "_law_mixed" s__law_mixed ["bag", "many"] f__law_mixed fd__law_mixed) {f__law_names : Addr} {fd__law_names : FuncData} (D__law_names : Df K mg "_law_names" s__law_names ["many"] f__law_names fd__law_names) {f__law_shares : Addr} {fd__law_shares : FuncData} (D__law_shares : Df K mg "_law_shares" s__law_shares ["bills", "many"] f__law_shares fd__law_shares) {f__law_orders : Addr} {fd__law_orders : FuncData} (D__law_orders : Df K mg "_law_orders" s__law_orders ["names"] f__law_orders fd__law_orders) {f__law_refused : Addr} {fd__law_refused : FuncData} (D__law_refused : Df K mg "_law_refused" s__law_refused ["call", "one", "two", "three"] f__law_refused fd__law_refused) (G_orders : FnOk P w K mg base CX0 5 f_orders fd_orders ["bills", "known"] (spW W_orders)) (G__law_bags : FnOk P w K mg base CX0 3 f__law_bags fd__law_bags ["script", "limit"] (spBags K)) (G__law_take : FnOk P w K mg base CX0 1 f__law_take fd__law_take ["bag", "many"] (spW W__law_take)) (G__law_far_draw : FnOk P w K mg base CX0 2 f__law_far_draw fd__law_far_draw ["bag", "many"] (spW W__law_take)) (G__law_mixed : FnOk P w K mg base CX0 2 f__law_mixed fd__law_mixed ["bag", "many"] (spW W__law_mixed)) (G__law_names : FnOk P w K mg base CX0 1 f__law_names fd__law_names ["many"] (spW W__law_names)) (G__law_shares : FnOk P w K mg base CX0 1 f__law_shares fd__law_shares ["bills", "many"] (spW W__law_shares)) (G__law_orders : FnOk P w K mg base CX0 1 f__law_orders fd__law_orders ["names"] (spW W__law_orders)) (TB : LamX.TabB base mg tc_law tp_law) (HC : fd_law.code = .ref tc_law) (GL_law_0 : FnOk P w K mg base CX0 7 f__law_refused fd__law_refused ["call", "one", "two", "three"] (spL lm_law_0 (WL_refused (OkC K c_Twice c_NotIn c_ClubError [c_NoState, c_NoCents, c_NoName, c_NoDeeds, c_NoTimes, c_NoMany, c_NoPlace, c_NoSeen, c_NoPaid, c_Full, c_Nobody, c_TooMuch, c_LastOne, c_NothingLeft]) (kinOf K [c_NoState, c_NoCents, c_NoName, c_NoDeeds, c_NoTimes, c_NoMany, c_NoPlace, c_NoSeen, c_NoPaid, c_Full, c_Nobody, c_TooMuch, c_LastOne, c_NothingLeft]) (lam2 (WX_orders c_NoCents c_NoPaid))))) (GL_law_1 : FnOk P w K mg base CX0 7 f__law_refused fd__law_refused ["call", "one", "two", "three"] (spL lm_law_1 (WL_refused (OkC K c_Twice c_NotIn c_ClubError [c_NoState, c_NoCents, c_NoName, c_NoDeeds, c_NoTimes, c_NoMany, c_NoPlace, c_NoSeen, c_NoPaid, c_Full, c_Nobody, c_TooMuch, c_LastOne, c_NothingLeft]) (kinOf K [c_NoState, c_NoCents, c_NoName, c_NoDeeds, c_NoTimes, c_NoMany, c_NoPlace, c_NoSeen, c_NoPaid, c_Full, c_Nobody, c_TooMuch, c_LastOne, c_NothingLeft]) (lam2 (WX_orders c_NoCents c_NoPaid))))) (GL_law_2 : FnOk P w K mg base CX0 7 f__law_refused fd__law_refused ["call", "one", "two", "three"] (spL lm_law_2 (WL_refused (OkC K c_Twice c_NotIn c_ClubError [c_NoState, c_NoCents, c_NoName, c_NoDeeds, c_NoTimes, c_NoMany, c_NoPlace, c_NoSeen, c_NoPaid, c_Full, c_Nobody, c_TooMuch, c_LastOne, c_NothingLeft]) (kinOf K [c_NoState, c_NoCents, c_NoName, c_NoDeeds, c_NoTimes, c_NoMany, c_NoPlace, c_NoSeen, c_NoPaid, c_Full, c_Nobody, c_TooMuch, c_LastOne, c_NothingLeft]) (lam2 (WX_orders c_NoCents c_NoPaid))))) (T : Bt mg k0 k1 k2) (Z : Cz K mg c_ClubError c_NoState c_NoCents c_NoName c_NoDeeds c_NoTimes c_NoMany c_NoPlace c_NoSeen c_NoPaid c_Nobody c_TooMuch c_Full c_LastOne c_NothingLeft c_Twice c_NotIn) : FnOk P w K mg base CX0 8 f_law fd_law ["script"] (spLawP [tp_law] K) := by
  refine okC D_law.F HC sc_law (fun vs H Q E h => ?_) (fun A outer s H vs Q E hr h => ?_)
  · obtain ⟨a, ns, rfl, _⟩ := h
    rfl
  obtain ⟨a, ns, rfl, hS, hlen, hT, q⟩ := h
  refine ⟨_, (pss_cons (ps_for PassesOwn.never rfl (pi_seq (K := K) rfl (pe_call G__law_bags (hr.mono (by omega)) (by rfl) D__law_bags.g D__law_bags.F.kp D__law_bags.b .nil pass0 (pa_cons (pv 0) (pa_cons pe_int pa_nil)))) (pg_name (i := 1) sc_law.nd rfl (Or.inl rfl))
  (pss_cons (ps_set (i := 2) sc_law.nd rfl (Or.inl rfl) (pe_op (un_add (K := K) rfl) pe_int (pe_call G__law_take (hr.mono (by omega)) (by rfl) D__law_take.g D__law_take.F.kp D__law_take.b .nil pass0 (pa_cons (pv 1) (pa_cons pe_int pa_nil)))))
  (pss_cons (ps_set (i := 3) sc_law.nd rfl (Or.inr rfl) (pe_callTy (un_tuple (K := K) rfl) (by rfl) T.b_tuple (by decide +kernel) (pa_cons (pe_callB (un_sorted (K := K) hr.units rfl) (by rfl) T.b_sorted (by decide +kernel) (pa_cons (pe_lc (own := [("place", 16)]) (g := gName 16) (by rfl) sc_law.nd (pi_seq (K := K) rfl (pe_slice (un_sl (K := K) rfl) (pe_call G__law_mixed (hr.mono (by omega)) (by rfl) D__law_mixed.g D__law_mixed.F.kp D__law_mixed.b .nil pass0 (pa_cons (pv 1) (pa_cons pe_int pa_nil))) po_none (po_some (pv 2)))) (blkOk_by (own := [("place", 16)]) (N := N_law) (sc := defScope s_law) (by decide +kernel)) (fun _ _ _ _ _ => (pg_name (i := 16) sc_law.nd rfl (Or.inl rfl))) (fun _ _ _ _ _ => pts_nil) (fun _ _ _ _ _ => (pe_ix (un_ix (K := K) rfl) (pe_call G__law_names (hr.mono (by omega)) (by rfl) D__law_names.g D__law_names.F.kp D__law_names.b .nil pass0 (pa_cons pe_int pa_nil)) (pe_op op_sub (pv 16) pe_int) (fun _ _ => rfl)))) pa_nil)) pa_nil)))
  (pss_cons (ps_set (i := 4) sc_law.nd rfl (Or.inl rfl) (pe_ix (un_ix (K := K) rfl) (pe_lst (pa_cons (pe_call G__law_take (hr.mono (by omega)) (by rfl) D__law_take.g D__law_take.F.kp D__law_take.b .nil pass0 (pa_cons (pv 1) (pa_cons pe_int pa_nil))) (pa_cons (pe_call G__law_far_draw (hr.mono (by omega)) (by rfl) D__law_far_draw.g D__law_far_draw.F.kp D__law_far_draw.b .nil pass0 (pa_cons (pv 1) (pa_cons (pe_op op_pow pe_int pe_int) pa_nil))) pa_nil))) (pe_call G__law_take (hr.mono (by omega)) (by rfl) D__law_take.g D__law_take.F.kp D__law_take.b .nil pass0 (pa_cons (pv 1) (pa_cons pe_int pa_nil))) (fun _ _ => rfl)))
  (pss_cons (ps_setLc (i := 5) (own := [("place", 16)]) (g := gName 16) (by rfl) sc_law.nd rfl rfl (sw_true rfl rfl rfl (by decide +kernel)) (pi_seq (K := K) rfl (pe_call G__law_mixed (hr.mono (by omega)) (by rfl) D__law_mixed.g D__law_mixed.F.kp D__law_mixed.b .nil pass0 (pa_cons (pv 1) (pa_cons (pv 2) pa_nil)))) (blkOk_by (own := [("place", 16)]) (N := N_law) (sc := defScope s_law) (by decide +kernel)) (fun _ _ _ _ _ => (pg_name (i := 16) sc_law.nd rfl (Or.inl rfl))) (fun _ _ _ _ _ => pts_nil) (fun _ _ _ _ _ => (pe_ix (un_ix (K := K) rfl) (pv 3) (pe_op op_sub (pv 16) pe_int) (fun _ _ => rfl))))
  (pss_cons (ps_set (i := 6) sc_law.nd rfl (Or.inr rfl) (pe_dictZipL (K := K) rfl rfl (by rfl) T.b_dict (by decide +kernel) (by rfl) T.b_zip (pa_cons (pv 5) (pa_cons (pe_call G__law_shares (hr.mono (by omega)) (by rfl) D__law_shares.g D__law_shares.F.kp D__law_shares.b .nil pass0 (pa_cons (pv 4) (pa_cons (pv 2) pa_nil))) pa_nil))))
  (pss_cons (ps_if (pt_cmpR (kk_op_eqD (K := K) hr.units rfl) (pe_call G__law_take (hr.mono (by omega)) (by rfl) D__law_take.g D__law_take.F.kp D__law_take.b .nil pass0 (pa_cons (pv 1) (pa_cons pe_int pa_nil))) pe_int (nomark _))
  (pss_cons (ps_set (i := 7) sc_law.nd rfl (Or.inl rfl) (pe_ix (un_ix (K := K) rfl) (pv 3) (pe_call G__law_take (hr.mono (by omega)) (by rfl) D__law_take.g D__law_take.F.kp D__law_take.b .nil pass0 (pa_cons (pv 1) (pa_cons (pv 2) pa_nil))) (fun _ _ => rfl)))
  (pss_one (ps_dput (hu_of hr) (pv 6) (pv 7) (pe_callB (un_max2 rfl) (by rfl) T.b_max (by decide +kernel) (pa_cons pe_int (pa_cons (pe_op (un_add (K := K) rfl) (pe_dget (hu_of hr) (pv 6) (pv 7) (fun _ _ => rfl)) (pe_ix (un_ix (K := K) rfl) (pe_lst (pa_cons pe_int (pa_cons (pe_un un_neg pe_int) pa_nil))) (pe_call G__law_take (hr.mono (by omega)) (by rfl) D__law_take.g D__law_take.F.kp D__law_take.b .nil pass0 (pa_cons (pv 1) (pa_cons pe_int pa_nil))) (fun _ _ => rfl))) pa_nil))) rfl)))
  pss_nil)
  (pss_cons (ps_set (i := 8) sc_law.nd rfl (Or.inl rfl) (pe_callTy (un_tuple (K := K) rfl) (by rfl) T.b_tuple (by decide +kernel) (pa_cons (pe_lc (own := [("name", 7)]) (g := gName 7) (by rfl) sc_law.nd (pi_seq (K := K) rfl (pv 3)) (blkOk_by (own := [("name", 7)]) (N := N_law) (sc := defScope s_law) (by decide +kernel)) (fun _ _ _ _ _ => (pg_name (i := 7) sc_law.nd rfl (Or.inl rfl))) (fun _ _ _ _ _ => pts_nil) (fun _ _ _ _ _ => (pe_tup (pa_cons (pv 7) (pa_cons (pe_dget (hu_of hr) (pv 6) (pv 7) (fun _ _ => rfl)) pa_nil))))) pa_nil)))
  (pss_cons (ps_set (i := 9) sc_law.nd rfl (Or.inl rfl) (pe_lst pa_nil))
  (pss_cons (ps_for PassesOwn.never rfl (pi_seq (K := K) rfl (pe_call G__law_orders (hr.mono (by omega)) (by rfl) D__law_orders.g D__law_orders.F.kp D__law_orders.b .nil pass0 (pa_cons (pv 3) pa_nil))) (pg_name (i := 10) sc_law.nd rfl (Or.inl rfl))
  (pss_one (ps_if (pt_cmpR (kk_op_eqD (K := K) hr.units rfl) (pe_lc (own := [("name", 7), ("cents", 17)]) (g := gTup K 2 (gCons (gName 7) (gCons (gName 17) gNil))) (by rfl) sc_law.nd (Zd.pi_mix (K := K) rfl (by rfl) T.b_zip (pa_cons (pv 10) (pa_cons (pe_call G__law_shares (hr.mono (by omega)) (by rfl) D__law_shares.g D__law_shares.F.kp D__law_shares.b .nil pass0 (pa_cons (pv 4) (pa_cons (pv 2) pa_nil))) pa_nil))) (blkOk_by (own := [("name", 7), ("cents", 17)]) (N := N_law) (sc := defScope s_law) (by decide +kernel)) (fun _ _ _ _ _ => (pg_tup (by rfl) (pgs_cons (pg_name (i := 7) sc_law.nd rfl (Or.inl rfl)) (pgs_cons (pg_name (i := 17) sc_law.nd rfl (Or.inl rfl)) pgs_nil)))) (fun _ _ _ _ _ => (pts_one (pt_cmpR (kk_op_neD (K := K) hr.units rfl) (pe_dget (hu_of hr) (pv 6) (pv 7) (fun _ _ => rfl)) (pv 17) (nomark _)))) (fun _ _ _ _ _ => pe_int)) (pe_lst pa_nil) (nomark _))
  (pss_one (ps_expr (pe_bm PySem.F.plainAttrs_list PySem.F.slot_list_append PySem.F.type_list_append mt_append (pv 9) (pa_cons (pv 10) pa_nil))))
  pss_nil)))
  (pss_one (ps_if (pt_cmpR (kk_op_neD (K := K) hr.units rfl) (pe_call G_orders (hr.mono (by omega)) (by rfl) D_orders.g D_orders.F.kp D_orders.b .nil pass0 (pa_cons (pv 4) (pa_cons (pv 8) pa_nil))) (pe_tup (pa_cons (pe_callB (un_len (K := K) rfl) (by rfl) T.b_len (by decide +kernel) (pa_cons (pv 9) pa_nil)) (pa_cons (pe_ix (un_ix (K := K) rfl) (pe_op (un_add (K := K) rfl) (pe_callB (un_sorted (K := K) hr.units rfl) (by rfl) T.b_sorted (by decide +kernel) (pa_cons (pv 9) pa_nil)) (pe_lst (pa_cons pe_non pa_nil))) pe_int (fun _ _ => rfl)) pa_nil))) (nomark _)) (pss_one (ps_ret pe_bl)) pss_nil))))))))))))
  (pss_cons (ps_set (i := 3) sc_law.nd rfl (Or.inr rfl) (pe_callB (un_sorted (K := K) hr.units rfl) (by rfl) T.b_sorted (by decide +kernel) (pa_cons (pe_call G__law_names (hr.mono (by omega)) (by rfl) D__law_names.g D__law_names.F.kp D__law_names.b .nil pass0 (pa_cons pe_int pa_nil)) pa_nil)))
  (pss_cons (ps_set (i := 11) sc_law.nd rfl (Or.inl rfl) (pe_callTy (un_tuple (K := K) rfl) (by rfl) T.b_tuple (by decide +kernel) (pa_cons (pe_lc (own := [("place", 16), ("name", 7)]) (g := gTup K 2 (gCons (gName 16) (gCons (gName 7) gNil))) (by rfl) sc_law.nd (pi_enum (by rfl) T.b_enumerate (pa_cons (pv 3) pa_nil)) (blkOk_by (own := [("place", 16), ("name", 7)]) (N := N_law) (sc := defScope s_law) (by decide +kernel)) (fun _ _ _ _ _ => (pg_tup (by rfl) (pgs_cons (pg_name (i := 16) sc_law.nd rfl (Or.inl rfl)) (pgs_cons (pg_name (i := 7) sc_law.nd rfl (Or.inl rfl)) pgs_nil)))) (fun _ _ _ _ _ => pts_nil) (fun _ _ _ _ _ => (pe_tup (pa_cons (pv 7) (pa_cons (pe_op (un_add (K := K) rfl) pe_int (pe_callTy un_int (by rfl) T.b_int (by decide +kernel) (pa_cons (pe_cmpR un_gt (pv 16) pe_int (nomark _)) pa_nil))) pa_nil))))) pa_nil)))
  (pss_cons (ps_if (pt_cmpR (kk_op_neD (K := K) hr.units rfl) (pe_call G_orders (hr.mono (by omega)) (by rfl) D_orders.g D_orders.F.kp D_orders.b .nil pass0 (pa_cons pe_int (pa_cons (pv 11) pa_nil))) (pe_tup (pa_cons pe_int (pa_cons (pe_callTy (un_tuple (K := K) rfl) (by rfl) T.b_tuple (by decide +kernel) (pa_cons (pe_op (un_add (K := K) rfl) (pe_slice (un_sl (K := K) rfl) (pv 3) (po_some pe_int) po_none) (pe_slice (un_sl (K := K) rfl) (pv 3) po_none (po_some pe_int))) pa_nil)) pa_nil))) (nomark _)) (pss_one (ps_ret pe_bl)) pss_nil)
  (pss_cons (ps_set (i := 12) sc_law.nd rfl (Or.inl rfl) (pe_lst (pa_cons pe_non (pa_cons (pe_tup pa_nil) (pa_cons (pe_lst (pa_cons (pe_tup (pa_cons pe_str (pa_cons pe_int pa_nil))) pa_nil)) (pa_cons (pe_tup (pa_cons (pe_tup (pa_cons pe_str (pa_cons pe_int pa_nil))) (pa_cons (pe_tup (pa_cons pe_str (pa_cons pe_int pa_nil))) pa_nil))) (pa_cons (pe_tup (pa_cons (pe_tup (pa_cons pe_str (pa_cons pe_int pa_nil))) (pa_cons (pe_tup (pa_cons pe_str (pa_cons pe_int pa_nil))) pa_nil))) (pa_cons (pe_tup (pa_cons (pe_tup (pa_cons pe_str (pa_cons pe_int pa_nil))) pa_nil)) pa_nil))))))))
  (pss_cons (ps_for PassesOwn.never rfl (pi_seq (K := K) rfl (pe_op (un_add (K := K) rfl) (pv 12) (pe_lst (pa_cons (pe_tup (pa_cons (pe_tup (pa_cons pe_str (pa_cons (pe_un un_neg pe_int) pa_nil))) pa_nil)) (pa_cons (pe_tup (pa_cons (pe_tup (pa_cons pe_str pa_nil)) pa_nil)) pa_nil))))) (pg_name (i := 13) sc_law.nd rfl (Or.inl rfl))
  (pss_one (ps_if (pt_cmpR (kk_op_neD (K := K) hr.units rfl) (pe_call GL_law_0 (hr.mono (by omega)) (by rfl) D__law_refused.g D__law_refused.F.kp D__law_refused.b .nil pass0 (pa_cons (Lm.pe_lam2 (L := lm_law_0) TB rfl (by rfl) (by decide +kernel) rfl rfl rfl) (pa_cons pe_int (pa_cons (pv 13) (pa_cons pe_int pa_nil))))) (pe_lst (pa_cons pe_str (pa_cons pe_bl pa_nil))) (nomark _)) (pss_one (ps_ret pe_bl)) pss_nil)))
  (pss_cons (ps_set (i := 14) sc_law.nd rfl (Or.inl rfl) (pe_callTy (un_tuple (K := K) rfl) (by rfl) T.b_tuple (by decide +kernel) (pa_cons (pe_lc (own := [("name", 7)]) (g := gName 7) (by rfl) sc_law.nd (pi_seq (K := K) rfl (pe_callB (un_sorted (K := K) hr.units rfl) (by rfl) T.b_sorted (by decide +kernel) (pa_cons (pe_call G__law_names (hr.mono (by omega)) (by rfl) D__law_names.g D__law_names.F.kp D__law_names.b .nil pass0 (pa_cons pe_int pa_nil)) pa_nil))) (blkOk_by (own := [("name", 7)]) (N := N_law) (sc := defScope s_law) (by decide +kernel)) (fun _ _ _ _ _ => (pg_name (i := 7) sc_law.nd rfl (Or.inl rfl))) (fun _ _ _ _ _ => pts_nil) (fun _ _ _ _ _ => (pe_tup (pa_cons (pv 7) (pa_cons pe_int pa_nil))))) pa_nil)))
  (pss_cons (ps_for PassesOwn.never rfl (pi_seq (K := K) rfl (pe_tup (pa_cons (pe_un un_neg pe_int) (pa_cons (pe_op (un_add (K := K) rfl) (pe_op op_pow pe_int pe_int) pe_int) (pa_cons pe_bl (pa_cons pe_non pa_nil)))))) (pg_name (i := 15) sc_law.nd rfl (Or.inl rfl))
  (pss_one (ps_if (pt_cmpR (kk_op_neD (K := K) hr.units rfl) (pe_call GL_law_1 (hr.mono (by omega)) (by rfl) D__law_refused.g D__law_refused.F.kp D__law_refused.b .nil pass0 (pa_cons (Lm.pe_lam2 (L := lm_law_1) TB rfl (by rfl) (by decide +kernel) rfl rfl rfl) (pa_cons (pv 15) (pa_cons pe_non (pa_cons pe_int pa_nil))))) (pe_lst (pa_cons pe_str (pa_cons pe_bl pa_nil))) (nomark _)) (pss_one (ps_ret pe_bl)) pss_nil)))
  (pss_cons (ps_if (pt_cmpR (kk_op_neD (K := K) hr.units rfl) (pe_call GL_law_2 (hr.mono (by omega)) (by rfl) D__law_refused.g D__law_refused.F.kp D__law_refused.b .nil pass0 (pa_cons (Lm.pe_lam2 (L := lm_law_2) TB rfl (by rfl) (by decide +kernel) rfl rfl rfl) (pa_cons pe_int (pa_cons (pv 14) (pa_cons pe_int pa_nil))))) (pe_lst (pa_cons pe_str (pa_cons pe_bl pa_nil))) (nomark _)) (pss_one (ps_ret pe_bl)) pss_nil)
  (pss_one (ps_ret (pe_cmpR (kk_op_eqD (K := K) hr.units rfl) (pe_call G_orders (hr.mono (by omega)) (by rfl) D_orders.g D_orders.F.kp D_orders.b .nil pass0 (pa_cons pe_int (pa_cons (pe_tup (pa_cons (pe_tup (pa_cons pe_str (pa_cons pe_int pa_nil))) pa_nil)) pa_nil))) (pe_tup (pa_cons pe_int (pa_cons pe_non pa_nil))) (nomark _))))))))))))), law_goP [tp_law] (m := 16) (ss_seq (ss_asg (snd_op so_add (snd_int _) (snd_call (snd_cons (snd_var 1) (snd_cons (snd_int _) snd_nil)))) (sg_name 2))
  (ss_seq (ss_asg (snd_cb sc_tuple (snd_cons (snd_cb sc_sorted (snd_cons (snd_lc (snd_iSeq (snd_sl (snd_call (snd_cons (snd_var 1) (snd_cons (snd_int _) snd_nil))) snd_noPart (snd_part (snd_var 2)))) (sg_name 16) (by decide) snd_yes (snd_op so_ix (snd_call (snd_cons (snd_int _) snd_nil)) (snd_op so_sub (snd_var 16) (snd_int _)))) snd_nil)) snd_nil)) (sg_name 3))
  (ss_seq (ss_asg (snd_op so_ix (snd_lst (snd_cons (snd_call (snd_cons (snd_var 1) (snd_cons (snd_int _) snd_nil))) (snd_cons (snd_call (snd_cons (snd_var 1) (snd_cons (snd_pow (c := 1000000000000000000) rfl rfl (by decide) (by decide)) snd_nil))) snd_nil))) (snd_call (snd_cons (snd_var 1) (snd_cons (snd_int _) snd_nil)))) (sg_name 4))
  (ss_seq (ss_asg (snd_lc (snd_iSeq (snd_call (snd_cons (snd_var 1) (snd_cons (snd_var 2) snd_nil)))) (sg_name 16) (by decide) snd_yes (snd_op so_ix (snd_var 3) (snd_op so_sub (snd_var 16) (snd_int _)))) (sg_name 5))
  (ss_seq (ss_newZ (i := 6) (snd_cons (snd_var 5) (snd_cons (snd_call (snd_cons (snd_var 4) (snd_cons (snd_var 2) snd_nil))) snd_nil)))
  (ss_seq (ss_mid (ss_if (snd_tTest (snd_op so_eq (snd_call (snd_cons (snd_var 1) (snd_cons (snd_int _) snd_nil))) (snd_int _)))
  (ss_seq (ss_asg (snd_op so_ix (snd_var 3) (snd_call (snd_cons (snd_var 1) (snd_cons (snd_var 2) snd_nil)))) (sg_name 7))
  (ss_putK (i := 6) (snd_cb sc_2I (snd_cons (snd_int _) (snd_cons (snd_op so_add (snd_dget (snd_var 6) (snd_var 7)) (snd_op so_ix (snd_lst (snd_cons (snd_int _) (snd_cons (snd_neg (snd_int _)) snd_nil))) (snd_call (snd_cons (snd_var 1) (snd_cons (snd_int _) snd_nil))))) snd_nil))) (snd_var 7)))
  ss_next))
  (ss_seq (ss_asg (snd_cb sc_tuple (snd_cons (snd_lc (snd_iSeq (snd_var 3)) (sg_name 7) (by decide) snd_yes (snd_tup (snd_cons (snd_var 7) (snd_cons (snd_dget (snd_var 6) (snd_var 7)) snd_nil)))) snd_nil)) (sg_name 8))
  (ss_seq (ss_new (i := 9) sf_nil)
  (ss_seq (ss_mid (ss_for (snd_iSeq (snd_call (snd_cons (snd_var 3) snd_nil))) (sg_name 10)
  (ss_if (snd_tTest (snd_op so_eq (snd_lc (snd_iMix (snd_cons (snd_var 10) (snd_cons (snd_call (snd_cons (snd_var 4) (snd_cons (snd_var 2) snd_nil))) snd_nil))) (sg_tup (n := 2) (sg_cons (sg_name 7) (sg_cons (sg_name 17) sg_nil))) (by decide) (snd_tTest (snd_op so_ne (snd_dget (snd_var 6) (snd_var 7)) (snd_var 17))) (snd_int _)) (snd_lst snd_nil)))
  (ss_app (i := 9) (snd_var 10))
  ss_next)))
  (ss_assert (snd_tTest (snd_op so_ne (snd_call (snd_cons (snd_var 4) (snd_cons (snd_var 8) snd_nil))) (snd_tup (snd_cons (snd_cb sc_len (snd_cons (snd_var 9) snd_nil)) (snd_cons (snd_op so_ix (snd_op so_add (snd_cb sc_sorted (snd_cons (snd_var 9) snd_nil)) (snd_lst (snd_cons snd_non snd_nil))) (snd_int _)) snd_nil))))))))))))))) (ss_seq (ss_asg (snd_cb sc_sorted (snd_cons (snd_call (snd_cons (snd_int _) snd_nil)) snd_nil)) (sg_name 3))
  (ss_seq (ss_asg (snd_cb sc_tuple (snd_cons (snd_lc (snd_iEnum (snd_cons (snd_var 3) snd_nil)) (sg_tup (n := 2) (sg_cons (sg_name 16) (sg_cons (sg_name 7) sg_nil))) (by decide) snd_yes (snd_tup (snd_cons (snd_var 7) (snd_cons (snd_op so_add (snd_int _) (snd_cb sc_int (snd_cons (snd_op so_cmp (snd_var 16) (snd_int _)) snd_nil))) snd_nil)))) snd_nil)) (sg_name 11))
  (ss_seq (ss_assert (snd_tTest (snd_op so_ne (snd_call (snd_cons (snd_int _) (snd_cons (snd_var 11) snd_nil))) (snd_tup (snd_cons (snd_int _) (snd_cons (snd_cb sc_tuple (snd_cons (snd_op so_add (snd_sl (snd_var 3) (snd_part (snd_int _)) snd_noPart) (snd_sl (snd_var 3) snd_noPart (snd_part (snd_int _)))) snd_nil)) snd_nil))))))
  (ss_seq (ss_asg (snd_lst (snd_cons snd_non (snd_cons (snd_tup snd_nil) (snd_cons (snd_lst (snd_cons (snd_tup (snd_cons (snd_str _ (by decide +kernel)) (snd_cons (snd_int _) snd_nil))) snd_nil)) (snd_cons (snd_tup (snd_cons (snd_tup (snd_cons (snd_str _ (by decide +kernel)) (snd_cons (snd_int _) snd_nil))) (snd_cons (snd_tup (snd_cons (snd_str _ (by decide +kernel)) (snd_cons (snd_int _) snd_nil))) snd_nil))) (snd_cons (snd_tup (snd_cons (snd_tup (snd_cons (snd_str _ (by decide +kernel)) (snd_cons (snd_int _) snd_nil))) (snd_cons (snd_tup (snd_cons (snd_str _ (by decide +kernel)) (snd_cons (snd_int _) snd_nil))) snd_nil))) (snd_cons (snd_tup (snd_cons (snd_tup (snd_cons (snd_str _ (by decide +kernel)) (snd_cons (snd_int _) snd_nil))) snd_nil)) snd_nil))))))) (sg_name 12))
  (ss_seq (ss_mid (ss_for (snd_iSeq (snd_op so_add (snd_var 12) (snd_lst (snd_cons (snd_tup (snd_cons (snd_tup (snd_cons (snd_str _ (by decide +kernel)) (snd_cons (snd_neg (snd_int _)) snd_nil))) snd_nil)) (snd_cons (snd_tup (snd_cons (snd_tup (snd_cons (snd_str _ (by decide +kernel)) snd_nil)) snd_nil)) snd_nil))))) (sg_name 13)
  (ss_assert (snd_tTest (snd_op so_ne (snd_lam 0 (snd_cons (snd_int _) (snd_cons (snd_var 13) (snd_cons (snd_int _) snd_nil)))) (snd_lst (snd_cons (snd_str _ (by decide +kernel)) (snd_cons (snd_bl _) snd_nil))))))))
  (ss_seq (ss_asg (snd_cb sc_tuple (snd_cons (snd_lc (snd_iSeq (snd_cb sc_sorted (snd_cons (snd_call (snd_cons (snd_int _) snd_nil)) snd_nil))) (sg_name 7) (by decide) snd_yes (snd_tup (snd_cons (snd_var 7) (snd_cons (snd_int _) snd_nil)))) snd_nil)) (sg_name 14))
  (ss_seq (ss_mid (ss_for (snd_iSeq (snd_tup (snd_cons (snd_neg (snd_int _)) (snd_cons (snd_op so_add (snd_pow (c := 1000000000000000000) rfl rfl (by decide) (by decide)) (snd_int _)) (snd_cons (snd_bl _) (snd_cons snd_non snd_nil)))))) (sg_name 15)
  (ss_assert (snd_tTest (snd_op so_ne (snd_lam 0 (snd_cons (snd_var 15) (snd_cons snd_non (snd_cons (snd_int _) snd_nil)))) (snd_lst (snd_cons (snd_str _ (by decide +kernel)) (snd_cons (snd_bl _) snd_nil))))))))
  (ss_seq (ss_assert (snd_tTest (snd_op so_ne (snd_lam 0 (snd_cons (snd_int _) (snd_cons (snd_var 14) (snd_cons (snd_int _) snd_nil)))) (snd_lst (snd_cons (snd_str _ (by decide +kernel)) (snd_cons (snd_bl _) snd_nil))))))
  (ss_ret (snd_op so_eq (snd_call (snd_cons (snd_int _) (snd_cons (snd_tup (snd_cons (snd_tup (snd_cons (snd_str _ (by decide +kernel)) (snd_cons (snd_int _) snd_nil))) snd_nil)) snd_nil))) (snd_tup (snd_cons (snd_int _) (snd_cons snd_non snd_nil))))))))))))) ⟨by decide, by decide⟩ rfl rfl hS hT q ?_ ?_⟩
  · walk_at "w"
    refine go_take (by decide) fun x1 x0 x2 => ?_
    walk_at "w"
    walk_at "n"
    refine go_mixed ⟨by decide, by decide⟩ fun xs mx => ?_
    walk_at "w"
    obtain ⟨n, hn⟩ : ∃ n : Nat, n = x1.toNat + 1 := ⟨_, rfl⟩
    have en : 1 + x1 = (n : Int) := by omega
    rw [en]
    have l30 : (namesL.take 20).length = 20 := by decide +kernel
    have nd30 : (namesL.take 20).Nodup := namesL_nd.sublist (List.take_sublist _ _)
    have mb : ∀ x ∈ xs, 1 ≤ x ∧ x ≤ (namesL.take 20).length := fun x hx => by rw [l30]; exact mx.bd x hx
    rw [cut_to, ← List.map_take]
    refine ⟨by rw [List.length_map, List.length_take, mx.len]; omega, lcW_of (g := fun i => .str (pk (namesL.take 20) i)) (fun i hi S hS => ?_) ?_⟩
    · walk_at "w"
      refine go_names (by decide) ?_
      walk_at "w"
      exact IxK_of (pk_at (mb i (List.mem_of_mem_take hi)).1 (mb i (List.mem_of_mem_take hi)).2) hS
    walk_at "w"
    rw [show ((xs.take n).map fun i => PyData.str (pk (namesL.take 20) i)) = ((xs.take n).map (pk (namesL.take 20))).map PyData.str by rw [List.map_map]; rfl]
    refine ⟨alikeS _, .others fun b => ⟨fun z => (nomatch z), fun xs z => (nomatch z)⟩, fun d hd => by obtain ⟨q, _, rfl⟩ := List.mem_map.mp hd; rw [depth_str]; decide, ?_⟩
    rw [sortD_map]
    have und := pk_nd nd30 (mx.nd.sublist (List.take_sublist n xs)) fun x hx => mb x (List.mem_of_mem_take hx)
    have nup := nm_up und
    have npm := List.mergeSort_perm ((xs.take n).map (pk (namesL.take 20))) (dataLe false PyData.str)
    have nl : (((xs.take n).map (pk (namesL.take 20))).mergeSort (dataLe false PyData.str)).length = n := by rw [npm.length_eq, List.length_map, List.length_take, mx.len]; omega
    have nin : ∀ x ∈ ((xs.take n).map (pk (namesL.take 20))).mergeSort (dataLe false PyData.str), isNameS x = true := fun x hx => by
      obtain ⟨i, hi, rfl⟩ := List.mem_map.mp (npm.mem_iff.mp hx)
      exact names_ok _ (List.mem_of_mem_take (pk_mem (mb i (List.mem_of_mem_take hi)).1 (mb i (List.mem_of_mem_take hi)).2))
    have nnd := npm.nodup_iff.mpr und
    generalize ((xs.take n).map (pk (namesL.take 20))).mergeSort (dataLe false PyData.str) = nm at nup nl nin nnd ⊢
    clear npm und mb mx
    walk_at "w"
    walk_at "n"
    refine go_take (by decide) fun y1 y0 y2 => ?_
    walk_at "w"
    refine go_take (by decide) fun z1 z0 z2 => ?_
    walk_at "w"
    refine go_take (by decide) fun r r0 r1 => ?_
    walk_at "w"
    obtain ⟨b, hb, b0, b1⟩ : ∃ b : Int, atI [PyData.int y1, PyData.int z1] r = some (.int b) ∧ 0 ≤ b ∧ b < 1000000000000000000 := by
      rcases (by omega : r = 0 ∨ r = 1) with h | h
      · subst h; exact ⟨y1, atI_0 _ _, y0, by omega⟩
      · subst h; exact ⟨z1, atI_1 _ _ _, z0, by omega⟩
    refine IxK_of hb ?_
    walk_at "w"
    walk_at "n"
    refine go_mixed ⟨by omega, by omega⟩ fun ps mp => ?_
    rw [show ((n : Int)).toNat = n from rfl, ← nl] at mp
    walk_at "w"
    refine ⟨by rw [mp.len]; omega, lcW_of (g := fun i => .str (pk nm i)) (fun i hi S hS => ?_) ?_⟩
    · walk_at "w"
      exact IxK_of (pk_at (mp.bd i hi).1 (mp.bd i hi).2) hS
    walk_at "w"
    have pp := pk_perm nnd mp
    rw [show (ps.map fun i => PyData.str (pk nm i)) = (ps.map (pk nm)).map PyData.str by rw [List.map_map]; rfl]
    generalize ps.map (pk nm) = od at pp ⊢
    have ol := pp.length_eq
    walk_at "n"
    refine go_shs ⟨b0, by omega, by omega⟩ ?_
    walk_at "w"
    rw [show ((n : Int)).toNat = n from rfl]
    refine ⟨od, sharesN b n, rfl, rfl, by rw [sharesN_len]; omega, pp.nodup_iff.mpr nnd, fun L => ?_⟩
    have tab0 : Tab nm (od.zip (sharesN b n)) := by
      have e : od.zip (sharesN b n) = sharesL b od := by rw [show n = od.length by omega]; exact zip_shs b od
      rw [e]
      refine ⟨fun x hx => ?_, by rw [sharesL_len]; omega⟩
      obtain ⟨i, hi⟩ := mem_at (pp.mem_iff.mpr hx)
      have := share_in (b := b) (n := od.length) (p := i) b0 (by omega)
      exact ⟨_, look_shares (pp.nodup_iff.mpr nnd) hi, this.1, by omega⟩
    have top0 : ∀ x ∈ nm, ∃ c, look (od.zip (sharesN b n)) x = some c ∧ 0 ≤ c ∧ c < 1000000000000000000 := by
      have e : od.zip (sharesN b n) = sharesL b od := by rw [show n = od.length by omega]; exact zip_shs b od
      rw [e]
      intro x hx
      obtain ⟨i, hi⟩ := mem_at (pp.mem_iff.mpr hx)
      have := share_in (b := b) (n := od.length) (p := i) b0 (by omega)
      exact ⟨_, look_shares (pp.nodup_iff.mpr nnd) hi, this.1, by omega⟩
    have kl0 : (od.zip (sharesN b n)).length ≤ 10 := by rw [List.length_zip]; omega
    generalize od.zip (sharesN b n) = kv0 at tab0 top0 kl0 ⊢
    walk_at "n"
    refine mid_by (fun Γ' => ∃ (kvs : List Si) (s7 : Slot), Tab nm kvs ∧ Γ' = [Slot.tb [tp_law], Slot.v Vx.bag, Slot.v (Vx.d (PyData.int n)), Slot.v (Vx.d (PyData.tuple (List.map PyData.str nm))), Slot.v (Vx.d (PyData.int b)), Slot.v (Vx.d (PyData.list (List.map PyData.str od))), Slot.ok L kvs, s7, Slot.no, Slot.no, Slot.no, Slot.no, Slot.no, Slot.no, Slot.no, Slot.no, Slot.no, Slot.no]) ?_ ?_
    · walk_at "w"
      refine go_take (by decide) fun q q0 q1 => ?_
      walk_at "w"
      rw [eqv_int]
      refine ⟨d_int _, d_int _, ?_⟩
      by_cases hq : q = 0
      · rw [if_pos (decide_eq_true hq)]
        refine go_take (by omega) fun p p0 p1 => ?_
        walk_at "w"
        obtain ⟨x, hx1, hx2⟩ := atI_pos (l := nm.map PyData.str) (i := p) p0 (by rw [List.length_map]; omega)
        rw [List.getElem?_map] at hx2
        obtain ⟨y, hy, rfl⟩ := Option.map_eq_some_iff.mp hx2
        have ym := List.mem_of_getElem? hy
        obtain ⟨c, c1, c2, c3⟩ := top0 y ym
        refine IxK_of hx1 ?_
        walk_at "w"
        walk_at "n"
        refine DgK_of c1 ?_
        walk_at "w"
        refine go_take (by decide) fun u u0 u1 => ?_
        walk_at "w"
        obtain ⟨e, he, e0, e1⟩ : ∃ e : Int, atI [PyData.int 1, PyData.int (-1)] u = some (.int e) ∧ -1 ≤ e ∧ e ≤ 1 := by
          rcases (by omega : u = 0 ∨ u = 1) with h | h
          · subst h; exact ⟨1, atI_0 _ _, by omega, by omega⟩
          · subst h; exact ⟨-1, atI_1 _ _ _, by omega, by omega⟩
        refine IxK_of he ?_
        walk_at "w"
        have fm : 0 ≤ fMax 0 (c + e) ∧ fMax 0 (c + e) ≤ 1000000000000000000 := by
          unfold fMax
          split <;> omega
        have tl := tab0.l
        refine ⟨by omega, _, _, ⟨fun x hx => ?_, ?_⟩, rfl⟩
        · rw [look_put]
          by_cases z : x = y
          · rw [if_pos z]; exact ⟨_, rfl, fm⟩
          · rw [if_neg z]; exact tab0.v x hx
        · have := putI_len kv0 y (fMax 0 (c + e))
          omega
      · rw [if_neg (by rw [decide_eq_false hq]; decide)]
        exact ⟨_, _, tab0, rfl⟩
    intro Γ' hN
    obtain ⟨kvs, s7, tab, rfl⟩ := hN
    walk_at "w"
    walk_at "n"
    have val : ∀ x ∈ nm, look kvs x = some ((look kvs x).getD 0) := fun x hx => by
      obtain ⟨c, c1, _⟩ := tab.v x hx
      rw [c1]; rfl
    have val0 : ∀ x ∈ nm, 0 ≤ (look kvs x).getD 0 ∧ (look kvs x).getD 0 ≤ 1000000000000000000 := fun x hx => by
      obtain ⟨c, c1, c2, c3⟩ := tab.v x hx
      rw [c1]; exact ⟨c2, c3⟩
    refine ⟨by omega, lcW_of (g := fun x => encP (x, (look kvs x).getD 0)) (fun x hx S hS => ?_) ?_⟩
    · walk_at "w"
      refine DgK_of (val x hx) ?_
      walk_at "w"
      exact hS
    walk_at "w"
    rw [show (nm.map fun x => encP (x, (look kvs x).getD 0)) = (tblK nm fun x => (look kvs x).getD 0).map encP by rw [List.map_map]; rfl]
    have val0 : ∀ x ∈ nm, 0 ≤ (fun x => (look kvs x).getD 0) x ∧ (fun x => (look kvs x).getD 0) x ≤ 1000000000000000000 := val0
    have look_T : ∀ x ∈ nm, look kvs x = some ((fun x => (look kvs x).getD 0) x) := val
    generalize (fun x => (look kvs x).getD 0) = T at look_T val0 ⊢
    clear val
    walk_at "n"
    intro M
    walk_at "n"
    refine mid_by (fun Γ' => ∃ s7 s10 : Slot, Γ' = [Slot.tb [tp_law], Slot.v Vx.bag, Slot.v (Vx.d (PyData.int n)), Slot.v (Vx.d (PyData.tuple (List.map PyData.str nm))), Slot.v (Vx.d (PyData.int b)), Slot.v (Vx.d (PyData.list (List.map PyData.str od))), Slot.ok L kvs, s7, Slot.v (Vx.d (PyData.tuple ((tblK nm T).map encP))), Slot.ol M ((goodL nm T (sharesN b n) n).map encO), s10, Slot.no, Slot.no, Slot.no, Slot.no, Slot.no, Slot.no, Slot.no]) ?_ ?_
    · walk_at "w"
      refine go_all (by omega) ?_
      rw [nl]
      walk_at "w"
      refine for_by (fun k Γ' => ∃ s7 s10 : Slot, Γ' = [Slot.tb [tp_law], Slot.v Vx.bag, Slot.v (Vx.d (PyData.int n)), Slot.v (Vx.d (PyData.tuple (List.map PyData.str nm))), Slot.v (Vx.d (PyData.int b)), Slot.v (Vx.d (PyData.list (List.map PyData.str od))), Slot.ok L kvs, s7, Slot.v (Vx.d (PyData.tuple ((tblK nm T).map encP))), Slot.ol M ((((ords nm n).take k).filter (fitB T (sharesN b n))).map encO), s10, Slot.no, Slot.no, Slot.no, Slot.no, Slot.no, Slot.no, Slot.no]) ⟨_, _, rfl⟩ (fun k d Γ' hk hI => ?_) (fun Γ' hI => ?_)
      · obtain ⟨s7, s10, rfl⟩ := hI
        have kl := (List.getElem?_eq_some_iff.mp hk).1
        rw [List.length_map] at kl
        obtain ⟨o, ho⟩ : ∃ o, (ords nm n)[k]? = some o := ⟨_, List.getElem?_eq_getElem kl⟩
        rw [List.getElem?_map, ho] at hk
        cases hk
        obtain ⟨ol1, ol2, ol3⟩ := mem_ords (List.mem_of_getElem? ho)
        have few := ords_le (nm := nm) (by omega) n (by omega)
        have fw : (6 : Nat) ^ n ≤ 6 ^ 6 := Nat.pow_le_pow_right (by decide) (by omega)
        simp only [encO]
        walk_at "w"
        refine go_shs ⟨b0, by omega, by omega⟩ ?_
        walk_at "w"
        rw [zip_enc, show ((n : Int)).toNat = n from rfl]
        have sl := sharesN_len b n
        refine ⟨by rw [List.length_map, List.length_zip]; omega, lcW_if (p := fun q : Str × Int => !decide (T q.1 = q.2)) (g := fun _ => .int 1) (fun q hq S hS => ?_) ?_⟩
        · walk_at "w"
          refine DgK_of (look_T q.1 (ol3 _ (List.of_mem_zip hq).1)) ?_
          walk_at "w"
          rw [eqv_int]
          refine ⟨d_int _, d_int _, ?_⟩
          by_cases e : T q.1 = q.2
          · rw [decide_eq_true e] at hS ⊢; exact hS
          · rw [decide_eq_false e] at hS ⊢; exact hS
        walk_at "w"
        rw [eqv_lnil, zip_fit o _ (by omega)]
        refine ⟨dl_one _, d_nil, ?_⟩
        have fb : fitB T (sharesN b n) o = decide (o.map T = sharesN b n) := by unfold fitB; rw [ol1, List.take_of_length_le (by omega)]
        have tk : ((ords nm n).take (k + 1)).filter (fitB T (sharesN b n)) = ((ords nm n).take k).filter (fitB T (sharesN b n)) ++ if fitB T (sharesN b n) o = true then [o] else [] := by
          rw [List.take_succ, ho, List.filter_append]
          congr 1
          show [o].filter _ = _
          by_cases z : fitB T (sharesN b n) o = true
          · rw [List.filter_cons_of_pos z, if_pos z]; rfl
          · rw [List.filter_cons_of_neg z, if_neg z]; rfl
        have tl : (((ords nm n).take k).filter (fitB T (sharesN b n))).length ≤ (ords nm n).length := Nat.le_trans (List.length_filter_le _ _) (by rw [List.length_take]; omega)
        rw [tk, ← fb]
        by_cases z : fitB T (sharesN b n) o = true
        · rw [z, if_pos rfl]
          walk_at "w"
          rw [List.map_append]
          exact ⟨by omega, _, _, rfl⟩
        · rw [Bool.eq_false_iff.mpr z, if_neg (by decide)]
          walk_at "w"
          exact ⟨_, _, rfl⟩
      · obtain ⟨s7, s10, rfl⟩ := hI
        rw [List.length_map, List.take_length]
        exact ⟨_, _, rfl⟩
    intro Γ' hN
    obtain ⟨s7, s10, rfl⟩ := hN
    walk_at "w"
    walk_at "n"
    refine go_orders (kv := tblK nm T) ⟨by rw [tbl_len]; omega, by rw [tbl_len]; omega, ?_, fun q hq => ?_, fun q hq => ?_, fun q hq => ?_⟩ b0 (by omega) ?_
    · rw [List.map_map, show ((fun q : Si => q.1) ∘ fun x : Str => (x, T x)) = id from rfl, List.map_id]; exact nup
    · obtain ⟨x, hx, rfl⟩ := List.mem_map.mp hq; exact nin x hx
    · obtain ⟨x, hx, rfl⟩ := List.mem_map.mp hq; exact (val0 x hx).1
    · obtain ⟨x, hx, rfl⟩ := List.mem_map.mp hq; exact (val0 x hx).2
    rw [ord_all b0 nnd (by omega), nl]
    have gm : ∀ o ∈ goodL nm T (sharesN b n) n, o.length = n := fun o ho => (mem_ords (List.mem_filter.mp ho).1).1
    have gl : (goodL nm T (sharesN b n) n).length ≤ 46656 := Nat.le_trans (List.length_filter_le _ _) (Nat.le_trans (ords_le (by omega) n (by omega)) (Nat.pow_le_pow_right (by decide) (show n ≤ 6 by omega)))
    generalize goodL nm T (sharesN b n) n = good at gm gl ⊢
    walk_at "w"
    refine ⟨.of fun a c => alike_O a c, .inl fun d hd => ?_, fun d hd => by obtain ⟨o, _, rfl⟩ := List.mem_map.mp hd; exact d_encO o, ?_⟩
    · obtain ⟨o, ho, rfl⟩ := List.mem_map.mp hd
      have := gm o ho
      cases o with
      | nil => simp at this; omega
      | cons x r => exact ⟨_, _, rfl⟩
    rw [sortD_map]
    have sl : (good.mergeSort (dataLe false encO)).length ≤ 46656 := by rw [(List.mergeSort_perm _ _).length_eq]; exact gl
    generalize good.mergeSort (dataLe false encO) = srt at sl ⊢
    walk_at "w"
    refine ⟨by omega, ?_⟩
    have top : atI (srt.map encO ++ [PyData.none]) 0 = some (topD srt) := by
      cases srt with
      | nil => exact atI_0 _ _
      | cons x r => exact atI_0 _ _
    refine IxK_of top ?_
    walk_at "w"
    have dt : (topD srt).depth ≤ 10 := by
      cases srt with
      | nil => simp [topD, PyData.depth]
      | cons x r => exact d_encO x
    have et : PyData.eqv (topD srt) (topD srt) = true := by
      cases srt with
      | nil => simp [topD, PyData.eqv]
      | cons x r => show PyData.eqv (.tuple (x.map PyData.str)) (.tuple (x.map PyData.str)) = true; rw [eqv_tuple eqv_str, decide_eq_true rfl]
    have dd : (PyData.tuple [PyData.int (good.length : Int), topD srt]).depth ≤ 64 := by
      rw [PyData.depth, PyData.depthAll, PyData.depthAll, PyData.depthAll, depth_int]; omega
    refine ⟨dd, dd, ?_⟩
    rw [PyData.eqv, PyData.eqvAll, PyData.eqvAll, PyData.eqvAll, et, eqv_int, decide_eq_true rfl]
    rfl
  · walk_at "w"
    refine go_names (by decide) ?_
    rw [show ((8 : Int)).toNat = 8 from rfl]
    walk_at "w"
    refine ⟨alikeS _, .others fun b => ⟨fun z => (nomatch z), fun xs z => (nomatch z)⟩, fun d hd => by obtain ⟨q, _, rfl⟩ := List.mem_map.mp hd; rw [depth_str]; decide, ?_⟩
    rw [sortD_map, so_str.sort (List.Perm.refl nm8) (nm8_up.imp fun {a c} h z => sLt_asymm h z)]
    walk_at "w"
    walk_at "n"
    rw [enum_strs]
    refine ⟨by rw [List.length_map, List.length_zipIdx]; decide +kernel, lcW_of (c := fun q : Str × Nat => PyData.tuple [.int (q.2 : Nat), .str q.1]) (g := fun q => encP (q.1, 1 + if (5 : Int) < (q.2 : Int) then 1 else 0)) (fun q hq S hS => ?_) ?_⟩
    · walk_at "w"
      unfold encP at hS
      exact hS
    walk_at "w"
    rw [show (nm8.zipIdx.map fun q => encP (q.1, 1 + if (5 : Int) < (q.2 : Int) then 1 else 0)) = kv8.map encP by rw [List.map_map]; rfl]
    walk_at "n"
    refine ⟨?_, ?_⟩
    · refine go_orders eight_ok (by decide) (by decide) ?_
      rw [eight_ord]
      walk_at "w"
      rw [show (6 : Int) = ((6 : Nat) : Int) from rfl, cut_from, cut_to, ← List.map_drop, ← List.map_take, ← List.map_append, eqv_state]
      refine ⟨by decide +kernel, d_state _ _, d_state _ _, ?_⟩
      rw [decide_eq_true rfl, decide_eq_true rfl]; rfl
    walk_at "n"
    walk_at "n"
    generalize hb : (Slot.v (Vx.d (PyData.list [PyData.none, PyData.tuple [], PyData.list [PyData.tuple [PyData.str (Str.ofString "ann"), PyData.int 1]], PyData.tuple [PyData.tuple [PyData.str (Str.ofString "ann"), PyData.int 1], PyData.tuple [PyData.str (Str.ofString "ann"), PyData.int 1]], PyData.tuple [PyData.tuple [PyData.str (Str.ofString "bo"), PyData.int 1], PyData.tuple [PyData.str (Str.ofString "ann"), PyData.int 1]], PyData.tuple [PyData.tuple [PyData.str (Str.ofString "Ann"), PyData.int 1]]]))) = s12
    refine mid_by (fun Γ' => ∃ s13 : Slot, Γ' = [Slot.tb [tp_law], Slot.no, Slot.no, Slot.v (Vx.d (PyData.list (List.map PyData.str nm8))), Slot.no, Slot.no, Slot.no, Slot.no, Slot.no, Slot.no, Slot.no, Slot.v (Vx.d (PyData.tuple (List.map encP kv8))), s12, s13, Slot.no, Slot.no, Slot.no, Slot.no]) ?_ ?_
    · subst hb
      walk_at "w"
      refine for_by (fun k Γ' => ∃ s13 : Slot, Γ' = [Slot.tb [tp_law], Slot.no, Slot.no, Slot.v (Vx.d (PyData.list (List.map PyData.str nm8))), Slot.no, Slot.no, Slot.no, Slot.no, Slot.no, Slot.no, Slot.no, Slot.v (Vx.d (PyData.tuple (List.map encP kv8))), (Slot.v (Vx.d (PyData.list [PyData.none, PyData.tuple [], PyData.list [PyData.tuple [PyData.str (Str.ofString "ann"), PyData.int 1]], PyData.tuple [PyData.tuple [PyData.str (Str.ofString "ann"), PyData.int 1], PyData.tuple [PyData.str (Str.ofString "ann"), PyData.int 1]], PyData.tuple [PyData.tuple [PyData.str (Str.ofString "bo"), PyData.int 1], PyData.tuple [PyData.str (Str.ofString "ann"), PyData.int 1]], PyData.tuple [PyData.tuple [PyData.str (Str.ofString "Ann"), PyData.int 1]]]))), s13, Slot.no, Slot.no, Slot.no, Slot.no]) ⟨_, rfl⟩ (fun k d Γ' hk hI => ?_) (fun Γ' hI => hI)
      obtain ⟨s13, rfl⟩ := hI
      have hd := bads_no d (List.mem_of_getElem? hk)
      walk_at "w"
      refine ⟨⟨⟨_, rfl, List.mem_cons_self⟩, go_refL (okc_NoPaid Z) (fun R' X' hx => ⟨fun h => absurd h (by decide +kernel), fun _ => ⟨hd, hx⟩⟩) ?_⟩, _, rfl⟩
      rw [kin_NoPaid Z]
      walk_at "w"
      exact ⟨by decide +kernel, by decide +kernel, by decide +kernel⟩
    intro Γ' hN
    obtain ⟨s13, rfl⟩ := hN
    walk_at "w"
    walk_at "n"
    refine go_names (by decide) ?_
    rw [show ((9 : Int)).toNat = 9 from rfl]
    walk_at "w"
    refine ⟨alikeS _, .others fun b => ⟨fun z => (nomatch z), fun xs z => (nomatch z)⟩, fun d hd => by obtain ⟨q, _, rfl⟩ := List.mem_map.mp hd; rw [depth_str]; decide, ?_⟩
    rw [sortD_map, so_str.sort (List.Perm.refl (namesL.take 9)) (nm9_up.imp fun {a c} h z => sLt_asymm h z)]
    walk_at "w"
    refine ⟨by decide +kernel, lcW_of (g := fun x => PyData.tuple [.str x, .int 1]) (fun x hx S hS => ?_) ?_⟩
    · walk_at "w"
      exact hS
    walk_at "w"
    walk_at "n"
    refine mid_by (fun Γ' => ∃ s15 : Slot, Γ' = [Slot.tb [tp_law], Slot.no, Slot.no, Slot.v (Vx.d (PyData.list (List.map PyData.str nm8))), Slot.no, Slot.no, Slot.no, Slot.no, Slot.no, Slot.no, Slot.no, Slot.v (Vx.d (PyData.tuple (List.map encP kv8))), s12, s13, Slot.v (Vx.d (PyData.tuple ((namesL.take 9).map fun x => PyData.tuple [PyData.str x, PyData.int 1]))), s15, Slot.no, Slot.no]) ?_ ?_
    · walk_at "w"
      refine for_by (fun k Γ' => ∃ s15 : Slot, Γ' = [Slot.tb [tp_law], Slot.no, Slot.no, Slot.v (Vx.d (PyData.list (List.map PyData.str nm8))), Slot.no, Slot.no, Slot.no, Slot.no, Slot.no, Slot.no, Slot.no, Slot.v (Vx.d (PyData.tuple (List.map encP kv8))), s12, s13, Slot.v (Vx.d (PyData.tuple ((namesL.take 9).map fun x => PyData.tuple [PyData.str x, PyData.int 1]))), s15, Slot.no, Slot.no]) ⟨_, rfl⟩ (fun k d Γ' hk hI => ?_) (fun Γ' hI => hI)
      obtain ⟨s15, rfl⟩ := hI
      have hd := odds_no d (List.mem_of_getElem? hk)
      walk_at "w"
      refine ⟨⟨⟨_, rfl, List.mem_cons_self⟩, go_refL (okc_NoCents Z) (fun R' X' hx => ⟨fun _ => hx, fun h => by rw [hd] at h; cases h⟩) ?_⟩, _, rfl⟩
      rw [kin_NoCents Z]
      walk_at "w"
      exact ⟨by decide +kernel, by decide +kernel, by decide +kernel⟩
    intro Γ' hN
    obtain ⟨s15, rfl⟩ := hN
    walk_at "w"
    walk_at "n"
    refine ⟨⟨⟨_, rfl, List.mem_cons_self⟩, go_refL (okc_NoPaid Z) (fun R' X' hx => ⟨fun h => absurd h (by decide +kernel), fun _ => ⟨nine_no, hx⟩⟩) ?_⟩, ?_⟩
    · rw [kin_NoPaid Z]
      walk_at "w"
      exact ⟨by decide +kernel, by decide +kernel, by decide +kernel⟩
    walk_at "n"
    refine go_orders (kv := [(Str.ofString "ann", 0)]) one_ok (by decide) (by decide) ?_
    rw [one_ord]
    walk_at "w"
    refine ⟨by simp [PyData.depth, PyData.depthAll], by simp [PyData.depth, PyData.depthAll], ?_⟩
    simp [PyData.eqv, PyData.eqvAll]
end
end Dm
namespace Dm
open PySem L2 Pb
theorem exm_cls {K : PySem.W.Frag} {C D : Addr} {b : Bool} (h1 : PySem.W.subIn K (.ref D) (.type "BaseException") = some true) (i : PySem.W.isClsIn K D = true) (t : PySem.W.typeIn K (.ref D) = some (.type "type")) (s : PySem.W.subIn K (.ref C) (.ref D) = some b) : PySem.W.exmOne K (.ref C) (.ref D) = some b := by
  have i2 : (PySem.W.clsIn K D).isSome = true := i
  unfold PySem.W.exmOne
  rw [h1, if_pos (by rfl)]
  show (if ((PySem.W.clsIn K D).isSome && PySem.W.typeIn K (.ref D) == some (.type "type")) = true then PySem.W.subIn K (.ref C) (.ref D) else none) = some b
  rw [i2, t, if_pos (by rfl), s]
theorem kit_cls {K : PySem.W.Frag} {C D : Addr} {b : Bool} (i : PySem.W.isClsIn K D = true) (t : PySem.W.typeIn K (.ref D) = some (.type "type")) (me : PySem.W.subIn K (.ref C) (.ref C) = some true) (s : PySem.W.subIn K (.ref C) (.ref D) = some b) : PySem.W.kitOne K (.ref C) (.ref D) = some b := by
  have i2 : (PySem.W.clsIn K D).isSome = true := i
  unfold PySem.W.kitOne
  split
  · rename_i e
    have e2 : Value.ref C = Value.ref D := beq_iff_eq.mp e
    cases e2
    rw [← me, s]
  · show (if ((PySem.W.clsIn K D).isSome && PySem.W.typeIn K (.ref D) == some (.type "type")) = true then PySem.W.subIn K (.ref C) (.ref D) else none) = some b
    rw [i2, t, if_pos (by rfl), s]
theorem kit_ty {K : PySem.W.Frag} {C : Addr} {b : Bool} (s : PySem.W.subIn K (.ref C) (.type "ValueError") = some b) : PySem.W.kitOne K (.ref C) (.type "ValueError") = some b := by
  unfold PySem.W.kitOne
  rw [if_neg (by intro h; cases (beq_iff_eq.mp h : Value.ref C = Value.type "ValueError"))]
  show (if PySem.W.kitMeta "ValueError" = true then PySem.W.subIn K (.ref C) (.type "ValueError") else none) = some b
  rw [if_pos (by decide +kernel), s]
theorem all_mk {l : PySem.W.OpenLaw} {w : World} {K : PySem.W.Frag} {h : Heap} {mg : Str → Option Value} {fa f_is_whole_within f_is_cents f_is_name f_is_pair f_share f_check_bills f_is_known f_check_known f_factorial f_orders f__law_cell_at f__law_draws f__law_bag f__law_bags f__law_take f__law_far_draw f__law_mixed f__law_names f__law_shares f__law_refused f__law_orders f_law c_ClubError c_NoState c_NoCents c_NoName c_NoDeeds c_NoTimes c_NoMany c_NoPlace c_NoSeen c_NoPaid c_Nobody c_TooMuch c_Full c_LastOne c_NothingLeft c_Twice c_NotIn tc_law tp_law : Addr} {k0 k1 k2 : Tok} (X : K.In h) (G : h.Ns mainGlobals mg) (hfa : mg "law" = some (.ref fa))
    {od_is_whole_within an_is_whole_within : Option Addr} {sl_is_whole_within : Array (Option Value)} {oc_is_whole_within kV_is_whole_within dc_is_whole_within pm_is_whole_within cd_is_whole_within ct_is_whole_within : Value}
    {od_is_cents an_is_cents : Option Addr} {sl_is_cents : Array (Option Value)} {oc_is_cents kV_is_cents dc_is_cents pm_is_cents cd_is_cents ct_is_cents : Value}
    {od_is_name an_is_name : Option Addr} {sl_is_name : Array (Option Value)} {oc_is_name kV_is_name dc_is_name pm_is_name cd_is_name ct_is_name : Value}
    {od_is_pair an_is_pair : Option Addr} {sl_is_pair : Array (Option Value)} {oc_is_pair kV_is_pair dc_is_pair pm_is_pair cd_is_pair ct_is_pair : Value}
    {od_share an_share : Option Addr} {sl_share : Array (Option Value)} {oc_share kV_share dc_share pm_share cd_share ct_share : Value}
    {od_check_bills an_check_bills : Option Addr} {sl_check_bills : Array (Option Value)} {oc_check_bills kV_check_bills dc_check_bills pm_check_bills cd_check_bills ct_check_bills : Value}
    {od_is_known an_is_known : Option Addr} {sl_is_known : Array (Option Value)} {oc_is_known kV_is_known dc_is_known pm_is_known cd_is_known ct_is_known : Value}
    {od_check_known an_check_known : Option Addr} {sl_check_known : Array (Option Value)} {oc_check_known kV_check_known dc_check_known pm_check_known cd_check_known ct_check_known : Value}
    {od_factorial an_factorial : Option Addr} {sl_factorial : Array (Option Value)} {oc_factorial kV_factorial dc_factorial pm_factorial cd_factorial ct_factorial : Value}
    {od_orders an_orders : Option Addr} {sl_orders : Array (Option Value)} {oc_orders kV_orders dc_orders pm_orders cd_orders ct_orders : Value}
    {od__law_cell_at an__law_cell_at : Option Addr} {sl__law_cell_at : Array (Option Value)} {oc__law_cell_at kV__law_cell_at dc__law_cell_at pm__law_cell_at cd__law_cell_at ct__law_cell_at : Value}
    {od__law_draws an__law_draws : Option Addr} {sl__law_draws : Array (Option Value)} {oc__law_draws kV__law_draws dc__law_draws pm__law_draws cd__law_draws ct__law_draws : Value}
    {od__law_bag an__law_bag : Option Addr} {sl__law_bag : Array (Option Value)} {oc__law_bag kV__law_bag dc__law_bag pm__law_bag cd__law_bag ct__law_bag : Value}
    {od__law_bags an__law_bags : Option Addr} {sl__law_bags : Array (Option Value)} {oc__law_bags kV__law_bags dc__law_bags pm__law_bags cd__law_bags ct__law_bags : Value}
    {od__law_take an__law_take : Option Addr} {sl__law_take : Array (Option Value)} {oc__law_take kV__law_take dc__law_take pm__law_take cd__law_take ct__law_take : Value}
    {od__law_far_draw an__law_far_draw : Option Addr} {sl__law_far_draw : Array (Option Value)} {oc__law_far_draw kV__law_far_draw dc__law_far_draw pm__law_far_draw cd__law_far_draw ct__law_far_draw : Value}
    {od__law_mixed an__law_mixed : Option Addr} {sl__law_mixed : Array (Option Value)} {oc__law_mixed kV__law_mixed dc__law_mixed pm__law_mixed cd__law_mixed ct__law_mixed : Value}
    {od__law_names an__law_names : Option Addr} {sl__law_names : Array (Option Value)} {oc__law_names kV__law_names dc__law_names pm__law_names cd__law_names ct__law_names : Value}
    {od__law_shares an__law_shares : Option Addr} {sl__law_shares : Array (Option Value)} {oc__law_shares kV__law_shares dc__law_shares pm__law_shares cd__law_shares ct__law_shares : Value}
    {od__law_refused an__law_refused : Option Addr} {sl__law_refused : Array (Option Value)} {oc__law_refused kV__law_refused dc__law_refused pm__law_refused cd__law_refused ct__law_refused : Value}
    {od__law_orders an__law_orders : Option Addr} {sl__law_orders : Array (Option Value)} {oc__law_orders kV__law_orders dc__law_orders pm__law_orders cd__law_orders ct__law_orders : Value}
    {od_law an_law : Option Addr} {sl_law : Array (Option Value)} {oc_law kV_law dc_law pm_law cd_law ct_law : Value}
    (a_is_whole_within : PySem.W.nsIn K mainGlobals "is_whole_within" = some (some (.ref f_is_whole_within)))
    (l_is_whole_within : K.lookup f_is_whole_within = some ⟨oc_is_whole_within, od_is_whole_within, .func (PySem.W.fnOf "is_whole_within" "is_whole_within" (defArgs s_is_whole_within) (defBody s_is_whole_within) (defScope s_is_whole_within) .none kV_is_whole_within dc_is_whole_within pm_is_whole_within an_is_whole_within cd_is_whole_within ct_is_whole_within), sl_is_whole_within⟩)
    (c_is_whole_within : PySem.W.codeIn K cd_is_whole_within "is_whole_within" = true) (k_is_whole_within : PySem.W.keepIn K (.ref f_is_whole_within) = true)
    (a_is_cents : PySem.W.nsIn K mainGlobals "is_cents" = some (some (.ref f_is_cents)))
    (l_is_cents : K.lookup f_is_cents = some ⟨oc_is_cents, od_is_cents, .func (PySem.W.fnOf "is_cents" "is_cents" (defArgs s_is_cents) (defBody s_is_cents) (defScope s_is_cents) .none kV_is_cents dc_is_cents pm_is_cents an_is_cents cd_is_cents ct_is_cents), sl_is_cents⟩)
    (c_is_cents : PySem.W.codeIn K cd_is_cents "is_cents" = true) (k_is_cents : PySem.W.keepIn K (.ref f_is_cents) = true)
    (a_is_name : PySem.W.nsIn K mainGlobals "is_name" = some (some (.ref f_is_name)))
    (l_is_name : K.lookup f_is_name = some ⟨oc_is_name, od_is_name, .func (PySem.W.fnOf "is_name" "is_name" (defArgs s_is_name) (defBody s_is_name) (defScope s_is_name) .none kV_is_name dc_is_name pm_is_name an_is_name cd_is_name ct_is_name), sl_is_name⟩)
    (c_is_name : PySem.W.codeIn K cd_is_name "is_name" = true) (k_is_name : PySem.W.keepIn K (.ref f_is_name) = true)
    (a_is_pair : PySem.W.nsIn K mainGlobals "is_pair" = some (some (.ref f_is_pair)))
    (l_is_pair : K.lookup f_is_pair = some ⟨oc_is_pair, od_is_pair, .func (PySem.W.fnOf "is_pair" "is_pair" (defArgs s_is_pair) (defBody s_is_pair) (defScope s_is_pair) .none kV_is_pair dc_is_pair pm_is_pair an_is_pair cd_is_pair ct_is_pair), sl_is_pair⟩)
    (c_is_pair : PySem.W.codeIn K cd_is_pair "is_pair" = true) (k_is_pair : PySem.W.keepIn K (.ref f_is_pair) = true)
    (a_share : PySem.W.nsIn K mainGlobals "share" = some (some (.ref f_share)))
    (l_share : K.lookup f_share = some ⟨oc_share, od_share, .func (PySem.W.fnOf "share" "share" (defArgs s_share) (defBody s_share) (defScope s_share) .none kV_share dc_share pm_share an_share cd_share ct_share), sl_share⟩)
    (c_share : PySem.W.codeIn K cd_share "share" = true) (k_share : PySem.W.keepIn K (.ref f_share) = true)
    (a_check_bills : PySem.W.nsIn K mainGlobals "check_bills" = some (some (.ref f_check_bills)))
    (l_check_bills : K.lookup f_check_bills = some ⟨oc_check_bills, od_check_bills, .func (PySem.W.fnOf "check_bills" "check_bills" (defArgs s_check_bills) (defBody s_check_bills) (defScope s_check_bills) .none kV_check_bills dc_check_bills pm_check_bills an_check_bills cd_check_bills ct_check_bills), sl_check_bills⟩)
    (c_check_bills : PySem.W.codeIn K cd_check_bills "check_bills" = true) (k_check_bills : PySem.W.keepIn K (.ref f_check_bills) = true)
    (a_is_known : PySem.W.nsIn K mainGlobals "is_known" = some (some (.ref f_is_known)))
    (l_is_known : K.lookup f_is_known = some ⟨oc_is_known, od_is_known, .func (PySem.W.fnOf "is_known" "is_known" (defArgs s_is_known) (defBody s_is_known) (defScope s_is_known) .none kV_is_known dc_is_known pm_is_known an_is_known cd_is_known ct_is_known), sl_is_known⟩)
    (c_is_known : PySem.W.codeIn K cd_is_known "is_known" = true) (k_is_known : PySem.W.keepIn K (.ref f_is_known) = true)
    (a_check_known : PySem.W.nsIn K mainGlobals "check_known" = some (some (.ref f_check_known)))
    (l_check_known : K.lookup f_check_known = some ⟨oc_check_known, od_check_known, .func (PySem.W.fnOf "check_known" "check_known" (defArgs s_check_known) (defBody s_check_known) (defScope s_check_known) .none kV_check_known dc_check_known pm_check_known an_check_known cd_check_known ct_check_known), sl_check_known⟩)
    (c_check_known : PySem.W.codeIn K cd_check_known "check_known" = true) (k_check_known : PySem.W.keepIn K (.ref f_check_known) = true)
    (a_factorial : PySem.W.nsIn K mainGlobals "factorial" = some (some (.ref f_factorial)))
    (l_factorial : K.lookup f_factorial = some ⟨oc_factorial, od_factorial, .func (PySem.W.fnOf "factorial" "factorial" (defArgs s_factorial) (defBody s_factorial) (defScope s_factorial) .none kV_factorial dc_factorial pm_factorial an_factorial cd_factorial ct_factorial), sl_factorial⟩)
    (c_factorial : PySem.W.codeIn K cd_factorial "factorial" = true) (k_factorial : PySem.W.keepIn K (.ref f_factorial) = true)
    (a_orders : PySem.W.nsIn K mainGlobals "orders" = some (some (.ref f_orders)))
    (l_orders : K.lookup f_orders = some ⟨oc_orders, od_orders, .func (PySem.W.fnOf "orders" "orders" (defArgs s_orders) (defBody s_orders) (defScope s_orders) .none kV_orders dc_orders pm_orders an_orders cd_orders ct_orders), sl_orders⟩)
    (c_orders : PySem.W.codeIn K cd_orders "orders" = true) (k_orders : PySem.W.keepIn K (.ref f_orders) = true)
    (a__law_cell_at : PySem.W.nsIn K mainGlobals "_law_cell_at" = some (some (.ref f__law_cell_at)))
    (l__law_cell_at : K.lookup f__law_cell_at = some ⟨oc__law_cell_at, od__law_cell_at, .func (PySem.W.fnOf "_law_cell_at" "_law_cell_at" (defArgs s__law_cell_at) (defBody s__law_cell_at) (defScope s__law_cell_at) .none kV__law_cell_at dc__law_cell_at pm__law_cell_at an__law_cell_at cd__law_cell_at ct__law_cell_at), sl__law_cell_at⟩)
    (c__law_cell_at : PySem.W.codeIn K cd__law_cell_at "_law_cell_at" = true) (k__law_cell_at : PySem.W.keepIn K (.ref f__law_cell_at) = true)
    (a__law_draws : PySem.W.nsIn K mainGlobals "_law_draws" = some (some (.ref f__law_draws)))
    (l__law_draws : K.lookup f__law_draws = some ⟨oc__law_draws, od__law_draws, .func (PySem.W.fnOf "_law_draws" "_law_draws" (defArgs s__law_draws) (defBody s__law_draws) (defScope s__law_draws) .none kV__law_draws dc__law_draws pm__law_draws an__law_draws cd__law_draws ct__law_draws), sl__law_draws⟩)
    (c__law_draws : PySem.W.codeIn K cd__law_draws "_law_draws" = true) (k__law_draws : PySem.W.keepIn K (.ref f__law_draws) = true)
    (a__law_bag : PySem.W.nsIn K mainGlobals "_law_bag" = some (some (.ref f__law_bag)))
    (l__law_bag : K.lookup f__law_bag = some ⟨oc__law_bag, od__law_bag, .func (PySem.W.fnOf "_law_bag" "_law_bag" (defArgs s__law_bag) (defBody s__law_bag) (defScope s__law_bag) .none kV__law_bag dc__law_bag pm__law_bag an__law_bag cd__law_bag ct__law_bag), sl__law_bag⟩)
    (c__law_bag : PySem.W.codeIn K cd__law_bag "_law_bag" = true) (k__law_bag : PySem.W.keepIn K (.ref f__law_bag) = true)
    (a__law_bags : PySem.W.nsIn K mainGlobals "_law_bags" = some (some (.ref f__law_bags)))
    (l__law_bags : K.lookup f__law_bags = some ⟨oc__law_bags, od__law_bags, .func (PySem.W.fnOf "_law_bags" "_law_bags" (defArgs s__law_bags) (defBody s__law_bags) (defScope s__law_bags) .none kV__law_bags dc__law_bags pm__law_bags an__law_bags cd__law_bags ct__law_bags), sl__law_bags⟩)
    (c__law_bags : PySem.W.codeIn K cd__law_bags "_law_bags" = true) (k__law_bags : PySem.W.keepIn K (.ref f__law_bags) = true)
    (a__law_take : PySem.W.nsIn K mainGlobals "_law_take" = some (some (.ref f__law_take)))
    (l__law_take : K.lookup f__law_take = some ⟨oc__law_take, od__law_take, .func (PySem.W.fnOf "_law_take" "_law_take" (defArgs s__law_take) (defBody s__law_take) (defScope s__law_take) .none kV__law_take dc__law_take pm__law_take an__law_take cd__law_take ct__law_take), sl__law_take⟩)
    (c__law_take : PySem.W.codeIn K cd__law_take "_law_take" = true) (k__law_take : PySem.W.keepIn K (.ref f__law_take) = true)
    (a__law_far_draw : PySem.W.nsIn K mainGlobals "_law_far_draw" = some (some (.ref f__law_far_draw)))
    (l__law_far_draw : K.lookup f__law_far_draw = some ⟨oc__law_far_draw, od__law_far_draw, .func (PySem.W.fnOf "_law_far_draw" "_law_far_draw" (defArgs s__law_far_draw) (defBody s__law_far_draw) (defScope s__law_far_draw) .none kV__law_far_draw dc__law_far_draw pm__law_far_draw an__law_far_draw cd__law_far_draw ct__law_far_draw), sl__law_far_draw⟩)
    (c__law_far_draw : PySem.W.codeIn K cd__law_far_draw "_law_far_draw" = true) (k__law_far_draw : PySem.W.keepIn K (.ref f__law_far_draw) = true)
    (a__law_mixed : PySem.W.nsIn K mainGlobals "_law_mixed" = some (some (.ref f__law_mixed)))
    (l__law_mixed : K.lookup f__law_mixed = some ⟨oc__law_mixed, od__law_mixed, .func (PySem.W.fnOf "_law_mixed" "_law_mixed" (defArgs s__law_mixed) (defBody s__law_mixed) (defScope s__law_mixed) .none kV__law_mixed dc__law_mixed pm__law_mixed an__law_mixed cd__law_mixed ct__law_mixed), sl__law_mixed⟩)
    (c__law_mixed : PySem.W.codeIn K cd__law_mixed "_law_mixed" = true) (k__law_mixed : PySem.W.keepIn K (.ref f__law_mixed) = true)
    (a__law_names : PySem.W.nsIn K mainGlobals "_law_names" = some (some (.ref f__law_names)))
    (l__law_names : K.lookup f__law_names = some ⟨oc__law_names, od__law_names, .func (PySem.W.fnOf "_law_names" "_law_names" (defArgs s__law_names) (defBody s__law_names) (defScope s__law_names) .none kV__law_names dc__law_names pm__law_names an__law_names cd__law_names ct__law_names), sl__law_names⟩)
    (c__law_names : PySem.W.codeIn K cd__law_names "_law_names" = true) (k__law_names : PySem.W.keepIn K (.ref f__law_names) = true)
    (a__law_shares : PySem.W.nsIn K mainGlobals "_law_shares" = some (some (.ref f__law_shares)))
    (l__law_shares : K.lookup f__law_shares = some ⟨oc__law_shares, od__law_shares, .func (PySem.W.fnOf "_law_shares" "_law_shares" (defArgs s__law_shares) (defBody s__law_shares) (defScope s__law_shares) .none kV__law_shares dc__law_shares pm__law_shares an__law_shares cd__law_shares ct__law_shares), sl__law_shares⟩)
    (c__law_shares : PySem.W.codeIn K cd__law_shares "_law_shares" = true) (k__law_shares : PySem.W.keepIn K (.ref f__law_shares) = true)
    (a__law_refused : PySem.W.nsIn K mainGlobals "_law_refused" = some (some (.ref f__law_refused)))
    (l__law_refused : K.lookup f__law_refused = some ⟨oc__law_refused, od__law_refused, .func (PySem.W.fnOf "_law_refused" "_law_refused" (defArgs s__law_refused) (defBody s__law_refused) (defScope s__law_refused) .none kV__law_refused dc__law_refused pm__law_refused an__law_refused cd__law_refused ct__law_refused), sl__law_refused⟩)
    (c__law_refused : PySem.W.codeIn K cd__law_refused "_law_refused" = true) (k__law_refused : PySem.W.keepIn K (.ref f__law_refused) = true)
    (a__law_orders : PySem.W.nsIn K mainGlobals "_law_orders" = some (some (.ref f__law_orders)))
    (l__law_orders : K.lookup f__law_orders = some ⟨oc__law_orders, od__law_orders, .func (PySem.W.fnOf "_law_orders" "_law_orders" (defArgs s__law_orders) (defBody s__law_orders) (defScope s__law_orders) .none kV__law_orders dc__law_orders pm__law_orders an__law_orders cd__law_orders ct__law_orders), sl__law_orders⟩)
    (c__law_orders : PySem.W.codeIn K cd__law_orders "_law_orders" = true) (k__law_orders : PySem.W.keepIn K (.ref f__law_orders) = true)
    (a_law : PySem.W.nsIn K mainGlobals "law" = some (some (.ref f_law)))
    (l_law : K.lookup f_law = some ⟨oc_law, od_law, .func (PySem.W.fnOf "law" "law" (defArgs s_law) (defBody s_law) (defScope s_law) .none kV_law dc_law pm_law an_law cd_law ct_law), sl_law⟩)
    (c_law : PySem.W.codeIn K cd_law "law" = true) (k_law : PySem.W.keepIn K (.ref f_law) = true)
    (b_all : PySem.W.nsIn K mainGlobals "all" = some none)
    (b_bool : PySem.W.nsIn K mainGlobals "bool" = some none)
    (b_dict : PySem.W.nsIn K mainGlobals "dict" = some none)
    (b_enumerate : PySem.W.nsIn K mainGlobals "enumerate" = some none)
    (b_int : PySem.W.nsIn K mainGlobals "int" = some none)
    (b_isinstance : PySem.W.nsIn K mainGlobals "isinstance" = some none)
    (b_len : PySem.W.nsIn K mainGlobals "len" = some none)
    (b_max : PySem.W.nsIn K mainGlobals "max" = some none)
    (b_min : PySem.W.nsIn K mainGlobals "min" = some none)
    (b_range : PySem.W.nsIn K mainGlobals "range" = some none)
    (b_set : PySem.W.nsIn K mainGlobals "set" = some none)
    (b_sorted : PySem.W.nsIn K mainGlobals "sorted" = some none)
    (b_str : PySem.W.nsIn K mainGlobals "str" = some none)
    (b_tuple : PySem.W.nsIn K mainGlobals "tuple" = some none)
    (b_zip : PySem.W.nsIn K mainGlobals "zip" = some none)
    (v_MOST_CENTS : PySem.W.nsIn K mainGlobals "MOST_CENTS" = some (some (.int (1000000000000000000) k0)))
    (v_MOST_LETTERS : PySem.W.nsIn K mainGlobals "MOST_LETTERS" = some (some (.int (8) k1)))
    (v_MOST_KNOWN : PySem.W.nsIn K mainGlobals "MOST_KNOWN" = some (some (.int (8) k2)))
    (nv : PySem.W.nsIn K mainGlobals "ValueError" = some none)
    (ca_ClubError : PySem.W.nsIn K mainGlobals "ClubError" = some (some (.ref c_ClubError)))
    (ca_NoState : PySem.W.nsIn K mainGlobals "NoState" = some (some (.ref c_NoState)))
    (ca_NoCents : PySem.W.nsIn K mainGlobals "NoCents" = some (some (.ref c_NoCents)))
    (ca_NoName : PySem.W.nsIn K mainGlobals "NoName" = some (some (.ref c_NoName)))
    (ca_NoDeeds : PySem.W.nsIn K mainGlobals "NoDeeds" = some (some (.ref c_NoDeeds)))
    (ca_NoTimes : PySem.W.nsIn K mainGlobals "NoTimes" = some (some (.ref c_NoTimes)))
    (ca_NoMany : PySem.W.nsIn K mainGlobals "NoMany" = some (some (.ref c_NoMany)))
    (ca_NoPlace : PySem.W.nsIn K mainGlobals "NoPlace" = some (some (.ref c_NoPlace)))
    (ca_NoSeen : PySem.W.nsIn K mainGlobals "NoSeen" = some (some (.ref c_NoSeen)))
    (ca_NoPaid : PySem.W.nsIn K mainGlobals "NoPaid" = some (some (.ref c_NoPaid)))
    (ca_Nobody : PySem.W.nsIn K mainGlobals "Nobody" = some (some (.ref c_Nobody)))
    (ca_TooMuch : PySem.W.nsIn K mainGlobals "TooMuch" = some (some (.ref c_TooMuch)))
    (ca_Full : PySem.W.nsIn K mainGlobals "Full" = some (some (.ref c_Full)))
    (ca_LastOne : PySem.W.nsIn K mainGlobals "LastOne" = some (some (.ref c_LastOne)))
    (ca_NothingLeft : PySem.W.nsIn K mainGlobals "NothingLeft" = some (some (.ref c_NothingLeft)))
    (ca_Twice : PySem.W.nsIn K mainGlobals "Twice" = some (some (.ref c_Twice)))
    (ca_NotIn : PySem.W.nsIn K mainGlobals "NotIn" = some (some (.ref c_NotIn)))
    (ci_NoState : PySem.W.isClsIn K c_NoState = true)
    (ct_NoState : PySem.W.typeIn K (.ref c_NoState) = some (.type "type"))
    (ci_NoCents : PySem.W.isClsIn K c_NoCents = true)
    (ct_NoCents : PySem.W.typeIn K (.ref c_NoCents) = some (.type "type"))
    (ci_NoName : PySem.W.isClsIn K c_NoName = true)
    (ct_NoName : PySem.W.typeIn K (.ref c_NoName) = some (.type "type"))
    (ci_NoDeeds : PySem.W.isClsIn K c_NoDeeds = true)
    (ct_NoDeeds : PySem.W.typeIn K (.ref c_NoDeeds) = some (.type "type"))
    (ci_NoTimes : PySem.W.isClsIn K c_NoTimes = true)
    (ct_NoTimes : PySem.W.typeIn K (.ref c_NoTimes) = some (.type "type"))
    (ci_NoMany : PySem.W.isClsIn K c_NoMany = true)
    (ct_NoMany : PySem.W.typeIn K (.ref c_NoMany) = some (.type "type"))
    (ci_NoPlace : PySem.W.isClsIn K c_NoPlace = true)
    (ct_NoPlace : PySem.W.typeIn K (.ref c_NoPlace) = some (.type "type"))
    (ci_NoSeen : PySem.W.isClsIn K c_NoSeen = true)
    (ct_NoSeen : PySem.W.typeIn K (.ref c_NoSeen) = some (.type "type"))
    (ci_NoPaid : PySem.W.isClsIn K c_NoPaid = true)
    (ct_NoPaid : PySem.W.typeIn K (.ref c_NoPaid) = some (.type "type"))
    (ci_Full : PySem.W.isClsIn K c_Full = true)
    (ct_Full : PySem.W.typeIn K (.ref c_Full) = some (.type "type"))
    (ci_Nobody : PySem.W.isClsIn K c_Nobody = true)
    (ct_Nobody : PySem.W.typeIn K (.ref c_Nobody) = some (.type "type"))
    (ci_TooMuch : PySem.W.isClsIn K c_TooMuch = true)
    (ct_TooMuch : PySem.W.typeIn K (.ref c_TooMuch) = some (.type "type"))
    (ci_LastOne : PySem.W.isClsIn K c_LastOne = true)
    (ct_LastOne : PySem.W.typeIn K (.ref c_LastOne) = some (.type "type"))
    (ci_NothingLeft : PySem.W.isClsIn K c_NothingLeft = true)
    (ct_NothingLeft : PySem.W.typeIn K (.ref c_NothingLeft) = some (.type "type"))
    (ci_Twice : PySem.W.isClsIn K c_Twice = true)
    (ct_Twice : PySem.W.typeIn K (.ref c_Twice) = some (.type "type"))
    (ci_NotIn : PySem.W.isClsIn K c_NotIn = true)
    (ct_NotIn : PySem.W.typeIn K (.ref c_NotIn) = some (.type "type"))
    (ci_ClubError : PySem.W.isClsIn K c_ClubError = true)
    (ct_ClubError : PySem.W.typeIn K (.ref c_ClubError) = some (.type "type"))
    (cb_Twice : PySem.W.subIn K (.ref c_Twice) (.type "BaseException") = some true)
    (cb_NotIn : PySem.W.subIn K (.ref c_NotIn) (.type "BaseException") = some true)
    (cb_ClubError : PySem.W.subIn K (.ref c_ClubError) (.type "BaseException") = some true)
    (cx_NoCents : PySem.W.excIn K c_NoCents [.type "ValueError", .type "Exception", .type "BaseException", .type "object"] "ValueError.__new__" = true)
    (ck_NoCents : PySem.W.keepIn K (.ref c_NoCents) = true)
    (cs_NoCents : PySem.W.subIn K (.ref c_NoCents) (.type "BaseException") = some true)
    (cv_NoCents : PySem.W.subIn K (.ref c_NoCents) (.type "ValueError") = some true)
    (e1_NoCents : PySem.W.findIn K (.ref c_NoCents) "__getattribute__" = some (some (.builtin "BaseException.__getattribute__")))
    (e2_NoCents : PySem.W.findIn K (.ref c_NoCents) "__getattr__" = some none)
    (e4_NoCents : PySem.W.hasDictIn K c_NoCents = true)
    (e5_NoCents : PySem.W.findIn K (.ref c_NoCents) "__class__" = some (some (.builtin "object.__class__")))
    (e8_NoCents : PySem.W.mroIn K c_NoCents (.type "object") = some true)
    (s_NoCents_NoState : PySem.W.subIn K (.ref c_NoCents) (.ref c_NoState) = some false)
    (s_NoCents_NoCents : PySem.W.subIn K (.ref c_NoCents) (.ref c_NoCents) = some true)
    (s_NoCents_NoName : PySem.W.subIn K (.ref c_NoCents) (.ref c_NoName) = some false)
    (s_NoCents_NoDeeds : PySem.W.subIn K (.ref c_NoCents) (.ref c_NoDeeds) = some false)
    (s_NoCents_NoTimes : PySem.W.subIn K (.ref c_NoCents) (.ref c_NoTimes) = some false)
    (s_NoCents_NoMany : PySem.W.subIn K (.ref c_NoCents) (.ref c_NoMany) = some false)
    (s_NoCents_NoPlace : PySem.W.subIn K (.ref c_NoCents) (.ref c_NoPlace) = some false)
    (s_NoCents_NoSeen : PySem.W.subIn K (.ref c_NoCents) (.ref c_NoSeen) = some false)
    (s_NoCents_NoPaid : PySem.W.subIn K (.ref c_NoCents) (.ref c_NoPaid) = some false)
    (s_NoCents_Full : PySem.W.subIn K (.ref c_NoCents) (.ref c_Full) = some false)
    (s_NoCents_Nobody : PySem.W.subIn K (.ref c_NoCents) (.ref c_Nobody) = some false)
    (s_NoCents_TooMuch : PySem.W.subIn K (.ref c_NoCents) (.ref c_TooMuch) = some false)
    (s_NoCents_LastOne : PySem.W.subIn K (.ref c_NoCents) (.ref c_LastOne) = some false)
    (s_NoCents_NothingLeft : PySem.W.subIn K (.ref c_NoCents) (.ref c_NothingLeft) = some false)
    (s_NoCents_Twice : PySem.W.subIn K (.ref c_NoCents) (.ref c_Twice) = some false)
    (s_NoCents_NotIn : PySem.W.subIn K (.ref c_NoCents) (.ref c_NotIn) = some false)
    (s_NoCents_ClubError : PySem.W.subIn K (.ref c_NoCents) (.ref c_ClubError) = some true)
    (cx_NoPaid : PySem.W.excIn K c_NoPaid [.type "ValueError", .type "Exception", .type "BaseException", .type "object"] "ValueError.__new__" = true)
    (ck_NoPaid : PySem.W.keepIn K (.ref c_NoPaid) = true)
    (cs_NoPaid : PySem.W.subIn K (.ref c_NoPaid) (.type "BaseException") = some true)
    (cv_NoPaid : PySem.W.subIn K (.ref c_NoPaid) (.type "ValueError") = some true)
    (e1_NoPaid : PySem.W.findIn K (.ref c_NoPaid) "__getattribute__" = some (some (.builtin "BaseException.__getattribute__")))
    (e2_NoPaid : PySem.W.findIn K (.ref c_NoPaid) "__getattr__" = some none)
    (e4_NoPaid : PySem.W.hasDictIn K c_NoPaid = true)
    (e5_NoPaid : PySem.W.findIn K (.ref c_NoPaid) "__class__" = some (some (.builtin "object.__class__")))
    (e8_NoPaid : PySem.W.mroIn K c_NoPaid (.type "object") = some true)
    (s_NoPaid_NoState : PySem.W.subIn K (.ref c_NoPaid) (.ref c_NoState) = some false)
    (s_NoPaid_NoCents : PySem.W.subIn K (.ref c_NoPaid) (.ref c_NoCents) = some false)
    (s_NoPaid_NoName : PySem.W.subIn K (.ref c_NoPaid) (.ref c_NoName) = some false)
    (s_NoPaid_NoDeeds : PySem.W.subIn K (.ref c_NoPaid) (.ref c_NoDeeds) = some false)
    (s_NoPaid_NoTimes : PySem.W.subIn K (.ref c_NoPaid) (.ref c_NoTimes) = some false)
    (s_NoPaid_NoMany : PySem.W.subIn K (.ref c_NoPaid) (.ref c_NoMany) = some false)
    (s_NoPaid_NoPlace : PySem.W.subIn K (.ref c_NoPaid) (.ref c_NoPlace) = some false)
    (s_NoPaid_NoSeen : PySem.W.subIn K (.ref c_NoPaid) (.ref c_NoSeen) = some false)
    (s_NoPaid_NoPaid : PySem.W.subIn K (.ref c_NoPaid) (.ref c_NoPaid) = some true)
    (s_NoPaid_Full : PySem.W.subIn K (.ref c_NoPaid) (.ref c_Full) = some false)
    (s_NoPaid_Nobody : PySem.W.subIn K (.ref c_NoPaid) (.ref c_Nobody) = some false)
    (s_NoPaid_TooMuch : PySem.W.subIn K (.ref c_NoPaid) (.ref c_TooMuch) = some false)
    (s_NoPaid_LastOne : PySem.W.subIn K (.ref c_NoPaid) (.ref c_LastOne) = some false)
    (s_NoPaid_NothingLeft : PySem.W.subIn K (.ref c_NoPaid) (.ref c_NothingLeft) = some false)
    (s_NoPaid_Twice : PySem.W.subIn K (.ref c_NoPaid) (.ref c_Twice) = some false)
    (s_NoPaid_NotIn : PySem.W.subIn K (.ref c_NoPaid) (.ref c_NotIn) = some false)
    (s_NoPaid_ClubError : PySem.W.subIn K (.ref c_NoPaid) (.ref c_ClubError) = some true)
    (e6 : PySem.W.specialIn K (.builtin "object.__class__") "__get__" = some (some (.builtin "getset_descriptor.__get__")))
    (e7 : PySem.W.takesIn K (.builtin "object.__class__") = some true)
    (tb_law : PySem.W.CodeHd h tc_law tp_law ∧ h.get? tp_law = some (PySem.W.tabObj #[]))
    (nT_law : K.lookup tp_law = none)
    (q_law : cd_law = .ref tc_law) :
    LamX.LawAtS l w K CX0 8 63 "script" mg fa h := by
  have e := hfa.symm.trans (PySem.W.mg_of X G a_law)
  cases e
  have T : Bt mg k0 k1 k2 := ⟨PySem.W.mg_none_of X G b_all, PySem.W.mg_none_of X G b_bool, PySem.W.mg_none_of X G b_dict, PySem.W.mg_none_of X G b_enumerate, PySem.W.mg_none_of X G b_int, PySem.W.mg_none_of X G b_isinstance, PySem.W.mg_none_of X G b_len, PySem.W.mg_none_of X G b_max, PySem.W.mg_none_of X G b_min, PySem.W.mg_none_of X G b_range, PySem.W.mg_none_of X G b_set, PySem.W.mg_none_of X G b_sorted, PySem.W.mg_none_of X G b_str, PySem.W.mg_none_of X G b_tuple, PySem.W.mg_none_of X G b_zip, PySem.W.mg_of X G v_MOST_CENTS, PySem.W.mg_of X G v_MOST_LETTERS, PySem.W.mg_of X G v_MOST_KNOWN⟩
  have Z : Cz K mg c_ClubError c_NoState c_NoCents c_NoName c_NoDeeds c_NoTimes c_NoMany c_NoPlace c_NoSeen c_NoPaid c_Nobody c_TooMuch c_Full c_LastOne c_NothingLeft c_Twice c_NotIn := ⟨PySem.W.mg_none_of X G nv, PySem.W.mg_of X G ca_ClubError, PySem.W.mg_of X G ca_NoState, PySem.W.mg_of X G ca_NoCents, PySem.W.mg_of X G ca_NoName, PySem.W.mg_of X G ca_NoDeeds, PySem.W.mg_of X G ca_NoTimes, PySem.W.mg_of X G ca_NoMany, PySem.W.mg_of X G ca_NoPlace, PySem.W.mg_of X G ca_NoSeen, PySem.W.mg_of X G ca_NoPaid, PySem.W.mg_of X G ca_Nobody, PySem.W.mg_of X G ca_TooMuch, PySem.W.mg_of X G ca_Full, PySem.W.mg_of X G ca_LastOne, PySem.W.mg_of X G ca_NothingLeft, PySem.W.mg_of X G ca_Twice, PySem.W.mg_of X G ca_NotIn, cx_NoCents, ck_NoCents, cs_NoCents, ct_NoCents, ⟨e1_NoCents, e2_NoCents, cs_NoCents, e4_NoCents, e5_NoCents, e6, e7, e8_NoCents⟩, ⟨exm_cls cb_Twice ci_Twice ct_Twice s_NoCents_Twice, exm_cls cb_NotIn ci_NotIn ct_NotIn s_NoCents_NotIn, exm_cls cb_ClubError ci_ClubError ct_ClubError s_NoCents_ClubError⟩, kit_cls ci_NoState ct_NoState s_NoCents_NoCents s_NoCents_NoState, kit_cls ci_NoCents ct_NoCents s_NoCents_NoCents s_NoCents_NoCents, kit_cls ci_NoName ct_NoName s_NoCents_NoCents s_NoCents_NoName, kit_cls ci_NoDeeds ct_NoDeeds s_NoCents_NoCents s_NoCents_NoDeeds, kit_cls ci_NoTimes ct_NoTimes s_NoCents_NoCents s_NoCents_NoTimes, kit_cls ci_NoMany ct_NoMany s_NoCents_NoCents s_NoCents_NoMany, kit_cls ci_NoPlace ct_NoPlace s_NoCents_NoCents s_NoCents_NoPlace, kit_cls ci_NoSeen ct_NoSeen s_NoCents_NoCents s_NoCents_NoSeen, kit_cls ci_NoPaid ct_NoPaid s_NoCents_NoCents s_NoCents_NoPaid, kit_cls ci_Full ct_Full s_NoCents_NoCents s_NoCents_Full, kit_cls ci_Nobody ct_Nobody s_NoCents_NoCents s_NoCents_Nobody, kit_cls ci_TooMuch ct_TooMuch s_NoCents_NoCents s_NoCents_TooMuch, kit_cls ci_LastOne ct_LastOne s_NoCents_NoCents s_NoCents_LastOne, kit_cls ci_NothingLeft ct_NothingLeft s_NoCents_NoCents s_NoCents_NothingLeft, kit_ty cv_NoCents, cx_NoPaid, ck_NoPaid, cs_NoPaid, ct_NoPaid, ⟨e1_NoPaid, e2_NoPaid, cs_NoPaid, e4_NoPaid, e5_NoPaid, e6, e7, e8_NoPaid⟩, ⟨exm_cls cb_Twice ci_Twice ct_Twice s_NoPaid_Twice, exm_cls cb_NotIn ci_NotIn ct_NotIn s_NoPaid_NotIn, exm_cls cb_ClubError ci_ClubError ct_ClubError s_NoPaid_ClubError⟩, kit_cls ci_NoState ct_NoState s_NoPaid_NoPaid s_NoPaid_NoState, kit_cls ci_NoCents ct_NoCents s_NoPaid_NoPaid s_NoPaid_NoCents, kit_cls ci_NoName ct_NoName s_NoPaid_NoPaid s_NoPaid_NoName, kit_cls ci_NoDeeds ct_NoDeeds s_NoPaid_NoPaid s_NoPaid_NoDeeds, kit_cls ci_NoTimes ct_NoTimes s_NoPaid_NoPaid s_NoPaid_NoTimes, kit_cls ci_NoMany ct_NoMany s_NoPaid_NoPaid s_NoPaid_NoMany, kit_cls ci_NoPlace ct_NoPlace s_NoPaid_NoPaid s_NoPaid_NoPlace, kit_cls ci_NoSeen ct_NoSeen s_NoPaid_NoPaid s_NoPaid_NoSeen, kit_cls ci_NoPaid ct_NoPaid s_NoPaid_NoPaid s_NoPaid_NoPaid, kit_cls ci_Full ct_Full s_NoPaid_NoPaid s_NoPaid_Full, kit_cls ci_Nobody ct_Nobody s_NoPaid_NoPaid s_NoPaid_Nobody, kit_cls ci_TooMuch ct_TooMuch s_NoPaid_NoPaid s_NoPaid_TooMuch, kit_cls ci_LastOne ct_LastOne s_NoPaid_NoPaid s_NoPaid_LastOne, kit_cls ci_NothingLeft ct_NothingLeft s_NoPaid_NoPaid s_NoPaid_NothingLeft, kit_ty cv_NoPaid⟩
  have F_is_whole_within := fun_mk (st := s_is_whole_within) l_is_whole_within c_is_whole_within k_is_whole_within
  have D_is_whole_within : Df K mg "is_whole_within" s_is_whole_within ["thing", "least", "most"] _ _ := ⟨F_is_whole_within, F_is_whole_within.binds (ps := ["thing", "least", "most"]) fun _ _ _ _ _ _ us hl => match us, hl with | [_, _, _], _ => rfl, PySem.W.mg_of X G a_is_whole_within⟩
  have F_is_cents := fun_mk (st := s_is_cents) l_is_cents c_is_cents k_is_cents
  have D_is_cents : Df K mg "is_cents" s_is_cents ["thing"] _ _ := ⟨F_is_cents, F_is_cents.binds (ps := ["thing"]) fun _ _ _ _ _ _ us hl => match us, hl with | [_], _ => rfl, PySem.W.mg_of X G a_is_cents⟩
  have F_is_name := fun_mk (st := s_is_name) l_is_name c_is_name k_is_name
  have D_is_name : Df K mg "is_name" s_is_name ["thing"] _ _ := ⟨F_is_name, F_is_name.binds (ps := ["thing"]) fun _ _ _ _ _ _ us hl => match us, hl with | [_], _ => rfl, PySem.W.mg_of X G a_is_name⟩
  have F_is_pair := fun_mk (st := s_is_pair) l_is_pair c_is_pair k_is_pair
  have D_is_pair : Df K mg "is_pair" s_is_pair ["thing"] _ _ := ⟨F_is_pair, F_is_pair.binds (ps := ["thing"]) fun _ _ _ _ _ _ us hl => match us, hl with | [_], _ => rfl, PySem.W.mg_of X G a_is_pair⟩
  have F_share := fun_mk (st := s_share) l_share c_share k_share
  have D_share : Df K mg "share" s_share ["bills", "many", "place"] _ _ := ⟨F_share, F_share.binds (ps := ["bills", "many", "place"]) fun _ _ _ _ _ _ us hl => match us, hl with | [_, _, _], _ => rfl, PySem.W.mg_of X G a_share⟩
  have F_check_bills := fun_mk (st := s_check_bills) l_check_bills c_check_bills k_check_bills
  have D_check_bills : Df K mg "check_bills" s_check_bills ["bills"] _ _ := ⟨F_check_bills, F_check_bills.binds (ps := ["bills"]) fun _ _ _ _ _ _ us hl => match us, hl with | [_], _ => rfl, PySem.W.mg_of X G a_check_bills⟩
  have F_is_known := fun_mk (st := s_is_known) l_is_known c_is_known k_is_known
  have D_is_known : Df K mg "is_known" s_is_known ["thing"] _ _ := ⟨F_is_known, F_is_known.binds (ps := ["thing"]) fun _ _ _ _ _ _ us hl => match us, hl with | [_], _ => rfl, PySem.W.mg_of X G a_is_known⟩
  have F_check_known := fun_mk (st := s_check_known) l_check_known c_check_known k_check_known
  have D_check_known : Df K mg "check_known" s_check_known ["known"] _ _ := ⟨F_check_known, F_check_known.binds (ps := ["known"]) fun _ _ _ _ _ _ us hl => match us, hl with | [_], _ => rfl, PySem.W.mg_of X G a_check_known⟩
  have F_factorial := fun_mk (st := s_factorial) l_factorial c_factorial k_factorial
  have D_factorial : Df K mg "factorial" s_factorial ["many"] _ _ := ⟨F_factorial, F_factorial.binds (ps := ["many"]) fun _ _ _ _ _ _ us hl => match us, hl with | [_], _ => rfl, PySem.W.mg_of X G a_factorial⟩
  have F_orders := fun_mk (st := s_orders) l_orders c_orders k_orders
  have D_orders : Df K mg "orders" s_orders ["bills", "known"] _ _ := ⟨F_orders, F_orders.binds (ps := ["bills", "known"]) fun _ _ _ _ _ _ us hl => match us, hl with | [_, _], _ => rfl, PySem.W.mg_of X G a_orders⟩
  have F__law_cell_at := fun_mk (st := s__law_cell_at) l__law_cell_at c__law_cell_at k__law_cell_at
  have D__law_cell_at : Df K mg "_law_cell_at" s__law_cell_at ["script", "k"] _ _ := ⟨F__law_cell_at, F__law_cell_at.binds (ps := ["script", "k"]) fun _ _ _ _ _ _ us hl => match us, hl with | [_, _], _ => rfl, PySem.W.mg_of X G a__law_cell_at⟩
  have F__law_draws := fun_mk (st := s__law_draws) l__law_draws c__law_draws k__law_draws
  have D__law_draws : Df K mg "_law_draws" s__law_draws ["cell", "many", "size"] _ _ := ⟨F__law_draws, F__law_draws.binds (ps := ["cell", "many", "size"]) fun _ _ _ _ _ _ us hl => match us, hl with | [_, _, _], _ => rfl, PySem.W.mg_of X G a__law_draws⟩
  have F__law_bag := fun_mk (st := s__law_bag) l__law_bag c__law_bag k__law_bag
  have D__law_bag : Df K mg "_law_bag" s__law_bag ["script", "k"] _ _ := ⟨F__law_bag, F__law_bag.binds (ps := ["script", "k"]) fun _ _ _ _ _ _ us hl => match us, hl with | [_, _], _ => rfl, PySem.W.mg_of X G a__law_bag⟩
  have F__law_bags := fun_mk (st := s__law_bags) l__law_bags c__law_bags k__law_bags
  have D__law_bags : Df K mg "_law_bags" s__law_bags ["script", "limit"] _ _ := ⟨F__law_bags, F__law_bags.binds (ps := ["script", "limit"]) fun _ _ _ _ _ _ us hl => match us, hl with | [_, _], _ => rfl, PySem.W.mg_of X G a__law_bags⟩
  have F__law_take := fun_mk (st := s__law_take) l__law_take c__law_take k__law_take
  have D__law_take : Df K mg "_law_take" s__law_take ["bag", "many"] _ _ := ⟨F__law_take, F__law_take.binds (ps := ["bag", "many"]) fun _ _ _ _ _ _ us hl => match us, hl with | [_, _], _ => rfl, PySem.W.mg_of X G a__law_take⟩
  have F__law_far_draw := fun_mk (st := s__law_far_draw) l__law_far_draw c__law_far_draw k__law_far_draw
  have D__law_far_draw : Df K mg "_law_far_draw" s__law_far_draw ["bag", "many"] _ _ := ⟨F__law_far_draw, F__law_far_draw.binds (ps := ["bag", "many"]) fun _ _ _ _ _ _ us hl => match us, hl with | [_, _], _ => rfl, PySem.W.mg_of X G a__law_far_draw⟩
  have F__law_mixed := fun_mk (st := s__law_mixed) l__law_mixed c__law_mixed k__law_mixed
  have D__law_mixed : Df K mg "_law_mixed" s__law_mixed ["bag", "many"] _ _ := ⟨F__law_mixed, F__law_mixed.binds (ps := ["bag", "many"]) fun _ _ _ _ _ _ us hl => match us, hl with | [_, _], _ => rfl, PySem.W.mg_of X G a__law_mixed⟩
  have F__law_names := fun_mk (st := s__law_names) l__law_names c__law_names k__law_names
  have D__law_names : Df K mg "_law_names" s__law_names ["many"] _ _ := ⟨F__law_names, F__law_names.binds (ps := ["many"]) fun _ _ _ _ _ _ us hl => match us, hl with | [_], _ => rfl, PySem.W.mg_of X G a__law_names⟩
  have F__law_shares := fun_mk (st := s__law_shares) l__law_shares c__law_shares k__law_shares
  have D__law_shares : Df K mg "_law_shares" s__law_shares ["bills", "many"] _ _ := ⟨F__law_shares, F__law_shares.binds (ps := ["bills", "many"]) fun _ _ _ _ _ _ us hl => match us, hl with | [_, _], _ => rfl, PySem.W.mg_of X G a__law_shares⟩
  have F__law_refused := fun_mk (st := s__law_refused) l__law_refused c__law_refused k__law_refused
  have D__law_refused : Df K mg "_law_refused" s__law_refused ["call", "one", "two", "three"] _ _ := ⟨F__law_refused, F__law_refused.binds (ps := ["call", "one", "two", "three"]) fun _ _ _ _ _ _ us hl => match us, hl with | [_, _, _, _], _ => rfl, PySem.W.mg_of X G a__law_refused⟩
  have F__law_orders := fun_mk (st := s__law_orders) l__law_orders c__law_orders k__law_orders
  have D__law_orders : Df K mg "_law_orders" s__law_orders ["names"] _ _ := ⟨F__law_orders, F__law_orders.binds (ps := ["names"]) fun _ _ _ _ _ _ us hl => match us, hl with | [_], _ => rfl, PySem.W.mg_of X G a__law_orders⟩
  have F_law := fun_mk (st := s_law) l_law c_law k_law
  have D_law : Df K mg "law" s_law ["script"] _ _ := ⟨F_law, F_law.binds (ps := ["script"]) fun _ _ _ _ _ _ us hl => match us, hl with | [_], _ => rfl, PySem.W.mg_of X G a_law⟩
  subst q_law
  refine ⟨PySem.W.fnOf "law" "law" (defArgs s_law) (defBody s_law) (defScope s_law) .none kV_law dc_law pm_law an_law (.ref tc_law) ct_law, [(tc_law, tp_law)], spLawP [tp_law] K, fun p hp => ?_, fun p hp => ?_, fun p hp => ?_, fun s v => .of_eq rfl, fun H a ns hl _ hT hS => ⟨a, ns, rfl, hS, hl, fun p hp => ?_, fun _ => rfl⟩, fun base _ _ TBs => ?_⟩
  · simp only [List.mem_cons, List.not_mem_nil, or_false] at hp; rcases hp with hp
    · rw [hp]; exact tb_law.2
  · simp only [List.mem_cons, List.not_mem_nil, or_false] at hp; rcases hp with hp
    · rw [hp]; exact nT_law
  · simp only [List.mem_cons, List.not_mem_nil, or_false] at hp; rcases hp with hp
    · rw [hp]; exact tb_law.1
  · simp only [List.mem_cons, List.not_mem_nil, or_false] at hp; rcases hp with hp
    · rw [hp]; exact NdefX.TabN.nil (hT (tc_law, tp_law) (by simp))
  have TB_law := TBs (tc_law, tp_law) (by simp)
  have G0_is_whole_within := ok_is_whole_within (P := l.prog) (w := w) (K := K) (mg := mg) (base := base) D_is_whole_within T
  have G_is_whole_within := G0_is_whole_within.imp wr_within
  have G0_is_cents := ok_is_cents (P := l.prog) (w := w) (K := K) (mg := mg) (base := base) D_is_cents D_is_whole_within G0_is_whole_within T
  have G_is_cents := G0_is_cents.imp wr_one
  have G0_is_name := ok_is_name (P := l.prog) (w := w) (K := K) (mg := mg) (base := base) D_is_name T
  have G_is_name := G0_is_name.imp wr_one
  have G0_is_pair := ok_is_pair (P := l.prog) (w := w) (K := K) (mg := mg) (base := base) D_is_pair T
  have G_is_pair := G0_is_pair.imp wr_one
  have G_share := ok_share (P := l.prog) (w := w) (K := K) (mg := mg) (base := base) D_share  T
  have G_check_bills := ok_check_bills (P := l.prog) (w := w) (K := K) (mg := mg) (base := base) D_check_bills D_is_cents G_is_cents T
  have GX_check_bills := okx_check_bills (P := l.prog) (w := w) (K := K) (mg := mg) (base := base) D_check_bills D_is_cents G_is_cents T Z
  have G_is_known := ok_is_known (P := l.prog) (w := w) (K := K) (mg := mg) (base := base) D_is_known D_is_cents D_is_name D_is_pair G_is_cents G_is_name G_is_pair T
  have G_check_known := ok_check_known (P := l.prog) (w := w) (K := K) (mg := mg) (base := base) D_check_known D_is_known G_is_known T
  have GX_check_known := okx_check_known (P := l.prog) (w := w) (K := K) (mg := mg) (base := base) D_check_known D_is_known G_is_known T Z
  have G_factorial := ok_factorial (P := l.prog) (w := w) (K := K) (mg := mg) (base := base) D_factorial  T
  have G_orders := ok_orders (P := l.prog) (w := w) (K := K) (mg := mg) (base := base) D_orders D_share D_check_bills D_check_known D_factorial G_share G_check_bills G_check_known G_factorial T
  have GX_orders := okx_orders (P := l.prog) (w := w) (K := K) (mg := mg) (base := base) D_orders D_share D_factorial D_check_bills D_check_known G_share G_factorial GX_check_bills GX_check_known T Z
  have G0__law_cell_at := ok__law_cell_at (P := l.prog) (w := w) (K := K) (mg := mg) (base := base) D__law_cell_at T
  have G0__law_draws := ok__law_draws (P := l.prog) (w := w) (K := K) (mg := mg) (base := base) D__law_draws T
  have G0__law_bag := ok__law_bag (P := l.prog) (w := w) (K := K) (mg := mg) (base := base) D__law_bag D__law_draws D__law_cell_at G0__law_draws G0__law_cell_at T
  have G0__law_bags := ok__law_bags (P := l.prog) (w := w) (K := K) (mg := mg) (base := base) D__law_bags D__law_bag G0__law_bag T
  have G__law_bags := G0__law_bags
  have G0__law_take := ok__law_take (P := l.prog) (w := w) (K := K) (mg := mg) (base := base) D__law_take T
  have G__law_take := G0__law_take.imp wr_take
  have G0__law_far_draw := ok__law_far_draw (P := l.prog) (w := w) (K := K) (mg := mg) (base := base) D__law_far_draw D__law_take G0__law_take T
  have G__law_far_draw := G0__law_far_draw.imp wr_take
  have G0__law_mixed := ok__law_mixed (P := l.prog) (w := w) (K := K) (mg := mg) (base := base) D__law_mixed D__law_take G0__law_take T
  have G__law_mixed := G0__law_mixed.imp wr_mixed
  have G0__law_names := ok__law_names (P := l.prog) (w := w) (K := K) (mg := mg) (base := base) D__law_names T
  have G__law_names := G0__law_names.imp wr_names
  have G__law_shares := ok__law_shares (P := l.prog) (w := w) (K := K) (mg := mg) (base := base) D__law_shares  T
  have G__law_orders := ok__law_orders (P := l.prog) (w := w) (K := K) (mg := mg) (base := base) D__law_orders  T
  have GL_law_0 := okL__law_refused (P := l.prog) (w := w) (K := K) (mg := mg) (base := base) (lok_law_0 D_orders GX_orders) D__law_refused T Z
  have GL_law_1 := okL__law_refused (P := l.prog) (w := w) (K := K) (mg := mg) (base := base) (lok_law_1 D_orders GX_orders) D__law_refused T Z
  have GL_law_2 := okL__law_refused (P := l.prog) (w := w) (K := K) (mg := mg) (base := base) (lok_law_2 D_orders GX_orders) D__law_refused T Z
  exact ok_law (P := l.prog) (w := w) (K := K) (mg := mg) (base := base) D_law D_orders D__law_bags D__law_take D__law_far_draw D__law_mixed D__law_names D__law_shares D__law_orders D__law_refused G_orders G__law_bags G__law_take G__law_far_draw G__law_mixed G__law_names G__law_shares G__law_orders TB_law rfl GL_law_0 GL_law_1 GL_law_2 T Z
end Dm
open PySem PySem.W PyProof.Rows
set_option maxRecDepth 100000 in
set_option maxHeartbeats 0 in
theorem PySem.Challenge.cw_paidback_k10_orders_told_back_holds : PySem.Challenge.rw_paidback_k10_orders_told_back.Holds := by
  w_on; o_law; k_head; (case hw => w_witness2)
  k_fill
  refine LamX.walk_ofTs (l := PySem.Challenge.rw_paidback_k10_orders_told_back) (n := 63) (k := 8) (x := "script") (CX := fun _ => L2.CX0) rfl (by decide) rfl ⟨rfl, by decide, by decide⟩ (fun w h Y => PySem.W.km_in_of Y) ?F (fun _ _ _ _ _ h => h)
  case F =>
    intro w mg fa h Y KX G hmg
    refine' Dm.all_mk KX G hmg ?a_is_whole_within ?l_is_whole_within ?c_is_whole_within ?k_is_whole_within ?a_is_cents ?l_is_cents ?c_is_cents ?k_is_cents ?a_is_name ?l_is_name ?c_is_name ?k_is_name ?a_is_pair ?l_is_pair ?c_is_pair ?k_is_pair ?a_share ?l_share ?c_share ?k_share ?a_check_bills ?l_check_bills ?c_check_bills ?k_check_bills ?a_is_known ?l_is_known ?c_is_known ?k_is_known ?a_check_known ?l_check_known ?c_check_known ?k_check_known ?a_factorial ?l_factorial ?c_factorial ?k_factorial ?a_orders ?l_orders ?c_orders ?k_orders ?a__law_cell_at ?l__law_cell_at ?c__law_cell_at ?k__law_cell_at ?a__law_draws ?l__law_draws ?c__law_draws ?k__law_draws ?a__law_bag ?l__law_bag ?c__law_bag ?k__law_bag ?a__law_bags ?l__law_bags ?c__law_bags ?k__law_bags ?a__law_take ?l__law_take ?c__law_take ?k__law_take ?a__law_far_draw ?l__law_far_draw ?c__law_far_draw ?k__law_far_draw ?a__law_mixed ?l__law_mixed ?c__law_mixed ?k__law_mixed ?a__law_names ?l__law_names ?c__law_names ?k__law_names ?a__law_shares ?l__law_shares ?c__law_shares ?k__law_shares ?a__law_refused ?l__law_refused ?c__law_refused ?k__law_refused ?a__law_orders ?l__law_orders ?c__law_orders ?k__law_orders ?a_law ?l_law ?c_law ?k_law ?b_all ?b_bool ?b_dict ?b_enumerate ?b_int ?b_isinstance ?b_len ?b_max ?b_min ?b_range ?b_set ?b_sorted ?b_str ?b_tuple ?b_zip ?v_MOST_CENTS ?v_MOST_LETTERS ?v_MOST_KNOWN ?nv ?ca_ClubError ?ca_NoState ?ca_NoCents ?ca_NoName ?ca_NoDeeds ?ca_NoTimes ?ca_NoMany ?ca_NoPlace ?ca_NoSeen ?ca_NoPaid ?ca_Nobody ?ca_TooMuch ?ca_Full ?ca_LastOne ?ca_NothingLeft ?ca_Twice ?ca_NotIn ?ci_NoState ?ct_NoState ?ci_NoCents ?ct_NoCents ?ci_NoName ?ct_NoName ?ci_NoDeeds ?ct_NoDeeds ?ci_NoTimes ?ct_NoTimes ?ci_NoMany ?ct_NoMany ?ci_NoPlace ?ct_NoPlace ?ci_NoSeen ?ct_NoSeen ?ci_NoPaid ?ct_NoPaid ?ci_Full ?ct_Full ?ci_Nobody ?ct_Nobody ?ci_TooMuch ?ct_TooMuch ?ci_LastOne ?ct_LastOne ?ci_NothingLeft ?ct_NothingLeft ?ci_Twice ?ct_Twice ?ci_NotIn ?ct_NotIn ?ci_ClubError ?ct_ClubError ?cb_Twice ?cb_NotIn ?cb_ClubError ?cx_NoCents ?ck_NoCents ?cs_NoCents ?cv_NoCents ?e1_NoCents ?e2_NoCents ?e4_NoCents ?e5_NoCents ?e8_NoCents ?s_NoCents_NoState ?s_NoCents_NoCents ?s_NoCents_NoName ?s_NoCents_NoDeeds ?s_NoCents_NoTimes ?s_NoCents_NoMany ?s_NoCents_NoPlace ?s_NoCents_NoSeen ?s_NoCents_NoPaid ?s_NoCents_Full ?s_NoCents_Nobody ?s_NoCents_TooMuch ?s_NoCents_LastOne ?s_NoCents_NothingLeft ?s_NoCents_Twice ?s_NoCents_NotIn ?s_NoCents_ClubError ?cx_NoPaid ?ck_NoPaid ?cs_NoPaid ?cv_NoPaid ?e1_NoPaid ?e2_NoPaid ?e4_NoPaid ?e5_NoPaid ?e8_NoPaid ?s_NoPaid_NoState ?s_NoPaid_NoCents ?s_NoPaid_NoName ?s_NoPaid_NoDeeds ?s_NoPaid_NoTimes ?s_NoPaid_NoMany ?s_NoPaid_NoPlace ?s_NoPaid_NoSeen ?s_NoPaid_NoPaid ?s_NoPaid_Full ?s_NoPaid_Nobody ?s_NoPaid_TooMuch ?s_NoPaid_LastOne ?s_NoPaid_NothingLeft ?s_NoPaid_Twice ?s_NoPaid_NotIn ?s_NoPaid_ClubError ?e6 ?e7 ?tb_law ?nT_law ?q_law
    (case a_is_whole_within => k_is)
    (case l_is_whole_within => k_is)
    (case c_is_whole_within => k_is)
    (case k_is_whole_within => k_is)
    (case a_is_cents => k_is)
    (case l_is_cents => k_is)
    (case c_is_cents => k_is)
    (case k_is_cents => k_is)
    (case a_is_name => k_is)
    (case l_is_name => k_is)
    (case c_is_name => k_is)
    (case k_is_name => k_is)
    (case a_is_pair => k_is)
    (case l_is_pair => k_is)
    (case c_is_pair => k_is)
    (case k_is_pair => k_is)
    (case a_share => k_is)
    (case l_share => k_is)
    (case c_share => k_is)
    (case k_share => k_is)
    (case a_check_bills => k_is)
    (case l_check_bills => k_is)
    (case c_check_bills => k_is)
    (case k_check_bills => k_is)
    (case a_is_known => k_is)
    (case l_is_known => k_is)
    (case c_is_known => k_is)
    (case k_is_known => k_is)
    (case a_check_known => k_is)
    (case l_check_known => k_is)
    (case c_check_known => k_is)
    (case k_check_known => k_is)
    (case a_factorial => k_is)
    (case l_factorial => k_is)
    (case c_factorial => k_is)
    (case k_factorial => k_is)
    (case a_orders => k_is)
    (case l_orders => k_is)
    (case c_orders => k_is)
    (case k_orders => k_is)
    (case a__law_cell_at => k_is)
    (case l__law_cell_at => k_is)
    (case c__law_cell_at => k_is)
    (case k__law_cell_at => k_is)
    (case a__law_draws => k_is)
    (case l__law_draws => k_is)
    (case c__law_draws => k_is)
    (case k__law_draws => k_is)
    (case a__law_bag => k_is)
    (case l__law_bag => k_is)
    (case c__law_bag => k_is)
    (case k__law_bag => k_is)
    (case a__law_bags => k_is)
    (case l__law_bags => k_is)
    (case c__law_bags => k_is)
    (case k__law_bags => k_is)
    (case a__law_take => k_is)
    (case l__law_take => k_is)
    (case c__law_take => k_is)
    (case k__law_take => k_is)
    (case a__law_far_draw => k_is)
    (case l__law_far_draw => k_is)
    (case c__law_far_draw => k_is)
    (case k__law_far_draw => k_is)
    (case a__law_mixed => k_is)
    (case l__law_mixed => k_is)
    (case c__law_mixed => k_is)
    (case k__law_mixed => k_is)
    (case a__law_names => k_is)
    (case l__law_names => k_is)
    (case c__law_names => k_is)
    (case k__law_names => k_is)
    (case a__law_shares => k_is)
    (case l__law_shares => k_is)
    (case c__law_shares => k_is)
    (case k__law_shares => k_is)
    (case a__law_refused => k_is)
    (case l__law_refused => k_is)
    (case c__law_refused => k_is)
    (case k__law_refused => k_is)
    (case a__law_orders => k_is)
    (case l__law_orders => k_is)
    (case c__law_orders => k_is)
    (case k__law_orders => k_is)
    (case a_law => k_is)
    (case l_law => k_is)
    (case c_law => k_is)
    (case k_law => k_is)
    (case b_all => k_is)
    (case b_bool => k_is)
    (case b_dict => k_is)
    (case b_enumerate => k_is)
    (case b_int => k_is)
    (case b_isinstance => k_is)
    (case b_len => k_is)
    (case b_max => k_is)
    (case b_min => k_is)
    (case b_range => k_is)
    (case b_set => k_is)
    (case b_sorted => k_is)
    (case b_str => k_is)
    (case b_tuple => k_is)
    (case b_zip => k_is)
    (case v_MOST_CENTS => k_is)
    (case v_MOST_LETTERS => k_is)
    (case v_MOST_KNOWN => k_is)
    (case q_law => first | rfl | k_is)
    (case tb_law => exact ⟨PySem.W.codeHd_of_K KX (by kernel_rfl), PySem.W.km_tabs_of Y _ List.mem_cons_self⟩)
    (case nT_law => first | kernel_rfl | rfl)
    (case nv => k_is)
    (case ca_ClubError => k_is)
    (case ca_NoState => k_is)
    (case ca_NoCents => k_is)
    (case ca_NoName => k_is)
    (case ca_NoDeeds => k_is)
    (case ca_NoTimes => k_is)
    (case ca_NoMany => k_is)
    (case ca_NoPlace => k_is)
    (case ca_NoSeen => k_is)
    (case ca_NoPaid => k_is)
    (case ca_Nobody => k_is)
    (case ca_TooMuch => k_is)
    (case ca_Full => k_is)
    (case ca_LastOne => k_is)
    (case ca_NothingLeft => k_is)
    (case ca_Twice => k_is)
    (case ca_NotIn => k_is)
    (case ci_NoState => k_is)
    (case ct_NoState => k_is)
    (case ci_NoCents => k_is)
    (case ct_NoCents => k_is)
    (case ci_NoName => k_is)
    (case ct_NoName => k_is)
    (case ci_NoDeeds => k_is)
    (case ct_NoDeeds => k_is)
    (case ci_NoTimes => k_is)
    (case ct_NoTimes => k_is)
    (case ci_NoMany => k_is)
    (case ct_NoMany => k_is)
    (case ci_NoPlace => k_is)
    (case ct_NoPlace => k_is)
    (case ci_NoSeen => k_is)
    (case ct_NoSeen => k_is)
    (case ci_NoPaid => k_is)
    (case ct_NoPaid => k_is)
    (case ci_Full => k_is)
    (case ct_Full => k_is)
    (case ci_Nobody => k_is)
    (case ct_Nobody => k_is)
    (case ci_TooMuch => k_is)
    (case ct_TooMuch => k_is)
    (case ci_LastOne => k_is)
    (case ct_LastOne => k_is)
    (case ci_NothingLeft => k_is)
    (case ct_NothingLeft => k_is)
    (case ci_Twice => k_is)
    (case ct_Twice => k_is)
    (case ci_NotIn => k_is)
    (case ct_NotIn => k_is)
    (case ci_ClubError => k_is)
    (case ct_ClubError => k_is)
    (case cb_Twice => k_is)
    (case cb_NotIn => k_is)
    (case cb_ClubError => k_is)
    (case cx_NoCents => k_exc)
    (case ck_NoCents => k_is)
    (case cs_NoCents => k_is)
    (case cv_NoCents => k_is)
    (case e1_NoCents => k_is)
    (case e2_NoCents => k_is)
    (case e4_NoCents => k_is)
    (case e5_NoCents => k_is)
    (case e8_NoCents => k_is)
    (case s_NoCents_NoState => first | rfl | k_is)
    (case s_NoCents_NoCents => first | rfl | k_is)
    (case s_NoCents_NoName => first | rfl | k_is)
    (case s_NoCents_NoDeeds => first | rfl | k_is)
    (case s_NoCents_NoTimes => first | rfl | k_is)
    (case s_NoCents_NoMany => first | rfl | k_is)
    (case s_NoCents_NoPlace => first | rfl | k_is)
    (case s_NoCents_NoSeen => first | rfl | k_is)
    (case s_NoCents_NoPaid => first | rfl | k_is)
    (case s_NoCents_Full => first | rfl | k_is)
    (case s_NoCents_Nobody => first | rfl | k_is)
    (case s_NoCents_TooMuch => first | rfl | k_is)
    (case s_NoCents_LastOne => first | rfl | k_is)
    (case s_NoCents_NothingLeft => first | rfl | k_is)
    (case s_NoCents_Twice => first | rfl | k_is)
    (case s_NoCents_NotIn => first | rfl | k_is)
    (case s_NoCents_ClubError => first | rfl | k_is)
    (case cx_NoPaid => k_exc)
    (case ck_NoPaid => k_is)
    (case cs_NoPaid => k_is)
    (case cv_NoPaid => k_is)
    (case e1_NoPaid => k_is)
    (case e2_NoPaid => k_is)
    (case e4_NoPaid => k_is)
    (case e5_NoPaid => k_is)
    (case e8_NoPaid => k_is)
    (case s_NoPaid_NoState => first | rfl | k_is)
    (case s_NoPaid_NoCents => first | rfl | k_is)
    (case s_NoPaid_NoName => first | rfl | k_is)
    (case s_NoPaid_NoDeeds => first | rfl | k_is)
    (case s_NoPaid_NoTimes => first | rfl | k_is)
    (case s_NoPaid_NoMany => first | rfl | k_is)
    (case s_NoPaid_NoPlace => first | rfl | k_is)
    (case s_NoPaid_NoSeen => first | rfl | k_is)
    (case s_NoPaid_NoPaid => first | rfl | k_is)
    (case s_NoPaid_Full => first | rfl | k_is)
    (case s_NoPaid_Nobody => first | rfl | k_is)
    (case s_NoPaid_TooMuch => first | rfl | k_is)
    (case s_NoPaid_LastOne => first | rfl | k_is)
    (case s_NoPaid_NothingLeft => first | rfl | k_is)
    (case s_NoPaid_Twice => first | rfl | k_is)
    (case s_NoPaid_NotIn => first | rfl | k_is)
    (case s_NoPaid_ClubError => first | rfl | k_is)
    (case e6 => k_is)
    (case e7 => k_is)
