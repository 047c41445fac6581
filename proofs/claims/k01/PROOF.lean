import PyProof.Rows.All
import Wide.All
import OpenK.AllK
import Wide.FinOn
import HandS.ForMost
import HandS.IsInst
import HandS.Strs
import HandS.More
import HandS.Style
import HandS.RaiseMore
import HandS.Walk
import HandS.TupAny
import HandS.Evl
import PySem.Challenge.RW_paidback_k01_states_known
set_option Elab.async false
set_option linter.all false
set_option maxRecDepth 100000
set_option maxHeartbeats 8000000
namespace Pb
open PySem L2
/-! ### a bag: a list of a list of 400 draws and of a count -/
def BagQ (p q : Addr) (H : Hp) : Prop := ∃ (k : Int) (xs : List Int), q ≠ p ∧ 0 ≤ k ∧ xs.length = 400 ∧ H p = some (.lst [.ref q, .int k]) ∧ H q = some (.lst (xs.map V.int))
/-- n: how wide data is at most; p: the bag; S: what else no data is -/
structure Fz where
  n : Nat
  p : Addr
  S : List Addr
abbrev Fz.w (z : Fz) (m : Nat) : Fz := { z with n := m }
abbrev Fz.av (z : Fz) (L : Addr) : Fz := { z with S := L :: z.S }
def Al (p : Addr) (H : Hp) : Prop := ∃ o, H p = some o ∧ ∀ xs, o ≠ .tup xs
/-- the heap has grown; what stood stands, but for the bag at p, which is a bag still -/
structure ExB (p : Addr) (H H' : Hp) : Prop where
  keep : ∀ a o, a ≠ p → H a = some o → H' a = some o
  al : Al p H → Al p H'
  bag : ∀ q, BagQ p q H → BagQ p q H'
theorem ExB.refl (p : Addr) (H : Hp) : ExB p H H := ⟨fun _ _ _ h => h, id, fun _ h => h⟩
theorem ExB.trans {p : Addr} {H H1 H2 : Hp} (a : ExB p H H1) (b : ExB p H1 H2) : ExB p H H2 :=
  ⟨fun x o n h => b.keep x o n (a.keep x o n h), fun h => b.al (a.al h), fun q h => b.bag q (a.bag q h)⟩
theorem ExB.same {p : Addr} {H H' : Hp} (s : Same H H') : ExB p H H' :=
  ⟨fun a o _ h => s a o h, fun ⟨o, h, t⟩ => ⟨o, s p o h, t⟩, fun q ⟨k, xs, h1, h2, h3, h4, h5⟩ => ⟨k, xs, h1, h2, h3, s _ _ h4, s _ _ h5⟩⟩
theorem same_new {H : Hp} {t : Addr} {o : HO} (h : H t = none) : Same H (upd H t o) := fun b x e => by
  rw [upd_ne (ne_of_none e h)]
  exact e
theorem same_mut {H H' : Hp} {t : Addr} {o : HO} (s : Same H H') (h : H t = none) : Same H (upd H' t o) := fun b x e => by
  rw [upd_ne (ne_of_none e h)]
  exact s b x e
theorem ExB.new {p : Addr} {H : Hp} {t : Addr} {o : HO} (h : H t = none) : ExB p H (upd H t o) := .same (same_new h)
theorem al_ne {p t : Addr} {H : Hp} (al : Al p H) (h : H t = none) : t ≠ p := fun e => by
  obtain ⟨o, ho, _⟩ := al
  rw [e, ho] at h
  cases h
theorem ExB.mut {p : Addr} {H H' : Hp} {t : Addr} {o : HO} (e : ExB p H H') (al : Al p H) (h : H t = none) : ExB p H (upd H' t o) := by
  have ne := al_ne al h
  refine ⟨fun a u na ha => ?_, fun a => ?_, fun q hq => ?_⟩
  · rw [upd_ne (ne_of_none ha h)]
    exact e.keep a u na ha
  · obtain ⟨u, hu, ht⟩ := e.al a
    exact ⟨u, by rw [upd_ne ne.symm]; exact hu, ht⟩
  · obtain ⟨_, _, _, _, _, _, hq5⟩ := id hq
    obtain ⟨k, xs, h1, h2, h3, h4, h5⟩ := e.bag q hq
    refine ⟨k, xs, h1, h2, h3, ?_, ?_⟩
    · rw [upd_ne ne.symm]; exact h4
    · rw [upd_ne (ne_of_none hq5 h)]; exact h5
/-- free in the later heap was free in the earlier -/
theorem ExB.free {p t : Addr} {H H' : Hp} (e : ExB p H H') (al : Al p H) (h : H' t = none) : H t = none := by
  have ne : t ≠ p := al_ne (e.al al) h
  cases q : H t with
  | none => rfl
  | some o =>
    rw [e.keep t o ne q] at h
    cases h
/-! ### data in the heap: None, truths, ints, texts, lists and tuples of them, none wider than n, none of it the bag or of S -/
def AlS (z : Fz) (H : Hp) : Prop := Al z.p H ∧ ∀ a ∈ z.S, Al a H
theorem ExB.al1 {p a : Addr} {H H' : Hp} (e : ExB p H H') (h : Al a H) : Al a H' := by
  by_cases q : a = p
  · rw [q] at h ⊢; exact e.al h
  · obtain ⟨o, ho, ht⟩ := h; exact ⟨o, e.keep a o q ho, ht⟩
theorem AlS.up {z : Fz} {H H' : Hp} (h : AlS z H) (e : ExB z.p H H') : AlS z H' := ⟨e.al h.1, fun a ha => e.al1 (h.2 a ha)⟩
theorem AlS.ne {z : Fz} {t : Addr} {H : Hp} (h : AlS z H) (q : H t = none) : t ≠ z.p ∧ t ∉ z.S := ⟨al_ne h.1 q, fun m => by
  obtain ⟨o, ho, _⟩ := h.2 t m
  rw [ho] at q
  cases q⟩
theorem AlS.av {z : Fz} {L : Addr} {H : Hp} (h : AlS z H) (l : Al L H) : AlS (z.av L) H := ⟨h.1, fun a ha => by
  rcases List.mem_cons.mp ha with q | q
  · rw [q]; exact l
  · exact h.2 a q⟩
theorem AlS.w {z : Fz} {H : Hp} (h : AlS z H) (m : Nat) : AlS (z.w m) H := h
mutual
inductive Dt (z : Fz) (H : Hp) : V → PyData → Prop
  | non : Dt z H .non .none
  | bl (b : Bool) : Dt z H (.bl b) (.bool b)
  | int (i : Int) : Dt z H (.int i) (.int i)
  | str (x : Str) : (x.length ≤ z.n ∧ PyData.strOk x = true) → Dt z H (.str x) (.str x)
  | lst {a : Addr} {xs : List V} {ds : List PyData} : (a ≠ z.p ∧ a ∉ z.S) → H a = some (.lst xs) → xs.length ≤ z.n → DtAll z H xs ds → Dt z H (.ref a) (.list ds)
  | tup {a : Addr} {xs : List V} {ds : List PyData} : (a ≠ z.p ∧ a ∉ z.S) → H a = some (.tup xs) → xs.length ≤ z.n → DtAll z H xs ds → Dt z H (.ref a) (.tuple ds)
inductive DtAll (z : Fz) (H : Hp) : List V → List PyData → Prop
  | nil : DtAll z H [] []
  | cons {v : V} {vs : List V} {d : PyData} {ds : List PyData} : Dt z H v d → DtAll z H vs ds → DtAll z H (v :: vs) (d :: ds)
end
/-- data goes over to another frame and heap -/
structure Over (z z' : Fz) (H H' : Hp) : Prop where
  n : z.n ≤ z'.n
  k : ∀ a o, (a ≠ z.p ∧ a ∉ z.S) → H a = some o → H' a = some o ∧ (a ≠ z'.p ∧ a ∉ z'.S)
mutual
theorem Dt.over {z z' : Fz} {H H' : Hp} (e : Over z z' H H') : ∀ (d : PyData) (v : V), Dt z H v d → Dt z' H' v d
  | .none, _, h => by cases h; exact .non
  | .bool b, _, h => by cases h; exact .bl b
  | .int i, _, h => by cases h; exact .int i
  | .str x, _, h => by cases h with | str _ l => exact .str x ⟨Nat.le_trans l.1 e.n, l.2⟩
  | .list ds, _, h => by cases h with | lst a b c t => exact .lst (e.k _ _ a b).2 (e.k _ _ a b).1 (Nat.le_trans c e.n) (DtAll.over e ds _ t)
  | .tuple ds, _, h => by cases h with | tup a b c t => exact .tup (e.k _ _ a b).2 (e.k _ _ a b).1 (Nat.le_trans c e.n) (DtAll.over e ds _ t)
  | .dict _, _, h => by cases h
theorem DtAll.over {z z' : Fz} {H H' : Hp} (e : Over z z' H H') : ∀ (ds : List PyData) (vs : List V), DtAll z H vs ds → DtAll z' H' vs ds
  | [], _, h => by cases h; exact .nil
  | d :: ds, _, h => by cases h with | cons a t => exact .cons (Dt.over e d _ a) (DtAll.over e ds _ t)
end
theorem Over.ex {z : Fz} {H H' : Hp} (e : ExB z.p H H') : Over z z H H' := ⟨Nat.le_refl _, fun a o q h => ⟨e.keep a o q.1 h, q⟩⟩
theorem Over.w {z : Fz} {H : Hp} {m : Nat} (l : z.n ≤ m) : Over z (z.w m) H H := ⟨l, fun a o q h => ⟨h, q⟩⟩
theorem Over.av {z : Fz} {H : Hp} {L : Addr} (l : H L = none) : Over z (z.av L) H H := ⟨Nat.le_refl _, fun a o q h => ⟨h, q.1, fun m => by
  rcases List.mem_cons.mp m with e | e
  · exact ne_of_none h l e
  · exact q.2 e⟩⟩
/-- L is let go: its own content is no matter -/
theorem Over.unav {z : Fz} {H : Hp} {L : Addr} : Over (z.av L) z H H := ⟨Nat.le_refl _, fun a o q h => ⟨h, q.1, fun m => q.2 (List.mem_cons_of_mem _ m)⟩⟩
/-- L is changed -/
theorem Over.mut {z : Fz} {H : Hp} {L : Addr} {o : HO} : Over (z.av L) (z.av L) H (upd H L o) := ⟨Nat.le_refl _, fun a u q h => ⟨by rw [upd_ne fun e => q.2 (by rw [e]; exact List.mem_cons_self)]; exact h, q⟩⟩
theorem Dt.mono {z : Fz} {H H' : Hp} {v : V} {d : PyData} (h : Dt z H v d) (e : ExB z.p H H') : Dt z H' v d := Dt.over (.ex e) d v h
theorem DtAll.mono {z : Fz} {H H' : Hp} {vs : List V} {ds : List PyData} (h : DtAll z H vs ds) (e : ExB z.p H H') : DtAll z H' vs ds := DtAll.over (.ex e) ds vs h
theorem Dt.to {z z' : Fz} {H H' : Hp} {v : V} {d : PyData} (h : Dt z H v d) (e : Over z z' H H') : Dt z' H' v d := Dt.over e d v h
theorem DtAll.to {z z' : Fz} {H H' : Hp} {vs : List V} {ds : List PyData} (h : DtAll z H vs ds) (e : Over z z' H H') : DtAll z' H' vs ds := DtAll.over e ds vs h
theorem Dt.wide {z : Fz} {m : Nat} {H : Hp} {v : V} {d : PyData} (h : Dt z H v d) (l : z.n ≤ m) : Dt (z.w m) H v d := h.to (.w l)
theorem DtAll.wide {z : Fz} {m : Nat} {H : Hp} {vs : List V} {ds : List PyData} (h : DtAll z H vs ds) (l : z.n ≤ m) : DtAll (z.w m) H vs ds := h.to (.w l)
section
variable {z : Fz} {H H' : Hp}
theorem DtAll.length : ∀ {vs : List V} {ds : List PyData}, DtAll z H vs ds → vs.length = ds.length
  | _, _, .nil => rfl
  | _, _, .cons _ t => congrArg (· + 1) t.length
theorem DtAll.get : ∀ {vs : List V} {ds : List PyData} {i : Nat} {v : V}, DtAll z H vs ds → vs[i]? = some v → ∃ d, ds[i]? = some d ∧ Dt z H v d
  | _, _, _, _, .nil, e => by simp at e
  | _, _, 0, _, .cons a _, e => by simp at e; subst e; exact ⟨_, rfl, a⟩
  | _, _, i + 1, v, .cons _ t, e => by
    obtain ⟨d, h1, h2⟩ := DtAll.get (i := i) (v := v) t (by simpa using e)
    exact ⟨d, by simpa using h1, h2⟩
theorem DtAll.append : ∀ {vs ws : List V} {ds es : List PyData}, DtAll z H vs ds → DtAll z H ws es → DtAll z H (vs ++ ws) (ds ++ es)
  | _, _, _, _, .nil, s => s
  | _, _, _, _, .cons a t, s => .cons a (DtAll.append t s)
theorem DtAll.drop : ∀ {vs : List V} {ds : List PyData} (k : Nat), DtAll z H vs ds → DtAll z H (vs.drop k) (ds.drop k)
  | _, _, 0, h => h
  | _, _, _ + 1, .nil => .nil
  | _, _, k + 1, .cons _ t => DtAll.drop k t
theorem DtAll.take : ∀ {vs : List V} {ds : List PyData} (k : Nat), DtAll z H vs ds → DtAll z H (vs.take k) (ds.take k)
  | _, _, 0, _ => .nil
  | _, _, _ + 1, .nil => .nil
  | _, _, k + 1, .cons a t => .cons a (DtAll.take k t)
theorem DtAll.set {v : V} {d : PyData} (h : Dt z H v d) : ∀ {vs : List V} {ds : List PyData} (k : Nat), DtAll z H vs ds → DtAll z H (vs.set k v) (ds.set k d)
  | _, _, _, .nil => .nil
  | _, _, 0, .cons _ t => .cons h t
  | _, _, k + 1, .cons a t => .cons a (DtAll.set h k t)
theorem DtAll.ints : ∀ (xs : List Int), DtAll z H (xs.map V.int) (xs.map PyData.int)
  | [] => .nil
  | x :: xs => .cons (.int x) (DtAll.ints xs)
theorem DtAll.strs : ∀ (xs : List Str), (∀ x ∈ xs, x.length ≤ z.n ∧ PyData.strOk x = true) → DtAll z H (xs.map V.str) (xs.map PyData.str)
  | [], _ => .nil
  | x :: xs, h => .cons (.str x (h x List.mem_cons_self)) (DtAll.strs xs fun y hy => h y (List.mem_cons_of_mem _ hy))
theorem DtAll.bools_eq : ∀ {bs : List Bool} {vs : List V}, DtAll z H vs (bs.map PyData.bool) → vs = bs.map V.bl
  | [], _, h => by cases h; rfl
  | b :: bs, _, h => by
    cases h with
    | cons a t =>
      cases a
      rw [DtAll.bools_eq t]
      rfl
theorem DtAll.ints_eq : ∀ {xs : List Int} {vs : List V}, DtAll z H vs (xs.map PyData.int) → vs = xs.map V.int
  | [], _, h => by cases h; rfl
  | b :: bs, _, h => by
    cases h with
    | cons a t =>
      cases a
      rw [DtAll.ints_eq t]
      rfl
theorem DtAll.strs_eq : ∀ {xs : List Str} {vs : List V}, DtAll z H vs (xs.map PyData.str) → vs = xs.map V.str ∧ ∀ x ∈ xs, x.length ≤ z.n ∧ PyData.strOk x = true
  | [], _, h => by cases h; exact ⟨rfl, fun _ h => nomatch h⟩
  | b :: bs, _, h => by
    cases h with
    | cons a t =>
      cases a with
      | str _ l =>
        obtain ⟨h1, h2⟩ := DtAll.strs_eq t
        refine ⟨by rw [h1]; rfl, fun x hx => ?_⟩
        rcases List.mem_cons.mp hx with e | e
        · rw [e]; exact l
        · exact h2 x e
end
/-! ### the type of data -/
def tyD : PyData → String
  | .none => "NoneType"
  | .bool _ => "bool"
  | .int _ => "int"
  | .str _ => "str"
  | .list _ => "list"
  | .tuple _ => "tuple"
  | .dict _ => "dict"
theorem Dt.ty {z : Fz} {H : Hp} {v : V} {d : PyData} {K : PySem.W.Frag} (h : Dt z H v d) : TyX K H v (.type (tyD d)) := by
  cases h with
  | non => exact .base .non
  | bl b => exact .base (.bl b)
  | int i => exact .base (.int i)
  | str x _ => exact .base (.str x)
  | lst _ b _ _ => exact .base (.lst b)
  | tup _ b _ _ => exact .base (.tup b)
/-- isinstance(d, T) -/
def isiD (T : String) (d : PyData) : Bool := (kitB (tyD d) T).getD false
def okT (T : String) : Bool := ["NoneType", "bool", "int", "str", "list", "tuple", "dict"].all fun a => (kitB a T).isSome
theorem isi_ok {T : String} (h : okT T = true) (d : PyData) : kitB (tyD d) T = some (isiD T d) := by
  have hm : tyD d ∈ ["NoneType", "bool", "int", "str", "list", "tuple", "dict"] := by
    cases d <;> simp [tyD]
  have h1 := (List.all_eq_true.mp h) (tyD d) hm
  unfold isiD
  cases q : kitB (tyD d) T with
  | none => rw [q] at h1; cases h1
  | some b => rfl
theorem okT_int : okT "int" = true := by decide +kernel
theorem okT_bool : okT "bool" = true := by decide +kernel
theorem okT_str : okT "str" = true := by decide +kernel
theorem okT_tuple : okT "tuple" = true := by decide +kernel
theorem okT_list : okT "list" = true := by decide +kernel
def isI : PyData → Bool | .int _ => true | .bool _ => true | _ => false
def isB : PyData → Bool | .bool _ => true | _ => false
def isS : PyData → Bool | .str _ => true | _ => false
def isT : PyData → Bool | .tuple _ => true | _ => false
def isL : PyData → Bool | .list _ => true | _ => false
theorem isi_int (d : PyData) : isiD "int" d = isI d := by cases d <;> (show _ = _; simp only [isiD, tyD, isI]; decide +kernel)
theorem isi_bool (d : PyData) : isiD "bool" d = isB d := by cases d <;> (show _ = _; simp only [isiD, tyD, isB]; decide +kernel)
theorem isi_str (d : PyData) : isiD "str" d = isS d := by cases d <;> (show _ = _; simp only [isiD, tyD, isS]; decide +kernel)
theorem isi_tuple (d : PyData) : isiD "tuple" d = isT d := by cases d <;> (show _ = _; simp only [isiD, tyD, isT]; decide +kernel)
theorem isi_list (d : PyData) : isiD "list" d = isL d := by cases d <;> (show _ = _; simp only [isiD, tyD, isL]; decide +kernel)
end Pb
namespace Pb
open PySem L2
/-! ### what readings come to, from any later heap -/
def Yl (z : Fz) (te : TE) (σ : L2.St) (H : Hp) (R : PyData → Prop) : Prop := ∀ H1, ExB z.p H H1 → AlS z H1 → ∀ Q : VK, (∀ v d H2, ExB z.p H1 H2 → Dt z H2 v d → R d → Q v H2) → te σ H1 Q
def YI (z : Fz) (te : TE) (σ : L2.St) (H : Hp) (A : Int → Prop) : Prop := ∀ H1, ExB z.p H H1 → AlS z H1 → ∀ Q : VK, (∀ i H2, ExB z.p H1 H2 → A i → Q (.int i) H2) → te σ H1 Q
def YB (z : Fz) (te : TE) (σ : L2.St) (H : Hp) (A : Bool → Prop) : Prop := ∀ H1, ExB z.p H H1 → AlS z H1 → ∀ Q : VK, (∀ b H2, ExB z.p H1 H2 → A b → Q (.bl b) H2) → te σ H1 Q
def YT (z : Fz) (tt : TT) (σ : L2.St) (H : Hp) (A : Bool → Prop) : Prop := ∀ H1, ExB z.p H H1 → AlS z H1 → ∀ Q : Bool → Hp → Prop, (∀ b H2, ExB z.p H1 H2 → A b → Q b H2) → tt σ H1 Q
def YA (z : Fz) (ta : TA) (σ : L2.St) (H : Hp) (R : List PyData → Prop) : Prop := ∀ H1, ExB z.p H H1 → AlS z H1 → ∀ Q : List V → Hp → Prop, (∀ vs ds H2, ExB z.p H1 H2 → DtAll z H2 vs ds → R ds → Q vs H2) → ta σ H1 Q
section
variable {z : Fz} {n m : Nat} {σ : L2.St} {H H' : Hp} {ta tb tc te : TE} {t u : TT} {R S : PyData → Prop} {A B C : Int → Prop} {P P' : Bool → Prop} {K : PySem.W.Frag} {D : Ends} {tu tw tz : TS}
theorem Yl.imp (h : Yl z te σ H R) (k : ∀ d, R d → S d) : Yl z te σ H S := fun H1 e a Q q => h H1 e a Q fun v d H2 e2 hd hr => q v d H2 e2 hd (k d hr)
theorem Yl.wide (h : Yl z te σ H R) (l : z.n ≤ m) : Yl (z.w m) te σ H R := fun H1 e a Q q => h H1 e a Q fun v d H2 e2 hd hr => q v d H2 e2 (hd.wide l) hr
theorem YI.imp (h : YI z te σ H A) (k : ∀ i, A i → B i) : YI z te σ H B := fun H1 e a Q q => h H1 e a Q fun i H2 e2 hr => q i H2 e2 (k i hr)
theorem YB.imp (h : YB z te σ H P) (k : ∀ b, P b → P' b) : YB z te σ H P' := fun H1 e a Q q => h H1 e a Q fun b H2 e2 hr => q b H2 e2 (k b hr)
theorem YT.imp (h : YT z t σ H P) (k : ∀ b, P b → P' b) : YT z t σ H P' := fun H1 e a Q q => h H1 e a Q fun b H2 e2 hr => q b H2 e2 (k b hr)
theorem Yl.mono (h : Yl z te σ H R) (e : ExB z.p H H') : Yl z te σ H' R := fun H1 e1 => h H1 (e.trans e1)
theorem YI.mono (h : YI z te σ H A) (e : ExB z.p H H') : YI z te σ H' A := fun H1 e1 => h H1 (e.trans e1)
theorem YI.l (h : YI z te σ H A) : Yl z te σ H (fun d => ∃ i, d = .int i ∧ A i) := fun H1 e a Q q => h H1 e a Q fun i H2 e2 hr => q _ _ H2 e2 (.int i) ⟨i, rfl, hr⟩
theorem YI.l1 {i : Int} (h : YI z te σ H (· = i)) : Yl z te σ H (· = .int i) := fun H1 e a Q q => h H1 e a Q fun i H2 e2 hr => q _ _ H2 e2 (.int i) (by rw [hr])
theorem YB.l (h : YB z te σ H P) : Yl z te σ H (fun d => ∃ b, d = .bool b ∧ P b) := fun H1 e a Q q => h H1 e a Q fun i H2 e2 hr => q _ _ H2 e2 (.bl i) ⟨i, rfl, hr⟩
theorem yi_of (h : Yl z te σ H (fun d => ∃ i, d = .int i ∧ A i)) : YI z te σ H A := fun H1 e a Q q => h H1 e a Q fun v d H2 e2 hd ⟨i, hi, ha⟩ => by
  subst hi
  cases hd
  exact q i H2 e2 ha
theorem yi_of1 {i : Int} (h : Yl z te σ H (· = .int i)) : YI z te σ H (· = i) := yi_of (h.imp fun _ e => ⟨i, e, rfl⟩)
theorem yb_of (h : Yl z te σ H (fun d => ∃ b, d = .bool b ∧ P b)) : YB z te σ H P := fun H1 e a Q q => h H1 e a Q fun v d H2 e2 hd ⟨i, hi, ha⟩ => by
  subst hi
  cases hd
  exact q i H2 e2 ha
theorem yb_of1 {b : Bool} (h : Yl z te σ H (· = .bool b)) : YB z te σ H (· = b) := yb_of (h.imp fun _ e => ⟨b, e, rfl⟩)
/-! ### names, constants -/
theorem yl_var {i : Nat} {v : V} {d : PyData} (h : σ[i]? = some (some v)) (hd : Dt z H v d) : Yl z (tVar i) σ H (· = d) := fun H1 e _ Q q => ⟨v, h, q v d H1 (.refl z.p H1) (hd.mono e) rfl⟩
theorem yi_var {i : Nat} {k : Int} (h : σ[i]? = some (some (.int k))) : YI z (tVar i) σ H (· = k) := fun H1 _ _ Q q => ⟨_, h, q k H1 (.refl z.p H1) rfl⟩
theorem yi_c {k : Int} : YI z (tC (.int k)) σ H (· = k) := fun H1 _ _ Q q => q k H1 (.refl z.p H1) rfl
theorem yb_c {b : Bool} : YB z (tC (.bl b)) σ H (· = b) := fun H1 _ _ Q q => q b H1 (.refl z.p H1) rfl
theorem yl_int {k : Int} : Yl z (tC (.int k)) σ H (· = .int k) := fun H1 _ _ Q q => q _ _ H1 (.refl z.p H1) (.int k) rfl
theorem yl_bl {b : Bool} : Yl z (tC (.bl b)) σ H (· = .bool b) := fun H1 _ _ Q q => q _ _ H1 (.refl z.p H1) (.bl b) rfl
theorem yl_non : Yl z (tC .non) σ H (· = .none) := fun H1 _ _ Q q => q _ _ H1 (.refl z.p H1) .non rfl
theorem yl_str {x : Str} (l : x.length ≤ z.n ∧ PyData.strOk x = true) : Yl z (tC (.str x)) σ H (· = .str x) := fun H1 _ _ Q q => q _ _ H1 (.refl z.p H1) (.str x l) rfl
/-! ### operators on ints -/
theorem yi_op0 {g : Int → Int → Int} (ha : YI z ta σ H A) (hb : YI z tb σ H B) : YI z (tOp (rI0 fun i j => .int (g i j)) ta tb) σ H (fun z => ∃ i j, A i ∧ B j ∧ z = g i j) := fun H1 e a Q q =>
  ha H1 e a _ fun i H2 e2 hi => hb H2 (e.trans e2) (a.up e2) _ fun j H3 e3 hj => ⟨i, j, rfl, rfl, q _ H3 (e2.trans e3) ⟨i, j, hi, hj, rfl⟩⟩
theorem yi_op {G : Int → Int → Prop} {g : Int → Int → Int} (ha : YI z ta σ H A) (hb : YI z tb σ H B) (hc : ∀ i j, A i → B j → G i j) : YI z (tOp (rI G fun i j => .int (g i j)) ta tb) σ H (fun z => ∃ i j, A i ∧ B j ∧ z = g i j) := fun H1 e a Q q =>
  ha H1 e a _ fun i H2 e2 hi => hb H2 (e.trans e2) (a.up e2) _ fun j H3 e3 hj => ⟨i, j, rfl, rfl, hc i j hi hj, q _ H3 (e2.trans e3) ⟨i, j, hi, hj, rfl⟩⟩
theorem yi_o {g : Int → Int → Int} {x y : Int} (ha : YI z ta σ H (· = x)) (hb : YI z tb σ H (· = y)) : YI z (tOp (rI0 fun i j => .int (g i j)) ta tb) σ H (· = g x y) :=
  (yi_op0 ha hb).imp fun z ⟨i, j, hi, hj, hz⟩ => by rw [hz, hi, hj]
theorem yi_oc {G : Int → Int → Prop} {g : Int → Int → Int} {x y : Int} (ha : YI z ta σ H (· = x)) (hb : YI z tb σ H (· = y)) (hc : G x y) : YI z (tOp (rI G fun i j => .int (g i j)) ta tb) σ H (· = g x y) :=
  (yi_op ha hb fun i j hi hj => by rw [hi, hj]; exact hc).imp fun z ⟨i, j, hi, hj, hz⟩ => by rw [hz, hi, hj]
theorem yb_cmp {g : Int → Int → Bool} (ha : YI z ta σ H A) (hb : YI z tb σ H B) : YB z (tOp (rI0 fun i j => .bl (g i j)) ta tb) σ H (fun z => ∃ i j, A i ∧ B j ∧ z = g i j) := fun H1 e a Q q =>
  ha H1 e a _ fun i H2 e2 hi => hb H2 (e.trans e2) (a.up e2) _ fun j H3 e3 hj => ⟨i, j, rfl, rfl, q _ H3 (e2.trans e3) ⟨i, j, hi, hj, rfl⟩⟩
theorem yb_c1 {g : Int → Int → Bool} {x y : Int} (ha : YI z ta σ H (· = x)) (hb : YI z tb σ H (· = y)) : YB z (tOp (rI0 fun i j => .bl (g i j)) ta tb) σ H (· = g x y) :=
  (yb_cmp ha hb).imp fun z ⟨i, j, hi, hj, hz⟩ => by rw [hz, hi, hj]
theorem dec_vi (i j : Int) : decide (V.int i = V.int j) = decide (i = j) := by
  by_cases h : i = j
  · subst h; simp
  · rw [decide_eq_false h, decide_eq_false fun q => h (V.int.inj q)]
theorem yb_eqI {x y : Int} (ha : YI z ta σ H (· = x)) (hb : YI z tb σ H (· = y)) : YB z (tOp rEq ta tb) σ H (· = decide (x = y)) := fun H1 e a Q q =>
  ha H1 e a _ fun i H2 e2 hi => hb H2 (e.trans e2) (a.up e2) _ fun j H3 e3 hj => ⟨rfl, q _ H3 (e2.trans e3) (by rw [dec_vi, hi, hj])⟩
theorem yb_neI {x y : Int} (ha : YI z ta σ H (· = x)) (hb : YI z tb σ H (· = y)) : YB z (tOp rNe ta tb) σ H (· = !decide (x = y)) := fun H1 e a Q q =>
  ha H1 e a _ fun i H2 e2 hi => hb H2 (e.trans e2) (a.up e2) _ fun j H3 e3 hj => ⟨rfl, q _ H3 (e2.trans e3) (by rw [dec_vi, hi, hj])⟩
/-- a <= b <= c on ints -/
theorem yb_chain {f g : Int → Int → Bool} {x y c : Int} (ha : YI z ta σ H (· = x)) (hb : YI z tb σ H (· = y)) (hc : YI z tc σ H (· = c)) : YB z (tChain (rI0 fun i j => .bl (f i j)) (rI0 fun i j => .bl (g i j)) ta tb tc) σ H (· = (f x y && g y c)) := fun H1 e a Q q =>
  ha H1 e a _ fun i H2 e2 hi => hb H2 (e.trans e2) (a.up e2) _ fun j H3 e3 hj => ⟨i, j, rfl, rfl, f i j, rfl, by
    subst hi hj
    cases hf : f i j with
    | false => exact iteF (q _ H3 (e2.trans e3) (by show _ = _; rw [hf]; rfl))
    | true => exact iteT (hc H3 ((e.trans e2).trans e3) (a.up (e2.trans e3)) _ fun k H4 e4 hk => ⟨_, k, rfl, rfl, q _ H4 ((e2.trans e3).trans e4) (by show _ = _; rw [hf, hk]; rfl)⟩)⟩
/-! ### truths -/
theorem yb_and {b : Bool} {c : Bool} (h1 : YB z ta σ H (· = b)) (h2 : b = true → YB z tb σ H (· = c)) : YB z (tAndV ta tb) σ H (· = (b && c)) := fun H1 e a Q q =>
  h1 H1 e a _ fun x H2 e2 hx => ⟨x, rfl, by
    subst hx
    cases x with
    | false => exact iteF (q _ H2 e2 rfl)
    | true => exact iteT (h2 rfl H2 (e.trans e2) (a.up e2) Q fun y H3 e3 hy => q y H3 (e2.trans e3) (by rw [hy]; rfl))⟩
theorem yb_or {b : Bool} {c : Bool} (h1 : YB z ta σ H (· = b)) (h2 : b = false → YB z tb σ H (· = c)) : YB z (tOrV ta tb) σ H (· = (b || c)) := fun H1 e a Q q =>
  h1 H1 e a _ fun x H2 e2 hx => ⟨x, rfl, by
    subst hx
    cases x with
    | true => exact iteT (q _ H2 e2 rfl)
    | false => exact iteF (h2 rfl H2 (e.trans e2) (a.up e2) Q fun y H3 e3 hy => q y H3 (e2.trans e3) (by rw [hy]; rfl))⟩
theorem yb_not {b : Bool} (h1 : YB z ta σ H (· = b)) : YB z (tNotV ta) σ H (· = !b) := fun H1 e a Q q => h1 H1 e a _ fun x H2 e2 hx => ⟨x, rfl, q _ H2 e2 (by rw [hx])⟩
theorem yt_val (h : YB z te σ H P) : YT z (tB te) σ H P := fun H1 e a Q q => h H1 e a _ fun b H2 e2 hb => ⟨b, rfl, q b H2 e2 hb⟩
theorem yt_test (h : YB z te σ H P) : YT z (tTest te) σ H P := fun H1 e a Q q => h H1 e a _ fun b H2 e2 hb => ⟨b, rfl, q b H2 e2 hb⟩
theorem yt_not {b : Bool} (h : YT z t σ H (· = b)) : YT z (tNot t) σ H (· = !b) := fun H1 e a Q q => h H1 e a _ fun b H2 e2 hb => q _ H2 e2 (by rw [hb])
theorem yt_and {b c : Bool} (h1 : YT z t σ H (· = b)) (h2 : b = true → YT z u σ H (· = c)) : YT z (tAnd t u) σ H (· = (b && c)) := fun H1 e a Q q => h1 H1 e a _ fun x H2 e2 hx => by
  subst hx
  cases x with
  | false => exact iteF (q _ H2 e2 rfl)
  | true => exact iteT (h2 rfl H2 (e.trans e2) (a.up e2) Q fun y H3 e3 hy => q y H3 (e2.trans e3) (by rw [hy]; rfl))
theorem yt_or {b c : Bool} (h1 : YT z t σ H (· = b)) (h2 : b = false → YT z u σ H (· = c)) : YT z (tOr t u) σ H (· = (b || c)) := fun H1 e a Q q => h1 H1 e a _ fun x H2 e2 hx => by
  subst hx
  cases x with
  | true => exact iteT (q _ H2 e2 rfl)
  | false => exact iteF (h2 rfl H2 (e.trans e2) (a.up e2) Q fun y H3 e3 hy => q y H3 (e2.trans e3) (by rw [hy]; rfl))
theorem yl_if {b : Bool} (h : YT z t σ H (· = b)) (h1 : b = true → Yl z ta σ H R) (h2 : b = false → Yl z tb σ H R) : Yl z (tIf t ta tb) σ H R := fun H1 e a Q q => h H1 e a _ fun x H2 e2 hx => by
  subst hx
  cases x with
  | true => exact iteT (h1 rfl H2 (e.trans e2) (a.up e2) Q fun v d H3 e3 => q v d H3 (e2.trans e3))
  | false => exact iteF (h2 rfl H2 (e.trans e2) (a.up e2) Q fun v d H3 e3 => q v d H3 (e2.trans e3))
/-! ### arguments, displays, calls -/
theorem ya_nil : YA z tNil σ H (· = []) := fun H1 _ _ Q q => q [] [] H1 (.refl z.p H1) .nil rfl
theorem ya_cons {tr : TA} {Rs : List PyData → Prop} (h : Yl z ta σ H R) (hr : YA z tr σ H Rs) : YA z (tCons ta tr) σ H (fun l => ∃ d ds, R d ∧ Rs ds ∧ l = d :: ds) := fun H1 e a Q q =>
  h H1 e a _ fun v d H2 e2 hd r => hr H2 (e.trans e2) (a.up e2) _ fun vs ds H3 e3 hs rs => q _ _ H3 (e2.trans e3) (.cons (hd.mono e3) hs) ⟨d, ds, r, rs, rfl⟩
theorem ya_c1 {tr : TA} {d : PyData} {ds : List PyData} (h : Yl z ta σ H (· = d)) (hr : YA z tr σ H (· = ds)) : YA z (tCons ta tr) σ H (· = d :: ds) := fun H1 e a Q q =>
  h H1 e a _ fun v d' H2 e2 hd r => hr H2 (e.trans e2) (a.up e2) _ fun vs ds' H3 e3 hs rs => q _ _ H3 (e2.trans e3) (.cons (hd.mono e3) hs) (by rw [r, rs])
theorem yl_tup {t : TA} {Rs : List PyData → Prop} (h : YA z t σ H Rs) (hl : ∀ ds, Rs ds → ds.length ≤ z.n) (hz : z.n ≤ sizeLine) : Yl z (tTup t) σ H (fun d => ∃ ds, Rs ds ∧ d = .tuple ds) := fun H1 e a Q q =>
  h H1 e a _ fun vs ds H2 e2 hs rs => by
    have l1 : vs.length ≤ z.n := by rw [hs.length]; exact hl ds rs
    exact ⟨Nat.le_trans l1 hz, fun t ht => q _ _ _ (e2.trans (.new ht)) (.tup ((a.up e2).ne ht) upd_same l1 (hs.mono (.new ht))) ⟨ds, rs, rfl⟩⟩
theorem yl_lst {t : TA} {Rs : List PyData → Prop} (h : YA z t σ H Rs) (hl : ∀ ds, Rs ds → ds.length ≤ z.n) (hz : z.n ≤ sizeLine) : Yl z (tLst t) σ H (fun d => ∃ ds, Rs ds ∧ d = .list ds) := fun H1 e a Q q =>
  h H1 e a _ fun vs ds H2 e2 hs rs => by
    have l1 : vs.length ≤ z.n := by rw [hs.length]; exact hl ds rs
    exact ⟨Nat.le_trans l1 hz, fun t ht => q _ _ _ (e2.trans (.new ht)) (.lst ((a.up e2).ne ht) upd_same l1 (hs.mono (.new ht))) ⟨ds, rs, rfl⟩⟩
theorem yl_tup1 {t : TA} {ds : List PyData} (h : YA z t σ H (· = ds)) (hl : ds.length ≤ z.n) (hz : z.n ≤ sizeLine) : Yl z (tTup t) σ H (· = .tuple ds) := (yl_tup h (fun x e => by rw [e]; exact hl) hz).imp fun d ⟨x, e, f⟩ => by rw [f, e]
theorem yl_lst1 {t : TA} {ds : List PyData} (h : YA z t σ H (· = ds)) (hl : ds.length ≤ z.n) (hz : z.n ≤ sizeLine) : Yl z (tLst t) σ H (· = .list ds) := (yl_lst h (fun x e => by rw [e]; exact hl) hz).imp fun d ⟨x, e, f⟩ => by rw [f, e]
/-- a def on data: C what is asked of its arguments, R what it tells -/
def spD (k n m : Nat) (C : List PyData → Prop) (R : List PyData → PyData → Prop) : Sp := fun vs H Q _ => ∃ (z : Fz) (ds : List PyData), z.n ≤ n ∧ AlS z H ∧ DtAll z H vs ds ∧ ds.length = k ∧ C ds ∧ ∀ v d H', ExB z.p H H' → Dt (z.w m) H' v d → R ds d → Q v H'
theorem spD_len {k n m : Nat} {C : List PyData → Prop} {R : List PyData → PyData → Prop} {vs : List V} {H : Hp} {Q : VK} {E : XK} (h : spD k n m C R vs H Q E) : vs.length = k := by
  obtain ⟨z, ds, _, _, hs, hl, _⟩ := h
  rw [hs.length, hl]
theorem YA.wide {t : TA} {Rs : List PyData → Prop} (h : YA z t σ H Rs) (l : z.n ≤ m) : YA (z.w m) t σ H Rs := fun H1 e a Q q => h H1 e a Q fun v d H2 e2 hd hr => q v d H2 e2 (hd.wide l) hr
theorem yl_call {k : Nat} {t : TA} {C : List PyData → Prop} {R : List PyData → PyData → Prop} {Rs : List PyData → Prop} {E : XK} (h : YA z t σ H Rs) (hl : ∀ ds, Rs ds → ds.length = k ∧ C ds) (hn : z.n ≤ n) : Yl (z.w m) (tCall (spD k n m C R) [] E t) σ H (fun d => ∃ ds, Rs ds ∧ R ds d) := fun H1 e a Q q =>
  h H1 e a _ fun vs ds H2 e2 hs rs => ⟨z, ds, hn, a.up e2, by rw [List.append_nil]; exact hs, (hl ds rs).1, (hl ds rs).2, fun v d H3 e3 hd hr => q v d H3 (e2.trans e3) hd ⟨ds, rs, hr⟩⟩
/-- one that tells a truth -/
def spP (k n : Nat) (f : List PyData → Bool) : Sp := spD k n 0 (fun _ => True) fun ds d => d = .bool (f ds)
theorem yb_call {k : Nat} {t : TA} {f : List PyData → Bool} {ds : List PyData} {E : XK} (h : YA z t σ H (· = ds)) (hl : ds.length = k) (hn : z.n ≤ n) : YB z (tCall (spP k n f) [] E t) σ H (· = f ds) :=
  yb_of1 (z := z.w 0) ((yl_call (z := z) h (fun x e => ⟨by rw [e]; exact hl, trivial⟩) hn).imp fun d ⟨x, e, hr⟩ => by rw [hr, e])
/-! ### isinstance, len -/
theorem yb_isi {T : String} {d : PyData} (hT : okT T = true) (h : Yl z ta σ H (· = d)) : YB z (tCB (rIsi K) (tCons ta (tCons (tC (.ty T)) tNil))) σ H (· = isiD T d) := fun H1 e a Q q =>
  h H1 e a _ fun v d' H2 e2 hd hr => ⟨v, .ty T, _, _, isiD T d, rfl, .ty T, by subst hr; exact hd.ty, kit_ty (isi_ok hT d), q _ H2 e2 rfl⟩
def lenD : PyData → Nat
  | .list ds => ds.length
  | .tuple ds => ds.length
  | .str x => x.length
  | _ => 0
theorem yi_lenT {K : PySem.W.Frag} {ds : List PyData} (h : Yl z ta σ H (· = .tuple ds)) : YI z (tCB (fun xs H Q => ∃ p ys, xs = [.ref p] ∧ (SqL K H p ys ∨ SqT K H p ys) ∧ Q (.int (ys.length : Int)) H) (tCons ta tNil)) σ H (· = (ds.length : Int)) := fun H1 e a Q q =>
  h H1 e a _ fun v d H2 e2 hd hr => by
    subst hr
    cases hd with
    | tup h1 h2 h3 h4 => exact ⟨_, _, rfl, .inr (.inl (.inl h2)), q _ H2 e2 (by rw [h4.length])⟩
theorem yi_lenL {K : PySem.W.Frag} {ds : List PyData} (h : Yl z ta σ H (· = .list ds)) : YI z (tCB (fun xs H Q => ∃ p ys, xs = [.ref p] ∧ (SqL K H p ys ∨ SqT K H p ys) ∧ Q (.int (ys.length : Int)) H) (tCons ta tNil)) σ H (· = (ds.length : Int)) := fun H1 e a Q q =>
  h H1 e a _ fun v d H2 e2 hd hr => by
    subst hr
    cases hd with
    | lst h1 h2 h3 h4 => exact ⟨_, _, rfl, .inl (.inl (.inl h2)), q _ H2 e2 (by rw [h4.length])⟩
theorem yi_lenS {x : Str} (h : Yl z ta σ H (· = .str x)) (hz : z.n ≤ sizeLine) : YI z (tCB (fun xs H Q => ∃ z : Str, xs = [.str z] ∧ z.length ≤ sizeLine ∧ Q (.int (z.length : Int)) H) (tCons ta tNil)) σ H (· = (x.length : Int)) := fun H1 e a Q q =>
  h H1 e a _ fun v d H2 e2 hd hr => by
    subst hr
    cases hd with
    | str _ l => exact ⟨x, rfl, Nat.le_trans l.1 hz, q _ H2 e2 rfl⟩
/-! ### statements -/
theorem y_if {b : Bool} (al : AlS z H) (h : YT z t σ H (· = b)) (kt : b = true → ∀ H1, ExB z.p H H1 → tu D σ H1) (kf : b = false → ∀ H1, ExB z.p H H1 → tw D σ H1) : tIfS t tu tw D σ H :=
  h H (.refl z.p H) al _ fun x H1 e1 hx => by
    subst hx
    cases x with
    | true => exact iteT (kt rfl H1 e1)
    | false => exact iteF (kf rfl H1 e1)
/-- an if without else -/
theorem y_when {b : Bool} (al : AlS z H) (h : YT z t σ H (· = b)) (kt : b = true → ∀ H1, ExB z.p H H1 → tu D σ H1) (kf : b = false → ∀ H1, ExB z.p H H1 → D.nx σ H1) : tIfS t tu tNext D σ H := y_if al h kt kf
theorem y_ifA (al : AlS z H) (h : YT z t σ H P) (kt : P true → ∀ H1, ExB z.p H H1 → tu D σ H1) (kf : P false → ∀ H1, ExB z.p H H1 → tw D σ H1) : tIfS t tu tw D σ H :=
  h H (.refl z.p H) al _ fun x H1 e1 hx => by
    cases x with
    | true => exact iteT (kt hx H1 e1)
    | false => exact iteF (kf hx H1 e1)
theorem y_asg {i : Nat} (al : AlS z H) (h : Yl z te σ H R) (k : ∀ v d H1, ExB z.p H H1 → Dt z H1 v d → R d → D.nx (σ.set i (some v)) H1) : tAsg te (gName i) D σ H := h H (.refl z.p H) al _ k
theorem y_asgI {i : Nat} (al : AlS z H) (h : YI z te σ H A) (k : ∀ x H1, ExB z.p H H1 → A x → D.nx (σ.set i (some (.int x))) H1) : tAsg te (gName i) D σ H := h H (.refl z.p H) al _ k
theorem y_ret (al : AlS z H) (h : Yl z te σ H R) (k : ∀ v d H1, ExB z.p H H1 → Dt z H1 v d → R d → D.rt v H1) : tRet te D σ H := h H (.refl z.p H) al _ k
theorem y_retB (al : AlS z H) (h : YB z te σ H P) (k : ∀ b H1, ExB z.p H H1 → P b → D.rt (.bl b) H1) : tRet te D σ H := h H (.refl z.p H) al _ k
theorem y_retI (al : AlS z H) (h : YI z te σ H A) (k : ∀ b H1, ExB z.p H H1 → A b → D.rt (.int b) H1) : tRet te D σ H := h H (.refl z.p H) al _ k
end
end Pb
/-! len(set(texts)): how many unlike ones -/
namespace Pb
open PySem PySem.Spec PyProof.Rows L2
def cntN (xs : List Str) : Nat → Nat
  | 0 => 0
  | i + 1 => cntN xs i + (if xs.getD i Str.empty ∈ xs.take i then 0 else 1)
theorem cntN_le (xs : List Str) : ∀ i, cntN xs i ≤ i
  | 0 => Nat.le_refl 0
  | i + 1 => by
    have h := cntN_le xs i
    unfold cntN
    split <;> omega
section
variable {P : Program} {w : World} {A : Around} {R : Result → Shared → Prop} {I : Addr} {fp wr : List Addr} {G : Array GenState → Array GenState → Prop} {n : Nat} {Pv : Nat → Value → Prop} {St : Nat → Shared → Prop}
theorem upd_texts (W : WalksS P w A.in1 I fp wr G n Pv St) (a : Addr) (na : a ∉ fp) (xs : List Str) (lx : xs.length = n) (hb : n + 1 < scanBound) (vals : ∀ i v, Pv i v → ∃ t, v = .str (xs.getD i Str.empty) t) :
    ∀ (k i : Nat) (s : Shared), n - i = k → i ≤ n → St i s → s.heap.SetOf (PySem.strKind P w) a (fun y => decide (y ∈ xs.take i)) (cntN xs i) →
      (∀ s', Moved (a :: wr) G s s' → s'.heap.SetOf (PySem.strKind P w) a (fun y => decide (y ∈ xs.take n)) (cntN xs n) → R (.ok (.ret .none)) s') →
      codeAny (model P w) A (.builtin "set.update.loop" ⟨[.ref a, .ref I], []⟩) R s := by
  have naw : a ∉ wr := fun z => na (W.sub _ z)
  have more : ∀ b ∈ wr, b ∈ a :: wr := fun b z => List.mem_cons_of_mem _ z
  have carry : ∀ {s s' : Shared} {S : Str → Bool} {c : Nat}, Moved wr G s s' → s.heap.SetOf (PySem.strKind P w) a S c → s'.heap.SetOf (PySem.strKind P w) a S c := fun mv ⟨o, es, ep, t, ho, z⟩ => ⟨o, es, ep, t, mv.heap a _ naw ho, z⟩
  intro k; induction k with
  | zero =>
    intro i s e1 e2 st hS fin
    obtain rfl : i = n := by omega
    refine codeAny_builtin PyProof.Rows.F.entry_set_update_loop ?_; rw [Around.under_plainId PyProof.Rows.F.plain_set_update_loop _]
    show wpAny _ A.in1 (pyNext (.ref I) >>= _) _ _ s; refine wpAny_bind (W.done s _ _ st fun s' mv => ?_)
    show wpAny _ A.in1 (ret Value.none) _ _ s'; exact wpAny_pure (fin s' (mv.mono more) (carry mv hS))
  | succ k ih =>
    intro i s e1 e2 st hS fin
    have lt : i < n := by omega
    refine codeAny_builtin PyProof.Rows.F.entry_set_update_loop ?_; rw [Around.under_plainId PyProof.Rows.F.plain_set_update_loop _]
    show wpAny _ A.in1 (pyNext (.ref I) >>= _) _ _ s; refine wpAny_bind (W.item i s _ _ lt st fun v s' pv st' mv => ?_)
    obtain ⟨t, rfl⟩ := vals i v pv
    have hS' := carry mv hS
    show wpAny _ A.in1 (holding [Value.str (xs.getD i Str.empty) t] (setAdd a (.str (xs.getD i Str.empty) t)) >>= _) _ _ s'
    refine wpAny_bind (wpAny_holding ?_); unfold setAdd; refine wpAny_holding ?_
    refine wpAny_bind ((PySem.strKind P w).pyHash (k := xs.getD i Str.empty) (strKind_is _ _ _ _) ?_)
    refine wpAny_setAddHashed_of (knd := PySem.strKind P w) (s := { s' with toks := s'.toks + 1 }) (strKind_is _ _ _ _) rfl hS' (by have := cntN_le xs i; omega) fun h' sb hS2 => ?_
    have hx : xs[i]? = some (xs.getD i Str.empty) := by
      have l : i < xs.length := by omega
      rw [List.getD_eq_getElem?_getD, List.getElem?_eq_getElem l]; rfl
    have hS3 : h'.SetOf (PySem.strKind P w) a (fun y => decide (y ∈ xs.take (i + 1))) (cntN xs (i + 1)) := by
      refine SetOf_congr hS2 (fun y => ?_) ?_
      · rw [List.take_add_one, hx]; simp [List.mem_append]
      · show (if decide (xs.getD i Str.empty ∈ xs.take i) = true then cntN xs i else cntN xs i + 1) = cntN xs i + (if xs.getD i Str.empty ∈ xs.take i then 0 else 1)
        by_cases z : xs.getD i Str.empty ∈ xs.take i
        · rw [if_pos z, if_pos (decide_eq_true z)]; rfl
        · rw [if_neg z, if_neg (by simpa using z)]
    refine wpAny_pure ⟨plainId_quiet PyProof.Rows.F.plain_set_update_loop _, ih (i + 1) _ (by omega) lt (W.frame _ s' _ _ st' (Nat.le_succ _) fun b z o q => ?_) hS3 fun s'' mv2 hS4 => ?_⟩
    · rw [sb.2 b (fun y : b = a => na (by rw [← y]; exact z))]; exact q
    · refine fin s'' (Moved.trans W.gtrans ((mv.mono more).then_heap (Nat.le_succ _) fun b o z q => ?_) mv2) hS4
      rw [sb.2 b (fun y : b = a => z (by rw [y]; exact List.mem_cons_self))]; exact q
end
section
variable {P : Program} {w : World} {A : Around} {E : Value → Shared → Prop} {s : Shared}
/-- the object that set(..) lays first -/
abbrev set0 (led : Bool) : Obj := { cls := .type "set", dict := none, data := .set #[] 0 (.fresh 0 0 led) }
abbrev SetEnd (P : Program) (w : World) (s : Shared) (xs : List Str) (h' : Heap) : Prop := h'.SetOf (PySem.strKind P w) s.heap.objs.size (fun y => decide (y ∈ xs.take xs.length)) (cntN xs xs.length) ∧ ∀ b o, b < s.heap.objs.size → s.heap.get? b = some o → h'.get? b = some o
theorem set_of_texts {l : Addr} {items : Array Value} {xs : List Str} {Q : Value → Shared → Prop} (hh : A.handled = none) (hl : s.heap.IsTuple l items) (hi : StrsAre items.toList xs) (hb : xs.length + 1 < scanBound)
    (h : ∀ (h' : Heap) (tk : Nat), SetEnd P w s xs h' → Q (.ref s.heap.objs.size) { s with heap := h', toks := tk }) : wpAny (model P w) A (call (.type "set") [.ref l]) Q E s := by
  have hsz : xs.length = items.size := by rw [← StrsAre.len_eq hi, Array.length_toList]
  obtain ⟨c, tl, hmro⟩ := PySem.F.called_set.mro; have hmade := PySem.F.called_set.made; have hsub := PySem.F.called_set.sub
  refine wpAny_call (codeAny_of_tree ?_); show wpAny _ _ (callAny (.type "set") _) _ _ _
  refine wpAny_pure ⟨Code.quiet_builtin _ (by decide +kernel), codeAny_builtin PySem.F.entry_type_call ?_⟩; rw [Around.under_plain (weight_type_call_type "set" [.ref l] []) rfl]
  have h1 := PySem.F.called_set.notType; have h2 := PySem.F.called_set.canCreate; have hct := PySem.F.typeCall_set_1 (.ref l)
  repeat (any_goals (first | assumption | wp_step))
  refine codeAny_mono (code_set_new_1 (.ref l) (E := E) (Q₁ := fun obj s1 => ∃ led : Bool, obj = .ref s.heap.objs.size ∧ s1 = { s with heap := s.heap.push (set0 led) }) fun led => ⟨led, rfl, rfl⟩) fun r s1 hr => ?_
  cases r with
  | error e => exact hr
  | ok fl =>
    cases fl with
    | ret obj =>
      obtain ⟨led, rfl, rfl⟩ := hr
      have hS : (s.heap.push (set0 led)).get? s.heap.objs.size = some (set0 led) := Heap.get?_push_size _ rfl
      have hT : Shared.TypeIs { s with heap := s.heap.push (set0 led) } (.ref s.heap.objs.size) "set" := ⟨_, hS, rfl⟩
      have hli := PySem.F.called_set.init.lookup; have hbi := PySem.F.called_set.init.bind (.ref s.heap.objs.size)
      repeat (any_goals (first | assumption | wp_step))
      refine codeAny_mono (codeAny_call_builtin (R := wants (fun r s2 => r = .none ∧ ∃ h' tk, s2 = { s with heap := h', toks := tk } ∧ SetEnd P w s xs h') E) PySem.F.called_set.init.plain PySem.F.entry_set_init (check_set_init_1 hT ?_)) fun r2 s2 hr2 => ?_
      · obtain ⟨ol, hol, hcl, nl, hdl⟩ := hl; obtain ⟨ocls, odict, odata, oslots⟩ := ol
        simp only at hcl hdl; subst hcl; subst hdl
        have hol' : (s.heap.push (set0 led)).get? l = some { cls := .type "tuple", dict := odict, data := .seq items nl, slots := oslots } := Heap.get?_push_of_some _ hol
        have hsls := PySem.F.sub_tuple_set; have hslf := PySem.F.sub_tuple_frozenset
        have hne : (Value.type "tuple" == Value.type "dict") = false := by decide
        have hl1 : (s.heap.push (set0 led)).IsTuple l items := ⟨_, hol', rfl, nl, rfl⟩
        unfold Builtin.«set.__init__» noKeywords Builtin.Frozenset.updateFrom; generalize hPI : pyIter = PI; wp_walk; subst hPI
        refine wpAny_pyIter_tuple hl1 ?_; refine wpAny_bind (wpAny_runValue ?_)
        have hlS : l < s.heap.objs.size := Heap.lt_size hol
        have hh3 : A.in1.in1.in1.handled = none := by simp [hh]
        have hneI : l ≠ (s.heap.push (set0 led)).objs.size := by rw [Heap.size_push]; exact Nat.ne_of_lt (Nat.lt_succ_of_lt hlS)
        have hSf : s.heap.objs.size ∉ [(s.heap.push (set0 led)).objs.size, l] := by
          rw [Heap.size_push]; simp only [List.mem_cons, List.not_mem_nil, or_false, not_or]; exact ⟨Nat.ne_of_lt (Nat.lt_succ_self _), Nat.ne_of_gt hlS⟩
        have hval : ∀ (i : Nat) (v : Value), items[i]? = some v → ∃ t, v = .str (xs.getD i Str.empty) t := fun i v hv => SS.strs_at hi i v (by rw [Array.getElem?_toList]; exact hv)
        refine upd_texts ((Walks.tuple hh3 _ l hneI items).toS) s.heap.objs.size hSf xs hsz (by omega) hval (items.size - 0) 0 _ (by omega) (Nat.zero_le _) ⟨⟨_, Heap.get?_push_size _ rfl, rfl, rfl⟩, (hl1.push _)⟩ ?hS0 ?hR
        case hS0 =>
          have hget : ((s.heap.push (set0 led)).push { cls := .type "tuple_iterator", data := .fields #[.ref l, .int 0 0] }).get? s.heap.objs.size = some (set0 led) := Heap.get?_push_of_some _ hS
          exact SetOf_congr ((setObjOf_fresh (knd := PySem.strKind P w) led).setOf hget (by unfold scanBound; omega)) (fun y => by simp) rfl
        case hR =>
          intro s' hm hS'
          obtain ⟨h', g', d', tk', os'⟩ := s'
          obtain rfl : g' = s.gens := hm.gens
          obtain rfl : d' = s.drawn := hm.drawn
          obtain rfl : os' = s.os := hm.os
          show wpAny _ _ _ _ _ _; refine wpAny_pure ?_; show wpAny _ _ (ret Value.none) _ _ _
          rw [← hsz] at hS'
          refine wpAny_pure ⟨rfl, h', tk', rfl, hS', fun b o hb e => ?_⟩
          have hb1 : b ≠ s.heap.objs.size := Nat.ne_of_lt hb
          have hb2 : b ≠ (s.heap.push (set0 led)).objs.size := by rw [Heap.size_push]; exact Nat.ne_of_lt (Nat.lt_succ_of_lt hb)
          exact hm.heap b o (by simp only [List.mem_cons, List.not_mem_nil, or_false, not_or]; exact ⟨hb1, hb2⟩) (Heap.get?_push_of_some _ (Heap.get?_push_of_some _ e))
      · cases r2 with
        | error e => exact hr2
        | ok fl2 =>
          cases fl2 with
          | ret r =>
            obtain ⟨rfl, h', tk, rfl, hS'⟩ := hr2
            repeat (any_goals (first | assumption | wp_step))
            exact h _ _ hS'
          | _ => exact hr2.elim
    | _ => exact hr.elim
end
section
variable {X : Cx}
def tLenSetS (K : PySem.W.Frag) (ta : TE) : TE := fun σ H Q => ta σ H fun x H1 => ∃ l, ∃ xs : List Str, x = .ref l ∧ SqT K H1 l (xs.map V.str) ∧ xs.length ≤ 4000 ∧ Q (.int (cntN xs xs.length : Nat)) H1
theorem pe_lenSetS {a : Expr} {ta : TE} {p p2 q pos : Pos} (hc : X.calm = true) (hg : Gl X "len") (hm : X.mg "len" = none) (hg2 : Gl X "set") (hm2 : X.mg "set" = none) (ha : PE X a ta)
    (na : starEach [a] X.env = (false, eval a X.env) :: starEach [] X.env := by rfl) : PE X (.Call (.Name "len" p) [.Call (.Name "set" p2) [a] [] q] [] pos) (tLenSetS X.K ta) := by
  refine ⟨fun pins s σ H Q I h => ?_⟩
  refine Call_ (ld_blt I hg hm boot_len ?_); refine PyProof.Rows.callWith_builtin1 (PyProof.Rows.args_cons ?_ rfl) rfl rfl
  refine Call_ (ld_blt I hg2 hm2 boot_set ?_); refine PyProof.Rows.callWith_type1 (PyProof.Rows.args_cons (thn (ha.run pins s σ H _ I h) fun v s1 ⟨x, H1, I1, r1, q1⟩ => PyProof.Rows.args_nil ?_) na) na rfl
  obtain ⟨l, xs, rfl, hq, h1, q1⟩ := q1
  cases r1
  obtain ⟨its, r, pl, hz⟩ := I1.tuple hq
  refine set_of_texts (xs := xs) (I1.ok.hd hc) pl (by simpa using strsAre_of r) (by unfold scanBound; omega) fun h' tk ⟨hS, hk⟩ => ?_
  refine PyProof.Rows.args_nil ?_
  obtain ⟨o, es, ep, t, ho, hex, hd, _, _, _, hf, hn⟩ := hS
  have I2 : Inv X pins σ H1 { s1 with heap := h', toks := tk } := I1.kept fun b o e => hk b o (Heap.lt_size e) e
  have hle := cntN_le xs xs.length
  exact call_len_set ho hex hd hf (by rw [hn] <;> omega) ⟨.int (cntN xs xs.length : Nat), H1, I2.tok _, ⟨_, by rw [hn]⟩, q1⟩
end
end Pb
namespace Pb
open PySem L2
section
variable {X : Cx}
theorem call_repr_bool : CallR X (.builtin "repr") (fun xs H Q => ∃ b : Bool, xs = [.bl b] ∧ Q (.str (if b then "True" else "False")) H) := by
  intro pins s σ H xs us Q I r h
  obtain ⟨b, rfl, q⟩ := h
  obtain ⟨u, rfl, e⟩ := vals1 r
  cases (show u = Value.bool b from e)
  exact PySem.P.repr_of_bool ⟨.str _, H, I.tok _, ⟨_, rfl⟩, q⟩
end
section
variable {z : Fz} {n m : Nat} {σ : L2.St} {H H' : Hp} {ta tb tc te : TE} {t u : TT} {R S : PyData → Prop} {A B C : Int → Prop} {P P' : Bool → Prop} {K : PySem.W.Frag} {D : Ends} {tu tw tz : TS}
/-! ### comprehensions without a test -/
theorem tYes_go {σ : L2.St} {H : Hp} {Q : Bool → Hp → Prop} (h : Q true H) : tYes σ H Q := h
/-- between two turns: at L the list so far -/
structure Lc (z : Fz) (H : Hp) (L : Addr) (Z : Nat → PyData → Prop) (i : Nat) (H' : Hp) : Prop where
  ex : ExB z.p H H'
  at_ : ∃ acc es, H' L = some (.lst acc) ∧ DtAll (z.av L) H' acc es ∧ es.length = i ∧ ∀ j e, es[j]? = some e → Z j e
theorem lc_start {Z : Nat → PyData → Prop} {L : Addr} (hL : H L = none) : Lc z H L Z 0 (upd H L (.lst [])) := ⟨.new hL, [], [], upd_same, .nil, rfl, fun j e h => by simp at h⟩
theorem snoc_get {α : Type} {es : List α} {d e : α} {j i : Nat} (h : (es ++ [d])[j]? = some e) (l : es.length = i) : (es[j]? = some e) ∨ (j = i ∧ e = d) := by
  by_cases hl : j < es.length
  · rw [List.getElem?_append_left hl] at h
    exact .inl h
  · rw [List.getElem?_append_right (by omega)] at h
    cases k : j - es.length with
    | zero =>
      rw [k] at h
      exact .inr ⟨by omega, by simpa using h.symm⟩
    | succ k => rw [k] at h; simp at h
theorem lc_turn {Z : Nat → PyData → Prop} {L : Addr} {i N : Nat} {σ2 : L2.St} (al : AlS z H) (hL : H L = none) (hi : i < N) (hN : N ≤ sizeLine) (q : Lc z H L Z i H') (he : Yl (z.av L) te σ2 H' (Z i)) :
    tYes σ2 H' fun b H3 => if b = true then te σ2 H3 fun y H4 => ∃ acc, H4 L = some (.lst acc) ∧ acc.length < sizeLine ∧ Lc z H L Z (i + 1) (upd H4 L (.lst (acc ++ [y]))) else Lc z H L Z (i + 1) H3 := by
  obtain ⟨e1, acc, es, h1, h2, h3, h4⟩ := q
  have nL := al.ne hL
  show (if true = true then te σ2 H' (fun y H4 => ∃ acc, H4 L = some (.lst acc) ∧ acc.length < sizeLine ∧ Lc z H L Z (i + 1) (upd H4 L (.lst (acc ++ [y])))) else Lc z H L Z (i + 1) H')
  refine iteT (he H' (.refl _ H') ((al.up e1).av ⟨_, h1, fun _ e => nomatch e⟩) _ fun y d H4 e4 hd hr => ⟨acc, e4.keep L _ nL.1 h1, by rw [h2.length, h3]; omega, (e1.trans e4).mut al.1 hL, acc ++ [y], es ++ [d], upd_same, ?_, by rw [List.length_append, h3]; rfl, fun j e hj => ?_⟩)
  · exact ((h2.mono e4).append (.cons hd .nil)).to .mut
  · rcases snoc_get hj h3 with q | ⟨q1, q2⟩
    · exact h4 j e q
    · rw [q1, q2]; exact hr
theorem lc_end {Z : Nat → PyData → Prop} {L : Addr} {i : Nat} (al : AlS z H) (hL : H L = none) (q : Lc z H L Z i H') (hi : i ≤ z.n) : ∃ es, Dt z H' (.ref L) (.list es) ∧ es.length = i ∧ ∀ j e, es[j]? = some e → Z j e := by
  obtain ⟨e1, acc, es, h1, h2, h3, h4⟩ := q
  exact ⟨es, .lst (al.ne hL) h1 (by rw [h2.length, h3]; exact hi) (h2.to .unav), h3, h4⟩
/-- [e for x in data] over a tuple -/
theorem yl_lcT {ds : List PyData} {tl : TE} {j : Nat} {vs : List Nat} (Z : Nat → PyData → Prop) (h : Yl z tl σ H (· = .tuple ds)) (hl : ds.length ≤ z.n) (hz : z.n ≤ sizeLine) (hw : ∀ x, wipe ((wipe σ vs).set j (some x)) vs = wipe σ vs)
    (he : ∀ i x d L H0 H1, ExB z.p H H0 → H0 L = none → ExB z.p H0 H1 → ds[i]? = some d → Dt (z.av L) H1 x d → Yl (z.av L) te ((wipe σ vs).set j (some x)) H1 (Z i)) :
    Yl z (tLc (iTup K tl) (gName j) tYes te vs) σ H (fun d => ∃ es, d = .list es ∧ es.length = ds.length ∧ ∀ j e, es[j]? = some e → Z j e) := fun H1 e a Q q => h H1 e a _ fun v d H2 e2 hd hr => by
  subst hr
  cases hd with
  | @tup a1 xs _ d1 d2 d3 d4 =>
    have a2 := a.up e2
    refine ⟨a1, rfl, ⟨xs, .inl (.inl d2)⟩, fun L hL => lc_tup (K := K) (xs := xs) (Lc z H2 L Z) (lc_start hL) (fun i H3 _ w => .inl (.inl (w.ex.keep _ _ d1.1 d2))) (fun i x H3 hi w => ⟨hw x, ?_⟩) fun H3 w => ?_⟩
    · obtain ⟨d, g1, g2⟩ := d4.get hi
      have lt : i < xs.length := (List.getElem?_eq_some_iff.mp hi).1
      exact lc_turn a2 hL lt (Nat.le_trans d3 hz) w (he i x d L H2 H3 (e.trans e2) hL w.ex g1 ((g2.to (.av hL)).mono w.ex))
    · obtain ⟨es, g1, g2, g3⟩ := lc_end a2 hL w (by rw [d4.length]; exact hl)
      exact q _ _ H3 (e2.trans w.ex) g1 ⟨es, rfl, by rw [g2, d4.length], g3⟩
theorem yl_lcL {ds : List PyData} {tl : TE} {j : Nat} {vs : List Nat} (Z : Nat → PyData → Prop) (h : Yl z tl σ H (· = .list ds)) (hl : ds.length ≤ z.n) (hz : z.n ≤ sizeLine) (hw : ∀ x, wipe ((wipe σ vs).set j (some x)) vs = wipe σ vs)
    (he : ∀ i x d L H0 H1, ExB z.p H H0 → H0 L = none → ExB z.p H0 H1 → ds[i]? = some d → Dt (z.av L) H1 x d → Yl (z.av L) te ((wipe σ vs).set j (some x)) H1 (Z i)) :
    Yl z (tLc (iList K tl) (gName j) tYes te vs) σ H (fun d => ∃ es, d = .list es ∧ es.length = ds.length ∧ ∀ j e, es[j]? = some e → Z j e) := fun H1 e a Q q => h H1 e a _ fun v d H2 e2 hd hr => by
  subst hr
  cases hd with
  | @lst a1 xs _ d1 d2 d3 d4 =>
    have a2 := a.up e2
    refine ⟨a1, rfl, ⟨xs, .inl (.inl d2)⟩, fun L hL => lc_list (K := K) (xs := xs) (Lc z H2 L Z) (lc_start hL) (fun i H3 _ w => .inl (.inl (w.ex.keep _ _ d1.1 d2))) (fun i x H3 hi w => ⟨hw x, ?_⟩) fun H3 w => ?_⟩
    · obtain ⟨d, g1, g2⟩ := d4.get hi
      have lt : i < xs.length := (List.getElem?_eq_some_iff.mp hi).1
      exact lc_turn a2 hL lt (Nat.le_trans d3 hz) w (he i x d L H2 H3 (e.trans e2) hL w.ex g1 ((g2.to (.av hL)).mono w.ex))
    · obtain ⟨es, g1, g2, g3⟩ := lc_end a2 hL w (by rw [d4.length]; exact hl)
      exact q _ _ H3 (e2.trans w.ex) g1 ⟨es, rfl, by rw [g2, d4.length], g3⟩
/-- over a text, sign by sign -/
theorem yl_lcS {x : Str} {tl : TE} {j : Nat} {vs : List Nat} (Z : Nat → PyData → Prop) (h : Yl z tl σ H (· = .str x)) (hz : z.n ≤ sizeLine) (hw : ∀ x, wipe ((wipe σ vs).set j (some x)) vs = wipe σ vs)
    (he : ∀ i c L H0 H1, ExB z.p H H0 → H0 L = none → ExB z.p H0 H1 → x.cps[i]? = some c → Yl (z.av L) te ((wipe σ vs).set j (some (.str ⟨#[c]⟩))) H1 (Z i)) :
    Yl z (tLc (iStr tl) (gName j) tYes te vs) σ H (fun d => ∃ es, d = .list es ∧ es.length = x.cps.size ∧ ∀ j e, es[j]? = some e → Z j e) := fun H1 e a Q q => h H1 e a _ fun v d H2 e2 hd hr => by
  subst hr
  cases hd with
  | str _ l =>
    have a2 := a.up e2
    have lz : x.cps.size ≤ z.n := l.1
    refine ⟨x, rfl, fun L hL => lc_it walk_str (Lc z H2 L Z) (lc_start hL) (fun _ _ _ _ => trivial) (fun i v H3 H4 hi w y => ?_) fun H3 w => ?_⟩
    · obtain ⟨rfl, c, hc, rfl⟩ := y
      exact ⟨hw _, lc_turn a2 hL hi (Nat.le_trans lz hz) w (he i c L H2 H4 (e.trans e2) hL w.ex hc)⟩
    · obtain ⟨es, g1, g2, g3⟩ := lc_end a2 hL w lz
      exact q _ _ H3 (e2.trans w.ex) g1 ⟨es, rfl, g2, g3⟩
/-- .. over range(n) -/
theorem yl_lcR {k : Int} {tl : TE} {j : Nat} {vs : List Nat} (Z : Nat → PyData → Prop) (h : YI z tl σ H (· = k)) (hk : k ≤ z.n) (hk0 : 0 ≤ k) (hz : z.n ≤ sizeLine) (hw : ∀ x, wipe ((wipe σ vs).set j (some x)) vs = wipe σ vs)
    (he : ∀ (i : Nat) L H0 H1, ExB z.p H H0 → H0 L = none → ExB z.p H0 H1 → (i : Int) < k → Yl (z.av L) te ((wipe σ vs).set j (some (.int (i : Int)))) H1 (Z i)) :
    Yl z (tLc (iRng1 (tCons tl tNil)) (gName j) tYes te vs) σ H (fun d => ∃ es, d = .list es ∧ es.length = k.toNat ∧ ∀ j e, es[j]? = some e → Z j e) := fun H1 e a Q q => h H1 e a _ fun v H2 e2 hr => by
  have hr : v = k := hr
  subst hr
  have a2 := a.up e2
  have hs : sizeLine < 2 ^ 62 := by decide
  refine ⟨v, rfl, by omega, by omega, fun L hL => lc_range (lo := 0) (n := v.toNat) (Lc z H2 L Z) (lc_start hL) (fun i H3 hi w => ?_) fun H3 w => ?_⟩
  · have e0 : (0 : Int) + (i : Int) = (i : Int) := Int.zero_add _
    rw [e0]
    exact ⟨hw _, lc_turn a2 hL hi (by omega) w (he i L H2 H3 (e.trans e2) hL w.ex (by omega))⟩
  · obtain ⟨es, g1, g2, g3⟩ := lc_end a2 hL w (by omega)
    exact q _ _ H3 (e2.trans w.ex) g1 ⟨es, rfl, g2, g3⟩
theorem map_of {α : Type} {es : List PyData} {ds : List α} {f : α → PyData} (hl : es.length = ds.length) (h : ∀ (j : Nat) e, es[j]? = some e → ∀ d, ds[j]? = some d → e = f d) : es = ds.map f := by
  refine List.ext_getElem? fun j => ?_
  rw [List.getElem?_map]
  cases he : es[j]? with
  | none =>
    have : ds.length ≤ j := by rw [← hl]; exact List.getElem?_eq_none_iff.mp he
    rw [List.getElem?_eq_none_iff.mpr this]; rfl
  | some e =>
    have lt : j < ds.length := by rw [← hl]; exact (List.getElem?_eq_some_iff.mp he).1
    rw [List.getElem?_eq_getElem lt, h j e he _ (List.getElem?_eq_getElem lt)]; rfl
/-- all([..]) -/
theorem yb_all {bs : List Bool} (h : Yl z ta σ H (· = .list (bs.map PyData.bool))) : YB z (tCB (rAll K) (tCons ta tNil)) σ H (· = bs.all id) := fun H1 e a Q q => h H1 e a _ fun v d H2 e2 hd hr => by
  subst hr
  cases hd with
  | lst d1 d2 d3 d4 =>
    rw [d4.bools_eq] at d2
    exact ⟨_, bs, rfl, .inl (.inl d2), q _ H2 e2 rfl⟩
end
end Pb
namespace Pb
open PySem L2
mutual
theorem Dt.dp' {z : Fz} {H : Hp} {K : PySem.W.Frag} : ∀ (d : PyData) (v : V), Dt z H v d → Dp K H v d
  | .none, _, h => by cases h; exact .non
  | .bool b, _, h => by cases h; exact .bl b
  | .int i, _, h => by cases h; exact .int i
  | .str x, _, h => by cases h; exact .str x
  | .list ds, _, h => by cases h with | lst a b c t => exact .lst (.inl (.inl b)) (DtAll.dp' ds _ t)
  | .tuple ds, _, h => by cases h with | tup a b c t => exact .tup (.inl (.inl b)) (DtAll.dp' ds _ t)
  | .dict _, _, h => by cases h
theorem DtAll.dp' {z : Fz} {H : Hp} {K : PySem.W.Frag} : ∀ (ds : List PyData) (vs : List V), DtAll z H vs ds → DpAll K H vs ds
  | [], _, h => by cases h; exact .nil
  | d :: ds, _, h => by cases h with | cons a t => exact .cons (Dt.dp' d _ a) (DtAll.dp' ds _ t)
end
mutual
theorem Dt.lay' {z : Fz} {H : Hp} : ∀ (d : PyData) (v : V), Dt z H v d → d.canLay0 = true
  | .none, _, h => by simp [PyData.canLay0]
  | .bool b, _, h => by simp [PyData.canLay0]
  | .int i, _, h => by simp [PyData.canLay0]
  | .str x, _, h => by cases h with | str _ l => simp only [PyData.canLay0]; exact l.2
  | .list ds, _, h => by cases h with | lst a b c t => simp only [PyData.canLay0]; exact DtAll.lay' ds _ t
  | .tuple ds, _, h => by cases h with | tup a b c t => simp only [PyData.canLay0]; exact DtAll.lay' ds _ t
  | .dict _, _, h => by cases h
theorem DtAll.lay' {z : Fz} {H : Hp} : ∀ (ds : List PyData) (vs : List V), DtAll z H vs ds → PyData.canLayAll0 ds = true
  | [], _, h => by simp [PyData.canLayAll0]
  | d :: ds, _, h => by cases h with | cons a t => simp only [PyData.canLayAll0, Bool.and_eq_true]; exact ⟨Dt.lay' d _ a, DtAll.lay' ds _ t⟩
end
theorem Dt.shaped {z : Fz} {H : Hp} {d : PyData} {v : V} (h : Dt z H v d) (l : d.depth ≤ 64) : SeqAt.shaped d = true := by
  show (d.canLay0 && decide (d.depth ≤ 64)) = true
  rw [Dt.lay' d v h, decide_eq_true l]; rfl
theorem depthAll_strs : ∀ xs : List Str, PyData.depthAll (xs.map PyData.str) = 0
  | [] => rfl
  | _ :: r => by simp [PyData.depthAll, PyData.depth, depthAll_strs r]
/-! ### rules by a K that is told (for the blocks of comprehensions) -/
section
variable {X : Cx} {K : PySem.W.Frag}
theorem kk_ix_list (e : X.K = K) : IxR X (rIxL K) := e ▸ ix_list
theorem kk_ix_tup (e : X.K = K) : IxR X (rIxT K) := e ▸ ix_tup
theorem kk_sl_list (e : X.K = K) : SlR X (rSlL K) := e ▸ sl_list
theorem kk_sl_tupA (e : X.K = K) : SlR X (rSlA K) := e ▸ sl_tupA
theorem kk_op_catA (e : X.K = K) : OpR X (binaryOp .Add) (rCatA K) := e ▸ op_catA
theorem kk_op_in_seq (e : X.K = K) : OpR X (compareOp .In) (rIn K false) := e ▸ op_in_seq
theorem kk_op_notIn_seq (e : X.K = K) : OpR X (compareOp .NotIn) (rIn K true) := e ▸ op_notIn_seq
theorem kk_op_eqD (hu : X.A.units + 64 < cLine) (e : X.K = K) : OpR X (compareOp .Eq) (rEqD K) := e ▸ op_eqD hu
theorem kk_op_neD (hu : X.A.units + 64 < cLine) (e : X.K = K) : OpR X (compareOp .NotEq) (rNeD K) := e ▸ op_neD hu
theorem kk_call_isi (e : X.K = K) : CallR X (.builtin "isinstance") (rIsi K) := e ▸ call_isi
theorem kk_call_len_seq (e : X.K = K) : CallR X (.builtin "len") (fun xs H Q => ∃ p ys, xs = [.ref p] ∧ (SqL K H p ys ∨ SqT K H p ys) ∧ Q (.int (ys.length : Int)) H) := e ▸ call_len_seq
theorem kk_call_list_of (e : X.K = K) : CallR X (.type "list") (fun xs H Q => ∃ p ys, xs = [.ref p] ∧ (SqL K H p ys ∨ SqT K H p ys) ∧ ∀ l, H l = none → Q (.ref l) (upd H l (.lst ys))) := e ▸ call_list_of
theorem kk_call_tuple_of (e : X.K = K) : CallR X (.type "tuple") (fun xs H Q => ∃ p ys, xs = [.ref p] ∧ ((SqL K H p ys ∧ ∀ l, H l = none → Q (.ref l) (upd H l (.tup ys))) ∨ (SqT K H p ys ∧ Q (.ref p) H))) := e ▸ call_tuple_of
end
section
variable {z : Fz} {n m : Nat} {σ : L2.St} {H H' : Hp} {ta tb tc te : TE} {t u : TT} {R S : PyData → Prop} {A B C : Int → Prop} {P P' : Bool → Prop} {K : PySem.W.Frag} {D : Ends} {tu tw tz : TS} {d e : PyData} {ds es : List PyData}
theorem yb_eqD (ha : Yl z ta σ H (· = d)) (hb : Yl z tb σ H (· = e)) (l1 : d.depth ≤ 64) (l2 : e.depth ≤ 64) : YB z (tOp (rEqD K) ta tb) σ H (· = PyData.eqv d e) := fun H1 e1 a Q q =>
  ha H1 e1 a _ fun v d' H2 e2 hd hr => hb H2 (e1.trans e2) (a.up e2) _ fun v' d'' H3 e3 hd' hr' => by
    subst hr hr'
    exact ⟨_, _, Dt.dp' _ _ (hd.mono e3), Dt.dp' _ _ hd', hd.shaped l1, hd'.shaped l2, q _ H3 (e2.trans e3) rfl⟩
theorem yb_neD (ha : Yl z ta σ H (· = d)) (hb : Yl z tb σ H (· = e)) (l1 : d.depth ≤ 64) (l2 : e.depth ≤ 64) : YB z (tOp (rNeD K) ta tb) σ H (· = !PyData.eqv d e) := fun H1 e1 a Q q =>
  ha H1 e1 a _ fun v d' H2 e2 hd hr => hb H2 (e1.trans e2) (a.up e2) _ fun v' d'' H3 e3 hd' hr' => by
    subst hr hr'
    exact ⟨_, _, Dt.dp' _ _ (hd.mono e3), Dt.dp' _ _ hd', hd.shaped l1, hd'.shaped l2, q _ H3 (e2.trans e3) rfl⟩
/-! ### items -/
theorem DtAll.at {vs : List V} {k : Nat} (h : DtAll z H vs ds) (e : ds[k]? = some d) : ∃ v, vs[k]? = some v ∧ Dt z H v d := by
  have lt : k < vs.length := by rw [h.length]; exact (List.getElem?_eq_some_iff.mp e).1
  obtain ⟨d', g1, g2⟩ := h.get (List.getElem?_eq_getElem lt)
  rw [e] at g1
  cases g1
  exact ⟨_, List.getElem?_eq_getElem lt, g2⟩
theorem yl_ixT {Rs : List PyData → Prop} (h : Yl z ta σ H (fun d => ∃ ds, d = .tuple ds ∧ Rs ds)) (hi : YI z tb σ H A) (hk : ∀ ds i, Rs ds → A i → ∃ (k : Nat) (d : PyData), i = k ∧ ds[k]? = some d ∧ R d) : Yl z (tOp (rIxT K) ta tb) σ H R := fun H1 e a Q q =>
  h H1 e a _ fun v d H2 e2 hd ⟨ds, hr, rs⟩ => hi H2 (e.trans e2) (a.up e2) _ fun i H3 e3 ai => by
    subst hr
    obtain ⟨k, d, rfl, hg, r⟩ := hk ds i rs ai
    cases hd.mono e3 with
    | tup d1 d2 d3 d4 =>
      obtain ⟨x, g1, g2⟩ := d4.at hg
      exact ⟨_, _, _, x, rfl, rfl, .inl (.inl d2), atI_nat g1, q _ _ H3 (e2.trans e3) g2 r⟩
theorem yl_ixL {Rs : List PyData → Prop} (h : Yl z ta σ H (fun d => ∃ ds, d = .list ds ∧ Rs ds)) (hi : YI z tb σ H A) (hk : ∀ ds i, Rs ds → A i → ∃ (k : Nat) (d : PyData), i = k ∧ ds[k]? = some d ∧ R d) : Yl z (tOp (rIxL K) ta tb) σ H R := fun H1 e a Q q =>
  h H1 e a _ fun v d H2 e2 hd ⟨ds, hr, rs⟩ => hi H2 (e.trans e2) (a.up e2) _ fun i H3 e3 ai => by
    subst hr
    obtain ⟨k, d, rfl, hg, r⟩ := hk ds i rs ai
    cases hd.mono e3 with
    | lst d1 d2 d3 d4 =>
      obtain ⟨x, g1, g2⟩ := d4.at hg
      exact ⟨_, _, _, x, rfl, rfl, .inl (.inl d2), atI_nat g1, q _ _ H3 (e2.trans e3) g2 r⟩
theorem yl_ixT1 {k : Nat} (h : Yl z ta σ H (· = .tuple ds)) (hg : ds[k]? = some d) : Yl z (tOp (rIxT K) ta (tC (.int (k : Int)))) σ H (· = d) :=
  yl_ixT (Rs := (· = ds)) (h.imp fun d e => ⟨ds, e, rfl⟩) yi_c fun ds' i e1 e2 => ⟨k, d, e2, by rw [e1]; exact hg, rfl⟩
/-! ### + of lists and tuples, slices -/
theorem yl_cat {Ra Rb : List PyData → Prop} (ha : Yl z ta σ H (fun d => ∃ ds, d = .list ds ∧ Ra ds)) (hb : Yl z tb σ H (fun d => ∃ ds, d = .list ds ∧ Rb ds)) (hl : ∀ ds es, Ra ds → Rb es → ds.length + es.length ≤ z.n) (hz : z.n ≤ sizeLine) :
    Yl z (tOp rCat ta tb) σ H (fun d => ∃ ds, d = .list ds ∧ ∃ xs ys, ds = xs ++ ys ∧ Ra xs ∧ Rb ys) := fun H1 e a Q q =>
  ha H1 e a _ fun v d H2 e2 hd ⟨ds, hr, rs⟩ => hb H2 (e.trans e2) (a.up e2) _ fun v' d' H3 e3 hd' ⟨es, hr', rs'⟩ => by
    subst hr hr'
    cases hd.mono e3 with
    | lst d1 d2 d3 d4 =>
      cases hd' with
      | lst f1 f2 f3 f4 =>
        have l := hl ds es rs rs'
        refine ⟨_, _, _, _, rfl, rfl, d2, f2, by rw [d4.length, f4.length]; omega, fun t ht => ?_⟩
        exact q _ _ _ ((e2.trans e3).trans (.new ht)) (.lst (((a.up e2).up e3).ne ht) upd_same (by rw [List.length_append, d4.length, f4.length]; exact l) ((d4.append f4).mono (.new ht))) ⟨_, rfl, ds, es, rfl, rs, rs'⟩
theorem yl_catT {Ra Rb : List PyData → Prop} (ha : Yl z ta σ H (fun d => ∃ ds, d = .tuple ds ∧ Ra ds)) (hb : Yl z tb σ H (fun d => ∃ ds, d = .tuple ds ∧ Rb ds)) (hl : ∀ ds es, Ra ds → Rb es → ds.length + es.length ≤ z.n) (hz : z.n ≤ sizeLine) :
    Yl z (tOp (rCatA K) ta tb) σ H (fun d => ∃ ds, d = .tuple ds ∧ ∃ xs ys, ds = xs ++ ys ∧ Ra xs ∧ Rb ys) := fun H1 e a Q q =>
  ha H1 e a _ fun v d H2 e2 hd ⟨ds, hr, rs⟩ => hb H2 (e.trans e2) (a.up e2) _ fun v' d' H3 e3 hd' ⟨es, hr', rs'⟩ => by
    subst hr hr'
    have hdd := hd.mono e3
    cases id hdd with
    | tup d1 d2 d3 d4 =>
      cases id hd' with
      | tup f1 f2 f3 f4 =>
        have l := hl ds es rs rs'
        refine ⟨_, _, _, _, rfl, rfl, .inl (.inl d2), .inl (.inl f2), by rw [d4.length, f4.length]; omega, fun h => ?_, fun h h' => ?_, fun h h' t ht => ?_⟩
        · subst h
          cases d4
          exact q _ _ H3 (e2.trans e3) hd' ⟨_, rfl, [], es, rfl, rs, rs'⟩
        · subst h'
          cases f4
          exact q _ _ H3 (e2.trans e3) hdd ⟨_, rfl, ds, [], by rw [List.append_nil], rs, rs'⟩
        · exact q _ _ _ ((e2.trans e3).trans (.new ht)) (.tup (((a.up e2).up e3).ne ht) upd_same (by rw [List.length_append, d4.length, f4.length]; exact l) ((d4.append f4).mono (.new ht))) ⟨_, rfl, ds, es, rfl, rs, rs'⟩
/-- what is cut out -/
def cutD (ds : List PyData) (lo hi : Option Int) : List PyData := (ds.drop (HT.sIx ds.length 0 lo)).take (HT.sIx ds.length ds.length hi - HT.sIx ds.length 0 lo)
theorem DtAll.cut {vs : List V} (h : DtAll z H vs ds) (lo hi : Option Int) : DtAll z H (cutV vs lo hi) (cutD ds lo hi) := by
  unfold cutV cutD
  rw [h.length]
  exact (h.drop _).take _
def YO (z : Fz) (tt : TO) (σ : L2.St) (H : Hp) (A : Option Int → Prop) : Prop := ∀ H1, ExB z.p H H1 → AlS z H1 → ∀ Q : Option Int → Hp → Prop, (∀ o H2, ExB z.p H1 H2 → A o → Q o H2) → tt σ H1 Q
theorem yo_none : YO z tNoPart σ H (· = none) := fun H1 _ _ Q q => q _ H1 (.refl _ H1) rfl
theorem yo_some (h : YI z te σ H A) : YO z (tPart te) σ H (fun o => ∃ i, o = some i ∧ A i) := fun H1 e a Q q => h H1 e a _ fun i H2 e2 hi => ⟨i, rfl, q _ H2 e2 ⟨i, rfl, hi⟩⟩
theorem yl_slL {Rs : List PyData → Prop} {tl th : TO} {F G : Option Int → Prop} (h : Yl z ta σ H (fun d => ∃ ds, d = .list ds ∧ Rs ds)) (hl : YO z tl σ H F) (hh : YO z th σ H G) : Yl z (tSl (rSlL K) ta tl th) σ H (fun d => ∃ ds, d = .list ds ∧ ∃ xs lo hi, Rs xs ∧ F lo ∧ G hi ∧ ds = cutD xs lo hi) := fun H1 e a Q q =>
  h H1 e a _ fun v d H2 e2 hd ⟨ds, hr, rs⟩ => hl H2 (e.trans e2) (a.up e2) _ fun lo H3 e3 f => hh H3 ((e.trans e2).trans e3) ((a.up e2).up e3) _ fun hi H4 e4 g => by
    subst hr
    cases (hd.mono e3).mono e4 with
    | lst d1 d2 d3 d4 =>
      refine ⟨_, _, rfl, .inl (.inl d2), fun t ht => ?_⟩
      exact q _ _ _ (((e2.trans e3).trans e4).trans (.new ht)) (.lst ((((a.up e2).up e3).up e4).ne ht) upd_same (Nat.le_trans (cutV_length _ _ _) d3) ((d4.cut lo hi).mono (.new ht))) ⟨_, rfl, ds, lo, hi, rs, f, g, rfl⟩
theorem cut_whole {vs : List V} {lo hi : Option Int} (h : HT.sIx vs.length 0 lo = 0 ∧ HT.sIx vs.length vs.length hi = vs.length) (hd : DtAll z H vs ds) : cutD ds lo hi = ds := by
  unfold cutD
  rw [← hd.length, h.1, h.2, hd.length]
  simp
theorem yl_slT {Rs : List PyData → Prop} {tl th : TO} {F G : Option Int → Prop} (h : Yl z ta σ H (fun d => ∃ ds, d = .tuple ds ∧ Rs ds)) (hl : YO z tl σ H F) (hh : YO z th σ H G) : Yl z (tSl (rSlA K) ta tl th) σ H (fun d => ∃ ds, d = .tuple ds ∧ ∃ xs lo hi, Rs xs ∧ F lo ∧ G hi ∧ ds = cutD xs lo hi) := fun H1 e a Q q =>
  h H1 e a _ fun v d H2 e2 hd ⟨ds, hr, rs⟩ => hl H2 (e.trans e2) (a.up e2) _ fun lo H3 e3 f => hh H3 ((e.trans e2).trans e3) ((a.up e2).up e3) _ fun hi H4 e4 g => by
    subst hr
    have hdd := (hd.mono e3).mono e4
    cases id hdd with
    | tup d1 d2 d3 d4 =>
      refine ⟨_, _, rfl, .inl (.inl d2), fun hw => ?_, fun hw t ht => ?_⟩
      · exact q _ _ H4 ((e2.trans e3).trans e4) hdd ⟨_, rfl, ds, lo, hi, rs, f, g, (cut_whole hw d4).symm⟩
      · exact q _ _ _ (((e2.trans e3).trans e4).trans (.new ht)) (.tup ((((a.up e2).up e3).up e4).ne ht) upd_same (Nat.le_trans (cutV_length _ _ _) d3) ((d4.cut lo hi).mono (.new ht))) ⟨_, rfl, ds, lo, hi, rs, f, g, rfl⟩
theorem cutD_length (ds : List PyData) (lo hi : Option Int) : (cutD ds lo hi).length ≤ ds.length := by
  unfold cutD
  rw [List.length_take, List.length_drop]
  omega
theorem cutD_mem {ds : List PyData} {lo hi : Option Int} (h : d ∈ cutD ds lo hi) : d ∈ ds := List.mem_of_mem_drop (List.mem_of_mem_take h)
/-- list(..), tuple(..) -/
def rListOf (K : PySem.W.Frag) : List V → Hp → VK → Prop := fun xs H Q => ∃ p ys, xs = [.ref p] ∧ (SqL K H p ys ∨ SqT K H p ys) ∧ ∀ l, H l = none → Q (.ref l) (upd H l (.lst ys))
def rTupOf (K : PySem.W.Frag) : List V → Hp → VK → Prop := fun xs H Q => ∃ p ys, xs = [.ref p] ∧ ((SqL K H p ys ∧ ∀ l, H l = none → Q (.ref l) (upd H l (.tup ys))) ∨ (SqT K H p ys ∧ Q (.ref p) H))
theorem yl_listT (h : Yl z ta σ H (fun d => ∃ ds, d = .tuple ds ∧ R (.list ds))) : Yl z (tCB (rListOf K) (tCons ta tNil)) σ H (fun d => ∃ ds, d = .list ds ∧ R d) := fun H1 e a Q q =>
  h H1 e a _ fun v d H2 e2 hd ⟨ds, hr, rs⟩ => by
    subst hr
    cases hd with
    | tup d1 d2 d3 d4 => exact ⟨_, _, rfl, .inr (.inl (.inl d2)), fun t ht => q _ _ _ (e2.trans (.new ht)) (.lst ((a.up e2).ne ht) upd_same d3 (d4.mono (.new ht))) ⟨ds, rfl, rs⟩⟩
theorem yl_tupL (h : Yl z ta σ H (fun d => ∃ ds, d = .list ds ∧ R (.tuple ds))) : Yl z (tCB (rTupOf K) (tCons ta tNil)) σ H (fun d => ∃ ds, d = .tuple ds ∧ R d) := fun H1 e a Q q =>
  h H1 e a _ fun v d H2 e2 hd ⟨ds, hr, rs⟩ => by
    subst hr
    cases hd with
    | lst d1 d2 d3 d4 => exact ⟨_, _, rfl, .inl ⟨.inl (.inl d2), fun t ht => q _ _ _ (e2.trans (.new ht)) (.tup ((a.up e2).ne ht) upd_same d3 (d4.mono (.new ht))) ⟨ds, rfl, rs⟩⟩⟩
/-- [e for x in a tuple], the tuple told by a word -/
theorem yl_lcTR {Rs : List PyData → Prop} {tl : TE} {j : Nat} {vs : List Nat} (Z : List PyData → Nat → PyData → Prop) (h : Yl z tl σ H (fun d => ∃ ds, d = .tuple ds ∧ Rs ds)) (hz : z.n ≤ sizeLine) (hw : ∀ x, wipe ((wipe σ vs).set j (some x)) vs = wipe σ vs)
    (he : ∀ ds, Rs ds → ∀ i x d L H0 H1, ExB z.p H H0 → H0 L = none → ExB z.p H0 H1 → ds[i]? = some d → Dt (z.av L) H1 x d → Yl (z.av L) te ((wipe σ vs).set j (some x)) H1 (Z ds i)) :
    Yl z (tLc (iTup K tl) (gName j) tYes te vs) σ H (fun d => ∃ es, d = .list es ∧ ∃ ds, Rs ds ∧ es.length = ds.length ∧ ∀ j e, es[j]? = some e → Z ds j e) := fun H1 e a Q q => h H1 e a _ fun v d H2 e2 hd ⟨ds, hr, rs⟩ => by
  subst hr
  cases hd with
  | @tup a1 xs _ d1 d2 d3 d4 =>
    have a2 := a.up e2
    refine ⟨a1, rfl, ⟨xs, .inl (.inl d2)⟩, fun L hL => lc_tup (K := K) (xs := xs) (Lc z H2 L (Z ds)) (lc_start hL) (fun i H3 _ w => .inl (.inl (w.ex.keep _ _ d1.1 d2))) (fun i x H3 hi w => ⟨hw x, ?_⟩) fun H3 w => ?_⟩
    · obtain ⟨d, g1, g2⟩ := d4.get hi
      have lt : i < xs.length := (List.getElem?_eq_some_iff.mp hi).1
      exact lc_turn a2 hL lt (Nat.le_trans d3 hz) w (he ds rs i x d L H2 H3 (e.trans e2) hL w.ex g1 ((g2.to (.av hL)).mono w.ex))
    · obtain ⟨es, g1, g2, g3⟩ := lc_end a2 hL w d3
      exact q _ _ H3 (e2.trans w.ex) g1 ⟨es, rfl, ds, rs, by rw [g2, d4.length], g3⟩
theorem yl_lcLR {Rs : List PyData → Prop} {tl : TE} {j : Nat} {vs : List Nat} (Z : List PyData → Nat → PyData → Prop) (h : Yl z tl σ H (fun d => ∃ ds, d = .list ds ∧ Rs ds)) (hz : z.n ≤ sizeLine) (hw : ∀ x, wipe ((wipe σ vs).set j (some x)) vs = wipe σ vs)
    (he : ∀ ds, Rs ds → ∀ i x d L H0 H1, ExB z.p H H0 → H0 L = none → ExB z.p H0 H1 → ds[i]? = some d → Dt (z.av L) H1 x d → Yl (z.av L) te ((wipe σ vs).set j (some x)) H1 (Z ds i)) :
    Yl z (tLc (iList K tl) (gName j) tYes te vs) σ H (fun d => ∃ es, d = .list es ∧ ∃ ds, Rs ds ∧ es.length = ds.length ∧ ∀ j e, es[j]? = some e → Z ds j e) := fun H1 e a Q q => h H1 e a _ fun v d H2 e2 hd ⟨ds, hr, rs⟩ => by
  subst hr
  cases hd with
  | @lst a1 xs _ d1 d2 d3 d4 =>
    have a2 := a.up e2
    refine ⟨a1, rfl, ⟨xs, .inl (.inl d2)⟩, fun L hL => lc_list (K := K) (xs := xs) (Lc z H2 L (Z ds)) (lc_start hL) (fun i H3 _ w => .inl (.inl (w.ex.keep _ _ d1.1 d2))) (fun i x H3 hi w => ⟨hw x, ?_⟩) fun H3 w => ?_⟩
    · obtain ⟨d, g1, g2⟩ := d4.get hi
      have lt : i < xs.length := (List.getElem?_eq_some_iff.mp hi).1
      exact lc_turn a2 hL lt (Nat.le_trans d3 hz) w (he ds rs i x d L H2 H3 (e.trans e2) hL w.ex g1 ((g2.to (.av hL)).mono w.ex))
    · obtain ⟨es, g1, g2, g3⟩ := lc_end a2 hL w d3
      exact q _ _ H3 (e2.trans w.ex) g1 ⟨es, rfl, ds, rs, by rw [g2, d4.length], g3⟩
/-! ### written data -/
theorem yl_strK {x : Str} (h : (decide (x.length ≤ 30) && PyData.strOk x) = true) (hn : 30 ≤ z.n) : Yl z (tC (.str x)) σ H (· = .str x) := by
  rw [Bool.and_eq_true] at h
  exact yl_str ⟨Nat.le_trans (of_decide_eq_true h.1) hn, h.2⟩
theorem yi_neg {i : Int} (h : YI z te σ H (· = i)) : YI z (tUn (rU fun i => .int (-i)) te) σ H (· = -i) := fun H1 e a Q q => h H1 e a _ fun k H2 e2 hk => ⟨k, rfl, q _ H2 e2 (by rw [hk])⟩
theorem yl_cat1 (ha : Yl z ta σ H (· = .list ds)) (hb : Yl z tb σ H (· = .list es)) (hl : ds.length + es.length ≤ z.n) (hz : z.n ≤ sizeLine) : Yl z (tOp rCat ta tb) σ H (· = .list (ds ++ es)) :=
  (yl_cat (Ra := (· = ds)) (Rb := (· = es)) (ha.imp fun d e => ⟨ds, e, rfl⟩) (hb.imp fun d e => ⟨es, e, rfl⟩) (fun a b e f => by rw [e, f]; exact hl) hz).imp fun d ⟨l, h1, xs, ys, h2, h3, h4⟩ => by rw [h1, h2, h3, h4]
theorem yl_catT1 (ha : Yl z ta σ H (· = .tuple ds)) (hb : Yl z tb σ H (· = .tuple es)) (hl : ds.length + es.length ≤ z.n) (hz : z.n ≤ sizeLine) : Yl z (tOp (rCatA K) ta tb) σ H (· = .tuple (ds ++ es)) :=
  (yl_catT (Ra := (· = ds)) (Rb := (· = es)) (ha.imp fun d e => ⟨ds, e, rfl⟩) (hb.imp fun d e => ⟨es, e, rfl⟩) (fun a b e f => by rw [e, f]; exact hl) hz).imp fun d ⟨l, h1, xs, ys, h2, h3, h4⟩ => by rw [h1, h2, h3, h4]
theorem cut_to (ds : List PyData) (k : Nat) : cutD ds none (some (k : Int)) = ds.take k := by
  unfold cutD
  rw [HT.sIx_none, HT.sIx_nat, List.drop_zero, Nat.sub_zero]
  by_cases h : k ≤ ds.length
  · rw [Nat.min_eq_left h]
  · rw [Nat.min_eq_right (by omega), List.take_of_length_le (Nat.le_refl _), List.take_of_length_le (by omega)]
theorem cut_from (ds : List PyData) (k : Nat) : cutD ds (some (k : Int)) none = ds.drop k := by
  unfold cutD
  rw [HT.sIx_none, HT.sIx_nat]
  by_cases h : k ≤ ds.length
  · rw [Nat.min_eq_left h, List.take_of_length_le (by rw [List.length_drop]; omega)]
  · rw [Nat.min_eq_right (by omega), List.drop_of_length_le (Nat.le_refl _), List.drop_of_length_le (by omega), List.take_nil]
theorem yl_toL {k : Int} (h : Yl z ta σ H (· = .list ds)) (hi : YI z tb σ H (· = k)) (h0 : 0 ≤ k) : Yl z (tSl (rSlL K) ta tNoPart (tPart tb)) σ H (· = .list (ds.take k.toNat)) :=
  (yl_slL (Rs := (· = ds)) (h.imp fun d e => ⟨ds, e, rfl⟩) yo_none (yo_some hi)).imp fun d ⟨l, h1, xs, lo, hi, h2, h3, ⟨i, h4, h5⟩, h6⟩ => by
    obtain ⟨n, rfl⟩ : ∃ n : Nat, k = n := ⟨k.toNat, by omega⟩
    rw [h1, h6, h2, h3, h4, h5, cut_to]; rfl
theorem yl_toT {k : Int} (h : Yl z ta σ H (· = .tuple ds)) (hi : YI z tb σ H (· = k)) (h0 : 0 ≤ k) : Yl z (tSl (rSlA K) ta tNoPart (tPart tb)) σ H (· = .tuple (ds.take k.toNat)) :=
  (yl_slT (Rs := (· = ds)) (h.imp fun d e => ⟨ds, e, rfl⟩) yo_none (yo_some hi)).imp fun d ⟨l, h1, xs, lo, hi, h2, h3, ⟨i, h4, h5⟩, h6⟩ => by
    obtain ⟨n, rfl⟩ : ∃ n : Nat, k = n := ⟨k.toNat, by omega⟩
    rw [h1, h6, h2, h3, h4, h5, cut_to]; rfl
theorem yl_fromT {k : Int} (h : Yl z ta σ H (· = .tuple ds)) (hi : YI z tb σ H (· = k)) (h0 : 0 ≤ k) : Yl z (tSl (rSlA K) ta (tPart tb) tNoPart) σ H (· = .tuple (ds.drop k.toNat)) :=
  (yl_slT (Rs := (· = ds)) (h.imp fun d e => ⟨ds, e, rfl⟩) (yo_some hi) yo_none).imp fun d ⟨l, h1, xs, lo, hi, h2, ⟨i, h4, h5⟩, h3, h6⟩ => by
    obtain ⟨n, rfl⟩ : ∃ n : Nat, k = n := ⟨k.toNat, by omega⟩
    rw [h1, h6, h2, h3, h4, h5, cut_from]; rfl
/-- text + text -/
theorem yl_addS {x y : Str} (ha : Yl z ta σ H (· = .str x)) (hb : YB z tb σ H (fun _ => False) ∨ ∀ H1, ExB z.p H H1 → ∀ Q : VK, Q (.str y) H1 → tb σ H1 Q) (hl : (x ++ y).length ≤ z.n ∧ PyData.strOk (x ++ y) = true) (hz : x.length + y.length ≤ sizeLine) :
    Yl z (tOp (fun x y H Q => ∃ i j : Str, x = .str i ∧ y = .str j ∧ i.length + j.length ≤ sizeLine ∧ Q (.str (i ++ j)) H) ta tb) σ H (· = .str (x ++ y)) := fun H1 e a Q q => ha H1 e a _ fun v d H2 e2 hd hr => by
  subst hr
  cases hd
  rcases hb with hb | hb
  · exact hb H2 (e.trans e2) (a.up e2) _ fun _ _ _ h => h.elim
  · exact hb H2 (e.trans e2) _ ⟨x, y, rfl, rfl, hz, q _ _ H2 e2 (.str _ hl) rfl⟩
/-- isinstance(x, (tuple, list)) -/
theorem yb_isiT2 (h : Yl z ta σ H (· = d)) : YB z (tCB (rIsiT K) (tCons ta (tCons (tTup (tCons (tC (.ty "tuple")) (tCons (tC (.ty "list")) tNil))) tNil))) σ H (· = (isT d || isL d)) := fun H1 e a Q q => h H1 e a _ fun v d' H2 e2 hd hr => by
  subst hr
  refine ⟨by show 2 ≤ sizeLine; decide, fun t nt => ⟨v, t, _, _, _, isT d' || isL d', rfl, upd_same, .cons (.ty "tuple") (.cons (.ty "list") .nil), (hd.mono (.new nt)).ty, ?_, q _ _ (e2.trans (.new nt)) rfl⟩⟩
  have k1 := kit_ty (K := K) (isi_ok okT_tuple d')
  have k2 := kit_ty (K := K) (isi_ok okT_list d')
  rw [isi_tuple] at k1
  rw [isi_list] at k2
  refine kitAny_cons k1 (fun e => kitAny_cons k2 (fun e' => by rw [e, e']; exact kitAny_nil) fun e' => by rw [e']; simp) fun e => by rw [e]; rfl
def itemsD : PyData → List PyData
  | .list ds => ds
  | .tuple ds => ds
  | _ => []
theorem yi_lenQ (h : Yl z ta σ H (· = d)) (hq : (isT d || isL d) = true) : YI z (tCB (fun xs H Q => ∃ p ys, xs = [.ref p] ∧ (SqL K H p ys ∨ SqT K H p ys) ∧ Q (.int (ys.length : Int)) H) (tCons ta tNil)) σ H (· = ((itemsD d).length : Int)) := by
  cases d with
  | list ds => exact yi_lenL h
  | tuple ds => exact yi_lenT h
  | _ => cases hq
theorem yb_eqB {a b : Bool} (ha : YB z ta σ H (· = a)) (hb : YB z tb σ H (· = b)) : YB z (tOp rEq ta tb) σ H (· = decide (a = b)) := fun H1 e al Q q =>
  ha H1 e al _ fun i H2 e2 hi => hb H2 (e.trans e2) (al.up e2) _ fun j H3 e3 hj => ⟨rfl, q _ H3 (e2.trans e3) (by
    rw [hi, hj]
    by_cases h : a = b
    · rw [decide_eq_true h, h]; simp
    · rw [decide_eq_false h, decide_eq_false fun q => h (V.bl.inj q)])⟩
theorem yl_fromL {k : Int} (h : Yl z ta σ H (· = .list ds)) (hi : YI z tb σ H (· = k)) (h0 : 0 ≤ k) : Yl z (tSl (rSlL K) ta (tPart tb) tNoPart) σ H (· = .list (ds.drop k.toNat)) :=
  (yl_slL (Rs := (· = ds)) (h.imp fun d e => ⟨ds, e, rfl⟩) (yo_some hi) yo_none).imp fun d ⟨l, h1, xs, lo, hi, h2, ⟨i, h4, h5⟩, h3, h6⟩ => by
    obtain ⟨n, rfl⟩ : ∃ n : Nat, k = n := ⟨k.toNat, by omega⟩
    rw [h1, h6, h2, h3, h4, h5, cut_from]; rfl
/-- an item of a list of ints, of a written place -/
theorem yi_ixI {xs : List Int} {k : Nat} (h : Yl z ta σ H (· = .list (xs.map PyData.int))) (hk : k < xs.length) : YI z (tOp (rIxL K) ta (tC (.int (k : Int)))) σ H (· = xs[k]) :=
  yi_of1 (yl_ixL (Rs := (· = xs.map PyData.int)) (h.imp fun d e => ⟨_, e, rfl⟩) yi_c fun ds i e1 e2 => ⟨k, _, e2, by rw [e1, List.getElem?_map, List.getElem?_eq_getElem hk]; rfl, rfl⟩)
/-! ### some data, of so many parts -/
theorem Yl.any (h : Yl z te σ H R) : Yl z te σ H (fun _ => True) := h.imp fun _ _ => trivial
theorem ya0 : YA z tNil σ H (fun ds => ds.length = 0) := fun H1 _ _ Q q => q [] [] H1 (.refl _ H1) .nil rfl
theorem ya1 {tr : TA} {k : Nat} (h : Yl z ta σ H (fun _ => True)) (hr : YA z tr σ H (fun ds => ds.length = k)) : YA z (tCons ta tr) σ H (fun ds => ds.length = k + 1) := fun H1 e a Q q =>
  h H1 e a _ fun v d' H2 e2 hd r => hr H2 (e.trans e2) (a.up e2) _ fun vs ds' H3 e3 hs rs => q _ _ H3 (e2.trans e3) (.cons (hd.mono e3) hs) (congrArg (· + 1) rs)
theorem any_lst {t : TA} {k : Nat} (h : YA z t σ H (fun ds => ds.length = k)) (hk : k ≤ z.n) (hz : z.n ≤ sizeLine) : Yl z (tLst t) σ H (fun d => ∃ ds, d = .list ds ∧ ds.length = k) := (yl_lst h (fun ds e => by rw [e]; exact hk) hz).imp fun d ⟨ds, e, f⟩ => ⟨ds, f, e⟩
theorem any_tup {t : TA} {k : Nat} (h : YA z t σ H (fun ds => ds.length = k)) (hk : k ≤ z.n) (hz : z.n ≤ sizeLine) : Yl z (tTup t) σ H (fun d => ∃ ds, d = .tuple ds ∧ ds.length = k) := (yl_tup h (fun ds e => by rw [e]; exact hk) hz).imp fun d ⟨ds, e, f⟩ => ⟨ds, f, e⟩
theorem any_cat {j k : Nat} (ha : Yl z ta σ H (fun d => ∃ ds, d = .list ds ∧ ds.length = j)) (hb : Yl z tb σ H (fun d => ∃ ds, d = .list ds ∧ ds.length = k)) (hl : j + k ≤ z.n) (hz : z.n ≤ sizeLine) : Yl z (tOp rCat ta tb) σ H (fun d => ∃ ds, d = .list ds ∧ ds.length = j + k) :=
  (yl_cat ha hb (fun a b e f => by rw [e, f]; exact hl) hz).imp fun d ⟨l, h1, xs, ys, h2, h3, h4⟩ => ⟨l, h1, by rw [h2, List.length_append, h3, h4]⟩
theorem any_catLe {j k : Nat} (ha : Yl z ta σ H (fun d => ∃ ds, d = .list ds ∧ ds.length ≤ j)) (hb : Yl z tb σ H (fun d => ∃ ds, d = .list ds ∧ ds.length ≤ k)) (hl : j + k ≤ z.n) (hz : z.n ≤ sizeLine) : Yl z (tOp rCat ta tb) σ H (fun d => ∃ ds, d = .list ds ∧ ds.length ≤ j + k) :=
  (yl_cat ha hb (fun a b (e : a.length ≤ j) (f : b.length ≤ k) => by omega) hz).imp fun d ⟨l, h1, xs, ys, h2, (h3 : xs.length ≤ j), (h4 : ys.length ≤ k)⟩ => ⟨l, h1, by rw [h2, List.length_append]; omega⟩
end
end Pb
namespace Pb
open PySem L2
section
variable {z : Fz} {n m : Nat} {σ : L2.St} {H H' : Hp} {ta tb tc te : TE} {t u : TT} {R S : PyData → Prop} {A B C : Int → Prop} {P P' : Bool → Prop} {K : PySem.W.Frag} {D : Ends} {tu tw tz : TS} {d e : PyData} {ds es : List PyData}
/-! ### for over data -/
theorem y_forT {Rs : List PyData → Prop} {tl : TE} {j : Nat} (al : AlS z H) (h : Yl z tl σ H (fun d => ∃ ds, d = .tuple ds ∧ Rs ds)) (Pv : List PyData → Nat → L2.St → Hp → Prop) (h0 : ∀ ds H1, Rs ds → ExB z.p H H1 → Pv ds 0 σ H1)
    (hs : ∀ ds i x d σ' H1 H', Rs ds → ExB z.p H H1 → ExB z.p H1 H' → Pv ds i σ' H' → ds[i]? = some d → Dt z H' x d → tu { D with nx := fun σ2 H2 => ExB z.p H1 H2 ∧ Pv ds (i + 1) σ2 H2, ct := fun σ2 H2 => ExB z.p H1 H2 ∧ Pv ds (i + 1) σ2 H2, bk := D.nx } (σ'.set j (some x)) H')
    (hd : ∀ ds σ' H1 H', Rs ds → ExB z.p H H1 → ExB z.p H1 H' → Pv ds ds.length σ' H' → D.nx σ' H') : tFor (iTup K tl) (gName j) tu D σ H :=
  h H (.refl _ H) al _ fun v d H1 e1 hdd ⟨ds, hr, rs⟩ => by
    subst hr
    cases hdd with
    | @tup a1 xs _ d1 d2 d3 d4 =>
      refine ⟨a1, rfl, ⟨xs, .inl (.inl d2)⟩, for_tup (K := K) (xs := xs) (fun i σ' H' => ExB z.p H1 H' ∧ Pv ds i σ' H') ⟨.refl _ H1, h0 ds H1 rs e1⟩ (fun i σ' H' _ w => .inl (.inl (w.1.keep _ _ d1.1 d2))) (fun i x σ' H' hi w => ?_) fun σ' H' w => ?_⟩
      · obtain ⟨d, g1, g2⟩ := d4.get hi
        exact hs ds i x d σ' H1 H' rs e1 w.1 w.2 g1 (g2.mono w.1)
      · have w2 := w.2
        rw [d4.length] at w2
        exact hd ds σ' H1 H' rs e1 w.1 w2
theorem y_forL {Rs : List PyData → Prop} {tl : TE} {j : Nat} (al : AlS z H) (h : Yl z tl σ H (fun d => ∃ ds, d = .list ds ∧ Rs ds)) (Pv : List PyData → Nat → L2.St → Hp → Prop) (h0 : ∀ ds H1, Rs ds → ExB z.p H H1 → Pv ds 0 σ H1)
    (hs : ∀ ds i x d σ' H1 H', Rs ds → ExB z.p H H1 → ExB z.p H1 H' → Pv ds i σ' H' → ds[i]? = some d → Dt z H' x d → tu { D with nx := fun σ2 H2 => ExB z.p H1 H2 ∧ Pv ds (i + 1) σ2 H2, ct := fun σ2 H2 => ExB z.p H1 H2 ∧ Pv ds (i + 1) σ2 H2, bk := D.nx } (σ'.set j (some x)) H')
    (hd : ∀ ds σ' H1 H', Rs ds → ExB z.p H H1 → ExB z.p H1 H' → Pv ds ds.length σ' H' → D.nx σ' H') : tFor (iList K tl) (gName j) tu D σ H :=
  h H (.refl _ H) al _ fun v d H1 e1 hdd ⟨ds, hr, rs⟩ => by
    subst hr
    cases hdd with
    | @lst a1 xs _ d1 d2 d3 d4 =>
      refine ⟨a1, rfl, ⟨xs, .inl (.inl d2)⟩, for_list (K := K) (xs := xs) (fun i σ' H' => ExB z.p H1 H' ∧ Pv ds i σ' H') ⟨.refl _ H1, h0 ds H1 rs e1⟩ (fun i σ' H' _ w => .inl (.inl (w.1.keep _ _ d1.1 d2))) (fun i x σ' H' hi w => ?_) fun σ' H' w => ?_⟩
      · obtain ⟨d, g1, g2⟩ := d4.get hi
        exact hs ds i x d σ' H1 H' rs e1 w.1 w.2 g1 (g2.mono w.1)
      · have w2 := w.2
        rw [d4.length] at w2
        exact hd ds σ' H1 H' rs e1 w.1 w2
/-! ### a bag's parts -/
theorem yl_bag0 {i : Nat} {q : Addr} (h : σ[i]? = some (some (.ref z.p))) (hq : BagQ z.p q H) (hS : q ∉ z.S) (hn : 400 ≤ z.n) : Yl z (tOp (rIxL K) (tVar i) (tC (.int 0))) σ H (fun d => ∃ ds, d = .list ds ∧ ∃ xs : List Int, ds = xs.map PyData.int ∧ xs.length = 400) := fun H1 e a Q k => by
  obtain ⟨kk, xs, h1, h2, h3, h4, h5⟩ := e.bag q hq
  exact ⟨_, h, z.p, _, 0, .ref q, rfl, rfl, .inl (.inl h4), rfl, k _ _ H1 (.refl _ H1) (.lst ⟨h1, hS⟩ h5 (by rw [List.length_map, h3]; exact hn) (.ints xs)) ⟨_, rfl, xs, rfl, h3⟩⟩
theorem yi_bag1 {i : Nat} {q : Addr} (h : σ[i]? = some (some (.ref z.p))) (hq : BagQ z.p q H) : YI z (tOp (rIxL K) (tVar i) (tC (.int 1))) σ H (fun k => 0 ≤ k) := fun H1 e a Q k => by
  obtain ⟨kk, xs, h1, h2, h3, h4, h5⟩ := e.bag q hq
  exact ⟨_, h, z.p, _, 1, .int kk, rfl, rfl, .inl (.inl h4), rfl, k _ H1 (.refl _ H1) h2⟩
/-- bag[0][..:] -/
theorem yl_bagcut {i : Nat} {q : Addr} {ti : TE} (h : σ[i]? = some (some (.ref z.p))) (hq : BagQ z.p q H) (hS : q ∉ z.S) (hn : 400 ≤ z.n) (hi : YI z ti σ H (fun k => 0 ≤ k ∧ k ≤ 390)) :
    Yl z (tSl (rSlL K) (tOp (rIxL K) (tVar i) (tC (.int 0))) (tPart ti) tNoPart) σ H (fun d => ∃ xs : List Int, d = .list (xs.map PyData.int) ∧ 10 ≤ xs.length ∧ xs.length ≤ 400) :=
  Yl.imp (yl_slL (yl_bag0 h hq hS hn) (yo_some hi) yo_none) fun d ⟨ds, h1, ys, lo, hi, ⟨xs, h2, h3⟩, ⟨k, h4, h5⟩, h6, h7⟩ => by
    obtain ⟨k', rfl⟩ : ∃ n : Nat, k = n := ⟨k.toNat, by omega⟩
    refine ⟨xs.drop k', ?_, by rw [List.length_drop]; omega, by rw [List.length_drop]; omega⟩
    rw [h1, h7, h2, h4, h6, cut_from, List.map_drop]
theorem yi_mod {k : Int} (h : YI z te σ H A) (hk : 0 < k) : YI z (tOp (rI (fun _ j => 0 < j) fun i j => .int (i % j)) te (tC (.int k))) σ H (fun r => 0 ≤ r ∧ r < k) :=
  YI.imp (yi_op h yi_c fun i j _ hj => by rw [hj]; exact hk) fun r ⟨i, j, _, hj, e⟩ => by
    rw [e, hj]
    exact ⟨Int.emod_nonneg _ (by omega), Int.emod_lt_of_pos _ hk⟩
/-- repr(a) != repr(b), of one truth -/
def rReprB : List V → Hp → VK → Prop := fun xs H Q => ∃ b : Bool, xs = [.bl b] ∧ Q (.str (if b then "True" else "False")) H
theorem yt_reprs {b : Bool} (ha : YB z ta σ H (· = b)) (hb : YB z tb σ H (· = b)) : YT z (tTest (tOp rNe (tCB rReprB (tCons ta tNil)) (tCB rReprB (tCons tb tNil)))) σ H (· = false) := fun H1 e a Q q =>
  ha H1 e a _ fun x H2 e2 hx => ⟨x, rfl, hb H2 (e.trans e2) (a.up e2) _ fun y H3 e3 hy => ⟨y, rfl, rfl, _, rfl, q _ H3 (e2.trans e3) (by rw [hx, hy]; simp)⟩⟩
theorem yb_isB {a b : Bool} (h : YB z ta σ H (· = a)) : YB z (tOp rIsB ta (tC (.bl b))) σ H (· = decide (a = b)) := fun H1 e al Q q => h H1 e al _ fun x H2 e2 hx => ⟨x, b, rfl, rfl, q _ H2 e2 (by rw [hx])⟩
end
end Pb
namespace Pb
open PySem L2
def topS (i : Nat) : Stmt := PySem.Challenge.pw_paidback_k01_states_known.main.body.getD i (.Pass ⟨0, 0, 0, 0⟩)
structure Bt (mg : Str → Option Value) (k0 k1 k2 : Tok) : Prop where
  b_all : mg "all" = none
  b_bool : mg "bool" = none
  b_int : mg "int" = none
  b_isinstance : mg "isinstance" = none
  b_len : mg "len" = none
  b_list : mg "list" = none
  b_max : mg "max" = none
  b_min : mg "min" = none
  b_range : mg "range" = none
  b_repr : mg "repr" = none
  b_set : mg "set" = none
  b_str : mg "str" = none
  b_tuple : mg "tuple" = none
  c_MOST_CENTS : mg "MOST_CENTS" = some (.int (1000000000000000000) k0)
  c_MOST_FOLK : mg "MOST_FOLK" = some (.int (40) k1)
  c_MOST_LETTERS : mg "MOST_LETTERS" = some (.int (8) k2)
structure Df (K : PySem.W.Frag) (mg : Str → Option Value) (x : Str) (st : Stmt) (ps : List Str) (f : Addr) (fd : FuncData) : Prop where
  F : Fun K x x st f fd
  b : Binds K fd ps []
  g : mg x = some (.ref f)
def withinD (l m : Int) : PyData → Bool
  | .int i => decide (l ≤ i) && decide (i ≤ m)
  | _ => false
def spWithin : Sp := fun vs H Q _ => ∃ (z : Fz) (v : V) (d : PyData) (l m : Int), vs = [v, .int l, .int m] ∧ AlS z H ∧ Dt z H v d ∧ ∀ H', ExB z.p H H' → Q (.bl (withinD l m d)) H'
def spOne (f : PyData → Bool) : Sp := fun vs H Q _ => ∃ (z : Fz) (v : V) (d : PyData), vs = [v] ∧ z.n ≤ 100000 ∧ AlS z H ∧ Dt z H v d ∧ ∀ H', ExB z.p H H' → Q (.bl (f d)) H'
theorem yb_one {z : Fz} {ta : TE} {σ : L2.St} {H : Hp} {f : PyData → Bool} {d : PyData} {E : XK} (h : Yl z ta σ H (· = d)) (hn : z.n ≤ 100000) : YB z (tCall (spOne f) [] E (tCons ta tNil)) σ H (· = f d) := fun H1 e a Q q =>
  h H1 e a _ fun v d' H2 e2 hd hr => ⟨z, v, d, rfl, hn, a.up e2, by rw [← hr]; exact hd, fun H3 e3 => q _ H3 (e2.trans e3) rfl⟩
section
variable {P : Program} {w : World} {K : PySem.W.Frag} {mg : Str → Option Value} {base : Heap} {k0 k1 k2 : Tok}
abbrev s_is_whole_within : Stmt := topS 4
abbrev N_is_whole_within : List Str := ["thing", "least", "most"]
theorem sc_is_whole_within : FnScope N_is_whole_within ["thing", "least", "most"] (defScope s_is_whole_within) := ⟨rfl, rfl, rfl, by decide +kernel, rfl, by decide +kernel, by decide +kernel⟩
theorem ok_is_whole_within {f_is_whole_within : Addr} {fd_is_whole_within : FuncData} (D_is_whole_within : Df K mg "is_whole_within" s_is_whole_within ["thing", "least", "most"] f_is_whole_within fd_is_whole_within) (T : Bt mg k0 k1 k2) : FnOk P w K mg base CX0 1 f_is_whole_within fd_is_whole_within ["thing", "least", "most"] spWithin := by
  refine D_is_whole_within.F.ok sc_is_whole_within (fun vs H Q E h => ?_) (fun cdv A outer s H vs Q E hr h => ?_)
  · obtain ⟨z, v, d, l, m, rfl, _⟩ := h
    rfl
  obtain ⟨z, v, d, l, m, rfl, al, hd, q⟩ := h
  refine ⟨_, (pss_one (ps_ret (pe_and (pe_callB call_isi (by rfl) T.b_isinstance (by decide +kernel) (pa_cons (pv 0) (pa_cons (pe_bltn (v := .ty "int") (by rfl) T.b_int (by decide +kernel) rfl) pa_nil))) (pe_and (pe_not (pe_callB call_isi (by rfl) T.b_isinstance (by decide +kernel) (pa_cons (pv 0) (pa_cons (pe_bltn (v := .ty "bool") (by rfl) T.b_bool (by decide +kernel) rfl) pa_nil)))) (pe_one (pe_chain op_le op_le (pv 1) (pv 0) (pv 2))))))), ?_⟩
  refine y_retB (P := (· = (isiD "int" d && (!isiD "bool" d && withinD l m d)))) al ?_ fun b H1 e hb => ?_
  · refine yb_and (yb_isi okT_int (yl_var rfl hd)) fun e1 => yb_and (yb_not (yb_isi okT_bool (yl_var rfl hd))) fun e2 => ?_
    rw [isi_int] at e1
    rw [isi_bool] at e2
    cases hd with
    | int i => exact yb_chain (yi_var rfl) (yi_var rfl) (yi_var rfl)
    | bl b => cases e2
    | non => cases e1
    | str _ _ => cases e1
    | lst _ _ _ _ => cases e1
    | tup _ _ _ _ => cases e1
  · have : b = withinD l m d := by
      rw [hb, isi_int, isi_bool]
      cases d <;> simp [isI, isB, withinD]
    rw [this]
    exact q H1 e
abbrev s_is_cents : Stmt := topS 5
abbrev N_is_cents : List Str := ["thing"]
theorem sc_is_cents : FnScope N_is_cents ["thing"] (defScope s_is_cents) := ⟨rfl, rfl, rfl, by decide +kernel, rfl, by decide +kernel, by decide +kernel⟩
theorem ok_is_cents {f_is_cents : Addr} {fd_is_cents : FuncData} (D_is_cents : Df K mg "is_cents" s_is_cents ["thing"] f_is_cents fd_is_cents) {f_is_whole_within : Addr} {fd_is_whole_within : FuncData} (D_is_whole_within : Df K mg "is_whole_within" s_is_whole_within ["thing", "least", "most"] f_is_whole_within fd_is_whole_within) (G_is_whole_within : FnOk P w K mg base CX0 1 f_is_whole_within fd_is_whole_within ["thing", "least", "most"] spWithin) (T : Bt mg k0 k1 k2) : FnOk P w K mg base CX0 2 f_is_cents fd_is_cents ["thing"] (spOne (withinD 0 1000000000000000000)) := by
  refine D_is_cents.F.ok sc_is_cents (fun vs H Q E h => ?_) (fun cdv A outer s H vs Q E hr h => ?_)
  · obtain ⟨z, v, d, rfl, _⟩ := h
    rfl
  obtain ⟨z, v, d, rfl, hn, al, hd, q⟩ := h
  refine ⟨_, (pss_one (ps_ret (pe_call G_is_whole_within (hr.mono (by omega)) (by rfl) D_is_whole_within.g D_is_whole_within.F.kp D_is_whole_within.b .nil pass0 (pa_cons (pv 0) (pa_cons pe_int (pa_cons (pe_glob (v := .int (1000000000000000000)) (by rfl) T.c_MOST_CENTS ⟨_, rfl⟩) pa_nil)))))), ?_⟩
  exact ⟨v, rfl, z, v, d, 0, 1000000000000000000, rfl, al, hd, fun H1 e => q H1 e⟩
def chr1 (c : Nat) : Bool := decide (97 ≤ c) && decide (c ≤ 122)
def isNameS (x : Str) : Bool := (decide (1 ≤ x.length) && decide (x.length ≤ 8)) && x.cps.toList.all chr1
def isNameD : PyData → Bool
  | .str x => isNameS x
  | _ => false
def leS : R2 := fun x y H Q => ∃ i j, x = .str i ∧ y = .str j ∧ Q (.bl (!decide (j.cps.toList < i.cps.toList))) H
theorem sing_lt (a b : Nat) : decide ([a] < [b]) = decide (a < b) := by
  by_cases h : a < b
  · rw [decide_eq_true h]
    exact decide_eq_true (List.Lex.rel h)
  · rw [decide_eq_false h]
    refine decide_eq_false fun q => ?_
    cases q with
    | rel r => exact h r
    | cons r => cases r
theorem yb_between {z : Fz} {σ : L2.St} {H : Hp} {i c : Nat} (h : σ[i]? = some (some (.str ⟨#[c]⟩))) : YB z (tChain leS leS (tC (.str "a")) (tVar i) (tC (.str "z"))) σ H (· = chr1 c) := fun H1 e a Q q => by
  refine ⟨_, h, "a", ⟨#[c]⟩, rfl, rfl, _, rfl, ?_⟩
  have e1 : (!decide ((⟨#[c]⟩ : Str).cps.toList < (Str.ofString "a").cps.toList)) = decide (97 ≤ c) := by
    show (!decide ([c] < [97])) = _
    rw [sing_lt]
    by_cases h : c < 97
    · rw [decide_eq_true h, decide_eq_false (by omega)]; rfl
    · rw [decide_eq_false h, decide_eq_true (by omega)]; rfl
  have e2 : (!decide ((Str.ofString "z").cps.toList < (⟨#[c]⟩ : Str).cps.toList)) = decide (c ≤ 122) := by
    show (!decide ([122] < [c])) = _
    rw [sing_lt]
    by_cases h : 122 < c
    · rw [decide_eq_true h, decide_eq_false (by omega)]; rfl
    · rw [decide_eq_false h, decide_eq_true (by omega)]; rfl
  rw [e1]
  by_cases h1 : 97 ≤ c
  · rw [if_pos (decide_eq_true h1)]
    refine ⟨⟨#[c]⟩, "z", rfl, rfl, ?_⟩
    rw [e2]
    exact q _ H1 (.refl _ H1) (by unfold chr1; rw [decide_eq_true h1]; rfl)
  · rw [if_neg (by rw [decide_eq_false h1]; exact Bool.false_ne_true)]
    exact q _ H1 (.refl _ H1) (by unfold chr1; rw [decide_eq_false h1]; rfl)
abbrev s_is_name : Stmt := topS 6
abbrev N_is_name : List Str := ["thing", "letter"]
theorem sc_is_name : FnScope N_is_name ["thing"] (defScope s_is_name) := ⟨rfl, rfl, rfl, by decide +kernel, rfl, by decide +kernel, by decide +kernel⟩
theorem ok_is_name {f_is_name : Addr} {fd_is_name : FuncData} (D_is_name : Df K mg "is_name" s_is_name ["thing"] f_is_name fd_is_name) (T : Bt mg k0 k1 k2) : FnOk P w K mg base CX0 1 f_is_name fd_is_name ["thing"] (spOne isNameD) := by
  refine D_is_name.F.ok sc_is_name (fun vs H Q E h => ?_) (fun cdv A outer s H vs Q E hr h => ?_)
  · obtain ⟨z, v, d, rfl, _⟩ := h
    rfl
  obtain ⟨z, v, d, rfl, hn, al, hd, q⟩ := h
  have hz : z.n ≤ sizeLine := Nat.le_trans hn (by decide)
  refine ⟨_, (pss_cons (ps_if (PW.pt (pw_or (pt_not (pt_val (pe_callB call_isi (by rfl) T.b_isinstance (by decide +kernel) (pa_cons (pv 0) (pa_cons (pe_bltn (v := .ty "str") (by rfl) T.b_str (by decide +kernel) rfl) pa_nil))))) (pw_or1 (pt_not (pt_chain op_le op_le pe_int (pe_callB call_len_str (by rfl) T.b_len (by decide +kernel) (pa_cons (pv 0) pa_nil)) (pe_glob (v := .int (8)) (by rfl) T.c_MOST_LETTERS ⟨_, rfl⟩))))))
  (pss_one (ps_ret pe_bl))
  pss_nil)
  (pss_one (ps_ret (pe_callB (cr_all rfl) (by rfl) T.b_all (by decide +kernel) (pa_cons (pe_lc (own := [("letter", 1)]) (g := gName 1) (by rfl) sc_is_name.nd (pi_str (pv 0)) (blkOk_by (own := [("letter", 1)]) (N := N_is_name) (sc := defScope s_is_name) (by decide +kernel)) (fun _ _ _ _ _ => pg_name (i := 1) sc_is_name.nd rfl (Or.inl rfl)) (fun _ _ _ _ _ => pts_nil) (fun _ _ _ _ _ => (pe_chain op_le_str op_le_str pe_str (pv 1) pe_str))) pa_nil))))), ?_⟩
  by_cases hs : isS d = true
  · obtain ⟨x, rfl⟩ : ∃ x, d = .str x := by cases d <;> first | exact ⟨_, rfl⟩ | cases hs
    refine y_when (b := !(decide ((1 : Int) ≤ x.length) && decide ((x.length : Int) ≤ 8))) al ?_ (fun e H1 e1 => ?_) fun e H1 e1 => ?_
    · have h0 : YT z _ _ H (· = !true) := yt_not (b := true) (t := tB _) (yt_val (by have := yb_isi (K := K) okT_str (yl_var (i := 0) (σ := start N_is_name [v]) rfl hd); rw [isi_str] at this; exact this))
      exact (yt_or h0 fun _ => yt_not (yt_test (yb_chain yi_c (yi_lenS (yl_var rfl hd) hz) yi_c)))
    · have e0 : isNameD (.str x) = false := by
        show isNameS x = false
        unfold isNameS
        simp only [Bool.not_eq_true', Bool.and_eq_false_iff, decide_eq_false_iff_not] at e ⊢
        exact .inl (by omega)
      have g := q H1 e1
      rw [e0] at g
      exact g
    · dsimp only
      refine y_retB (P := (· = (x.cps.toList.map chr1).all id)) (al.up e1) (yb_all ?_) fun b H2 e2 hb => ?_
      · refine Yl.imp (yl_lcS (fun i d => ∃ c, x.cps[i]? = some c ∧ d = .bool (chr1 c)) (yl_var rfl (hd.mono e1)) hz (fun _ => rfl) fun i c L H0 H1 _ _ _ hc => Yl.imp (YB.l (yb_between rfl)) fun d ⟨b, h1, h2⟩ => ⟨c, hc, by rw [h1, h2]⟩) fun d ⟨es, h1, h2, h3⟩ => ?_
        rw [h1, List.map_map]
        refine congrArg PyData.list (map_of (by rw [h2, Array.length_toList]) fun j e he d hd => ?_)
        obtain ⟨c, g1, g2⟩ := h3 j e he
        rw [Array.getElem?_toList, g1] at hd
        cases hd
        exact g2
      · have e0 : b = isNameD (.str x) := by
          rw [hb]
          show _ = isNameS x
          unfold isNameS
          simp only [Bool.not_eq_false', Bool.and_eq_true, decide_eq_true_eq] at e
          rw [decide_eq_true (show 1 ≤ x.length by omega), decide_eq_true (show x.length ≤ 8 by omega), List.all_map]
          rfl
        rw [e0]
        exact q H2 (e1.trans e2)
  · have hs : isS d = false := by simpa using hs
    refine y_if (b := true) al ?_ (fun e H1 e1 => ?_) fun e H1 e1 => by cases e
    · have h0 : YT z _ _ H (· = !false) := yt_not (b := false) (t := tB _) (yt_val (by have := yb_isi (K := K) okT_str (yl_var (i := 0) (σ := start N_is_name [v]) rfl hd); rw [isi_str, hs] at this; exact this))
      exact yt_or (c := false) h0 fun q => by cases q
    · have e0 : isNameD d = false := by cases d <;> first | rfl | cases hs
      have g := q H1 e1
      rw [e0] at g
      exact g
def isPairD : PyData → Bool
  | .tuple [_, _] => true
  | _ => false
abbrev s_is_pair : Stmt := topS 7
abbrev N_is_pair : List Str := ["thing"]
theorem sc_is_pair : FnScope N_is_pair ["thing"] (defScope s_is_pair) := ⟨rfl, rfl, rfl, by decide +kernel, rfl, by decide +kernel, by decide +kernel⟩
theorem ok_is_pair {f_is_pair : Addr} {fd_is_pair : FuncData} (D_is_pair : Df K mg "is_pair" s_is_pair ["thing"] f_is_pair fd_is_pair) (T : Bt mg k0 k1 k2) : FnOk P w K mg base CX0 1 f_is_pair fd_is_pair ["thing"] (spOne isPairD) := by
  refine D_is_pair.F.ok sc_is_pair (fun vs H Q E h => ?_) (fun cdv A outer s H vs Q E hr h => ?_)
  · obtain ⟨z, v, d, rfl, _⟩ := h
    rfl
  obtain ⟨z, v, d, rfl, hn, al, hd, q⟩ := h
  refine ⟨_, (pss_one (ps_ret (pe_and (pe_callB call_isi (by rfl) T.b_isinstance (by decide +kernel) (pa_cons (pv 0) (pa_cons (pe_bltn (v := .ty "tuple") (by rfl) T.b_tuple (by decide +kernel) rfl) pa_nil))) (pe_one (pe_cmpR op_eq (pe_callB call_len_seq (by rfl) T.b_len (by decide +kernel) (pa_cons (pv 0) pa_nil)) pe_int (nomark _)))))), ?_⟩
  refine y_retB (P := (· = (isiD "tuple" d && decide (lenD d = 2)))) al ?_ fun b H1 e hb => ?_
  · refine yb_and (yb_isi okT_tuple (yl_var rfl hd)) fun e1 => ?_
    rw [isi_tuple] at e1
    obtain ⟨ds, rfl⟩ : ∃ ds, d = .tuple ds := by cases d <;> first | exact ⟨_, rfl⟩ | cases e1
    refine (yb_eqI (yi_lenT (yl_var rfl hd)) yi_c).imp fun b e => ?_
    rw [e]
    show decide ((ds.length : Int) = 2) = decide (ds.length = 2)
    by_cases h : ds.length = 2
    · rw [decide_eq_true h, decide_eq_true (by omega)]
    · rw [decide_eq_false h, decide_eq_false (by omega)]
  · have e0 : b = isPairD d := by
      rw [hb, isi_tuple]
      cases d with
      | tuple ds =>
        match ds with
        | [] => rfl
        | [_] => rfl
        | [_, _] => rfl
        | _ :: _ :: _ :: _ => rfl
      | _ => rfl
    rw [e0]
    exact q H1 e
def strsOf : List PyData → List Str
  | [] => []
  | .str x :: r => x :: strsOf r
  | _ :: r => strsOf r
theorem strsOf_map : ∀ {ds : List PyData}, ds.all isNameD = true → ds = (strsOf ds).map PyData.str
  | [], _ => rfl
  | .str x :: r, h => by
    rw [List.all_cons, Bool.and_eq_true] at h
    show _ = PyData.str x :: (strsOf r).map PyData.str
    rw [← strsOf_map h.2]
  | .none :: r, h => by simp [isNameD] at h
  | .bool _ :: r, h => by simp [isNameD] at h
  | .int _ :: r, h => by simp [isNameD] at h
  | .list _ :: r, h => by simp [isNameD] at h
  | .tuple _ :: r, h => by simp [isNameD] at h
  | .dict _ :: r, h => by simp [isNameD] at h
/-- len(set(names)) == len(names) -/
def uniqD (ds : List PyData) : Bool := decide (cntN (strsOf ds) (strsOf ds).length = ds.length)
def isFolkD : PyData → Bool
  | .tuple ds => decide (ds.length ≤ 40) && (ds.all isNameD && uniqD ds)
  | _ => false
theorem yb_uniq {z : Fz} {ta tb : TE} {σ : L2.St} {H : Hp} {K : PySem.W.Frag} {ds : List PyData} (h : Yl z ta σ H (· = .tuple ds)) (hb : Yl z tb σ H (· = .tuple ds)) (hl : ds.length ≤ 40) (ha : ds.all isNameD = true) :
    YB z (tOp rEq (tLenSetS K ta) (tCB (fun xs H Q => ∃ p ys, xs = [.ref p] ∧ (SqL K H p ys ∨ SqT K H p ys) ∧ Q (.int (ys.length : Int)) H) (tCons tb tNil))) σ H (· = uniqD ds) := by
  have hm := strsOf_map ha
  have h1 : YI z (tLenSetS K ta) σ H (· = (cntN (strsOf ds) (strsOf ds).length : Nat)) := fun H1 e a Q q => h H1 e a _ fun v d H2 e2 hd hr => by
    subst hr
    cases hd with
    | tup d1 d2 d3 d4 =>
      rw [hm] at d4
      obtain ⟨g1, _⟩ := d4.strs_eq
      rw [g1] at d2
      refine ⟨_, strsOf ds, rfl, .inl (.inl d2), ?_, q _ H2 e2 rfl⟩
      have : ds.length = (strsOf ds).length := by
        have := congrArg List.length hm
        rw [List.length_map] at this
        exact this
      omega
  refine (yb_eqI h1 (yi_lenT hb)).imp fun b e => ?_
  rw [e]
  unfold uniqD
  by_cases h : cntN (strsOf ds) (strsOf ds).length = ds.length
  · rw [decide_eq_true h, decide_eq_true (by omega)]
  · rw [decide_eq_false h, decide_eq_false (by omega)]
abbrev s_is_folk : Stmt := topS 9
abbrev N_is_folk : List Str := ["thing", "part"]
theorem sc_is_folk : FnScope N_is_folk ["thing"] (defScope s_is_folk) := ⟨rfl, rfl, rfl, by decide +kernel, rfl, by decide +kernel, by decide +kernel⟩
theorem ok_is_folk {f_is_folk : Addr} {fd_is_folk : FuncData} (D_is_folk : Df K mg "is_folk" s_is_folk ["thing"] f_is_folk fd_is_folk) {f_is_name : Addr} {fd_is_name : FuncData} (D_is_name : Df K mg "is_name" s_is_name ["thing"] f_is_name fd_is_name) (G_is_name : FnOk P w K mg base CX0 1 f_is_name fd_is_name ["thing"] (spOne isNameD)) (T : Bt mg k0 k1 k2) : FnOk P w K mg base CX0 2 f_is_folk fd_is_folk ["thing"] (spOne isFolkD) := by
  refine D_is_folk.F.ok sc_is_folk (fun vs H Q E h => ?_) (fun cdv A outer s H vs Q E hr h => ?_)
  · obtain ⟨z, v, d, rfl, _⟩ := h
    rfl
  obtain ⟨z, v, d, rfl, hn, al, hd, q⟩ := h
  have hz : z.n ≤ sizeLine := Nat.le_trans hn (by decide)
  refine ⟨_, (pss_cons (ps_if (PW.pt (pw_or (pt_not (pt_val (pe_callB call_isi (by rfl) T.b_isinstance (by decide +kernel) (pa_cons (pv 0) (pa_cons (pe_bltn (v := .ty "tuple") (by rfl) T.b_tuple (by decide +kernel) rfl) pa_nil))))) (pw_or1 (pt_cmpR op_gt (pe_callB call_len_seq (by rfl) T.b_len (by decide +kernel) (pa_cons (pv 0) pa_nil)) (pe_glob (v := .int (40)) (by rfl) T.c_MOST_FOLK ⟨_, rfl⟩) (nomark _)))))
  (pss_one (ps_ret pe_bl))
  pss_nil)
  (pss_one (ps_ret (pe_and (pe_callB (cr_all rfl) (by rfl) T.b_all (by decide +kernel) (pa_cons (pe_lc (own := [("part", 1)]) (g := gName 1) (by rfl) sc_is_folk.nd (pi_tup (pv 0)) (blkOk_by (own := [("part", 1)]) (N := N_is_folk) (sc := defScope s_is_folk) (by decide +kernel)) (fun _ _ _ _ _ => pg_name (i := 1) sc_is_folk.nd rfl (Or.inl rfl)) (fun _ _ _ _ _ => pts_nil) (fun _ _ _ _ _ => (pe_call G_is_name (hr.mono (by omega)) (by rfl) D_is_name.g D_is_name.F.kp D_is_name.b .nil pass0 (pa_cons (pv 1) pa_nil)))) pa_nil)) (pe_one (pe_cmpR op_eq (pe_lenSetS rfl (by rfl) T.b_len (by rfl) T.b_set (pv 0)) (pe_callB call_len_seq (by rfl) T.b_len (by decide +kernel) (pa_cons (pv 0) pa_nil)) (nomark _))))))), ?_⟩
  have hi := yb_isi (K := K) okT_tuple (yl_var (i := 0) (σ := start N_is_folk [v]) rfl hd)
  rw [isi_tuple] at hi
  by_cases ht : isT d = true
  · obtain ⟨ds, rfl⟩ : ∃ ds, d = .tuple ds := by cases d <;> first | exact ⟨_, rfl⟩ | cases ht
    refine y_when (b := decide ((40 : Int) < ds.length)) al ?_ (fun e H1 e1 => ?_) fun e H1 e1 => ?_
    · exact yt_or (yt_not (b := true) (yt_val (by rw [ht] at hi; exact hi))) fun _ => yt_test (yb_c1 (yi_lenT (yl_var rfl hd)) yi_c)
    · have e0 : isFolkD (.tuple ds) = false := by
        have : ¬ ds.length ≤ 40 := by have := of_decide_eq_true e; omega
        show (decide (ds.length ≤ 40) && _) = false
        rw [decide_eq_false this]; rfl
      have g := q H1 e1
      rw [e0] at g
      exact g
    · have hl : ds.length ≤ 40 := by have := of_decide_eq_false e; omega
      have hd1 := hd.mono e1
      have hn1 : ds.length ≤ z.n := by cases hd with | tup _ _ c t => rw [← t.length]; exact c
      dsimp only
      refine y_retB (P := (· = (ds.all isNameD && uniqD ds))) (al.up e1) (yb_and ?_ ?_) fun b H2 e2 hb => ?_
      rotate_left
      · exact fun ea => yb_uniq (yl_var rfl hd1) (yl_var rfl hd1) hl ea
      rotate_left
      · have h3 : ds.all isNameD = (ds.map isNameD).all id := by rw [List.all_map]; rfl
        rw [h3]
        refine yb_all (Yl.imp (yl_lcT (fun i d => ∃ c, ds[i]? = some c ∧ d = .bool (isNameD c)) (yl_var rfl hd1) hn1 hz (fun _ => rfl) fun i x d L H0 H1 _ _ _ hc hx => Yl.imp (YB.l (yb_one (yl_var rfl hx) hn)) fun e ⟨b, h1, h2⟩ => ⟨d, hc, by rw [h1, h2]⟩) fun d ⟨es, h1, h2, h3⟩ => ?_)
        rw [h1, List.map_map]
        refine congrArg PyData.list (map_of h2 fun j e he d hd => ?_)
        obtain ⟨c, g1, g2⟩ := h3 j e he
        rw [g1] at hd
        cases hd
        exact g2
      · have e0 : b = isFolkD (.tuple ds) := by
          rw [hb]
          show _ = (decide (ds.length ≤ 40) && _)
          rw [decide_eq_true hl]; rfl
        rw [e0]
        exact q H2 (e1.trans e2)
  · have ht : isT d = false := by simpa using ht
    rw [ht] at hi
    refine y_when (b := true) al ?_ (fun e H1 e1 => ?_) fun e H1 e1 => by cases e
    · exact yt_or (c := false) (yt_not (b := false) (yt_val hi)) fun q => by cases q
    have e0 : isFolkD d = false := by cases d <;> first | rfl | cases ht
    have g := q H1 e1
    rw [e0] at g
    exact g
end
end Pb
namespace Pb
open PySem L2
theorem y_unpack2 {z : Fz} {σ : L2.St} {H : Hp} {K : PySem.W.Frag} {D : Ends} {i j l : Nat} {v : V} {d1 d2 : PyData} (h : σ[i]? = some (some v)) (hd : Dt z H v (.tuple [d1, d2])) (k : ∀ v1 v2, Dt z H v1 d1 → Dt z H v2 d2 → D.nx ((σ.set j (some v1)).set l (some v2)) H) :
    tAsg (tVar i) (gTup K 2 (gCons (gName j) (gCons (gName l) gNil))) D σ H := by
  cases hd with
  | tup a b c t =>
    cases t with
    | cons t1 t2 =>
      cases t2 with
      | cons t2 t3 =>
        cases t3
        exact ⟨_, h, _, _, rfl, .inl (.inl b), rfl, _, _, rfl, _, _, rfl, rfl, k _ _ t1 t2⟩
def isStateD : PyData → Bool
  | .tuple [.int i, .tuple fs] => ((decide (0 ≤ i) && decide (i ≤ 1000000000000000000)) && isFolkD (.tuple fs)) && (decide (i = 0) || decide (0 < fs.length))
  | _ => false
section
variable {P : Program} {w : World} {K : PySem.W.Frag} {mg : Str → Option Value} {base : Heap} {k0 k1 k2 : Tok}
abbrev s_is_state : Stmt := topS 10
abbrev N_is_state : List Str := ["thing", "bills", "folk"]
theorem sc_is_state : FnScope N_is_state ["thing"] (defScope s_is_state) := ⟨rfl, rfl, rfl, by decide +kernel, rfl, by decide +kernel, by decide +kernel⟩
theorem ok_is_state {f_is_state : Addr} {fd_is_state : FuncData} (D_is_state : Df K mg "is_state" s_is_state ["thing"] f_is_state fd_is_state) {f_is_pair : Addr} {fd_is_pair : FuncData} (D_is_pair : Df K mg "is_pair" s_is_pair ["thing"] f_is_pair fd_is_pair) {f_is_cents : Addr} {fd_is_cents : FuncData} (D_is_cents : Df K mg "is_cents" s_is_cents ["thing"] f_is_cents fd_is_cents) {f_is_folk : Addr} {fd_is_folk : FuncData} (D_is_folk : Df K mg "is_folk" s_is_folk ["thing"] f_is_folk fd_is_folk) (G_is_pair : FnOk P w K mg base CX0 1 f_is_pair fd_is_pair ["thing"] (spOne isPairD)) (G_is_cents : FnOk P w K mg base CX0 2 f_is_cents fd_is_cents ["thing"] (spOne (withinD 0 1000000000000000000))) (G_is_folk : FnOk P w K mg base CX0 2 f_is_folk fd_is_folk ["thing"] (spOne isFolkD)) (T : Bt mg k0 k1 k2) : FnOk P w K mg base CX0 3 f_is_state fd_is_state ["thing"] (spOne isStateD) := by
  refine D_is_state.F.ok sc_is_state (fun vs H Q E h => ?_) (fun cdv A outer s H vs Q E hr h => ?_)
  · obtain ⟨z, v, d, rfl, _⟩ := h
    rfl
  obtain ⟨z, v, d, rfl, hn, al, hd, q⟩ := h
  refine ⟨_, (pss_cons (ps_if (pt_not (pt_val (pe_call G_is_pair (hr.mono (by omega)) (by rfl) D_is_pair.g D_is_pair.F.kp D_is_pair.b .nil pass0 (pa_cons (pv 0) pa_nil))))
  (pss_one (ps_ret pe_bl))
  pss_nil)
  (pss_cons (ps_asg (pv 0) (pg_tup (by rfl) (pgs_cons (pg_name (i := 1) sc_is_state.nd rfl (Or.inl rfl)) (pgs_cons (pg_name (i := 2) sc_is_state.nd rfl (Or.inl rfl)) pgs_nil))))
  (pss_cons (ps_if (PW.pt (pw_or (pt_not (pt_val (pe_call G_is_cents (hr.mono (by omega)) (by rfl) D_is_cents.g D_is_cents.F.kp D_is_cents.b .nil pass0 (pa_cons (pv 1) pa_nil)))) (pw_or1 (pt_not (pt_val (pe_call G_is_folk (hr.mono (by omega)) (by rfl) D_is_folk.g D_is_folk.F.kp D_is_folk.b .nil pass0 (pa_cons (pv 2) pa_nil)))))))
  (pss_one (ps_ret pe_bl))
  pss_nil)
  (pss_one (ps_ret (pe_or (pe_cmpR op_eq (pv 1) pe_int (nomark _)) (pe_one (pe_cmpR op_gt (pe_callB call_len_seq (by rfl) T.b_len (by decide +kernel) (pa_cons (pv 2) pa_nil)) pe_int (nomark _))))))))), ?_⟩
  refine y_when (b := !isPairD d) al (yt_not (yt_val (yb_one (yl_var rfl hd) hn))) (fun e H1 e1 => ?_) fun e H1 e1 => ?_
  · have e0 : isStateD d = false := by
      simp only [Bool.not_eq_true'] at e
      unfold isStateD
      split
      · cases e
      · rfl
    have g := q H1 e1
    rw [e0] at g
    exact g
  · obtain ⟨db, df, rfl⟩ : ∃ a b, d = .tuple [a, b] := by
      simp only [Bool.not_eq_false'] at e
      unfold isPairD at e
      split at e
      · exact ⟨_, _, rfl⟩
      · cases e
    refine y_unpack2 rfl (hd.mono e1) fun v1 v2 h1 h2 => ?_
    have a1 := al.up e1
    refine y_when (b := (!withinD 0 1000000000000000000 db || !isFolkD df)) a1 (yt_or (yt_not (yt_val (yb_one (yl_var rfl h1) hn))) fun _ => yt_not (yt_val (yb_one (yl_var rfl h2) hn))) (fun e H2 e2 => ?_) fun e H2 e2 => ?_
    · have e0 : isStateD (.tuple [db, df]) = false := by
        unfold isStateD
        split
        · rename_i i fs heq
          cases heq
          simp only [withinD, Bool.or_eq_true, Bool.not_eq_true'] at e
          rcases e with e | e
          · rw [e]; rfl
          · rw [e, Bool.and_false]; rfl
        · rfl
      have g := q H2 (e1.trans e2)
      rw [e0] at g
      exact g
    · simp only [Bool.or_eq_false_iff, Bool.not_eq_false'] at e
      obtain ⟨i, rfl⟩ : ∃ i, db = .int i := by
        cases db <;> first | exact ⟨_, rfl⟩ | cases e.1
      obtain ⟨fs, rfl⟩ : ∃ fs, df = .tuple fs := by
        cases df <;> first | exact ⟨_, rfl⟩ | cases e.2
      cases h1
      dsimp only
      refine y_retB (P := (· = (decide (i = 0) || decide ((0 : Int) < fs.length)))) (a1.up e2) (yb_or (yb_eqI (yi_var rfl) yi_c) ?_) fun b H3 e3 hb => ?_
      · exact fun _ => yb_c1 (yi_lenT (yl_var rfl (h2.mono e2))) yi_c
      · have e0 : b = isStateD (.tuple [.int i, .tuple fs]) := by
          rw [hb]
          show _ = (((decide (0 ≤ i) && decide (i ≤ 1000000000000000000)) && isFolkD (.tuple fs)) && _)
          have e3 : (decide (0 ≤ i) && decide (i ≤ 1000000000000000000)) = true := e.1
          rw [e3, e.2]
          have e4 : decide ((0 : Int) < fs.length) = decide (0 < fs.length) := by
            by_cases h : 0 < fs.length
            · rw [decide_eq_true h, decide_eq_true (by omega)]
            · rw [decide_eq_false h, decide_eq_false (by omega)]
          rw [e4]
          rfl
        rw [e0]
        exact q H3 ((e1.trans e2).trans e3)
abbrev s__law_from : Stmt := topS 15
abbrev N__law_from : List Str := ["thing", "least", "top"]
theorem sc__law_from : FnScope N__law_from ["thing", "least", "top"] (defScope s__law_from) := ⟨rfl, rfl, rfl, by decide +kernel, rfl, by decide +kernel, by decide +kernel⟩
theorem ok__law_from {f__law_from : Addr} {fd__law_from : FuncData} (D__law_from : Df K mg "_law_from" s__law_from ["thing", "least", "top"] f__law_from fd__law_from) (T : Bt mg k0 k1 k2) : FnOk P w K mg base CX0 1 f__law_from fd__law_from ["thing", "least", "top"] spWithin := by
  refine D__law_from.F.ok sc__law_from (fun vs H Q E h => ?_) (fun cdv A outer s H vs Q E hr h => ?_)
  · obtain ⟨z, v, d, l, m, rfl, _⟩ := h
    rfl
  obtain ⟨z, v, d, l, m, rfl, al, hd, q⟩ := h
  refine ⟨_, (pss_one (ps_ret (pe_and (pe_callB call_isi (by rfl) T.b_isinstance (by decide +kernel) (pa_cons (pv 0) (pa_cons (pe_bltn (v := .ty "int") (by rfl) T.b_int (by decide +kernel) rfl) pa_nil))) (pe_and (pe_not (pe_callB call_isi (by rfl) T.b_isinstance (by decide +kernel) (pa_cons (pv 0) (pa_cons (pe_bltn (v := .ty "bool") (by rfl) T.b_bool (by decide +kernel) rfl) pa_nil)))) (pe_and (pe_cmpR op_le (pv 1) (pv 0) (nomark _)) (pe_one (pe_cmpR op_le (pv 0) (pv 2) (nomark _)))))))), ?_⟩
  refine y_retB (P := (· = (isiD "int" d && (!isiD "bool" d && withinD l m d)))) al ?_ fun b H1 e hb => ?_
  · refine yb_and (yb_isi okT_int (yl_var rfl hd)) fun e1 => yb_and (yb_not (yb_isi okT_bool (yl_var rfl hd))) fun e2 => ?_
    rw [isi_int] at e1
    rw [isi_bool] at e2
    cases hd with
    | int i => exact yb_and (yb_c1 (yi_var rfl) (yi_var rfl)) fun _ => yb_c1 (yi_var rfl) (yi_var rfl)
    | bl b => cases e2
    | non => cases e1
    | str _ _ => cases e1
    | lst _ _ _ _ => cases e1
    | tup _ _ _ _ => cases e1
  · have : b = withinD l m d := by
      rw [hb, isi_int, isi_bool]
      cases d <;> simp [isI, isB, withinD]
    rw [this]
    exact q H1 e
theorem yb_within {z : Fz} {ta tl tm : TE} {σ : L2.St} {H : Hp} {d : PyData} {l m : Int} {E : XK} (h : Yl z ta σ H (· = d)) (hl : YI z tl σ H (· = l)) (hm : YI z tm σ H (· = m)) : YB z (tCall spWithin [] E (tCons ta (tCons tl (tCons tm tNil)))) σ H (· = withinD l m d) := fun H1 e a Q q =>
  h H1 e a _ fun v d' H2 e2 hd hr => hl H2 (e.trans e2) (a.up e2) _ fun l' H3 e3 hl' => hm H3 ((e.trans e2).trans e3) ((a.up e2).up e3) _ fun m' H4 e4 hm' => by
    subst hr hl' hm'
    exact ⟨z, v, _, _, _, rfl, ((a.up e2).up e3).up e4, (hd.mono e3).mono e4, fun H5 e5 => q _ H5 (((e2.trans e3).trans e4).trans e5) rfl⟩
def inS : R2 := fun x y H Q => ∃ (c : Nat) (z : Str), x = .str ⟨#[c]⟩ ∧ y = .str z ∧ Q (.bl (decide (c ∈ z.cps.toList))) H
theorem abc_mem (c : Nat) : decide (c ∈ (Str.ofString "abcdefghijklmnopqrstuvwxyz").cps.toList) = chr1 c := by
  have h : (Str.ofString "abcdefghijklmnopqrstuvwxyz").cps.toList = (List.range 26).map (· + 97) := by decide +kernel
  rw [h]
  unfold chr1
  by_cases h1 : 97 ≤ c ∧ c ≤ 122
  · rw [decide_eq_true h1.1, decide_eq_true h1.2]
    refine decide_eq_true (List.mem_map.mpr ⟨c - 97, List.mem_range.mpr (by omega), by omega⟩)
  · have : (decide (97 ≤ c) && decide (c ≤ 122)) = false := by
      simp only [Bool.and_eq_false_iff, decide_eq_false_iff_not]
      omega
    rw [this]
    refine decide_eq_false fun q => ?_
    obtain ⟨x, hx, e⟩ := List.mem_map.mp q
    have := List.mem_range.mp hx
    omega
theorem yb_abc {z : Fz} {σ : L2.St} {H : Hp} {i c : Nat} (h : σ[i]? = some (some (.str ⟨#[c]⟩))) : YB z (tOp inS (tVar i) (tC (.str "abcdefghijklmnopqrstuvwxyz"))) σ H (· = chr1 c) := fun H1 e a Q q => by
  refine ⟨_, h, c, "abcdefghijklmnopqrstuvwxyz", rfl, rfl, ?_⟩
  rw [abc_mem]
  exact q _ H1 (.refl _ H1) rfl
abbrev s__law_is_name : Stmt := topS 20
abbrev N__law_is_name : List Str := ["thing", "mark"]
theorem sc__law_is_name : FnScope N__law_is_name ["thing"] (defScope s__law_is_name) := ⟨rfl, rfl, rfl, by decide +kernel, rfl, by decide +kernel, by decide +kernel⟩
theorem ok__law_is_name {f__law_is_name : Addr} {fd__law_is_name : FuncData} (D__law_is_name : Df K mg "_law_is_name" s__law_is_name ["thing"] f__law_is_name fd__law_is_name) (T : Bt mg k0 k1 k2) : FnOk P w K mg base CX0 1 f__law_is_name fd__law_is_name ["thing"] (spOne isNameD) := by
  refine D__law_is_name.F.ok sc__law_is_name (fun vs H Q E h => ?_) (fun cdv A outer s H vs Q E hr h => ?_)
  · obtain ⟨z, v, d, rfl, _⟩ := h
    rfl
  obtain ⟨z, v, d, rfl, hn, al, hd, q⟩ := h
  have hz : z.n ≤ sizeLine := Nat.le_trans hn (by decide)
  refine ⟨_, (pss_cons (ps_if (PW.pt (pw_or (pt_not (pt_val (pe_callB call_isi (by rfl) T.b_isinstance (by decide +kernel) (pa_cons (pv 0) (pa_cons (pe_bltn (v := .ty "str") (by rfl) T.b_str (by decide +kernel) rfl) pa_nil))))) (pw_or (pt_cmpR op_lt (pe_callB call_len_str (by rfl) T.b_len (by decide +kernel) (pa_cons (pv 0) pa_nil)) pe_int (nomark _)) (pw_or1 (pt_cmpR op_gt (pe_callB call_len_str (by rfl) T.b_len (by decide +kernel) (pa_cons (pv 0) pa_nil)) pe_int (nomark _))))))
  (pss_one (ps_ret pe_bl))
  pss_nil)
  (pss_one (ps_ret (pe_callB (cr_all rfl) (by rfl) T.b_all (by decide +kernel) (pa_cons (pe_lc (own := [("mark", 1)]) (g := gName 1) (by rfl) sc__law_is_name.nd (pi_str (pv 0)) (blkOk_by (own := [("mark", 1)]) (N := N__law_is_name) (sc := defScope s__law_is_name) (by decide +kernel)) (fun _ _ _ _ _ => pg_name (i := 1) sc__law_is_name.nd rfl (Or.inl rfl)) (fun _ _ _ _ _ => pts_nil) (fun _ _ _ _ _ => (pe_cmpR op_in_sign (pv 1) pe_str (by rfl)))) pa_nil))))), ?_⟩
  have hi := yb_isi (K := K) okT_str (yl_var (i := 0) (σ := start N__law_is_name [v]) rfl hd)
  rw [isi_str] at hi
  by_cases hs : isS d = true
  · obtain ⟨x, rfl⟩ : ∃ x, d = .str x := by cases d <;> first | exact ⟨_, rfl⟩ | cases hs
    refine y_when (b := (!true || (decide ((x.length : Int) < 1) || decide ((8 : Int) < x.length)))) al ?_ (fun e H1 e1 => ?_) fun e H1 e1 => ?_
    · exact yt_or (yt_not (b := true) (yt_val hi)) fun _ => yt_or (yt_test (yb_c1 (yi_lenS (yl_var rfl hd) hz) yi_c)) fun _ => yt_test (yb_c1 (yi_lenS (yl_var rfl hd) hz) yi_c)
    · have e0 : isNameD (.str x) = false := by
        show isNameS x = false
        unfold isNameS
        simp only [Bool.not_true, Bool.false_or, Bool.or_eq_true, decide_eq_true_eq] at e
        simp only [Bool.and_eq_false_iff, decide_eq_false_iff_not]
        exact .inl (by omega)
      have g := q H1 e1
      rw [e0] at g
      exact g
    · dsimp only
      refine y_retB (P := (· = (x.cps.toList.map chr1).all id)) (al.up e1) (yb_all ?_) fun b H2 e2 hb => ?_
      · refine Yl.imp (yl_lcS (fun i d => ∃ c, x.cps[i]? = some c ∧ d = .bool (chr1 c)) (yl_var rfl (hd.mono e1)) hz (fun _ => rfl) fun i c L H0 H1 _ _ _ hc => Yl.imp (YB.l (yb_abc rfl)) fun d ⟨b, h1, h2⟩ => ⟨c, hc, by rw [h1, h2]⟩) fun d ⟨es, h1, h2, h3⟩ => ?_
        rw [h1, List.map_map]
        refine congrArg PyData.list (map_of (by rw [h2, Array.length_toList]) fun j e he d hd => ?_)
        obtain ⟨c, g1, g2⟩ := h3 j e he
        rw [Array.getElem?_toList, g1] at hd
        cases hd
        exact g2
      · have e0 : b = isNameD (.str x) := by
          rw [hb]
          show _ = isNameS x
          unfold isNameS
          simp only [Bool.not_true, Bool.false_or, Bool.or_eq_false_iff, decide_eq_false_iff_not] at e
          rw [decide_eq_true (show 1 ≤ x.length by omega), decide_eq_true (show x.length ≤ 8 by omega), List.all_map]
          rfl
        rw [e0]
        exact q H2 (e1.trans e2)
  · have hs : isS d = false := by simpa using hs
    rw [hs] at hi
    refine y_when (b := true) al ?_ (fun e H1 e1 => ?_) fun e H1 e1 => by cases e
    · exact yt_or (c := false) (yt_not (b := false) (yt_val hi)) fun q => by cases q
    · have e0 : isNameD d = false := by cases d <;> first | rfl | cases hs
      have g := q H1 e1
      rw [e0] at g
      exact g
abbrev s__law_is_state : Stmt := topS 25
abbrev N__law_is_state : List Str := ["thing", "name"]
theorem sc__law_is_state : FnScope N__law_is_state ["thing"] (defScope s__law_is_state) := ⟨rfl, rfl, rfl, by decide +kernel, rfl, by decide +kernel, by decide +kernel⟩
theorem ok__law_is_state {f__law_is_state : Addr} {fd__law_is_state : FuncData} (D__law_is_state : Df K mg "_law_is_state" s__law_is_state ["thing"] f__law_is_state fd__law_is_state) {f__law_from : Addr} {fd__law_from : FuncData} (D__law_from : Df K mg "_law_from" s__law_from ["thing", "least", "top"] f__law_from fd__law_from) {f__law_is_name : Addr} {fd__law_is_name : FuncData} (D__law_is_name : Df K mg "_law_is_name" s__law_is_name ["thing"] f__law_is_name fd__law_is_name) (G__law_from : FnOk P w K mg base CX0 1 f__law_from fd__law_from ["thing", "least", "top"] spWithin) (G__law_is_name : FnOk P w K mg base CX0 1 f__law_is_name fd__law_is_name ["thing"] (spOne isNameD)) (T : Bt mg k0 k1 k2) : FnOk P w K mg base CX0 2 f__law_is_state fd__law_is_state ["thing"] (spOne isStateD) := by
  refine D__law_is_state.F.ok sc__law_is_state (fun vs H Q E h => ?_) (fun cdv A outer s H vs Q E hr h => ?_)
  · obtain ⟨z, v, d, rfl, _⟩ := h
    rfl
  obtain ⟨z, v, d, rfl, hn, al, hd, q⟩ := h
  have hz : z.n ≤ sizeLine := Nat.le_trans hn (by decide)
  refine ⟨_, (pss_cons (ps_if (PW.pt (pw_or (pt_not (pt_val (pe_callB call_isi (by rfl) T.b_isinstance (by decide +kernel) (pa_cons (pv 0) (pa_cons (pe_bltn (v := .ty "tuple") (by rfl) T.b_tuple (by decide +kernel) rfl) pa_nil))))) (pw_or (pt_cmpR op_ne (pe_callB call_len_seq (by rfl) T.b_len (by decide +kernel) (pa_cons (pv 0) pa_nil)) pe_int (nomark _)) (pw_or1 (pt_not (pt_val (pe_call G__law_from (hr.mono (by omega)) (by rfl) D__law_from.g D__law_from.F.kp D__law_from.b .nil pass0 (pa_cons (pe_ix ix_tup (pv 0) pe_int (fun _ _ => rfl)) (pa_cons pe_int (pa_cons (pe_op op_pow pe_int pe_int) pa_nil))))))))))
  (pss_one (ps_ret pe_bl))
  pss_nil)
  (pss_cons (ps_if (PW.pt (pw_or (pt_not (pt_val (pe_callB call_isi (by rfl) T.b_isinstance (by decide +kernel) (pa_cons (pe_ix ix_tup (pv 0) pe_int (fun _ _ => rfl)) (pa_cons (pe_bltn (v := .ty "tuple") (by rfl) T.b_tuple (by decide +kernel) rfl) pa_nil))))) (pw_or (pt_cmpR op_gt (pe_callB call_len_seq (by rfl) T.b_len (by decide +kernel) (pa_cons (pe_ix ix_tup (pv 0) pe_int (fun _ _ => rfl)) pa_nil)) pe_int (nomark _)) (pw_or1 (pt_not (pt_val (pe_callB (cr_all rfl) (by rfl) T.b_all (by decide +kernel) (pa_cons (pe_lc (own := [("name", 1)]) (g := gName 1) (by rfl) sc__law_is_state.nd (pi_tup (pe_ix ix_tup (pv 0) pe_int (fun _ _ => rfl))) (blkOk_by (own := [("name", 1)]) (N := N__law_is_state) (sc := defScope s__law_is_state) (by decide +kernel)) (fun _ _ _ _ _ => pg_name (i := 1) sc__law_is_state.nd rfl (Or.inl rfl)) (fun _ _ _ _ _ => pts_nil) (fun _ _ _ _ _ => (pe_call G__law_is_name (hr.mono (by omega)) (by rfl) D__law_is_name.g D__law_is_name.F.kp D__law_is_name.b .nil pass0 (pa_cons (pv 1) pa_nil)))) pa_nil))))))))
  (pss_one (ps_ret pe_bl))
  pss_nil)
  (pss_one (ps_ret (pe_and (pe_cmpR op_eq (pe_lenSetS rfl (by rfl) T.b_len (by rfl) T.b_set (pe_ix ix_tup (pv 0) pe_int (fun _ _ => rfl))) (pe_callB call_len_seq (by rfl) T.b_len (by decide +kernel) (pa_cons (pe_ix ix_tup (pv 0) pe_int (fun _ _ => rfl)) pa_nil)) (nomark _)) (pe_one (pe_or (pe_cmpR (op_neD hr.units) (pe_ix ix_tup (pv 0) pe_int (fun _ _ => rfl)) (pe_tup pa_nil) (nomark _)) (pe_one (pe_cmpR op_eq (pe_ix ix_tup (pv 0) pe_int (fun _ _ => rfl)) pe_int (nomark _)))))))))), ?_⟩
  have hi := yb_isi (K := K) okT_tuple (yl_var (i := 0) (σ := start N__law_is_state [v]) rfl hd)
  rw [isi_tuple] at hi
  by_cases ht : isPairD d = true
  · obtain ⟨db, df, rfl⟩ : ∃ a b, d = .tuple [a, b] := by
      unfold isPairD at ht
      split at ht
      · exact ⟨_, _, rfl⟩
      · cases ht
    have hv {H1 : Hp} (e : ExB z.p H H1) : Yl z (tVar 0) (start N__law_is_state [v]) H1 (· = .tuple [db, df]) := yl_var rfl (hd.mono e)
    have h0 {H1 : Hp} (e : ExB z.p H H1) : Yl z (tOp (rIxT K) (tVar 0) (tC (.int 0))) (start N__law_is_state [v]) H1 (· = db) := yl_ixT1 (k := 0) (hv e) rfl
    have h1 {H1 : Hp} (e : ExB z.p H H1) : Yl z (tOp (rIxT K) (tVar 0) (tC (.int 1))) (start N__law_is_state [v]) H1 (· = df) := yl_ixT1 (k := 1) (hv e) rfl
    have e00 := ExB.refl z.p H
    refine y_when (b := (!true || (!decide ((2 : Int) = 2) || !withinD 0 1000000000000000000 db))) al ?_ (fun e H1 e1 => ?_) fun e H1 e1 => ?_
    · exact yt_or (yt_not (yt_val hi)) fun _ => yt_or (yt_test (yb_neI (yi_lenT (hv e00)) yi_c)) fun _ => yt_not (yt_val (yb_within (h0 e00) yi_c (yi_oc yi_c yi_c ⟨by decide, by decide, by decide⟩)))
    · have e0 : isStateD (.tuple [db, df]) = false := by
        simp only [Bool.not_true, Bool.false_or, decide_true, Bool.not_eq_true'] at e
        unfold isStateD
        split
        · rename_i i fs heq
          cases heq
          simp only [withinD] at e
          rw [e]; rfl
        · rfl
      have g := q H1 e1
      rw [e0] at g
      exact g
    · simp only [Bool.not_true, Bool.false_or, decide_true, Bool.not_eq_false'] at e
      obtain ⟨i, rfl⟩ : ∃ i, db = .int i := by
        cases db <;> first | exact ⟨_, rfl⟩ | cases e
      have a1 := al.up e1
      have hj := yb_isi (K := K) okT_tuple (h1 e1)
      rw [isi_tuple] at hj
      by_cases hf : isT df = true
      · obtain ⟨fs, rfl⟩ : ∃ fs, df = .tuple fs := by cases df <;> first | exact ⟨_, rfl⟩ | cases hf
        have hn1 : fs.length ≤ z.n := by cases hd with | tup _ _ _ t => cases t with | cons _ t => cases t with | cons t _ => cases t with | tup _ _ c' t' => rw [← t'.length]; exact c'
        dsimp only
        refine y_when (b := (!true || (decide ((40 : Int) < fs.length) || !(fs.map isNameD).all id))) a1 ?_ (fun e' H2 e2 => ?_) fun e' H2 e2 => ?_
        · refine yt_or (yt_not (yt_val hj)) fun _ => yt_or (yt_test (yb_c1 (yi_lenT (h1 e1)) yi_c)) fun _ => yt_not (yt_val (yb_all ?_))
          refine Yl.imp (yl_lcT (fun i d => ∃ c, fs[i]? = some c ∧ d = .bool (isNameD c)) (h1 e1) hn1 hz (fun _ => rfl) fun i x d L H0 H1 _ _ _ hc hx => Yl.imp (YB.l (yb_one (yl_var rfl hx) hn)) fun e ⟨b, h1, h2⟩ => ⟨d, hc, by rw [h1, h2]⟩) fun d ⟨es, h1, h2, h3⟩ => ?_
          rw [h1, List.map_map]
          refine congrArg PyData.list (map_of h2 fun j e he d hd => ?_)
          obtain ⟨c, g1, g2⟩ := h3 j e he
          rw [g1] at hd
          cases hd
          exact g2
        · have e0 : isStateD (.tuple [.int i, .tuple fs]) = false := by
            simp only [Bool.not_true, Bool.false_or, Bool.or_eq_true, Bool.not_eq_true', decide_eq_true_eq] at e'
            show ((_ && (decide (fs.length ≤ 40) && (fs.all isNameD && uniqD fs))) && _) = false
            rcases e' with e' | e'
            · rw [decide_eq_false (show ¬ fs.length ≤ 40 by omega)]; simp
            · have : fs.all isNameD = false := by rw [← e', List.all_map]; rfl
              rw [this]; simp
          have g := q H2 (e1.trans e2)
          rw [e0] at g
          exact g
        · simp only [Bool.not_true, Bool.false_or, Bool.or_eq_false_iff, Bool.not_eq_false', decide_eq_false_iff_not] at e'
          have hl : fs.length ≤ 40 := by omega
          have ha : fs.all isNameD = true := by rw [← e'.2, List.all_map]; rfl
          have e12 := e1.trans e2
          dsimp only
          refine y_retB (P := (· = (uniqD fs && (!PyData.eqv (.tuple fs) (.tuple []) || decide (i = 0))))) (a1.up e2) (yb_and (yb_uniq (h1 e12) (h1 e12) hl ha) ?_) fun b H3 e3 hb => ?_
          · have hdp : PyData.depth (.tuple fs) ≤ 64 := by
              rw [strsOf_map ha]
              simp [PyData.depth, depthAll_strs]
            exact fun _ => yb_or (yb_neD (h1 e12) (yl_tup1 ya_nil (Nat.zero_le _) hz) hdp (by simp [PyData.depth, PyData.depthAll])) fun _ => yb_eqI (yi_of1 (h0 e12)) yi_c
          · have e0 : b = isStateD (.tuple [.int i, .tuple fs]) := by
              rw [hb]
              show _ = (((decide (0 ≤ i) && decide (i ≤ 1000000000000000000)) && (decide (fs.length ≤ 40) && (fs.all isNameD && uniqD fs))) && (decide (i = 0) || decide (0 < fs.length)))
              have e3 : (decide (0 ≤ i) && decide (i ≤ 1000000000000000000)) = true := e
              have e4 : (!PyData.eqv (.tuple fs) (.tuple [])) = decide (0 < fs.length) := by
                cases fs with
                | nil => simp [PyData.eqv, PyData.eqvAll]
                | cons x r => simp [PyData.eqv, PyData.eqvAll]
              rw [e3, e4, ha, decide_eq_true hl, Bool.true_and, Bool.true_and, Bool.true_and, Bool.or_comm]
            rw [e0]
            exact q H3 (e12.trans e3)
      · have hf : isT df = false := by simpa using hf
        rw [hf] at hj
        dsimp only
        refine y_when (b := true) a1 ?_ (fun e H2 e2 => ?_) fun e H1 e1 => by cases e
        · exact yt_or (c := false) (yt_not (b := false) (yt_val hj)) fun q => by cases q
        · have e0 : isStateD (.tuple [.int i, df]) = false := by cases df <;> first | rfl | cases hf
          have g := q H2 (e1.trans e2)
          rw [e0] at g
          exact g
  · have e0 : isStateD d = false := by
      unfold isStateD
      split
      · exact absurd rfl ht
      · rfl
    refine y_when (b := true) al ?_ (fun e H1 e1 => ?_) fun e H1 e1 => by cases e
    · by_cases ht2 : isT d = true
      · obtain ⟨ds, rfl⟩ : ∃ fs, d = .tuple fs := by cases d <;> first | exact ⟨_, rfl⟩ | cases ht2
        have hl : ¬ ((ds.length : Int) = 2) := fun h => by
          match ds, h with
          | [_, _], _ => exact ht rfl
        refine YT.imp (P := (· = (!true || (!decide ((ds.length : Int) = 2) || false)))) ?_ fun b e => by rw [e, decide_eq_false hl]; rfl
        exact yt_or (yt_not (b := true) (yt_val hi)) fun _ => yt_or (yt_test (yb_neI (yi_lenT (yl_var rfl hd)) yi_c)) fun q => by rw [decide_eq_false hl] at q; cases q
      · have ht2 : isT d = false := by simpa using ht2
        rw [ht2] at hi
        exact yt_or (c := false) (yt_not (b := false) (yt_val hi)) fun q => by cases q
    · have g := q H1 e1
      rw [e0] at g
      exact g
end
end Pb
namespace Pb
open PySem L2
section
variable {P : Program} {w : World} {K : PySem.W.Frag} {mg : Str → Option Value} {base : Heap} {k0 k1 k2 : Tok}
/-! ### a cell of the script, or 0 -/
def spCell (K : PySem.W.Frag) : Sp := fun vs H Q _ => ∃ (a : Addr) (ns : List Int) (k : Nat), vs = [.ref a, .int (k : Int)] ∧ SqL K H a (ns.map V.int) ∧ ∀ c, Q (.int c) H
abbrev s__law_cell_at : Stmt := topS 12
abbrev N__law_cell_at : List Str := ["script", "k"]
theorem sc__law_cell_at : FnScope N__law_cell_at ["script", "k"] (defScope s__law_cell_at) := ⟨rfl, rfl, rfl, by decide +kernel, rfl, by decide +kernel, by decide +kernel⟩
theorem ok__law_cell_at {f__law_cell_at : Addr} {fd__law_cell_at : FuncData} (D__law_cell_at : Df K mg "_law_cell_at" s__law_cell_at ["script", "k"] f__law_cell_at fd__law_cell_at) (T : Bt mg k0 k1 k2) : FnOk P w K mg base CX0 1 f__law_cell_at fd__law_cell_at ["script", "k"] (spCell K) := by
  refine D__law_cell_at.F.ok sc__law_cell_at (fun vs H Q E h => ?_) (fun cdv A outer s H vs Q E hr h => ?_)
  · obtain ⟨a, ns, k, rfl, _⟩ := h
    rfl
  obtain ⟨a, ns, k, rfl, hS, q⟩ := h
  refine ⟨_, (pss_cons (ps_if (pt_cmpR op_lt (pv 1) (pe_callB call_len_seq (by rfl) T.b_len (by decide +kernel) (pa_cons (pv 0) pa_nil)) (nomark _))
  (pss_one (ps_ret (pe_ix ix_list (pv 0) (pv 1) (fun _ _ => rfl))))
  pss_nil)
  (pss_one (ps_ret pe_int))), ?_⟩
  refine ⟨_, rfl, _, rfl, a, _, rfl, .inl hS, _, _, rfl, rfl, _, rfl, ite2 (fun h => ?_) fun h => q 0⟩
  have hk : k < ns.length := by
    have h := of_decide_eq_true h
    rw [List.length_map] at h
    omega
  refine ⟨_, rfl, _, rfl, a, _, _, .int ns[k], rfl, rfl, hS, atI_nat (j := k) ?_, q _⟩
  rw [List.getElem?_map, List.getElem?_eq_getElem hk]
  rfl
/-! ### the draws of a cell -/
def spDraws : Sp := fun vs H Q _ => ∃ c : Int, vs = [.int c, .int 400, .int 1000] ∧ ∀ (o : Addr) (xs : List Int) (H' : Hp), Same H H' → H o = none → xs.length = 400 → H' o = some (.lst (xs.map V.int)) → Q (.ref o) H'
theorem snoc_int (xs : List Int) (y : Int) : xs.map V.int ++ [.int y] = (xs ++ [y]).map V.int := by rw [List.map_append]; rfl
abbrev s__law_draws : Stmt := topS 13
abbrev N__law_draws : List Str := ["cell", "many", "size", "found", "rest", "stirred", "k"]
theorem sc__law_draws : FnScope N__law_draws ["cell", "many", "size"] (defScope s__law_draws) := ⟨rfl, rfl, rfl, by decide +kernel, rfl, by decide +kernel, by decide +kernel⟩
theorem ok__law_draws {f__law_draws : Addr} {fd__law_draws : FuncData} (D__law_draws : Df K mg "_law_draws" s__law_draws ["cell", "many", "size"] f__law_draws fd__law_draws) (T : Bt mg k0 k1 k2) : FnOk P w K mg base CX0 1 f__law_draws fd__law_draws ["cell", "many", "size"] spDraws := by
  refine D__law_draws.F.ok sc__law_draws (fun vs H Q E h => ?_) (fun cdv A outer s H vs Q E hr h => ?_)
  · obtain ⟨c, rfl, _⟩ := h
    rfl
  obtain ⟨c, rfl, q⟩ := h
  refine ⟨_, (pss_cons (ps_set (i := 3) sc__law_draws.nd rfl (Or.inl rfl) (pe_lst pa_nil))
  (pss_cons (ps_set (i := 4) sc__law_draws.nd rfl (Or.inl rfl) (pe_op op_mul (pv 0) (pe_callTy call_int1 (by rfl) T.b_int (by decide +kernel) (pa_cons (pe_cmpR op_ge (pv 0) (pe_op op_pow pe_int pe_int) (nomark _)) pa_nil))))
  (pss_cons (ps_set (i := 5) sc__law_draws.nd rfl (Or.inl rfl) (pe_op op_mod (pv 0) pe_int))
  (pss_cons (ps_for PassesOwn.never rfl (pi_range1 (by rfl) T.b_range (pa_cons (pe_op op_add (pv 1) pe_int) pa_nil)) (pg_name (i := 6) sc__law_draws.nd rfl (Or.inl rfl))
  (pss_cons (ps_set (i := 5) sc__law_draws.nd rfl (Or.inl rfl) (pe_op op_mod (pe_op op_add (pe_op op_add (pe_op op_add (pe_op op_mul (pv 5) (pv 5)) (pe_op op_mul pe_int (pv 5))) (pv 6)) pe_int) pe_int))
  (pss_one (ps_if (PW.pt (pw_and (pt_cmpR op_gt (pv 6) pe_int (nomark _)) (pw_and1 (pt_cmpR op_gt (pv 4) pe_int (nomark _)))))
  (pss_cons (ps_expr (pe_bm PySem.F.plainAttrs_list PySem.F.slot_list_append PySem.F.type_list_append mt_append (pv 3) (pa_cons (pe_op op_mod (pv 4) (pv 2)) pa_nil)))
  (pss_one (ps_set (i := 4) sc__law_draws.nd rfl (Or.inl rfl) (pe_op op_fdiv (pv 4) (pv 2)))))
  (pss_one (ps_if (pt_cmpR op_gt (pv 6) pe_int (nomark _))
  (pss_one (ps_expr (pe_bm PySem.F.plainAttrs_list PySem.F.slot_list_append PySem.F.type_list_append mt_append (pv 3) (pa_cons (pe_op op_mod (pe_op op_fdiv (pv 5) pe_int) (pv 2)) pa_nil))))
  pss_nil))))))
  (pss_one (ps_ret (pv 3))))))), ?_⟩
  -- found = []
  refine ⟨Nat.zero_le _, fun o no => ?_⟩
  -- rest
  refine ⟨_, rfl, _, rfl, _, _, rfl, rfl, ⟨by decide, by decide, by decide⟩, _, _, rfl, rfl, ?_⟩
  refine .inr ⟨_, rfl, _, _, rfl, rfl, .inr ?_, ?_⟩
  · split <;> exact ⟨by decide, by decide⟩
  -- stirred
  refine ⟨_, rfl, _, _, rfl, rfl, (by show (0 : Int) < 2305843009213693951; decide), ?_⟩
  -- for k in range(many + 3)
  refine ⟨_, rfl, _, _, rfl, rfl, _, rfl, by decide, by decide, for_range (lo := 0) (n := 403) (fun i σ H' => ∃ (r st : Int) (xs : List Int) (y : Option V), σ = [some (.int c), some (.int 400), some (.int 1000), some (.ref o), some (.int r), some (.int st), y] ∧ 0 ≤ st ∧ st < 2305843009213693951 ∧ xs.length = i - 3 ∧ Same H H' ∧ H' o = some (.lst (xs.map V.int)))
    ⟨_, c % 2305843009213693951, [], none, rfl, Int.emod_nonneg _ (by decide), Int.emod_lt_of_pos _ (by decide), rfl, same_new no, upd_same⟩ (fun i σ H' hi hP => ?_) fun σ H' hP => ?_⟩
  · obtain ⟨r, st, xs, y, rfl, s0, s1, hl, sm, ho⟩ := hP
    have b0 : -(2 ^ 64) < st ∧ st < 2 ^ 64 := ⟨by omega, by omega⟩
    -- stirred = ..
    refine ⟨_, rfl, _, rfl, _, _, rfl, rfl, .inl b0, _, rfl, _, _, rfl, rfl, .inl ⟨by decide, by decide⟩, _, _, rfl, rfl, _, rfl, _, _, rfl, rfl, _, _, rfl, rfl, _, _, rfl, rfl, (by show (0 : Int) < 2305843009213693951; decide), ?_⟩
    have t0 : 0 ≤ (st * st + 48271 * st + (0 + (i : Int)) + 1) % 2305843009213693951 := Int.emod_nonneg _ (by decide)
    have t1 : (st * st + 48271 * st + (0 + (i : Int)) + 1) % 2305843009213693951 < 2305843009213693951 := Int.emod_lt_of_pos _ (by decide)
    have sz : (xs.map V.int).length < sizeLine := by rw [List.length_map]; exact small1000 (by omega)
    -- if k > 2 and rest > 0
    refine ⟨_, rfl, _, _, rfl, rfl, _, rfl, ite2 (fun h2 => ?_) fun h2 => ?_⟩
    · have h2 : (2 : Int) < 0 + (i : Int) := of_decide_eq_true h2
      refine ⟨_, rfl, _, _, rfl, rfl, _, rfl, ite2 (fun h3 => ?_) fun h3 => ?_⟩
      · refine ⟨_, rfl, .inl ⟨rfl, _, .inl (.inl ho)⟩, _, rfl, _, rfl, _, _, rfl, rfl, (by show (0 : Int) < 1000; decide), _, _, _, rfl, rfl, ho, sz, ?_⟩
        rw [snoc_int]
        refine ⟨_, rfl, _, rfl, _, _, rfl, rfl, ⟨by decide, by decide⟩, ?_⟩
        exact ⟨_, _, _, _, rfl, t0, t1, by rw [List.length_append, hl]; show _ + 1 = _; omega, same_mut sm no, upd_same⟩
      · refine ⟨_, rfl, _, _, rfl, rfl, _, rfl, ite2 (fun _ => ?_) fun h => absurd (decide_eq_true h2) h⟩
        refine ⟨_, rfl, .inl ⟨rfl, _, .inl (.inl ho)⟩, _, rfl, _, _, rfl, rfl, ⟨by decide, by decide⟩, _, rfl, _, _, rfl, rfl, (by show (0 : Int) < 1000; decide), _, _, _, rfl, rfl, ho, sz, ?_⟩
        rw [snoc_int]
        exact ⟨_, _, _, _, rfl, t0, t1, by rw [List.length_append, hl]; show _ + 1 = _; omega, same_mut sm no, upd_same⟩
    · have h2' : ¬ (2 : Int) < 0 + (i : Int) := fun h => h2 (decide_eq_true h)
      refine iteF ⟨_, rfl, _, _, rfl, rfl, _, rfl, ite2 (fun h => absurd (of_decide_eq_true h) h2') fun _ => ?_⟩
      exact ⟨_, _, xs, _, rfl, t0, t1, by omega, sm, ho⟩
  · obtain ⟨r, st, xs, y, rfl, s0, s1, hl, sm, ho⟩ := hP
    exact ⟨_, rfl, q o xs H' sm no hl ho⟩
/-! ### a bag, bags -/
def spBag (K : PySem.W.Frag) : Sp := fun vs H Q _ => ∃ (a : Addr) (ns : List Int) (k : Nat), vs = [.ref a, .int (k : Int)] ∧ SqL K H a (ns.map V.int) ∧ ∀ (p q : Addr) (H' : Hp), Same H H' → H p = none → BagQ p q H' → Q (.ref p) H'
abbrev s__law_bag : Stmt := topS 16
abbrev N__law_bag : List Str := ["script", "k"]
theorem sc__law_bag : FnScope N__law_bag ["script", "k"] (defScope s__law_bag) := ⟨rfl, rfl, rfl, by decide +kernel, rfl, by decide +kernel, by decide +kernel⟩
theorem ok__law_bag {f__law_bag : Addr} {fd__law_bag : FuncData} (D__law_bag : Df K mg "_law_bag" s__law_bag ["script", "k"] f__law_bag fd__law_bag) {f__law_draws : Addr} {fd__law_draws : FuncData} (D__law_draws : Df K mg "_law_draws" s__law_draws ["cell", "many", "size"] f__law_draws fd__law_draws) {f__law_cell_at : Addr} {fd__law_cell_at : FuncData} (D__law_cell_at : Df K mg "_law_cell_at" s__law_cell_at ["script", "k"] f__law_cell_at fd__law_cell_at) (G__law_draws : FnOk P w K mg base CX0 1 f__law_draws fd__law_draws ["cell", "many", "size"] spDraws) (G__law_cell_at : FnOk P w K mg base CX0 1 f__law_cell_at fd__law_cell_at ["script", "k"] (spCell K)) (T : Bt mg k0 k1 k2) : FnOk P w K mg base CX0 2 f__law_bag fd__law_bag ["script", "k"] (spBag K) := by
  refine D__law_bag.F.ok sc__law_bag (fun vs H Q E h => ?_) (fun cdv A outer s H vs Q E hr h => ?_)
  · obtain ⟨a, ns, k, rfl, _⟩ := h
    rfl
  obtain ⟨a, ns, k, rfl, hS, q⟩ := h
  refine ⟨_, (pss_one (ps_ret (pe_lst (pa_cons (pe_call G__law_draws (hr.mono (by omega)) (by rfl) D__law_draws.g D__law_draws.F.kp D__law_draws.b .nil pass0 (pa_cons (pe_call G__law_cell_at (hr.mono (by omega)) (by rfl) D__law_cell_at.g D__law_cell_at.F.kp D__law_cell_at.b .nil pass0 (pa_cons (pv 0) (pa_cons (pv 1) pa_nil))) (pa_cons pe_int (pa_cons pe_int pa_nil)))) (pa_cons pe_int pa_nil))))), ?_⟩
  refine ⟨_, rfl, _, rfl, a, ns, k, rfl, hS, fun c => ?_⟩
  refine ⟨c, rfl, fun o xs H1 sm no hl ho => ?_⟩
  refine ⟨by show 2 ≤ sizeLine; decide, fun p np => ?_⟩
  refine q p o _ (sm.trans (same_new np)) (sm.free np) ⟨0, xs, ne_of_none ho np, Int.le_refl 0, hl, upd_same, ?_⟩
  rw [upd_ne (ne_of_none ho np)]
  exact ho
/-- the bags stand, apart from one another -/
def Bags (bs : List Addr) (H : Hp) : Prop := bs.Nodup ∧ ∀ b ∈ bs, ∃ q, BagQ b q H
def spBags (K : PySem.W.Frag) : Sp := fun vs H Q _ => ∃ (a : Addr) (ns : List Int) (m : Int), vs = [.ref a, .int m] ∧ SqL K H a (ns.map V.int) ∧ 1 ≤ m ∧ m ≤ 63 ∧ ∀ (l : Addr) (bs : List Addr) (H' : Hp), Same H H' → H' l = some (.lst (bs.map V.ref)) → Bags bs H' → bs.length ≤ 63 → Q (.ref l) H'
theorem bag_same {p q : Addr} {H H' : Hp} (s : Same H H') (h : BagQ p q H) : BagQ p q H' := (ExB.same s).bag q h
theorem bag_upd {p q l : Addr} {H : Hp} {o : HO} (h : BagQ p q H) (n1 : p ≠ l) (n2 : q ≠ l) : BagQ p q (upd H l o) := by
  obtain ⟨k, xs, h1, h2, h3, h4, h5⟩ := h
  exact ⟨k, xs, h1, h2, h3, by rw [upd_ne n1]; exact h4, by rw [upd_ne n2]; exact h5⟩
abbrev s__law_bags : Stmt := topS 17
abbrev N__law_bags : List Str := ["script", "limit", "k"]
theorem sc__law_bags : FnScope N__law_bags ["script", "limit"] (defScope s__law_bags) := ⟨rfl, rfl, rfl, by decide +kernel, rfl, by decide +kernel, by decide +kernel⟩
theorem ok__law_bags {f__law_bags : Addr} {fd__law_bags : FuncData} (D__law_bags : Df K mg "_law_bags" s__law_bags ["script", "limit"] f__law_bags fd__law_bags) {f__law_bag : Addr} {fd__law_bag : FuncData} (D__law_bag : Df K mg "_law_bag" s__law_bag ["script", "k"] f__law_bag fd__law_bag) (G__law_bag : FnOk P w K mg base CX0 2 f__law_bag fd__law_bag ["script", "k"] (spBag K)) (T : Bt mg k0 k1 k2) : FnOk P w K mg base CX0 3 f__law_bags fd__law_bags ["script", "limit"] (spBags K) := by
  refine D__law_bags.F.ok sc__law_bags (fun vs H Q E h => ?_) (fun cdv A outer s H vs Q E hr h => ?_)
  · obtain ⟨a, ns, m, rfl, _⟩ := h
    rfl
  obtain ⟨a, ns, m, rfl, hS, m1, m2, q⟩ := h
  refine ⟨_, (pss_one (ps_ret (pe_lc (own := [("k", 2)]) (g := gName 2) (by rfl) sc__law_bags.nd (pi_range1 (by rfl) T.b_range (pa_cons (pe_callB (call_max2 rfl) (by rfl) T.b_max (by decide +kernel) (pa_cons pe_int (pa_cons (pe_callB (call_min2 rfl) (by rfl) T.b_min (by decide +kernel) (pa_cons (pv 1) (pa_cons (pe_callB call_len_seq (by rfl) T.b_len (by decide +kernel) (pa_cons (pv 0) pa_nil)) pa_nil))) pa_nil))) pa_nil)) (blkOk_by (own := [("k", 2)]) (N := N__law_bags) (sc := defScope s__law_bags) (by decide +kernel)) (fun _ _ _ _ _ => pg_name (i := 2) sc__law_bags.nd rfl (Or.inl rfl)) (fun _ _ _ _ _ => pts_nil) (fun _ _ _ _ _ => (pe_call G__law_bag (hr.mono (by omega)) (by rfl) D__law_bag.g D__law_bag.F.kp D__law_bag.b .nil pass0 (pa_cons (pv 0) (pa_cons (pv 2) pa_nil))))))), ?_⟩
  refine ⟨_, rfl, _, rfl, a, _, rfl, .inl hS, _, _, rfl, _, _, rfl, ?_⟩
  generalize hm : (if (if (((ns.map V.int).length : Nat) : Int) < m then (((ns.map V.int).length : Nat) : Int) else m) > 1 then (if (((ns.map V.int).length : Nat) : Int) < m then (((ns.map V.int).length : Nat) : Int) else m) else 1) = n
  have hn : 1 ≤ n ∧ n ≤ 63 := by
    rw [← hm]
    split <;> split <;> omega
  refine ⟨n, rfl, by omega, by omega, fun l nl => lc_range (lo := 0) (n := n.toNat) (fun i H' => Same H H' ∧ ∃ bs : List Addr, H' l = some (.lst (bs.map V.ref)) ∧ bs.length = i ∧ bs.Nodup ∧ ∀ b ∈ bs, b ≠ l ∧ ∃ q, q ≠ l ∧ BagQ b q H') ⟨same_new nl, [], upd_same, rfl, List.nodup_nil, fun _ h => nomatch h⟩ (fun i H1 hi hP => ?_) fun H1 hP => ?_⟩
  · obtain ⟨sm, bs, h1, h2, h3, h4⟩ := hP
    refine ⟨rfl, tYes_go ?_⟩
    refine iteT ⟨_, rfl, _, rfl, a, ns, i, by rw [Int.zero_add]; rfl, sm.seq hS, fun p qq H2 s2 np bq => ?_⟩
    refine ⟨_, s2 _ _ h1, by rw [List.length_map, h2]; exact small1000 (by omega), same_mut (sm.trans s2) nl, bs ++ [p], ?_, by rw [List.length_append, h2]; rfl, ?_, fun b hb => ?_⟩
    · rw [upd_same, List.map_append]; rfl
    · refine List.nodup_append.mpr ⟨h3, (by simp), fun x hx y hy e => ?_⟩
      obtain ⟨_, q, _, k, xs, _, _, _, g, _⟩ := h4 x hx
      rw [List.mem_singleton.mp hy] at e
      rw [e, np] at g
      cases g
    · rcases List.mem_append.mp hb with hb | hb
      · obtain ⟨n1, q, n2, g⟩ := h4 b hb
        exact ⟨n1, q, n2, bag_upd (bag_same s2 g) n1 n2⟩
      · have e : b = p := List.mem_singleton.mp hb
        subst e
        obtain ⟨k, xs, g1, g2, g3, g4, g5⟩ := id bq
        have n1 : b ≠ l := fun e => by rw [e, h1] at np; cases np
        have n2 : qq ≠ l := fun e => by
          rw [e, s2 _ _ h1] at g5
          have g6 : bs.map V.ref = xs.map V.int := by
            have := Option.some.inj g5
            exact HO.lst.inj this
          have g7 : bs.length = xs.length := by
            have := congrArg List.length g6
            rw [List.length_map, List.length_map] at this
            exact this
          omega
        exact ⟨n1, qq, n2, bag_upd bq n1 n2⟩
  · obtain ⟨sm, bs, h1, h2, h3, h4⟩ := hP
    exact q l bs H1 sm h1 ⟨h3, fun b hb => (h4 b hb).2.elim fun q ⟨_, g⟩ => ⟨q, g⟩⟩ (by omega)
/-! ### what is drawn of a bag -/
def spTake : Sp := fun vs H Q _ => ∃ (p q : Addr) (m : Int), vs = [.ref p, .int m] ∧ 0 < m ∧ BagQ p q H ∧ ∀ r H', ExB p H H' → 0 ≤ r ∧ r < m → Q (.int r) H'
theorem bag_step {p q : Addr} {H : Hp} {k : Int} {xs : List Int} (h1 : q ≠ p) (h2 : 0 ≤ k) (h3 : xs.length = 400) (h4 : H p = some (.lst [.ref q, .int k])) (h5 : H q = some (.lst (xs.map V.int))) : ExB p H (upd H p (.lst [.ref q, .int (k + 1)])) := by
  refine ⟨fun a o na h => by rw [upd_ne na]; exact h, fun _ => ⟨_, upd_same, fun _ e => nomatch e⟩, fun q' ⟨k', xs', g1, g2, g3, g4, g5⟩ => ?_⟩
  rw [h4] at g4
  have e : q = q' := by
    have := HO.lst.inj (Option.some.inj g4)
    injection this with a b
    exact V.ref.inj a
  subst e
  exact ⟨k + 1, xs, h1, by omega, h3, upd_same, by rw [upd_ne h1]; exact h5⟩
abbrev s__law_take : Stmt := topS 18
abbrev N__law_take : List Str := ["bag", "many"]
theorem sc__law_take : FnScope N__law_take ["bag", "many"] (defScope s__law_take) := ⟨rfl, rfl, rfl, by decide +kernel, rfl, by decide +kernel, by decide +kernel⟩
theorem ok__law_take {f__law_take : Addr} {fd__law_take : FuncData} (D__law_take : Df K mg "_law_take" s__law_take ["bag", "many"] f__law_take fd__law_take) (T : Bt mg k0 k1 k2) : FnOk P w K mg base CX0 1 f__law_take fd__law_take ["bag", "many"] spTake := by
  refine D__law_take.F.ok sc__law_take (fun vs H Q E h => ?_) (fun cdv A outer s H vs Q E hr h => ?_)
  · obtain ⟨p, q, m, rfl, _⟩ := h
    rfl
  obtain ⟨p, q, m, rfl, hm, ⟨k, xs, h1, h2, h3, h4, h5⟩, qq⟩ := h
  refine ⟨_, (pss_cons (ps_asg (pe_op op_add (pe_ix ix_list (pv 0) pe_int (fun _ _ => rfl)) pe_int) (pg_sub (pv 0) pe_int set_list))
  (pss_one (ps_ret (pe_op op_mod (pe_ix ix_list (pe_ix ix_list (pv 0) pe_int (fun _ _ => rfl)) (pe_op op_mod (pe_ix ix_list (pv 0) pe_int (fun _ _ => rfl)) (pe_callB call_len_seq (by rfl) T.b_len (by decide +kernel) (pa_cons (pe_ix ix_list (pv 0) pe_int (fun _ _ => rfl)) pa_nil))) (fun _ _ => rfl)) (pv 1))))), ?_⟩
  -- bag[1] = bag[1] + 1
  refine ⟨_, rfl, p, _, 1, .int k, rfl, rfl, .inl (.inl h4), rfl, _, _, rfl, rfl, _, rfl, p, _, 1, 1, rfl, rfl, h4, rfl, ?_⟩
  have e := bag_step h1 h2 h3 h4 h5
  have g4 : upd H p (.lst [.ref q, .int (k + 1)]) p = some (.lst [.ref q, .int (k + 1)]) := upd_same
  have g5 : upd H p (.lst [.ref q, .int (k + 1)]) q = some (.lst (xs.map V.int)) := by rw [upd_ne h1]; exact h5
  have lt : ((k + 1) % 400).toNat < xs.length := by omega
  -- return
  refine ⟨_, rfl, p, _, 0, .ref q, rfl, rfl, .inl (.inl g4), rfl, ?_⟩
  refine ⟨_, rfl, p, _, 1, .int (k + 1), rfl, rfl, .inl (.inl g4), rfl, ?_⟩
  refine ⟨_, rfl, p, _, 0, .ref q, rfl, rfl, .inl (.inl g4), rfl, ?_⟩
  refine ⟨q, _, rfl, .inl (.inl (.inl g5)), _, _, rfl, rfl, ?_, ?_⟩
  · rw [List.length_map, h3]; exact (by decide : (0 : Int) < ((400 : Nat) : Int))
  refine ⟨q, _, _, .int xs[((k + 1) % 400).toNat], rfl, rfl, .inl (.inl g5), ?_, _, rfl, _, _, rfl, rfl, hm, qq _ _ e ⟨Int.emod_nonneg _ (by omega), Int.emod_lt_of_pos _ hm⟩⟩
  rw [List.length_map, h3]
  refine at_of (j := ((k + 1) % 400).toNat) ?_ ?_
  · show (k + 1) % ((400 : Nat) : Int) = _
    omega
  · rw [List.getElem?_map, List.getElem?_eq_getElem lt]
    rfl
theorem yi_take {z : Fz} {tm : TE} {σ : L2.St} {H : Hp} {E : XK} {i : Nat} {q : Addr} {m : Int} (h : σ[i]? = some (some (.ref z.p))) (hq : BagQ z.p q H) (hm : YI z tm σ H (· = m)) (m0 : 0 < m) : YI z (tCall spTake [] E (tCons (tVar i) (tCons tm tNil))) σ H (fun r => 0 ≤ r ∧ r < m) := fun H1 e a Q k =>
  ⟨_, h, hm H1 e a _ fun m' H2 e2 hm' => ⟨z.p, q, m, by rw [hm']; rfl, m0, (e.trans e2).bag q hq, fun r H3 e3 hr => k r H3 (e2.trans e3) hr⟩⟩
end
end Pb
namespace Pb
open PySem L2
section
variable {P : Program} {w : World} {K : PySem.W.Frag} {mg : Str → Option Value} {base : Heap} {k0 k1 k2 : Tok}
theorem bag_al {p q : Addr} {H : Hp} (h : BagQ p q H) : Al p H := by
  obtain ⟨_, _, _, _, _, h4, _⟩ := h
  exact ⟨_, h4, fun _ e => nomatch e⟩
abbrev s__law_far_draw : Stmt := topS 19
abbrev N__law_far_draw : List Str := ["bag", "many", "found", "much"]
theorem sc__law_far_draw : FnScope N__law_far_draw ["bag", "many"] (defScope s__law_far_draw) := ⟨rfl, rfl, rfl, by decide +kernel, rfl, by decide +kernel, by decide +kernel⟩
theorem ok__law_far_draw {f__law_far_draw : Addr} {fd__law_far_draw : FuncData} (D__law_far_draw : Df K mg "_law_far_draw" s__law_far_draw ["bag", "many"] f__law_far_draw fd__law_far_draw) {f__law_take : Addr} {fd__law_take : FuncData} (D__law_take : Df K mg "_law_take" s__law_take ["bag", "many"] f__law_take fd__law_take) (G__law_take : FnOk P w K mg base CX0 1 f__law_take fd__law_take ["bag", "many"] spTake) (T : Bt mg k0 k1 k2) : FnOk P w K mg base CX0 2 f__law_far_draw fd__law_far_draw ["bag", "many"] spTake := by
  refine D__law_far_draw.F.ok sc__law_far_draw (fun vs H Q E h => ?_) (fun cdv A outer s H vs Q E hr h => ?_)
  · obtain ⟨p, q, m, rfl, _⟩ := h
    rfl
  obtain ⟨p, q, m, rfl, hm, bq, qq⟩ := h
  refine ⟨_, (pss_cons (ps_par (i := 2) (j := 3) (by rfl) sc__law_far_draw.nd rfl rfl (by decide) rfl rfl (pa_cons pe_int (pa_cons (pv 1) pa_nil)) (by rfl))
  (pss_cons (ps_while PassesOwn.never (pt_cmpR op_gt (pv 3) pe_int (nomark _))
  (pss_one (ps_par (i := 2) (j := 3) (by rfl) sc__law_far_draw.nd rfl rfl (by decide) rfl rfl (pa_cons (pe_op op_add (pe_op op_mul pe_int (pv 2)) (pe_call G__law_take (hr.mono (by omega)) (by rfl) D__law_take.g D__law_take.F.kp D__law_take.b .nil pass0 (pa_cons (pv 0) (pa_cons pe_int pa_nil)))) (pa_cons (pe_op op_fdiv (pv 3) pe_int) pa_nil)) (by rfl))))
  (pss_one (ps_ret (pe_ix ix_list (pe_lst (pa_cons (pe_op op_mod (pv 2) (pv 1)) (pa_cons pe_int (pa_cons (pe_op op_sub (pv 1) pe_int) (pa_cons (pe_op op_mod (pv 2) (pv 1)) pa_nil))))) (pe_call G__law_take (hr.mono (by omega)) (by rfl) D__law_take.g D__law_take.F.kp D__law_take.b .nil pass0 (pa_cons (pv 0) (pa_cons pe_int pa_nil))) (fun _ _ => rfl)))))), ?_⟩
  refine ⟨_, rfl, _, _, rfl, ?_⟩
  refine ⟨fun n σ H' => ∃ f u : Int, σ = [some (.ref p), some (.int m), some (.int f), some (.int u)] ∧ n = u.toNat ∧ ExB p H H', ⟨_, 0, m, rfl, rfl, .refl p H⟩, fun n σ H' hW => ?_⟩
  obtain ⟨f, u, rfl, rfl, e1⟩ := hW
  refine ⟨_, rfl, _, _, rfl, rfl, _, rfl, ite2 (fun hu => ?_) fun hu => ?_⟩
  · have hu : 0 < u := of_decide_eq_true hu
    refine ⟨fun σ2 H2 => ∃ f : Int, σ2 = [some (.ref p), some (.int m), some (.int f), some (.int (u / 1000))] ∧ ExB p H H2, fun σ2 H2 ⟨f2, h1, h2⟩ => ⟨(u / 1000).toNat, by omega, f2, _, h1, rfl, h2⟩, ?_⟩
    exact ⟨_, rfl, _, _, rfl, rfl, .inl ⟨by decide, by decide⟩, _, rfl, p, q, 1000, rfl, by decide, e1.bag q bq, fun r H3 e3 hr => ⟨_, _, rfl, rfl, _, rfl, _, _, rfl, rfl, ⟨by decide, by decide⟩, _, _, rfl, _, rfl, e1.trans e3⟩⟩
  · refine ⟨_, rfl, _, rfl, _, _, rfl, rfl, hm, _, rfl, _, _, rfl, rfl, _, rfl, _, rfl, _, _, rfl, rfl, hm, by show 4 ≤ sizeLine; decide, fun t nt => ?_⟩
    have e2 : ExB p H (upd H' t (.lst [.int (f % m), .int 0, .int (m - 1), .int (f % m)])) := e1.trans (.new nt)
    refine ⟨_, rfl, p, q, 4, rfl, by decide, e2.bag q bq, fun r H3 e3 hr => ?_⟩
    have nt2 : t ≠ p := al_ne (e1.al (bag_al bq)) nt
    have g := e3.keep t _ nt2 upd_same
    have f0 : 0 ≤ f % m := Int.emod_nonneg _ (by omega)
    have f1 : f % m < m := Int.emod_lt_of_pos _ hm
    have : r = ((0 : Nat) : Int) ∨ r = ((1 : Nat) : Int) ∨ r = ((2 : Nat) : Int) ∨ r = ((3 : Nat) : Int) := by omega
    rcases this with h | h | h | h
    · exact ⟨t, _, r, .int (f % m), rfl, rfl, .inl (.inl g), at_of h rfl, qq _ _ (e2.trans e3) ⟨f0, f1⟩⟩
    · exact ⟨t, _, r, .int 0, rfl, rfl, .inl (.inl g), at_of h rfl, qq _ _ (e2.trans e3) ⟨by omega, by omega⟩⟩
    · exact ⟨t, _, r, .int (m - 1), rfl, rfl, .inl (.inl g), at_of h rfl, qq _ _ (e2.trans e3) ⟨by omega, by omega⟩⟩
    · exact ⟨t, _, r, .int (f % m), rfl, rfl, .inl (.inl g), at_of h rfl, qq _ _ (e2.trans e3) ⟨f0, f1⟩⟩
/-! ### 1 to many, mixed -/
structure Mix (m : Nat) (xs : List Int) : Prop where
  len : xs.length = m
  nd : xs.Nodup
  bd : ∀ x ∈ xs, 1 ≤ x ∧ x ≤ (m : Int)
theorem Mix.ins {m : Nat} {xs : List Int} (h : Mix m xs) (k : Nat) : Mix (m + 1) (xs.take k ++ [((m : Int) + 1)] ++ xs.drop k) := by
  have hp : (xs.take k ++ [((m : Int) + 1)] ++ xs.drop k).Perm (((m : Int) + 1) :: xs) := by
    have h1 : (xs.take k ++ [((m : Int) + 1)] ++ xs.drop k).Perm ([((m : Int) + 1)] ++ xs.take k ++ xs.drop k) := List.Perm.append_right _ List.perm_append_comm
    have h2 : [((m : Int) + 1)] ++ xs.take k ++ xs.drop k = ((m : Int) + 1) :: xs := by rw [List.append_assoc, List.take_append_drop]; rfl
    rw [h2] at h1
    exact h1
  refine ⟨?_, ?_, fun x hx => ?_⟩
  · rw [hp.length_eq, List.length_cons, h.len]
  · refine hp.nodup_iff.mpr (List.nodup_cons.mpr ⟨fun q => ?_, h.nd⟩)
    have := (h.bd _ q).2
    omega
  · rcases List.mem_cons.mp (hp.mem_iff.mp hx) with e | e
    · rw [e]
      exact ⟨by omega, by omega⟩
    · have := h.bd x e
      exact ⟨by omega, by omega⟩
def spMixed : Sp := fun vs H Q _ => ∃ (p q : Addr) (m : Nat), vs = [.ref p, .int (m : Int)] ∧ m ≤ 1000 ∧ BagQ p q H ∧ ∀ t xs H', ExB p H H' → H t = none → H' t = some (.tup (xs.map V.int)) → Mix m xs → Q (.ref t) H'
theorem ins_int (xs : List Int) (k : Nat) (y : Int) : (xs.map V.int).take k ++ [.int y] ++ (xs.map V.int).drop k = (xs.take k ++ [y] ++ xs.drop k).map V.int := by
  rw [List.map_append, List.map_append, List.map_take, List.map_drop]; rfl
abbrev s__law_mixed : Stmt := topS 21
abbrev N__law_mixed : List Str := ["bag", "many", "found", "one"]
theorem sc__law_mixed : FnScope N__law_mixed ["bag", "many"] (defScope s__law_mixed) := ⟨rfl, rfl, rfl, by decide +kernel, rfl, by decide +kernel, by decide +kernel⟩
theorem ok__law_mixed {f__law_mixed : Addr} {fd__law_mixed : FuncData} (D__law_mixed : Df K mg "_law_mixed" s__law_mixed ["bag", "many"] f__law_mixed fd__law_mixed) {f__law_take : Addr} {fd__law_take : FuncData} (D__law_take : Df K mg "_law_take" s__law_take ["bag", "many"] f__law_take fd__law_take) (G__law_take : FnOk P w K mg base CX0 1 f__law_take fd__law_take ["bag", "many"] spTake) (T : Bt mg k0 k1 k2) : FnOk P w K mg base CX0 2 f__law_mixed fd__law_mixed ["bag", "many"] spMixed := by
  refine D__law_mixed.F.ok sc__law_mixed (fun vs H Q E h => ?_) (fun cdv A outer s H vs Q E hr h => ?_)
  · obtain ⟨p, q, m, rfl, _⟩ := h
    rfl
  obtain ⟨p, q, m, rfl, hm, bq, qq⟩ := h
  have al := bag_al bq
  refine ⟨_, (pss_cons (ps_set (i := 2) sc__law_mixed.nd rfl (Or.inl rfl) (pe_lst pa_nil))
  (pss_cons (ps_for PassesOwn.never rfl (pi_range2 (by rfl) T.b_range (pa_cons pe_int (pa_cons (pe_op op_add (pv 1) pe_int) pa_nil))) (pg_name (i := 3) sc__law_mixed.nd rfl (Or.inl rfl))
  (pss_one (ps_expr (pe_bm PySem.F.plainAttrs_list PySem.F.slot_list_insert PySem.F.type_list_insert mt_insert (pv 2) (pa_cons (pe_call G__law_take (hr.mono (by omega)) (by rfl) D__law_take.g D__law_take.F.kp D__law_take.b .nil pass0 (pa_cons (pv 0) (pa_cons (pv 3) pa_nil))) (pa_cons (pv 3) pa_nil))))))
  (pss_one (ps_ret (pe_callTy call_tuple_of (by rfl) T.b_tuple (by decide +kernel) (pa_cons (pv 2) pa_nil)))))), ?_⟩
  refine ⟨Nat.zero_le _, fun o no => ?_⟩
  have no2 : o ≠ p := al_ne al no
  refine ⟨_, rfl, _, _, rfl, rfl, _, _, rfl, ⟨by decide, by decide, by omega, by omega⟩, ?_⟩
  have en : ((m : Int) + 1 - 1).toNat = m := by omega
  rw [en]
  refine for_range (lo := 1) (n := m) (fun i σ H' => ∃ (xs : List Int) (y : Option V), σ = [some (.ref p), some (.int (m : Int)), some (.ref o), y] ∧ Mix i xs ∧ ExB p H H' ∧ H' o = some (.lst (xs.map V.int)))
    ⟨[], none, rfl, ⟨rfl, List.nodup_nil, fun _ h => nomatch h⟩, .new no, upd_same⟩ (fun i σ H' hi hP => ?_) fun σ H' hP => ?_
  · obtain ⟨xs, y, rfl, mx, e1, ho⟩ := hP
    refine ⟨_, rfl, .inl ⟨rfl, _, .inl (.inl ho)⟩, _, rfl, _, rfl, p, q, 1 + (i : Int), rfl, by omega, e1.bag q bq, fun r H2 e2 hr => ?_⟩
    have ho2 := e2.keep o _ no2 ho
    refine ⟨_, rfl, o, _, r, _, rfl, rfl, ho2, by rw [List.length_map, mx.len]; exact small1000 (by omega), hr.1, by omega, ?_⟩
    rw [ins_int]
    have := mx.ins r.toNat
    rw [Int.add_comm] at this
    exact ⟨_, _, rfl, this, (e1.trans e2).mut al no, upd_same⟩
  · obtain ⟨xs, y, rfl, mx, e1, ho⟩ := hP
    refine ⟨_, rfl, o, _, rfl, .inl ⟨.inl (.inl ho), fun t nt => ?_⟩⟩
    exact qq t xs _ (e1.trans (.new nt)) (e1.free al nt) upd_same mx
end
end Pb
namespace Pb
open PySem L2
/-! ### the names -/
def abc : Str := "abcdefghijklmnopqrstuvwxyz"
def ends (a : Str) : List Str := abc.cps.toList.map fun c => a ++ ⟨#[c]⟩
def names10 : List Str := ["ann", "bo", "cy", "dee", "eli", "fay", "gus", "hal", "ida", "jo"]
def namesL : List Str := names10 ++ ends "x" ++ ends "y"
theorem namesL_nd : namesL.Nodup := by decide +kernel
theorem namesL_len : namesL.length = 62 := by decide +kernel
local macro_rules | `(tactic| walk_at "lit") => `(tactic| first
  | exact ya_nil | exact yl_int | exact yl_bl | exact yl_non
  | exact yl_strK (by decide +kernel) (by assumption)
  | (refine ya_c1 ?_ ?_ <;> walk_at "lit"))
def spNames : Sp := fun vs H Q _ => ∃ (z : Fz) (m : Int), vs = [.int m] ∧ 100 ≤ z.n ∧ z.n ≤ 100000 ∧ AlS z H ∧ 0 ≤ m ∧ ∀ v H', ExB z.p H H' → Dt z H' v (.list ((namesL.take m.toNat).map PyData.str)) → Q v H'
section
variable {P : Program} {w : World} {K : PySem.W.Frag} {mg : Str → Option Value} {base : Heap} {k0 k1 k2 : Tok}
theorem ends_eq (a : Str) {es : List PyData} (h2 : es.length = abc.cps.size) (h3 : ∀ (j : Nat) e, es[j]? = some e → ∃ c, abc.cps[j]? = some c ∧ e = .str (a ++ ⟨#[c]⟩)) : es = (ends a).map PyData.str := by
  unfold ends
  rw [List.map_map]
  refine map_of (by rw [h2, Array.length_toList]) fun j e he d hd => ?_
  obtain ⟨c, g1, g2⟩ := h3 j e he
  rw [Array.getElem?_toList, g1] at hd
  cases hd
  exact g2
theorem abc_lt : ∀ (i c : Nat), abc.cps[i]? = some c → c < 1000 := by
  intro i c h
  have h1 : c ∈ abc.cps.toList := by
    rw [← Array.getElem?_toList] at h
    exact List.mem_of_getElem? h
  have h2 : ∀ x ∈ abc.cps.toList, x < 1000 := by decide +kernel
  exact h2 c h1
theorem app1_ok {a : Str} (ha : a = "x" ∨ a = "y") {i c : Nat} (h : abc.cps[i]? = some c) : (a ++ (⟨#[c]⟩ : Str)).length ≤ 30 ∧ PyData.strOk (a ++ (⟨#[c]⟩ : Str)) = true := by
  have l := abc_lt i c h
  have h1 : c ∈ abc.cps.toList := by
    rw [← Array.getElem?_toList] at h
    exact List.mem_of_getElem? h
  have h2 : ∀ x ∈ abc.cps.toList, (Str.ofString "x" ++ (⟨#[x]⟩ : Str)).length ≤ 30 ∧ PyData.strOk (Str.ofString "x" ++ (⟨#[x]⟩ : Str)) = true := by decide +kernel
  have h3 : ∀ x ∈ abc.cps.toList, (Str.ofString "y" ++ (⟨#[x]⟩ : Str)).length ≤ 30 ∧ PyData.strOk (Str.ofString "y" ++ (⟨#[x]⟩ : Str)) = true := by decide +kernel
  rcases ha with rfl | rfl
  · exact h2 c h1
  · exact h3 c h1
abbrev s__law_names : Stmt := topS 23
abbrev N__law_names : List Str := ["many", "first", "letters", "letter"]
theorem sc__law_names : FnScope N__law_names ["many"] (defScope s__law_names) := ⟨rfl, rfl, rfl, by decide +kernel, rfl, by decide +kernel, by decide +kernel⟩
theorem ok__law_names {f__law_names : Addr} {fd__law_names : FuncData} (D__law_names : Df K mg "_law_names" s__law_names ["many"] f__law_names fd__law_names) (T : Bt mg k0 k1 k2) : FnOk P w K mg base CX0 1 f__law_names fd__law_names ["many"] spNames := by
  refine D__law_names.F.ok sc__law_names (fun vs H Q E h => ?_) (fun cdv A outer s H vs Q E hr h => ?_)
  · obtain ⟨z, m, rfl, _⟩ := h
    rfl
  obtain ⟨z, m, rfl, n1, n2, al, hm, q⟩ := h
  have hz : z.n ≤ sizeLine := Nat.le_trans n2 (by decide)
  have n30 : 30 ≤ z.n := by omega
  refine ⟨_, (pss_cons (ps_set (i := 1) sc__law_names.nd rfl (Or.inl rfl) (pe_lst (pa_cons pe_str (pa_cons pe_str (pa_cons pe_str (pa_cons pe_str (pa_cons pe_str (pa_cons pe_str (pa_cons pe_str (pa_cons pe_str (pa_cons pe_str (pa_cons pe_str pa_nil))))))))))))
  (pss_cons (ps_set (i := 2) sc__law_names.nd rfl (Or.inl rfl) pe_str)
  (pss_one (ps_ret (pe_slice sl_list (pe_op op_cat (pe_op op_cat (pv 1) (pe_lc (own := [("letter", 3)]) (g := gName 3) (by rfl) sc__law_names.nd (pi_str (pv 2)) (blkOk_by (own := [("letter", 3)]) (N := N__law_names) (sc := defScope s__law_names) (by decide +kernel)) (fun _ _ _ _ _ => pg_name (i := 3) sc__law_names.nd rfl (Or.inl rfl)) (fun _ _ _ _ _ => pts_nil) (fun _ _ _ _ _ => (pe_op op_add_str pe_str (pv 3))))) (pe_lc (own := [("letter", 3)]) (g := gName 3) (by rfl) sc__law_names.nd (pi_str (pv 2)) (blkOk_by (own := [("letter", 3)]) (N := N__law_names) (sc := defScope s__law_names) (by decide +kernel)) (fun _ _ _ _ _ => pg_name (i := 3) sc__law_names.nd rfl (Or.inl rfl)) (fun _ _ _ _ _ => pts_nil) (fun _ _ _ _ _ => (pe_op op_add_str pe_str (pv 3))))) po_none (po_some (pv 0))))))), ?_⟩
  refine y_asg (R := (· = .list (names10.map PyData.str))) al ?_ fun v d H1 e1 hd hr => ?_
  · refine yl_lst1 ?_ (by show 10 ≤ z.n; omega) hz
    walk_at "lit"
  subst hr
  dsimp only
  refine y_asg (R := (· = .str abc)) (al.up e1) (yl_strK (by decide +kernel) n30) fun v2 d2 H2 e2 hd2 hr2 => ?_
  subst hr2
  cases hd2
  replace hd := hd.mono e2
  replace e1 := e1.trans e2
  clear e2
  revert e1 hd
  revert H2
  intro H1 hd e1
  have a1 := al.up e1
  have part {a : Str} (ha : a = "x" ∨ a = "y") {tq : TE} (hq : tq = tC (.str a)) : Yl z (tLc (iStr (tVar 2)) (gName 3) tYes (tOp (fun x y H Q => ∃ i j : Str, x = .str i ∧ y = .str j ∧ i.length + j.length ≤ sizeLine ∧ Q (.str (i ++ j)) H) tq (tVar 3)) [3]) [some (.int m), some v, some (.str abc), none] H1 (· = .list ((ends a).map PyData.str)) := by
    refine Yl.imp (yl_lcS (fun i d => ∃ c, abc.cps[i]? = some c ∧ d = .str (a ++ ⟨#[c]⟩)) (yl_var rfl (.str abc ⟨Nat.le_trans (by decide +kernel : abc.length ≤ 30) n30, by decide +kernel⟩)) hz (fun _ => rfl) fun i c L H0 H2 _ _ _ hc => ?_) fun d ⟨es, h1, h2, h3⟩ => by rw [h1, ends_eq a h2 h3]
    have ok := app1_ok ha hc
    subst hq
    refine Yl.imp (yl_addS (yl_strK (x := a) ?_ n30) (.inr fun H3 _ Q k => ⟨_, rfl, k⟩) ⟨Nat.le_trans ok.1 n30, ok.2⟩ ?_) fun d e => ⟨c, hc, e⟩
    · rcases ha with rfl | rfl <;> decide +kernel
    · rcases ha with rfl | rfl <;> (show 1 + 1 ≤ sizeLine; decide)
  dsimp only
  refine y_ret (z := z) (R := (· = .list ((namesL.take m.toNat).map PyData.str))) a1 ?_ fun v' d H2 e2 hd2 hr => by subst hr; exact q v' H2 (e1.trans e2) hd2
  refine Yl.imp (yl_toL (yl_cat1 (yl_cat1 (yl_var rfl hd) (part (.inl rfl) rfl) ?_ hz) (part (.inr rfl) rfl) ?_ hz) (yi_var rfl) hm) fun d e => ?_
  · show 10 + 26 ≤ z.n
    omega
  · show 36 + 26 ≤ z.n
    omega
  · rw [e, ← List.map_append, ← List.map_append, ← List.map_take]
    rfl
end
end Pb
namespace Pb
open PySem L2
theorem yl_names {z : Fz} {tm : TE} {σ : L2.St} {H : Hp} {E : XK} {m : Int} (hm : YI z tm σ H (· = m)) (m0 : 0 ≤ m) (n1 : 100 ≤ z.n) (n2 : z.n ≤ 100000) : Yl z (tCall spNames [] E (tCons tm tNil)) σ H (· = .list ((namesL.take m.toNat).map PyData.str)) := fun H1 e a Q k =>
  hm H1 e a _ fun m' H2 e2 hm' => by
    subst hm'
    exact ⟨z, _, rfl, n1, n2, a.up e2, m0, fun v H3 e3 hd => k v _ H3 (e2.trans e3) hd rfl⟩
theorem yl_mixed {z : Fz} {tm : TE} {σ : L2.St} {H : Hp} {E : XK} {i m : Nat} {q : Addr} (h : σ[i]? = some (some (.ref z.p))) (hq : BagQ z.p q H) (hm : YI z tm σ H (· = (m : Int))) (m0 : m ≤ 1000) (mn : m ≤ z.n) :
    Yl z (tCall spMixed [] E (tCons (tVar i) (tCons tm tNil))) σ H (fun d => ∃ ds, d = .tuple ds ∧ ∃ xs : List Int, ds = xs.map PyData.int ∧ Mix m xs) := fun H1 e a Q k =>
  ⟨_, h, hm H1 e a _ fun m' H2 e2 hm' => ⟨z.p, q, m, by rw [hm']; rfl, m0, (e.trans e2).bag q hq, fun t xs H3 e3 nt ht mx => k _ _ H3 (e2.trans e3) (.tup ((a.up e2).ne nt) ht (by rw [List.length_map, mx.len]; exact mn) (.ints xs)) ⟨_, rfl, xs, rfl, mx⟩⟩⟩
theorem yi_far {z : Fz} {tm : TE} {σ : L2.St} {H : Hp} {E : XK} {i : Nat} {q : Addr} {m : Int} (h : σ[i]? = some (some (.ref z.p))) (hq : BagQ z.p q H) (hm : YI z tm σ H (· = m)) (m0 : 0 < m) : YI z (tCall spTake [] E (tCons (tVar i) (tCons tm tNil))) σ H (fun r => 0 ≤ r ∧ r < m) := yi_take h hq hm m0
/-- a drawn state: bills from 0 to far (or 59), folk of at most most unlike names, bills 0 where there are none -/
structure Drawn (most : Nat) (far : Int) (d : PyData) : Prop where
  ex : ∃ (i : Int) (fs : List Str), d = .tuple [.int i, .tuple (fs.map PyData.str)] ∧ 0 ≤ i ∧ (i ≤ 59 ∨ i ≤ far) ∧ fs.Nodup ∧ fs.length ≤ most ∧ (∀ x ∈ fs, x ∈ namesL.take (most + 4)) ∧ (fs = [] → i = 0)
def spState : Sp := fun vs H Q _ => ∃ (z : Fz) (q : Addr) (most : Nat) (far : Int), vs = [.ref z.p, .int (most : Int), .int far] ∧ 100 ≤ z.n ∧ z.n ≤ 100000 ∧ AlS z H ∧ BagQ z.p q H ∧ most ≤ 58 ∧ 0 ≤ far ∧ ∀ v d H', ExB z.p H H' → Dt z H' v d → Drawn most far d → Q v H'
theorem yl_state {z : Fz} {tm tf : TE} {σ : L2.St} {H : Hp} {E : XK} {i most : Nat} {q : Addr} {far : Int} (h : σ[i]? = some (some (.ref z.p))) (hq : BagQ z.p q H) (hm : YI z tm σ H (· = (most : Int))) (hf : YI z tf σ H (· = far)) (m0 : most ≤ 58) (f0 : 0 ≤ far) (n1 : 100 ≤ z.n) (n2 : z.n ≤ 100000) :
    Yl z (tCall spState [] E (tCons (tVar i) (tCons tm (tCons tf tNil)))) σ H (Drawn most far) := fun H1 e a Q k =>
  ⟨_, h, hm H1 e a _ fun m' H2 e2 hm' => hf H2 (e.trans e2) (a.up e2) _ fun f' H3 e3 hf' => ⟨z, q, most, far, by rw [hm', hf']; rfl, n1, n2, (a.up e2).up e3, ((e.trans e2).trans e3).bag q hq, m0, f0, fun v d H4 e4 hd hD => k v d H4 ((e2.trans e3).trans e4) hd hD⟩⟩
theorem nodup_pick {xs : List Int} {ns : List Str} (hn : ns.Nodup) (hx : xs.Nodup) (hb : ∀ x ∈ xs, 1 ≤ x ∧ x ≤ (ns.length : Int)) : (xs.map fun x => ns.getD (x - 1).toNat Str.empty).Nodup := by
  induction xs with
  | nil => exact List.nodup_nil
  | cons x r ih =>
    rw [List.nodup_cons] at hx
    rw [List.map_cons, List.nodup_cons]
    refine ⟨fun h => ?_, ih hx.2 fun y hy => hb y (List.mem_cons_of_mem _ hy)⟩
    obtain ⟨y, hy, e⟩ := List.mem_map.mp h
    have b1 := hb x List.mem_cons_self
    have b2 := hb y (List.mem_cons_of_mem _ hy)
    have l1 : (x - 1).toNat < ns.length := by omega
    have l2 : (y - 1).toNat < ns.length := by omega
    rw [List.getD_eq_getElem?_getD, List.getD_eq_getElem?_getD, List.getElem?_eq_getElem l1, List.getElem?_eq_getElem l2] at e
    have := (List.getElem_inj hn).mp e
    have : x = y := by omega
    rw [this] at hx
    exact hx.1 hy
section
variable {P : Program} {w : World} {K : PySem.W.Frag} {mg : Str → Option Value} {base : Heap} {k0 k1 k2 : Tok}
abbrev s__law_a_state : Stmt := topS 24
abbrev N__law_a_state : List Str := ["bag", "most", "far", "names", "folk", "bills", "place"]
theorem sc__law_a_state : FnScope N__law_a_state ["bag", "most", "far"] (defScope s__law_a_state) := ⟨rfl, rfl, rfl, by decide +kernel, rfl, by decide +kernel, by decide +kernel⟩
theorem ok__law_a_state {f__law_a_state : Addr} {fd__law_a_state : FuncData} (D__law_a_state : Df K mg "_law_a_state" s__law_a_state ["bag", "most", "far"] f__law_a_state fd__law_a_state) {f__law_names : Addr} {fd__law_names : FuncData} (D__law_names : Df K mg "_law_names" s__law_names ["many"] f__law_names fd__law_names) {f__law_mixed : Addr} {fd__law_mixed : FuncData} (D__law_mixed : Df K mg "_law_mixed" s__law_mixed ["bag", "many"] f__law_mixed fd__law_mixed) {f__law_take : Addr} {fd__law_take : FuncData} (D__law_take : Df K mg "_law_take" s__law_take ["bag", "many"] f__law_take fd__law_take) {f__law_far_draw : Addr} {fd__law_far_draw : FuncData} (D__law_far_draw : Df K mg "_law_far_draw" s__law_far_draw ["bag", "many"] f__law_far_draw fd__law_far_draw) (G__law_names : FnOk P w K mg base CX0 1 f__law_names fd__law_names ["many"] spNames) (G__law_mixed : FnOk P w K mg base CX0 2 f__law_mixed fd__law_mixed ["bag", "many"] spMixed) (G__law_take : FnOk P w K mg base CX0 1 f__law_take fd__law_take ["bag", "many"] spTake) (G__law_far_draw : FnOk P w K mg base CX0 2 f__law_far_draw fd__law_far_draw ["bag", "many"] spTake) (T : Bt mg k0 k1 k2) : FnOk P w K mg base CX0 3 f__law_a_state fd__law_a_state ["bag", "most", "far"] spState := by
  refine D__law_a_state.F.ok sc__law_a_state (fun vs H Q E h => ?_) (fun cdv A outer s H vs Q E hr h => ?_)
  · obtain ⟨z, q, m, f, rfl, _⟩ := h
    rfl
  obtain ⟨z, q, most, far, rfl, n1, n2, al, bq, m0, f0, k⟩ := h
  have hz : z.n ≤ sizeLine := Nat.le_trans n2 (by decide)
  refine ⟨_, (pss_cons (ps_set (i := 3) sc__law_a_state.nd rfl (Or.inr rfl) (pe_call G__law_names (hr.mono (by omega)) (by rfl) D__law_names.g D__law_names.F.kp D__law_names.b .nil pass0 (pa_cons (pe_op op_add (pv 1) pe_int) pa_nil)))
  (pss_cons (ps_set (i := 4) sc__law_a_state.nd rfl (Or.inl rfl) (pe_callTy call_tuple_of (by rfl) T.b_tuple (by decide +kernel) (pa_cons (pe_lc (own := [("place", 6)]) (g := gName 6) (by rfl) sc__law_a_state.nd (pi_tup (pe_slice sl_tupA (pe_call G__law_mixed (hr.mono (by omega)) (by rfl) D__law_mixed.g D__law_mixed.F.kp D__law_mixed.b .nil pass0 (pa_cons (pv 0) (pa_cons (pe_callB call_len_seq (by rfl) T.b_len (by decide +kernel) (pa_cons (pv 3) pa_nil)) pa_nil))) po_none (po_some (pe_call G__law_take (hr.mono (by omega)) (by rfl) D__law_take.g D__law_take.F.kp D__law_take.b .nil pass0 (pa_cons (pv 0) (pa_cons (pe_op op_add (pv 1) pe_int) pa_nil)))))) (blkOk_by (own := [("place", 6)]) (N := N__law_a_state) (sc := defScope s__law_a_state) (by decide +kernel)) (fun _ _ _ _ _ => pg_name (i := 6) sc__law_a_state.nd rfl (Or.inl rfl)) (fun _ _ _ _ _ => pts_nil) (fun _ _ _ _ _ => (pe_ix (kk_ix_list (K := K) rfl) (pv 3) (pe_op op_sub (pv 6) pe_int) (fun _ _ => rfl)))) pa_nil)))
  (pss_cons (ps_set (i := 5) sc__law_a_state.nd rfl (Or.inl rfl) (pe_ix ix_list (pe_lst (pa_cons (pe_call G__law_take (hr.mono (by omega)) (by rfl) D__law_take.g D__law_take.F.kp D__law_take.b .nil pass0 (pa_cons (pv 0) (pa_cons pe_int pa_nil))) (pa_cons (pe_call G__law_far_draw (hr.mono (by omega)) (by rfl) D__law_far_draw.g D__law_far_draw.F.kp D__law_far_draw.b .nil pass0 (pa_cons (pv 0) (pa_cons (pe_op op_add (pv 2) pe_int) pa_nil))) pa_nil))) (pe_call G__law_take (hr.mono (by omega)) (by rfl) D__law_take.g D__law_take.F.kp D__law_take.b .nil pass0 (pa_cons (pv 0) (pa_cons pe_int pa_nil))) (fun _ _ => rfl)))
  (pss_one (ps_ret (pe_tup (pa_cons (pe_ifExp (pt_cmpR (op_neD hr.units) (pv 4) (pe_tup pa_nil) (nomark _)) (pv 5) pe_int) (pa_cons (pv 4) pa_nil)))))))), ?_⟩
  -- names
  refine y_asg (R := (· = .list ((namesL.take (most + 4)).map PyData.str))) al ?_ fun v1 d1 H1 e1 hd1 hr1 => ?_
  · exact Yl.imp (yl_names (yi_o (yi_var rfl) yi_c) (by omega) n1 n2) fun d e => by rw [e]; rfl
  subst hr1
  have a1 := al.up e1
  have b1 := e1.bag q bq
  have hl : (namesL.take (most + 4)).length = most + 4 := by rw [List.length_take, namesL_len]; omega
  dsimp only
  -- folk
  refine y_asg (R := fun d => ∃ ds, d = .tuple ds ∧ ∃ fs : List Str, ds = fs.map PyData.str ∧ fs.Nodup ∧ fs.length ≤ most ∧ ∀ x ∈ fs, x ∈ namesL.take (most + 4)) a1 (Yl.imp (yl_tupL (R := fun d => ∃ ds, d = .tuple ds ∧ ∃ fs : List Str, ds = fs.map PyData.str ∧ fs.Nodup ∧ fs.length ≤ most ∧ ∀ x ∈ fs, x ∈ namesL.take (most + 4)) ?_) fun d ⟨_, _, h⟩ => h) fun v2 d2 H2 e2 hd2 hr2 => ?_
  · have hsl := yl_slT (K := K) (yl_mixed (z := z) (σ := [some (.ref z.p), some (.int (most : Int)), some (.int far), some v1, none, none, none]) (E := E0) (i := 0) (m := most + 4) rfl b1 (tm := tCB (fun xs H Q => ∃ p ys, xs = [.ref p] ∧ (SqL K H p ys ∨ SqT K H p ys) ∧ Q (.int (ys.length : Int)) H) (tCons (tVar 3) tNil))
      (YI.imp (yi_lenL (yl_var rfl hd1)) fun i e => by rw [e, List.length_map, hl]) (by omega) (by omega)) yo_none
      (yo_some (yi_take (E := E0) (i := 0) rfl b1 (yi_o (g := fun i j => i + j) (yi_var (i := 1) rfl) (yi_c (k := 1))) (by omega)))
    refine Yl.imp (yl_lcTR (fun ds i d => ∃ x : Int, ds[i]? = some (.int x) ∧ d = .str ((namesL.take (most + 4)).getD (x - 1).toNat Str.empty)) (Rs := fun ds => ∃ xs : List Int, ds = xs.map PyData.int ∧ xs.Nodup ∧ xs.length ≤ most ∧ ∀ x ∈ xs, 1 ≤ x ∧ x ≤ ((most + 4 : Nat) : Int)) (Yl.imp hsl ?_) hz (fun _ => rfl) ?_) ?_
    · rintro d ⟨ds, h1, ys, lo, hi, ⟨xs, h2, mx⟩, h3, ⟨r, h4, h5⟩, h6⟩
      refine ⟨ds, h1, xs.take r.toNat, ?_, mx.nd.sublist (List.take_sublist _ _), ?_, fun x hx => mx.bd x (List.mem_of_mem_take hx)⟩
      · obtain ⟨n, rfl⟩ : ∃ n : Nat, r = n := ⟨r.toNat, by omega⟩
        rw [h6, h2, h3, h4, cut_to, List.map_take]; rfl
      · rw [List.length_take]; omega
    · rintro ds ⟨xs, h1, h2, h3, h4⟩ i x d L H0 H3 ex0 nL ex1 hg hx
      subst h1
      rw [List.getElem?_map] at hg
      cases hi : xs[i]? with
      | none => rw [hi] at hg; cases hg
      | some y =>
        rw [hi] at hg
        have : d = .int y := (Option.some.inj hg).symm
        subst this
        cases hx
        have by_ := h4 y (List.mem_of_getElem? hi)
        have hv : Dt (z.av L) H3 v1 (.list ((namesL.take (most + 4)).map PyData.str)) := ((hd1.mono ex0).to (.av nL)).mono ex1
        refine yl_ixL (Rs := (· = (namesL.take (most + 4)).map PyData.str)) (A := (· = y - 1)) (Yl.imp (yl_var rfl hv) fun d e => ⟨_, e, rfl⟩) (yi_o (yi_var rfl) yi_c) fun ds i e1 e2 => ?_
        have lt : (y - 1).toNat < (namesL.take (most + 4)).length := by omega
        refine ⟨(y - 1).toNat, _, by rw [e2]; omega, by rw [e1, List.getElem?_map, List.getElem?_eq_getElem lt]; rfl, y, by rw [List.getElem?_map, hi]; rfl, ?_⟩
        rw [List.getD_eq_getElem?_getD, List.getElem?_eq_getElem lt]; rfl
    · rintro d ⟨es, h1, ds, ⟨xs, h2, h3, h4, h5⟩, h6, h7⟩
      subst h2
      rw [List.length_map] at h6
      have he : es = (xs.map fun x => (namesL.take (most + 4)).getD (x - 1).toNat Str.empty).map PyData.str := by
        rw [List.map_map]
        refine map_of h6 fun j e he d hd => ?_
        obtain ⟨x, g1, g2⟩ := h7 j e he
        rw [List.getElem?_map, hd] at g1
        have : d = x := by
          have := Option.some.inj g1
          exact PyData.int.inj this
        rw [g2, this]; rfl
      refine ⟨es, h1, es, rfl, _, he, nodup_pick (namesL_nd.sublist (List.take_sublist _ _)) h3 fun x hx => by rw [hl]; exact h5 x hx, by rw [List.length_map]; exact h4, fun x hx => ?_⟩
      obtain ⟨y, hy, e⟩ := List.mem_map.mp hx
      have := h5 y hy
      have lt : (y - 1).toNat < (namesL.take (most + 4)).length := by omega
      rw [← e, List.getD_eq_getElem?_getD, List.getElem?_eq_getElem lt]
      exact List.getElem_mem lt
  obtain ⟨ds2, rfl, fs, rfl, g1, g2, g3⟩ := hr2
  have a2 := a1.up e2
  have b2 := e2.bag q b1
  dsimp only
  -- bills
  refine y_asgI (A := fun i => 0 ≤ i ∧ (i ≤ 59 ∨ i ≤ far)) a2 ?_ fun x H3 e3 hx => ?_
  · refine yi_of (z := z) (yl_ixL (Rs := fun ds => ∃ a b : Int, ds = [.int a, .int b] ∧ (0 ≤ a ∧ a < 60) ∧ (0 ≤ b ∧ b < far + 1)) (A := fun r => 0 ≤ r ∧ r < 2) (Yl.imp (yl_lst (ya_cons (YI.l (yi_take rfl b2 yi_c (by decide))) (ya_cons (YI.l (yi_far rfl b2 (yi_o (yi_var rfl) yi_c) (by omega))) ya_nil)) ?_ hz) ?_) (yi_take rfl b2 yi_c (by decide)) ?_)
    · rintro ds ⟨d, r, _, ⟨d', r', _, h, h2⟩, h1⟩
      rw [h1, h2, h]
      show 2 ≤ z.n
      omega
    · rintro d ⟨ds, ⟨x, r, ⟨a, h1, h2⟩, ⟨y, r', ⟨b, h3, h4⟩, h5, h6⟩, h7⟩, h8⟩
      exact ⟨ds, h8, a, b, by rw [h7, h6, h5, h1, h3], h2, h4⟩
    · rintro ds i ⟨a, b, rfl, h1, h2⟩ h3
      by_cases hi : i = 0
      · exact ⟨0, .int a, by omega, rfl, a, rfl, h1.1, by omega⟩
      · exact ⟨1, .int b, by omega, rfl, b, rfl, h2.1, by omega⟩
  have a3 := a2.up e3
  have hd3 := hd2.mono e3
  dsimp only
  -- return
  refine y_ret (z := z) (R := Drawn most far) a3 ?_ fun v d H4 e4 hd hD => k v d H4 (((e1.trans e2).trans e3).trans e4) hd hD
  have hdp : PyData.depth (.tuple (fs.map PyData.str)) ≤ 64 := by simp [PyData.depth, depthAll_strs]
  refine Yl.imp (yl_tup1 (ds := [.int (if fs = [] then 0 else x), .tuple (fs.map PyData.str)]) (ya_c1 (yl_if (b := !PyData.eqv (.tuple (fs.map PyData.str)) (.tuple [])) (yt_test (yb_neD (yl_var rfl hd3) (yl_tup1 ya_nil (Nat.zero_le _) hz) hdp (by simp [PyData.depth, PyData.depthAll]))) (fun hb => ?_) fun hb => ?_) (ya_c1 (yl_var rfl hd3) ya_nil)) (by show 2 ≤ z.n; omega) hz) fun d e => ?_
  · have : fs ≠ [] := fun e => by rw [e] at hb; simp [PyData.eqv, PyData.eqvAll] at hb
    rw [if_neg this]
    exact YI.l1 (yi_var rfl)
  · have : fs = [] := by
      cases fs with
      | nil => rfl
      | cons y r => simp [PyData.eqv, PyData.eqvAll] at hb
    rw [if_pos this]
    exact yl_int
  · refine ⟨_, fs, e, ?_, ?_, g1, g2, g3, fun h => by rw [if_pos h]⟩
    · split <;> omega
    · split <;> omega
end
end Pb
namespace Pb
open PySem L2
local macro_rules | `(tactic| walk_at "lit") => `(tactic| first
  | exact ya0
  | exact Yl.any yl_int | exact Yl.any yl_bl | exact Yl.any yl_non
  | exact Yl.any (yl_strK (by decide +kernel) (by assumption))
  | (refine ya1 ?_ ?_ <;> walk_at "lit")
  | (refine Yl.any (any_tup (k := 0) ?_ (Nat.le_trans (m := 30) (by decide) (by assumption)) (by assumption)); (walk_at "lit"))
  | (refine Yl.any (any_tup (k := 1) ?_ (Nat.le_trans (m := 30) (by decide) (by assumption)) (by assumption)); (walk_at "lit"))
  | (refine Yl.any (any_tup (k := 2) ?_ (Nat.le_trans (m := 30) (by decide) (by assumption)) (by assumption)); (walk_at "lit"))
  | (refine Yl.any (any_lst (k := 0) ?_ (Nat.le_trans (m := 30) (by decide) (by assumption)) (by assumption)); (walk_at "lit"))
  | (refine Yl.any (any_lst (k := 1) ?_ (Nat.le_trans (m := 30) (by decide) (by assumption)) (by assumption)); (walk_at "lit"))
  | (refine Yl.any (any_lst (k := 2) ?_ (Nat.le_trans (m := 30) (by decide) (by assumption)) (by assumption)); (walk_at "lit"))
  | exact Yl.any (YI.l1 (yi_neg yi_c))
  | exact Yl.any (YI.l1 (yi_oc yi_c yi_c ⟨by decide, by decide, by decide⟩))
  | exact Yl.any (YI.l1 (yi_o (yi_oc yi_c yi_c ⟨by decide, by decide, by decide⟩) yi_c)))
def spOdd : Sp := fun vs H Q _ => ∃ (z : Fz) (v : V) (xs : List Int), vs = [v] ∧ AlS z H ∧ Dt (z.w 1000) H v (.list (xs.map PyData.int)) ∧ 2 ≤ xs.length ∧ ∀ v d H', ExB z.p H H' → Dt (z.w 30) H' v d → Q v H'
theorem yl_odd {z : Fz} {ta : TE} {σ : L2.St} {H : Hp} {E : XK} {xs : List Int} (h : Yl (z.w 1000) ta σ H (· = .list (xs.map PyData.int))) (hl : 2 ≤ xs.length) : Yl (z.w 30) (tCall spOdd [] E (tCons ta tNil)) σ H (fun _ => True) := fun H1 e a Q q =>
  h H1 e a _ fun v d H2 e2 hd hr => by
    subst hr
    exact ⟨z, v, xs, rfl, a.up e2, hd, hl, fun v d H3 e3 hd => q v d H3 (e2.trans e3) hd trivial⟩
section
variable {P : Program} {w : World} {K : PySem.W.Frag} {mg : Str → Option Value} {base : Heap} {k0 k1 k2 : Tok}
abbrev s__law_odd : Stmt := topS 22
abbrev N__law_odd : List Str := ["picks", "odd"]
theorem sc__law_odd : FnScope N__law_odd ["picks"] (defScope s__law_odd) := ⟨rfl, rfl, rfl, by decide +kernel, rfl, by decide +kernel, by decide +kernel⟩
theorem ok__law_odd {f__law_odd : Addr} {fd__law_odd : FuncData} (D__law_odd : Df K mg "_law_odd" s__law_odd ["picks"] f__law_odd fd__law_odd) (T : Bt mg k0 k1 k2) : FnOk P w K mg base CX0 1 f__law_odd fd__law_odd ["picks"] spOdd := by
  refine D__law_odd.F.ok sc__law_odd (fun vs H Q E h => ?_) (fun cdv A outer s H vs Q E hr h => ?_)
  · obtain ⟨z, v, xs, rfl, _⟩ := h
    rfl
  obtain ⟨z, v, xs, rfl, al, hd, hl, q⟩ := h
  have hz : (z.w 30).n ≤ sizeLine := by show 30 ≤ sizeLine; decide
  have n30 : 30 ≤ (z.w 30).n := Nat.le_refl 30
  refine ⟨_, (pss_cons (ps_set (i := 1) sc__law_odd.nd rfl (Or.inl rfl) (pe_lst (pa_cons pe_non (pa_cons pe_bl (pa_cons pe_bl (pa_cons (pe_un un_neg pe_int) (pa_cons pe_int (pa_cons pe_int (pa_cons pe_int (pa_cons pe_int (pa_cons (pe_op op_pow pe_int pe_int) (pa_cons (pe_op op_add (pe_op op_pow pe_int pe_int) pe_int) (pa_cons (pe_op op_pow pe_int pe_int) (pa_cons pe_str (pa_cons pe_str (pa_cons pe_str (pa_cons pe_str pa_nil)))))))))))))))))
  (pss_cons (ps_set (i := 1) sc__law_odd.nd rfl (Or.inl rfl) (pe_op op_cat (pv 1) (pe_lst (pa_cons (pe_tup pa_nil) (pa_cons (pe_lst pa_nil) (pa_cons (pe_tup (pa_cons pe_int pa_nil)) (pa_cons (pe_tup (pa_cons pe_int (pa_cons (pe_tup pa_nil) pa_nil))) (pa_cons (pe_lst (pa_cons pe_int (pa_cons (pe_tup pa_nil) pa_nil))) pa_nil))))))))
  (pss_cons (ps_set (i := 1) sc__law_odd.nd rfl (Or.inl rfl) (pe_op op_cat (pv 1) (pe_lst (pa_cons (pe_tup (pa_cons pe_int (pa_cons (pe_tup (pa_cons pe_str pa_nil)) pa_nil))) (pa_cons (pe_tup (pa_cons pe_int (pa_cons (pe_tup pa_nil) pa_nil))) (pa_cons (pe_tup (pa_cons pe_int (pa_cons (pe_tup (pa_cons pe_str (pa_cons pe_str pa_nil))) pa_nil))) (pa_cons (pe_tup (pa_cons pe_int (pa_cons (pe_lst (pa_cons pe_str pa_nil)) pa_nil))) (pa_cons (pe_tup (pa_cons pe_int (pa_cons (pe_tup (pa_cons pe_str pa_nil)) pa_nil))) pa_nil))))))))
  (pss_one (ps_ret (pe_ix ix_list (pv 1) (pe_op op_mod (pe_op op_add (pe_ix ix_list (pv 0) pe_int (fun _ _ => rfl)) (pe_op op_mul pe_int (pe_ix ix_list (pv 0) pe_int (fun _ _ => rfl)))) (pe_callB call_len_seq (by rfl) T.b_len (by decide +kernel) (pa_cons (pv 1) pa_nil))) (fun _ _ => rfl))))))), ?_⟩
  refine y_asg (z := z.w 30) (R := fun d => ∃ ds : List PyData, d = .list ds ∧ ds.length = 15) al (any_lst ?_ (by show 15 ≤ 30; decide) hz) fun v1 d1 H1 e1 hd1 hr1 => ?_
  · walk_at "lit"
  obtain ⟨ds1, rfl, l1⟩ := hr1
  dsimp only
  refine y_asg (z := z.w 30) (R := fun d => ∃ ds : List PyData, d = .list ds ∧ ds.length = 15 + 5) (al.up e1) (any_cat (Yl.imp (yl_var rfl hd1) fun d e => ⟨_, e, l1⟩) (any_lst ?_ (by show 5 ≤ 30; decide) hz) (by show 20 ≤ 30; decide) hz) fun v2 d2 H2 e2 hd2 hr2 => ?_
  · walk_at "lit"
  obtain ⟨ds2, rfl, l2⟩ := hr2
  dsimp only
  refine y_asg (z := z.w 30) (R := fun d => ∃ ds : List PyData, d = .list ds ∧ ds.length = 15 + 5 + 5) ((al.up e1).up e2) (any_cat (Yl.imp (yl_var rfl hd2) fun d e => ⟨_, e, l2⟩) (any_lst ?_ (by show 5 ≤ 30; decide) hz) (by show 25 ≤ 30; decide) hz) fun v3 d3 H3 e3 hd3 hr3 => ?_
  · walk_at "lit"
  obtain ⟨ds3, rfl, l3⟩ := hr3
  have e123 := (e1.trans e2).trans e3
  dsimp only
  have hp : Dt (z.w 1000) H3 v (.list (xs.map PyData.int)) := hd.mono e123
  have i0 : YI (z.w 30) (tOp (rIxL K) (tVar 0) (tC (.int 0))) [some v, some v3] H3 (· = xs[0]) := yi_ixI (z := z.w 1000) (k := 0) (yl_var rfl hp) (by omega)
  have i1 : YI (z.w 30) (tOp (rIxL K) (tVar 0) (tC (.int 1))) [some v, some v3] H3 (· = xs[1]) := yi_ixI (z := z.w 1000) (k := 1) (yl_var rfl hp) (by omega)
  refine y_ret (z := z.w 30) (R := fun _ => True) (al.up e123) ?_ fun v d H4 e4 hd _ => q v d H4 (e123.trans e4) hd
  refine yl_ixL (Rs := (· = ds3)) (A := fun i => 0 ≤ i ∧ i < 25) (Yl.imp (yl_var rfl hd3) fun d e => ⟨_, e, rfl⟩) (YI.imp (yi_oc (yi_o i0 (yi_oc yi_c i1 (.inl ⟨by decide, by decide⟩))) (yi_lenL (yl_var rfl hd3)) ?_) fun i e => ?_) fun ds i e1 e2 => ?_
  · show (0 : Int) < ds3.length
    omega
  · rw [e, l3]
    exact ⟨Int.emod_nonneg _ (by decide), Int.emod_lt_of_pos _ (by decide)⟩
  · have lt : i.toNat < ds.length := by rw [e1]; omega
    exact ⟨i.toNat, ds[i.toNat], by omega, List.getElem?_eq_getElem lt, trivial⟩
end
end Pb
namespace Pb
open PySem L2
/-- thing spoilt: some data, at most one wider; k: how deep it may still go -/
def spSpoilt (k : Nat) : Sp := fun vs H Q _ => ∃ (z : Fz) (n : Nat) (v vp : V) (d : PyData) (xs : List Int), vs = [v, vp] ∧ 30 ≤ n ∧ n ≤ 50000 ∧ AlS z H ∧ Dt (z.w n) H v d ∧ Dt (z.w 1000) H vp (.list (xs.map PyData.int)) ∧ 3 ≤ xs.length ∧ xs.length < 4 * k ∧ ∀ v' d' H', ExB z.p H H' → Dt (z.w (n + 1)) H' v' d' → Q v' H'
theorem yl_picks {z : Fz} {ta : TE} {σ : L2.St} {H : Hp} {K : PySem.W.Frag} {xs : List Int} {k : Nat} (h : Yl z ta σ H (· = .list (xs.map PyData.int))) : Yl z (tSl (rSlL K) ta (tPart (tC (.int (k : Int)))) tNoPart) σ H (· = .list ((xs.drop k).map PyData.int)) :=
  Yl.imp (yl_fromL h yi_c (by omega)) fun d e => by rw [e, List.map_drop]; rfl
theorem Dt.items {z : Fz} {H : Hp} {K : PySem.W.Frag} {v : V} {d : PyData} (h : Dt z H v d) (hq : (isT d || isL d) = true) : ∃ a ys, v = .ref a ∧ (SqL K H a ys ∨ SqT K H a ys) ∧ DtAll z H ys (itemsD d) ∧ ys.length ≤ z.n := by
  cases h with
  | lst a b c t => exact ⟨_, _, rfl, .inl (.inl (.inl b)), t, c⟩
  | tup a b c t => exact ⟨_, _, rfl, .inr (.inl (.inl b)), t, c⟩
  | _ => cases hq
section
variable {P : Program} {w : World} {K : PySem.W.Frag} {mg : Str → Option Value} {base : Heap} {k0 k1 k2 : Tok}
abbrev s__law_spoilt : Stmt := topS 14
abbrev N__law_spoilt : List Str := ["thing", "picks", "pieces", "at", "turn_by"]
theorem sc__law_spoilt : FnScope N__law_spoilt ["thing", "picks"] (defScope s__law_spoilt) := ⟨rfl, rfl, rfl, by decide +kernel, rfl, by decide +kernel, by decide +kernel⟩
theorem ok__law_spoilt {f__law_spoilt : Addr} {fd__law_spoilt : FuncData} (D__law_spoilt : Df K mg "_law_spoilt" s__law_spoilt ["thing", "picks"] f__law_spoilt fd__law_spoilt) {f__law_odd : Addr} {fd__law_odd : FuncData} (D__law_odd : Df K mg "_law_odd" s__law_odd ["picks"] f__law_odd fd__law_odd) (G__law_odd : FnOk P w K mg base CX0 1 f__law_odd fd__law_odd ["picks"] spOdd) (T : Bt mg k0 k1 k2) : ∀ k : Nat, FnOk P w K mg base CX0 (k+2) f__law_spoilt fd__law_spoilt ["thing", "picks"] (spSpoilt k) := by
  intro k
  induction k with
  | zero =>
    refine D__law_spoilt.F.ok sc__law_spoilt (fun vs H Q E h => ?_) (fun cdv A outer s H vs Q E hr h => ?_)
    · obtain ⟨z, n, v, vp, d, xs, rfl, _⟩ := h
      rfl
    · obtain ⟨z, n, v, vp, d, xs, _, _, _, _, _, _, _, h, _⟩ := h
      omega
  | succ k G__law_spoilt =>
    refine D__law_spoilt.F.ok sc__law_spoilt (fun vs H Q E h => ?_) (fun cdv A outer s H vs Q E hr h => ?_)
    · obtain ⟨z, n, v, vp, d, xs, rfl, _⟩ := h
      rfl
    obtain ⟨z, n, v, vp, d, xs, rfl, n1, n2, al, hd, hp, x1, x2, q⟩ := h
    refine ⟨_, (pss_cons (ps_if (PW.pt (pw_or (pt_not (pt_val (pe_callB call_isiT (by rfl) T.b_isinstance (by decide +kernel) (pa_cons (pv 0) (pa_cons (pe_tup (pa_cons (pe_bltn (v := .ty "tuple") (by rfl) T.b_tuple (by decide +kernel) rfl) (pa_cons (pe_bltn (v := .ty "list") (by rfl) T.b_list (by decide +kernel) rfl) pa_nil))) pa_nil))))) (pw_or (pt_cmpR op_eq (pe_callB call_len_seq (by rfl) T.b_len (by decide +kernel) (pa_cons (pv 0) pa_nil)) pe_int (nomark _)) (pw_or (pt_cmpR op_lt (pe_callB call_len_seq (by rfl) T.b_len (by decide +kernel) (pa_cons (pv 1) pa_nil)) pe_int (nomark _)) (pw_or1 (pt_cmpR op_eq (pe_op op_mod (pe_ix ix_list (pv 1) pe_int (fun _ _ => rfl)) pe_int) pe_int (nomark _)))))))
  (pss_one (ps_ret (pe_call G__law_odd (hr.mono (by omega)) (by rfl) D__law_odd.g D__law_odd.F.kp D__law_odd.b .nil pass0 (pa_cons (pe_slice sl_list (pv 1) (po_some pe_int) po_none) pa_nil))))
  pss_nil)
  (pss_cons (ps_set (i := 2) sc__law_spoilt.nd rfl (Or.inl rfl) (pe_callTy call_list_of (by rfl) T.b_list (by decide +kernel) (pa_cons (pv 0) pa_nil)))
  (pss_cons (ps_set (i := 3) sc__law_spoilt.nd rfl (Or.inl rfl) (pe_op op_mod (pe_ix ix_list (pv 1) pe_int (fun _ _ => rfl)) (pe_callB call_len_seq (by rfl) T.b_len (by decide +kernel) (pa_cons (pv 2) pa_nil))))
  (pss_cons (ps_set (i := 4) sc__law_spoilt.nd rfl (Or.inl rfl) (pe_op op_mod (pe_ix ix_list (pv 1) pe_int (fun _ _ => rfl)) pe_int))
  (Evl.pss_cut (ps_if (pt_cmpR op_eq (pv 4) pe_int (nomark _))
  (pss_one (ps_set (i := 2) sc__law_spoilt.nd rfl (Or.inl rfl) (pe_op op_cat (pe_slice sl_list (pv 2) po_none (po_some (pv 3))) (pe_slice sl_list (pv 2) (po_some (pe_op op_add (pv 3) pe_int)) po_none))))
  (pss_one (ps_if (pt_cmpR op_eq (pv 4) pe_int (nomark _))
  (pss_one (ps_set (i := 2) sc__law_spoilt.nd rfl (Or.inl rfl) (pe_op op_cat (pe_slice sl_list (pv 2) po_none (po_some (pe_op op_add (pv 3) pe_int))) (pe_slice sl_list (pv 2) (po_some (pv 3)) po_none))))
  (pss_one (ps_if (pt_cmpR op_eq (pv 4) pe_int (nomark _))
  (pss_one (ps_set (i := 2) sc__law_spoilt.nd rfl (Or.inl rfl) (pe_op op_cat (pe_slice sl_list (pv 2) (po_some (pv 3)) po_none) (pe_slice sl_list (pv 2) po_none (po_some (pv 3))))))
  (pss_one (ps_if (pt_cmpR op_eq (pv 4) pe_int (nomark _))
  (pss_one (ps_set (i := 2) sc__law_spoilt.nd rfl (Or.inl rfl) (pe_op op_cat (pe_op op_cat (pe_slice sl_list (pv 2) po_none (po_some (pv 3))) (pe_lst (pa_cons (pe_call G__law_odd (hr.mono (by omega)) (by rfl) D__law_odd.g D__law_odd.F.kp D__law_odd.b .nil pass0 (pa_cons (pe_slice sl_list (pv 1) (po_some pe_int) po_none) pa_nil)) pa_nil))) (pe_slice sl_list (pv 2) (po_some (pv 3)) po_none))))
  (pss_one (ps_if (pt_cmpR op_gt (pv 4) pe_int (nomark _))
  (pss_one (ps_asg (pe_call G__law_spoilt (hr.mono (by omega)) (by rfl) D__law_spoilt.g D__law_spoilt.F.kp D__law_spoilt.b .nil pass0 (pa_cons (pe_ix ix_list (pv 2) (pv 3) (fun _ _ => rfl)) (pa_cons (pe_slice sl_list (pv 1) (po_some pe_int) po_none) pa_nil))) (pg_sub (pv 2) (pv 3) set_list)))
  pss_nil)))))))))
  (pss_cons (ps_if (pt_cmpR op_eq (pe_callB call_isi (by rfl) T.b_isinstance (by decide +kernel) (pa_cons (pv 0) (pa_cons (pe_bltn (v := .ty "tuple") (by rfl) T.b_tuple (by decide +kernel) rfl) pa_nil))) (pe_cmpR op_eq (pv 4) pe_int (nomark _)) (nomark _))
  (pss_one (ps_ret (pv 2)))
  pss_nil)
  (pss_one (ps_ret (pe_callTy call_tuple_of (by rfl) T.b_tuple (by decide +kernel) (pa_cons (pv 2) pa_nil)))))))))), ?_⟩
    have h9 : (0 : Int) < 9 := by decide
    refine y_when (z := z) (b := (!(isT d || isL d) || (decide (((itemsD d).length : Int) = 0) || (decide (((xs.map PyData.int).length : Int) < 9) || decide (xs[0] % 9 = 0))))) al ?_ (fun e H1 e1 => ?_) fun e H1 e1 => ?_
    · exact yt_or (yt_not (yt_val (yb_isiT2 (z := z.w n) (yl_var rfl hd)))) fun h0 => yt_or (yt_test (yb_eqI (yi_lenQ (z := z.w n) (yl_var rfl hd) (by rw [Bool.not_eq_false'] at h0; exact h0)) yi_c)) fun _ => yt_or (yt_test (yb_c1 (yi_lenL (z := z.w 1000) (yl_var rfl hp)) yi_c)) fun _ => yt_test (yb_eqI (yi_oc (yi_ixI (z := z.w 1000) (k := 0) (yl_var rfl hp) (by omega)) yi_c h9) yi_c)
    · refine y_ret (z := z.w 30) (R := fun _ => True) (al.up e1) (yl_odd (yl_picks (k := 1) (yl_var rfl (hp.mono e1))) (by rw [List.length_drop]; omega)) fun v' d' H2 e2 hd2 _ => ?_
      exact q v' d' H2 (e1.trans e2) (hd2.wide (m := n + 1) (by show 30 ≤ n + 1; omega))
    simp only [Bool.or_eq_false_iff, Bool.not_eq_false', decide_eq_false_iff_not, List.length_map] at e
    obtain ⟨hq, hl0, hl9, _⟩ := e
    have a1 := al.up e1
    obtain ⟨ad, ys, rfl, hS, hY, hyn⟩ := (hd.mono e1).items (K := K) (by rw [Bool.or_eq_true]; simpa using hq)
    have hyl := hY.length
    generalize hds : itemsD d = ds at hY hyl hl0
    -- pieces = list(thing)
    refine ⟨_, rfl, ad, ys, rfl, hS, fun L nL => ?_⟩
    have nLp := a1.ne nL
    have nL0 : H L = none := e1.free al.1 nL
    have e2 : ExB z.p H (upd H1 L (.lst ys)) := e1.trans (.new nL)
    have hL : upd H1 L (.lst ys) L = some (.lst ys) := upd_same
    have hA : DtAll ((z.w n).av L) (upd H1 L (.lst ys)) ys ds := (hY.to (.av nL)).mono (.new nL)
    generalize upd H1 L (.lst ys) = H2 at e2 hL hA
    have mk {H' : Hp} (h1 : H' L = some (.lst ys)) (h2 : DtAll ((z.w n).av L) H' ys ds) : Dt (z.w n) H' (.ref L) (.list ds) := .lst nLp h1 hyn (h2.to .unav)
    dsimp only
    -- at
    refine y_asgI (z := z) (A := fun i => 0 ≤ i ∧ i < (ds.length : Int)) (al.up e2) (YI.imp (yi_oc (yi_ixI (z := z.w 1000) (k := 1) (yl_var rfl (hp.mono e2)) (by omega)) (yi_lenL (z := z.w n) (yl_var rfl (mk hL hA))) ?_) fun i e => ?_) fun j H3 e3 hj => ?_
    · show (0 : Int) < ds.length
      omega
    · rw [e]
      exact ⟨Int.emod_nonneg _ (by omega), Int.emod_lt_of_pos _ (by omega)⟩
    replace hL := e3.keep L _ nLp.1 hL
    replace hA := hA.mono e3
    replace e2 := e2.trans e3
    clear e3
    dsimp only
    -- turn_by
    refine y_asgI (z := z) (A := fun _ => True) (al.up e2) (YI.imp (yi_oc (yi_ixI (z := z.w 1000) (k := 2) (yl_var rfl (hp.mono e2)) (by omega)) yi_c ?_) fun i e => trivial) fun tb H4 e3 _ => ?_
    · show (0 : Int) < 12
      decide
    replace hL := e3.keep L _ nLp.1 hL
    replace hA := hA.mono e3
    replace e2 := e2.trans e3
    clear e3
    have a4 := al.up e2
    have hp4 := hp.mono e2
    have DL : Dt (z.w (n + 1)) H4 (.ref L) (.list ds) := (mk hL hA).wide (m := n + 1) (by show n ≤ n + 1; omega)
    have hzn : (z.w (n + 1)).n ≤ sizeLine := Nat.le_trans (by show n + 1 ≤ 100000; omega) (by decide)
    have ldn : ds.length ≤ n := by rw [← hyl]; exact hyn
    have j0 := hj.1
    have jl : j.toNat < ds.length := by omega
    dsimp only
    refine ⟨fun σ' H' => ∃ (pv : V) (ds' : List PyData), σ' = [some (.ref ad), some vp, some pv, some (.int j), some (.int tb)] ∧ ExB z.p H H' ∧ Dt (z.w (n + 1)) H' pv (.list ds'), ?_, fun σ' H' hM => ?_⟩
    · refine y_if (z := z) (b := decide (tb = 0)) a4 (yt_test (yb_eqI (yi_var rfl) yi_c)) (fun _ H5 e5 => ?_) fun _ H5 e5 => ?_
      · refine y_asg (z := z.w (n + 1)) (R := fun d => ∃ ds', d = .list ds') (a4.up e5) (Yl.imp (yl_cat1 (yl_toL (yl_var rfl (DL.mono e5)) (yi_var rfl) j0) (yl_fromL (yl_var rfl (DL.mono e5)) (yi_o (yi_var rfl) yi_c) (by omega)) ?_ hzn) fun d e => ⟨_, e⟩) fun v' d' H6 e6 hd6 ⟨ds', hr6⟩ => ⟨v', ds', rfl, (e2.trans e5).trans e6, by rw [← hr6]; exact hd6⟩
        rw [List.length_take, List.length_drop]
        show _ ≤ n + 1
        omega
      refine y_if (z := z) (b := decide (tb = 1)) (a4.up e5) (yt_test (yb_eqI (yi_var rfl) yi_c)) (fun _ H6 e6 => ?_) fun _ H6 e6 => ?_
      · replace e5 := e5.trans e6
        refine y_asg (z := z.w (n + 1)) (R := fun d => ∃ ds', d = .list ds') (a4.up e5) (Yl.imp (yl_cat1 (yl_toL (yl_var rfl (DL.mono e5)) (yi_o (yi_var rfl) yi_c) (by omega)) (yl_fromL (yl_var rfl (DL.mono e5)) (yi_var rfl) j0) ?_ hzn) fun d e => ⟨_, e⟩) fun v' d' H6 e6 hd6 ⟨ds', hr6⟩ => ⟨v', ds', rfl, (e2.trans e5).trans e6, by rw [← hr6]; exact hd6⟩
        rw [List.length_take, List.length_drop]
        show _ ≤ n + 1
        omega
      replace e5 := e5.trans e6
      clear e6
      refine y_if (z := z) (b := decide (tb = 2)) (a4.up e5) (yt_test (yb_eqI (yi_var rfl) yi_c)) (fun _ H7 e6 => ?_) fun _ H7 e6 => ?_
      · replace e5 := e5.trans e6
        refine y_asg (z := z.w (n + 1)) (R := fun d => ∃ ds', d = .list ds') (a4.up e5) (Yl.imp (yl_cat1 (yl_fromL (yl_var rfl (DL.mono e5)) (yi_var rfl) j0) (yl_toL (yl_var rfl (DL.mono e5)) (yi_var rfl) j0) ?_ hzn) fun d e => ⟨_, e⟩) fun v' d' H6 e6 hd6 ⟨ds', hr6⟩ => ⟨v', ds', rfl, (e2.trans e5).trans e6, by rw [← hr6]; exact hd6⟩
        rw [List.length_take, List.length_drop]
        show _ ≤ n + 1
        omega
      replace e5 := e5.trans e6
      clear e6
      refine y_if (z := z) (b := decide (tb = 3)) (a4.up e5) (yt_test (yb_eqI (yi_var rfl) yi_c)) (fun _ H8 e6 => ?_) fun _ H8 e6 => ?_
      · replace e5 := e5.trans e6
        have odd1 : Yl (z.w (n + 1)) (tLst (tCons (tCall spOdd [] E0 (tCons (tSl (rSlL K) (tVar 1) (tPart (tC (.int ((3 : Nat) : Int)))) tNoPart) tNil)) tNil)) [some (.ref ad), some vp, some (.ref L), some (.int j), some (.int tb)] H8 (fun d => ∃ ds', d = .list ds' ∧ ds'.length ≤ 1) :=
          Yl.imp (any_lst (ya1 (Yl.wide (z := z.w 30) (yl_odd (yl_picks (k := 3) (yl_var rfl (hp4.mono e5))) (by rw [List.length_drop]; omega)) (by show 30 ≤ n + 1; omega)) ya0) (by show 1 ≤ n + 1; omega) hzn) fun d ⟨ds', h1, h2⟩ => ⟨ds', h1, by omega⟩
        refine y_asg (z := z.w (n + 1)) (R := fun d => ∃ ds', d = .list ds') (a4.up e5) (Yl.imp (any_catLe (j := j.toNat + 1) (k := ds.length - j.toNat) (any_catLe (j := j.toNat) (k := 1) (Yl.imp (yl_toL (yl_var rfl (DL.mono e5)) (yi_var rfl) j0) fun d e => ⟨_, e, by rw [List.length_take]; omega⟩) odd1 (by show _ ≤ n + 1; omega) hzn) (Yl.imp (yl_fromL (yl_var rfl (DL.mono e5)) (yi_var rfl) j0) fun d e => ⟨_, e, by rw [List.length_drop]; omega⟩) (by show _ ≤ n + 1; omega) hzn) fun d ⟨ds', e, _⟩ => ⟨ds', e⟩) fun v' d' H6 e6 hd6 ⟨ds', hr6⟩ => ⟨v', ds', rfl, (e2.trans e5).trans e6, by rw [← hr6]; exact hd6⟩
      replace e5 := e5.trans e6
      clear e6
      refine y_if (z := z) (b := decide ((4 : Int) < tb)) (a4.up e5) (yt_test (yb_c1 (yi_var rfl) yi_c)) (fun _ H9 e6 => ?_) fun _ H9 e6 => ?_
      · replace e5 := e5.trans e6
        have hL9 := e5.keep L _ nLp.1 hL
        have hA9 := hA.mono e5
        obtain ⟨dx, hdx⟩ : ∃ dx, ds[j.toNat]? = some dx := ⟨_, List.getElem?_eq_getElem jl⟩
        obtain ⟨x, hx1, hx2⟩ := hA9.at hdx
        have a9 := a4.up e5
        refine ⟨_, rfl, _, rfl, L, ys, j, x, rfl, rfl, .inl (.inl hL9), at_of (j := j.toNat) (by omega) hx1, ?_⟩
        have a9L : AlS ((z.av L).w 1000) H9 := a9.av ⟨_, hL9, fun _ e => nomatch e⟩
        have hp9 : Dt ((z.av L).w 1000) H9 vp (.list (xs.map PyData.int)) := ((hp.to (.av nL0)).mono e2).mono e5
        refine yl_picks (z := (z.av L).w 1000) (k := 4) (yl_var rfl hp9) H9 (.refl _ H9) a9L _ fun vp' d' H10 e10 hd10 hr10 => ?_
        subst hr10
        refine ⟨z.av L, n, x, vp', dx, xs.drop 4, rfl, n1, n2, a9L.up e10, hx2.mono e10, hd10, by rw [List.length_drop]; omega, by rw [List.length_drop]; omega, fun v' d' H11 e11 hd11 => ?_⟩
        have hL11 := e11.keep L _ nLp.1 (e10.keep L _ nLp.1 hL9)
        have ix : ixN ys.length j = some j.toNat := by
          unfold ixN
          rw [if_pos j0, if_pos (by omega)]
        refine ⟨_, rfl, _, rfl, L, ys, j, j.toNat, rfl, rfl, hL11, ix, ?_⟩
        refine ⟨.ref L, ds.set j.toNat d', rfl, (((e2.trans e5).trans e10).trans e11).mut al.1 nL0, ?_⟩
        have hA11 : DtAll ((z.w (n + 1)).av L) H11 ys ds := ((hA9.mono e10).mono e11).wide (m := n + 1) (by show n ≤ n + 1; omega)
        refine .lst nLp upd_same (by rw [List.length_set]; show _ ≤ n + 1; have : ys.length ≤ n := hyn; omega) ?_
        have hA12 : DtAll ((z.w (n + 1)).av L) H11 (ys.set j.toNat v') (ds.set j.toNat d') := hA11.set hd11 _
        have hA13 : DtAll ((z.w (n + 1)).av L) (upd H11 L (.lst (ys.set j.toNat v'))) (ys.set j.toNat v') (ds.set j.toNat d') := hA12.to .mut
        exact hA13.to .unav
      · exact ⟨_, ds, rfl, (e2.trans e5).trans e6, (DL.mono e5).mono e6⟩
    · obtain ⟨pv, ds', rfl, e5, hd5⟩ := hM
      have a5 := al.up e5
      refine y_when (z := z) (b := decide (isiD "tuple" d = decide (tb = 4))) a5 (yt_test (yb_eqB (yb_isi (z := z.w n) okT_tuple (yl_var rfl (hd.mono e5))) (yb_eqI (yi_var rfl) yi_c))) (fun _ H6 e6 => ?_) fun _ H6 e6 => ?_
      · exact y_ret (z := z.w (n + 1)) (a5.up e6) (yl_var rfl (hd5.mono e6)) fun v' d' H7 e7 hd7 _ => q v' d' H7 ((e5.trans e6).trans e7) hd7
      · exact y_ret (z := z.w (n + 1)) (a5.up e6) (yl_tupL (R := fun _ => True) (Yl.imp (yl_var rfl (hd5.mono e6)) fun d e => ⟨_, e, trivial⟩)) fun v' d' H7 e7 hd7 _ => q v' d' H7 ((e5.trans e6).trans e7) hd7
end
end Pb
namespace Pb
open PySem L2
theorem yl_spoilt {z : Fz} {n : Nat} {ta tp : TE} {σ : L2.St} {H : Hp} {E : XK} {R : PyData → Prop} (h : Yl (z.w n) ta σ H R) (hp : Yl (z.w 1000) tp σ H (fun d => ∃ xs : List Int, d = .list (xs.map PyData.int) ∧ 10 ≤ xs.length ∧ xs.length ≤ 400)) (n1 : 30 ≤ n) (n2 : n ≤ 50000) :
    Yl (z.w (n + 1)) (tCall (spSpoilt 101) [] E (tCons ta (tCons tp tNil))) σ H (fun _ => True) := fun H1 e a Q q =>
  h H1 e a _ fun v d H2 e2 hd _ => hp H2 (e.trans e2) (a.up e2) _ fun vp dp H3 e3 hdp ⟨xs, hr, l1, l2⟩ => by
    subst hr
    exact ⟨z, n, v, vp, d, xs, rfl, n1, n2, (a.up e2).up e3, hd.mono e3, hdp, by omega, by omega, fun v' d' H4 e4 hd4 => q v' d' H4 ((e2.trans e3).trans e4) hd4 trivial⟩
local macro_rules | `(tactic| walk_at "lit") => `(tactic| first
  | exact ya0
  | exact Yl.any yl_int | exact Yl.any yl_bl | exact Yl.any yl_non
  | exact Yl.any (yl_var rfl (by assumption))
  | exact Yl.any (yl_strK (by decide +kernel) (by assumption))
  | (refine ya1 ?_ ?_ <;> walk_at "lit")
  | (refine Yl.any (any_tup (k := 0) ?_ (Nat.le_trans (m := 30) (by decide) (by assumption)) (by assumption)); (walk_at "lit"))
  | (refine Yl.any (any_tup (k := 1) ?_ (Nat.le_trans (m := 30) (by decide) (by assumption)) (by assumption)); (walk_at "lit"))
  | (refine Yl.any (any_tup (k := 2) ?_ (Nat.le_trans (m := 30) (by decide) (by assumption)) (by assumption)); (walk_at "lit"))
  | (refine Yl.any (any_tup (k := 3) ?_ (Nat.le_trans (m := 30) (by decide) (by assumption)) (by assumption)); (walk_at "lit"))
  | exact Yl.any (YI.l1 (yi_neg yi_c))
  | exact Yl.any (YI.l1 (yi_oc yi_c yi_c ⟨by decide, by decide, by decide⟩))
  | exact Yl.any (YI.l1 (yi_o (yi_oc yi_c yi_c ⟨by decide, by decide, by decide⟩) yi_c))
  | exact Yl.any (yl_listT (R := fun _ => True) (Yl.imp (yl_var rfl (by assumption)) fun d e => ⟨_, e, trivial⟩))
  | assumption)
def spLaw (K : PySem.W.Frag) : Sp := fun vs H Q _ => ∃ (a : Addr) (ns : List Int), vs = [.ref a] ∧ SqL K H a (ns.map V.int) ∧ ns.length ≤ 63 ∧ ∀ H', Q (.bl true) H'
section
variable {P : Program} {w : World} {K : PySem.W.Frag} {mg : Str → Option Value} {base : Heap} {k0 k1 k2 : Tok}
abbrev s_law : Stmt := topS 26
abbrev N_law : List Str := ["script", "bag", "state", "once", "bills", "folk", "things", "number", "name", "names", "thing"]
theorem sc_law : FnScope N_law ["script"] (defScope s_law) := ⟨rfl, rfl, rfl, by decide +kernel, rfl, by decide +kernel, by decide +kernel⟩
theorem ok_law {f_law : Addr} {fd_law : FuncData} (D_law : Df K mg "law" s_law ["script"] f_law fd_law) {f__law_bags : Addr} {fd__law_bags : FuncData} (D__law_bags : Df K mg "_law_bags" s__law_bags ["script", "limit"] f__law_bags fd__law_bags) {f__law_a_state : Addr} {fd__law_a_state : FuncData} (D__law_a_state : Df K mg "_law_a_state" s__law_a_state ["bag", "most", "far"] f__law_a_state fd__law_a_state) {f__law_spoilt : Addr} {fd__law_spoilt : FuncData} (D__law_spoilt : Df K mg "_law_spoilt" s__law_spoilt ["thing", "picks"] f__law_spoilt fd__law_spoilt) {f__law_names : Addr} {fd__law_names : FuncData} (D__law_names : Df K mg "_law_names" s__law_names ["many"] f__law_names fd__law_names) {f__law_odd : Addr} {fd__law_odd : FuncData} (D__law_odd : Df K mg "_law_odd" s__law_odd ["picks"] f__law_odd fd__law_odd) {f_is_state : Addr} {fd_is_state : FuncData} (D_is_state : Df K mg "is_state" s_is_state ["thing"] f_is_state fd_is_state) {f__law_is_state : Addr} {fd__law_is_state : FuncData} (D__law_is_state : Df K mg "_law_is_state" s__law_is_state ["thing"] f__law_is_state fd__law_is_state) (G__law_bags : FnOk P w K mg base CX0 3 f__law_bags fd__law_bags ["script", "limit"] (spBags K)) (G__law_a_state : FnOk P w K mg base CX0 3 f__law_a_state fd__law_a_state ["bag", "most", "far"] spState) (G__law_spoilt : FnOk P w K mg base CX0 103 f__law_spoilt fd__law_spoilt ["thing", "picks"] (spSpoilt 101)) (G__law_names : FnOk P w K mg base CX0 1 f__law_names fd__law_names ["many"] spNames) (G__law_odd : FnOk P w K mg base CX0 1 f__law_odd fd__law_odd ["picks"] spOdd) (G_is_state : FnOk P w K mg base CX0 3 f_is_state fd_is_state ["thing"] (spOne isStateD)) (G__law_is_state : FnOk P w K mg base CX0 2 f__law_is_state fd__law_is_state ["thing"] (spOne isStateD)) (T : Bt mg k0 k1 k2) : FnOk P w K mg base CX0 104 f_law fd_law ["script"] (spLaw K) := by
  refine D_law.F.ok sc_law (fun vs H Q E h => ?_) (fun cdv A outer s H vs Q E hr h => ?_)
  · obtain ⟨a, ns, rfl, _⟩ := h
    rfl
  obtain ⟨a, ns, rfl, hS, hlen, q⟩ := h
  refine ⟨_, (pss_cons (ps_for PassesOwn.never rfl (pi_list (pe_call G__law_bags (hr.mono (by omega)) (by rfl) D__law_bags.g D__law_bags.F.kp D__law_bags.b .nil pass0 (pa_cons (pv 0) (pa_cons pe_int pa_nil)))) (pg_name (i := 1) sc_law.nd rfl (Or.inl rfl))
  (pss_cons (ps_set (i := 2) sc_law.nd rfl (Or.inl rfl) (pe_call G__law_a_state (hr.mono (by omega)) (by rfl) D__law_a_state.g D__law_a_state.F.kp D__law_a_state.b .nil pass0 (pa_cons (pv 1) (pa_cons pe_int (pa_cons (pe_op op_pow pe_int pe_int) pa_nil)))))
  (pss_cons (ps_set (i := 3) sc_law.nd rfl (Or.inl rfl) (pe_call G__law_spoilt (hr.mono (by omega)) (by rfl) D__law_spoilt.g D__law_spoilt.F.kp D__law_spoilt.b .nil pass0 (pa_cons (pv 2) (pa_cons (pe_slice sl_list (pe_ix ix_list (pv 1) pe_int (fun _ _ => rfl)) (po_some (pe_op op_mod (pe_ix ix_list (pv 1) pe_int (fun _ _ => rfl)) pe_int)) po_none) pa_nil))))
  (pss_cons (ps_asg (pv 2) (pg_tup (by rfl) (pgs_cons (pg_name (i := 4) sc_law.nd rfl (Or.inl rfl)) (pgs_cons (pg_name (i := 5) sc_law.nd rfl (Or.inl rfl)) pgs_nil))))
  (pss_cons (ps_set (i := 6) sc_law.nd rfl (Or.inl rfl) (pe_lst (pa_cons (pv 2) (pa_cons (pv 3) (pa_cons (pe_call G__law_spoilt (hr.mono (by omega)) (by rfl) D__law_spoilt.g D__law_spoilt.F.kp D__law_spoilt.b .nil pass0 (pa_cons (pv 3) (pa_cons (pe_slice sl_list (pe_ix ix_list (pv 1) pe_int (fun _ _ => rfl)) (po_some (pe_op op_add (pe_op op_mod (pe_ix ix_list (pv 1) pe_int (fun _ _ => rfl)) pe_int) pe_int)) po_none) pa_nil))) pa_nil)))))
  (pss_cons (ps_set (i := 6) sc_law.nd rfl (Or.inl rfl) (pe_op op_cat (pv 6) (pe_lst (pa_cons (pe_callTy call_list_of (by rfl) T.b_list (by decide +kernel) (pa_cons (pv 2) pa_nil)) (pa_cons (pe_tup (pa_cons (pv 4) (pa_cons (pe_callTy call_list_of (by rfl) T.b_list (by decide +kernel) (pa_cons (pv 5) pa_nil)) pa_nil))) (pa_cons (pv 5) pa_nil))))))
  (pss_cons (ps_for PassesOwn.never rfl (pi_tup (pe_tup (pa_cons pe_int (pa_cons pe_int (pa_cons (pe_un un_neg pe_int) (pa_cons (pe_op op_pow pe_int pe_int) (pa_cons (pe_op op_add (pe_op op_pow pe_int pe_int) pe_int) (pa_cons pe_bl (pa_cons pe_non (pa_cons pe_str pa_nil)))))))))) (pg_name (i := 7) sc_law.nd rfl (Or.inl rfl))
  (pss_one (ps_set (i := 6) sc_law.nd rfl (Or.inl rfl) (pe_op op_cat (pv 6) (pe_lst (pa_cons (pe_tup (pa_cons (pv 7) (pa_cons (pv 5) pa_nil))) (pa_cons (pe_tup (pa_cons (pv 7) (pa_cons (pe_tup pa_nil) pa_nil))) (pa_cons (pe_tup (pa_cons (pv 7) (pa_cons (pe_tup (pa_cons pe_str (pa_cons pe_str pa_nil))) pa_nil))) pa_nil))))))))
  (pss_cons (ps_for PassesOwn.never rfl (pi_tup (pe_tup (pa_cons pe_str (pa_cons pe_str (pa_cons pe_str (pa_cons pe_str (pa_cons pe_str (pa_cons pe_non (pa_cons pe_int (pa_cons (pe_tup (pa_cons pe_str pa_nil)) pa_nil)))))))))) (pg_name (i := 8) sc_law.nd rfl (Or.inl rfl))
  (pss_one (ps_set (i := 6) sc_law.nd rfl (Or.inl rfl) (pe_op op_cat (pv 6) (pe_lst (pa_cons (pe_tup (pa_cons (pv 4) (pa_cons (pe_op op_catA (pe_slice sl_tupA (pv 5) (po_some pe_int) po_none) (pe_tup (pa_cons (pv 8) pa_nil))) pa_nil))) (pa_cons (pe_tup (pa_cons pe_int (pa_cons (pe_tup (pa_cons (pv 8) pa_nil)) pa_nil))) (pa_cons (pe_tup (pa_cons pe_int (pa_cons (pe_tup (pa_cons pe_str (pa_cons (pv 8) pa_nil))) pa_nil))) pa_nil))))))))
  (pss_cons (ps_set (i := 9) sc_law.nd rfl (Or.inl rfl) (pe_callTy call_tuple_of (by rfl) T.b_tuple (by decide +kernel) (pa_cons (pe_call G__law_names (hr.mono (by omega)) (by rfl) D__law_names.g D__law_names.F.kp D__law_names.b .nil pass0 (pa_cons pe_int pa_nil)) pa_nil)))
  (pss_cons (ps_set (i := 6) sc_law.nd rfl (Or.inl rfl) (pe_op op_cat (pv 6) (pe_lst (pa_cons (pe_tup (pa_cons pe_int (pa_cons (pe_slice sl_tupA (pv 9) po_none (po_some pe_int)) pa_nil))) (pa_cons (pe_tup (pa_cons pe_int (pa_cons (pv 9) pa_nil))) (pa_cons (pe_tup (pa_cons pe_int (pa_cons (pe_op op_catA (pe_slice sl_tupA (pv 9) po_none (po_some pe_int)) (pe_slice sl_tupA (pv 9) po_none (po_some pe_int))) pa_nil))) pa_nil))))))
  (pss_cons (ps_set (i := 6) sc_law.nd rfl (Or.inl rfl) (pe_op op_cat (pv 6) (pe_lst (pa_cons (pe_tup (pa_cons pe_int pa_nil)) (pa_cons (pe_tup (pa_cons pe_int (pa_cons (pe_slice sl_tupA (pv 9) po_none (po_some pe_int)) (pa_cons pe_int pa_nil)))) (pa_cons (pe_tup (pa_cons (pe_slice sl_tupA (pv 9) po_none (po_some pe_int)) (pa_cons pe_int pa_nil))) pa_nil))))))
  (pss_one (ps_for PassesOwn.never rfl (pi_list (pe_op op_cat (pv 6) (pe_lst (pa_cons (pe_call G__law_odd (hr.mono (by omega)) (by rfl) D__law_odd.g D__law_odd.F.kp D__law_odd.b .nil pass0 (pa_cons (pe_slice sl_list (pe_ix ix_list (pv 1) pe_int (fun _ _ => rfl)) (po_some (pe_op op_mod (pe_ix ix_list (pv 1) pe_int (fun _ _ => rfl)) pe_int)) po_none) pa_nil)) (pa_cons (pe_call G__law_odd (hr.mono (by omega)) (by rfl) D__law_odd.g D__law_odd.F.kp D__law_odd.b .nil pass0 (pa_cons (pe_slice sl_list (pe_ix ix_list (pv 1) pe_int (fun _ _ => rfl)) (po_some (pe_op op_add (pe_op op_mod (pe_ix ix_list (pv 1) pe_int (fun _ _ => rfl)) pe_int) pe_int)) po_none) pa_nil)) pa_nil))))) (pg_name (i := 10) sc_law.nd rfl (Or.inl rfl))
  (pss_one (ps_if (pt_cmpR op_ne (pe_callB call_repr_bool (by rfl) T.b_repr (by decide +kernel) (pa_cons (pe_call G_is_state (hr.mono (by omega)) (by rfl) D_is_state.g D_is_state.F.kp D_is_state.b .nil pass0 (pa_cons (pv 10) pa_nil)) pa_nil)) (pe_callB call_repr_bool (by rfl) T.b_repr (by decide +kernel) (pa_cons (pe_call G__law_is_state (hr.mono (by omega)) (by rfl) D__law_is_state.g D__law_is_state.F.kp D__law_is_state.b .nil pass0 (pa_cons (pv 10) pa_nil)) pa_nil)) (nomark _))
  (pss_one (ps_ret pe_bl))
  pss_nil)))))))))))))))
  (pss_one (ps_ret (pe_and (pe_cmpR op_isBl (pe_call G_is_state (hr.mono (by omega)) (by rfl) D_is_state.g D_is_state.F.kp D_is_state.b .nil pass0 (pa_cons (pe_tup (pa_cons pe_int (pa_cons (pe_tup pa_nil) pa_nil))) pa_nil)) pe_bl (nomark _)) (pe_one (pe_cmpR op_isBl (pe_call G_is_state (hr.mono (by omega)) (by rfl) D_is_state.g D_is_state.F.kp D_is_state.b .nil pass0 (pa_cons (pe_tup (pa_cons pe_int (pa_cons (pe_tup pa_nil) pa_nil))) pa_nil)) pe_bl (nomark _))))))), ?_⟩
  refine ⟨_, rfl, a, ns, 10, rfl, hS, by decide, by decide, fun l bs H0 sm hl bags bl => ?_⟩
  refine ⟨l, rfl, ⟨_, .inl (.inl hl)⟩, for_list (K := K) (xs := bs.map V.ref) (fun i σ H' => (∃ y1 y2 y3 y4 y5 y6 y7 y8 y9 y10, σ = [some (.ref a), y1, y2, y3, y4, y5, y6, y7, y8, y9, y10]) ∧ H' l = some (.lst (bs.map V.ref)) ∧ ∀ j b, i ≤ j → bs[j]? = some b → b ≠ l ∧ ∃ q, BagQ b q H')
    ⟨⟨_, _, _, _, _, _, _, _, _, _, rfl⟩, hl, fun j b _ hb => ?_⟩ (fun i σ H' _ w => .inl (.inl w.2.1)) (fun i x σ H' hi w => ?_) fun σ H' w => ?_⟩
  · obtain ⟨qq, hq⟩ := bags.2 b (List.mem_of_getElem? hb)
    refine ⟨fun e => ?_, qq, hq⟩
    obtain ⟨k, xs, _, _, _, h4, _⟩ := hq
    rw [e, hl] at h4
    have h5 := HO.lst.inj (Option.some.inj h4)
    have h6 : bs.length = 2 := by
      have := congrArg List.length h5
      rw [List.length_map] at this
      exact this
    match bs, h6 with
    | [b1, b2], _ => cases h5
  · obtain ⟨⟨y1, y2, y3, y4, y5, y6, y7, y8, y9, y10, rfl⟩, hl', hb'⟩ := w
    obtain ⟨b, hb, rfl⟩ : ∃ b, bs[i]? = some b ∧ x = .ref b := by
      rw [List.getElem?_map] at hi
      cases e : bs[i]? with
      | none => rw [e] at hi; cases hi
      | some b => rw [e] at hi; exact ⟨b, rfl, (Option.some.inj hi).symm⟩
    obtain ⟨nbl, qq, bq⟩ := hb' i b (Nat.le_refl i) hb
    generalize hzz : (⟨1000, b, []⟩ : Fz) = z
    have zp : z.p = b := by rw [← hzz]
    have zn : z.n = 1000 := by rw [← hzz]
    have zS : ∀ x, x ∉ z.S := by rw [← hzz]; exact fun _ h => nomatch h
    have zw : z.w 1000 = z := by rw [← hzz]
    clear hzz
    subst zp
    have n30 : 30 ≤ z.n := by omega
    have hz : z.n ≤ sizeLine := Nat.le_trans (by omega : z.n ≤ 1000) (by decide)
    have hn : z.n ≤ 100000 := by omega
    have al : AlS z H' := ⟨bag_al bq, fun x h => absurd h (zS x)⟩
    -- state
    refine y_asg (z := z.w 100) (R := Drawn 40 ((10 : Int) ^ Int.toNat 18)) al (yl_state (most := 40) rfl bq (YI.imp yi_c fun i e => e) (yi_oc yi_c yi_c ⟨by decide, by decide, by decide⟩) (by decide) (by decide) (by show 100 ≤ 100; decide) (by show 100 ≤ 100000; decide)) fun v2 d2 H1 e1 F2 hr2 => ?_
    obtain ⟨ib, fs, rfl, _, _, _, fl, _, _⟩ := hr2.ex
    have b1 := e1.bag qq bq
    dsimp only
    -- once
    refine y_asg (z := z.w 101) (R := fun _ => True) (al.up e1) (yl_spoilt (n := 100) (yl_var rfl F2) (yl_bagcut rfl b1 (zS _) (by show 400 ≤ 1000; decide) (YI.imp (yi_mod (yi_bag1 rfl b1) (by decide)) fun i h => ⟨h.1, by omega⟩)) (by decide) (by decide)) fun v3 d3 H2 e2 F3 _ => ?_
    replace F2 := F2.mono e2
    replace e1 := e1.trans e2
    clear e2 b1
    have b1 := e1.bag qq bq
    dsimp only
    -- bills, folk = state
    refine y_unpack2 rfl F2 fun v4 v5 F4 F5 => ?_
    cases F4
    have F2w : Dt z H2 v2 _ := zw ▸ F2.wide (m := 1000) (by show 100 ≤ 1000; decide)
    have F3w : Dt z H2 v3 d3 := zw ▸ F3.wide (m := 1000) (by show 101 ≤ 1000; decide)
    have F5w : Dt z H2 v5 (.tuple (fs.map PyData.str)) := zw ▸ F5.wide (m := 1000) (by show 100 ≤ 1000; decide)
    have F4w : Dt z H2 (.int ib) (.int ib) := .int ib
    dsimp only
    -- things
    refine y_asg (z := z) (R := fun d => ∃ ds : List PyData, d = .list ds ∧ ds.length = 3) (al.up e1) (any_lst ?_ (by omega) hz) fun v6 d6 H3 e2 F6 hr6 => ?_
    · refine ya1 (Yl.any (yl_var rfl F2w)) (ya1 (Yl.any (yl_var rfl F3w)) (ya1 ?_ ya0))
      rw [← zw]
      exact Yl.wide (z := z.w 102) (yl_spoilt (n := 101) (yl_var rfl F3) (yl_bagcut rfl b1 (zS _) (by show 400 ≤ 1000; decide) (YI.imp (yi_op0 (yi_mod (yi_bag1 rfl b1) (by decide)) yi_c) fun i h => by obtain ⟨x, y, h1, h2, h3⟩ := h; rw [h3, h2]; exact ⟨by omega, by omega⟩)) (by decide) (by decide)) (by show 102 ≤ 1000; decide)
    obtain ⟨ds6, rfl, l6⟩ := hr6
    replace F2w := F2w.mono e2
    replace F5w := F5w.mono e2
    replace e1 := e1.trans e2
    clear e2 b1 F2 F3 F3w F5
    dsimp only
    -- things + [list(state), (bills, list(folk)), folk]
    refine y_asg (z := z) (R := fun d => ∃ ds : List PyData, d = .list ds ∧ ds.length = 3 + 3) (al.up e1) (any_cat (Yl.imp (yl_var rfl F6) fun d e => ⟨_, e, l6⟩) (any_lst ?_ (by omega) hz) (by omega) hz) fun v6 d6 H4 e2 F6 hr6 => ?_
    · have F4w : Dt z H3 (.int ib) (.int ib) := .int ib
      walk_at "lit"
    obtain ⟨ds6, rfl, l6⟩ := hr6
    replace F5w := F5w.mono e2
    replace e1 := e1.trans e2
    clear e2 F2w
    dsimp only
    -- for number
    refine y_forT (z := z) (Rs := fun ds => ds.length = 8) (al.up e1) (any_tup (k := 8) ?_ (by omega) hz) (fun _ i σ' H' => ∃ v6 ds6 y7, σ' = [some (.ref a), some (.ref z.p), some v2, some v3, some (.int ib), some v5, some v6, y7, y8, y9, y10] ∧ Dt z H' v6 (.list ds6) ∧ ds6.length = 6 + 3 * i) (fun ds H5 _ e => ⟨v6, ds6, y7, rfl, F6.mono e, l6⟩) ?_ fun ds σ' H5 H6 hds e5 e6 hP => ?_
    · walk_at "lit"
    · rintro ds i x d σ' H5 H6 hds e5 e6 ⟨v6, ds6, y7, rfl, F6, l6⟩ hd hx
      have hi : i < 8 := by rw [← hds]; exact (List.getElem?_eq_some_iff.mp hd).1
      have F5x := F5w.mono (e5.trans e6)
      refine y_asg (z := z) (R := fun d => ∃ ds : List PyData, d = .list ds ∧ ds.length = 6 + 3 * i + 3) (al.up (e1.trans (e5.trans e6))) (any_cat (Yl.imp (yl_var rfl F6) fun d e => ⟨_, e, l6⟩) (any_lst ?_ (by omega) hz) (by omega) hz) fun v6 d6 H7 e7 F6 hr6 => ?_
      · walk_at "lit"
      · obtain ⟨ds6, rfl, l6⟩ := hr6
        exact ⟨e6.trans e7, v6, ds6, _, rfl, F6, by omega⟩
    obtain ⟨v6, ds6, y7, rfl, F6, l6⟩ := hP
    rw [hds] at l6
    replace F5w := F5w.mono (e5.trans e6)
    replace e1 := e1.trans (e5.trans e6)
    clear e5 e6
    dsimp only
    -- for name
    refine y_forT (z := z) (Rs := fun ds => ds.length = 8) (al.up e1) (any_tup (k := 8) ?_ (by omega) hz) (fun _ i σ' H' => ∃ v6 ds6 y8, σ' = [some (.ref a), some (.ref z.p), some v2, some v3, some (.int ib), some v5, some v6, y7, y8, y9, y10] ∧ Dt z H' v6 (.list ds6) ∧ ds6.length = 30 + 3 * i) (fun ds H5 _ e => ⟨v6, ds6, y8, rfl, F6.mono e, l6⟩) ?_ fun ds σ' H7 H8 hds e5 e6 hP => ?_
    · walk_at "lit"
    · rintro ds i x d σ' H7 H8 hds e5 e6 ⟨v6, ds6, y8, rfl, F6, l6⟩ hd hx
      have hi : i < 8 := by rw [← hds]; exact (List.getElem?_eq_some_iff.mp hd).1
      have F5x := F5w.mono (e5.trans e6)
      have F4x : Dt z H8 (.int ib) (.int ib) := .int ib
      have cat1 : Yl z (tOp (rCatA K) (tSl (rSlA K) (tVar 5) (tPart (tC (.int 1))) tNoPart) (tTup (tCons (tVar 8) tNil))) [some (.ref a), some (.ref z.p), some v2, some v3, some (.int ib), some v5, some v6, y7, some x, y9, y10] H8 (fun _ => True) :=
        Yl.any (yl_catT1 (yl_fromT (yl_var rfl F5x) yi_c (by decide)) (yl_tup1 (ya_c1 (yl_var rfl hx) ya_nil) (by show 1 ≤ z.n; omega) hz) (by rw [List.length_drop, List.length_map]; show _ + 1 ≤ z.n; omega) hz)
      refine y_asg (z := z) (R := fun d => ∃ ds : List PyData, d = .list ds ∧ ds.length = 30 + 3 * i + 3) (al.up (e1.trans (e5.trans e6))) (any_cat (Yl.imp (yl_var rfl F6) fun d e => ⟨_, e, l6⟩) (any_lst ?_ (by omega) hz) (by omega) hz) fun v6 d6 H7 e7 F6 hr6 => ?_
      · refine ya1 (Yl.any (any_tup (k := 2) (ya1 (Yl.any (yl_var rfl F4x)) (ya1 cat1 ya0)) (by omega) hz)) ?_
        walk_at "lit"
      · obtain ⟨ds6, rfl, l6⟩ := hr6
        exact ⟨e6.trans e7, v6, ds6, _, rfl, F6, by omega⟩
    obtain ⟨v6, ds6, y8, rfl, F6, l6⟩ := hP
    rw [hds] at l6
    replace F5w := F5w.mono (e5.trans e6)
    replace e1 := e1.trans (e5.trans e6)
    clear e5 e6
    dsimp only
    -- names
    refine y_asg (z := z) (R := fun d => ∃ ds : List PyData, d = .tuple ds ∧ ds.length = 41) (al.up e1) (Yl.imp (yl_tupL (R := fun d => ∃ ds : List PyData, d = .tuple ds ∧ ds.length = 41) (Yl.imp (yl_names yi_c (by decide) (by omega) hn) fun d e => ⟨_, e, _, rfl, ?_⟩)) fun d ⟨_, _, h⟩ => h) fun v9 d9 H9 e2 F9 hr9 => ?_
    · rw [List.length_map, List.length_take, namesL_len]; decide
    obtain ⟨ds9, rfl, l9⟩ := hr9
    replace F6 := F6.mono e2
    replace e1 := e1.trans e2
    clear e2
    dsimp only
    refine y_asg (z := z) (R := fun d => ∃ ds : List PyData, d = .list ds ∧ ds.length = 54 + 3) (al.up e1) (any_cat (Yl.imp (yl_var rfl F6) fun d e => ⟨_, e, l6⟩) (any_lst ?_ (by omega) hz) (by omega) hz) fun v6 d6 H10 e2 F6 hr6 => ?_
    · refine ya1 (Yl.any (any_tup (k := 2) (ya1 (Yl.any yl_int) (ya1 (Yl.any (yl_toT (yl_var rfl F9) yi_c (by decide))) ya0)) (by omega) hz)) (ya1 (Yl.any (any_tup (k := 2) (ya1 (Yl.any yl_int) (ya1 (Yl.any (yl_var rfl F9)) ya0)) (by omega) hz)) (ya1 (Yl.any (any_tup (k := 2) (ya1 (Yl.any yl_int) (ya1 (Yl.any (yl_catT1 (yl_toT (yl_var rfl F9) yi_c (by decide)) (yl_toT (yl_var rfl F9) yi_c (by decide)) ?_ hz)) ya0)) (by omega) hz)) ya0))
      rw [List.length_take, List.length_take]
      omega
    obtain ⟨ds6, rfl, l6⟩ := hr6
    replace F9 := F9.mono e2
    replace e1 := e1.trans e2
    clear e2
    dsimp only
    refine y_asg (z := z) (R := fun d => ∃ ds : List PyData, d = .list ds ∧ ds.length = 54 + 3 + 3) (al.up e1) (any_cat (Yl.imp (yl_var rfl F6) fun d e => ⟨_, e, l6⟩) (any_lst ?_ (by omega) hz) (by omega) hz) fun v6 d6 H11 e2 F6 hr6 => ?_
    · exact ya1 (Yl.any (any_tup (k := 1) (ya1 (Yl.any yl_int) ya0) (by omega) hz)) (ya1 (Yl.any (any_tup (k := 3) (ya1 (Yl.any yl_int) (ya1 (Yl.any (yl_toT (yl_var rfl F9) yi_c (by decide))) (ya1 (Yl.any yl_int) ya0))) (by omega) hz)) (ya1 (Yl.any (any_tup (k := 2) (ya1 (Yl.any (yl_toT (yl_var rfl F9) yi_c (by decide))) (ya1 (Yl.any yl_int) ya0)) (by omega) hz)) ya0))
    obtain ⟨ds6, rfl, l6⟩ := hr6
    replace e1 := e1.trans e2
    clear e2
    have b11 := e1.bag qq bq
    dsimp only
    -- for thing
    have odd1 {ti : TE} (hi : YI z ti [some (.ref a), some (.ref z.p), some v2, some v3, some (.int ib), some v5, some v6, y7, y8, some v9, y10] H11 (fun k => 0 ≤ k ∧ k ≤ 390)) : Yl z (tCall spOdd [] E0 (tCons (tSl (rSlL K) (tOp (rIxL K) (tVar 1) (tC (.int 0))) (tPart ti) tNoPart) tNil)) [some (.ref a), some (.ref z.p), some v2, some v3, some (.int ib), some v5, some v6, y7, y8, some v9, y10] H11 (fun _ => True) := by
      have hc := yl_bagcut (K := K) (z := z.w 1000) (i := 1) rfl b11 (zS _) (by show 400 ≤ 1000; decide) hi
      have : Yl (z.w 30) (tCall spOdd [] E0 (tCons (tSl (rSlL K) (tOp (rIxL K) (tVar 1) (tC (.int 0))) (tPart ti) tNoPart) tNil)) [some (.ref a), some (.ref z.p), some v2, some v3, some (.int ib), some v5, some v6, y7, y8, some v9, y10] H11 (fun _ => True) := fun H1 e al Q q => hc H1 e al _ fun v d H2 e2 hd ⟨xs, h1, h2, h3⟩ => by
        subst h1
        exact ⟨z, v, xs, rfl, al.up e2, hd, by omega, fun v d H3 e3 hd => q v d H3 (e2.trans e3) hd trivial⟩
      have := Yl.wide this (m := 1000) (by show 30 ≤ 1000; decide)
      rw [← zw]
      exact this
    refine y_forL (z := z) (Rs := fun ds => ds.length = 60 + 2) (al.up e1) (any_cat (Yl.imp (yl_var rfl F6) fun d e => ⟨_, e, l6⟩) (any_lst (ya1 (odd1 ?_) (ya1 (odd1 ?_) ya0)) (by omega) hz) (by omega) hz) (fun _ i σ' H' => ∃ y10, σ' = [some (.ref a), some (.ref z.p), some v2, some v3, some (.int ib), some v5, some v6, y7, y8, some v9, y10]) (fun ds H5 _ e => ⟨y10, rfl⟩) ?_ fun ds σ' H12 H13 hds e5 e6 hP => ?_
    · exact YI.imp (yi_mod (yi_bag1 rfl b11) (by decide)) fun i h => ⟨h.1, by omega⟩
    · exact YI.imp (yi_op0 (yi_mod (yi_bag1 rfl b11) (by decide)) yi_c) fun i h => by obtain ⟨x, y, h1, h2, h3⟩ := h; rw [h3, h2]; exact ⟨by omega, by omega⟩
    · rintro ds i x d σ' H12 H13 hds e5 e6 ⟨y10, rfl⟩ hd hx
      exact y_when (z := z) (b := false) (al.up (e1.trans (e5.trans e6))) (yt_reprs (yb_one (yl_var rfl hx) hn) (yb_one (yl_var rfl hx) hn)) (fun e => by cases e) fun _ H14 e7 => ⟨e6.trans e7, _, rfl⟩
    obtain ⟨y10, rfl⟩ := hP
    replace e1 := e1.trans (e5.trans e6)
    refine ⟨⟨_, _, _, _, _, _, _, _, _, _, rfl⟩, e1.keep l _ (Ne.symm nbl) hl', fun j b' hj hb2 => ?_⟩
    obtain ⟨n1, q2, k2, xs2, g1, g2, g3, g4, g5⟩ := hb' j b' (by omega) hb2
    have nb : b' ≠ z.p := fun e => by
      have := nd_ix bags.1 hb (e ▸ hb2)
      omega
    have nq : q2 ≠ z.p := fun e => by
      obtain ⟨k3, xs3, _, _, _, f4, _⟩ := bq
      rw [e, f4] at g5
      have := congrArg List.length (HO.lst.inj (Option.some.inj g5))
      rw [List.length_map, g3] at this
      cases this
    exact ⟨n1, q2, k2, xs2, g1, g2, g3, e1.keep _ _ nb g4, e1.keep _ _ nq g5⟩
  · obtain ⟨⟨y1, y2, y3, y4, y5, y6, y7, y8, y9, y10, rfl⟩, hl', _⟩ := w
    have al : AlS ⟨1000, l, []⟩ H' := ⟨⟨_, hl', fun _ e => nomatch e⟩, fun _ h => nomatch h⟩
    have n30 : 30 ≤ (⟨1000, l, []⟩ : Fz).n := by show 30 ≤ 1000; decide
    have hz : (⟨1000, l, []⟩ : Fz).n ≤ sizeLine := by show 1000 ≤ sizeLine; decide
    have hn : (⟨1000, l, []⟩ : Fz).n ≤ 100000 := by show 1000 ≤ 100000; decide
    dsimp only
    refine y_retB (z := ⟨1000, l, []⟩) (P := (· = (decide (isStateD (.tuple [.int 0, .tuple []]) = true) && decide (isStateD (.tuple [.int 1, .tuple []]) = false)))) al ?_ fun b H2 e2 hb => ?_
    · exact yb_and (yb_isB (yb_one (yl_tup1 (ya_c1 yl_int (ya_c1 (yl_tup1 ya_nil (Nat.zero_le _) hz) ya_nil)) (by show 2 ≤ 1000; decide) hz) hn)) fun _ => yb_isB (yb_one (yl_tup1 (ya_c1 yl_int (ya_c1 (yl_tup1 ya_nil (Nat.zero_le _) hz) ya_nil)) (by show 2 ≤ 1000; decide) hz) hn)
    · have : b = true := by rw [hb]; decide +kernel
      rw [this]
      exact q H2
end
end Pb
namespace Pb
open PySem L2
theorem all_mk {l : PySem.W.OpenLaw} {w : World} {K : PySem.W.Frag} {h : Heap} {mg : Str → Option Value} {fa f_is_whole_within f_is_cents f_is_name f_is_pair f_is_folk f_is_state f__law_from f__law_is_name f__law_is_state f__law_cell_at f__law_draws f__law_bag f__law_bags f__law_take f__law_far_draw f__law_mixed f__law_names f__law_a_state f__law_odd f__law_spoilt f_law : Addr} {k0 k1 k2 : Tok} (X : K.In h) (G : h.Ns mainGlobals mg) (hfa : mg "law" = some (.ref fa))
    {od_is_whole_within an_is_whole_within : Option Addr} {sl_is_whole_within : Array (Option Value)} {oc_is_whole_within kV_is_whole_within dc_is_whole_within pm_is_whole_within cd_is_whole_within ct_is_whole_within : Value}
    {od_is_cents an_is_cents : Option Addr} {sl_is_cents : Array (Option Value)} {oc_is_cents kV_is_cents dc_is_cents pm_is_cents cd_is_cents ct_is_cents : Value}
    {od_is_name an_is_name : Option Addr} {sl_is_name : Array (Option Value)} {oc_is_name kV_is_name dc_is_name pm_is_name cd_is_name ct_is_name : Value}
    {od_is_pair an_is_pair : Option Addr} {sl_is_pair : Array (Option Value)} {oc_is_pair kV_is_pair dc_is_pair pm_is_pair cd_is_pair ct_is_pair : Value}
    {od_is_folk an_is_folk : Option Addr} {sl_is_folk : Array (Option Value)} {oc_is_folk kV_is_folk dc_is_folk pm_is_folk cd_is_folk ct_is_folk : Value}
    {od_is_state an_is_state : Option Addr} {sl_is_state : Array (Option Value)} {oc_is_state kV_is_state dc_is_state pm_is_state cd_is_state ct_is_state : Value}
    {od__law_from an__law_from : Option Addr} {sl__law_from : Array (Option Value)} {oc__law_from kV__law_from dc__law_from pm__law_from cd__law_from ct__law_from : Value}
    {od__law_is_name an__law_is_name : Option Addr} {sl__law_is_name : Array (Option Value)} {oc__law_is_name kV__law_is_name dc__law_is_name pm__law_is_name cd__law_is_name ct__law_is_name : Value}
    {od__law_is_state an__law_is_state : Option Addr} {sl__law_is_state : Array (Option Value)} {oc__law_is_state kV__law_is_state dc__law_is_state pm__law_is_state cd__law_is_state ct__law_is_state : Value}
    {od__law_cell_at an__law_cell_at : Option Addr} {sl__law_cell_at : Array (Option Value)} {oc__law_cell_at kV__law_cell_at dc__law_cell_at pm__law_cell_at cd__law_cell_at ct__law_cell_at : Value}
    {od__law_draws an__law_draws : Option Addr} {sl__law_draws : Array (Option Value)} {oc__law_draws kV__law_draws dc__law_draws pm__law_draws cd__law_draws ct__law_draws : Value}
    {od__law_bag an__law_bag : Option Addr} {sl__law_bag : Array (Option Value)} {oc__law_bag kV__law_bag dc__law_bag pm__law_bag cd__law_bag ct__law_bag : Value}
    {od__law_bags an__law_bags : Option Addr} {sl__law_bags : Array (Option Value)} {oc__law_bags kV__law_bags dc__law_bags pm__law_bags cd__law_bags ct__law_bags : Value}
    {od__law_take an__law_take : Option Addr} {sl__law_take : Array (Option Value)} {oc__law_take kV__law_take dc__law_take pm__law_take cd__law_take ct__law_take : Value}
    {od__law_far_draw an__law_far_draw : Option Addr} {sl__law_far_draw : Array (Option Value)} {oc__law_far_draw kV__law_far_draw dc__law_far_draw pm__law_far_draw cd__law_far_draw ct__law_far_draw : Value}
    {od__law_mixed an__law_mixed : Option Addr} {sl__law_mixed : Array (Option Value)} {oc__law_mixed kV__law_mixed dc__law_mixed pm__law_mixed cd__law_mixed ct__law_mixed : Value}
    {od__law_names an__law_names : Option Addr} {sl__law_names : Array (Option Value)} {oc__law_names kV__law_names dc__law_names pm__law_names cd__law_names ct__law_names : Value}
    {od__law_a_state an__law_a_state : Option Addr} {sl__law_a_state : Array (Option Value)} {oc__law_a_state kV__law_a_state dc__law_a_state pm__law_a_state cd__law_a_state ct__law_a_state : Value}
    {od__law_odd an__law_odd : Option Addr} {sl__law_odd : Array (Option Value)} {oc__law_odd kV__law_odd dc__law_odd pm__law_odd cd__law_odd ct__law_odd : Value}
    {od__law_spoilt an__law_spoilt : Option Addr} {sl__law_spoilt : Array (Option Value)} {oc__law_spoilt kV__law_spoilt dc__law_spoilt pm__law_spoilt cd__law_spoilt ct__law_spoilt : Value}
    {od_law an_law : Option Addr} {sl_law : Array (Option Value)} {oc_law kV_law dc_law pm_law cd_law ct_law : Value}
    (a_is_whole_within : PySem.W.nsIn K mainGlobals "is_whole_within" = some (some (.ref f_is_whole_within)))
    (l_is_whole_within : K.lookup f_is_whole_within = some ⟨oc_is_whole_within, od_is_whole_within, .func (PySem.W.fnOf "is_whole_within" "is_whole_within" (defArgs s_is_whole_within) (defBody s_is_whole_within) (defScope s_is_whole_within) .none kV_is_whole_within dc_is_whole_within pm_is_whole_within an_is_whole_within cd_is_whole_within ct_is_whole_within), sl_is_whole_within⟩)
    (c_is_whole_within : PySem.W.codeIn K cd_is_whole_within "is_whole_within" = true) (k_is_whole_within : PySem.W.keepIn K (.ref f_is_whole_within) = true)
    (a_is_cents : PySem.W.nsIn K mainGlobals "is_cents" = some (some (.ref f_is_cents)))
    (l_is_cents : K.lookup f_is_cents = some ⟨oc_is_cents, od_is_cents, .func (PySem.W.fnOf "is_cents" "is_cents" (defArgs s_is_cents) (defBody s_is_cents) (defScope s_is_cents) .none kV_is_cents dc_is_cents pm_is_cents an_is_cents cd_is_cents ct_is_cents), sl_is_cents⟩)
    (c_is_cents : PySem.W.codeIn K cd_is_cents "is_cents" = true) (k_is_cents : PySem.W.keepIn K (.ref f_is_cents) = true)
    (a_is_name : PySem.W.nsIn K mainGlobals "is_name" = some (some (.ref f_is_name)))
    (l_is_name : K.lookup f_is_name = some ⟨oc_is_name, od_is_name, .func (PySem.W.fnOf "is_name" "is_name" (defArgs s_is_name) (defBody s_is_name) (defScope s_is_name) .none kV_is_name dc_is_name pm_is_name an_is_name cd_is_name ct_is_name), sl_is_name⟩)
    (c_is_name : PySem.W.codeIn K cd_is_name "is_name" = true) (k_is_name : PySem.W.keepIn K (.ref f_is_name) = true)
    (a_is_pair : PySem.W.nsIn K mainGlobals "is_pair" = some (some (.ref f_is_pair)))
    (l_is_pair : K.lookup f_is_pair = some ⟨oc_is_pair, od_is_pair, .func (PySem.W.fnOf "is_pair" "is_pair" (defArgs s_is_pair) (defBody s_is_pair) (defScope s_is_pair) .none kV_is_pair dc_is_pair pm_is_pair an_is_pair cd_is_pair ct_is_pair), sl_is_pair⟩)
    (c_is_pair : PySem.W.codeIn K cd_is_pair "is_pair" = true) (k_is_pair : PySem.W.keepIn K (.ref f_is_pair) = true)
    (a_is_folk : PySem.W.nsIn K mainGlobals "is_folk" = some (some (.ref f_is_folk)))
    (l_is_folk : K.lookup f_is_folk = some ⟨oc_is_folk, od_is_folk, .func (PySem.W.fnOf "is_folk" "is_folk" (defArgs s_is_folk) (defBody s_is_folk) (defScope s_is_folk) .none kV_is_folk dc_is_folk pm_is_folk an_is_folk cd_is_folk ct_is_folk), sl_is_folk⟩)
    (c_is_folk : PySem.W.codeIn K cd_is_folk "is_folk" = true) (k_is_folk : PySem.W.keepIn K (.ref f_is_folk) = true)
    (a_is_state : PySem.W.nsIn K mainGlobals "is_state" = some (some (.ref f_is_state)))
    (l_is_state : K.lookup f_is_state = some ⟨oc_is_state, od_is_state, .func (PySem.W.fnOf "is_state" "is_state" (defArgs s_is_state) (defBody s_is_state) (defScope s_is_state) .none kV_is_state dc_is_state pm_is_state an_is_state cd_is_state ct_is_state), sl_is_state⟩)
    (c_is_state : PySem.W.codeIn K cd_is_state "is_state" = true) (k_is_state : PySem.W.keepIn K (.ref f_is_state) = true)
    (a__law_from : PySem.W.nsIn K mainGlobals "_law_from" = some (some (.ref f__law_from)))
    (l__law_from : K.lookup f__law_from = some ⟨oc__law_from, od__law_from, .func (PySem.W.fnOf "_law_from" "_law_from" (defArgs s__law_from) (defBody s__law_from) (defScope s__law_from) .none kV__law_from dc__law_from pm__law_from an__law_from cd__law_from ct__law_from), sl__law_from⟩)
    (c__law_from : PySem.W.codeIn K cd__law_from "_law_from" = true) (k__law_from : PySem.W.keepIn K (.ref f__law_from) = true)
    (a__law_is_name : PySem.W.nsIn K mainGlobals "_law_is_name" = some (some (.ref f__law_is_name)))
    (l__law_is_name : K.lookup f__law_is_name = some ⟨oc__law_is_name, od__law_is_name, .func (PySem.W.fnOf "_law_is_name" "_law_is_name" (defArgs s__law_is_name) (defBody s__law_is_name) (defScope s__law_is_name) .none kV__law_is_name dc__law_is_name pm__law_is_name an__law_is_name cd__law_is_name ct__law_is_name), sl__law_is_name⟩)
    (c__law_is_name : PySem.W.codeIn K cd__law_is_name "_law_is_name" = true) (k__law_is_name : PySem.W.keepIn K (.ref f__law_is_name) = true)
    (a__law_is_state : PySem.W.nsIn K mainGlobals "_law_is_state" = some (some (.ref f__law_is_state)))
    (l__law_is_state : K.lookup f__law_is_state = some ⟨oc__law_is_state, od__law_is_state, .func (PySem.W.fnOf "_law_is_state" "_law_is_state" (defArgs s__law_is_state) (defBody s__law_is_state) (defScope s__law_is_state) .none kV__law_is_state dc__law_is_state pm__law_is_state an__law_is_state cd__law_is_state ct__law_is_state), sl__law_is_state⟩)
    (c__law_is_state : PySem.W.codeIn K cd__law_is_state "_law_is_state" = true) (k__law_is_state : PySem.W.keepIn K (.ref f__law_is_state) = true)
    (a__law_cell_at : PySem.W.nsIn K mainGlobals "_law_cell_at" = some (some (.ref f__law_cell_at)))
    (l__law_cell_at : K.lookup f__law_cell_at = some ⟨oc__law_cell_at, od__law_cell_at, .func (PySem.W.fnOf "_law_cell_at" "_law_cell_at" (defArgs s__law_cell_at) (defBody s__law_cell_at) (defScope s__law_cell_at) .none kV__law_cell_at dc__law_cell_at pm__law_cell_at an__law_cell_at cd__law_cell_at ct__law_cell_at), sl__law_cell_at⟩)
    (c__law_cell_at : PySem.W.codeIn K cd__law_cell_at "_law_cell_at" = true) (k__law_cell_at : PySem.W.keepIn K (.ref f__law_cell_at) = true)
    (a__law_draws : PySem.W.nsIn K mainGlobals "_law_draws" = some (some (.ref f__law_draws)))
    (l__law_draws : K.lookup f__law_draws = some ⟨oc__law_draws, od__law_draws, .func (PySem.W.fnOf "_law_draws" "_law_draws" (defArgs s__law_draws) (defBody s__law_draws) (defScope s__law_draws) .none kV__law_draws dc__law_draws pm__law_draws an__law_draws cd__law_draws ct__law_draws), sl__law_draws⟩)
    (c__law_draws : PySem.W.codeIn K cd__law_draws "_law_draws" = true) (k__law_draws : PySem.W.keepIn K (.ref f__law_draws) = true)
    (a__law_bag : PySem.W.nsIn K mainGlobals "_law_bag" = some (some (.ref f__law_bag)))
    (l__law_bag : K.lookup f__law_bag = some ⟨oc__law_bag, od__law_bag, .func (PySem.W.fnOf "_law_bag" "_law_bag" (defArgs s__law_bag) (defBody s__law_bag) (defScope s__law_bag) .none kV__law_bag dc__law_bag pm__law_bag an__law_bag cd__law_bag ct__law_bag), sl__law_bag⟩)
    (c__law_bag : PySem.W.codeIn K cd__law_bag "_law_bag" = true) (k__law_bag : PySem.W.keepIn K (.ref f__law_bag) = true)
    (a__law_bags : PySem.W.nsIn K mainGlobals "_law_bags" = some (some (.ref f__law_bags)))
    (l__law_bags : K.lookup f__law_bags = some ⟨oc__law_bags, od__law_bags, .func (PySem.W.fnOf "_law_bags" "_law_bags" (defArgs s__law_bags) (defBody s__law_bags) (defScope s__law_bags) .none kV__law_bags dc__law_bags pm__law_bags an__law_bags cd__law_bags ct__law_bags), sl__law_bags⟩)
    (c__law_bags : PySem.W.codeIn K cd__law_bags "_law_bags" = true) (k__law_bags : PySem.W.keepIn K (.ref f__law_bags) = true)
    (a__law_take : PySem.W.nsIn K mainGlobals "_law_take" = some (some (.ref f__law_take)))
    (l__law_take : K.lookup f__law_take = some ⟨oc__law_take, od__law_take, .func (PySem.W.fnOf "_law_take" "_law_take" (defArgs s__law_take) (defBody s__law_take) (defScope s__law_take) .none kV__law_take dc__law_take pm__law_take an__law_take cd__law_take ct__law_take), sl__law_take⟩)
    (c__law_take : PySem.W.codeIn K cd__law_take "_law_take" = true) (k__law_take : PySem.W.keepIn K (.ref f__law_take) = true)
    (a__law_far_draw : PySem.W.nsIn K mainGlobals "_law_far_draw" = some (some (.ref f__law_far_draw)))
    (l__law_far_draw : K.lookup f__law_far_draw = some ⟨oc__law_far_draw, od__law_far_draw, .func (PySem.W.fnOf "_law_far_draw" "_law_far_draw" (defArgs s__law_far_draw) (defBody s__law_far_draw) (defScope s__law_far_draw) .none kV__law_far_draw dc__law_far_draw pm__law_far_draw an__law_far_draw cd__law_far_draw ct__law_far_draw), sl__law_far_draw⟩)
    (c__law_far_draw : PySem.W.codeIn K cd__law_far_draw "_law_far_draw" = true) (k__law_far_draw : PySem.W.keepIn K (.ref f__law_far_draw) = true)
    (a__law_mixed : PySem.W.nsIn K mainGlobals "_law_mixed" = some (some (.ref f__law_mixed)))
    (l__law_mixed : K.lookup f__law_mixed = some ⟨oc__law_mixed, od__law_mixed, .func (PySem.W.fnOf "_law_mixed" "_law_mixed" (defArgs s__law_mixed) (defBody s__law_mixed) (defScope s__law_mixed) .none kV__law_mixed dc__law_mixed pm__law_mixed an__law_mixed cd__law_mixed ct__law_mixed), sl__law_mixed⟩)
    (c__law_mixed : PySem.W.codeIn K cd__law_mixed "_law_mixed" = true) (k__law_mixed : PySem.W.keepIn K (.ref f__law_mixed) = true)
    (a__law_names : PySem.W.nsIn K mainGlobals "_law_names" = some (some (.ref f__law_names)))
    (l__law_names : K.lookup f__law_names = some ⟨oc__law_names, od__law_names, .func (PySem.W.fnOf "_law_names" "_law_names" (defArgs s__law_names) (defBody s__law_names) (defScope s__law_names) .none kV__law_names dc__law_names pm__law_names an__law_names cd__law_names ct__law_names), sl__law_names⟩)
    (c__law_names : PySem.W.codeIn K cd__law_names "_law_names" = true) (k__law_names : PySem.W.keepIn K (.ref f__law_names) = true)
    (a__law_a_state : PySem.W.nsIn K mainGlobals "_law_a_state" = some (some (.ref f__law_a_state)))
    (l__law_a_state : K.lookup f__law_a_state = some ⟨oc__law_a_state, od__law_a_state, .func (PySem.W.fnOf "_law_a_state" "_law_a_state" (defArgs s__law_a_state) (defBody s__law_a_state) (defScope s__law_a_state) .none kV__law_a_state dc__law_a_state pm__law_a_state an__law_a_state cd__law_a_state ct__law_a_state), sl__law_a_state⟩)
    (c__law_a_state : PySem.W.codeIn K cd__law_a_state "_law_a_state" = true) (k__law_a_state : PySem.W.keepIn K (.ref f__law_a_state) = true)
    (a__law_odd : PySem.W.nsIn K mainGlobals "_law_odd" = some (some (.ref f__law_odd)))
    (l__law_odd : K.lookup f__law_odd = some ⟨oc__law_odd, od__law_odd, .func (PySem.W.fnOf "_law_odd" "_law_odd" (defArgs s__law_odd) (defBody s__law_odd) (defScope s__law_odd) .none kV__law_odd dc__law_odd pm__law_odd an__law_odd cd__law_odd ct__law_odd), sl__law_odd⟩)
    (c__law_odd : PySem.W.codeIn K cd__law_odd "_law_odd" = true) (k__law_odd : PySem.W.keepIn K (.ref f__law_odd) = true)
    (a__law_spoilt : PySem.W.nsIn K mainGlobals "_law_spoilt" = some (some (.ref f__law_spoilt)))
    (l__law_spoilt : K.lookup f__law_spoilt = some ⟨oc__law_spoilt, od__law_spoilt, .func (PySem.W.fnOf "_law_spoilt" "_law_spoilt" (defArgs s__law_spoilt) (defBody s__law_spoilt) (defScope s__law_spoilt) .none kV__law_spoilt dc__law_spoilt pm__law_spoilt an__law_spoilt cd__law_spoilt ct__law_spoilt), sl__law_spoilt⟩)
    (c__law_spoilt : PySem.W.codeIn K cd__law_spoilt "_law_spoilt" = true) (k__law_spoilt : PySem.W.keepIn K (.ref f__law_spoilt) = true)
    (a_law : PySem.W.nsIn K mainGlobals "law" = some (some (.ref f_law)))
    (l_law : K.lookup f_law = some ⟨oc_law, od_law, .func (PySem.W.fnOf "law" "law" (defArgs s_law) (defBody s_law) (defScope s_law) .none kV_law dc_law pm_law an_law cd_law ct_law), sl_law⟩)
    (c_law : PySem.W.codeIn K cd_law "law" = true) (k_law : PySem.W.keepIn K (.ref f_law) = true)
    (b_all : PySem.W.nsIn K mainGlobals "all" = some none)
    (b_bool : PySem.W.nsIn K mainGlobals "bool" = some none)
    (b_int : PySem.W.nsIn K mainGlobals "int" = some none)
    (b_isinstance : PySem.W.nsIn K mainGlobals "isinstance" = some none)
    (b_len : PySem.W.nsIn K mainGlobals "len" = some none)
    (b_list : PySem.W.nsIn K mainGlobals "list" = some none)
    (b_max : PySem.W.nsIn K mainGlobals "max" = some none)
    (b_min : PySem.W.nsIn K mainGlobals "min" = some none)
    (b_range : PySem.W.nsIn K mainGlobals "range" = some none)
    (b_repr : PySem.W.nsIn K mainGlobals "repr" = some none)
    (b_set : PySem.W.nsIn K mainGlobals "set" = some none)
    (b_str : PySem.W.nsIn K mainGlobals "str" = some none)
    (b_tuple : PySem.W.nsIn K mainGlobals "tuple" = some none)
    (v_MOST_CENTS : PySem.W.nsIn K mainGlobals "MOST_CENTS" = some (some (.int (1000000000000000000) k0)))
    (v_MOST_FOLK : PySem.W.nsIn K mainGlobals "MOST_FOLK" = some (some (.int (40) k1)))
    (v_MOST_LETTERS : PySem.W.nsIn K mainGlobals "MOST_LETTERS" = some (some (.int (8) k2))) :
    ∃ fd : FuncData, (∀ (s : Shared) (v : Value), BindsTo s fd ⟨[v], []⟩ [("script", v)]) ∧ ∀ base : Heap, K.In base → base.Ns mainGlobals mg → FnOk l.prog w K mg base CX0 104 fa fd ["script"] (spLaw K) := by
  have e := hfa.symm.trans (PySem.W.mg_of X G a_law)
  cases e
  have T : Bt mg k0 k1 k2 := ⟨PySem.W.mg_none_of X G b_all, PySem.W.mg_none_of X G b_bool, PySem.W.mg_none_of X G b_int, PySem.W.mg_none_of X G b_isinstance, PySem.W.mg_none_of X G b_len, PySem.W.mg_none_of X G b_list, PySem.W.mg_none_of X G b_max, PySem.W.mg_none_of X G b_min, PySem.W.mg_none_of X G b_range, PySem.W.mg_none_of X G b_repr, PySem.W.mg_none_of X G b_set, PySem.W.mg_none_of X G b_str, PySem.W.mg_none_of X G b_tuple, PySem.W.mg_of X G v_MOST_CENTS, PySem.W.mg_of X G v_MOST_FOLK, PySem.W.mg_of X G v_MOST_LETTERS⟩
  have F_is_whole_within := fun_mk (st := s_is_whole_within) l_is_whole_within c_is_whole_within k_is_whole_within
  have D_is_whole_within : Df K mg "is_whole_within" s_is_whole_within ["thing", "least", "most"] _ _ := ⟨F_is_whole_within, F_is_whole_within.binds (ps := ["thing", "least", "most"]) fun _ _ _ _ _ _ us hl => match us, hl with | [_, _, _], _ => rfl, PySem.W.mg_of X G a_is_whole_within⟩
  have F_is_cents := fun_mk (st := s_is_cents) l_is_cents c_is_cents k_is_cents
  have D_is_cents : Df K mg "is_cents" s_is_cents ["thing"] _ _ := ⟨F_is_cents, F_is_cents.binds (ps := ["thing"]) fun _ _ _ _ _ _ us hl => match us, hl with | [_], _ => rfl, PySem.W.mg_of X G a_is_cents⟩
  have F_is_name := fun_mk (st := s_is_name) l_is_name c_is_name k_is_name
  have D_is_name : Df K mg "is_name" s_is_name ["thing"] _ _ := ⟨F_is_name, F_is_name.binds (ps := ["thing"]) fun _ _ _ _ _ _ us hl => match us, hl with | [_], _ => rfl, PySem.W.mg_of X G a_is_name⟩
  have F_is_pair := fun_mk (st := s_is_pair) l_is_pair c_is_pair k_is_pair
  have D_is_pair : Df K mg "is_pair" s_is_pair ["thing"] _ _ := ⟨F_is_pair, F_is_pair.binds (ps := ["thing"]) fun _ _ _ _ _ _ us hl => match us, hl with | [_], _ => rfl, PySem.W.mg_of X G a_is_pair⟩
  have F_is_folk := fun_mk (st := s_is_folk) l_is_folk c_is_folk k_is_folk
  have D_is_folk : Df K mg "is_folk" s_is_folk ["thing"] _ _ := ⟨F_is_folk, F_is_folk.binds (ps := ["thing"]) fun _ _ _ _ _ _ us hl => match us, hl with | [_], _ => rfl, PySem.W.mg_of X G a_is_folk⟩
  have F_is_state := fun_mk (st := s_is_state) l_is_state c_is_state k_is_state
  have D_is_state : Df K mg "is_state" s_is_state ["thing"] _ _ := ⟨F_is_state, F_is_state.binds (ps := ["thing"]) fun _ _ _ _ _ _ us hl => match us, hl with | [_], _ => rfl, PySem.W.mg_of X G a_is_state⟩
  have F__law_from := fun_mk (st := s__law_from) l__law_from c__law_from k__law_from
  have D__law_from : Df K mg "_law_from" s__law_from ["thing", "least", "top"] _ _ := ⟨F__law_from, F__law_from.binds (ps := ["thing", "least", "top"]) fun _ _ _ _ _ _ us hl => match us, hl with | [_, _, _], _ => rfl, PySem.W.mg_of X G a__law_from⟩
  have F__law_is_name := fun_mk (st := s__law_is_name) l__law_is_name c__law_is_name k__law_is_name
  have D__law_is_name : Df K mg "_law_is_name" s__law_is_name ["thing"] _ _ := ⟨F__law_is_name, F__law_is_name.binds (ps := ["thing"]) fun _ _ _ _ _ _ us hl => match us, hl with | [_], _ => rfl, PySem.W.mg_of X G a__law_is_name⟩
  have F__law_is_state := fun_mk (st := s__law_is_state) l__law_is_state c__law_is_state k__law_is_state
  have D__law_is_state : Df K mg "_law_is_state" s__law_is_state ["thing"] _ _ := ⟨F__law_is_state, F__law_is_state.binds (ps := ["thing"]) fun _ _ _ _ _ _ us hl => match us, hl with | [_], _ => rfl, PySem.W.mg_of X G a__law_is_state⟩
  have F__law_cell_at := fun_mk (st := s__law_cell_at) l__law_cell_at c__law_cell_at k__law_cell_at
  have D__law_cell_at : Df K mg "_law_cell_at" s__law_cell_at ["script", "k"] _ _ := ⟨F__law_cell_at, F__law_cell_at.binds (ps := ["script", "k"]) fun _ _ _ _ _ _ us hl => match us, hl with | [_, _], _ => rfl, PySem.W.mg_of X G a__law_cell_at⟩
  have F__law_draws := fun_mk (st := s__law_draws) l__law_draws c__law_draws k__law_draws
  have D__law_draws : Df K mg "_law_draws" s__law_draws ["cell", "many", "size"] _ _ := ⟨F__law_draws, F__law_draws.binds (ps := ["cell", "many", "size"]) fun _ _ _ _ _ _ us hl => match us, hl with | [_, _, _], _ => rfl, PySem.W.mg_of X G a__law_draws⟩
  have F__law_bag := fun_mk (st := s__law_bag) l__law_bag c__law_bag k__law_bag
  have D__law_bag : Df K mg "_law_bag" s__law_bag ["script", "k"] _ _ := ⟨F__law_bag, F__law_bag.binds (ps := ["script", "k"]) fun _ _ _ _ _ _ us hl => match us, hl with | [_, _], _ => rfl, PySem.W.mg_of X G a__law_bag⟩
  have F__law_bags := fun_mk (st := s__law_bags) l__law_bags c__law_bags k__law_bags
  have D__law_bags : Df K mg "_law_bags" s__law_bags ["script", "limit"] _ _ := ⟨F__law_bags, F__law_bags.binds (ps := ["script", "limit"]) fun _ _ _ _ _ _ us hl => match us, hl with | [_, _], _ => rfl, PySem.W.mg_of X G a__law_bags⟩
  have F__law_take := fun_mk (st := s__law_take) l__law_take c__law_take k__law_take
  have D__law_take : Df K mg "_law_take" s__law_take ["bag", "many"] _ _ := ⟨F__law_take, F__law_take.binds (ps := ["bag", "many"]) fun _ _ _ _ _ _ us hl => match us, hl with | [_, _], _ => rfl, PySem.W.mg_of X G a__law_take⟩
  have F__law_far_draw := fun_mk (st := s__law_far_draw) l__law_far_draw c__law_far_draw k__law_far_draw
  have D__law_far_draw : Df K mg "_law_far_draw" s__law_far_draw ["bag", "many"] _ _ := ⟨F__law_far_draw, F__law_far_draw.binds (ps := ["bag", "many"]) fun _ _ _ _ _ _ us hl => match us, hl with | [_, _], _ => rfl, PySem.W.mg_of X G a__law_far_draw⟩
  have F__law_mixed := fun_mk (st := s__law_mixed) l__law_mixed c__law_mixed k__law_mixed
  have D__law_mixed : Df K mg "_law_mixed" s__law_mixed ["bag", "many"] _ _ := ⟨F__law_mixed, F__law_mixed.binds (ps := ["bag", "many"]) fun _ _ _ _ _ _ us hl => match us, hl with | [_, _], _ => rfl, PySem.W.mg_of X G a__law_mixed⟩
  have F__law_names := fun_mk (st := s__law_names) l__law_names c__law_names k__law_names
  have D__law_names : Df K mg "_law_names" s__law_names ["many"] _ _ := ⟨F__law_names, F__law_names.binds (ps := ["many"]) fun _ _ _ _ _ _ us hl => match us, hl with | [_], _ => rfl, PySem.W.mg_of X G a__law_names⟩
  have F__law_a_state := fun_mk (st := s__law_a_state) l__law_a_state c__law_a_state k__law_a_state
  have D__law_a_state : Df K mg "_law_a_state" s__law_a_state ["bag", "most", "far"] _ _ := ⟨F__law_a_state, F__law_a_state.binds (ps := ["bag", "most", "far"]) fun _ _ _ _ _ _ us hl => match us, hl with | [_, _, _], _ => rfl, PySem.W.mg_of X G a__law_a_state⟩
  have F__law_odd := fun_mk (st := s__law_odd) l__law_odd c__law_odd k__law_odd
  have D__law_odd : Df K mg "_law_odd" s__law_odd ["picks"] _ _ := ⟨F__law_odd, F__law_odd.binds (ps := ["picks"]) fun _ _ _ _ _ _ us hl => match us, hl with | [_], _ => rfl, PySem.W.mg_of X G a__law_odd⟩
  have F__law_spoilt := fun_mk (st := s__law_spoilt) l__law_spoilt c__law_spoilt k__law_spoilt
  have D__law_spoilt : Df K mg "_law_spoilt" s__law_spoilt ["thing", "picks"] _ _ := ⟨F__law_spoilt, F__law_spoilt.binds (ps := ["thing", "picks"]) fun _ _ _ _ _ _ us hl => match us, hl with | [_, _], _ => rfl, PySem.W.mg_of X G a__law_spoilt⟩
  have F_law := fun_mk (st := s_law) l_law c_law k_law
  have D_law : Df K mg "law" s_law ["script"] _ _ := ⟨F_law, F_law.binds (ps := ["script"]) fun _ _ _ _ _ _ us hl => match us, hl with | [_], _ => rfl, PySem.W.mg_of X G a_law⟩
  refine ⟨PySem.W.fnOf "law" "law" (defArgs s_law) (defBody s_law) (defScope s_law) .none kV_law dc_law pm_law an_law cd_law ct_law, fun s v => .of_eq rfl, fun base _ _ => ?_⟩
  have G_is_whole_within := ok_is_whole_within (P := l.prog) (w := w) (K := K) (mg := mg) (base := base) D_is_whole_within T
  have G_is_cents := ok_is_cents (P := l.prog) (w := w) (K := K) (mg := mg) (base := base) D_is_cents D_is_whole_within G_is_whole_within T
  have G_is_name := ok_is_name (P := l.prog) (w := w) (K := K) (mg := mg) (base := base) D_is_name T
  have G_is_pair := ok_is_pair (P := l.prog) (w := w) (K := K) (mg := mg) (base := base) D_is_pair T
  have G_is_folk := ok_is_folk (P := l.prog) (w := w) (K := K) (mg := mg) (base := base) D_is_folk D_is_name G_is_name T
  have G_is_state := ok_is_state (P := l.prog) (w := w) (K := K) (mg := mg) (base := base) D_is_state D_is_pair D_is_cents D_is_folk G_is_pair G_is_cents G_is_folk T
  have G__law_from := ok__law_from (P := l.prog) (w := w) (K := K) (mg := mg) (base := base) D__law_from T
  have G__law_is_name := ok__law_is_name (P := l.prog) (w := w) (K := K) (mg := mg) (base := base) D__law_is_name T
  have G__law_is_state := ok__law_is_state (P := l.prog) (w := w) (K := K) (mg := mg) (base := base) D__law_is_state D__law_from D__law_is_name G__law_from G__law_is_name T
  have G__law_cell_at := ok__law_cell_at (P := l.prog) (w := w) (K := K) (mg := mg) (base := base) D__law_cell_at T
  have G__law_draws := ok__law_draws (P := l.prog) (w := w) (K := K) (mg := mg) (base := base) D__law_draws T
  have G__law_bag := ok__law_bag (P := l.prog) (w := w) (K := K) (mg := mg) (base := base) D__law_bag D__law_draws D__law_cell_at G__law_draws G__law_cell_at T
  have G__law_bags := ok__law_bags (P := l.prog) (w := w) (K := K) (mg := mg) (base := base) D__law_bags D__law_bag G__law_bag T
  have G__law_take := ok__law_take (P := l.prog) (w := w) (K := K) (mg := mg) (base := base) D__law_take T
  have G__law_far_draw := ok__law_far_draw (P := l.prog) (w := w) (K := K) (mg := mg) (base := base) D__law_far_draw D__law_take G__law_take T
  have G__law_mixed := ok__law_mixed (P := l.prog) (w := w) (K := K) (mg := mg) (base := base) D__law_mixed D__law_take G__law_take T
  have G__law_names := ok__law_names (P := l.prog) (w := w) (K := K) (mg := mg) (base := base) D__law_names T
  have G__law_a_state := ok__law_a_state (P := l.prog) (w := w) (K := K) (mg := mg) (base := base) D__law_a_state D__law_names D__law_mixed D__law_take D__law_far_draw G__law_names G__law_mixed G__law_take G__law_far_draw T
  have G__law_odd := ok__law_odd (P := l.prog) (w := w) (K := K) (mg := mg) (base := base) D__law_odd T
  have G__law_spoilt := ok__law_spoilt (P := l.prog) (w := w) (K := K) (mg := mg) (base := base) D__law_spoilt D__law_odd G__law_odd T 101
  exact ok_law (P := l.prog) (w := w) (K := K) (mg := mg) (base := base) D_law D__law_bags D__law_a_state D__law_spoilt D__law_names D__law_odd D_is_state D__law_is_state G__law_bags G__law_a_state G__law_spoilt G__law_names G__law_odd G_is_state G__law_is_state T
end Pb
open PySem PySem.W PyProof.Rows
set_option maxRecDepth 100000 in
set_option maxHeartbeats 0 in
theorem PySem.Challenge.cw_paidback_k01_states_known_holds : PySem.Challenge.rw_paidback_k01_states_known.Holds := by
  w_on; o_law; k_head; (case hw => w_witness2)
  k_fill
  refine L2.walk_of (l := PySem.Challenge.rw_paidback_k01_states_known) (n := 63) (k := 104) (x := "script") (CX := fun _ => L2.CX0) (sp := fun w => Pb.spLaw _) rfl (by decide) rfl ⟨rfl, by decide, by decide⟩ (fun w h Y => PySem.W.kIn_of Y) ?F (fun _ _ a ns hl _ hS => ⟨a, ns, rfl, hS, hl, fun _ => rfl⟩) (fun _ _ _ _ _ h => h)
  case F =>
    intro w mg fa h KX G hmg
    refine' Pb.all_mk KX G hmg ?a_is_whole_within ?l_is_whole_within ?c_is_whole_within ?k_is_whole_within ?a_is_cents ?l_is_cents ?c_is_cents ?k_is_cents ?a_is_name ?l_is_name ?c_is_name ?k_is_name ?a_is_pair ?l_is_pair ?c_is_pair ?k_is_pair ?a_is_folk ?l_is_folk ?c_is_folk ?k_is_folk ?a_is_state ?l_is_state ?c_is_state ?k_is_state ?a__law_from ?l__law_from ?c__law_from ?k__law_from ?a__law_is_name ?l__law_is_name ?c__law_is_name ?k__law_is_name ?a__law_is_state ?l__law_is_state ?c__law_is_state ?k__law_is_state ?a__law_cell_at ?l__law_cell_at ?c__law_cell_at ?k__law_cell_at ?a__law_draws ?l__law_draws ?c__law_draws ?k__law_draws ?a__law_bag ?l__law_bag ?c__law_bag ?k__law_bag ?a__law_bags ?l__law_bags ?c__law_bags ?k__law_bags ?a__law_take ?l__law_take ?c__law_take ?k__law_take ?a__law_far_draw ?l__law_far_draw ?c__law_far_draw ?k__law_far_draw ?a__law_mixed ?l__law_mixed ?c__law_mixed ?k__law_mixed ?a__law_names ?l__law_names ?c__law_names ?k__law_names ?a__law_a_state ?l__law_a_state ?c__law_a_state ?k__law_a_state ?a__law_odd ?l__law_odd ?c__law_odd ?k__law_odd ?a__law_spoilt ?l__law_spoilt ?c__law_spoilt ?k__law_spoilt ?a_law ?l_law ?c_law ?k_law ?b_all ?b_bool ?b_int ?b_isinstance ?b_len ?b_list ?b_max ?b_min ?b_range ?b_repr ?b_set ?b_str ?b_tuple ?v_MOST_CENTS ?v_MOST_FOLK ?v_MOST_LETTERS
    (case a_is_whole_within => k_is)
    (case l_is_whole_within => k_is)
    (case c_is_whole_within => k_is)
    (case k_is_whole_within => k_is)
    (case a_is_cents => k_is)
    (case l_is_cents => k_is)
    (case c_is_cents => k_is)
    (case k_is_cents => k_is)
    (case a_is_name => k_is)
    (case l_is_name => k_is)
    (case c_is_name => k_is)
    (case k_is_name => k_is)
    (case a_is_pair => k_is)
    (case l_is_pair => k_is)
    (case c_is_pair => k_is)
    (case k_is_pair => k_is)
    (case a_is_folk => k_is)
    (case l_is_folk => k_is)
    (case c_is_folk => k_is)
    (case k_is_folk => k_is)
    (case a_is_state => k_is)
    (case l_is_state => k_is)
    (case c_is_state => k_is)
    (case k_is_state => k_is)
    (case a__law_from => k_is)
    (case l__law_from => k_is)
    (case c__law_from => k_is)
    (case k__law_from => k_is)
    (case a__law_is_name => k_is)
    (case l__law_is_name => k_is)
    (case c__law_is_name => k_is)
    (case k__law_is_name => k_is)
    (case a__law_is_state => k_is)
    (case l__law_is_state => k_is)
    (case c__law_is_state => k_is)
    (case k__law_is_state => k_is)
    (case a__law_cell_at => k_is)
    (case l__law_cell_at => k_is)
    (case c__law_cell_at => k_is)
    (case k__law_cell_at => k_is)
    (case a__law_draws => k_is)
    (case l__law_draws => k_is)
    (case c__law_draws => k_is)
    (case k__law_draws => k_is)
    (case a__law_bag => k_is)
    (case l__law_bag => k_is)
    (case c__law_bag => k_is)
    (case k__law_bag => k_is)
    (case a__law_bags => k_is)
    (case l__law_bags => k_is)
    (case c__law_bags => k_is)
    (case k__law_bags => k_is)
    (case a__law_take => k_is)
    (case l__law_take => k_is)
    (case c__law_take => k_is)
    (case k__law_take => k_is)
    (case a__law_far_draw => k_is)
    (case l__law_far_draw => k_is)
    (case c__law_far_draw => k_is)
    (case k__law_far_draw => k_is)
    (case a__law_mixed => k_is)
    (case l__law_mixed => k_is)
    (case c__law_mixed => k_is)
    (case k__law_mixed => k_is)
    (case a__law_names => k_is)
    (case l__law_names => k_is)
    (case c__law_names => k_is)
    (case k__law_names => k_is)
    (case a__law_a_state => k_is)
    (case l__law_a_state => k_is)
    (case c__law_a_state => k_is)
    (case k__law_a_state => k_is)
    (case a__law_odd => k_is)
    (case l__law_odd => k_is)
    (case c__law_odd => k_is)
    (case k__law_odd => k_is)
    (case a__law_spoilt => k_is)
    (case l__law_spoilt => k_is)
    (case c__law_spoilt => k_is)
    (case k__law_spoilt => k_is)
    (case a_law => k_is)
    (case l_law => k_is)
    (case c_law => k_is)
    (case k_law => k_is)
    (case b_all => k_is)
    (case b_bool => k_is)
    (case b_int => k_is)
    (case b_isinstance => k_is)
    (case b_len => k_is)
    (case b_list => k_is)
    (case b_max => k_is)
    (case b_min => k_is)
    (case b_range => k_is)
    (case b_repr => k_is)
    (case b_set => k_is)
    (case b_str => k_is)
    (case b_tuple => k_is)
    (case v_MOST_CENTS => k_is)
    (case v_MOST_FOLK => k_is)
    (case v_MOST_LETTERS => k_is)
