import PyProof.Rows.All
import Wide.All
import OpenK.AllK
import Wide.FinOn
import HandS.ForMost
import HandS.Deep
import HandS.Wide
import HandS.FStr
import HandS.SortInts
import HandS.SortRule
import HandS.SortKw
import HandS.Style
import HandS.IsInst
import HandS.TupAny
import HandS.TupMul
import HandS.Codes
import HandS.Zip
import HandS.TupLe
import PyProof.ReprRoads
import HandS.Ends
import KE.GoesEnum
import KE.GoesMore
import KE.KDictItemsList
import HandS.Walk
import KE.KCallOwn
import PyProof.ReprLen
import HandS.Defaults
import HandS.SetFor
import PyProof.AutoSeq1
import HandS.ExcInit
import HandS.ClsMeth
import HandS.WordsExc
import HandS.Conv
import HandS.Property
import HandS.MakeKw
import HandS.ExcCtx
import HandS.ExcIs
import HandS.ExcField
import KE.KExcIs
import KE.SortCalls
import KE.KDictDisplayH
import KE.SortData
import KE.DataFind
import HandS.NoneIn
import PyProof.MaxThree
import HandS.Flt
import KE.KCtx
import HandS.Dict
import PyProof.ReprDict
import PyProof.EqAt
import HandS.SetBool
import HandS.Strs
import PyProof.DictRoadsH
import PyProof.ListNew
import PyProof.Rows.SetFrom
import HandS.OwnEq
import PyProof.InstNe
import HandS.StrMore
import PySem.Challenge.RW_soldages_k01_logs
set_option Elab.async false
set_option maxRecDepth 100000
set_option maxHeartbeats 4000000
namespace Dd
open PySem PySem.Spec PyProof.Rows L2

/-! ## plain data, and what a state says of it -/
/-- how a dict of tuple keys stands in the heap: its entries (the key, where it stands, the value) -/
abbrev DicK := Addr → List (PyData × Addr × V) → HO
inductive Da where
  | non | bl (b : Bool) | int (i : Int) | str (x : Str) | lst (xs : List Da) | tup (xs : List Da) | ins (C : Addr) (fs : List (Str × Da)) | scr (K : PySem.W.Frag) (ns : List Int) | ty (n : String) | cl (C : Addr) | exn (C : Addr) (fs : List (Str × Da)) | dic (D : DicK) (kvs : List (Da × Da))
mutual
def toPy : Da → PyData
  | .non => .none | .bl b => .bool b | .int i => .int i | .str x => .str x
  | .lst ds => .list (toPys ds) | .tup ds => .tuple (toPys ds) | .ins _ _ => .none | .scr _ _ => .none | .ty _ => .none | .cl _ => .none | .exn _ _ => .none | .dic _ _ => .none
def toPys : List Da → List PyData
  | [] => [] | d :: ds => toPy d :: toPys ds
end
/-- at a: an exception of the class cls that was caught, its dict at d -/
def CaO (cls : Value) (d : Option Addr) (a : Addr) : HO := .ext fun h => ∃ (ob : Obj) (vs : Array Value), h.get? a = some ob ∧ ob.cls = cls ∧ ob.dict = d ∧ ob.data = .fields vs
/-- what data must not touch; what slots may own -/
structure Ns where
  av : Addr → Prop
  ow : Addr → Prop
  le : ∀ a, ow a → av a
  kid : Nat → List Addr
instance : CoeFun Ns (fun _ => Addr → Prop) := ⟨Ns.av⟩
mutual
inductive Dn (n : Ns) (H : Hp) : V → Da → Prop
  | non : Dn n H .non .non
  | bl (b : Bool) : Dn n H (.bl b) (.bl b)
  | int (i : Int) : Dn n H (.int i) (.int i)
  | str (x : Str) : Dn n H (.str x) (.str x)
  | lst {a : Addr} {vs : List V} {ds : List Da} : H a = some (.lst vs) → ¬ n a → DnL n H vs ds → Dn n H (.ref a) (.lst ds)
  | tup {a : Addr} {vs : List V} {ds : List Da} : H a = some (.tup vs) → ¬ n a → DnL n H vs ds → Dn n H (.ref a) (.tup ds)
  | scr {K : PySem.W.Frag} {a : Addr} {ns : List Int} : (Rd H a (.lst (ns.map V.int)) ∧ ¬ n a ∨ ∀ G, SqL K G a (ns.map V.int)) → Dn n H (.ref a) (.scr K ns)
  | ins {a C dx : Addr} {vs : List (Str × V)} {fs : List (Str × Da)} : H a = some (.ins C dx vs) → ¬ n a → DnF n H vs fs → Dn n H (.ref a) (.ins C fs)
  | ty (x : String) : Dn n H (.ty x) (.ty x)
  | cl (C : Addr) : Dn n H (.ref C) (.cl C)
  | exn {a C dx : Addr} {vs : List (Str × V)} {fs : List (Str × Da)} : H a = some (CaO (.ref C) (some dx) a) → H dx = some (.xd vs) → ¬ n a → ¬ n dx → DnF n H vs fs → Dn n H (.ref a) (.exn C fs)
  | dic {a : Addr} {D : DicK} {es : List (PyData × Addr × V)} {kvs : List (Da × Da)} : H a = some (D a es) → ¬ n a → DnE n H es kvs → Dn n H (.ref a) (.dic D kvs)
inductive DnE (n : Ns) (H : Hp) : List (PyData × Addr × V) → List (Da × Da) → Prop
  | nil : DnE n H [] []
  | cons {b : Addr} {v : V} {es : List (PyData × Addr × V)} {k d : Da} {kvs : List (Da × Da)} : Dn n H (.ref b) k → Dn n H v d → DnE n H es kvs → DnE n H ((toPy k, b, v) :: es) ((k, d) :: kvs)
inductive DnL (n : Ns) (H : Hp) : List V → List Da → Prop
  | nil : DnL n H [] []
  | cons {v : V} {vs : List V} {d : Da} {ds : List Da} : Dn n H v d → DnL n H vs ds → DnL n H (v :: vs) (d :: ds)
inductive DnF (n : Ns) (H : Hp) : List (Str × V) → List (Str × Da) → Prop
  | nil : DnF n H [] []
  | cons {f : Str} {v : V} {vs : List (Str × V)} {d : Da} {ds : List (Str × Da)} : Dn n H v d → DnF n H vs ds → DnF n H ((f, v) :: vs) ((f, d) :: ds)
end
/-- all but what n names stands as it stood -/
def Ext (n : Ns) (H H' : Hp) : Prop := ∀ a o, H a = some o → ¬ n.ow a → H' a = some o
def Grow (H H' : Hp) : Prop := ∀ a o, H a = some o → H' a = some o
def add (n : Ns) (p : Addr) : Ns := ⟨fun a => n a ∨ a = p, n.ow, fun a h => .inl (n.le a h), n.kid⟩
def addO (n : Ns) (p : Addr) : Ns := ⟨fun a => n a ∨ a = p, fun a => n.ow a ∨ a = p, fun a h => h.imp (n.le a) id, n.kid⟩
theorem Ext.refl {n : Ns} {H : Hp} : Ext n H H := fun _ _ h _ => h
theorem Ext.trans {n : Ns} {H H1 H2 : Hp} (x : Ext n H H1) (y : Ext n H1 H2) : Ext n H H2 := fun a o h k => y a o (x a o h k) k
theorem Grow.refl {H : Hp} : Grow H H := fun _ _ h => h
theorem Grow.trans {H H1 H2 : Hp} (x : Grow H H1) (y : Grow H1 H2) : Grow H H2 := fun a o h => y a o (x a o h)
theorem Grow.ext {n : Ns} {H H1 : Hp} (x : Grow H H1) : Ext n H H1 := fun a o h _ => x a o h
theorem Grow.upd {H : Hp} {p : Addr} {o : HO} (h : H p = none) : Grow H (upd H p o) := fun a u e => by
  rw [upd_ne (ne_of_none e h)]
  exact e
/-- .. where data may stand -/
def Keep (n : Ns) (H H' : Hp) : Prop := ∀ a o, H a = some o → ¬ n a → H' a = some o
theorem Ext.keep {n : Ns} {H H' : Hp} (x : Ext n H H') : Keep n H H' := fun a o h k => x a o h fun z => k (n.le a z)
theorem Keep.rd {n : Ns} {H H' : Hp} {a : Addr} {u : HO} (x : Keep n H H') (k : ¬ n a) (h : Rd H a u) : Rd H' a u := by
  rcases h with h | ⟨o, h⟩
  · exact Or.inl (x a _ h k)
  · exact Or.inr ⟨o, x a _ h k⟩
theorem Rd.ne {H : Hp} {a p : Addr} {u : HO} (h : Rd H a u) (hp : H p = none) : a ≠ p := by
  rcases h with h | ⟨o, h⟩
  · exact ne_of_none h hp
  · exact ne_of_none h hp
mutual
theorem Dn.extA {n : Ns} {H H' : Hp} (x : Keep n H H') : ∀ (d : Da) (v : V), Dn n H v d → Dn n H' v d
  | .non, _, h => by cases h; exact .non
  | .bl _, _, h => by cases h; exact .bl _
  | .int _, _, h => by cases h; exact .int _
  | .str _, _, h => by cases h; exact .str _
  | .ty _, _, h => by cases h; exact .ty _
  | .cl _, _, h => by cases h; exact .cl _
  | .lst ds, _, h => by
    cases h with
    | lst h1 h2 h3 => exact .lst (x _ _ h1 h2) h2 (DnL.extA x ds _ h3)
  | .tup ds, _, h => by
    cases h with
    | tup h1 h2 h3 => exact .tup (x _ _ h1 h2) h2 (DnL.extA x ds _ h3)
  | .ins C fs, _, h => by
    cases h with
    | ins h1 h2 h3 => exact .ins (x _ _ h1 h2) h2 (DnF.extA x fs _ h3)
  | .exn C fs, _, h => by
    cases h with
    | exn h1 h4 h2 h5 h3 => exact .exn (x _ _ h1 h2) (x _ _ h4 h5) h2 h5 (DnF.extA x fs _ h3)
  | .scr K ns, _, h => by
    cases h with
    | scr h => exact .scr (h.imp (fun z => ⟨x.rd z.2 z.1, z.2⟩) id)
  | .dic D kvs, _, h => by
    cases h with
    | dic h1 h2 h3 => exact .dic (x _ _ h1 h2) h2 (DnE.extA x kvs _ h3)
theorem DnE.extA {n : Ns} {H H' : Hp} (x : Keep n H H') : ∀ (ds : List (Da × Da)) (vs : List (PyData × Addr × V)), DnE n H vs ds → DnE n H' vs ds
  | [], _, h => by cases h; exact .nil
  | (k, d) :: ds, _, h => by
    cases h with
    | cons h1 h2 h3 => exact .cons (Dn.extA x k _ h1) (Dn.extA x d _ h2) (DnE.extA x ds _ h3)
theorem DnL.extA {n : Ns} {H H' : Hp} (x : Keep n H H') : ∀ (ds : List Da) (vs : List V), DnL n H vs ds → DnL n H' vs ds
  | [], _, h => by cases h; exact .nil
  | d :: ds, _, h => by
    cases h with
    | cons h1 h2 => exact .cons (Dn.extA x d _ h1) (DnL.extA x ds _ h2)
theorem DnF.extA {n : Ns} {H H' : Hp} (x : Keep n H H') : ∀ (ds : List (Str × Da)) (vs : List (Str × V)), DnF n H vs ds → DnF n H' vs ds
  | [], _, h => by cases h; exact .nil
  | (f, d) :: ds, _, h => by
    cases h with
    | cons h1 h2 => exact .cons (Dn.extA x d _ h1) (DnF.extA x ds _ h2)
end
theorem Dn.ext {n : Ns} {H H' : Hp} (x : Ext n H H') (d : Da) (v : V) (h : Dn n H v d) : Dn n H' v d := Dn.extA x.keep d v h
theorem DnL.ext {n : Ns} {H H' : Hp} (x : Ext n H H') (d : List Da) (v : List V) (h : DnL n H v d) : DnL n H' v d := DnL.extA x.keep d v h
mutual
/-- a change of what must not be touched: k says of the addresses that may bear data here -/
theorem Dn.re {n n' : Ns} {H : Hp} (k : ∀ a o, H a = some o → ¬ n a → ¬ n' a) : ∀ (d : Da) (v : V), Dn n H v d → Dn n' H v d
  | .non, _, h => by cases h; exact .non
  | .bl _, _, h => by cases h; exact .bl _
  | .int _, _, h => by cases h; exact .int _
  | .str _, _, h => by cases h; exact .str _
  | .ty _, _, h => by cases h; exact .ty _
  | .cl _, _, h => by cases h; exact .cl _
  | .lst ds, _, h => by
    cases h with
    | lst h1 h2 h3 => exact .lst h1 (k _ _ h1 h2) (DnL.re k ds _ h3)
  | .tup ds, _, h => by
    cases h with
    | tup h1 h2 h3 => exact .tup h1 (k _ _ h1 h2) (DnL.re k ds _ h3)
  | .ins C fs, _, h => by
    cases h with
    | ins h1 h2 h3 => exact .ins h1 (k _ _ h1 h2) (DnF.re k fs _ h3)
  | .exn C fs, _, h => by
    cases h with
    | exn h1 h4 h2 h5 h3 => exact .exn h1 h4 (k _ _ h1 h2) (k _ _ h4 h5) (DnF.re k fs _ h3)
  | .scr K ns, _, h => by
    cases h with
    | scr h => exact .scr (h.imp (fun z => ⟨z.1, by rcases z.1 with e | ⟨o, e⟩ <;> exact k _ _ e z.2⟩) id)
  | .dic D kvs, _, h => by
    cases h with
    | dic h1 h2 h3 => exact .dic h1 (k _ _ h1 h2) (DnE.re k kvs _ h3)
theorem DnE.re {n n' : Ns} {H : Hp} (k : ∀ a o, H a = some o → ¬ n a → ¬ n' a) : ∀ (ds : List (Da × Da)) (vs : List (PyData × Addr × V)), DnE n H vs ds → DnE n' H vs ds
  | [], _, h => by cases h; exact .nil
  | (y, d) :: ds, _, h => by
    cases h with
    | cons h1 h2 h3 => exact .cons (Dn.re k y _ h1) (Dn.re k d _ h2) (DnE.re k ds _ h3)
theorem DnL.re {n n' : Ns} {H : Hp} (k : ∀ a o, H a = some o → ¬ n a → ¬ n' a) : ∀ (ds : List Da) (vs : List V), DnL n H vs ds → DnL n' H vs ds
  | [], _, h => by cases h; exact .nil
  | d :: ds, _, h => by
    cases h with
    | cons h1 h2 => exact .cons (Dn.re k d _ h1) (DnL.re k ds _ h2)
theorem DnF.re {n n' : Ns} {H : Hp} (k : ∀ a o, H a = some o → ¬ n a → ¬ n' a) : ∀ (ds : List (Str × Da)) (vs : List (Str × V)), DnF n H vs ds → DnF n' H vs ds
  | [], _, h => by cases h; exact .nil
  | (f, d) :: ds, _, h => by
    cases h with
    | cons h1 h2 => exact .cons (Dn.re k d _ h1) (DnF.re k ds _ h2)
end
theorem Dn.less {n n' : Ns} {H : Hp} {d : Da} {v : V} (h : Dn n H v d) (k : ∀ a, n' a → n a) : Dn n' H v d := Dn.re (fun a _ _ z q => z (k a q)) d v h
theorem DnL.less {n n' : Ns} {H : Hp} {d : List Da} {v : List V} (h : DnL n H v d) (k : ∀ a, n' a → n a) : DnL n' H v d := DnL.re (fun a _ _ z q => z (k a q)) d v h
theorem Dn.more {n : Ns} {H : Hp} {d : Da} {v : V} {p : Addr} (h : Dn n H v d) (k : H p = none) : Dn (add n p) H v d := Dn.re (n' := add n p) (fun a _ e z q => Or.elim q z fun w => ne_of_none e k w) d v h
theorem DnL.more {n : Ns} {H : Hp} {d : List Da} {v : List V} {p : Addr} (h : DnL n H v d) (k : H p = none) : DnL (add n p) H v d := DnL.re (n' := add n p) (fun a _ e z q => Or.elim q z fun w => ne_of_none e k w) d v h
theorem DnL.length {n : Ns} {H : Hp} : ∀ {ds : List Da} {vs : List V}, DnL n H vs ds → vs.length = ds.length
  | [], _, h => by cases h; rfl
  | d :: ds, _, h => by
    cases h with
    | cons h1 h2 => simp [DnL.length h2]
theorem DnL.app {n : Ns} {H : Hp} : ∀ {ds es : List Da} {vs us : List V}, DnL n H vs ds → DnL n H us es → DnL n H (vs ++ us) (ds ++ es)
  | [], _, _, _, h, k => by cases h; exact k
  | d :: ds, _, _, _, h, k => by
    cases h with
    | cons h1 h2 => exact .cons h1 (DnL.app h2 k)
theorem DnL.get {n : Ns} {H : Hp} : ∀ {ds : List Da} {vs : List V}, DnL n H vs ds → ∀ (i : Nat) (d : Da), ds[i]? = some d → ∃ v, vs[i]? = some v ∧ Dn n H v d
  | [], _, _, i, d, e => by simp at e
  | d :: ds, _, h, i, d', e => by
    cases h with
    | cons h1 h2 =>
      cases i with
      | zero => simp at e; subst e; exact ⟨_, rfl, h1⟩
      | succ i => simpa using DnL.get h2 i d' (by simpa using e)
theorem DnL.getV {n : Ns} {H : Hp} : ∀ {ds : List Da} {vs : List V}, DnL n H vs ds → ∀ (i : Nat) (v : V), vs[i]? = some v → ∃ d, ds[i]? = some d ∧ Dn n H v d
  | [], _, h, i, d, e => by cases h; simp at e
  | d :: ds, _, h, i, d', e => by
    cases h with
    | cons h1 h2 =>
      cases i with
      | zero => simp at e; subst e; exact ⟨_, rfl, h1⟩
      | succ i => simpa using DnL.getV h2 i d' (by simpa using e)
theorem DnL.take {n : Ns} {H : Hp} : ∀ {ds : List Da} {vs : List V} (k : Nat), DnL n H vs ds → DnL n H (vs.take k) (ds.take k)
  | [], _, k, h => by cases h; simp; exact .nil
  | d :: ds, _, k, h => by
    cases h with
    | cons h1 h2 =>
      cases k with
      | zero => exact .nil
      | succ k => exact .cons h1 (DnL.take k h2)
theorem DnL.drop {n : Ns} {H : Hp} : ∀ {ds : List Da} {vs : List V} (k : Nat), DnL n H vs ds → DnL n H (vs.drop k) (ds.drop k)
  | [], _, k, h => by cases h; simp; exact .nil
  | d :: ds, _, k, h => by
    cases k with
    | zero => exact h
    | succ k =>
      cases h with
      | cons h1 h2 => exact DnL.drop k h2
theorem DnL.set {n : Ns} {H : Hp} : ∀ {ds : List Da} {vs : List V} (k : Nat) {v : V} {d : Da}, DnL n H vs ds → Dn n H v d → DnL n H (vs.set k v) (ds.set k d)
  | [], _, k, _, _, h, _ => by cases h; exact .nil
  | d :: ds, _, k, _, _, h, q => by
    cases h with
    | cons h1 h2 =>
      cases k with
      | zero => exact .cons q h2
      | succ k => exact .cons h1 (DnL.set k h2 q)
theorem DnL.repl {n : Ns} {H : Hp} {ds : List Da} {vs : List V} (h : DnL n H vs ds) : ∀ k, DnL n H (List.replicate k vs).flatten (List.replicate k ds).flatten
  | 0 => .nil
  | k + 1 => by
    rw [List.replicate_succ, List.replicate_succ, List.flatten_cons, List.flatten_cons]
    exact h.app (DnL.repl h k)
theorem DnL.rev {n : Ns} {H : Hp} : ∀ {ds : List Da} {vs : List V}, DnL n H vs ds → DnL n H vs.reverse ds.reverse
  | [], _, h => by cases h; exact .nil
  | d :: ds, _, h => by
    cases h with
    | cons h1 h2 =>
      rw [List.reverse_cons, List.reverse_cons]
      exact (DnL.rev h2).app (.cons h1 .nil)
theorem DnL.erase {n : Ns} {H : Hp} : ∀ {ds : List Da} {vs : List V} (k : Nat), DnL n H vs ds → DnL n H (vs.eraseIdx k) (ds.eraseIdx k)
  | [], _, k, h => by cases h; simp; exact .nil
  | d :: ds, _, k, h => by
    cases h with
    | cons h1 h2 =>
      cases k with
      | zero => exact h2
      | succ k => exact .cons h1 (DnL.erase k h2)


/-! ## slots and states -/
/-! own true: the list at an address that the caller handed in to be changed; own false: a list made here -/
/-! nst: the object o, with objects of its own inside, ks: each with where it stands -/
mutual
inductive Ob where
  | lst (ds : List Da) | ins (C : Addr) (fs : List (Str × Da)) | dic (D : DicK) (kvs : List (Da × Da)) | nst (l : Addr) (o : HO) (ks : Obs)
inductive Obs where
  | nil | cons (a : Addr) (k : Ob) (ks : Obs)
end
def Obs.addrs : Obs → List Addr
  | .nil => []
  | .cons a _ ks => a :: ks.addrs
/-- what an object holds -/
def hoVals : HO → List V
  | .lst vs => vs
  | .ins _ _ fs => fs.map (·.2)
  | _ => []
mutual
def ObOk (n : Ns) (H : Hp) : Addr → Ob → Prop
  | l, .lst ds => ∃ vs, H l = some (.lst vs) ∧ DnL n H vs ds
  | l, .ins C fs => ∃ dx vs, H l = some (.ins C dx vs) ∧ DnF n H vs fs
  | l, .dic D kvs => ∃ es, H l = some (D l es) ∧ DnE n H es kvs
  | l, .nst l0 o ks => l = l0 ∧ H l = some o ∧ ObsOk n H ks ∧ hoVals o = ks.addrs.map V.ref
def ObsOk (n : Ns) (H : Hp) : Obs → Prop
  | .nil => True
  | .cons a k ks => ObOk n H a k ∧ ObsOk n H ks
end
mutual
/-- where the objects inside stand -/
def Ob.foot : Ob → List Addr
  | .nst _ _ ks => ks.foot
  | _ => []
def Obs.foot : Obs → List Addr
  | .nil => []
  | .cons a k ks => a :: (k.foot ++ ks.foot)
end
/-- a is of the object at l -/
def Ft (l : Addr) (o : Ob) (a : Addr) : Prop := a = l ∨ a ∈ o.foot
/-- where an object stands that is put together of others -/
def Ob.at_ : Ob → Option Addr
  | .nst l _ _ => some l
  | _ => none
def Ob.kidOk (as : List Addr) : Ob → Prop
  | .nst _ _ ks => as = ks.addrs
  | _ => True
def Nd (l : Addr) (o : Ob) : Prop := l ∉ o.foot ∧ o.foot.Nodup
def Ob.addrs : Ob → List Addr
  | .nst _ _ ks => ks.addrs
  | _ => []
theorem Ob.foot_no {o : Ob} (h : o.at_ = none) : o.foot = [] := by cases o <;> first | rfl | cases h
theorem Ob.kid_no {o : Ob} {as : List Addr} (h : o.at_ = none) : o.kidOk as := by cases o <;> first | trivial | cases h
theorem Ft.no {l a : Addr} {o : Ob} (h : Ft l o a) (e : o.foot = []) : a = l := h.elim id fun z => by rw [e] at z; cases z
/-- the object of o' is put together of what o was put together of -/
def SubFt (o' o : Ob) : Prop := (∀ a ∈ o'.foot, a ∈ o.foot) ∧ o'.foot.Nodup
theorem SubFt.no {o' o : Ob} (e : o'.foot = []) : SubFt o' o := by unfold SubFt; rw [e]; exact ⟨(fun a h => absurd h (by simp)), by simp⟩
def FtOw (n : Addr → Prop) (l : Addr) (o : Ob) : Prop := (∀ a, Ft l o a → n a) ∧ Nd l o
theorem Nd.no {l : Addr} {o : Ob} (e : o.foot = []) : Nd l o := by unfold Nd; rw [e]; exact ⟨by simp, by simp⟩
mutual
theorem ObOk.keep {n : Ns} {H H' : Hp} (x : Keep n H H') : ∀ (o : Ob) (l : Addr), ObOk n H l o → (∀ a, Ft l o a → ∀ u, H a = some u → H' a = some u) → ObOk n H' l o
  | .lst ds, l, h, hl => by
    obtain ⟨vs, e2, e3⟩ := h
    exact ⟨vs, hl _ (.inl rfl) _ e2, DnL.extA x _ _ e3⟩
  | .ins C fs, l, h, hl => by
    obtain ⟨dx, vs, e2, e3⟩ := h
    exact ⟨dx, vs, hl _ (.inl rfl) _ e2, DnF.extA x _ _ e3⟩
  | .dic D kvs, l, h, hl => by
    obtain ⟨es, e2, e3⟩ := h
    exact ⟨es, hl _ (.inl rfl) _ e2, DnE.extA x _ _ e3⟩
  | .nst l0 o ks, l, h, hl => by
    obtain ⟨e1, e2, e3, e4⟩ := h
    exact ⟨e1, hl _ (.inl rfl) _ e2, ObsOk.keep x ks e3 fun a ha => hl a (.inr ha), e4⟩
theorem ObsOk.keep {n : Ns} {H H' : Hp} (x : Keep n H H') : ∀ ks : Obs, ObsOk n H ks → (∀ a, a ∈ ks.foot → ∀ u, H a = some u → H' a = some u) → ObsOk n H' ks
  | .nil, _, _ => trivial
  | .cons a k ks, h, hl => by
    obtain ⟨h1, h2⟩ := h
    refine ⟨ObOk.keep x k a h1 fun b hb => hl b ?_, ObsOk.keep x ks h2 fun b hb => hl b (List.mem_cons_of_mem _ (List.mem_append_right _ hb))⟩
    rcases hb with hb | hb
    · rw [hb]; exact List.mem_cons_self
    · exact List.mem_cons_of_mem _ (List.mem_append_left _ hb)
end
mutual
theorem ObOk.reA {n m : Ns} {H : Hp} (k : ∀ a u, H a = some u → ¬ n a → ¬ m a) : ∀ (o : Ob) (l : Addr), ObOk n H l o → ObOk m H l o
  | .lst ds, l, h => by
    obtain ⟨vs, e2, e3⟩ := h
    exact ⟨vs, e2, DnL.re k _ _ e3⟩
  | .ins C fs, l, h => by
    obtain ⟨dx, vs, e2, e3⟩ := h
    exact ⟨dx, vs, e2, DnF.re k _ _ e3⟩
  | .dic D kvs, l, h => by
    obtain ⟨es, e2, e3⟩ := h
    exact ⟨es, e2, DnE.re k _ _ e3⟩
  | .nst l0 o ks, l, h => by
    obtain ⟨e1, e2, e3, e4⟩ := h
    exact ⟨e1, e2, ObsOk.reA k ks e3, e4⟩
theorem ObsOk.reA {n m : Ns} {H : Hp} (k : ∀ a u, H a = some u → ¬ n a → ¬ m a) : ∀ ks : Obs, ObsOk n H ks → ObsOk m H ks
  | .nil, _ => trivial
  | .cons a o ks, h => ⟨ObOk.reA k o a h.1, ObsOk.reA k ks h.2⟩
end
theorem ObOk.re {n m : Ns} {H : Hp} {l : Addr} {o : Ob} (h : ObOk n H l o) (k : ∀ a u, H a = some u → ¬ n a → ¬ m a) : ObOk m H l o := ObOk.reA k o l h
theorem ObOk.some {n : Ns} {H : Hp} {l : Addr} {o : Ob} (h : ObOk n H l o) : ∃ u, H l = some u := by
  cases o with
  | lst ds =>
    obtain ⟨vs, e2, e3⟩ := h
    exact ⟨_, e2⟩
  | ins C fs =>
    obtain ⟨dx, vs, e2, e3⟩ := h
    exact ⟨_, e2⟩
  | dic D kvs =>
    obtain ⟨es, e2, e3⟩ := h
    exact ⟨_, e2⟩
  | nst l0 o ks => exact ⟨_, h.2.1⟩
mutual
theorem ObOk.there {n : Ns} {H : Hp} : ∀ (o : Ob) (l : Addr), ObOk n H l o → ∀ a, Ft l o a → ∃ u, H a = some u
  | .lst ds, l, h, a, ha => by rw [ha.no rfl]; exact h.some
  | .ins C fs, l, h, a, ha => by rw [ha.no rfl]; exact h.some
  | .dic D kvs, l, h, a, ha => by rw [ha.no rfl]; exact h.some
  | .nst l0 o ks, l, h, a, ha => by
    rcases ha with ha | ha
    · rw [ha]; exact ⟨_, h.2.1⟩
    · exact ObsOk.there ks h.2.2.1 a ha
theorem ObsOk.there {n : Ns} {H : Hp} : ∀ ks : Obs, ObsOk n H ks → ∀ a, a ∈ ks.foot → ∃ u, H a = some u
  | .nil, _, a, ha => by cases ha
  | .cons b o ks, h, a, ha => by
    rcases List.mem_cons.mp ha with z | z
    · exact ObOk.there o b h.1 a (.inl z)
    · rcases List.mem_append.mp z with z | z
      · exact ObOk.there o b h.1 a (.inr z)
      · exact ObsOk.there ks h.2 a z
end
inductive Sl where
  | no | is (d : Da) | own (b : Bool) (o : Ob)
def SlOk (n : Ns) (H : Hp) : Sl → Option V → Prop
  | .no, _ => True
  | .is d, o => ∃ v, o = some v ∧ Dn n H v d
  | .own _ ob, o => ∃ l, o = some (.ref l) ∧ ObOk n H l ob
structure Fx where
  H0 : Hp
  io : Addr → Prop
  n0 : Ns
  gh : List (Addr × HO × List V × List Da) := []
structure EnvOk (F : Fx) (n : Ns) (ρ : List Sl) (σ : L2.St) (H : Hp) : Prop where
  len : σ.length = ρ.length
  sl : ∀ (i : Nat) (s : Sl), ρ[i]? = some s → ∃ o, σ[i]? = some o ∧ SlOk n H s o
  ownF : ∀ (i : Nat) (b : Bool) (ds : Ob) (l : Addr), ρ[i]? = some (.own b ds) → σ[i]? = some (some (.ref l)) → (∀ a, Ft l ds a → n.ow a ∧ (if b then F.io a else F.H0 a = none)) ∧ Nd l ds ∧ ds.kidOk (n.kid i)
  apF : ∀ (i j : Nat) (b c : Bool) (ds es : Ob) (l m : Addr), ρ[i]? = some (.own b ds) → ρ[j]? = some (.own c es) → σ[i]? = some (some (.ref l)) → σ[j]? = some (some (.ref m)) → ∀ a, Ft l ds a → Ft m es a → i = j
  sub : ∀ a, F.n0 a → n a
  ion : ∀ a, F.io a → F.n0 a
  al0 : ∀ a, F.n0 a → F.H0 a ≠ none
  al : ∀ a, n a → H a ≠ none
  kp : ∀ a o, F.H0 a = some o → ¬ F.io a → H a = some o
  gh : ∀ p ∈ F.gh, H p.1 = some p.2.1 ∧ ¬ n p.1 ∧ DnL n H p.2.2.1 p.2.2.2
section
variable {F : Fx} {n : Ns} {ρ ρ' ρ1 ρ2 : List Sl} {σ : L2.St} {H H' : Hp}
theorem EnvOk.own (E : EnvOk F n ρ σ H) (i : Nat) (b : Bool) (ds : Ob) (l : Addr) (h : ρ[i]? = some (.own b ds)) (h2 : σ[i]? = some (some (.ref l))) : n.ow l ∧ (if b then F.io l else F.H0 l = none) := (E.ownF i b ds l h h2).1 l (.inl rfl)
theorem EnvOk.ap (E : EnvOk F n ρ σ H) (i j : Nat) (b c : Bool) (ds es : Ob) (l : Addr) (h : ρ[i]? = some (.own b ds)) (h2 : ρ[j]? = some (.own c es)) (h3 : σ[i]? = some (some (.ref l))) (h4 : σ[j]? = some (some (.ref l))) : i = j := E.apF i j b c ds es l l h h2 h3 h4 l (.inl rfl) (.inl rfl)
theorem SlOk.ext {s : Sl} {o : Option V} (h2 : SlOk n H s o) (g : Grow H H') : SlOk n H' s o := by
  cases s with
  | no => trivial
  | is d =>
    obtain ⟨v, e1, e2⟩ := h2
    exact ⟨v, e1, Dn.ext g.ext _ _ e2⟩
  | own b ds =>
    obtain ⟨l, e1, e2⟩ := h2
    exact ⟨l, e1, ObOk.keep (fun a o e _ => g a o e) _ _ e2 fun a _ => g a⟩
theorem SlOk.more {s : Sl} {o : Option V} {p : Addr} (h2 : SlOk n H s o) (hp : H p = none) : SlOk (add n p) H s o := by
  cases s with
  | no => trivial
  | is d =>
    obtain ⟨v, e1, e2⟩ := h2
    exact ⟨v, e1, e2.more hp⟩
  | own b ds =>
    obtain ⟨l, e1, e2⟩ := h2
    exact ⟨l, e1, e2.re (m := add n p) fun a _ e z q => Or.elim q z fun w => ne_of_none e hp w⟩
theorem EnvOk.grow (E : EnvOk F n ρ σ H) (g : Grow H H') : EnvOk F n ρ σ H' where
  len := E.len
  sl := fun i s e => by
    obtain ⟨o, h1, h2⟩ := E.sl i s e
    exact ⟨o, h1, h2.ext g⟩
  ownF := E.ownF
  apF := E.apF
  sub := E.sub
  ion := E.ion
  al0 := E.al0
  al := fun a h => by
    cases e : H a with
    | none => exact absurd e (E.al a h)
    | some o => rw [g _ _ e]; simp
  kp := fun a o h k => g _ _ (E.kp a o h k)
  gh := fun p hp => ⟨g _ _ (E.gh p hp).1, (E.gh p hp).2.1, DnL.ext g.ext _ _ (E.gh p hp).2.2⟩
theorem EnvOk.more (E : EnvOk F n ρ σ H) {p : Addr} (hp : H p = none) (g : Grow H H') (hp' : H' p ≠ none) : EnvOk F (add n p) ρ σ H' where
  len := E.len
  sl := fun i s e => by
    obtain ⟨o, h1, h2⟩ := E.sl i s e
    exact ⟨o, h1, (h2.more hp).ext g⟩
  ownF := E.ownF
  apF := E.apF
  sub := fun a h => .inl (E.sub a h)
  ion := E.ion
  al0 := E.al0
  al := fun a h => by
    rcases h with h | h
    · cases e : H a with
      | none => exact absurd e (E.al a h)
      | some o => rw [g _ _ e]; simp
    · rw [h]; exact hp'
  kp := fun a o h k => g _ _ (E.kp a o h k)
  gh := fun q hq => ⟨g _ _ (E.gh q hq).1, fun z => z.elim (E.gh q hq).2.1 fun w => ne_of_none (E.gh q hq).1 hp w, DnL.ext g.ext _ _ ((E.gh q hq).2.2.more hp)⟩
theorem EnvOk.not (E : EnvOk F n ρ σ H) {p : Addr} (hp : H p = none) : ¬ n p := fun h => E.al p h hp
theorem EnvOk.h0 (E : EnvOk F n ρ σ H) {p : Addr} (hp : H p = none) : F.H0 p = none := by
  cases e : F.H0 p with
  | none => rfl
  | some o =>
    by_cases k : F.io p
    · exact absurd hp (E.al p (E.sub p (E.ion p k)))
    · rw [E.kp p o e k] at hp; cases hp
/-- a slot is set to data -/
theorem EnvOk.set (E : EnvOk F n ρ σ H) {i : Nat} {v : V} {d : Da} (h : Dn n H v d) : EnvOk F n (ρ.set i (.is d)) (σ.set i (some v)) H where
  len := by rw [List.length_set, List.length_set, E.len]
  sl := fun j s e => by
    by_cases hj : i = j
    · subst hj
      rw [List.getElem?_set] at e
      rw [if_pos rfl] at e
      by_cases hl : i < ρ.length
      · rw [if_pos hl] at e; cases e
        exact ⟨some v, by rw [List.getElem?_set, if_pos rfl, if_pos (by rw [E.len]; exact hl)], v, rfl, h⟩
      · rw [if_neg hl] at e; cases e
    · rw [List.getElem?_set, if_neg hj] at e
      obtain ⟨o, h1, h2⟩ := E.sl j s e
      exact ⟨o, by rw [List.getElem?_set, if_neg hj]; exact h1, h2⟩
  ownF := fun j b ds l e1 e2 => by
    by_cases hj : i = j
    · subst hj
      rw [List.getElem?_set, if_pos rfl] at e1
      split at e1 <;> cases e1
    · rw [List.getElem?_set, if_neg hj] at e1 e2
      exact E.ownF j b ds l e1 e2
  apF := fun j k b c ds es l l' e1 e2 e3 e4 => by
    by_cases hj : i = j
    · subst hj
      rw [List.getElem?_set, if_pos rfl] at e1
      split at e1 <;> cases e1
    · by_cases hk : i = k
      · subst hk
        rw [List.getElem?_set, if_pos rfl] at e2
        split at e2 <;> cases e2
      · rw [List.getElem?_set, if_neg hj] at e1 e3
        rw [List.getElem?_set, if_neg hk] at e2 e4
        exact E.apF j k b c ds es l l' e1 e2 e3 e4
  sub := E.sub
  ion := E.ion
  al0 := E.al0
  al := E.al
  kp := E.kp
  gh := E.gh
/-- a slot is forgotten -/
theorem EnvOk.drop (E : EnvOk F n ρ σ H) {i : Nat} (o : Option V) : EnvOk F n (ρ.set i .no) (σ.set i o) H where
  len := by rw [List.length_set, List.length_set, E.len]
  sl := fun j s e => by
    by_cases hj : i = j
    · subst hj
      rw [List.getElem?_set] at e
      rw [if_pos rfl] at e
      by_cases hl : i < ρ.length
      · rw [if_pos hl] at e; cases e
        exact ⟨o, by rw [List.getElem?_set, if_pos rfl, if_pos (by rw [E.len]; exact hl)], trivial⟩
      · rw [if_neg hl] at e; cases e
    · rw [List.getElem?_set, if_neg hj] at e
      obtain ⟨o, h1, h2⟩ := E.sl j s e
      exact ⟨o, by rw [List.getElem?_set, if_neg hj]; exact h1, h2⟩
  ownF := fun j b ds l e1 e2 => by
    by_cases hj : i = j
    · subst hj
      rw [List.getElem?_set, if_pos rfl] at e1
      split at e1 <;> cases e1
    · rw [List.getElem?_set, if_neg hj] at e1 e2
      exact E.ownF j b ds l e1 e2
  apF := fun j k b c ds es l l' e1 e2 e3 e4 => by
    by_cases hj : i = j
    · subst hj
      rw [List.getElem?_set, if_pos rfl] at e1
      split at e1 <;> cases e1
    · by_cases hk : i = k
      · subst hk
        rw [List.getElem?_set, if_pos rfl] at e2
        split at e2 <;> cases e2
      · rw [List.getElem?_set, if_neg hj] at e1 e3
        rw [List.getElem?_set, if_neg hk] at e2 e4
        exact E.apF j k b c ds es l l' e1 e2 e3 e4
  sub := E.sub
  ion := E.ion
  al0 := E.al0
  al := E.al
  kp := E.kp
  gh := E.gh
theorem list_set_self {α : Type} : ∀ (l : List α) (i : Nat) (x : α), l[i]? = some x → l.set i x = l
  | [], _, _, h => by simp at h
  | a :: l, 0, x, h => by simp at h; subst h; rfl
  | a :: l, i + 1, x, h => by
    show a :: l.set i x = a :: l
    rw [list_set_self l i x (by simpa using h)]
theorem EnvOk.forget (E : EnvOk F n ρ σ H) (i : Nat) : EnvOk F n (ρ.set i .no) σ H := by
  cases e : σ[i]? with
  | none =>
    have hl : ρ.length ≤ i := by rw [← E.len]; exact List.getElem?_eq_none_iff.mp e
    rw [List.set_eq_of_length_le hl]
    exact E
  | some o =>
    have := E.drop (i := i) o
    rwa [list_set_self σ i o e] at this
/-- the lists of its own, told of to more -/
theorem EnvOk.may {p : Addr} (E : EnvOk F (add n p) ρ σ H) : EnvOk F (addO n p) ρ σ H :=
  { len := E.len
    sl := fun i s e => by
      obtain ⟨o, h1, h2⟩ := E.sl i s e
      refine ⟨o, h1, ?_⟩
      cases s with
      | no => trivial
      | is d =>
        obtain ⟨v, e1, e2⟩ := h2
        exact ⟨v, e1, e2.less fun a z => z⟩
      | own b ds =>
        obtain ⟨l, e1, e2⟩ := h2
        exact ⟨l, e1, e2.re (m := addO n p) fun a _ _ z q => z q⟩
    ownF := fun i b ds l x y => ⟨fun a ha => ⟨.inl ((E.ownF i b ds l x y).1 a ha).1, ((E.ownF i b ds l x y).1 a ha).2⟩, (E.ownF i b ds l x y).2⟩
    apF := E.apF
    sub := E.sub
    ion := E.ion
    al0 := E.al0
    al := E.al
    kp := E.kp
    gh := fun p hp => ⟨(E.gh p hp).1, (E.gh p hp).2.1, (E.gh p hp).2.2.less fun a z => z⟩ }
/-- a slot is given a list of its own; E0 is the state ahead of the list's making -/
theorem EnvOk.setO {p : Addr} (E : EnvOk F (addO n p) ρ σ H) {i : Nat} {ds : Ob} (n0 : ∀ (j : Nat) (b : Bool) (es : Ob) (l : Addr), ρ[j]? = some (.own b es) → σ[j]? = some (some (.ref l)) → ¬ Ft l es p) (z : F.H0 p = none)
    (h : ObOk (addO n p) H p ds) (hf : ds.at_ = none := by rfl) : EnvOk F (addO n p) (ρ.set i (.own false ds)) (σ.set i (some (.ref p))) H where
  len := by rw [List.length_set, List.length_set, E.len]
  sl := fun j s e => by
    by_cases hj : i = j
    · subst hj
      rw [List.getElem?_set] at e
      rw [if_pos rfl] at e
      by_cases hl : i < ρ.length
      · rw [if_pos hl] at e; cases e
        exact ⟨_, by rw [List.getElem?_set, if_pos rfl, if_pos (by rw [E.len]; exact hl)], p, rfl, h⟩
      · rw [if_neg hl] at e; cases e
    · rw [List.getElem?_set, if_neg hj] at e
      obtain ⟨o, h1, h2⟩ := E.sl j s e
      exact ⟨o, by rw [List.getElem?_set, if_neg hj]; exact h1, h2⟩
  ownF := fun j b es l e1 e2 => by
    by_cases hj : i = j
    · subst hj
      rw [List.getElem?_set, if_pos rfl] at e1 e2
      by_cases hl : i < ρ.length
      · rw [if_pos hl] at e1
        rw [if_pos (by rw [E.len]; exact hl)] at e2
        cases e1; cases e2
        exact ⟨fun a ha => by rw [ha.no (Ob.foot_no hf)]; exact ⟨.inr rfl, z⟩, Nd.no (Ob.foot_no hf), Ob.kid_no hf⟩
      · rw [if_neg hl] at e1; cases e1
    · rw [List.getElem?_set, if_neg hj] at e1 e2
      exact E.ownF j b es l e1 e2
  apF := fun j k b c es fs l l' e1 e2 e3 e4 a ha ha' => by
    by_cases hj : i = j
    · by_cases hk : i = k
      · rw [← hj, hk]
      · subst hj
        rw [List.getElem?_set, if_neg hk] at e2 e4
        rw [List.getElem?_set, if_pos rfl] at e1 e3
        split at e3
        · split at e1
          · cases e3; cases e1
            rw [ha.no (Ob.foot_no hf)] at ha'
            exact absurd ha' (n0 k c fs l' e2 e4)
          · cases e1
        · cases e3
    · rw [List.getElem?_set, if_neg hj] at e1 e3
      by_cases hk : i = k
      · subst hk
        rw [List.getElem?_set, if_pos rfl] at e2 e4
        split at e4
        · split at e2
          · cases e4; cases e2
            rw [ha'.no (Ob.foot_no hf)] at ha
            exact absurd ha (n0 j b es l e1 e3)
          · cases e2
        · cases e4
      · rw [List.getElem?_set, if_neg hk] at e2 e4
        exact E.apF j k b c es fs l l' e1 e2 e3 e4 a ha ha'
  sub := E.sub
  ion := E.ion
  al0 := E.al0
  al := E.al
  kp := E.kp
  gh := E.gh
/-- the object that slot i owns is changed, or one inside it -/
theorem EnvOk.mutN (E : EnvOk F n ρ σ H) {i : Nat} {b : Bool} {l p : Addr} {u : HO} {ds es : Ob} (hi : ρ[i]? = some (.own b ds)) (hs : σ[i]? = some (some (.ref l))) (hp : Ft l ds p) (h : ObOk n (upd H p u) l es) (hf : ∀ a ∈ es.foot, a ∈ ds.foot) (hn : es.foot.Nodup) (hk : ∀ as, ds.kidOk as → es.kidOk as) :
    EnvOk F n (ρ.set i (.own b es)) σ (upd H p u) := by
  obtain ⟨q0, q3, q4⟩ := E.ownF i b ds l hi hs
  obtain ⟨q1, q2⟩ := q0 p hp
  have x : Ext n H (upd H p u) := fun a o e k => by
    rw [upd_ne (fun z => k (by rw [z]; exact q1))]
    exact e
  have ft : ∀ a, Ft l es a → Ft l ds a := fun a ha => ha.imp id (hf a)
  refine ⟨by rw [List.length_set, E.len], fun j s e => ?_, fun j c fs m e1 e2 => ?_, fun j k c c' fs gs m m' e1 e2 e3 e4 a ha ha' => ?_, E.sub, E.ion, E.al0, fun a h => ?_, fun a o e k => ?_, fun p hp => ⟨x _ _ (E.gh p hp).1 fun z => (E.gh p hp).2.1 (n.le _ z), (E.gh p hp).2.1, DnL.ext x _ _ (E.gh p hp).2.2⟩⟩
  · by_cases hj : i = j
    · subst hj
      rw [List.getElem?_set, if_pos rfl] at e
      split at e
      · cases e
        exact ⟨_, hs, l, rfl, h⟩
      · cases e
    · rw [List.getElem?_set, if_neg hj] at e
      obtain ⟨o, h1, h2⟩ := E.sl j s e
      refine ⟨o, h1, ?_⟩
      cases s with
      | no => trivial
      | is d =>
        obtain ⟨v, e1, e2⟩ := h2
        exact ⟨v, e1, Dn.ext x _ _ e2⟩
      | own c fs =>
        obtain ⟨m, e1, e2⟩ := h2
        subst e1
        refine ⟨m, rfl, ObOk.keep x.keep _ _ e2 fun a ha v hv => ?_⟩
        rw [upd_ne]
        · exact hv
        · intro z
          subst z
          exact hj (E.apF i j b c ds fs l m hi e hs h1 a hp ha)
  · by_cases hj : i = j
    · subst hj
      rw [List.getElem?_set, if_pos rfl] at e1
      split at e1
      · cases e1
        rw [hs] at e2
        cases e2
        exact ⟨fun a ha => q0 a (ft a ha), ⟨fun z => q3.1 (hf _ z), hn⟩, hk _ q4⟩
      · cases e1
    · rw [List.getElem?_set, if_neg hj] at e1
      exact E.ownF j c fs m e1 e2
  · have f1 : ∃ fs', ρ[j]? = some (.own c fs') ∧ Ft m fs' a := by
      by_cases hj : i = j
      · subst hj
        rw [List.getElem?_set, if_pos rfl] at e1
        split at e1
        · cases e1
          rw [hs] at e3
          cases e3
          exact ⟨_, hi, ft a ha⟩
        · cases e1
      · rw [List.getElem?_set, if_neg hj] at e1; exact ⟨_, e1, ha⟩
    have f2 : ∃ gs', ρ[k]? = some (.own c' gs') ∧ Ft m' gs' a := by
      by_cases hj : i = k
      · subst hj
        rw [List.getElem?_set, if_pos rfl] at e2
        split at e2
        · cases e2
          rw [hs] at e4
          cases e4
          exact ⟨_, hi, ft a ha'⟩
        · cases e2
      · rw [List.getElem?_set, if_neg hj] at e2; exact ⟨_, e2, ha'⟩
    obtain ⟨fs', f1, g1⟩ := f1
    obtain ⟨gs', f2, g2⟩ := f2
    exact E.apF j k c c' fs' gs' m m' f1 f2 e3 e4 a g1 g2
  · by_cases ha : a = p
    · rw [ha, upd_same]; simp
    · rw [upd_ne ha]; exact E.al a h
  · by_cases ha : a = p
    · subst ha
      cases b with
      | true => exact absurd (show F.io a from q2) k
      | false =>
        have q2' : F.H0 a = none := q2
        rw [q2'] at e; cases e
    · rw [upd_ne ha]; exact E.kp a o e k
theorem EnvOk.mut (E : EnvOk F n ρ σ H) {i : Nat} {b : Bool} {l : Addr} {u : HO} {ds es : Ob} (hi : ρ[i]? = some (.own b ds)) (hs : σ[i]? = some (some (.ref l))) (h : ObOk n (upd H l u) l es) (hf : es.at_ = none := by rfl) :
    EnvOk F n (ρ.set i (.own b es)) σ (upd H l u) := E.mutN hi hs (.inl rfl) h (fun a z => by rw [Ob.foot_no hf] at z; cases z) (by rw [Ob.foot_no hf]; simp) (fun _ _ => Ob.kid_no hf)
/-- the list that slot i owns is from now on data -/
def obD : Ob → Da
  | .lst ds => .lst ds
  | .ins C fs => .ins C fs
  | .dic D kvs => .dic D kvs
  | .nst l _ _ => .cl l
theorem ObOk.dn {n m : Ns} {H : Hp} {l : Addr} {o : Ob} (h : ObOk n H l o) (lss : ∀ a, m a → n a) (hl : ¬ m l) : Dn m H (.ref l) (obD o) := by
  have h := h.re (m := m) fun a _ _ z q => z (lss a q)
  cases o with
  | lst ds =>
    obtain ⟨vs, e2, e3⟩ := h
    exact .lst e2 hl e3
  | ins C fs =>
    obtain ⟨dx, vs, e2, e3⟩ := h
    exact .ins e2 hl e3
  | dic D kvs =>
    obtain ⟨es, e2, e3⟩ := h
    exact .dic e2 hl e3
  | nst l0 o ks => rw [h.1]; exact .cl l0
theorem EnvOk.freezeF (E : EnvOk F n ρ σ H) {i : Nat} {ds : Ob} {d : Da} (hi : ρ[i]? = some (.own false ds)) (hd : ∀ (n' : Ns) (l : Addr), (∀ a, n' a → n a) → (∀ a, Ft l ds a → ¬ n' a) → ObOk n H l ds → Dn n' H (.ref l) d) :
    ∃ n' : Ns, (∀ a, n' a → n a) ∧ (∀ l, σ[i]? = some (some (.ref l)) → ∀ a, Ft l ds a → ¬ n' a) ∧ EnvOk F n' (ρ.set i (.is d)) σ H := by
  obtain ⟨o, hs, l, e1, hq⟩ := E.sl i _ hi
  subst e1
  obtain ⟨q0, q3⟩ := E.ownF i false ds l hi hs
  have q2' : ∀ a, Ft l ds a → F.H0 a = none := fun a ha => (q0 a ha).2
  let m : Ns := ⟨fun a => n a ∧ ¬ Ft l ds a, fun a => n.ow a ∧ ¬ Ft l ds a, fun a h => ⟨n.le a h.1, h.2⟩, n.kid⟩
  have lss : ∀ a, m a → n a := fun a h => h.1
  refine ⟨m, lss, fun k e a ha z => by rw [hs] at e; cases e; exact z.2 ha, ?_⟩
  have hi' : i < ρ.length := by
    rcases List.getElem?_eq_some_iff.mp hi with ⟨h, _⟩
    exact h
  refine ⟨by rw [List.length_set, E.len], fun j s e => ?_, fun j c fs k e1 e2 => ?_, fun j k c c' fs gs l1 l2 e1 e2 e3 e4 => ?_, fun a h => ⟨E.sub a h, fun z => E.al0 a h (q2' a z)⟩, E.ion, E.al0, fun a h => E.al a h.1, E.kp, fun p hp => ⟨(E.gh p hp).1, fun z => (E.gh p hp).2.1 z.1, (E.gh p hp).2.2.less lss⟩⟩
  · by_cases hj : i = j
    · subst hj
      rw [List.getElem?_set, if_pos rfl, if_pos hi'] at e
      cases e
      exact ⟨_, hs, _, rfl, hd m l lss (fun a ha z => z.2 ha) hq⟩
    · rw [List.getElem?_set, if_neg hj] at e
      obtain ⟨o, h1, h2⟩ := E.sl j s e
      refine ⟨o, h1, ?_⟩
      cases s with
      | no => trivial
      | is d =>
        obtain ⟨v, e1, e2⟩ := h2
        exact ⟨v, e1, e2.less lss⟩
      | own c fs =>
        obtain ⟨k, e1, e2⟩ := h2
        exact ⟨k, e1, e2.re (m := m) fun a _ _ z q => z (lss a q)⟩
  · by_cases hj : i = j
    · subst hj
      rw [List.getElem?_set, if_pos rfl, if_pos hi'] at e1
      cases e1
    · rw [List.getElem?_set, if_neg hj] at e1
      obtain ⟨z1, z2⟩ := E.ownF j c fs k e1 e2
      refine ⟨fun a ha => ⟨⟨(z1 a ha).1, fun z => ?_⟩, (z1 a ha).2⟩, z2⟩
      exact hj (E.apF i j false c ds fs l k hi e1 hs e2 a z ha)
  · by_cases hj : i = j
    · subst hj
      rw [List.getElem?_set, if_pos rfl, if_pos hi'] at e1
      cases e1
    · by_cases hk : i = k
      · subst hk
        rw [List.getElem?_set, if_pos rfl, if_pos hi'] at e2
        cases e2
      · rw [List.getElem?_set, if_neg hj] at e1
        rw [List.getElem?_set, if_neg hk] at e2
        exact E.apF j k c c' fs gs l1 l2 e1 e2 e3 e4
theorem EnvOk.freezeX (E : EnvOk F n ρ σ H) {i : Nat} {ds : Ob} (hi : ρ[i]? = some (.own false ds)) : ∃ n' : Ns, (∀ a, n' a → n a) ∧ (∀ l, σ[i]? = some (some (.ref l)) → ¬ n' l) ∧ EnvOk F n' (ρ.set i (.is (obD ds))) σ H := by
  obtain ⟨n', h1, h2, h3⟩ := E.freezeF (d := obD ds) hi fun n' l lss ha h => h.dn lss (ha l (.inl rfl))
  exact ⟨n', h1, fun l e => h2 l e l (.inl rfl), h3⟩
theorem EnvOk.freeze (E : EnvOk F n ρ σ H) {i : Nat} {ds : Ob} (hi : ρ[i]? = some (.own false ds)) : ∃ n', EnvOk F n' (ρ.set i (.is (obD ds))) σ H :=
  (E.freezeX hi).imp fun _ h => h.2.2
end
section
variable {F : Fx} {n : Ns} {ρ ρ' ρ1 ρ2 : List Sl} {σ : L2.St} {H H' : Hp}
/-- what an expression hands on: data, or the very list that a slot owns -/
inductive Rk where
  | da (d : Da) | sl (i : Nat) | kd (i j : Nat)
def Obs.nth : Obs → Nat → Option Ob
  | .nil, _ => none
  | .cons _ k _, 0 => some k
  | .cons _ _ ks, j + 1 => ks.nth j
theorem ObsOk.nth {n : Ns} {H : Hp} : ∀ {ks : Obs} {j : Nat} {k : Ob} {a : Addr}, ObsOk n H ks → ks.nth j = some k → ks.addrs[j]? = some a → ObOk n H a k
  | .nil, _, _, _, _, e, _ => by cases e
  | .cons b o ks, 0, _, _, h, e, e2 => by cases e; cases e2; exact h.1
  | .cons b o ks, j + 1, _, _, h, e, e2 => ObsOk.nth (j := j) h.2 e e2
def RelK (n : Ns) (σ : L2.St) (H : Hp) (v : V) : Rk → Prop
  | .da d => Dn n H v d
  | .sl i => σ[i]? = some (some v)
  | .kd i j => ∃ a, (n.kid i)[j]? = some a ∧ v = .ref a
def see (ρ : List Sl) : Rk → Option Da
  | .da d => some d
  | .sl i => match ρ[i]? with
    | some (.own _ o) => some (obD o)
    | some (.is d) => some d
    | _ => none
  | .kd i j => match ρ[i]? with
    | some (.own _ (.nst _ _ ks)) => (ks.nth j).map obD
    | _ => none
theorem RelK.ext {v : V} {k : Rk} (r : RelK n σ H v k) (x : Ext n H H') : RelK n σ H' v k := by
  cases k with
  | da d => exact Dn.ext x _ _ r
  | sl i => exact r
  | kd i j => exact r
mutual
/-- an object of its own with all that is inside, as data -/
def obX : Ob → Option Da
  | .lst ds => some (.lst ds)
  | .ins C fs => some (.ins C fs)
  | .dic D kvs => some (.dic D kvs)
  | .nst _ (.lst _) ks => (obsX ks).map .lst
  | .nst _ (.ins C _ fs) ks => (obsX ks).map fun ds => .ins C ((fs.map (·.1)).zip ds)
  | .nst _ _ _ => none
def obsX : Obs → Option (List Da)
  | .nil => some []
  | .cons _ k ks => match obX k, obsX ks with
    | some d, some ds => some (d :: ds)
    | _, _ => none
end
theorem dnf_zip {m : Ns} {H : Hp} : ∀ {fs : List (Str × V)} {ds : List Da}, DnL m H (fs.map (·.2)) ds → DnF m H fs ((fs.map (·.1)).zip ds)
  | [], _, h => by cases h; exact .nil
  | (f, v) :: fs, _, h => by
    cases h with
    | cons h1 h2 => exact .cons h1 (dnf_zip h2)
mutual
theorem ObOk.dnX {n m : Ns} {H : Hp} (lss : ∀ a, m a → n a) : ∀ (o : Ob) (l : Addr) (d : Da), ObOk n H l o → obX o = some d → (∀ a, Ft l o a → ¬ m a) → Dn m H (.ref l) d
  | .lst ds, l, d, h, e, k => by cases e; exact h.dn lss (k l (.inl rfl))
  | .ins C fs, l, d, h, e, k => by cases e; exact h.dn lss (k l (.inl rfl))
  | .dic D kvs, l, d, h, e, k => by cases e; exact h.dn lss (k l (.inl rfl))
  | .nst l0 o ks, l, d, h, e, k => by
    obtain ⟨e1, e2, e3, e4⟩ := h
    cases o with
    | lst vs =>
      have e : (obsX ks).map Da.lst = some d := e
      cases e5 : obsX ks with
      | none => rw [e5] at e; cases e
      | some ds =>
        rw [e5] at e
        cases e
        have e4 : vs = ks.addrs.map V.ref := e4
        exact .lst e2 (k l (.inl rfl)) (by rw [e4]; exact ObsOk.dnX lss ks ds e3 e5 fun a ha => k a (.inr ha))
    | ins C dx fs =>
      have e : (obsX ks).map (fun ds => Da.ins C ((fs.map (·.1)).zip ds)) = some d := e
      cases e5 : obsX ks with
      | none => rw [e5] at e; cases e
      | some ds =>
        rw [e5] at e
        cases e
        have e4 : fs.map (·.2) = ks.addrs.map V.ref := e4
        exact .ins e2 (k l (.inl rfl)) (dnf_zip (by rw [e4]; exact ObsOk.dnX lss ks ds e3 e5 fun a ha => k a (.inr ha)))
    | tup _ => cases e
    | dK _ => cases e
    | dT _ => cases e
    | set _ _ => cases e
    | own _ => cases e
    | xd _ => cases e
    | met _ _ => cases e
    | rng _ _ => cases e
    | frz _ _ => cases e
    | tbl _ => cases e
    | ext _ => cases e
theorem ObsOk.dnX {n m : Ns} {H : Hp} (lss : ∀ a, m a → n a) : ∀ (ks : Obs) (ds : List Da), ObsOk n H ks → obsX ks = some ds → (∀ a, a ∈ ks.foot → ¬ m a) → DnL m H (ks.addrs.map V.ref) ds
  | .nil, ds, _, e, _ => by cases e; exact .nil
  | .cons a o ks, ds, h, e, k => by
    have e : (match obX o, obsX ks with
      | some d, some ds => some (d :: ds)
      | _, _ => none) = some ds := e
    cases e5 : obX o with
    | none => rw [e5] at e; cases e
    | some d =>
      cases e6 : obsX ks with
      | none => rw [e5, e6] at e; cases e
      | some es =>
        rw [e5, e6] at e
        cases e
        refine .cons (ObOk.dnX lss o a d h.1 e5 fun b hb => k b ?_) (ObsOk.dnX lss ks es h.2 e6 fun b hb => k b (List.mem_cons_of_mem _ (List.mem_append_right _ hb)))
        rcases hb with hb | hb
        · rw [hb]; exact List.mem_cons_self
        · exact List.mem_cons_of_mem _ (List.mem_append_left _ hb)
end
/-- what an argument is for the def that is called -/
def seeX (ρ : List Sl) : Rk → Option Da
  | .da d => some d
  | .sl i => match ρ[i]? with
    | some (.own _ o) => obX o
    | some (.is d) => some d
    | _ => none
  | .kd i j => match ρ[i]? with
    | some (.own _ (.nst _ _ ks)) => (ks.nth j).bind obX
    | _ => none
/-- what is looked at: data, or an object of its own -/
def Seen (n : Ns) (H : Hp) (v : V) (d : Da) : Prop := Dn n H v d ∨ ∃ l o, v = .ref l ∧ d = obD o ∧ ObOk n H l o
theorem peek (E : EnvOk F n ρ σ H) {v : V} {k : Rk} {d : Da} (r : RelK n σ H v k) (s : see ρ k = some d) : Seen n H v d := by
  cases k with
  | da d' => cases s; exact .inl r
  | sl i =>
    dsimp only [see] at s
    cases e : ρ[i]? with
    | none => rw [e] at s; cases s
    | some z =>
      rw [e] at s
      obtain ⟨o, h1, h2⟩ := E.sl i z e
      have r' : σ[i]? = some (some v) := r
      rw [r'] at h1
      cases h1
      cases z with
      | no => cases s
      | is d' =>
        cases s
        obtain ⟨v', e1, e2⟩ := h2
        cases e1
        exact .inl e2
      | own b o =>
        cases s
        obtain ⟨l, e1, e2⟩ := h2
        cases e1
        exact .inr ⟨l, o, rfl, rfl, e2⟩
  | kd i j =>
    obtain ⟨a, g1, rfl⟩ := r
    dsimp only [see] at s
    cases e : ρ[i]? with
    | none => rw [e] at s; cases s
    | some z =>
      rw [e] at s
      cases z with
      | no => cases s
      | is d' => cases s
      | own b o =>
        cases o with
        | lst ds => cases s
        | ins C fs => cases s
        | dic D kvs => cases s
        | nst l0 u ks =>
          obtain ⟨o, h1, l, e1, e2⟩ := E.sl i _ e
          subst e1
          have w := (E.ownF i b _ l e h1).2.2
          have w' : n.kid i = ks.addrs := w
          rw [w'] at g1
          have s : (ks.nth j).map obD = some d := s
          cases e3 : ks.nth j with
          | none => rw [e3] at s; cases s
          | some k =>
            rw [e3] at s
            cases s
            exact .inr ⟨a, k, rfl, rfl, ObsOk.nth e2.2.2.1 e3 g1⟩
mutual
theorem foot_sub : ∀ {ks : Obs} {j : Nat} {k : Ob} {a : Addr}, ks.nth j = some k → ks.addrs[j]? = some a → ∀ b, Ft a k b → b ∈ ks.foot
  | .nil, _, _, _, e, _ => by cases e
  | .cons b o ks, 0, _, _, e, e2 => by
    cases e; cases e2
    intro c hc
    rcases hc with hc | hc
    · rw [hc]; exact List.mem_cons_self
    · exact List.mem_cons_of_mem _ (List.mem_append_left _ hc)
  | .cons b o ks, j + 1, _, _, e, e2 => fun c hc => List.mem_cons_of_mem _ (List.mem_append_right _ (foot_sub (ks := ks) (j := j) e e2 c hc))
end
theorem peekXX (E : EnvOk F n ρ σ H) {m : Ns} (lss : ∀ a, m a → n a) (hm : ∀ a, m a → ¬ n.ow a) {v : V} {k : Rk} {d : Da} (r : RelK n σ H v k) (s : seeX ρ k = some d) : Dn m H v d := by
  cases k with
  | da d' => cases s; exact Dn.less r lss
  | sl i =>
    dsimp only [seeX] at s
    cases e : ρ[i]? with
    | none => rw [e] at s; cases s
    | some z =>
      rw [e] at s
      obtain ⟨o, h1, h2⟩ := E.sl i z e
      have r' : σ[i]? = some (some v) := r
      rw [r'] at h1
      cases h1
      cases z with
      | no => cases s
      | is d' =>
        cases s
        obtain ⟨v', e1, e2⟩ := h2
        cases e1
        exact e2.less lss
      | own b o =>
        obtain ⟨l, e1, e2⟩ := h2
        cases e1
        exact ObOk.dnX lss o l d e2 s fun a ha z => hm a z ((E.ownF i b o l e r').1 a ha).1
  | kd i j =>
    obtain ⟨a, g1, rfl⟩ := r
    dsimp only [seeX] at s
    cases e : ρ[i]? with
    | none => rw [e] at s; cases s
    | some z =>
      rw [e] at s
      cases z with
      | no => cases s
      | is d' => cases s
      | own b o =>
        cases o with
        | lst ds => cases s
        | ins C fs => cases s
        | dic D kvs => cases s
        | nst l0 u ks =>
          obtain ⟨o, h1, l, e1, e2⟩ := E.sl i _ e
          subst e1
          have q := E.ownF i b _ l e h1
          have w' : n.kid i = ks.addrs := q.2.2
          rw [w'] at g1
          have s : (ks.nth j).bind obX = some d := s
          cases e3 : ks.nth j with
          | none => rw [e3] at s; cases s
          | some k =>
            rw [e3] at s
            exact ObOk.dnX lss k a d (ObsOk.nth e2.2.2.1 e3 g1) s fun b' hb z => hm b' z (q.1 b' (.inr (foot_sub e3 g1 b' hb))).1
/-- a list that is looked at -/
theorem peekL (E : EnvOk F n ρ σ H) {v : V} {k : Rk} {ds : List Da} (r : RelK n σ H v k) (s : see ρ k = some (.lst ds)) : ∃ a vs, v = .ref a ∧ H a = some (.lst vs) ∧ DnL n H vs ds := by
  rcases peek E r s with h | ⟨l, o, rfl, e, h⟩
  · cases h with
    | lst h1 h2 h3 => exact ⟨_, _, rfl, h1, h3⟩
  · cases o with
    | lst es =>
      cases e
      obtain ⟨vs, e2, e3⟩ := h
      exact ⟨_, _, rfl, e2, e3⟩
    | ins C fs => cases e
    | dic D kvs => cases e
    | nst l0 o ks => cases e
/-- an object of a class that is looked at -/
theorem peekN (E : EnvOk F n ρ σ H) {v : V} {k : Rk} {C : Addr} {fs : List (Str × Da)} (r : RelK n σ H v k) (s : see ρ k = some (.ins C fs)) : ∃ a dx vs, v = .ref a ∧ H a = some (.ins C dx vs) ∧ DnF n H vs fs := by
  rcases peek E r s with h | ⟨l, o, rfl, e, h⟩
  · cases h with
    | ins h1 h2 h3 => exact ⟨_, _, _, rfl, h1, h3⟩
  · cases o with
    | lst es => cases e
    | dic D kvs => cases e
    | nst l0 o ks => cases e
    | ins C fs =>
      cases e
      obtain ⟨dx, vs, e2, e3⟩ := h
      exact ⟨_, _, _, rfl, e2, e3⟩
/-- anything else is data -/
theorem peekD (E : EnvOk F n ρ σ H) {v : V} {k : Rk} {d : Da} (r : RelK n σ H v k) (s : see ρ k = some d) (hd : ∀ o, d ≠ obD o) : Dn n H v d := by
  rcases peek E r s with h | ⟨l, o, rfl, e, h⟩
  · exact h
  · exact absurd e (hd o)
end

/-! ## what expressions evaluate to -/
/-- what an expression hands on, with a new list apart: nw -/
inductive Rw where
  | da (d : Da) | sl (i : Nat) | nw (ds : List Da) | kd (i j : Nat)
def soft : Rw → Rk
  | .da d => .da d | .sl i => .sl i | .nw ds => .da (.lst ds) | .kd i j => .kd i j
def RelW (F : Fx) (n : Ns) (ρ : List Sl) (σ : L2.St) (H H' : Hp) (v : V) : Rw → Prop
  | .da d => Dn n H' v d
  | .sl i => σ[i]? = some (some v)
  | .nw ds => ∃ p us, v = .ref p ∧ H p = none ∧ EnvOk F (add n p) ρ σ H' ∧ H' p = some (.lst us) ∧ DnL (add n p) H' us ds
  | .kd i j => ∃ a, (n.kid i)[j]? = some a ∧ v = .ref a
def Wp (te : TE) (ρ : List Sl) (Φ : Rw → List Sl → Prop) : Prop := ∀ F n σ H, EnvOk F n ρ σ H → ∀ Q : VK, (∀ v H' k ρ', Φ k ρ' → EnvOk F n ρ' σ H' → Ext n H H' → RelW F n ρ' σ H H' v k → Q v H') → te σ H Q
def WpB (tt : TT) (ρ : List Sl) (Φ : Bool → List Sl → Prop) : Prop := ∀ F n σ H, EnvOk F n ρ σ H → ∀ Q : Bool → Hp → Prop, (∀ H' b ρ', Φ b ρ' → EnvOk F n ρ' σ H' → Ext n H H' → Q b H') → tt σ H Q
inductive RelKs (n : Ns) (σ : L2.St) (H : Hp) : List V → List Rk → Prop
  | nil : RelKs n σ H [] []
  | cons {v vs k ks} : RelK n σ H v k → RelKs n σ H vs ks → RelKs n σ H (v :: vs) (k :: ks)
theorem RelKs.ext {n : Ns} {σ : L2.St} {H H' : Hp} (x : Ext n H H') : ∀ {ks : List Rk} {vs : List V}, RelKs n σ H vs ks → RelKs n σ H' vs ks
  | [], _, h => by cases h; exact .nil
  | k :: ks, _, h => by
    cases h with
    | cons h1 h2 => exact .cons (h1.ext x) (RelKs.ext x h2)
def WpA (ta : TA) (ρ : List Sl) (Φ : List Rk → List Sl → Prop) : Prop := ∀ F n σ H, EnvOk F n ρ σ H → ∀ Q : List V → Hp → Prop, (∀ vs H' ks ρ', Φ ks ρ' → EnvOk F n ρ' σ H' → Ext n H H' → RelKs n σ H' vs ks → Q vs H') → ta σ H Q
theorem RelW.soft {F : Fx} {n : Ns} {ρ ρ0 : List Sl} {σ : L2.St} {H H' : Hp} {v : V} {k : Rw} (E : EnvOk F n ρ0 σ H) (r : RelW F n ρ σ H H' v k) : RelK n σ H' v (soft k) := by
  cases k with
  | da d => exact r
  | sl i => exact r
  | kd i j => exact r
  | nw ds =>
    obtain ⟨p, us, rfl, h1, _, h2, h3⟩ := r
    exact .lst h2 (E.not h1) (h3.less fun a z => .inl z)
/-- what was fresh behind is fresh ahead -/
theorem fresh_pre {F : Fx} {n : Ns} {ρ : List Sl} {σ : L2.St} {H H1 : Hp} (E1 : EnvOk F n ρ σ H1) (x : Ext n H H1) {p : Addr} (h : H1 p = none) : H p = none := by
  cases e : H p with
  | none => rfl
  | some o =>
    by_cases k : n.ow p
    · exact absurd h (E1.al p (n.le p k))
    · rw [x p o e k] at h; cases h
theorem RelW.pre {F : Fx} {n : Ns} {ρ ρ1 : List Sl} {σ : L2.St} {H H1 H' : Hp} {v : V} {k : Rw} (E1 : EnvOk F n ρ1 σ H1) (x : Ext n H H1) (r : RelW F n ρ σ H1 H' v k) : RelW F n ρ σ H H' v k := by
  cases k with
  | da d => exact r
  | sl i => exact r
  | kd i j => exact r
  | nw ds =>
    obtain ⟨p, us, e, h1, h2⟩ := r
    exact ⟨p, us, e, fresh_pre E1 x h1, h2⟩
section
variable {ρ ρ' ρ1 ρ2 ρ3 : List Sl} {te ta tb tc : TE} {tt tu : TT} {tx tr : TA} {d e : Da} {k k1 k2 : Rk} {ks : List Rk} {ds es : List Da} {Φ Ψ : Rw → List Sl → Prop} {ΦB : Bool → List Sl → Prop} {ΦA : List Rk → List Sl → Prop}
theorem Wp.imp (h : Wp te ρ Φ) (q : ∀ k ρ', Φ k ρ' → Ψ k ρ') : Wp te ρ Ψ := fun F n σ H E Q g => h F n σ H E Q fun v H' k ρ' f => g v H' k ρ' (q k ρ' f)
theorem WpB.imp {Φ Ψ : Bool → List Sl → Prop} (h : WpB tt ρ Φ) (q : ∀ k ρ', Φ k ρ' → Ψ k ρ') : WpB tt ρ Ψ := fun F n σ H E Q g => h F n σ H E Q fun H' k ρ' f => g H' k ρ' (q k ρ' f)
theorem wp_var {i : Nat} (h : ρ[i]? = some (.is d)) (q : Φ (.da d) ρ) : Wp (tVar i) ρ Φ := fun F n σ H E Q g => by
  obtain ⟨o, h1, v, e1, e2⟩ := E.sl i _ h
  subst e1
  exact ⟨v, h1, g v H _ ρ q E .refl e2⟩
theorem wp_varO {i : Nat} {b : Bool} {o : Ob} (h : ρ[i]? = some (.own b o)) (q : Φ (.sl i) ρ) : Wp (tVar i) ρ Φ := fun F n σ H E Q g => by
  obtain ⟨u, h1, l, e1, e2⟩ := E.sl i _ h
  subst e1
  exact ⟨_, h1, g _ H _ ρ q E .refl h1⟩
theorem wp_int {i : Int} (q : Φ (.da (.int i)) ρ) : Wp (tC (.int i)) ρ Φ := fun F n σ H E Q g => g _ H _ ρ q E .refl (.int i)
theorem wp_bl {i : Bool} (q : Φ (.da (.bl i)) ρ) : Wp (tC (.bl i)) ρ Φ := fun F n σ H E Q g => g _ H _ ρ q E .refl (.bl i)
theorem wp_str {i : Str} (q : Φ (.da (.str i)) ρ) : Wp (tC (.str i)) ρ Φ := fun F n σ H E Q g => g _ H _ ρ q E .refl (.str i)
theorem wp_non (q : Φ (.da .non) ρ) : Wp (tC .non) ρ Φ := fun F n σ H E Q g => g _ H _ ρ q E .refl .non
theorem wa_nil (q : ΦA [] ρ) : WpA tNil ρ ΦA := fun F n σ H E Q g => g [] H _ ρ q E .refl .nil
theorem wa_cons (h : Wp te ρ fun k ρ1 => WpA tr ρ1 fun ks ρ2 => ΦA (soft k :: ks) ρ2) : WpA (tCons te tr) ρ ΦA := fun F n σ H E Q g =>
  h F n σ H E _ fun v H1 k ρ1 f1 E1 x1 r1 => f1 F n σ H1 E1 _ fun vs H2 ks ρ2 f2 E2 x2 r2 => g _ H2 _ ρ2 f2 E2 (x1.trans x2) (.cons ((r1.soft E).ext x2) r2)
end
end Dd
namespace Dd
open PySem PySem.Spec PyProof.Rows L2

/-! ## data as the library compares it -/
mutual
/-- plain: no objects of a class in it -/
def plain : Da → Bool
  | .lst ds => plains ds | .tup ds => plains ds | .ins _ _ => false | .scr _ _ => false | .ty _ => false | .cl _ => false | .exn _ _ => false | .dic _ _ => false | _ => true
def plains : List Da → Bool
  | [] => true | d :: ds => plain d && plains ds
end
structure Fit (d : Da) : Prop where
  pl : plain d = true
  sh : SeqAt.shaped (toPy d) = true
def eqD (d e : Da) : Bool := PyData.eqv (toPy d) (toPy e)
mutual
theorem Dn.dp {K : PySem.W.Frag} {n : Ns} {H : Hp} : ∀ (d : Da) (v : V), plain d = true → Dn n H v d → Dp K H v (toPy d)
  | .non, _, _, h => by cases h; rw [toPy]; exact .non
  | .bl _, _, _, h => by cases h; rw [toPy]; exact .bl _
  | .int _, _, _, h => by cases h; rw [toPy]; exact .int _
  | .str _, _, _, h => by cases h; rw [toPy]; exact .str _
  | .lst ds, _, p, h => by
    cases h with
    | lst h1 h2 h3 => rw [toPy]; exact .lst (.inl (.inl h1)) (DnL.dp ds _ (by rw [plain] at p; exact p) h3)
  | .tup ds, _, p, h => by
    cases h with
    | tup h1 h2 h3 => rw [toPy]; exact .tup (.inl (.inl h1)) (DnL.dp ds _ (by rw [plain] at p; exact p) h3)
  | .ins C fs, _, p, _ => by rw [plain] at p; cases p
  | .scr K ns, _, p, _ => by rw [plain] at p; cases p
  | .ty K, _, p, _ => by rw [plain] at p; cases p
  | .cl K, _, p, _ => by rw [plain] at p; cases p
  | .exn C fs, _, p, _ => by rw [plain] at p; cases p
  | .dic D fs, _, p, _ => by rw [plain] at p; cases p
theorem DnL.dp {K : PySem.W.Frag} {n : Ns} {H : Hp} : ∀ (ds : List Da) (vs : List V), plains ds = true → DnL n H vs ds → DpAll K H vs (toPys ds)
  | [], _, _, h => by cases h; rw [toPys]; exact .nil
  | d :: ds, _, p, h => by
    rw [plains, Bool.and_eq_true] at p
    cases h with
    | cons h1 h2 => rw [toPys]; exact .cons (Dn.dp d _ p.1 h1) (DnL.dp ds _ p.2 h2)
end
def inz (ns : List Int) : List Da := ns.map .int
theorem DnL.inz {n : Ns} {H : Hp} : ∀ {ns : List Int} {vs : List V}, DnL n H vs (inz ns) → vs = ns.map V.int
  | [], _, h => by cases h; rfl
  | i :: ns, _, h => by
    cases h with
    | cons h1 h2 => cases h1; rw [DnL.inz h2]; rfl
theorem DnL.ofInts {n : Ns} {H : Hp} : ∀ ns : List Int, DnL n H (ns.map V.int) (Dd.inz ns)
  | [] => .nil
  | i :: ns => .cons (.int i) (DnL.ofInts ns)
theorem peekE {K : PySem.W.Frag} {F : Fx} {n : Ns} {ρ : List Sl} {σ : L2.St} {H : Hp} (E : EnvOk F n ρ σ H) {v : V} {k : Rk} {d : Da} (r : RelK n σ H v k) (s : see ρ k = some d) (p : plain d = true) : Dp K H v (toPy d) := by
  by_cases hd : ∃ ds, d = .lst ds
  · obtain ⟨ds, rfl⟩ := hd
    obtain ⟨a, vs, rfl, h1, h2⟩ := peekL E r s
    rw [toPy]
    rw [plain] at p
    exact .lst (.inl (.inl h1)) (DnL.dp ds _ p h2)
  · exact Dn.dp d v p (peekD E r s fun o e => by cases o with | lst ds => exact hd ⟨ds, e⟩ | ins C fs => subst e; exact absurd p (by simp [obD, plain]) | dic C fs => subst e; exact absurd p (by simp [obD, plain]) | nst l0 C fs => subst e; exact absurd p (by simp [obD, plain]))
/-- a value that is not a list, by cases -/
theorem peekI {F : Fx} {n : Ns} {ρ : List Sl} {σ : L2.St} {H : Hp} (E : EnvOk F n ρ σ H) {v : V} {k : Rk} {i : Int} (r : RelK n σ H v k) (s : see ρ k = some (.int i)) : v = .int i := by
  have h := peekD E r s (fun o e => by cases o <;> cases e)
  cases h; rfl
theorem peekS {F : Fx} {n : Ns} {ρ : List Sl} {σ : L2.St} {H : Hp} (E : EnvOk F n ρ σ H) {v : V} {k : Rk} {i : Str} (r : RelK n σ H v k) (s : see ρ k = some (.str i)) : v = .str i := by
  have h := peekD E r s (fun o e => by cases o <;> cases e)
  cases h; rfl
theorem peekC {F : Fx} {n : Ns} {ρ : List Sl} {σ : L2.St} {H : Hp} (E : EnvOk F n ρ σ H) {v : V} {k : Rk} {C : Addr} (r : RelK n σ H v k) (s : see ρ k = some (.cl C)) : v = .ref C := by
  rcases peek E r s with h | ⟨l, o, rfl, e, h⟩
  · cases h; rfl
  · cases o <;> cases e
    rw [h.1]
theorem peekT {F : Fx} {n : Ns} {ρ : List Sl} {σ : L2.St} {H : Hp} (E : EnvOk F n ρ σ H) {v : V} {k : Rk} {ds : List Da} (r : RelK n σ H v k) (s : see ρ k = some (.tup ds)) : ∃ a vs, v = .ref a ∧ H a = some (.tup vs) ∧ ¬ n a ∧ DnL n H vs ds := by
  have h := peekD E r s (fun o e => by cases o <;> cases e)
  cases h with
  | tup h1 h2 h3 => exact ⟨_, _, rfl, h1, h2, h3⟩

/-! ## operators with several kinds of operands -/
def rStrs : R2 := fun x y H Q => ∃ i j, x = .str i ∧ y = .str j ∧ i.length + j.length ≤ sizeLine ∧ Q (.str (i ++ j)) H
def rPlus (K : PySem.W.Frag) : R2 := fun x y H Q => rI0 (fun i j => .int (i + j)) x y H Q ∨ (rCat x y H Q ∨ (rCatT K x y H Q ∨ rStrs x y H Q))
def rTimes (K : PySem.W.Frag) : R2 := fun x y H Q => rI CMul (fun i j => .int (i * j)) x y H Q ∨ (rRep x y H Q ∨ rRepT K x y H Q)
def rLtS : R2 := fun x y H Q => ∃ i j, x = .str i ∧ y = .str j ∧ Q (.bl (decide (i.cps.toList < j.cps.toList))) H
section
variable {X : Cx}
theorem op_plus : OpR X (binaryOp .Add) (rPlus X.K) := OpR.or op_add (OpR.or op_cat (OpR.or op_catT op_add_str))
theorem op_times : OpR X (binaryOp .Mult) (rTimes X.K) := OpR.or op_mul (OpR.or op_rep op_repT)
end
section
variable {K : PySem.W.Frag} {ρ ρ' ρ0 ρ1 ρ2 ρ3 : List Sl} {te ta tb tc : TE} {tt tu : TT} {tx tr : TA} {d e : Da} {k k1 k2 : Rk} {ks : List Rk} {ds es : List Da} {i j : Int} {x y : Str} {Φ Ψ : Rw → List Sl → Prop} {ΦB : Bool → List Sl → Prop} {ΦA : List Rk → List Sl → Prop} {kw : Rw}
/-- a two-place operation upon what is seen -/
def Op (r : R2) (ρ : List Sl) (k1 k2 : Rk) (kw : Rw) : Prop := ∀ F n σ H x y (Q : VK), EnvOk F n ρ σ H → RelK n σ H x k1 → RelK n σ H y k2 → (∀ v H', EnvOk F n ρ σ H' → Ext n H H' → RelW F n ρ σ H H' v kw → Q v H') → r x y H Q
theorem wp2 {r : R2} (h : Wp ta ρ fun a ρ1 => Wp tb ρ1 fun b ρ2 => ∃ kw, Op r ρ2 (soft a) (soft b) kw ∧ Φ kw ρ2) : Wp (tOp r ta tb) ρ Φ := fun F n σ H E Q g =>
  h F n σ H E _ fun v H1 a ρ1 f1 E1 x1 r1 => f1 F n σ H1 E1 _ fun u H2 b ρ2 f2 E2 x2 r2 => by
    obtain ⟨kw, o, f3⟩ := f2
    exact o F n σ H2 v u Q E2 ((r1.soft E).ext x2) (r2.soft E1) fun w H3 E3 x3 r3 => g w H3 kw ρ2 f3 E3 ((x1.trans x2).trans x3) (r3.pre E2 (x1.trans x2))
theorem op0 {r : R2} {v : V} (hd : ∀ n H, Dn n H v d) (h : ∀ F n σ H2 x y (Q : VK), EnvOk F n ρ σ H2 → RelK n σ H2 x k1 → RelK n σ H2 y k2 → Q v H2 → r x y H2 Q) : Op r ρ k1 k2 (.da d) := fun F n σ H x y Q E r1 r2 q =>
  h F n σ H x y Q E r1 r2 (q v H E .refl (hd n H))
theorem op_addI' (s1 : see ρ k1 = some (.int i)) (s2 : see ρ k2 = some (.int j)) : Op (rPlus K) ρ k1 k2 (.da (.int (i + j))) :=
  op0 (fun _ _ => .int _) fun F n σ H2 x y Q E2 r1 r2 q => .inl ⟨i, j, peekI E2 r1 s1, peekI E2 r2 s2, q⟩
theorem op_subI' (s1 : see ρ k1 = some (.int i)) (s2 : see ρ k2 = some (.int j)) : Op (rI0 fun i j => .int (i - j)) ρ k1 k2 (.da (.int (i - j))) :=
  op0 (fun _ _ => .int _) fun F n σ H2 x y Q E2 r1 r2 q => ⟨i, j, peekI E2 r1 s1, peekI E2 r2 s2, q⟩
theorem op_mulI' (s1 : see ρ k1 = some (.int i)) (s2 : see ρ k2 = some (.int j)) (c : CMul i j) : Op (rTimes K) ρ k1 k2 (.da (.int (i * j))) :=
  op0 (fun _ _ => .int _) fun F n σ H2 x y Q E2 r1 r2 q => .inl ⟨i, j, peekI E2 r1 s1, peekI E2 r2 s2, c, q⟩
theorem op_rI' {C : Int → Int → Prop} {g : Int → Int → Int} (s1 : see ρ k1 = some (.int i)) (s2 : see ρ k2 = some (.int j)) (c : C i j) : Op (rI C fun i j => .int (g i j)) ρ k1 k2 (.da (.int (g i j))) :=
  op0 (fun _ _ => .int _) fun F n σ H2 x y Q E2 r1 r2 q => ⟨i, j, peekI E2 r1 s1, peekI E2 r2 s2, c, q⟩
theorem op_cmpI' {g : Int → Int → Bool} (s1 : see ρ k1 = some (.int i)) (s2 : see ρ k2 = some (.int j)) : Op (rI0 fun i j => .bl (g i j)) ρ k1 k2 (.da (.bl (g i j))) :=
  op0 (fun _ _ => .bl _) fun F n σ H2 x y Q E2 r1 r2 q => ⟨i, j, peekI E2 r1 s1, peekI E2 r2 s2, q⟩
theorem op_eq' (s1 : see ρ k1 = some d) (s2 : see ρ k2 = some e) (f1 : Fit d) (f2 : Fit e) : Op (rEqD K) ρ k1 k2 (.da (.bl (eqD d e))) :=
  op0 (fun _ _ => .bl _) fun F n σ H2 x y Q E2 r1 r2 q => ⟨_, _, peekE E2 r1 s1 f1.pl, peekE E2 r2 s2 f2.pl, f1.sh, f2.sh, q⟩
theorem op_ne' (s1 : see ρ k1 = some d) (s2 : see ρ k2 = some e) (f1 : Fit d) (f2 : Fit e) : Op (rNeD K) ρ k1 k2 (.da (.bl (!eqD d e))) :=
  op0 (fun _ _ => .bl _) fun F n σ H2 x y Q E2 r1 r2 q => ⟨_, _, peekE E2 r1 s1 f1.pl, peekE E2 r2 s2 f2.pl, f1.sh, f2.sh, q⟩
theorem toPys_map : ∀ ds : List Da, toPys ds = ds.map toPy
  | [] => rfl
  | d :: ds => by rw [toPys, toPys_map ds]; rfl
theorem op_in' (s1 : see ρ k1 = some d) (s2 : see ρ k2 = some (.lst es)) (f1 : Fit d) (f2 : Fit (.lst es)) : Op (rInD K) ρ k1 k2 (.da (.bl (es.any fun e => eqD e d))) :=
  op0 (fun _ _ => .bl _) fun F n σ H2 x y Q E2 r1 r2 q => by
    have h2 := peekE (K := K) E2 r2 s2 f2.pl
    have h3 := f2.sh
    rw [toPy] at h2 h3
    refine ⟨_, _, peekE E2 r1 s1 f1.pl, h2, f1.sh, h3, ?_⟩
    rw [toPys_map, List.any_map]
    exact q
theorem op_nin' (s1 : see ρ k1 = some d) (s2 : see ρ k2 = some (.lst es)) (f1 : Fit d) (f2 : Fit (.lst es)) : Op (rNotInD K) ρ k1 k2 (.da (.bl (!es.any fun e => eqD e d))) :=
  op0 (fun _ _ => .bl _) fun F n σ H2 x y Q E2 r1 r2 q => by
    have h2 := peekE (K := K) E2 r2 s2 f2.pl
    have h3 := f2.sh
    rw [toPy] at h2 h3
    refine ⟨_, _, peekE E2 r1 s1 f1.pl, h2, f1.sh, h3, ?_⟩
    rw [toPys_map, List.any_map]
    exact q

def Un (r : V → Hp → VK → Prop) (ρ : List Sl) (k1 : Rk) (kw : Rw) : Prop := ∀ F n σ H x (Q : VK), EnvOk F n ρ σ H → RelK n σ H x k1 → (∀ v H', EnvOk F n ρ σ H' → Ext n H H' → RelW F n ρ σ H H' v kw → Q v H') → r x H Q
theorem wp1 {r : V → Hp → VK → Prop} (h : Wp ta ρ fun a ρ1 => ∃ kw, Un r ρ1 (soft a) kw ∧ Φ kw ρ1) : Wp (tUn r ta) ρ Φ := fun F n σ H E Q g =>
  h F n σ H E _ fun v H1 a ρ1 f1 E1 x1 r1 => by
    obtain ⟨kw, o, f3⟩ := f1
    exact o F n σ H1 v Q E1 (r1.soft E) fun w H3 E3 x3 r3 => g w H3 kw ρ1 f3 E3 (x1.trans x3) (r3.pre E1 x1)
theorem un_negI (s1 : see ρ k1 = some (.int i)) : Un (rU fun i => .int (-i)) ρ k1 (.da (.int (-i))) := fun F n σ H x Q E r1 q => ⟨i, peekI E r1 s1, q _ H E .refl (.int _)⟩
/-! lists made -/
theorem mk_o {F : Fx} {n : Ns} {σ : L2.St} {H : Hp} {vs : List V} {Q : VK} (E : EnvOk F n ρ σ H) (h : DnL n H vs ds)
    (q : ∀ v H', EnvOk F n ρ σ H' → Ext n H H' → RelW F n ρ σ H H' v (.nw ds) → Q v H') : ∀ p, H p = none → Q (.ref p) (upd H p (.lst vs)) := fun p hp => by
  have g := Grow.upd (o := .lst vs) hp
  exact q _ _ (E.grow g) g.ext ⟨p, vs, rfl, hp, E.more hp g (by rw [upd_same]; simp), upd_same, DnL.ext g.ext _ _ (h.more hp)⟩
theorem mk_t {F : Fx} {n : Ns} {σ : L2.St} {H : Hp} {vs : List V} {Q : VK} (E : EnvOk F n ρ σ H) (h : DnL n H vs ds)
    (q : ∀ v H', EnvOk F n ρ σ H' → Ext n H H' → RelW F n ρ σ H H' v (.da (.tup ds)) → Q v H') : ∀ p, H p = none → Q (.ref p) (upd H p (.tup vs)) := fun p hp => by
  have g := Grow.upd (o := .tup vs) hp
  exact q _ _ (E.grow g) g.ext (.tup upd_same (E.not hp) (DnL.ext g.ext _ _ h))
theorem op_plusL (s1 : see ρ k1 = some (.lst ds)) (s2 : see ρ k2 = some (.lst es)) (z : ds.length + es.length ≤ sizeLine) : Op (rPlus K) ρ k1 k2 (.nw (ds ++ es)) := fun F n σ H x y Q E r1 r2 q => by
  obtain ⟨a, vs, rfl, h1, h2⟩ := peekL E r1 s1
  obtain ⟨b, us, rfl, h3, h4⟩ := peekL E r2 s2
  exact .inr (.inl ⟨a, b, vs, us, rfl, rfl, h1, h3, by rw [h2.length, h4.length]; exact z, mk_o E (h2.app h4) q⟩)
theorem op_plusS (s1 : see ρ k1 = some (.str x)) (s2 : see ρ k2 = some (.str y)) (z : x.length + y.length ≤ sizeLine) : Op (rPlus K) ρ k1 k2 (.da (.str (x ++ y))) := fun F n σ H u v Q E r1 r2 q => by
  rw [peekS E r1 s1, peekS E r2 s2]
  exact .inr (.inr (.inr ⟨x, y, rfl, rfl, z, q _ H E .refl (.str _)⟩))
theorem op_timesL (s1 : see ρ k1 = some (.lst ds)) (s2 : see ρ k2 = some (.int j)) (z : -(2 ^ 63) ≤ j ∧ j < 2 ^ 63 ∧ ds.length * j.toNat ≤ sizeLine) : Op (rTimes K) ρ k1 k2 (.nw (List.replicate j.toNat ds).flatten) := fun F n σ H x y Q E r1 r2 q => by
  obtain ⟨a, vs, rfl, h1, h2⟩ := peekL E r1 s1
  exact .inr (.inl ⟨a, j, vs, rfl, peekI E r2 s2, h1, z.1, z.2.1, by rw [h2.length]; exact z.2.2, mk_o E (h2.repl _) q⟩)
/-- a written list of data -/
inductive AllDa : List Rk → List Da → Prop
  | nil : AllDa [] []
  | cons {d0 : Da} {ks0 : List Rk} {ds0 : List Da} : AllDa ks0 ds0 → AllDa (.da d0 :: ks0) (d0 :: ds0)
theorem AllDa.rel {n : Ns} {σ : L2.St} {H : Hp} : ∀ {ks : List Rk} {ds : List Da} {vs : List V}, AllDa ks ds → RelKs n σ H vs ks → DnL n H vs ds
  | _, _, _, .nil, h => by cases h; exact .nil
  | _, _, _, .cons a, h => by
    cases h with
    | cons h1 h2 => exact .cons h1 (AllDa.rel a h2)
theorem wp_lst (h : WpA tx ρ fun ks ρ1 => ∃ ds, AllDa ks ds ∧ ds.length ≤ sizeLine ∧ Φ (.nw ds) ρ1) : Wp (tLst tx) ρ Φ := fun F n σ H E Q g =>
  h F n σ H E _ fun vs H1 ks ρ1 f1 E1 x1 r1 => by
    obtain ⟨ds, a, z, f⟩ := f1
    exact ⟨by rw [(a.rel r1).length]; exact z, mk_o E1 (a.rel r1) fun v H' E' x' r' => g v H' _ ρ1 f E' (x1.trans x') (r'.pre E1 x1)⟩
theorem wp_tup (h : WpA tx ρ fun ks ρ1 => ∃ ds, AllDa ks ds ∧ ds.length ≤ sizeLine ∧ Φ (.da (.tup ds)) ρ1) : Wp (tTup tx) ρ Φ := fun F n σ H E Q g =>
  h F n σ H E _ fun vs H1 ks ρ1 f1 E1 x1 r1 => by
    obtain ⟨ds, a, z, f⟩ := f1
    exact ⟨by rw [(a.rel r1).length]; exact z, mk_t E1 (a.rel r1) fun v H' E' x' r' => g v H' _ ρ1 f E' (x1.trans x') (r'.pre E1 x1)⟩
/-! items, parts -/
theorem atI_map {α β : Type} {R : α → β → Prop} {xs : List α} {ys : List β} (hl : xs.length = ys.length) (hg : ∀ (i : Nat) (y : β), ys[i]? = some y → ∃ x, xs[i]? = some x ∧ R x y) {i : Int} {y : β} (h : atI ys i = some y) : ∃ x, atI xs i = some x ∧ R x y := by
  unfold atI at h ⊢
  rw [hl]
  cases e : ixN ys.length i with
  | none => rw [e] at h; cases h
  | some j =>
    rw [e] at h
    exact hg j y h
theorem op_ixL (s1 : see ρ k1 = some (.lst ds)) (s2 : see ρ k2 = some (.int i)) (h : atI ds i = some d) : Op (rIx K) ρ k1 k2 (.da d) := fun F n σ H x y Q E r1 r2 q => by
  obtain ⟨a, vs, rfl, h1, h2⟩ := peekL E r1 s1
  obtain ⟨x, e1, e2⟩ := atI_map h2.length (fun j y => h2.get j y) h
  exact .inl ⟨a, vs, i, x, rfl, peekI E r2 s2, .inl (.inl h1), e1, q x H E .refl e2⟩
theorem op_ixT (s1 : see ρ k1 = some (.tup ds)) (s2 : see ρ k2 = some (.int i)) (h : atI ds i = some d) : Op (rIx K) ρ k1 k2 (.da d) := fun F n σ H x y Q E r1 r2 q => by
  obtain ⟨a, vs, rfl, h1, _, h2⟩ := peekT E r1 s1
  obtain ⟨x, e1, e2⟩ := atI_map h2.length (fun j y => h2.get j y) h
  exact .inr (.inl ⟨a, vs, i, x, rfl, peekI E r2 s2, .inl (.inl h1), e1, q x H E .refl e2⟩)
theorem op_ixC {ns : List Int} (s1 : see ρ k1 = some (.scr K ns)) (s2 : see ρ k2 = some (.int i)) (h : atI ns i = some j) : Op (rIx K) ρ k1 k2 (.da (.int j)) := fun F n σ H x y Q E r1 r2 q => by
  have hd := peekD E r1 s1 (fun o e => by cases o <;> cases e)
  cases hd with
  | @scr _ a _ hs =>
    have hs' : SqL K H a (ns.map V.int) := hs.elim (fun z => .inl z.1) fun z => z H
    obtain ⟨x, e1, e2⟩ := atI_map (R := fun x y => x = V.int y) (xs := ns.map V.int) (by simp) (fun i y hy => ⟨V.int y, by rw [List.getElem?_map, hy]; rfl, rfl⟩) h
    subst e2
    exact .inl ⟨a, _, i, _, rfl, peekI E r2 s2, hs', e1, q _ H E .refl (.int j)⟩
def cutD (xs : List Da) (lo hi : Option Int) : List Da := (xs.drop (HT.sIx xs.length 0 lo)).take (HT.sIx xs.length xs.length hi - HT.sIx xs.length 0 lo)
theorem DnL.cut {n : Ns} {H : Hp} {ds : List Da} {vs : List V} (h : DnL n H vs ds) (lo hi : Option Int) : DnL n H (cutV vs lo hi) (cutD ds lo hi) := by
  unfold cutV cutD
  rw [h.length]
  exact (h.drop _).take _
def rSlU (K : PySem.W.Frag) : V → Option Int → Option Int → Hp → VK → Prop := fun x lo hi H Q => rSlL K x lo hi H Q ∨ (rSlT K x lo hi H Q ∨ rSlS x lo hi H Q)
theorem sl_any {X : Cx} : SlR X (rSlU X.K) := SlR.or sl_list (SlR.or sl_tup sl_str)
def WpO (to : TO) (ρ : List Sl) (Φ : Option Int → List Sl → Prop) : Prop := ∀ F n σ H, EnvOk F n ρ σ H → ∀ Q : Option Int → Hp → Prop, (∀ H' o ρ', Φ o ρ' → EnvOk F n ρ' σ H' → Ext n H H' → Q o H') → to σ H Q
theorem wo_none {Φ : Option Int → List Sl → Prop} (q : Φ none ρ) : WpO tNoPart ρ Φ := fun F n σ H E Q g => g H _ ρ q E .refl
theorem wo_some {Φ : Option Int → List Sl → Prop} (h : Wp te ρ fun k ρ1 => ∃ i, see ρ1 (soft k) = some (.int i) ∧ Φ (some i) ρ1) : WpO (tPart te) ρ Φ := fun F n σ H E Q g => h F n σ H E _ fun v H1 k ρ1 f1 E1 x1 r1 => by
  obtain ⟨i, s, f⟩ := f1
  exact ⟨i, peekI E1 (r1.soft E) s, g H1 _ ρ1 f E1 x1⟩
def Slc (K : PySem.W.Frag) (ρ : List Sl) (k : Rk) (lo hi : Option Int) (kw : Rw) : Prop := ∀ F n σ H x (Q : VK), EnvOk F n ρ σ H → RelK n σ H x k → (∀ v H', EnvOk F n ρ σ H' → Ext n H H' → RelW F n ρ σ H H' v kw → Q v H') → rSlU K x lo hi H Q
theorem wp_sl {tl th : TO} (h : Wp te ρ fun k ρ0 => WpO tl ρ0 fun lo ρ1 => WpO th ρ1 fun hi ρ2 => ∃ kw, Slc K ρ2 (soft k) lo hi kw ∧ Φ kw ρ2) : Wp (tSl (rSlU K) te tl th) ρ Φ := fun F n σ H E Q g =>
  h F n σ H E _ fun v H0 k ρ0 f0 E0 x0 r0 => f0 F n σ H0 E0 _ fun H1 lo ρ1 f1 E1 x1 => f1 F n σ H1 E1 _ fun H2 hi ρ2 f2 E2 x2 => by
    obtain ⟨kw, o, f⟩ := f2
    exact o F n σ H2 v Q E2 (((r0.soft E).ext x1).ext x2) fun w H3 E3 x3 r3 => g w H3 kw ρ2 f E3 (((x0.trans x1).trans x2).trans x3) (r3.pre E2 ((x0.trans x1).trans x2))
theorem slc_L {lo hi : Option Int} (s : see ρ k = some (.lst ds)) : Slc K ρ k lo hi (.nw (cutD ds lo hi)) := fun F n σ H x Q E r q => by
  obtain ⟨a, vs, rfl, g1, g2⟩ := peekL E r s
  exact .inl ⟨a, vs, rfl, .inl (.inl g1), mk_o E (g2.cut lo hi) q⟩
theorem slc_S {lo hi : Option Int} (s : see ρ k = some (.str x)) (z : x.length ≤ sizeLine) : Slc K ρ k lo hi (.da (.str (cutS x lo hi))) := fun F n σ H u Q E r q => by
  rw [peekS E r s]
  exact .inr (.inr ⟨x, rfl, z, q _ H E .refl (.str _)⟩)
theorem slc_T {lo hi : Option Int} (s : see ρ k = some (.tup ds)) (z : ¬ (HT.sIx ds.length 0 lo = 0 ∧ HT.sIx ds.length ds.length hi = ds.length)) : Slc K ρ k lo hi (.da (.tup (cutD ds lo hi))) := fun F n σ H x Q E r q => by
  obtain ⟨a, vs, rfl, g1, _, g2⟩ := peekT E r s
  exact .inr (.inl ⟨a, vs, rfl, .inl (.inl g1), by rw [g2.length]; exact z, mk_t E (g2.cut lo hi) q⟩)
/-! calls of what is built in -/
def Cb (r : List V → Hp → VK → Prop) (ρ : List Sl) (ks : List Rk) (kw : Rw) : Prop := ∀ F n σ H vs (Q : VK), EnvOk F n ρ σ H → RelKs n σ H vs ks → (∀ v H', EnvOk F n ρ σ H' → Ext n H H' → RelW F n ρ σ H H' v kw → Q v H') → r vs H Q
theorem wp_cb {r : List V → Hp → VK → Prop} (h : WpA tx ρ fun ks ρ1 => ∃ kw, Cb r ρ1 ks kw ∧ Φ kw ρ1) : Wp (tCB r tx) ρ Φ := fun F n σ H E Q g =>
  h F n σ H E _ fun vs H1 ks ρ1 f1 E1 x1 r1 => by
    obtain ⟨kw, o, f⟩ := f1
    exact o F n σ H1 vs Q E1 r1 fun v H' E' x' r' => g v H' kw ρ1 f E' (x1.trans x') (r'.pre E1 x1)
theorem rk1 {n : Ns} {σ : L2.St} {H : Hp} {vs : List V} (h : RelKs n σ H vs [k]) : ∃ v, vs = [v] ∧ RelK n σ H v k := by
  cases h with
  | cons h1 h2 => cases h2; exact ⟨_, rfl, h1⟩
theorem rk2 {n : Ns} {σ : L2.St} {H : Hp} {vs : List V} (h : RelKs n σ H vs [k1, k2]) : ∃ v u, vs = [v, u] ∧ RelK n σ H v k1 ∧ RelK n σ H u k2 := by
  cases h with
  | cons h1 h2 => obtain ⟨u, rfl, h3⟩ := rk1 h2; exact ⟨_, _, rfl, h1, h3⟩
def rLen (K : PySem.W.Frag) : List V → Hp → VK → Prop := fun xs H Q => ∃ x n, xs = [x] ∧ LenV K x H n ∧ Q (.int (n : Nat)) H
theorem cb_len {X : Cx} : CallR X (.builtin "len") (rLen X.K) := call_len
theorem b_lenL (s : see ρ k = some (.lst ds)) : Cb (rLen K) ρ [k] (.da (.int (ds.length : Nat))) := fun F n σ H vs Q E r1 q => by
  obtain ⟨v, rfl, r⟩ := rk1 r1
  obtain ⟨a, us, rfl, h1, h2⟩ := peekL E r s
  refine ⟨_, _, rfl, .inl ⟨us, .inl (.inl h1), rfl⟩, ?_⟩
  rw [h2.length]
  exact q _ H E .refl (.int _)
theorem b_lenT (s : see ρ k = some (.tup ds)) : Cb (rLen K) ρ [k] (.da (.int (ds.length : Nat))) := fun F n σ H vs Q E r1 q => by
  obtain ⟨v, rfl, r⟩ := rk1 r1
  obtain ⟨a, us, rfl, h1, _, h2⟩ := peekT E r s
  refine ⟨_, _, rfl, .inr ⟨us, .inl (.inl h1), rfl⟩, ?_⟩
  rw [h2.length]
  exact q _ H E .refl (.int _)
theorem b_lenC {ns : List Int} (s : see ρ k = some (.scr K ns)) : Cb (rLen K) ρ [k] (.da (.int (ns.length : Nat))) := fun F n σ H vs Q E r1 q => by
  obtain ⟨v, rfl, r⟩ := rk1 r1
  have hd := peekD E r s (fun o e => by cases o <;> cases e)
  cases hd with
  | @scr _ a _ hs =>
    have hs' : SqL K H a (ns.map V.int) := hs.elim (fun z => .inl z.1) fun z => z H
    refine ⟨_, _, rfl, .inl ⟨_, hs', rfl⟩, ?_⟩
    rw [List.length_map]
    exact q _ H E .refl (.int _)
theorem b_lenS (s : see ρ k = some (.str x)) (z : x.length ≤ sizeLine) : Cb (rLen K) ρ [k] (.da (.int (x.length : Nat))) := fun F n σ H vs Q E r1 q => by
  obtain ⟨v, rfl, r⟩ := rk1 r1
  rw [peekS E r s]
  exact ⟨_, _, rfl, ⟨z, rfl⟩, q _ H E .refl (.int _)⟩
def rAbs : List V → Hp → VK → Prop := fun xs H Q => ∃ i, xs = [.int i] ∧ Q (.int (if i < 0 then -i else i)) H
def rMax2 : List V → Hp → VK → Prop := fun xs H Q => ∃ i j, xs = [.int i, .int j] ∧ Q (.int (if j > i then j else i)) H
def rMin2 : List V → Hp → VK → Prop := fun xs H Q => ∃ i j, xs = [.int i, .int j] ∧ Q (.int (if j < i then j else i)) H
theorem cb_abs {X : Cx} : CallR X (.builtin "abs") rAbs := call_abs
theorem cb_max2 {X : Cx} (hc : X.calm = true) : CallR X (.builtin "max") rMax2 := call_max2 hc
theorem cb_min2 {X : Cx} (hc : X.calm = true) : CallR X (.builtin "min") rMin2 := call_min2 hc
theorem b_abs (s : see ρ k = some (.int i)) : Cb rAbs ρ [k] (.da (.int (if i < 0 then -i else i))) := fun F n σ H vs Q E r1 q => by
  obtain ⟨v, rfl, r⟩ := rk1 r1
  rw [peekI E r s]
  exact ⟨i, rfl, q _ H E .refl (.int _)⟩
theorem b_max2 (s1 : see ρ k1 = some (.int i)) (s2 : see ρ k2 = some (.int j)) : Cb rMax2 ρ [k1, k2] (.da (.int (if j > i then j else i))) := fun F n σ H vs Q E r1 q => by
  obtain ⟨v, u, rfl, r, r'⟩ := rk2 r1
  rw [peekI E r s1, peekI E r' s2]
  exact ⟨i, j, rfl, q _ H E .refl (.int _)⟩
theorem b_min2 (s1 : see ρ k1 = some (.int i)) (s2 : see ρ k2 = some (.int j)) : Cb rMin2 ρ [k1, k2] (.da (.int (if j < i then j else i))) := fun F n σ H vs Q E r1 q => by
  obtain ⟨v, u, rfl, r, r'⟩ := rk2 r1
  rw [peekI E r s1, peekI E r' s2]
  exact ⟨i, j, rfl, q _ H E .refl (.int _)⟩
theorem b_sum {ns : List Int} (s : see ρ k = some (.lst (inz ns))) : Cb (rSum K) ρ [k] (.da (.int ns.sum)) := fun F n σ H vs Q E r1 q => by
  obtain ⟨v, rfl, r⟩ := rk1 r1
  obtain ⟨a, us, rfl, h1, h2⟩ := peekL E r s
  rw [h2.inz] at h1
  exact ⟨a, ns, rfl, .inl (.inl h1), q _ H E .refl (.int _)⟩
def rListOf (K : PySem.W.Frag) : List V → Hp → VK → Prop := fun xs H Q => ∃ p ys, xs = [.ref p] ∧ (SqL K H p ys ∨ SqT K H p ys) ∧ ∀ l, H l = none → Q (.ref l) (upd H l (.lst ys))
theorem cb_list {X : Cx} : CallR X (.type "list") (rListOf X.K) := call_list_of
theorem b_list (s : see ρ k = some (.lst ds)) : Cb (rListOf K) ρ [k] (.nw ds) := fun F n σ H vs Q E r1 q => by
  obtain ⟨v, rfl, r⟩ := rk1 r1
  obtain ⟨a, us, rfl, h1, h2⟩ := peekL E r s
  exact ⟨a, us, rfl, .inl (.inl (.inl h1)), mk_o E h2 q⟩
theorem b_listT (s : see ρ k = some (.tup ds)) : Cb (rListOf K) ρ [k] (.nw ds) := fun F n σ H vs Q E r1 q => by
  obtain ⟨v, rfl, r⟩ := rk1 r1
  obtain ⟨a, us, rfl, h1, _, h2⟩ := peekT E r s
  exact ⟨a, us, rfl, .inr (.inl (.inl h1)), mk_o E h2 q⟩
def rTupOf (K : PySem.W.Frag) : List V → Hp → VK → Prop := fun xs H Q => ∃ p ys, xs = [.ref p] ∧ ((SqL K H p ys ∧ ∀ l, H l = none → Q (.ref l) (upd H l (.tup ys))) ∨ (SqT K H p ys ∧ Q (.ref p) H))
theorem cb_tup {X : Cx} : CallR X (.type "tuple") (rTupOf X.K) := call_tuple_of
theorem b_tuple (s : see ρ k = some (.lst ds)) : Cb (rTupOf K) ρ [k] (.da (.tup ds)) := fun F n σ H vs Q E r1 q => by
  obtain ⟨v, rfl, r⟩ := rk1 r1
  obtain ⟨a, us, rfl, h1, h2⟩ := peekL E r s
  exact ⟨a, us, rfl, .inl ⟨.inl (.inl h1), mk_t E h2 q⟩⟩
theorem b_tupleT (s : see ρ k = some (.tup ds)) : Cb (rTupOf K) ρ [k] (.da (.tup ds)) := fun F n σ H vs Q E r1 q => by
  obtain ⟨v, rfl, r⟩ := rk1 r1
  obtain ⟨a, us, rfl, h1, h2, h3⟩ := peekT E r s
  exact ⟨a, us, rfl, .inr ⟨.inl (.inl h1), q _ _ E .refl (.tup h1 h2 h3)⟩⟩
/-! if, and, or, not -/
theorem wp_if (h : WpB tt ρ fun b ρ1 => (b = true → Wp ta ρ1 Φ) ∧ (b = false → Wp tb ρ1 Φ)) : Wp (tIf tt ta tb) ρ Φ := fun F n σ H E Q g =>
  h F n σ H E _ fun H1 b ρ1 f1 E1 x1 => by
    cases b with
    | true => exact iteT (f1.1 rfl F n σ H1 E1 Q fun v H2 k ρ2 f2 E2 x2 r2 => g v H2 k ρ2 f2 E2 (x1.trans x2) (r2.pre E1 x1))
    | false => exact iteF (f1.2 rfl F n σ H1 E1 Q fun v H2 k ρ2 f2 E2 x2 r2 => g v H2 k ρ2 f2 E2 (x1.trans x2) (r2.pre E1 x1))
theorem wb_test (h : Wp te ρ fun k ρ1 => ∃ b, see ρ1 (soft k) = some (.bl b) ∧ ΦB b ρ1) : WpB (tTest te) ρ ΦB := fun F n σ H E Q g =>
  h F n σ H E _ fun v H1 k ρ1 f1 E1 x1 r1 => by
    obtain ⟨b, s, f⟩ := f1
    have hd := peekD E1 (r1.soft E) s (fun o e => by cases o <;> cases e)
    cases hd
    exact ⟨b, rfl, g H1 b ρ1 f E1 x1⟩
theorem wb_B (h : Wp te ρ fun k ρ1 => ∃ b, see ρ1 (soft k) = some (.bl b) ∧ ΦB b ρ1) : WpB (tB te) ρ ΦB := fun F n σ H E Q g =>
  h F n σ H E _ fun v H1 k ρ1 f1 E1 x1 r1 => by
    obtain ⟨b, s, f⟩ := f1
    have hd := peekD E1 (r1.soft E) s (fun o e => by cases o <;> cases e)
    cases hd
    exact ⟨b, rfl, g H1 b ρ1 f E1 x1⟩
def tTruth (K : PySem.W.Frag) (te : TE) : TT := fun σ H Q => te σ H fun x H' => ∃ k, TruV K x H' k ∧ Q k H'
def truD : Da → Option Bool
  | .non => some false | .bl b => some b | .int i => some (i != 0) | .lst ds => some (!ds.isEmpty) | .tup ds => some (!ds.isEmpty) | _ => none
theorem wb_tru (h : Wp te ρ fun k ρ1 => ∃ d b, see ρ1 (soft k) = some d ∧ truD d = some b ∧ ΦB b ρ1) : WpB (tTruth K te) ρ ΦB := fun F n σ H E Q g =>
  h F n σ H E _ fun v H1 k ρ1 f1 E1 x1 r1 => by
    obtain ⟨d, b, s, t, f⟩ := f1
    have r1 := r1.soft E
    refine ⟨b, ?_, g H1 b ρ1 f E1 x1⟩
    cases d with
    | non => have hd := peekD E1 r1 s (fun o e => by cases o <;> cases e); cases hd; cases t; rfl
    | bl c => have hd := peekD E1 r1 s (fun o e => by cases o <;> cases e); cases hd; cases t; rfl
    | int c => have hd := peekD E1 r1 s (fun o e => by cases o <;> cases e); cases hd; cases t; rfl
    | str c => cases t
    | lst ds =>
      obtain ⟨a, vs, rfl, h1, h2⟩ := peekL E1 r1 s
      cases t
      refine .inl ⟨vs, .inl (.inl h1), ?_⟩
      cases h2 <;> rfl
    | tup ds =>
      obtain ⟨a, vs, rfl, h1, _, h2⟩ := peekT E1 r1 s
      cases t
      refine .inr (.inl ⟨vs, .inl (.inl h1), ?_⟩)
      cases h2 <;> rfl
    | ins C fs => cases t
    | scr K ns => cases t
    | ty K => cases t
    | cl K => cases t
    | exn C fs => cases t
    | dic C fs => cases t
theorem wb_and (h : WpB tt ρ fun b ρ1 => (b = true → WpB tu ρ1 ΦB) ∧ (b = false → ΦB false ρ1)) : WpB (tAnd tt tu) ρ ΦB := fun F n σ H E Q g =>
  h F n σ H E _ fun H1 b ρ1 f1 E1 x1 => by
    cases b with
    | true => exact iteT (f1.1 rfl F n σ H1 E1 Q fun H2 c ρ2 f2 E2 x2 => g H2 c ρ2 f2 E2 (x1.trans x2))
    | false => exact iteF (g H1 false ρ1 (f1.2 rfl) E1 x1)
theorem wb_or (h : WpB tt ρ fun b ρ1 => (b = true → ΦB true ρ1) ∧ (b = false → WpB tu ρ1 ΦB)) : WpB (tOr tt tu) ρ ΦB := fun F n σ H E Q g =>
  h F n σ H E _ fun H1 b ρ1 f1 E1 x1 => by
    cases b with
    | true => exact iteT (g H1 true ρ1 (f1.1 rfl) E1 x1)
    | false => exact iteF (f1.2 rfl F n σ H1 E1 Q fun H2 c ρ2 f2 E2 x2 => g H2 c ρ2 f2 E2 (x1.trans x2))
theorem wb_not (h : WpB tt ρ fun b ρ1 => ΦB (!b) ρ1) : WpB (tNot tt) ρ ΦB := fun F n σ H E Q g => h F n σ H E _ fun H1 b ρ1 f E1 x1 => g H1 _ ρ1 f E1 x1
theorem wp_and (h : Wp ta ρ fun k ρ1 => ∃ b, see ρ1 (soft k) = some (.bl b) ∧ (b = true → Wp tb ρ1 Φ) ∧ (b = false → Φ (.da (.bl false)) ρ1)) : Wp (tAndV ta tb) ρ Φ := fun F n σ H E Q g =>
  h F n σ H E _ fun v H1 k ρ1 f1 E1 x1 r1 => by
    obtain ⟨b, s, f1, f2⟩ := f1
    have hd := peekD E1 (r1.soft E) s (fun o e => by cases o <;> cases e)
    cases hd
    refine ⟨b, rfl, ?_⟩
    cases b with
    | true => exact iteT (f1 rfl F n σ H1 E1 Q fun v H2 k ρ2 f2 E2 x2 r2 => g v H2 k ρ2 f2 E2 (x1.trans x2) (r2.pre E1 x1))
    | false => exact iteF (g _ H1 _ ρ1 (f2 rfl) E1 x1 (.bl _))
theorem wp_or (h : Wp ta ρ fun k ρ1 => ∃ b, see ρ1 (soft k) = some (.bl b) ∧ (b = true → Φ (.da (.bl true)) ρ1) ∧ (b = false → Wp tb ρ1 Φ)) : Wp (tOrV ta tb) ρ Φ := fun F n σ H E Q g =>
  h F n σ H E _ fun v H1 k ρ1 f1 E1 x1 r1 => by
    obtain ⟨b, s, f1, f2⟩ := f1
    have hd := peekD E1 (r1.soft E) s (fun o e => by cases o <;> cases e)
    cases hd
    refine ⟨b, rfl, ?_⟩
    cases b with
    | true => exact iteT (g _ H1 _ ρ1 (f1 rfl) E1 x1 (.bl _))
    | false => exact iteF (f2 rfl F n σ H1 E1 Q fun v H2 k ρ2 f2 E2 x2 r2 => g v H2 k ρ2 f2 E2 (x1.trans x2) (r2.pre E1 x1))
theorem wp_not (h : Wp ta ρ fun k ρ1 => ∃ b, see ρ1 (soft k) = some (.bl b) ∧ Φ (.da (.bl (!b))) ρ1) : Wp (tNotV ta) ρ Φ := fun F n σ H E Q g =>
  h F n σ H E _ fun v H1 k ρ1 f1 E1 x1 r1 => by
    obtain ⟨b, s, f⟩ := f1
    have hd := peekD E1 (r1.soft E) s (fun o e => by cases o <;> cases e)
    cases hd
    exact ⟨b, rfl, g _ H1 _ ρ1 f E1 x1 (.bl _)⟩
end
end Dd
namespace Dd
open PySem PySem.Spec PyProof.Rows L2

/-! ## statements -/
def Nx (F : Fx) (ρ : List Sl) (P : L2.St → Hp → Prop) : Prop := ∀ n σ H, EnvOk F n ρ σ H → P σ H
def RtD (F : Fx) (ρ : List Sl) (d : Da) (rt : VK) : Prop := ∀ n σ H v, EnvOk F n ρ σ H → Dn n H v d → rt v H
def RtO (F : Fx) (ρ : List Sl) (ds : List Da) (rt : VK) : Prop := ∀ n σ H p vs, EnvOk F n ρ σ H → F.H0 p = none → H p = some (.lst vs) → DnL (add n p) H vs ds → rt (.ref p) H
def At (F : Fx) (P : List Sl → Prop) : L2.St → Hp → Prop := fun σ H => ∃ n ρ, P ρ ∧ EnvOk F n ρ σ H
section
variable {K : PySem.W.Frag} {F : Fx} {ρ ρ' ρ0 ρ1 ρ2 ρ3 : List Sl} {te ta tb tc : TE} {tt tu : TT} {tx tr : TA} {d e : Da} {k k1 k2 : Rk} {ks : List Rk} {ds es : List Da} {i j : Nat} {D : Ends} {t u : TS} {P : L2.St → Hp → Prop}
theorem nx_seq (h : Nx F ρ (t { D with nx := u D })) : Nx F ρ (tSeq t u D) := h
theorem nx_next (h : Nx F ρ D.nx) : Nx F ρ (tNext D) := h
theorem nx_at {Z : List Sl → Prop} (h : Z ρ) : Nx F ρ (At F Z) := fun n σ H E => ⟨n, ρ, h, E⟩
theorem nx_of_at {Z : List Sl → Prop} (h : ∀ ρ, Z ρ → Nx F ρ P) : ∀ σ H, At F Z σ H → P σ H := fun σ H ⟨n, ρ, z, E⟩ => h ρ z n σ H E
/-- what a store to slot i leaves to be shown -/
def SetK (F : Fx) (i : Nat) (P : L2.St → Hp → Prop) : Rw → List Sl → Prop
  | .da d, ρ1 => Nx F (ρ1.set i (.is d)) P
  | .nw ds, ρ1 => Nx F (ρ1.set i (.own false (.lst ds))) P
  | .sl _, _ => False
  | .kd _ _, _ => False
theorem sk_da (h : Nx F (ρ1.set i (.is d)) P) : SetK F i P (.da d) ρ1 := h
theorem sk_nw (h : Nx F (ρ1.set i (.own false (.lst ds))) P) : SetK F i P (.nw ds) ρ1 := h
theorem nx_set (h : Wp te ρ (SetK F i D.nx)) : Nx F ρ (tAsg te (gName i) D) := fun n σ H E => h F n σ H E _ fun v H1 k ρ1 f E1 x1 r1 => by
  cases k with
  | da d => exact f n _ H1 (E1.set r1)
  | sl j => exact f.elim
  | kd j m => exact f.elim
  | nw ds =>
    obtain ⟨p, vs, rfl, hp, E2, h1, h2⟩ := r1
    exact f _ _ H1 (E2.may.setO (fun j b es l e1 e2 ha => E.not hp (n.le p ((E1.ownF j b es l e1 e2).1 p ha).1)) (E.h0 hp) ⟨vs, h1, h2.less fun a z => z⟩)
/-- .. and a return -/
def RetK (F : Fx) (rt : VK) : Rw → List Sl → Prop
  | .da d, ρ1 => RtD F ρ1 d rt
  | .nw ds, ρ1 => RtO F ρ1 ds rt
  | .sl i, ρ1 => ∃ ds, ρ1[i]? = some (.own false (.lst ds)) ∧ RtO F ρ1 ds rt
  | .kd _ _, _ => False
theorem rk_da {rt : VK} (h : RtD F ρ1 d rt) : RetK F rt (.da d) ρ1 := h
theorem rk_nw {rt : VK} (h : RtO F ρ1 ds rt) : RetK F rt (.nw ds) ρ1 := h
theorem rk_sl {rt : VK} (s : ρ1[i]? = some (.own false (.lst ds))) (h : RtO F ρ1 ds rt) : RetK F rt (.sl i) ρ1 := ⟨ds, s, h⟩
theorem nx_ret (h : Wp te ρ (RetK F D.rt)) : Nx F ρ (tRet te D) := fun n σ H E => h F n σ H E _ fun v H1 k ρ1 f E1 x1 r1 => by
  cases k with
  | da d => exact f n σ H1 v E1 r1
  | kd i j => exact f.elim
  | sl i =>
    obtain ⟨ds, s, q⟩ := f
    obtain ⟨o, h1, l, e1, vs, e2, e3⟩ := E1.sl i _ s
    subst e1
    have r1' : σ[i]? = some (some v) := r1
    rw [h1] at r1'
    cases r1'
    obtain ⟨q1, q2⟩ := E1.own i false (.lst ds) l s h1
    exact q n σ H1 l vs E1 q2 e2 (e3.less fun a z => Or.elim z id fun w => by rw [w]; exact n.le l q1)
  | nw ds =>
    obtain ⟨p, vs, rfl, hp, E2, h1, h2⟩ := r1
    exact f n σ H1 p vs E1 (E.h0 hp) h1 h2
theorem nx_retN (q : RtD F ρ .non D.rt) : Nx F ρ (tRetN D) := fun n σ H E => q n σ H _ E .non
theorem nx_if (h : WpB tt ρ fun b ρ1 => (b = true → Nx F ρ1 (t D)) ∧ (b = false → Nx F ρ1 (u D))) : Nx F ρ (tIfS tt t u D) := fun n σ H E => h F n σ H E _ fun H1 b ρ1 f E1 x1 => by
  cases b with
  | true => exact iteT (f.1 rfl n σ H1 E1)
  | false => exact iteF (f.2 rfl n σ H1 E1)
theorem nx_drop (h : Wp te ρ fun _ ρ1 => Nx F ρ1 D.nx) : Nx F ρ (tDrop te D) := fun n σ H E => h F n σ H E _ fun v H1 k ρ1 f E1 x1 r1 => f n σ H1 E1
theorem nx_aug {f : Int → Int → Int} {a : Int} (s0 : ρ[i]? = some (.is (.int a))) (h : Wp te ρ fun k ρ1 => ∃ b, see ρ1 (soft k) = some (.int b) ∧ Nx F (ρ1.set i (.is (.int (f a b)))) D.nx) : Nx F ρ (tAug i te (ipI f) D) := fun n σ H E => by
  obtain ⟨o, h1, v, e1, e2⟩ := E.sl i _ s0
  subst e1
  cases e2
  refine ⟨_, h1, h F n σ H E _ fun v H1 k ρ1 g E1 x1 r1 => ?_⟩
  obtain ⟨b, s, q⟩ := g
  exact ⟨a, b, rfl, peekI E1 (r1.soft E) s, q n _ H1 (E1.set (.int _))⟩
/-- a list of its own is from now on data -/
theorem nx_freeze (i : Nat) {o : Ob} (s : ρ[i]? = some (.own false o)) (q : Nx F (ρ.set i (.is (obD o))) P) : Nx F ρ P := fun n σ H E => by
  obtain ⟨n', E'⟩ := E.freeze s
  exact q n' σ H E'
theorem nx_forget (i : Nat) (q : Nx F (ρ.set i .no) P) : Nx F ρ P := fun n σ H E => q n σ H (E.forget i)
/-! ### methods that change a list of its own -/
theorem own_ob {n : Ns} {σ : L2.St} {H : Hp} {b : Bool} {o : Ob} (E : EnvOk F n ρ σ H) (s : ρ[i]? = some (.own b o)) : ∃ l, σ[i]? = some (some (.ref l)) ∧ ObOk n H l o ∧ n.ow l := by
  obtain ⟨u, h1, l, e1, e2⟩ := E.sl i _ s
  subst e1
  exact ⟨l, h1, e2, (E.own i b o l s h1).1⟩
theorem own_at {n : Ns} {σ : L2.St} {H : Hp} {b : Bool} (E : EnvOk F n ρ σ H) (s : ρ[i]? = some (.own b (.lst ds))) : ∃ l vs, σ[i]? = some (some (.ref l)) ∧ H l = some (.lst vs) ∧ DnL n H vs ds ∧ n.ow l := by
  obtain ⟨l, h1, ⟨vs, h2, h3⟩, h4⟩ := own_ob E s
  exact ⟨l, vs, h1, h2, h3, h4⟩
theorem ext_mut {n : Ns} {H : Hp} {l : Addr} {o : HO} (h : n.ow l) : Ext n H (upd H l o) := fun a u e k => by
  rw [upd_ne (fun z => k (by rw [z]; exact h))]
  exact e
theorem mutL {n : Ns} {σ : L2.St} {H : Hp} {b : Bool} {l : Addr} {vs us : List V} (E : EnvOk F n ρ σ H) (hi : ρ[i]? = some (.own b (.lst ds))) (hs : σ[i]? = some (some (.ref l))) (hl : H l = some (.lst vs)) (h : DnL n H us es) :
    EnvOk F n (ρ.set i (.own b (.lst es))) σ (upd H l (.lst us)) :=
  E.mut hi hs ⟨us, upd_same, DnL.ext (ext_mut (E.own i b _ l hi hs).1) _ _ h⟩
variable {Φ Ψ : Rw → List Sl → Prop} {ΦB : Bool → List Sl → Prop}
theorem wp_append {b : Bool} (s0 : ρ[i]? = some (.own b (.lst es))) (h : WpA tx ρ fun ks ρ1 => ∃ d ds, ks = [.da d] ∧ ρ1[i]? = some (.own b (.lst ds)) ∧ ds.length < sizeLine ∧ Φ (.da .non) (ρ1.set i (.own b (.lst (ds ++ [d]))))) : Wp (tBM K "list" rAppend (tVar i) tx) ρ Φ := fun F n σ H E Q g => by
  obtain ⟨l, vs, h1, h2, h3, h4⟩ := own_at E s0
  refine ⟨_, h1, .inl ⟨rfl, vs, .inl (.inl h2)⟩, h F n σ H E _ fun us H1 ks ρ1 f E1 x1 r1 => ?_⟩
  obtain ⟨d, ds, rfl, s, z, q⟩ := f
  obtain ⟨v, rfl, r⟩ := rk1 r1
  obtain ⟨l', ws, g1, g2, g3, g4⟩ := own_at E1 s
  rw [h1] at g1
  cases g1
  exact ⟨l, ws, v, rfl, rfl, g2, by rw [g3.length]; exact z, g _ _ _ _ q (mutL E1 s h1 g2 (g3.app (.cons r .nil))) (x1.trans (ext_mut g4)) .non⟩
theorem wp_extend {b : Bool} (s0 : ρ[i]? = some (.own b (.lst es))) (h : WpA tx ρ fun ks ρ1 => ∃ k fs ds, ks = [k] ∧ see ρ1 k = some (.lst fs) ∧ ρ1[i]? = some (.own b (.lst ds)) ∧ ds.length + fs.length ≤ sizeLine ∧ Φ (.da .non) (ρ1.set i (.own b (.lst (ds ++ fs))))) : Wp (tBM K "list" rExtend (tVar i) tx) ρ Φ := fun F n σ H E Q g => by
  obtain ⟨l, vs, h1, h2, h3, h4⟩ := own_at E s0
  refine ⟨_, h1, .inl ⟨rfl, vs, .inl (.inl h2)⟩, h F n σ H E _ fun us H1 ks ρ1 f E1 x1 r1 => ?_⟩
  obtain ⟨k, fs, ds, rfl, s1, s, z, q⟩ := f
  obtain ⟨v, rfl, r⟩ := rk1 r1
  obtain ⟨l', ws, g1, g2, g3, g4⟩ := own_at E1 s
  rw [h1] at g1
  cases g1
  obtain ⟨a, us, rfl, q1, q2⟩ := peekL E1 r s1
  exact ⟨l, a, ws, us, rfl, rfl, g2, q1, by rw [g3.length, q2.length]; exact z, g _ _ _ _ q (mutL E1 s h1 g2 (g3.app q2)) (x1.trans (ext_mut g4)) .non⟩
theorem wp_pop {b : Bool} (s : ρ[i]? = some (.own b (.lst ds))) (h : ds[ds.length - 1]? = some d) (q : Φ (.da d) (ρ.set i (.own b (.lst ds.dropLast)))) : Wp (tBM0 K "list" rPop (tVar i)) ρ Φ := fun F n σ H E Q g => by
  obtain ⟨l, vs, h1, h2, h3, h4⟩ := own_at E s
  obtain ⟨v, e1, e2⟩ := h3.get _ _ h
  refine ⟨_, h1, .inl ⟨rfl, vs, .inl (.inl h2)⟩, l, vs, v, rfl, rfl, h2, by rw [h3.length]; exact e1, ?_⟩
  have hd : vs.dropLast = vs.take (vs.length - 1) := List.dropLast_eq_take
  have hd2 : ds.dropLast = ds.take (ds.length - 1) := List.dropLast_eq_take
  refine g _ _ _ _ q ?_ ?_ ?_
  · rw [hd, hd2, h3.length]
    exact mutL E s h1 h2 (h3.take _)
  · exact ext_mut h4
  · exact Dn.ext (ext_mut h4) _ _ e2
theorem wp_popAt {b : Bool} (s0 : ρ[i]? = some (.own b (.lst es))) (h : WpA tx ρ fun ks ρ1 => ∃ k a ds m d, ks = [k] ∧ see ρ1 k = some (.int a) ∧ ρ1[i]? = some (.own b (.lst ds)) ∧ (-(2 ^ 63) ≤ a ∧ a < 2 ^ 63) ∧ seqIndex? a ds.length = some m ∧ ds[m]? = some d ∧ Φ (.da d) (ρ1.set i (.own b (.lst (ds.eraseIdx m))))) :
    Wp (tBM K "list" rPopAt (tVar i) tx) ρ Φ := fun F n σ H E Q g => by
  obtain ⟨l, vs, h1, h2, h3, h4⟩ := own_at E s0
  refine ⟨_, h1, .inl ⟨rfl, vs, .inl (.inl h2)⟩, h F n σ H E _ fun us H1 ks ρ1 f E1 x1 r1 => ?_⟩
  obtain ⟨k, a, ds, m, d, rfl, s1, s, z, hm, hd, q⟩ := f
  obtain ⟨v, rfl, r⟩ := rk1 r1
  obtain ⟨l', ws, g1, g2, g3, g4⟩ := own_at E1 s
  rw [h1] at g1
  cases g1
  obtain ⟨y, e1, e2⟩ := g3.get _ _ hd
  rw [peekI E1 r s1]
  exact ⟨l, ws, a, m, y, rfl, rfl, g2, z.1, z.2, by rw [g3.length]; exact hm, e1, g _ _ _ _ q (mutL E1 s h1 g2 (g3.erase m)) (x1.trans (ext_mut g4)) (Dn.ext (ext_mut g4) _ _ e2)⟩
theorem wp_clear {b : Bool} (s : ρ[i]? = some (.own b (.lst ds))) (q : Φ (.da .non) (ρ.set i (.own b (.lst [])))) : Wp (tBM0 K "list" rClear (tVar i)) ρ Φ := fun F n σ H E Q g => by
  obtain ⟨l, vs, h1, h2, h3, h4⟩ := own_at E s
  exact ⟨_, h1, .inl ⟨rfl, vs, .inl (.inl h2)⟩, l, vs, rfl, rfl, h2, g _ _ _ _ q (mutL E s h1 h2 .nil) (ext_mut h4) .non⟩
/-- xs[i] = e -/
theorem nx_setix (h : Wp te ρ fun k ρ1 => ∃ d b es, soft k = .da d ∧ ρ1[i]? = some (.own b (.lst es)) ∧ Wp tb ρ1 fun k2 ρ3 => ∃ a ds m, see ρ3 (soft k2) = some (.int a) ∧ ρ3[i]? = some (.own b (.lst ds)) ∧ ixN ds.length a = some m ∧ Nx F (ρ3.set i (.own b (.lst (ds.set m d)))) D.nx) :
    Nx F ρ (tAsg te (gSub (tVar i) tb rSetL) D) := fun n σ H E => h F n σ H E _ fun v H1 k ρ1 f E1 x1 r1 => by
  obtain ⟨d, b, es, hk, so, ho⟩ := f
  have r1 := r1.soft E
  rw [hk] at r1
  obtain ⟨l, vs, h1, h2, h3, h4⟩ := own_at E1 so
  refine ⟨_, h1, ho F n σ H1 E1 _ fun u H2 k2 ρ3 f2 E2 x2 r2 => ?_⟩
  obtain ⟨a, ds, m, s1, s, hm, q⟩ := f2
  obtain ⟨l', ws, g1, g2, g3, g4⟩ := own_at E2 s
  rw [h1] at g1
  cases g1
  rw [peekI E2 (r2.soft E1) s1]
  exact ⟨l, ws, a, m, rfl, rfl, g2, by rw [g3.length]; exact hm, q n σ _ (mutL E2 s h1 g2 (g3.set m (Dn.ext x2 _ _ r1)))⟩

/-! ### targets -/
def Tg (g : TG) (ρ : List Sl) (d : Da) (ρ' : List Sl) : Prop := ∀ F n σ H v, EnvOk F n ρ σ H → Dn n H v d → ∀ Q : L2.St → Hp → Prop, (∀ σ', EnvOk F n ρ' σ' H → Q σ' H) → g v σ H Q
def Tgs (g : TGs) (ρ : List Sl) (ds : List Da) (ρ' : List Sl) : Prop := ∀ F n σ H vs, EnvOk F n ρ σ H → DnL n H vs ds → ∀ Q : L2.St → Hp → Prop, (∀ σ', EnvOk F n ρ' σ' H → Q σ' H) → g vs σ H Q
theorem tg_name : Tg (gName i) ρ d (ρ.set i (.is d)) := fun F n σ H v E h Q q => q _ (E.set h)
theorem tgs_nil : Tgs gNil ρ [] ρ := fun F n σ H vs E h Q q => by cases h; exact ⟨rfl, q _ E⟩
theorem tgs_cons {g : TG} {gs : TGs} (h : Tg g ρ d ρ1) (h2 : Tgs gs ρ1 ds ρ2) : Tgs (gCons g gs) ρ (d :: ds) ρ2 := fun F n σ H vs E hd Q q => by
  cases hd with
  | cons a b => exact ⟨_, _, rfl, h F n σ H _ E a _ fun σ' E' => h2 F n σ' H _ E' b Q q⟩
theorem tg_tup {gs : TGs} {m : Nat} (h : Tgs gs ρ ds ρ1) (hm : ds.length = m) : Tg (gTup K m gs) ρ (.tup ds) ρ1 := fun F n σ H v E hd Q q => by
  cases hd with
  | tup a b c => exact ⟨_, _, rfl, .inl (.inl a), by rw [c.length]; exact hm, h F n σ H _ E c Q q⟩
theorem nx_asg {g : TG} (h : Wp te ρ fun k ρ1 => ∃ d ρ2, soft k = .da d ∧ Tg g ρ1 d ρ2 ∧ Nx F ρ2 D.nx) : Nx F ρ (tAsg te g D) := fun n σ H E => h F n σ H E _ fun v H1 k ρ1 f E1 x1 r1 => by
  obtain ⟨d, ρ2, hk, hg, q⟩ := f
  have r1 := r1.soft E
  rw [hk] at r1
  exact hg F n σ H1 v E1 r1 _ fun σ' E' => q n σ' H1 E'
/-! ### loops -/
def Fx.w (F : Fx) (a : Addr) (o : HO) (vs : List V) (ds : List Da) : Fx := { F with gh := (a, o, vs, ds) :: F.gh }
theorem EnvOk.wrap {n : Ns} {σ : L2.St} {H : Hp} {a : Addr} {o : HO} {vs : List V} (E : EnvOk F n ρ σ H) (h1 : H a = some o) (h2 : ¬ n a) (h3 : DnL n H vs ds) : EnvOk (F.w a o vs ds) n ρ σ H :=
  ⟨E.len, E.sl, E.ownF, E.apF, E.sub, E.ion, E.al0, E.al, E.kp, fun p hp => by
    rcases List.mem_cons.mp hp with e | e
    · rw [e]; exact ⟨h1, h2, h3⟩
    · exact E.gh p e⟩
theorem EnvOk.unwrap {n : Ns} {σ : L2.St} {H : Hp} {a : Addr} {o : HO} {vs : List V} (E : EnvOk (F.w a o vs ds) n ρ σ H) : EnvOk F n ρ σ H :=
  ⟨E.len, E.sl, E.ownF, E.apF, E.sub, E.ion, E.al0, E.al, E.kp, fun p hp => E.gh p (List.mem_cons_of_mem _ hp)⟩
/-- F, with things held in mind -/
inductive Fw (F : Fx) : Fx → Prop
  | refl : Fw F F
  | w {G : Fx} (a : Addr) (o : HO) (vs : List V) (ds : List Da) : Fw F G → Fw F (G.w a o vs ds)
theorem Fw.un {G : Fx} {n : Ns} {σ : L2.St} {H : Hp} (h : Fw F G) : EnvOk G n ρ σ H → EnvOk F n ρ σ H := by
  induction h with
  | refl => exact id
  | w a o vs ds _ ih => exact fun E => ih E.unwrap
theorem Fw.H0 {G : Fx} (h : Fw F G) : G.H0 = F.H0 := by
  induction h with
  | refl => rfl
  | w a o vs ds _ ih => exact ih
theorem nx_un {G : Fx} (w : Fw F G) (h : Nx F ρ P) : Nx G ρ P := fun n σ H E => h n σ H (w.un E)
/-- what a loop goes over: data -/
def iSeq (K : PySem.W.Frag) (tl : TE) : TI := fun σ H R => iList K tl σ H R ∨ iTup K tl σ H R
theorem pi_seq {X : Cx} {tg l : Expr} {tl : TE} (hl : PE X l tl) : PI X tg l (iSeq X.K tl) := by
  refine ⟨fun pins s σ H R I h => ?_⟩
  rcases h with h | h
  · exact (pi_list hl).run pins s σ H R I h
  · exact (pi_tup hl).run pins s σ H R I h
/-- what a loop leaves to be shown: data to go over, a word Z of the turn and the slots -/
def ForK (F : Fx) (g : TG) (t : TS) (D : Ends) (ds : List Da) (ρ0 : List Sl) : Prop := ∃ Z : Nat → List Sl → Prop, Z 0 ρ0 ∧
  (∀ (G : Fx) (m : Nat) (d : Da) (ρ' : List Sl), Fw F G → ds[m]? = some d → Z m ρ' → ∃ ρ1, Tg g ρ' d ρ1 ∧ Nx G ρ1 (t { D with nx := At G (Z (m + 1)), ct := At G (Z (m + 1)), bk := D.nx })) ∧ ∀ ρ', Z ds.length ρ' → Nx F ρ' D.nx
theorem nx_for {g : TG} (hl : Wp te ρ fun k ρ0 => (∃ ds, soft k = .da (.lst ds) ∧ ForK F g t D ds ρ0) ∨ False) : Nx F ρ (tFor (iSeq K te) g t D) := fun n σ H E => .inl (hl F n σ H E _ fun v H1 k ρ0 f E1 x1 r1 => by
  have r1 := r1.soft E
  obtain ⟨ds, hk, Z, h0, hs, hd⟩ := f.resolve_right id
  rw [hk] at r1
  cases r1 with
  | @lst a vs _ ha hna hds =>
    refine ⟨a, rfl, ⟨vs, .inl (.inl ha)⟩, for_list (D := D) (fun m σ' H' => At (F.w a (.lst vs) vs ds) (Z m) σ' H') ⟨n, ρ0, h0, E1.wrap ha hna hds⟩ (fun m σ' H' _ ⟨n', ρ', z, E'⟩ => .inl (.inl (E'.gh _ List.mem_cons_self).1)) ?_ ?_⟩
    · rintro m x σ' H' hx ⟨n', ρ', z, E'⟩
      obtain ⟨d, e1, e2⟩ := (E'.gh _ List.mem_cons_self).2.2.getV m x hx
      obtain ⟨ρ1, hg, hb⟩ := hs _ m d ρ' (.w a (.lst vs) vs ds .refl) e1 z
      exact hg _ n' σ' H' x E' e2 _ fun σ2 E2 => hb n' σ2 H' E2
    · rintro σ' H' ⟨n', ρ', z, E'⟩
      rw [hds.length] at z
      exact hd ρ' z n' σ' H' E'.unwrap)
theorem nx_forT {g : TG} (hl : Wp te ρ fun k ρ0 => ∃ ds, soft k = .da (.tup ds) ∧ ForK F g t D ds ρ0) : Nx F ρ (tFor (iSeq K te) g t D) := fun n σ H E => .inr (hl F n σ H E _ fun v H1 k ρ0 f E1 x1 r1 => by
  have r1 := r1.soft E
  obtain ⟨ds, hk, Z, h0, hs, hd⟩ := f
  rw [hk] at r1
  cases r1 with
  | @tup a vs _ ha hna hds =>
    refine ⟨a, rfl, ⟨vs, .inl (.inl ha)⟩, for_tup (D := D) (fun m σ' H' => At (F.w a (.tup vs) vs ds) (Z m) σ' H') ⟨n, ρ0, h0, E1.wrap ha hna hds⟩ (fun m σ' H' _ ⟨n', ρ', z, E'⟩ => .inl (.inl (E'.gh _ List.mem_cons_self).1)) ?_ ?_⟩
    · rintro m x σ' H' hx ⟨n', ρ', z, E'⟩
      obtain ⟨d, e1, e2⟩ := (E'.gh _ List.mem_cons_self).2.2.getV m x hx
      obtain ⟨ρ1, hg, hb⟩ := hs _ m d ρ' (.w a (.tup vs) vs ds .refl) e1 z
      exact hg _ n' σ' H' x E' e2 _ fun σ2 E2 => hb n' σ2 H' E2
    · rintro σ' H' ⟨n', ρ', z, E'⟩
      rw [hds.length] at z
      exact hd ρ' z n' σ' H' E'.unwrap)
def ForR (F : Fx) (g : TG) (t : TS) (D : Ends) (a : Int) (ρ0 : List Sl) : Prop := (a < 2 ^ 62 ∧ -(2 ^ 62) ≤ a) ∧ ∃ Z : Nat → List Sl → Prop, Z 0 ρ0 ∧
  (∀ (m : Nat) (ρ' : List Sl), (m : Int) < a → Z m ρ' → ∃ ρ1, Tg g ρ' (.int (m : Int)) ρ1 ∧ Nx F ρ1 (t { D with nx := At F (Z (m + 1)), ct := At F (Z (m + 1)), bk := D.nx })) ∧ ∀ ρ', Z a.toNat ρ' → Nx F ρ' D.nx
theorem nx_forR {g : TG} (h : WpA tx ρ fun ks ρ0 => ∃ k a, ks = [k] ∧ see ρ0 k = some (.int a) ∧ ForR F g t D a ρ0) : Nx F ρ (tFor (iRng1 tx) g t D) := fun n σ H E => h F n σ H E _ fun us H1 ks ρ0 f E1 x1 r1 => by
  obtain ⟨k, a, rfl, s, z, Z, h0, hs, hd⟩ := f
  obtain ⟨v, rfl, r⟩ := rk1 r1
  rw [peekI E1 r s]
  refine ⟨a, rfl, z.2, z.1, for_range (D := D) (lo := 0) (n := a.toNat) (fun m σ' H' => At F (Z m) σ' H') ⟨n, ρ0, h0, E1⟩ ?_ ?_⟩
  · rintro m σ' H' hm ⟨n', ρ', z', E'⟩
    obtain ⟨ρ1, hg, hb⟩ := hs m ρ' (by omega) z'
    rw [Int.zero_add]
    exact hg F n' σ' H' _ E' (.int _) _ fun σ2 E2 => hb n' σ2 H' E2
  · rintro σ' H' ⟨n', ρ', z', E'⟩
    exact hd ρ' z' n' σ' H' E'
theorem nx_while (Z : Nat → List Sl → Prop) (m0 : Nat) (h0 : Z m0 ρ)
    (hs : ∀ (m : Nat) (ρ' : List Sl), Z m ρ' → WpB tt ρ' fun b ρ1 => (b = true → ∃ Y : List Sl → Prop, (∀ ρ2, Y ρ2 → ∃ m', m' < m ∧ Z m' ρ2) ∧ Nx F ρ1 (t { D with nx := At F Y, ct := At F Y, bk := D.nx })) ∧ (b = false → Nx F ρ1 D.nx)) : Nx F ρ (tWhile tt t D) := fun n σ H E => by
  refine ⟨fun m σ' H' => At F (Z m) σ' H', ⟨m0, n, ρ, h0, E⟩, ?_⟩
  rintro m σ' H' ⟨n', ρ', z, E'⟩
  refine hs m ρ' z F n' σ' H' E' _ fun H2 b ρ1 f E2 x2 => ?_
  obtain ⟨h1, h2⟩ := f
  cases b with
  | true =>
    obtain ⟨Y, y1, y2⟩ := h1 rfl
    refine iteT ⟨At F Y, ?_, y2 n' σ' H2 E2⟩
    rintro σ3 H3 ⟨n3, ρ3, z3, E3⟩
    obtain ⟨m', e1, e2⟩ := y1 ρ3 z3
    exact ⟨m', e1, n3, ρ3, e2, E3⟩
  | false => exact iteF (h2 rfl n' σ' H2 E2)
end
end Dd
namespace Dd
open PySem PySem.Spec PyProof.Rows L2
/-! ## comprehensions -/
def wipeS (ρ : List Sl) : List Nat → List Sl
  | [] => ρ
  | v :: vs => (wipeS ρ vs).set v .no
section
variable {F : Fx} {n : Ns} {ρ ρ' : List Sl} {σ : L2.St} {H H' : Hp}
theorem EnvOk.wipe (E : EnvOk F n ρ σ H) : ∀ vs : List Nat, EnvOk F n (wipeS ρ vs) (L2.wipe σ vs) H
  | [] => E
  | v :: vs => (EnvOk.wipe E vs).drop none
theorem wipeS_get (ρ : List Sl) : ∀ (vs : List Nat) (j : Nat), (wipeS ρ vs)[j]? = if j ∈ vs then (ρ[j]?).map (fun _ => Sl.no) else ρ[j]?
  | [], j => by simp [wipeS]
  | v :: vs, j => by
    rw [wipeS, List.getElem?_set]
    by_cases h : v = j
    · subst h
      have hl : (wipeS ρ vs).length = ρ.length := by
        induction vs with
        | nil => rfl
        | cons v vs ih => rw [wipeS, List.length_set, ih]
      rw [if_pos rfl, if_pos (List.mem_cons_self), hl]
      by_cases h2 : v < ρ.length
      · rw [if_pos h2, List.getElem?_eq_getElem h2]; rfl
      · rw [if_neg h2, List.getElem?_eq_none (by omega)]; rfl
    · rw [if_neg h, wipeS_get ρ vs j]
      by_cases h3 : j ∈ vs
      · rw [if_pos h3, if_pos (List.mem_cons_of_mem _ h3)]
      · rw [if_neg h3, if_neg (by
          intro z
          rcases List.mem_cons.mp z with z | z
          · exact h z.symm
          · exact h3 z)]
theorem wipe_get (σ : L2.St) : ∀ (vs : List Nat) (j : Nat), j ∉ vs → (L2.wipe σ vs)[j]? = σ[j]?
  | [], j, _ => rfl
  | v :: vs, j, h => by
    rw [L2.wipe, List.getElem?_set, if_neg (fun z => h (by rw [z]; exact List.mem_cons_self))]
    exact wipe_get σ vs j fun z => h (List.mem_cons_of_mem _ z)
/-- behind the block the slots stand as ahead of it; what was wiped is forgotten -/
theorem EnvOk.unwipe {vs : List Nat} (hl : σ.length = ρ.length) (E : EnvOk F n (wipeS ρ vs) (L2.wipe σ vs) H) : EnvOk F n (wipeS ρ vs) σ H := by
  have out : ∀ {j : Nat} {s : Sl}, (wipeS ρ vs)[j]? = some s → s ≠ .no → j ∉ vs := fun {j s} e k hj => by
    rw [wipeS_get, if_pos hj] at e
    cases h : ρ[j]? with
    | none => rw [h] at e; cases e
    | some z => rw [h] at e; cases e; exact k rfl
  refine ⟨?_, fun j s e => ?_, fun j b ds l e1 e2 => ?_, fun j k b c ds es l l' e1 e2 e3 e4 => ?_, E.sub, E.ion, E.al0, E.al, E.kp, E.gh⟩
  · rw [← E.len, wipe_length]
  · cases s with
    | no =>
      have hj : j < σ.length := by
        rw [← wipe_length σ vs, E.len]
        exact (List.getElem?_eq_some_iff.mp e).1
      exact ⟨σ[j], List.getElem?_eq_getElem hj, trivial⟩
    | is d =>
      obtain ⟨o, h1, h2⟩ := E.sl j _ e
      rw [wipe_get σ vs j (out e (fun z => nomatch z))] at h1
      exact ⟨o, h1, h2⟩
    | own b ds =>
      obtain ⟨o, h1, h2⟩ := E.sl j _ e
      rw [wipe_get σ vs j (out e (fun z => nomatch z))] at h1
      exact ⟨o, h1, h2⟩
  · refine E.ownF j b ds l e1 ?_
    rw [wipe_get σ vs j (out e1 (fun z => nomatch z))]
    exact e2
  · refine E.apF j k b c ds es l l' e1 e2 ?_ ?_
    · rw [wipe_get σ vs j (out e1 (fun z => nomatch z))]; exact e3
    · rw [wipe_get σ vs k (out e2 (fun z => nomatch z))]; exact e4
/-- a list that no slot owns is changed -/
theorem EnvOk.mutO {l : Addr} {o : HO} (E : EnvOk F n ρ σ H) (hn : n l) (ho : ¬ n.ow l) (h0 : F.H0 l = none) : EnvOk F n ρ σ (upd H l o) := by
  have x : Keep n H (upd H l o) := fun a u e k => by
    rw [upd_ne (fun z => k (by rw [z]; exact hn))]
    exact e
  refine ⟨E.len, fun j s e => ?_, E.ownF, E.apF, E.sub, E.ion, E.al0, fun a h => ?_, fun a u e k => ?_, fun p hp => ⟨x _ _ (E.gh p hp).1 (E.gh p hp).2.1, (E.gh p hp).2.1, DnL.extA x _ _ (E.gh p hp).2.2⟩⟩
  · obtain ⟨u, h1, h2⟩ := E.sl j s e
    refine ⟨u, h1, ?_⟩
    cases s with
    | no => trivial
    | is d =>
      obtain ⟨v, e1, e2⟩ := h2
      exact ⟨v, e1, Dn.extA x _ _ e2⟩
    | own c fs =>
      obtain ⟨m, e1, e2⟩ := h2
      subst e1
      refine ⟨m, rfl, ObOk.keep (x) _ _ e2 fun aF haF v hv => ?_⟩
      rw [upd_ne (fun z => ho (by rw [← z]; exact ((E.ownF j c fs m e h1).1 aF haF).1))]
      exact hv
  · by_cases ha : a = l
    · rw [ha, upd_same]; simp
    · rw [upd_ne ha]; exact E.al a h
  · rw [upd_ne (ne_of_none e h0)]
    exact E.kp a u e k
end
/-- a target within a block: what it stores is wiped by vs -/
def TgC (g : TG) (vs : List Nat) (ρ : List Sl) (d : Da) (ρ' : List Sl) : Prop := ∀ F n σ H v, EnvOk F n ρ σ H → Dn n H v d → ∀ Q : L2.St → Hp → Prop, (∀ σ', L2.wipe σ' vs = L2.wipe σ vs → EnvOk F n ρ' σ' H → Q σ' H) → g v σ H Q
def TgsC (g : TGs) (vs : List Nat) (ρ : List Sl) (ds : List Da) (ρ' : List Sl) : Prop := ∀ F n σ H us, EnvOk F n ρ σ H → DnL n H us ds → ∀ Q : L2.St → Hp → Prop, (∀ σ', L2.wipe σ' vs = L2.wipe σ vs → EnvOk F n ρ' σ' H → Q σ' H) → g us σ H Q
theorem wipe_set (σ : L2.St) (i : Nat) (x : Option V) : ∀ vs : List Nat, i ∈ vs → L2.wipe (σ.set i x) vs = L2.wipe σ vs
  | [], h => by cases h
  | v :: vs, h => by
    by_cases hi : i ∈ vs
    · rw [L2.wipe, L2.wipe, wipe_set σ i x vs hi]
    · have e : i = v := by
        rcases List.mem_cons.mp h with z | z
        · exact z
        · exact absurd z hi
      subst e
      have : ∀ (us : List Nat), i ∉ us → L2.wipe (σ.set i x) us = (L2.wipe σ us).set i x := by
        intro us
        induction us with
        | nil => intro _; rfl
        | cons u us ih =>
          intro h2
          rw [L2.wipe, L2.wipe, ih (fun z => h2 (List.mem_cons_of_mem _ z)), List.set_comm]
          intro z
          exact h2 (by rw [z]; exact List.mem_cons_self)
      rw [L2.wipe, L2.wipe, this vs hi, List.set_set]
section
variable {K : PySem.W.Frag} {F : Fx} {ρ ρ' ρ0 ρ1 ρ2 ρ3 : List Sl} {te tl ta tb tc : TE} {tt tu : TT} {tx tr : TA} {d e : Da} {k k1 k2 : Rk} {ks : List Rk} {ds es : List Da} {i j : Nat} {g : TG} {vs : List Nat}
theorem tgc_name (h : i ∈ vs) : TgC (gName i) vs ρ d (ρ.set i (.is d)) := fun F n σ H v E hd Q q => q _ (wipe_set σ i _ vs h) (E.set hd)
theorem tgsc_nil : TgsC gNil vs ρ [] ρ := fun F n σ H us E h Q q => by cases h; exact ⟨rfl, q _ rfl E⟩
theorem tgsc_cons {gs : TGs} (h : TgC g vs ρ d ρ1) (h2 : TgsC gs vs ρ1 ds ρ2) : TgsC (gCons g gs) vs ρ (d :: ds) ρ2 := fun F n σ H us E hd Q q => by
  cases hd with
  | cons a b => exact ⟨_, _, rfl, h F n σ H _ E a _ fun σ' w E' => h2 F n σ' H _ E' b Q fun σ2 w2 => q σ2 (w2.trans w)⟩
theorem tgc_tup {gs : TGs} {m : Nat} (h : TgsC gs vs ρ ds ρ1) (hm : ds.length = m) : TgC (gTup K m gs) vs ρ (.tup ds) ρ1 := fun F n σ H v E hd Q q => by
  cases hd with
  | tup a b c => exact ⟨_, _, rfl, .inl (.inl a), by rw [c.length]; exact hm, h F n σ H _ E c Q q⟩
variable {Φ Ψ : Rw → List Sl → Prop} {ΦB : Bool → List Sl → Prop}
theorem wb_yes (q : ΦB true ρ) : WpB tYes ρ ΦB := fun F n σ H E Q g => g H true ρ q E .refl
/-- the state within a comprehension -/
structure InC (F : Fx) (n : Ns) (σ : L2.St) (vs : List Nat) (H1 : Hp) (Dl : Addr) (Z : List Da → List Sl → Prop) (H' : Hp) : Prop where
  ex : ∃ acc ρ' us, Z acc (wipeS ρ' vs) ∧ EnvOk F (add n Dl) (wipeS ρ' vs) (L2.wipe σ vs) H' ∧ H' Dl = some (.lst us) ∧ DnL (add n Dl) H' us acc ∧ Ext n H1 H' ∧ ρ'.length = σ.length
/-- one turn -/
theorem inC_turn {n : Ns} {σ : L2.St} {H1 H' : Hp} {Dl : Addr} {Z Z1 : List Da → List Sl → Prop} {v : V} (h1 : H1 Dl = none) (ho : ¬ n.ow Dl) (h0 : F.H0 Dl = none) (p : InC F n σ vs H1 Dl Z H') (hv : ∀ ρ', EnvOk F (add n Dl) ρ' (L2.wipe σ vs) H' → Dn (add n Dl) H' v d)
    (hz : ∀ acc ρ', Z acc ρ' → acc.length < 10000000)
    (hs : ∀ acc ρ', Z acc (wipeS ρ' vs) → ∃ ρ1, TgC g vs (wipeS ρ' vs) d ρ1 ∧ WpB tt ρ1 fun b ρ2 => (b = true → Wp te ρ2 fun k ρ3 => ∃ e, soft k = .da e ∧ Z1 (acc ++ [e]) (wipeS ρ3 vs)) ∧ (b = false → Z1 acc (wipeS ρ2 vs))) :
    g v (L2.wipe σ vs) H' fun σ2 H2 => L2.wipe σ2 vs = L2.wipe σ vs ∧ tt σ2 H2 fun b H3 =>
      if b = true then te σ2 H3 fun y H4 => ∃ acc, H4 Dl = some (.lst acc) ∧ acc.length < sizeLine ∧ InC F n σ vs H1 Dl Z1 (upd H4 Dl (.lst (acc ++ [y]))) else InC F n σ vs H1 Dl Z1 H3 := by
  obtain ⟨acc, ρ', us, z, E', e1, e2, x, len⟩ := p.ex
  obtain ⟨ρ1, hg, hb⟩ := hs acc ρ' z
  have ww : ∀ τ : L2.St, L2.wipe (L2.wipe τ vs) vs = L2.wipe τ vs := by
    intro τ
    have key : ∀ (a b : List Nat), (∀ y ∈ b, y ∈ a) → L2.wipe (L2.wipe τ a) b = L2.wipe τ a := by
      intro a b
      induction b with
      | nil => intro _; rfl
      | cons y b ih =>
        intro h
        rw [L2.wipe, ih fun w hw => h w (List.mem_cons_of_mem _ hw)]
        cases hy : (L2.wipe τ a)[y]? with
        | none => exact List.set_eq_of_length_le (List.getElem?_eq_none_iff.mp hy)
        | some o =>
          cases o with
          | none => exact list_set_self _ _ _ hy
          | some q => exact absurd (h y List.mem_cons_self) (wipe_some hy).2
    exact key vs vs fun _ h => h
  have el : ∀ τ : L2.St, L2.wipe τ vs = L2.wipe (L2.wipe σ vs) vs → τ.length = σ.length := fun τ e => by
    have := congrArg List.length e
    rw [wipe_length, wipe_length, wipe_length] at this
    exact this
  refine hg F _ _ H' v E' (hv _ E') _ fun σ2 w2 E2 => ⟨w2.trans (ww σ), hb F _ σ2 H' E2 _ fun H3 b ρ2 ⟨ht, hf⟩ E3 x3 => ?_⟩
  have dl : ∀ {G : Hp}, Ext (add n Dl) H' G → G Dl = some (.lst us) := fun y => y _ _ e1 ho
  have ee : ∀ {G : Hp}, Ext (add n Dl) H' G → Ext n H1 G := fun y => x.trans y
  cases b with
  | true =>
    refine iteT (ht rfl F _ σ2 H3 E3 _ fun y H4 k ρ3 ⟨e, hk, z3⟩ E4 x4 r4 => ?_)
    have r4 := r4.soft E3
    rw [hk] at r4
    have x5 := x3.trans x4
    refine ⟨us, dl x5, ?_, ⟨acc ++ [e], ρ3, us ++ [y], z3, ?_, upd_same, ?_, ?_, ?_⟩⟩
    · have h5 := hz acc _ z
      rw [e2.length]
      exact Nat.lt_of_lt_of_le h5 (by decide)
    · have E5 := (E4.wipe vs).mutO (l := Dl) (o := .lst (us ++ [y])) (.inr rfl) ho h0
      rw [w2, ww σ] at E5
      exact E5
    · have kk : Keep (add n Dl) H4 (upd H4 Dl (.lst (us ++ [y]))) := fun a o q k => by
        rw [upd_ne (fun w => k (.inr w))]
        exact q
      exact DnL.extA kk _ _ ((DnL.ext x5 _ _ e2).app (.cons r4 .nil))
    · intro a o q k
      rw [upd_ne (ne_of_none q h1)]
      exact ee x5 a o q k
    · rw [← E4.len]
      exact el σ2 (w2.trans rfl)
  | false =>
    refine iteF ⟨acc, ρ2, us, hf rfl, ?_, dl x3, DnL.ext x3 _ _ e2, ee x3, ?_⟩
    · have E5 := E3.wipe vs
      rw [w2, ww σ] at E5
      exact E5
    · rw [← E3.len]
      exact el σ2 (w2.trans rfl)
theorem lc_end {n : Ns} {σ : L2.St} {H H1 H' : Hp} {Dl : Addr} {Z : List Da → List Sl → Prop} {Q : VK} (x0 : Ext n H H1) (E1 : EnvOk F n ρ0 σ H1) (h1 : H1 Dl = none) (p : InC F n σ vs H1 Dl Z H') (hz : ∀ acc ρ', Z acc ρ' → Φ (.nw acc) ρ')
    (q : ∀ v H' k ρ', Φ k ρ' → EnvOk F n ρ' σ H' → Ext n H H' → RelW F n ρ' σ H H' v k → Q v H') : Q (.ref Dl) H' := by
  obtain ⟨acc, ρ', us, z, E', e1, e2, x, len⟩ := p.ex
  have E2 : EnvOk F (add n Dl) (wipeS ρ' vs) σ H' := E'.unwipe len.symm
  have E3 : EnvOk F n (wipeS ρ' vs) σ H' := by
    refine ⟨E2.len, fun i s e => ?_, E2.ownF, E2.apF, E1.sub, E2.ion, E2.al0, fun a h => E2.al a (.inl h), E2.kp, fun p hp => ⟨(E2.gh p hp).1, fun w => (E2.gh p hp).2.1 (.inl w), (E2.gh p hp).2.2.less fun a w => .inl w⟩⟩
    obtain ⟨o, g1, g2⟩ := E2.sl i s e
    refine ⟨o, g1, ?_⟩
    cases s with
    | no => trivial
    | is d =>
      obtain ⟨v, f1, f2⟩ := g2
      exact ⟨v, f1, f2.less fun a w => .inl w⟩
    | own b ds =>
      obtain ⟨l, f1, f2⟩ := g2
      exact ⟨l, f1, f2.re (m := n) fun a _ _ z w => z (.inl w)⟩
  exact q _ H' _ _ (hz acc _ z) E3 (x0.trans x) ⟨Dl, us, rfl, fresh_pre E1 x0 h1, E2, e1, e2⟩
/-- what a comprehension leaves to be shown -/
def LcK (g : TG) (tt : TT) (te : TE) (vs : List Nat) (Φ : Rw → List Sl → Prop) (ds : List Da) (ρ0 : List Sl) : Prop := ∃ Z : Nat → List Da → List Sl → Prop, Z 0 [] (wipeS ρ0 vs) ∧ (∀ m acc ρ', m ≤ ds.length → Z m acc ρ' → acc.length < 10000000) ∧
  (∀ (m : Nat) (d : Da) (acc : List Da) (ρ' : List Sl), ds[m]? = some d → Z m acc (wipeS ρ' vs) → ∃ ρ1, TgC g vs (wipeS ρ' vs) d ρ1 ∧ WpB tt ρ1 fun b ρ2 => (b = true → Wp te ρ2 fun k ρ3 => ∃ e, soft k = .da e ∧ Z (m + 1) (acc ++ [e]) (wipeS ρ3 vs)) ∧ (b = false → Z (m + 1) acc (wipeS ρ2 vs))) ∧
  ∀ acc ρ', Z ds.length acc ρ' → Φ (.nw acc) ρ'
theorem wp_lc (hl : Wp tl ρ fun k ρ0 => ∃ ds, soft k = .da (.lst ds) ∧ LcK g tt te vs Φ ds ρ0) : Wp (tLc (iSeq K tl) g tt te vs) ρ Φ := fun F n σ H E Q q => .inl (hl F n σ H E _ fun v H1 k ρ0 f E1 x1 r1 => by
  have r1 := r1.soft E
  obtain ⟨ds, hk, Z, h0, hz, hs, hd⟩ := f
  rw [hk] at r1
  cases r1 with
  | @lst a us _ ha hna hds =>
    refine ⟨a, rfl, ⟨us, .inl (.inl ha)⟩, fun Dl hD => ?_⟩
    have gg := Grow.upd (o := .lst []) hD
    have ho : ¬ n.ow Dl := fun z => E1.al Dl (n.le _ z) hD
    have G0 := E1.h0 hD
    have start : InC (F.w a (.lst us) us ds) n σ vs H1 Dl (fun acc ρ' => 0 ≤ ds.length ∧ Z 0 acc ρ') (upd H1 Dl (.lst [])) := by
      refine ⟨[], ρ0, [], ⟨Nat.zero_le _, h0⟩, ?_, upd_same, .nil, gg.ext, by rw [E1.len]⟩
      exact ((E1.wrap ha hna hds).more hD gg (by rw [upd_same]; simp)).wipe vs
    refine lc_list (xs := us) (Qd := Q (.ref Dl)) (fun m H' => InC (F.w a (.lst us) us ds) n σ vs H1 Dl (fun acc ρ' => m ≤ ds.length ∧ Z m acc ρ') H') start (fun m H' _ p => ?_) ?_ ?_
    · obtain ⟨acc, ρ', ws, z, E', _⟩ := p.ex
      exact .inl (.inl (E'.gh _ List.mem_cons_self).1)
    · intro m x H' hx p
      obtain ⟨d, e1, _⟩ := hds.getV m x hx
      have hlt : m < ds.length := (List.getElem?_eq_some_iff.mp e1).1
      have hv : ∀ ρ', EnvOk (F.w a (.lst us) us ds) (add n Dl) ρ' (L2.wipe σ vs) H' → Dn (add n Dl) H' x d := fun ρ' E' => by
        obtain ⟨d', e1', e2'⟩ := (E'.gh _ List.mem_cons_self).2.2.getV m x hx
        have : d' = d := by
          have e3 : ds[m]? = some d' := e1'
          rw [e1] at e3
          exact (Option.some.inj e3).symm
        rw [← this]
        exact e2'
      refine inC_turn (F := F.w a (.lst us) us ds) (Z1 := fun acc ρ' => m + 1 ≤ ds.length ∧ Z (m + 1) acc ρ') hD ho G0 p hv (fun acc ρ' z => hz m acc ρ' z.1 z.2) (fun acc ρ' z => ?_)
      obtain ⟨ρ1, t1, t2⟩ := hs m d acc ρ' e1 z.2
      exact ⟨ρ1, t1, t2.imp fun b ρ2 ⟨t3, t4⟩ => ⟨fun hb => (t3 hb).imp fun k ρ3 ⟨e, t5, t6⟩ => ⟨e, t5, hlt, t6⟩, fun hb => ⟨hlt, t4 hb⟩⟩⟩
    · intro H' p
      rw [hds.length] at p
      refine lc_end (F := F) (vs := vs) (Φ := Φ) x1 E1 hD (Z := fun acc ρ' => ds.length ≤ ds.length ∧ Z ds.length acc ρ') ?_ (fun acc ρ' z => hd acc ρ' z.2) q
      obtain ⟨acc, ρ', ws, z, E', e1, e2, x, len⟩ := p.ex
      exact ⟨acc, ρ', ws, z, E'.unwrap, e1, e2, x, len⟩)
def LcR (g : TG) (tt : TT) (te : TE) (vs : List Nat) (Φ : Rw → List Sl → Prop) (a : Int) (ρ0 : List Sl) : Prop := (a < 2 ^ 62 ∧ -(2 ^ 62) ≤ a) ∧ ∃ Z : Nat → List Da → List Sl → Prop, Z 0 [] (wipeS ρ0 vs) ∧ (∀ m acc ρ', m ≤ a.toNat → Z m acc ρ' → acc.length < 10000000) ∧
  (∀ (m : Nat) (acc : List Da) (ρ' : List Sl), (m : Int) < a → Z m acc (wipeS ρ' vs) → ∃ ρ1, TgC g vs (wipeS ρ' vs) (.int (m : Int)) ρ1 ∧ WpB tt ρ1 fun b ρ2 => (b = true → Wp te ρ2 fun k ρ3 => ∃ e, soft k = .da e ∧ Z (m + 1) (acc ++ [e]) (wipeS ρ3 vs)) ∧ (b = false → Z (m + 1) acc (wipeS ρ2 vs))) ∧
  ∀ acc ρ', Z a.toNat acc ρ' → Φ (.nw acc) ρ'
theorem wp_lcR (h : WpA tx ρ fun ks ρ0 => ∃ k a, ks = [k] ∧ see ρ0 k = some (.int a) ∧ LcR g tt te vs Φ a ρ0) : Wp (tLc (iRng1 tx) g tt te vs) ρ Φ := fun F n σ H E Q q => h F n σ H E _ fun us H1 ks ρ0 f E1 x1 r1 => by
  obtain ⟨k, a, rfl, s, za, Z, h0, hz, hs, hd⟩ := f
  obtain ⟨v, rfl, r⟩ := rk1 r1
  rw [peekI E1 r s]
  refine ⟨a, rfl, za.2, za.1, fun Dl hD => ?_⟩
  have gg := Grow.upd (o := .lst []) hD
  have ho : ¬ n.ow Dl := fun z => E1.al Dl (n.le _ z) hD
  have G0 := E1.h0 hD
  have start : InC F n σ vs H1 Dl (fun acc ρ' => 0 ≤ a.toNat ∧ Z 0 acc ρ') (upd H1 Dl (.lst [])) := by
    refine ⟨[], ρ0, [], ⟨Nat.zero_le _, h0⟩, ?_, upd_same, .nil, gg.ext, by rw [E1.len]⟩
    exact (E1.more hD gg (by rw [upd_same]; simp)).wipe vs
  refine lc_range (lo := 0) (n := a.toNat) (Qd := Q (.ref Dl)) (fun m H' => InC F n σ vs H1 Dl (fun acc ρ' => m ≤ a.toNat ∧ Z m acc ρ') H') start ?_ ?_
  · intro m H' hm p
    rw [Int.zero_add]
    refine inC_turn (F := F) (d := .int (m : Int)) (Z1 := fun acc ρ' => m + 1 ≤ a.toNat ∧ Z (m + 1) acc ρ') hD ho G0 p (fun ρ' _ => .int _) (fun acc ρ' z => hz m acc ρ' z.1 z.2) (fun acc ρ' z => ?_)
    obtain ⟨ρ1, t1, t2⟩ := hs m acc ρ' (by omega) z.2
    exact ⟨ρ1, t1, t2.imp fun b ρ2 ⟨t3, t4⟩ => ⟨fun hb => (t3 hb).imp fun k ρ3 ⟨e, t5, t6⟩ => ⟨e, t5, hm, t6⟩, fun hb => ⟨hm, t4 hb⟩⟩⟩
  · intro H' p
    exact lc_end (F := F) (Φ := Φ) x1 E1 hD p (fun acc ρ' z => hd acc ρ' z.2) q
/-- what changes nothing: filter, then map -/
theorem lc_plain (f : Da → Da) (c : Da → Bool) (hz : ds.length < 10000000)
    (hs : ∀ d ∈ ds, ∃ ρ1, TgC g vs (wipeS ρ0 vs) d ρ1 ∧ WpB tt ρ1 fun b ρ2 => b = c d ∧ (c d = true → Wp te ρ2 fun k ρ3 => soft k = .da (f d) ∧ wipeS ρ3 vs = wipeS ρ0 vs) ∧ (c d = false → wipeS ρ2 vs = wipeS ρ0 vs)) (q : Φ (.nw ((ds.filter c).map f)) (wipeS ρ0 vs)) : LcK g tt te vs Φ ds ρ0 := by
  refine ⟨fun m acc ρ' => acc = ((ds.take m).filter c).map f ∧ ρ' = wipeS ρ0 vs, ⟨rfl, rfl⟩, fun m acc ρ' _ z => ?_, fun m d acc ρ' e z => ?_, fun acc ρ' z => ?_⟩
  · rw [z.1, List.length_map]
    exact Nat.lt_of_le_of_lt (Nat.le_trans (List.length_filter_le _ _) (by rw [List.length_take]; exact Nat.min_le_right _ _)) hz
  · obtain ⟨z1, z2⟩ := z
    obtain ⟨ρ1, t1, t2⟩ := hs d (List.mem_of_getElem? e)
    rw [z2]
    refine ⟨ρ1, t1, t2.imp fun b ρ2 ⟨hb, t3, t4⟩ => ⟨fun h => (t3 (hb.symm.trans h)).imp fun k ρ3 ⟨t5, t6⟩ => ⟨f d, t5, ?_, t6⟩, fun h => ⟨?_, t4 (hb.symm.trans h)⟩⟩⟩
    · rw [List.take_add_one, e, z1]
      simp [hb.symm.trans h]
    · rw [List.take_add_one, e, z1]
      simp [hb.symm.trans h]
  · obtain ⟨z1, z2⟩ := z
    rw [List.take_of_length_le (Nat.le_refl _)] at z1
    rw [z1, z2]
    exact q
/-- .. over what is written from values of a type -/
theorem lc_typed {α : Type} {enc : α → Da} {xs : List α} (f : α → Da) (c : α → Bool) (hz : xs.length < 10000000)
    (hs : ∀ x ∈ xs, ∃ ρ1, TgC g vs (wipeS ρ0 vs) (enc x) ρ1 ∧ WpB tt ρ1 fun b ρ2 => b = c x ∧ (c x = true → Wp te ρ2 fun k ρ3 => soft k = .da (f x) ∧ wipeS ρ3 vs = wipeS ρ0 vs) ∧ (c x = false → wipeS ρ2 vs = wipeS ρ0 vs)) (q : Φ (.nw ((xs.filter c).map f)) (wipeS ρ0 vs)) : LcK g tt te vs Φ (xs.map enc) ρ0 := by
  refine ⟨fun m acc ρ' => acc = ((xs.take m).filter c).map f ∧ ρ' = wipeS ρ0 vs, ⟨rfl, rfl⟩, fun m acc ρ' _ z => ?_, fun m d acc ρ' e z => ?_, fun acc ρ' z => ?_⟩
  · rw [z.1, List.length_map]
    exact Nat.lt_of_le_of_lt (Nat.le_trans (List.length_filter_le _ _) (by rw [List.length_take]; exact Nat.min_le_right _ _)) hz
  · obtain ⟨z1, z2⟩ := z
    rw [List.getElem?_map] at e
    cases e' : xs[m]? with
    | none => rw [e'] at e; cases e
    | some x =>
      rw [e'] at e
      cases e
      obtain ⟨ρ1, t1, t2⟩ := hs x (List.mem_of_getElem? e')
      rw [z2]
      refine ⟨ρ1, t1, t2.imp fun b ρ2 ⟨hb, t3, t4⟩ => ⟨fun h => (t3 (hb.symm.trans h)).imp fun k ρ3 ⟨t5, t6⟩ => ⟨f x, t5, ?_, t6⟩, fun h => ⟨?_, t4 (hb.symm.trans h)⟩⟩⟩
      · rw [List.take_add_one, e', z1]
        simp [hb.symm.trans h]
      · rw [List.take_add_one, e', z1]
        simp [hb.symm.trans h]
  · obtain ⟨z1, z2⟩ := z
    rw [List.length_map, List.take_of_length_le (Nat.le_refl _)] at z1
    rw [z1, z2]
    exact q
/-- .. without a test -/
theorem lc_map {α : Type} {enc : α → Da} {xs : List α} (f : α → Da) (hz : xs.length < 10000000)
    (hs : ∀ x ∈ xs, ∃ ρ1, TgC g vs (wipeS ρ0 vs) (enc x) ρ1 ∧ Wp te ρ1 fun k ρ3 => soft k = .da (f x) ∧ wipeS ρ3 vs = wipeS ρ0 vs) (q : Φ (.nw (xs.map f)) (wipeS ρ0 vs)) : LcK g tYes te vs Φ (xs.map enc) ρ0 := by
  refine lc_typed f (fun _ => true) hz (fun x hx => ?_) ?_
  · obtain ⟨ρ1, t1, t2⟩ := hs x hx
    exact ⟨ρ1, t1, wb_yes ⟨rfl, fun _ => t2, fun h => by cases h⟩⟩
  · have e : xs.filter (fun _ => true) = xs := by simp
    rw [e]
    exact q
end
end Dd
namespace Dd
open PySem PySem.Spec PyProof.Rows L2
/-! ## promises -/
/-- arguments enc x; nothing changes; the answer is some r of which post x r holds -/
def SpT {α : Type} (enc : α → List Da) (pre : α → Prop) (post : α → Da → Prop) : Sp := fun vs H Q _ => ∃ (n : Ns) (x : α), (∀ a, n a → H a ≠ none) ∧ DnL n H vs (enc x) ∧ pre x ∧ ∀ v H' r, post x r → Grow H H' → Dn n H' v r → Q v H'
/-- .. the answer a new list -/
def SpO {α : Type} (enc : α → List Da) (pre : α → Prop) (post : α → List Da → Prop) : Sp := fun vs H Q _ => ∃ (n : Ns) (x : α), (∀ a, n a → H a ≠ none) ∧ DnL n H vs (enc x) ∧ pre x ∧ ∀ p us H' r, post x r → H p = none → Grow H H' → H' p = some (.lst us) → DnL (add n p) H' us r → Q (.ref p) H'
/-- the first argument is a list that is changed, from l to some l' -/
def SpF {α : Type} (enc : α → List Da) (pre : List Da → α → Prop) (post : List Da → α → List Da → Da → Prop) : Sp := fun vs H Q _ => ∃ (n : Ns) (f : Addr) (ws : List V) (us : List V) (l : List Da) (x : α), vs = .ref f :: ws ∧ n.ow f ∧ (∀ a, n a → H a ≠ none) ∧
  H f = some (.lst us) ∧ DnL n H us l ∧ DnL n H ws (enc x) ∧ pre l x ∧ ∀ v H' us' l' r, post l x l' r → (∀ a o, H a = some o → a ≠ f → H' a = some o) → H' f = some (.lst us') → DnL n H' us' l' → Dn n H' v r → Q v H'
def SpFO {α : Type} (enc : α → List Da) (pre : List Da → α → Prop) (post : List Da → α → List Da → List Da → Prop) : Sp := fun vs H Q _ => ∃ (n : Ns) (f : Addr) (ws : List V) (us : List V) (l : List Da) (x : α), vs = .ref f :: ws ∧ n.ow f ∧ (∀ a, n a → H a ≠ none) ∧
  H f = some (.lst us) ∧ DnL n H us l ∧ DnL n H ws (enc x) ∧ pre l x ∧ ∀ p ps H' us' l' r, post l x l' r → H p = none → (∀ a o, H a = some o → a ≠ f → H' a = some o) → H' f = some (.lst us') → DnL (add n p) H' us' l' → H' p = some (.lst ps) → DnL (add n p) H' ps r → Q (.ref p) H'
section
variable {α : Type} {K : PySem.W.Frag} {F : Fx} {n : Ns} {ρ ρ' ρ0 ρ1 ρ2 ρ3 : List Sl} {te tl ta tb tc : TE} {tt tu : TT} {tx tr : TA} {d e : Da} {k k1 k2 : Rk} {ks : List Rk} {ds es : List Da} {i j : Nat} {E : XK} {H : Hp} {σ : L2.St} {Φ : Rw → List Sl → Prop}
/-- all the arguments as they are seen -/
inductive Sees (ρ : List Sl) : List Rk → List Da → Prop
  | nil : Sees ρ [] []
  | cons {k0 : Rk} {d0 : Da} {ks0 : List Rk} {ds0 : List Da} : seeX ρ k0 = some d0 → Sees ρ ks0 ds0 → Sees ρ (k0 :: ks0) (d0 :: ds0)
def flat : Da → Bool
  | .lst _ => false | .tup _ => false | .ins _ _ => false | .scr _ _ => false | .cl _ => false | .exn _ _ => false | .dic _ _ => false | _ => true
theorem Dn.flat {n m : Ns} {H : Hp} {v : V} (h : Dn n H v d) (f : flat d = true) : Dn m H v d := by
  cases d with
  | non => cases h; exact .non
  | bl b => cases h; exact .bl b
  | int b => cases h; exact .int b
  | str b => cases h; exact .str b
  | lst ds => cases f
  | tup ds => cases f
  | ins C fs => cases f
  | scr C fs => cases f
  | ty C => cases h; exact .ty C
  | cl C => cases f
  | exn C fs => cases f
  | dic C fs => cases f
/-- the addresses of arguments are let go -/
def letgo (n : Ns) (vs : List V) : Ns := ⟨fun a => n a ∧ V.ref a ∉ vs, fun a => n.ow a ∧ V.ref a ∉ vs, fun a h => ⟨n.le a h.1, h.2⟩, n.kid⟩
theorem obX_ins {o : Ob} {C : Addr} {fs : List (Str × Da)} (h : obD o = .ins C fs) : obX o = some (.ins C fs) := by
  cases o <;> cases h
  rfl
theorem seeX_ins {k : Rk} {C : Addr} {fs : List (Str × Da)} (h : see ρ k = some (.ins C fs)) : seeX ρ k = some (.ins C fs) := by
  cases k with
  | da d => exact h
  | sl i =>
    dsimp only [see, seeX] at h ⊢
    cases e : ρ[i]? with
    | none => rw [e] at h; cases h
    | some z =>
      rw [e] at h
      cases z with
      | no => cases h
      | is d => exact h
      | own b o =>
        have h : some (obD o) = some (.ins C fs) := h
        exact obX_ins (Option.some.inj h)
  | kd i j =>
    dsimp only [see, seeX] at h ⊢
    cases e : ρ[i]? with
    | none => rw [e] at h; cases h
    | some z =>
      rw [e] at h
      cases z with
      | no => cases h
      | is d => cases h
      | own b o =>
        cases o with
        | lst ds => cases h
        | ins C fs => cases h
        | dic D kvs => cases h
        | nst l0 u ks =>
          have h : (ks.nth j).map obD = some (.ins C fs) := h
          show (ks.nth j).bind obX = some (.ins C fs)
          cases e3 : ks.nth j with
          | none => rw [e3] at h; cases h
          | some k =>
            rw [e3] at h
            exact obX_ins (Option.some.inj h)
theorem obX_of {o : Ob} {d : Da} (h : obD o = d) (hd : ∀ C, d ≠ .cl C) : obX o = some d := by
  cases o with
  | lst ds => cases h; rfl
  | ins C fs => cases h; rfl
  | dic D kvs => cases h; rfl
  | nst l o ks => exact absurd h.symm (hd l)
theorem seeX_of {k : Rk} {d : Da} (h : see ρ k = some d) (hd : ∀ C, d ≠ .cl C) : seeX ρ k = some d := by
  cases k with
  | da d => exact h
  | sl i =>
    dsimp only [see, seeX] at h ⊢
    cases e : ρ[i]? with
    | none => rw [e] at h; cases h
    | some z =>
      rw [e] at h
      cases z with
      | no => cases h
      | is d => exact h
      | own b o =>
        have h : some (obD o) = some d := h
        exact obX_of (Option.some.inj h) hd
  | kd i j =>
    dsimp only [see, seeX] at h ⊢
    cases e : ρ[i]? with
    | none => rw [e] at h; cases h
    | some z =>
      rw [e] at h
      cases z with
      | no => cases h
      | is d => cases h
      | own b o =>
        cases o with
        | lst ds => cases h
        | ins C fs => cases h
        | dic D kvs => cases h
        | nst l0 u ks =>
          have h : (ks.nth j).map obD = some d := h
          show (ks.nth j).bind obX = some d
          cases e3 : ks.nth j with
          | none => rw [e3] at h; cases h
          | some k =>
            rw [e3] at h
            exact obX_of (Option.some.inj h) hd
/-- .. all that the slots own is let go -/
def letgoA (n : Ns) : Ns := ⟨fun a => n a ∧ ¬ n.ow a, fun _ => False, fun _ h => h.elim, n.kid⟩
theorem sees_rel (E : EnvOk F n ρ σ H) : ∀ {ks : List Rk} {ds : List Da} {vs : List V}, Sees ρ ks ds → RelKs n σ H vs ks → DnL (letgoA n) H vs ds
  | _, _, _, .nil, h => by cases h; exact .nil
  | _, _, v :: vs, .cons s r, h => by
    cases h with
    | cons h1 h2 => exact .cons (peekXX E (m := letgoA n) (fun a z => z.1) (fun a z => z.2) h1 s) (sees_rel E r h2)
/-- a call: the arguments are data, or the answer bears no address -/
theorem wp_call {enc : α → List Da} {pre : α → Prop} {post : α → Da → Prop} (h : WpA tx ρ fun ks ρ1 => ∃ x, Sees ρ1 ks (enc x) ∧ pre x ∧ (AllDa ks (enc x) ∨ ∀ r, post x r → flat r = true) ∧ ∀ r, post x r → Φ (.da r) ρ1) : Wp (tCall (SpT enc pre post) [] E tx) ρ Φ := fun F n σ H E0 Q g =>
  h F n σ H E0 _ fun vs H1 ks ρ1 f E1 x1 r1 => by
    obtain ⟨x, hs, hp, hd, q⟩ := f
    rw [List.append_nil]
    rcases hd with hd | hd
    · exact ⟨n, x, E1.al, hd.rel r1, hp, fun v H' r hr gr h => g v H' _ ρ1 (q r hr) (E1.grow gr) (x1.trans gr.ext) h⟩
    · exact ⟨letgoA n, x, fun a h => E1.al a h.1, sees_rel E1 hs r1, hp, fun v H' r hr gr h => g v H' _ ρ1 (q r hr) (E1.grow gr) (x1.trans gr.ext) (h.flat (hd r hr))⟩
theorem wp_callO {enc : α → List Da} {pre : α → Prop} {post : α → List Da → Prop} (h : WpA tx ρ fun ks ρ1 => ∃ x, AllDa ks (enc x) ∧ pre x ∧ ∀ r, post x r → Φ (.nw r) ρ1) : Wp (tCall (SpO enc pre post) [] E tx) ρ Φ := fun F n σ H E0 Q g =>
  h F n σ H E0 _ fun vs H1 ks ρ1 f E1 x1 r1 => by
    obtain ⟨x, hs, hp, q⟩ := f
    rw [List.append_nil]
    exact ⟨n, x, E1.al, hs.rel r1, hp, fun p us H' r hr hp' gr h1 h2 => g _ H' _ ρ1 (q r hr) (E1.grow gr) (x1.trans gr.ext) ⟨p, us, rfl, fresh_pre E1 x1 hp', E1.more hp' gr (by rw [h1]; simp), h1, h2⟩⟩
theorem mut_toN {m : Ns} (hm1 : ∀ a, n a → m a) (hm2 : ∀ a, m.ow a ↔ n.ow a) (hm3 : ∀ a, m a → n a ∨ H a = none) {b : Bool} {H' : Hp} (hm4 : ∀ a, m a → n a ∨ H' a ≠ none) {f : Addr} {o o' : Ob} (E1 : EnvOk F n ρ σ H) (s : ρ[i]? = some (.own b o)) (hf : σ[i]? = some (some (.ref f))) (x : ∀ a u, H a = some u → ¬ Ft f o a → H' a = some u)
    (xt : ∀ a, Ft f o a → H' a ≠ none) (hs : SubFt o' o) (hk : ∀ as, o.kidOk as → o'.kidOk as) (h2 : ObOk m H' f o') (hm5 : m.kid = n.kid := by rfl) : EnvOk F m (ρ.set i (.own b o')) σ H' ∧ Ext n H H' := by
  obtain ⟨q0, q3, q4⟩ := E1.ownF i b o f s hf
  have xx : Ext n H H' := fun a u e k => x a u e fun z => k (q0 a z).1
  have xm : Ext m H H' := fun a u e k => xx a u e fun z => k ((hm2 a).mpr z)
  have rr : ∀ a u, H a = some u → ¬ n a → ¬ m a := fun a u e k z => (hm3 a z).elim k fun w => by rw [e] at w; cases w
  have ft : ∀ a, Ft f o' a → Ft f o a := fun a ha => ha.imp id (hs.1 a)
  refine ⟨⟨by rw [List.length_set, E1.len], fun j s' e => ?_, fun j c fs k e1 e2 => ?_, fun j k c c' fs gs l1 l2 e1 e2 e3 e4 a ha ha' => ?_, fun a h => hm1 a (E1.sub a h), E1.ion, E1.al0, fun a h => ?_, fun a u e k => ?_, fun p hp => ⟨xx _ _ (E1.gh p hp).1 fun z => (E1.gh p hp).2.1 (n.le _ z), rr _ _ (E1.gh p hp).1 (E1.gh p hp).2.1, DnL.ext xm _ _ (DnL.re rr _ _ (E1.gh p hp).2.2)⟩⟩, xx⟩
  · by_cases hj : i = j
    · subst hj
      rw [List.getElem?_set, if_pos rfl] at e
      split at e
      · cases e; exact ⟨_, hf, f, rfl, h2⟩
      · cases e
    · rw [List.getElem?_set, if_neg hj] at e
      obtain ⟨o2, q1, q2⟩ := E1.sl j s' e
      refine ⟨o2, q1, ?_⟩
      cases s' with
      | no => trivial
      | is d =>
        obtain ⟨v, e1, e2⟩ := q2
        exact ⟨v, e1, Dn.ext xm _ _ (Dn.re rr _ _ e2)⟩
      | own c fs =>
        obtain ⟨l2, e1, e2⟩ := q2
        subst e1
        refine ⟨l2, rfl, ObOk.keep xm.keep _ _ (e2.re rr) fun a ha v hv => x _ _ hv fun z => ?_⟩
        exact hj (E1.apF i j b c o fs f l2 s e hf q1 a z ha)
  · by_cases hj : i = j
    · subst hj
      rw [List.getElem?_set, if_pos rfl] at e1
      split at e1
      · cases e1
        rw [hf] at e2
        cases e2
        exact ⟨fun a ha => ⟨(hm2 _).mpr (q0 a (ft a ha)).1, (q0 a (ft a ha)).2⟩, ⟨fun z => q3.1 (hs.1 _ z), hs.2⟩, hk _ (by rw [hm5]; exact q4)⟩
      · cases e1
    · rw [List.getElem?_set, if_neg hj] at e1
      have w := E1.ownF j c fs k e1 e2
      exact ⟨fun a ha => ⟨(hm2 _).mpr (w.1 a ha).1, (w.1 a ha).2⟩, w.2.1, by rw [hm5]; exact w.2.2⟩
  · have f1 : ∃ fs', ρ[j]? = some (.own c fs') ∧ Ft l1 fs' a := by
      by_cases hj : i = j
      · subst hj
        rw [List.getElem?_set, if_pos rfl] at e1
        split at e1
        · cases e1
          rw [hf] at e3
          cases e3
          exact ⟨_, s, ft a ha⟩
        · cases e1
      · rw [List.getElem?_set, if_neg hj] at e1; exact ⟨_, e1, ha⟩
    have f2 : ∃ gs', ρ[k]? = some (.own c' gs') ∧ Ft l2 gs' a := by
      by_cases hj : i = k
      · subst hj
        rw [List.getElem?_set, if_pos rfl] at e2
        split at e2
        · cases e2
          rw [hf] at e4
          cases e4
          exact ⟨_, s, ft a ha'⟩
        · cases e2
      · rw [List.getElem?_set, if_neg hj] at e2; exact ⟨_, e2, ha'⟩
    obtain ⟨fs', f1, g1⟩ := f1
    obtain ⟨gs', f2, g2⟩ := f2
    exact E1.apF j k c c' fs' gs' l1 l2 f1 f2 e3 e4 a g1 g2
  · by_cases ha : Ft f o a
    · exact xt a ha
    · rcases hm4 a h with h | h
      · cases e : H a with
        | none => exact absurd e (E1.al a h)
        | some o => rw [x a o e ha]; simp
      · exact h
  · by_cases ha : Ft f o a
    · have q2 := (q0 a ha).2
      cases b with
      | true => exact absurd (show F.io a from q2) k
      | false =>
        have q2' : F.H0 a = none := q2
        rw [q2'] at e; cases e
    · exact x a u (E1.kp a u e k) ha
theorem mut_to {m : Ns} (hm1 : ∀ a, n a → m a) (hm2 : ∀ a, m.ow a ↔ n.ow a) (hm3 : ∀ a, m a → n a ∨ H a = none) {b : Bool} {H' : Hp} (hm4 : ∀ a, m a → n a ∨ H' a ≠ none) {f : Addr} {o o' : Ob} (E1 : EnvOk F n ρ σ H) (s : ρ[i]? = some (.own b o)) (hf : σ[i]? = some (some (.ref f))) (x : ∀ a o, H a = some o → a ≠ f → H' a = some o) (h2 : ObOk m H' f o') (e1 : o.at_ = none := by rfl) (e2 : o'.at_ = none := by rfl) (hm5 : m.kid = n.kid := by rfl) : EnvOk F m (ρ.set i (.own b o')) σ H' ∧ Ext n H H' :=
  mut_toN hm1 hm2 hm3 hm4 E1 s hf (fun a u e k => x a u e fun z => k (.inl z)) (fun a ha => by
    rw [ha.no (Ob.foot_no e1)]
    obtain ⟨u, h⟩ := h2.some
    rw [h]; simp) (SubFt.no (Ob.foot_no e2)) (fun _ _ => Ob.kid_no e2) h2 hm5
/-- a call that changes its first argument, the list of slot i -/
theorem wp_callF {enc : α → List Da} {pre : List Da → α → Prop} {post : List Da → α → List Da → Da → Prop} (h : WpA tx ρ fun ks ρ1 => ∃ i ks' b ds x, ks = .sl i :: ks' ∧ ρ1[i]? = some (.own b (.lst ds)) ∧ AllDa ks' (enc x) ∧ pre ds x ∧ ∀ l' r, post ds x l' r → Φ (.da r) (ρ1.set i (.own b (.lst l')))) :
    Wp (tCall (SpF enc pre post) [] E tx) ρ Φ := fun F n σ H E0 Q g =>
  h F n σ H E0 _ fun vs H1 ks ρ1 f E1 x1 r1 => by
    obtain ⟨i, ks', b, ds, x, rfl, s, hs, hp, q⟩ := f
    rw [List.append_nil]
    cases r1 with
    | cons a c =>
      obtain ⟨l, us, g1, g2, g3, g4⟩ := own_at E1 s
      have a' : σ[i]? = some (some _) := a
      rw [g1] at a'
      cases a'
      refine ⟨n, l, _, us, ds, x, rfl, (E1.own i b (.lst ds) l s g1).1, E1.al, g2, g3, hs.rel c, hp, fun v H' us' l' r hr y h1 h2 h3 => ?_⟩
      obtain ⟨E2, xx⟩ := mut_to (m := n) (fun _ h => h) (fun _ => Iff.rfl) (fun _ h => .inl h) (fun _ h => .inl h) E1 s g1 y (o' := .lst l') ⟨us', h1, h2⟩
      exact g v H' _ _ (q l' r hr) E2 (x1.trans xx) h3
theorem wp_callFO {enc : α → List Da} {pre : List Da → α → Prop} {post : List Da → α → List Da → List Da → Prop} (h : WpA tx ρ fun ks ρ1 => ∃ i ks' b ds x, ks = .sl i :: ks' ∧ ρ1[i]? = some (.own b (.lst ds)) ∧ AllDa ks' (enc x) ∧ pre ds x ∧ ∀ l' r, post ds x l' r → Φ (.nw r) (ρ1.set i (.own b (.lst l')))) :
    Wp (tCall (SpFO enc pre post) [] E tx) ρ Φ := fun F n σ H E0 Q g =>
  h F n σ H E0 _ fun vs H1 ks ρ1 f E1 x1 r1 => by
    obtain ⟨i, ks', b, ds, x, rfl, s, hs, hp, q⟩ := f
    rw [List.append_nil]
    cases r1 with
    | cons a c =>
      obtain ⟨l, us, g1, g2, g3, g4⟩ := own_at E1 s
      have a' : σ[i]? = some (some _) := a
      rw [g1] at a'
      cases a'
      refine ⟨n, l, _, us, ds, x, rfl, (E1.own i b (.lst ds) l s g1).1, E1.al, g2, g3, hs.rel c, hp, fun p ps H' us' l' r hr hp' y h1 h2 h3 h4 => ?_⟩
      obtain ⟨E2, xx⟩ := mut_to (m := n) (fun _ h => h) (fun _ => Iff.rfl) (fun _ h => .inl h) (fun _ h => .inl h) E1 s g1 y (o' := .lst l') ⟨us', h1, h2.less fun a z => .inl z⟩
      obtain ⟨E3, _⟩ := mut_to (m := add n p) (fun _ h => .inl h) (fun _ => Iff.rfl) (fun a h => h.imp id fun w => by rw [w]; exact hp') (fun a h => h.imp id fun w => by rw [w, h3]; simp) E1 s g1 y (o' := .lst l') ⟨us', h1, h2⟩
      exact g _ H' _ _ (q l' r hr) E2 (x1.trans xx) ⟨p, ps, rfl, fresh_pre E1 x1 hp', E3, h3, h4⟩
/-- what stands behind the body of such a def -/
theorem rt_T {Q : VK} {n0 : Ns} {H0 : Hp} {G : Fx} {P0 : Da → Prop} (q : ∀ v H' r, P0 r → Grow H0 H' → Dn n0 H' v r → Q v H') (w : Fw ⟨H0, fun _ => False, n0, []⟩ G) (e : P0 d) : RtD G ρ d Q := fun n σ H v E h => by
  have E' := w.un E
  exact q v H d e (fun a o z => E'.kp a o z (fun z => z)) (h.less E'.sub)
theorem rt_O {Q : VK} {n0 : Ns} {H0 : Hp} {G : Fx} {P0 : List Da → Prop} (q : ∀ p us H' r, P0 r → H0 p = none → Grow H0 H' → H' p = some (.lst us) → DnL (add n0 p) H' us r → Q (.ref p) H') (w : Fw ⟨H0, fun _ => False, n0, []⟩ G) (e : P0 ds) : RtO G ρ ds Q := fun n σ H p us E h0 h1 h2 => by
  have E' := w.un E
  rw [w.H0] at h0
  exact q p us H ds e h0 (fun a o z => E'.kp a o z (fun z => z)) h1 (h2.less fun a z => z.imp (E'.sub a) id)
/-- the entry -/
theorem in_T {N : List Str} {H : Hp} {vs : List V} {n : Ns} {P : L2.St → Hp → Prop} (al : ∀ a, n a → H a ≠ none) (h : DnL n H vs ds) (hρ : ρ = ds.map Sl.is ++ List.replicate (N.length - ds.length) .no) (g : Nx ⟨H, fun _ => False, n, []⟩ ρ P) : P (L2.start N vs) H := by
  have hn : ∀ a, n.ow a → n a := n.le
  refine g n (L2.start N vs) H ⟨?_, fun i s e => ?_, fun i b fs l e1 e2 => ?_, fun i j b c fs gs l l2 e1 => ?_, fun a h => h, fun a h => h.elim, al, al, fun a o e _ => e, fun p hp => by cases hp⟩
  · rw [hρ]; simp [L2.start, h.length]
  · rw [hρ] at e
    by_cases hi : i < ds.length
    · rw [List.getElem?_append_left (by rw [List.length_map]; exact hi), List.getElem?_map, List.getElem?_eq_getElem hi] at e
      cases e
      obtain ⟨v, e1, e2⟩ := h.get i _ (List.getElem?_eq_getElem hi)
      refine ⟨some v, ?_, v, rfl, e2⟩
      unfold L2.start
      rw [List.getElem?_append_left (by rw [List.length_map, h.length]; exact hi), List.getElem?_map, e1]
      rfl
    · rw [List.getElem?_append_right (by rw [List.length_map]; omega), List.getElem?_replicate] at e
      split at e
      · rename_i hlt
        cases e
        refine ⟨none, ?_, trivial⟩
        unfold L2.start
        rw [List.getElem?_append_right (by rw [List.length_map, h.length]; omega), List.getElem?_replicate, if_pos (by rw [List.length_map, h.length]; rw [List.length_map] at hlt; exact hlt)]
      · cases e
  · rw [hρ] at e1
    by_cases hi : i < ds.length
    · rw [List.getElem?_append_left (by rw [List.length_map]; exact hi), List.getElem?_map, List.getElem?_eq_getElem hi] at e1
      cases e1
    · rw [List.getElem?_append_right (by rw [List.length_map]; omega), List.getElem?_replicate] at e1
      split at e1 <;> cases e1
  · rw [hρ] at e1
    by_cases hi : i < ds.length
    · rw [List.getElem?_append_left (by rw [List.length_map]; exact hi), List.getElem?_map, List.getElem?_eq_getElem hi] at e1
      cases e1
    · rw [List.getElem?_append_right (by rw [List.length_map]; omega), List.getElem?_replicate] at e1
      split at e1 <;> cases e1
/-- .. of a def that changes its first argument -/
theorem in_F {N : List Str} {H : Hp} {f : Addr} {ws us : List V} {l : List Da} {n : Ns} {P : L2.St → Hp → Prop} (hf : n.ow f) (al : ∀ a, n a → H a ≠ none) (h1 : H f = some (.lst us)) (h2 : DnL n H us l) (h : DnL n H ws ds)
    (hρ : ρ = Sl.own true (.lst l) :: (ds.map Sl.is ++ List.replicate (N.length - (ds.length + 1)) .no)) (g : Nx ⟨H, fun a => a = f, n, []⟩ ρ P) : P (L2.start N (.ref f :: ws)) H := by
  have hst : L2.start N (.ref f :: ws) = some (.ref f) :: (ws.map some ++ List.replicate (N.length - (ws.length + 1)) none) := rfl
  rw [hst]
  have get : ∀ (i : Nat) (s : Sl), (ds.map Sl.is ++ List.replicate (N.length - (ds.length + 1)) .no)[i]? = some s → ∃ o, (ws.map some ++ List.replicate (N.length - (ws.length + 1)) (none : Option V))[i]? = some o ∧ SlOk n H s o ∧ ∀ b es, s ≠ .own b es := by
    intro i s e
    by_cases hi : i < ds.length
    · rw [List.getElem?_append_left (by rw [List.length_map]; exact hi), List.getElem?_map, List.getElem?_eq_getElem hi] at e
      cases e
      obtain ⟨v, e1, e2⟩ := h.get i _ (List.getElem?_eq_getElem hi)
      refine ⟨some v, ?_, ⟨v, rfl, e2⟩, fun b es z => nomatch z⟩
      rw [List.getElem?_append_left (by rw [List.length_map, h.length]; exact hi), List.getElem?_map, e1]
      rfl
    · rw [List.getElem?_append_right (by rw [List.length_map]; omega), List.getElem?_replicate] at e
      split at e
      · rename_i hlt
        cases e
        refine ⟨none, ?_, trivial, fun b es z => nomatch z⟩
        rw [List.getElem?_append_right (by rw [List.length_map, h.length]; omega), List.getElem?_replicate, if_pos (by rw [List.length_map, h.length]; rw [List.length_map] at hlt; exact hlt)]
      · cases e
  refine g n _ H ⟨?_, fun i s e => ?_, fun i b fs m e1 e2 => ?_, fun i j b c fs gs m m' e1 e2 e3 e4 a ha ha' => ?_, fun a h => h, fun a h => by rw [show a = f from h]; exact n.le f hf, al, al, fun a o e _ => e, fun p hp => by cases hp⟩
  · rw [hρ]; simp [h.length]
  · rw [hρ] at e
    cases i with
    | zero => cases e; exact ⟨_, rfl, f, rfl, us, h1, h2⟩
    | succ i =>
      obtain ⟨o, g1, g2, _⟩ := get i s e
      exact ⟨o, g1, g2⟩
  · rw [hρ] at e1
    cases i with
    | zero => cases e1; cases e2; exact ⟨fun a ha => by rw [ha.no rfl]; exact ⟨hf, rfl⟩, Nd.no rfl, trivial⟩
    | succ i =>
      obtain ⟨o, g1, g2, g3⟩ := get i _ e1
      exact absurd rfl (g3 _ _)
  · rw [hρ] at e1 e2
    cases i with
    | zero =>
      cases j with
      | zero => rfl
      | succ j =>
        obtain ⟨o, g1, g2, g3⟩ := get j _ e2
        exact absurd rfl (g3 _ _)
    | succ i =>
      obtain ⟨o, g1, g2, g3⟩ := get i _ e1
      exact absurd rfl (g3 _ _)
theorem rt_F {Q : VK} {n0 : Ns} {H0 : Hp} {f : Addr} {G : Fx} {P0 : List Da → Da → Prop} {l' : List Da} (q : ∀ v H' us' l' r, P0 l' r → (∀ a o, H0 a = some o → a ≠ f → H' a = some o) → H' f = some (.lst us') → DnL n0 H' us' l' → Dn n0 H' v r → Q v H') (w : Fw ⟨H0, fun a => a = f, n0, []⟩ G)
    (s : ρ[0]? = some (.own true (.lst l'))) (e : P0 l' d) : RtD G ρ d Q := fun n σ H v E h => by
  have E' := w.un E
  obtain ⟨l, us, g1, g2, g3, _⟩ := own_at E' s
  have hl : l = f := (E'.own 0 true (.lst l') l s g1).2
  subst hl
  exact q v H us l' d e (fun a o z k => E'.kp a o z k) g2 (g3.less E'.sub) (h.less E'.sub)
theorem rt_FO {Q : VK} {n0 : Ns} {H0 : Hp} {f : Addr} {G : Fx} {P0 : List Da → List Da → Prop} {l' : List Da} (q : ∀ p ps H' us' l' r, P0 l' r → H0 p = none → (∀ a o, H0 a = some o → a ≠ f → H' a = some o) → H' f = some (.lst us') → DnL (add n0 p) H' us' l' → H' p = some (.lst ps) → DnL (add n0 p) H' ps r → Q (.ref p) H') (w : Fw ⟨H0, fun a => a = f, n0, []⟩ G)
    (s : ρ[0]? = some (.own true (.lst l'))) (hl' : ∀ d ∈ l', flat d = true) (e : P0 l' ds) : RtO G ρ ds Q := fun n σ H p us E h0 h1 h2 => by
  have E' := w.un E
  obtain ⟨l, ws, g1, g2, g3, _⟩ := own_at E' s
  have hl : l = f := (E'.own 0 true (.lst l') l s g1).2
  subst hl
  rw [w.H0] at h0
  have fl : ∀ (ds : List Da) (ws : List V), (∀ d ∈ ds, flat d = true) → DnL n H ws ds → DnL (add n0 p) H ws ds := by
    intro ds
    induction ds with
    | nil => intro ws _ h; cases h; exact .nil
    | cons d ds ih =>
      intro ws hd h
      cases h with
      | cons a b => exact .cons (a.flat (hd _ List.mem_cons_self)) (ih _ (fun x hx => hd x (List.mem_cons_of_mem _ hx)) b)
  exact q p us H ws l' ds e h0 (fun a o z k => E'.kp a o z k) g2 (fl _ _ hl' g3) h1 (h2.less fun a z => z.imp (E'.sub a) id)
/-! ### one argument, at any place, is an object that is changed -/
end
/-- the object at f is changed from o to o' -/
structure GoOn (n : Ns) (H H' : Hp) (f : Addr) (o o' : Ob) : Prop where
  fr : ∀ a u, H a = some u → ¬ Ft f o a → H' a = some u
  th : ∀ a, Ft f o a → H' a ≠ none
  sub : SubFt o' o
  ok : ObOk n H' f o'
  ka : ∀ as, o.kidOk as → o'.kidOk as
def SpG {α : Type} (enc1 enc2 : α → List Da) (pre : Ob → α → Prop) (post : Ob → α → Ob → Da → Prop) : Sp := fun vs H Q _ => ∃ (n : Ns) (f : Addr) (vs1 vs2 : List V) (o : Ob) (x : α), vs = vs1 ++ .ref f :: vs2 ∧ FtOw n.ow f o ∧ (∀ a, n a → H a ≠ none) ∧
  ObOk n H f o ∧ DnL n H vs1 (enc1 x) ∧ DnL n H vs2 (enc2 x) ∧ pre o x ∧ ∀ v H' o' r, post o x o' r → GoOn n H H' f o o' → Dn n H' v r → Q v H'
section
variable {α : Type} {K : PySem.W.Frag} {F : Fx} {n : Ns} {ρ ρ' ρ0 ρ1 ρ2 ρ3 : List Sl} {te tl ta tb tc : TE} {tt tu : TT} {tx tr : TA} {d e : Da} {k k1 k2 : Rk} {ks : List Rk} {ds es ds1 ds2 : List Da} {i j : Nat} {E : XK} {H : Hp} {σ : L2.St} {Φ : Rw → List Sl → Prop}
theorem RelKs.split {n : Ns} {σ : L2.St} {H : Hp} : ∀ {ks1 ks2 : List Rk} {vs : List V}, RelKs n σ H vs (ks1 ++ ks2) → ∃ v1 v2, vs = v1 ++ v2 ∧ RelKs n σ H v1 ks1 ∧ RelKs n σ H v2 ks2
  | [], _, vs, h => ⟨[], vs, rfl, .nil, h⟩
  | k :: ks1, ks2, _, h => by
    cases h with
    | cons a b =>
      obtain ⟨v1, v2, rfl, h1, h2⟩ := RelKs.split b
      exact ⟨_ :: v1, v2, rfl, .cons a h1, h2⟩
theorem wp_callG {enc1 enc2 : α → List Da} {pre : Ob → α → Prop} {post : Ob → α → Ob → Da → Prop} (h : WpA tx ρ fun ks ρ1 => ∃ i ks1 ks2 b o x, ks = ks1 ++ .sl i :: ks2 ∧ ρ1[i]? = some (.own b o) ∧ AllDa ks1 (enc1 x) ∧ AllDa ks2 (enc2 x) ∧ pre o x ∧ ∀ o' r, post o x o' r → Φ (.da r) (ρ1.set i (.own b o'))) :
    Wp (tCall (SpG enc1 enc2 pre post) [] E tx) ρ Φ := fun F n σ H E0 Q g =>
  h F n σ H E0 _ fun vs H1 ks ρ1 f E1 x1 r1 => by
    obtain ⟨i, ks1, ks2, b, o, x, rfl, s, hs1, hs2, hp, q⟩ := f
    rw [List.append_nil]
    obtain ⟨v1, v2, rfl, q1, q2⟩ := r1.split
    cases q2 with
    | cons a c =>
      obtain ⟨l, g1, g3, g4⟩ := own_ob E1 s
      have a' : σ[i]? = some (some _) := a
      rw [g1] at a'
      cases a'
      have w := E1.ownF i b o l s g1
      refine ⟨n, l, v1, _, o, x, rfl, ⟨fun a ha => (w.1 a ha).1, w.2.1⟩, E1.al, g3, hs1.rel q1, hs2.rel c, hp, fun v H' o' r hr y h3 => ?_⟩
      obtain ⟨E2, xx⟩ := mut_toN (m := n) (fun _ h => h) (fun _ => Iff.rfl) (fun _ h => .inl h) (fun _ h => .inl h) E1 s g1 y.fr y.th y.sub y.ka y.ok
      exact g v H' _ _ (q o' r hr) E2 (x1.trans xx) h3
/-- slots and what they say, one by one -/
inductive F2 (n : Ns) (H : Hp) : List Sl → List (Option V) → Prop
  | nil : F2 n H [] []
  | cons {s : Sl} {o : Option V} {ss : List Sl} {os : List (Option V)} : SlOk n H s o → F2 n H ss os → F2 n H (s :: ss) (o :: os)
theorem F2.len : ∀ {ss : List Sl} {os : List (Option V)}, F2 n H ss os → os.length = ss.length
  | _, _, .nil => rfl
  | _, _, .cons _ h => by simp [F2.len h]
theorem F2.get : ∀ {ss : List Sl} {os : List (Option V)}, F2 n H ss os → ∀ (i : Nat) (s : Sl), ss[i]? = some s → ∃ o, os[i]? = some o ∧ SlOk n H s o
  | _, _, .nil, i, s, e => by simp at e
  | _, _, .cons a h, 0, s, e => by simp at e; subst e; exact ⟨_, rfl, a⟩
  | _, _, .cons a h, i + 1, s, e => by simpa using F2.get h i s (by simpa using e)
theorem F2.app : ∀ {ss tt : List Sl} {os ps : List (Option V)}, F2 n H ss os → F2 n H tt ps → F2 n H (ss ++ tt) (os ++ ps)
  | _, _, _, _, .nil, k => k
  | _, _, _, _, .cons a h, k => .cons a (F2.app h k)
theorem F2.da : ∀ {ds : List Da} {vs : List V}, DnL n H vs ds → F2 n H (ds.map .is) (vs.map some)
  | [], _, h => by cases h; exact .nil
  | d :: ds, _, h => by
    cases h with
    | cons a b => exact .cons ⟨_, rfl, a⟩ (F2.da b)
theorem F2.no : ∀ k : Nat, F2 n H (List.replicate k .no) (List.replicate k none)
  | 0 => .nil
  | k + 1 => .cons trivial (F2.no k)
theorem no_own : ∀ (ds : List Da) (k i : Nat) (b : Bool) (o : Ob), (ds.map Sl.is ++ List.replicate k .no)[i]? ≠ some (.own b o)
  | [], k, i, b, o => by
    intro e
    have e : (List.replicate k Sl.no)[i]? = some (.own b o) := e
    rw [List.getElem?_replicate] at e
    split at e <;> cases e
  | d :: ds, k, 0, b, o => by intro e; cases e
  | d :: ds, k, i + 1, b, o => no_own ds k i b o
theorem one_own : ∀ (ds1 ds2 : List Da) (k i : Nat) (b : Bool) (o o' : Ob), (ds1.map Sl.is ++ Sl.own true o :: (ds2.map Sl.is ++ List.replicate k .no))[i]? = some (.own b o') → i = ds1.length ∧ b = true ∧ o' = o
  | [], ds2, k, 0, b, o, o', e => by cases e; exact ⟨rfl, rfl, rfl⟩
  | [], ds2, k, i + 1, b, o, o', e => absurd e (no_own ds2 k i b o')
  | d :: ds1, ds2, k, 0, b, o, o', e => by cases e
  | d :: ds1, ds2, k, i + 1, b, o, o', e => by
    obtain ⟨h1, h2⟩ := one_own ds1 ds2 k i b o o' e
    exact ⟨by rw [h1]; rfl, h2⟩
theorem in_G {N : List Str} {f : Addr} {vs1 vs2 : List V} {o : Ob} {P : L2.St → Hp → Prop} (hf : FtOw n.ow f o) (al : ∀ a, n a → H a ≠ none) (h2 : ObOk n H f o) (d1 : DnL n H vs1 ds1) (d2 : DnL n H vs2 ds2)
    (hρ : ρ = ds1.map Sl.is ++ Sl.own true o :: (ds2.map Sl.is ++ List.replicate (N.length - (ds1.length + (ds2.length + 1))) .no)) (g : Nx ⟨H, Ft f o, n, []⟩ ρ P) : P (L2.start N (vs1 ++ .ref f :: vs2)) H := by
  have hst : L2.start N (vs1 ++ .ref f :: vs2) = vs1.map some ++ some (.ref f) :: (vs2.map some ++ List.replicate (N.length - (ds1.length + (ds2.length + 1))) none) := by
    unfold L2.start
    rw [List.map_append, List.append_assoc, List.length_append, List.length_cons, d1.length, d2.length]
    rfl
  rw [hst]
  have FF : F2 n H ρ (vs1.map some ++ some (.ref f) :: (vs2.map some ++ List.replicate (N.length - (ds1.length + (ds2.length + 1))) none)) := by
    rw [hρ]
    exact (F2.da d1).app (.cons ⟨f, rfl, h2⟩ ((F2.da d2).app (F2.no _)))
  have ka : o.kidOk o.addrs := by cases o <;> first | exact trivial | rfl
  let n2 : Ns := ⟨n.av, n.ow, n.le, fun _ => o.addrs⟩
  refine g n2 _ H ⟨FF.len, fun i s e => ?_, fun i b fs m e1 e2 => ?_, fun i j b c fs gs l1 l2 e1 e2 e3 e4 a ha ha' => ?_, fun a h => h, fun a h => n.le a (hf.1 a h), al, al, fun a o e _ => e, fun p hp => by cases hp⟩
  · obtain ⟨u, g1, g2⟩ := FF.get i s e
    refine ⟨u, g1, ?_⟩
    cases s with
    | no => trivial
    | is d =>
      obtain ⟨v, w1, w2⟩ := g2
      exact ⟨v, w1, w2.less fun a z => z⟩
    | own b ob =>
      obtain ⟨l, w1, w2⟩ := g2
      exact ⟨l, w1, w2.re (m := n2) fun a _ _ z => z⟩
  · rw [hρ] at e1
    obtain ⟨h1, h3, h4⟩ := one_own _ _ _ _ _ _ _ e1
    subst h1
    rw [← d1.length] at e2
    have e2 : some (some (V.ref f)) = some (some (V.ref m)) := by
      rw [← e2]
      simp
    cases e2
    subst h3
    subst h4
    exact ⟨fun a ha => ⟨hf.1 a ha, ha⟩, hf.2, ka⟩
  · rw [hρ] at e1 e2
    rw [(one_own _ _ _ _ _ _ _ e1).1, (one_own _ _ _ _ _ _ _ e2).1]
/-- a return of such a def; an object that is put together stands where it stood -/
theorem rt_G {Q : VK} {n0 : Ns} {H0 : Hp} {f : Addr} {o : Ob} {G : Fx} {P0 : Ob → Da → Prop} {o' : Ob} (q : ∀ v H' o' r, P0 o' r → GoOn n0 H0 H' f o o' → Dn n0 H' v r → Q v H') (w : Fw ⟨H0, Ft f o, n0, []⟩ G) (j : Nat)
    (s : ρ[j]? = some (.own true o')) (e : P0 o' d) (hb : o.at_ = none ∨ o'.at_ = some f := by first | exact .inl rfl | exact .inr rfl) (hk : ∀ as, o.kidOk as → o'.kidOk as := by first | exact fun _ _ => trivial | exact fun _ h => h) : RtD G ρ d Q := fun n σ H v E h => by
  have E' := w.un E
  obtain ⟨l, g1, g2, _⟩ := own_ob E' s
  obtain ⟨w1, w2⟩ := E'.ownF j true o' l s g1
  have hl : l = f := by
    rcases hb with hb | hb
    · exact (show Ft f o l from (w1 l (.inl rfl)).2).no (Ob.foot_no hb)
    · cases o' with
      | lst ds => cases hb
      | ins C fs => cases hb
      | dic D kvs => cases hb
      | nst l0 u ks => cases hb; exact g2.1
  subst hl
  have al : ∀ a, Ft l o a → H a ≠ none := fun a ha => E'.al a (E'.sub a (E'.ion a ha))
  refine q v H o' d e ⟨fun a o z k => E'.kp a o z k, al, ⟨fun a ha => ?_, w2.1.2⟩, g2.re fun a _ _ z w => z (E'.sub a w), hk⟩ (h.less E'.sub)
  rcases (show Ft l o a from (w1 a (.inr ha)).2) with z | z
  · subst z
    exact absurd ha w2.1.1
  · exact z
end
end Dd
namespace Dd
open PySem PySem.Spec PyProof.Rows L2
/-! ## several values at once, stored behind all of them -/
def slOf : Rw → Sl
  | .da d => .is d
  | .nw ds => .own false (.lst ds)
  | .sl _ => .no
  | .kd _ _ => .no
/-- what waits to be stored -/
inductive Pend (F : Fx) (n : Ns) (H : Hp) : List V → List Rw → Prop
  | nil : Pend F n H [] []
  | da {v : V} {d : Da} {vs : List V} {ks : List Rw} : Dn n H v d → Pend F n H vs ks → Pend F n H (v :: vs) (.da d :: ks)
  | nw {p : Addr} {us : List V} {ds : List Da} {vs : List V} {ks : List Rw} : n p → ¬ n.ow p → F.H0 p = none → H p = some (.lst us) → DnL n H us ds → V.ref p ∉ vs → Pend F n H vs ks → Pend F n H (.ref p :: vs) (.nw ds :: ks)
theorem Pend.ext {F : Fx} {n : Ns} {H H' : Hp} (x : Ext n H H') : ∀ {vs : List V} {ks : List Rw}, Pend F n H vs ks → Pend F n H' vs ks
  | _, _, .nil => .nil
  | _, _, .da a h => .da (Dn.ext x _ _ a) (h.ext x)
  | _, _, .nw a b c d e f h => .nw a b c (x _ _ d b) (DnL.ext x _ _ e) f (h.ext x)
theorem Pend.more {F : Fx} {n : Ns} {H : Hp} {q : Addr} (hq : H q = none) : ∀ {vs : List V} {ks : List Rw}, Pend F n H vs ks → Pend F (add n q) H vs ks
  | _, _, .nil => .nil
  | _, _, .da a h => .da (a.more hq) (h.more hq)
  | _, _, .nw a b c d e f h => .nw (.inl a) b c d (e.more hq) f (h.more hq)
theorem Pend.al {F : Fx} {n : Ns} {H : Hp} {q : Addr} (hq : H q = none) : ∀ {vs : List V} {ks : List Rw}, Pend F n H vs ks → (∀ v ∈ vs, v = .ref q → ∃ d, Dn n H v d)
  | _, _, .nil, v, hv, e => by cases hv
  | _, _, .da a h, v, hv, e => by
    rcases List.mem_cons.mp hv with z | z
    · subst z; exact ⟨_, a⟩
    · exact Pend.al hq h v z e
  | _, _, .nw a b c d e' f h, v, hv, e => by
    rcases List.mem_cons.mp hv with z | z
    · subst z
      cases e
      rw [hq] at d; cases d
    · exact Pend.al hq h v z e
theorem Dn.there {n : Ns} {H : Hp} {q : Addr} {d : Da} (h : Dn n H (.ref q) d) (hs : ∀ K ns, d ≠ .scr K ns) (hc : ∀ C, d ≠ .cl C) : ∃ o, H q = some o := by
  cases h with
  | lst h => exact ⟨_, h⟩
  | tup h => exact ⟨_, h⟩
  | ins h => exact ⟨_, h⟩
  | scr h => exact absurd rfl (hs _ _)
  | cl => exact absurd rfl (hc _)
  | exn h => exact ⟨_, h⟩
  | dic h => exact ⟨_, h⟩
/-- no script waits -/
def noScr : List Rw → Prop := fun ks => ∀ d, (∃ K ns, d = .scr K ns) ∨ (∃ C, d = .cl C) → Rw.da d ∉ ks
theorem Pend.fresh {F : Fx} {n : Ns} {H : Hp} {q : Addr} (hq : H q = none) : ∀ {vs : List V} {ks : List Rw}, noScr ks → Pend F n H vs ks → V.ref q ∉ vs
  | _, _, _, .nil => fun h => by cases h
  | _, _, ns, .da a h => fun hv => by
    rcases List.mem_cons.mp hv with z | z
    · subst z
      obtain ⟨o, e⟩ := a.there (fun K l z => ns _ (.inl ⟨K, l, rfl⟩) (by rw [z]; exact List.mem_cons_self)) (fun C z => ns _ (.inr ⟨C, rfl⟩) (by rw [z]; exact List.mem_cons_self))
      rw [hq] at e; cases e
    · exact Pend.fresh hq (fun d hd z => ns d hd (List.mem_cons_of_mem _ z)) h z
  | _, _, ns, .nw a b c d e' f h => fun hv => by
    rcases List.mem_cons.mp hv with z | z
    · cases z
      rw [hq] at d; cases d
    · exact Pend.fresh hq (fun d hd z => ns d hd (List.mem_cons_of_mem _ z)) h z
/-- the values from the left, the last one first in the list -/
def WpP (ta : TA) (ρ : List Sl) (Φ : List Rw → List Sl → Prop) : Prop := ∀ F n σ H, EnvOk F n ρ σ H → ∀ (ps : List V) (pk : List Rw), noScr pk → Pend F n H ps pk → (∀ (j : Nat) (b : Bool) (o : Ob) (l : Addr), ρ[j]? = some (.own b o) → σ[j]? = some (some (.ref l)) → ∀ a, Ft l o a → V.ref a ∉ ps) → ∀ Q : List V → Hp → Prop,
  (∀ n' vs H' ks ρ', Φ ks ρ' → EnvOk F n' ρ' σ H' → noScr (ks.reverse ++ pk) → Pend F n' H' (vs.reverse ++ ps) (ks.reverse ++ pk) → (∀ (j : Nat) (b : Bool) (o : Ob) (l : Addr), ρ'[j]? = some (.own b o) → σ[j]? = some (some (.ref l)) → ∀ a, Ft l o a → V.ref a ∉ vs.reverse ++ ps) → Q vs H') → ta σ H Q
section
variable {K : PySem.W.Frag} {F : Fx} {ρ ρ' ρ0 ρ1 ρ2 ρ3 : List Sl} {te ta tb tc : TE} {tt tu : TT} {tx tr : TA} {d e : Da} {k k1 k2 : Rk} {ks : List Rk} {ds es : List Da} {i j : Nat} {D : Ends} {t u : TS} {P : L2.St → Hp → Prop}
theorem wm_nil {Φ : List Rw → List Sl → Prop} (q : Φ [] ρ) : WpP tNil ρ Φ := fun F n σ H E ps pk ns hp ho Q g => g n [] H [] ρ q E ns hp ho
/-- a value that may wait -/
def okW : Rw → Prop
  | .da (.scr _ _) => False
  | .da (.cl _) => False
  | .sl _ => False
  | .kd _ _ => False
  | _ => True
theorem wm_cons {Φ : List Rw → List Sl → Prop} (h : Wp te ρ fun k ρ1 => okW k ∧ WpP tr ρ1 fun ks ρ2 => Φ (k :: ks) ρ2) : WpP (tCons te tr) ρ Φ := fun F n σ H E ps pk ns hp ho Q g =>
  h F n σ H E _ fun v H1 k ρ1 f E1 x1 r1 => by
    obtain ⟨hk, f⟩ := f
    have hp1 := hp.ext x1
    cases k with
    | sl i => exact hk.elim
    | kd i j => exact hk.elim
    | da d =>
      have ns1 : noScr (.da d :: pk) := fun d' hd z => by
        rcases List.mem_cons.mp z with z | z
        · cases z
          rcases hd with ⟨K, l, rfl⟩ | ⟨C, rfl⟩
          · exact hk
          · exact hk
        · exact ns d' hd z
      have r1' : Dn n H1 v d := r1
      refine f F n σ H1 E1 (v :: ps) (.da d :: pk) ns1 (.da r1' hp1) (fun j b o l e1 e2 aF haF hm => ?_) _ fun n' vs H' ks ρ' f' E' ns' hp' ho' => g n' (v :: vs) H' (.da d :: ks) ρ' f' E' (by simpa using ns') (by simpa using hp') (by simpa using ho')
      have h4 := (E1.ownF j b o l e1 e2).1 aF haF
      have h5 : ∀ (vs : List V) (ks : List Rw), Pend F n H1 vs ks → V.ref aF ∈ vs → noScr ks → False := by
        intro vs ks hp
        induction hp with
        | nil => intro z; cases z
        | da a _ ih =>
          intro z ns
          rcases List.mem_cons.mp z with z | z
          · subst z
            cases a with
            | lst _ q _ => exact q (n.le _ h4.1)
            | tup _ q _ => exact q (n.le _ h4.1)
            | ins _ q _ => exact q (n.le _ h4.1)
            | exn _ _ q _ _ => exact q (n.le _ h4.1)
            | dic _ q _ => exact q (n.le _ h4.1)
            | scr q => exact ns _ (.inl ⟨_, _, rfl⟩) List.mem_cons_self
            | cl => exact ns _ (.inr ⟨_, rfl⟩) List.mem_cons_self
          · exact ih z fun d hd z => ns d hd (List.mem_cons_of_mem _ z)
        | nw a b _ _ _ _ _ ih =>
          intro z ns
          rcases List.mem_cons.mp z with z | z
          · cases z; exact b h4.1
          · exact ih z fun d hd z => ns d hd (List.mem_cons_of_mem _ z)
      exact h5 _ _ (Pend.da r1' hp1) hm ns1
    | nw ds =>
      obtain ⟨p, us, rfl, hpn, E2, h1, h2⟩ := r1
      have hp0 := Pend.fresh hpn ns hp
      have hpe : Pend F (add n p) H1 ps pk := Pend.ext (n := add n p) (fun a o e k => x1 a o e k) (hp.more hpn)
      have ns1 : noScr (.nw ds :: pk) := fun d' hd z => by
        rcases List.mem_cons.mp z with z | z
        · cases z
        · exact ns d' hd z
      have hP : Pend F (add n p) H1 (.ref p :: ps) (.nw ds :: pk) := .nw (.inr rfl) (fun z => E.not hpn (n.le p z)) (E.h0 hpn) h1 h2 hp0 hpe
      refine f F (add n p) σ H1 E2 (.ref p :: ps) (.nw ds :: pk) ns1 hP (fun j b o l e1 e2 aF haF hm => ?_) _ fun n' vs H' ks ρ' f' E' ns' hp' ho' => g n' (.ref p :: vs) H' (.nw ds :: ks) ρ' f' E' (by simpa using ns') (by simpa using hp') (by simpa using ho')
      have h4 := (E2.ownF j b o l e1 e2).1 aF haF
      have h5 : ∀ (vs : List V) (ks : List Rw), Pend F (add n p) H1 vs ks → V.ref aF ∈ vs → noScr ks → False := by
        intro vs ks hp
        induction hp with
        | nil => intro z; cases z
        | da a _ ih =>
          intro z ns
          rcases List.mem_cons.mp z with z | z
          · subst z
            cases a with
            | lst _ q _ => exact q ((add n p).le _ h4.1)
            | tup _ q _ => exact q ((add n p).le _ h4.1)
            | ins _ q _ => exact q ((add n p).le _ h4.1)
            | exn _ _ q _ _ => exact q ((add n p).le _ h4.1)
            | dic _ q _ => exact q ((add n p).le _ h4.1)
            | scr q => exact ns _ (.inl ⟨_, _, rfl⟩) List.mem_cons_self
            | cl => exact ns _ (.inr ⟨_, rfl⟩) List.mem_cons_self
          · exact ih z fun d hd z => ns d hd (List.mem_cons_of_mem _ z)
        | nw a b _ _ _ _ _ ih =>
          intro z ns
          rcases List.mem_cons.mp z with z | z
          · cases z; exact b h4.1
          · exact ih z fun d hd z => ns d hd (List.mem_cons_of_mem _ z)
      exact h5 _ _ hP hm ns1
theorem EnvOk.addS {n : Ns} {σ : L2.St} {H : Hp} {p : Addr} (E : EnvOk F n ρ σ H) (hp : n p) : EnvOk F (add n p) ρ σ H := by
  have k : ∀ a o, H a = some o → ¬ n a → ¬ (add n p) a := fun a o _ z w => w.elim z fun w => z (by rw [w]; exact hp)
  refine ⟨E.len, fun i s e => ?_, E.ownF, E.apF, fun a h => .inl (E.sub a h), E.ion, E.al0, fun a h => h.elim (E.al a) fun w => by rw [w]; exact E.al p hp, E.kp, fun q hq => ⟨(E.gh q hq).1, k _ _ (E.gh q hq).1 (E.gh q hq).2.1, DnL.re k _ _ (E.gh q hq).2.2⟩⟩
  obtain ⟨o, h1, h2⟩ := E.sl i s e
  refine ⟨o, h1, ?_⟩
  cases s with
  | no => trivial
  | is d =>
    obtain ⟨v, e1, e2⟩ := h2
    exact ⟨v, e1, Dn.re k _ _ e2⟩
  | own b ob =>
    obtain ⟨l, e1, e2⟩ := h2
    exact ⟨l, e1, e2.re k⟩
/-- the last of those that wait is stored -/
theorem pend_pop {n : Ns} {σ : L2.St} {H : Hp} {v : V} {k : Rw} {vs : List V} {ks : List Rw} (i : Nat) (E : EnvOk F n ρ σ H) (hp : Pend F n H (v :: vs) (k :: ks)) (ho : ∀ (j : Nat) (b : Bool) (o : Ob) (l : Addr), ρ[j]? = some (.own b o) → σ[j]? = some (some (.ref l)) → ∀ a, Ft l o a → V.ref a ∉ v :: vs) :
    ∃ n', EnvOk F n' (ρ.set i (slOf k)) (σ.set i (some v)) H ∧ Pend F n' H vs ks ∧ ∀ (j : Nat) (b : Bool) (o : Ob) (l : Addr), (ρ.set i (slOf k))[j]? = some (.own b o) → (σ.set i (some v))[j]? = some (some (.ref l)) → ∀ a, Ft l o a → V.ref a ∉ vs := by
  cases hp with
  | @da _ d _ _ a hp =>
    refine ⟨n, E.set a, hp, fun j b o l e1 e2 aF haF hm => ?_⟩
    by_cases hj : i = j
    · subst hj
      rw [List.getElem?_set, if_pos rfl] at e1
      split at e1 <;> cases e1
    · rw [List.getElem?_set, if_neg hj] at e1 e2
      exact ho j b o l e1 e2 aF haF (List.mem_cons_of_mem _ hm)
  | @nw p us ds _ _ a b c d e f hp =>
    have E1 := (E.addS a).may.setO (i := i) (ds := .lst ds) (fun j b o l e1 e2 ha => ho j b o l e1 e2 p ha List.mem_cons_self) c ⟨us, d, DnL.re (n' := addO n p) (fun x o _ z w => w.elim z fun w => z (by rw [w]; exact a)) _ _ e⟩
    refine ⟨addO n p, E1, ?_, fun j b' o l e1 e2 aF haF hm => ?_⟩
    · have key : ∀ {vs : List V} {ks : List Rw}, V.ref p ∉ vs → Pend F n H vs ks → Pend F (addO n p) H vs ks := by
        intro vs ks hf hp
        have k : ∀ x o, H x = some o → ¬ n x → ¬ (addO n p) x := fun x o _ z w => w.elim z fun w => z (by rw [w]; exact a)
        induction hp with
        | nil => exact .nil
        | da a' _ ih => exact .da (Dn.re k _ _ a') (ih fun z => hf (List.mem_cons_of_mem _ z))
        | nw a' b' c' d' e' f' _ ih =>
          refine .nw (.inl a') (fun z => z.elim b' fun w => hf ?_) c' d' (DnL.re k _ _ e') f' (ih fun z => hf (List.mem_cons_of_mem _ z))
          rw [w]
          exact List.mem_cons_self
      exact key f hp
    · by_cases hj : i = j
      · subst hj
        rw [List.getElem?_set, if_pos rfl] at e1 e2
        split at e2
        · split at e1
          · have e1 : some (Sl.own false (.lst ds)) = some (.own b' o) := e1
            cases e1; cases e2
            rw [haF.no rfl] at hm
            exact f hm
          · cases e1
        · cases e2
      · rw [List.getElem?_set, if_neg hj] at e1 e2
        exact ho j b' o l e1 e2 aF haF (List.mem_cons_of_mem _ hm)
theorem nx_par2 (hij : i ≠ j) (h : WpP tx ρ fun ks ρ' => ∃ k1 k2, ks = [k1, k2] ∧ Nx F ((ρ'.set j (slOf k2)).set i (slOf k1)) D.nx) : Nx F ρ (tPar i j tx D) := fun n σ H E =>
  h F n σ H E [] [] (fun d hd z => by cases z) .nil (fun _ _ _ _ _ _ _ _ z => by cases z) _ fun n' vs H' ks ρ' f E' ns hp hw => by
    obtain ⟨k1, k2, rfl, q⟩ := f
    have hl : ∀ {vs : List V} {ks : List Rw}, Pend F n' H' vs ks → vs.length = ks.length := by
      intro vs ks hp
      induction hp with
      | nil => rfl
      | da _ _ ih => simp [ih]
      | nw _ _ _ _ _ _ _ ih => simp [ih]
    have hl2 : vs.length = 2 := by
      have := hl hp
      simpa using this
    match vs, hl2 with
    | [v, w], _ =>
      have hp : Pend F n' H' [w, v] [k2, k1] := by simpa using hp
      have hw : ∀ (m : Nat) (b : Bool) (o : Ob) (l : Addr), ρ'[m]? = some (.own b o) → σ[m]? = some (some (.ref l)) → ∀ a, Ft l o a → V.ref a ∉ [w, v] := by simpa using hw
      obtain ⟨n2, E2, hp2, hw2⟩ := pend_pop j E' hp hw
      obtain ⟨n3, E3, _, _⟩ := pend_pop i E2 hp2 hw2
      refine ⟨v, w, rfl, ?_⟩
      rw [List.set_comm _ _ hij]
      exact q n3 _ H' E3
theorem nx_par3 {l : Nat} (hij : i ≠ j) (hil : i ≠ l) (hjl : j ≠ l) (h : WpP tx ρ fun ks ρ' => ∃ k1 k2 k3, ks = [k1, k2, k3] ∧ Nx F (((ρ'.set l (slOf k3)).set j (slOf k2)).set i (slOf k1)) D.nx) : Nx F ρ (tPar3 i j l tx D) := fun n σ H E =>
  h F n σ H E [] [] (fun d hd z => by cases z) .nil (fun _ _ _ _ _ _ _ _ z => by cases z) _ fun n' vs H' ks ρ' f E' ns hp hw => by
    obtain ⟨k1, k2, k3, rfl, q⟩ := f
    have hl : ∀ {vs : List V} {ks : List Rw}, Pend F n' H' vs ks → vs.length = ks.length := by
      intro vs ks hp
      induction hp with
      | nil => rfl
      | da _ _ ih => simp [ih]
      | nw _ _ _ _ _ _ _ ih => simp [ih]
    have hl2 : vs.length = 3 := by
      have := hl hp
      simpa using this
    match vs, hl2 with
    | [u, v, w], _ =>
      have hp : Pend F n' H' [w, v, u] [k3, k2, k1] := by simpa using hp
      have hw : ∀ (m : Nat) (b : Bool) (o : Ob) (l : Addr), ρ'[m]? = some (.own b o) → σ[m]? = some (some (.ref l)) → ∀ a, Ft l o a → V.ref a ∉ [w, v, u] := by simpa using hw
      obtain ⟨n2, E2, hp2, hw2⟩ := pend_pop l E' hp hw
      obtain ⟨n3, E3, hp3, hw3⟩ := pend_pop j E2 hp2 hw2
      obtain ⟨n4, E4, _, _⟩ := pend_pop i E3 hp3 hw3
      refine ⟨u, v, w, rfl, ?_⟩
      rw [List.set_comm _ _ hij, List.set_comm _ _ hil, List.set_comm _ _ hjl, ]
      have e : ((σ.set l (some w)).set j (some v)).set i (some u) = ((σ.set j (some v)).set l (some w)).set i (some u) := by rw [List.set_comm _ _ hjl]
      first
        | exact q n4 _ H' E4
        | (rw [← e]; exact q n4 _ H' E4)
        | (rw [e] at E4; exact q n4 _ H' E4)
end
end Dd
namespace Dd
open PySem PySem.Spec PyProof.Rows L2
def strz (ys : List Str) : List Da := ys.map .str
def blz (ys : List Bool) : List Da := ys.map .bl
theorem DnL.strz {n : Ns} {H : Hp} : ∀ {ns : List Str} {vs : List V}, DnL n H vs (strz ns) → vs = ns.map V.str
  | [], _, h => by cases h; rfl
  | i :: ns, _, h => by
    cases h with
    | cons h1 h2 => cases h1; rw [DnL.strz h2]; rfl
theorem DnL.blz {n : Ns} {H : Hp} : ∀ {ns : List Bool} {vs : List V}, DnL n H vs (blz ns) → vs = ns.map V.bl
  | [], _, h => by cases h; rfl
  | i :: ns, _, h => by
    cases h with
    | cons h1 h2 => cases h1; rw [DnL.blz h2]; rfl
section
variable {K : PySem.W.Frag} {F : Fx} {ρ ρ' ρ0 ρ1 ρ2 ρ3 : List Sl} {te to ta tb tc : TE} {tt tu : TT} {tx tr : TA} {d e : Da} {k k1 k2 : Rk} {ks : List Rk} {ds es : List Da} {i j : Int} {x y : Str} {Φ Ψ : Rw → List Sl → Prop}
def rStrI : List V → Hp → VK → Prop := fun xs H Q => ∃ i : Int, xs = [.int i] ∧ i.natAbs.log2 < 1920 ∧ Q (.str (toString i)) H
theorem cb_strI {X : Cx} : CallR X (.type "str") rStrI := call_str_int
theorem b_strI (s : see ρ k = some (.int i)) (z : i.natAbs.log2 < 1920) : Cb rStrI ρ [k] (.da (.str (toString i))) := fun F n σ H vs Q E r1 q => by
  obtain ⟨v, rfl, r⟩ := rk1 r1
  rw [peekI E r s]
  exact ⟨i, rfl, z, q _ H E .refl (.str _)⟩
def rJoin (K : PySem.W.Frag) : V → List V → Hp → VK → Prop := fun x xs H Q => ∃ a p, ∃ ys : List Str, x = .str a ∧ xs = [.ref p] ∧ (SqL K H p (ys.map V.str) ∨ SqT K H p (ys.map V.str)) ∧ (ys.map (·.length)).sum + ys.length * a.length ≤ 16777216 ∧ Q (.str (Txt.join a ys)) H
theorem pe_joinD {X : Cx} {o e : Expr} {apos pos : Pos} (ho : PE X o to) (he : PE X e te) (hs : starEach [e] X.env = [(false, eval e X.env)] := by rfl) (hbase : attributeBase o "join" X.env (eval o X.env) = eval o X.env := by rfl) (hline : (apos.endLine == pos.line) = true := by rfl) :
    PE X (.Call (.Attribute o "join" apos) [e] [] pos) (tM1 (rJoin X.K) to te) := pe_join ho he hs hbase hline
theorem wp_join (h : Wp to ρ fun k ρ1 => ∃ a, see ρ1 (soft k) = some (.str a) ∧ Wp te ρ1 fun k2 ρ2 => ∃ ys, see ρ2 (soft k2) = some (.lst (strz ys)) ∧ (ys.map (·.length)).sum + ys.length * a.length ≤ 16777216 ∧ Φ (.da (.str (Txt.join a ys))) ρ2) : Wp (tM1 (rJoin K) to te) ρ Φ := fun F n σ H E Q g =>
  h F n σ H E _ fun v H1 k ρ1 f1 E1 x1 r1 => by
    obtain ⟨a, s1, f1⟩ := f1
    have e1 := peekS E1 (r1.soft E) s1
    refine ⟨⟨a, e1⟩, f1 F n σ H1 E1 _ fun u H2 k2 ρ2 f2 E2 x2 r2 => ?_⟩
    obtain ⟨ys, s2, z, f⟩ := f2
    obtain ⟨p, vs, rfl, h1, h2⟩ := peekL E2 (r2.soft E1) s2
    rw [h2.strz] at h1
    exact ⟨a, p, ys, e1, rfl, .inl (.inl (.inl h1)), z, g _ H2 _ ρ2 f E2 (x1.trans x2) (.str _)⟩
/-- f"..": the parts one by one -/
def tJoined (ts : List TE) : TE := fun σ H Q => tJs ts Str.empty σ H fun out H1 => Q (.str out) H1
theorem pe_fs {X : Cx} {v1 v2 : Expr} {rest : List Expr} {ts : List TE} {pos : Pos} (h : PJ X (v1 :: v2 :: rest) ts) : PE X (.JoinedStr (v1 :: v2 :: rest) pos) (tJoined ts) := pe_joined h
def WpJ (ts : List TE) (acc : Str) (ρ : List Sl) (Φ : Rw → List Sl → Prop) : Prop := ∀ F n σ H, EnvOk F n ρ σ H → ∀ Q : Str → Hp → Prop, (∀ x H' ρ', Φ (.da (.str x)) ρ' → EnvOk F n ρ' σ H' → Ext n H H' → Q x H') → tJs ts acc σ H Q
theorem wj_nil {acc : Str} (q : Φ (.da (.str acc)) ρ) : WpJ [] acc ρ Φ := fun F n σ H E Q g => g acc H ρ q E .refl
theorem wj_cons {acc : Str} {ts : List TE} (h : Wp te ρ fun k ρ1 => ∃ y, see ρ1 (soft k) = some (.str y) ∧ (acc ++ y).length ≤ sizeLine ∧ WpJ ts (acc ++ y) ρ1 Φ) : WpJ (te :: ts) acc ρ Φ := fun F n σ H E Q g =>
  h F n σ H E _ fun v H1 k ρ1 f1 E1 x1 r1 => by
    obtain ⟨y, s, z, f⟩ := f1
    exact ⟨y, peekS E1 (r1.soft E) s, z, f F n σ H1 E1 Q fun x H2 ρ2 f2 E2 x2 => g x H2 ρ2 f2 E2 (x1.trans x2)⟩
theorem wp_joined {ts : List TE} (h : WpJ ts Str.empty ρ Φ) : Wp (tJoined ts) ρ Φ := fun F n σ H E Q g => h F n σ H E _ fun x H1 ρ1 f E1 x1 => g _ H1 _ ρ1 f E1 x1 (.str x)
theorem wp_fmtI (h : Wp te ρ fun k ρ1 => ∃ i, see ρ1 (soft k) = some (.int i) ∧ i.natAbs.log2 < 1920 ∧ Φ (.da (.str (toString i))) ρ1) : Wp (tFmt te) ρ Φ := fun F n σ H E Q g =>
  h F n σ H E _ fun v H1 k ρ1 f1 E1 x1 r1 => by
    obtain ⟨i, s, z, f⟩ := f1
    exact .inr ⟨i, peekI E1 (r1.soft E) s, z, g _ H1 _ ρ1 f E1 x1 (.str _)⟩
/-! isinstance of plain data -/
def kindD : Da → Option String
  | .bl _ => some "bool" | .int _ => some "int" | .str _ => some "str" | .lst _ => some "list" | .tup _ => some "tuple" | .non => some "NoneType" | _ => none
/-- the class of plain data, as the library asks it -/
theorem dn_ty {n : Ns} {H : Hp} {v : V} {s : String} (h : Dn n H v d) (hk : kindD d = some s) : TyX K H v (.type s) := by
  cases h with
  | non => cases hk; exact .base .non
  | bl b => cases hk; exact .base (.bl b)
  | int b => cases hk; exact .base (.int b)
  | str b => cases hk; exact .base (.str b)
  | lst a _ _ => cases hk; exact .base (.lst a)
  | tup a _ _ => cases hk; exact .base (.tup a)
  | ins _ _ _ => cases hk
  | scr _ => cases hk
  | ty _ => cases hk
  | cl _ => cases hk
  | exn _ _ _ _ _ => cases hk
  | dic _ _ _ => cases hk
theorem seen_ty {n : Ns} {H : Hp} {v : V} {s : String} (h : Seen n H v d) (hk : kindD d = some s) : TyX K H v (.type s) := by
  rcases h with h | ⟨l, o, rfl, e, h⟩
  · exact dn_ty h hk
  · cases o with
    | lst ds =>
      subst e
      cases hk
      obtain ⟨vs, e2, _⟩ := h
      exact .base (.lst e2)
    | ins C fs => subst e; cases hk
    | dic C fs => subst e; cases hk
    | nst l0 C fs => subst e; cases hk
theorem b_isi {T s : String} {b : Bool} (s1 : see ρ k1 = some d) (s2 : see ρ k2 = some (.ty T)) (hk : kindD d = some s) (hb : PySem.W.kitOne K (.type s) (.type T) = some b) : Cb (rIsi K) ρ [k1, k2] (.da (.bl b)) := fun F n σ H vs Q E r1 q => by
  obtain ⟨v, u, rfl, r, r'⟩ := rk2 r1
  have h2 := peekD E r' s2 (fun o e => by cases o <;> cases e)
  cases h2
  exact ⟨v, _, _, _, b, rfl, .ty T, seen_ty (peek E r s1) hk, hb, q _ H E .refl (.bl b)⟩
theorem wp_tyc {T : String} (q : Φ (.da (.ty T)) ρ) : Wp (tC (.ty T)) ρ Φ := fun F n σ H E Q g => g _ H _ ρ q E .refl (.ty T)
theorem b_all {bs : List Bool} (s : see ρ k = some (.lst (blz bs))) : Cb (rAll K) ρ [k] (.da (.bl (bs.all id))) := fun F n σ H vs Q E r1 q => by
  obtain ⟨v, rfl, r⟩ := rk1 r1
  obtain ⟨a, us, rfl, h1, h2⟩ := peekL E r s
  rw [h2.blz] at h1
  exact ⟨a, bs, rfl, .inl (.inl h1), q _ H E .refl (.bl _)⟩
theorem wp_rev (h : Wp te ρ fun k ρ1 => ∃ ds, see ρ1 (soft k) = some (.lst ds) ∧ Φ (.nw ds.reverse) ρ1) : Wp (tRevL K te) ρ Φ := fun F n σ H E Q g =>
  h F n σ H E _ fun v H1 k ρ1 f1 E1 x1 r1 => by
    obtain ⟨ds, s, f⟩ := f1
    obtain ⟨a, us, rfl, h1, h2⟩ := peekL E1 (r1.soft E) s
    exact ⟨a, us, rfl, .inl (.inl h1), mk_o E1 h2.rev fun v H' E' x' r' => g v H' _ ρ1 f E' (x1.trans x') (r'.pre E1 x1)⟩
/-! sorted, of numbers -/
def srt (ns : List Int) : List Int := ns.mergeSort fun a b => decide (a ≤ b)
theorem srt_perm (ns : List Int) : (srt ns).Perm ns := List.mergeSort_perm _ _
theorem srt_sorted (ns : List Int) : (srt ns).Pairwise (· ≤ ·) := by
  have h := List.pairwise_mergeSort (le := fun a b : Int => decide (a ≤ b)) (fun a b c h1 h2 => by simp at *; omega) (fun a b => by simp; omega) ns
  exact h.imp fun h => by simpa using h
theorem srt_uniq : ∀ {a b : List Int}, a.Perm b → a.Pairwise (· ≤ ·) → b.Pairwise (· ≤ ·) → a = b := fun {a b} p h1 h2 =>
  p.eq_of_pairwise (fun x y _ _ h3 h4 => by omega) h1 h2
theorem b_srtI {ns : List Int} (s : see ρ k = some (.lst (inz ns))) : Cb (rSortedI K) ρ [k] (.nw (inz (srt ns))) := fun F n σ H vs Q E r1 q => by
  obtain ⟨v, rfl, r⟩ := rk1 r1
  obtain ⟨a, us, rfl, h1, h2⟩ := peekL E r s
  rw [h2.inz] at h1
  refine ⟨a, ns, rfl, .inl (.inl h1), fun ns' p pm pw hp => ?_⟩
  have e : ns' = srt ns := srt_uniq (pm.trans (srt_perm ns).symm) pw (srt_sorted ns)
  rw [e]
  exact mk_o E (DnL.ofInts (srt ns)) q p hp
end
end Dd
namespace Dd
open PySem PySem.Spec PyProof.Rows L2
/-! ## pairs of whole numbers, sorted -/
def prz (ps : List (Int × Int)) : List Da := ps.map fun p => .tup [.int p.1, .int p.2]
def LexLe (a b : Int × Int) : Prop := a.1 < b.1 ∨ (a.1 = b.1 ∧ a.2 ≤ b.2)
instance (a b : Int × Int) : Decidable (LexLe a b) := by unfold LexLe; infer_instance
def srtP (ps : List (Int × Int)) : List (Int × Int) := ps.mergeSort fun a b => decide (LexLe a b)
theorem srtP_perm (ps : List (Int × Int)) : (srtP ps).Perm ps := List.mergeSort_perm _ _
theorem srtP_sorted (ps : List (Int × Int)) : (srtP ps).Pairwise LexLe := by
  have h := List.pairwise_mergeSort (le := fun a b : Int × Int => decide (LexLe a b)) (fun a b c h1 h2 => by
    simp only [decide_eq_true_eq] at *
    unfold LexLe at *
    omega) (fun a b => by
    simp only [Bool.or_eq_true, decide_eq_true_eq]
    unfold LexLe
    omega) ps
  exact h.imp fun h => by simpa using h
theorem srtP_uniq {a b : List (Int × Int)} (p : a.Perm b) (h1 : a.Pairwise LexLe) (h2 : b.Pairwise LexLe) : a = b :=
  p.eq_of_pairwise (fun x y _ _ h3 h4 => by
    unfold LexLe at h3 h4
    exact Prod.ext (by omega) (by omega)) h1 h2
/-- the pair that stands at a value -/
def keyAt (H : Hp) (v : V) : Int × Int := match v with
  | .ref t => match H t with
    | some (.tup [.int a, .int b]) => (a, b)
    | _ => (0, 0)
  | _ => (0, 0)
theorem prz_keys {n : Ns} {H : Hp} : ∀ {ps : List (Int × Int)} {us : List V}, DnL n H us (prz ps) → us.map (keyAt H) = ps ∧ ∀ x ∈ us, ∃ t, x = V.ref t ∧ H t = some (.tup [.int (keyAt H x).1, .int (keyAt H x).2]) ∧ ¬ n t
  | [], _, h => by cases h; exact ⟨rfl, fun x hx => by cases hx⟩
  | p :: ps, _, h => by
    cases h with
    | cons h1 h2 =>
      obtain ⟨e1, e2⟩ := prz_keys h2
      cases h1 with
      | @tup a vs _ ha hn hd =>
        cases hd with
        | cons d1 d2 =>
          cases d1
          cases d2 with
          | cons d3 d4 =>
            cases d3
            cases d4
            have hk : keyAt H (.ref a) = p := by
              unfold keyAt
              simp only [ha]
            refine ⟨by rw [List.map_cons, e1, hk], fun x hx => ?_⟩
            rcases List.mem_cons.mp hx with e | e
            · subst e
              exact ⟨a, rfl, by rw [hk]; exact ha, hn⟩
            · exact e2 x e
theorem dn_keys {n : Ns} {H : Hp} : ∀ {ys : List V}, (∀ x ∈ ys, ∃ t, x = V.ref t ∧ H t = some (.tup [.int (keyAt H x).1, .int (keyAt H x).2]) ∧ ¬ n t) → DnL n H ys (prz (ys.map (keyAt H)))
  | [], _ => .nil
  | y :: ys, h => by
    obtain ⟨t, e, h1, h2⟩ := h y List.mem_cons_self
    refine .cons ?_ (dn_keys fun x hx => h x (List.mem_cons_of_mem _ hx))
    rw [e]
    rw [e] at h1
    exact .tup h1 h2 (.cons (.int _) (.cons (.int _) .nil))
section
variable {K : PySem.W.Frag} {ρ : List Sl} {k : Rk}
theorem b_srtP {ps : List (Int × Int)} (s : see ρ k = some (.lst (prz ps))) : Cb (rSortedPO K) ρ [k] (.nw (prz (srtP ps))) := fun F n σ H vs Q E r1 q => by
  obtain ⟨v, rfl, r⟩ := rk1 r1
  obtain ⟨a, us, rfl, h1, h2⟩ := peekL E r s
  obtain ⟨e1, e2⟩ := prz_keys h2
  refine ⟨a, us, keyAt H, rfl, .inl (.inl h1), fun x hx => ?_, fun ys p hs hb hp => ?_⟩
  · obtain ⟨t, e, h3, _⟩ := e2 x hx
    exact ⟨t, e, h3⟩
  · have hm : ∀ x ∈ ys, x ∈ us := fun x hx => hb.perm.mem_iff.mp hx
    have e3 : ys.map (keyAt H) = srtP ps := by
      refine srtP_uniq ?_ ?_ (srtP_sorted ps)
      · have := hb.perm.map (keyAt H)
        rw [e1] at this
        exact this.trans (srtP_perm ps).symm
      · refine List.pairwise_map.mpr (hs.imp fun {x y} h => ?_)
        have h4 := SrtO.lexB_no.mp h
        unfold LexLe
        omega
    have h5 := dn_keys (n := n) (H := H) (ys := ys) fun x hx => e2 x (hm x hx)
    rw [e3] at h5
    exact mk_o E h5 q p hp
end
end Dd
namespace Dd
open PySem PySem.Spec PyProof.Rows L2
section
variable {X : Cx}
theorem pt_tru {a : Expr} {ta : TE} (ha : PE X a ta) (he : ∀ whole, isTrue a X.env whole = (do let v ← whole; standAt a.pos; holding [v] (truthy v))) : PT X a (tTruth X.K ta) := pt_truth ha he
theorem op_eqR {k : Nat} (hr : Room k X.A) : OpR X (compareOp .Eq) (rEqD X.K) := op_eqD hr.units
theorem op_neR {k : Nat} (hr : Room k X.A) : OpR X (compareOp .NotEq) (rNeD X.K) := op_neD hr.units
theorem room65 {k : Nat} {A : Around} (hr : Room k A) : A.units + 65 < cLine := by have := hr.un; omega
theorem op_inR {k : Nat} (hr : Room k X.A) : OpR X (compareOp .In) (rInD X.K) := op_inD (room65 hr)
theorem op_ninR {k : Nat} (hr : Room k X.A) : OpR X (compareOp .NotIn) (rNotInD X.K) := op_notInD (room65 hr)
def rLeU (K : PySem.W.Frag) : R2 := fun x y H Q => rI0 (fun i j => .bl (decide (i ≤ j))) x y H Q ∨ rLeT K x y H Q
theorem op_leR {k : Nat} (hr : Room k X.A) : OpR X (compareOp .LtE) (rLeU X.K) := OpR.or op_le (op_leT hr.units0)
theorem pe_lc1 (i : Nat) {elt tg iter : Expr} {ifs : List Expr} {scope : Scope} {pos : Pos} {wi : TI} {tt : TT} {te : TE}
    (hg : ∀ (s : Shared) (H : Hp) (C : Addr) (cl : List (Str × Addr)) (fp : List Addr), PG (X.blk s H scope (compEnvC scope cl C X.env) fp) tg (gName i)) (hc : X.calm = true) (hN : X.N.Nodup) (ok : blkC X.N X.env.scope scope [(X.N.getD i "", i)] = true) (hi : PI X tg iter wi)
    (ht : ∀ (s : Shared) (H : Hp) (C : Addr) (cl : List (Str × Addr)) (fp : List Addr), PTs (X.blk s H scope (compEnvC scope cl C X.env) fp) ifs tt)
    (he : ∀ (s : Shared) (H : Hp) (C : Addr) (cl : List (Str × Addr)) (fp : List Addr), PE (X.blk s H scope (compEnvC scope cl C X.env) fp) elt te) (hs : ∀ x, foldedSetIterable iter X.env x = pure x := by intro _; rfl) :
    PE X (.ListComp elt [⟨tg, iter, ifs, 0⟩] scope pos) (tLc wi (gName i) tt te [i]) := pe_lc (own := [(X.N.getD i "", i)]) hc hN hi (blkOk_by ok) hg ht he hs
theorem pe_lc2 (i : Nat) {elt tg iter : Expr} {ifs : List Expr} {scope : Scope} {pos : Pos} {wi : TI} {tt : TT} {te : TE}
    (hg : ∀ (s : Shared) (H : Hp) (C : Addr) (cl : List (Str × Addr)) (fp : List Addr), PG (X.blk s H scope (compEnvC scope cl C X.env) fp) tg (gTup X.K 2 (gCons (gName i) (gCons (gName (i + 1)) gNil)))) (hc : X.calm = true) (hN : X.N.Nodup)
    (ok : blkC X.N X.env.scope scope [(X.N.getD i "", i), (X.N.getD (i + 1) "", i + 1)] = true) (hi : PI X tg iter wi)
    (ht : ∀ (s : Shared) (H : Hp) (C : Addr) (cl : List (Str × Addr)) (fp : List Addr), PTs (X.blk s H scope (compEnvC scope cl C X.env) fp) ifs tt)
    (he : ∀ (s : Shared) (H : Hp) (C : Addr) (cl : List (Str × Addr)) (fp : List Addr), PE (X.blk s H scope (compEnvC scope cl C X.env) fp) elt te) (hs : ∀ x, foldedSetIterable iter X.env x = pure x := by intro _; rfl) :
    PE X (.ListComp elt [⟨tg, iter, ifs, 0⟩] scope pos) (tLc wi (gTup X.K 2 (gCons (gName i) (gCons (gName (i + 1)) gNil))) tt te [i, i + 1]) := pe_lc (own := [(X.N.getD i "", i), (X.N.getD (i + 1) "", i + 1)]) hc hN hi (blkOk_by ok) hg ht he hs
theorem ps_setLc1 (i : Nat) {j : Nat} {y : Str} {py spos : Pos} {elt tg iter : Expr} {ifs : List Expr} {scope : Scope} {pos : Pos} {wi : TI} {tt : TT} {te : TE}
    (hg : ∀ (s : Shared) (H : Hp) (C : Addr) (cl : List (Str × Addr)) (fp : List Addr), PG (X.blk s H scope (compEnvC scope cl C X.env) fp) tg (gName i)) (hc : X.calm = true) (hN : X.N.Nodup) (hy : X.N[j]? = some y) (hyl : X.env.scope.names.lookup y = some .local)
    (hk : X.env.scope.kind = .function) (hl : (py.line == pos.line) = true) (hw : (scope.names.any fun (n, k) => n == y && (k == .local || k == .cell)) = false) (ok : blkC X.N X.env.scope scope [(X.N.getD i "", i)] = true) (hi : PI X tg iter wi)
    (ht : ∀ (s : Shared) (H : Hp) (C : Addr) (cl : List (Str × Addr)) (fp : List Addr), PTs (X.blk s H scope (compEnvC scope cl C X.env) fp) ifs tt)
    (he : ∀ (s : Shared) (H : Hp) (C : Addr) (cl : List (Str × Addr)) (fp : List Addr), PE (X.blk s H scope (compEnvC scope cl C X.env) fp) elt te) (hs : ∀ x, foldedSetIterable iter X.env x = pure x := by intro _; rfl) :
    PS X (.Assign [.Name y py] (.ListComp elt [⟨tg, iter, ifs, 0⟩] scope pos) spos) (tAsg (tLc wi (gName i) tt te [i]) (gName j)) := ps_setLc (own := [(X.N.getD i "", i)]) hc hN hy hyl (sw_true hk hyl hl hw) hi (blkOk_by ok) hg ht he hs
/-- a def of the text that may be called by its name -/
structure Calb (P : Program) (w : World) (K : PySem.W.Frag) (mg : Str → Option Value) (base : Heap) (k : Nat) (x : Str) (sp : Sp) : Prop where
  ex : ∃ (f : Addr) (fd : FuncData) (ps : List Str), FnOk P w K mg base CX0 k f fd ps sp ∧ mg x = some (.ref f) ∧ PySem.W.keepIn K (.ref f) = true ∧ Binds K fd ps []
theorem pe_cal {j k : Nat} {x : Str} {sp : Sp} {p pos : Pos} {e : Expr} {es : List Expr} {t : TA} (c : Calb X.prog X.w X.K X.mg X.base k x sp) (hr : Room j X.A) (hk : k ≤ j) (hg : Gl X x) (ha : PA X (e :: es) t)
    (hdb : (x == ("__debug__" : Str)) = false := by decide) (he : starEach (e :: es) X.env = (false, eval e X.env) :: starEach es X.env := by rfl) (hpl : (backTo pos (starEach es X.env)).any (·.1) = false := by rfl) :
    PE X (.Call (.Name x p) (e :: es) [] pos) (tCall sp [] E0 t) := by
  obtain ⟨f, fd, ps, F, hm, kp, b⟩ := c.ex
  exact pe_call F (hr.mono hk) hg hm kp b .nil pass0 ha hdb he hpl
theorem pe_cal0 {j k : Nat} {x : Str} {sp : Sp} {p pos : Pos} (c : Calb X.prog X.w X.K X.mg X.base k x sp) (hr : Room j X.A) (hk : k ≤ j) (hg : Gl X x)
    (hdb : (x == ("__debug__" : Str)) = false := by decide) : PE X (.Call (.Name x p) [] [] pos) (tCall sp [] E0 tNil) := by
  obtain ⟨f, fd, ps, F, hm, kp, b⟩ := c.ex
  exact pe_call0 F (hr.mono hk) hg hm kp b .nil pass0 hdb
theorem at_ {α : Type} {l : List α} {x : α} (i : Nat) (h : l[i]? = some x) : l[i]? = some x := h
def rSortU (K : PySem.W.Frag) : List V → Hp → VK → Prop := fun vs H Q => rSortedI K vs H Q ∨ rSortedPO K vs H Q
theorem cr_sortU : CallR X (.builtin "sorted") (rSortU X.K) := by
  intro pins s σ H vs us Q I r h
  rcases h with h | h
  · exact cr_sortedI pins s σ H vs us Q I r h
  · exact cr_sortedPO pins s σ H vs us Q I r h
theorem b_srtU {K : PySem.W.Frag} {ρ : List Sl} {k : Rk} {ns : List Int} (s : see ρ k = some (.lst (inz ns))) : Cb (rSortU K) ρ [k] (.nw (inz (srt ns))) := fun F n σ H vs Q E r1 q => .inl (b_srtI (K := K) s F n σ H vs Q E r1 q)
theorem b_srtPU {K : PySem.W.Frag} {ρ : List Sl} {k : Rk} {ps : List (Int × Int)} (s : see ρ k = some (.lst (prz ps))) : Cb (rSortU K) ρ [k] (.nw (prz (srtP ps))) := fun F n σ H vs Q E r1 q => .inr (b_srtP (K := K) s F n σ H vs Q E r1 q)
end
def rEqU (K : PySem.W.Frag) : R2 := fun x y H Q => rEq x y H Q ∨ rEqD K x y H Q
def rNeU (K : PySem.W.Frag) : R2 := fun x y H Q => rNe x y H Q ∨ rNeD K x y H Q
section
variable {K : PySem.W.Frag} {ρ : List Sl} {k1 k2 : Rk} {i j : Int} {x y : Str} {a b : Bool} {d e : Da}
theorem oq_ii (s1 : see ρ k1 = some (.int i)) (s2 : see ρ k2 = some (.int j)) : Op (rEqU K) ρ k1 k2 (.da (.bl (decide (i = j)))) :=
  op0 (fun _ _ => .bl _) fun F n σ H2 x y Q E2 r1 r2 q => .inl (by rw [peekI E2 r1 s1, peekI E2 r2 s2]; exact ⟨rfl, by rw [show decide (V.int i = V.int j) = decide (i = j) by simp]; exact q⟩)
theorem on_ii (s1 : see ρ k1 = some (.int i)) (s2 : see ρ k2 = some (.int j)) : Op (rNeU K) ρ k1 k2 (.da (.bl (!decide (i = j)))) :=
  op0 (fun _ _ => .bl _) fun F n σ H2 x y Q E2 r1 r2 q => .inl (by rw [peekI E2 r1 s1, peekI E2 r2 s2]; exact ⟨rfl, by rw [show decide (V.int i = V.int j) = decide (i = j) by simp]; exact q⟩)
theorem oq_ss (s1 : see ρ k1 = some (.str x)) (s2 : see ρ k2 = some (.str y)) : Op (rEqU K) ρ k1 k2 (.da (.bl (decide (x = y)))) :=
  op0 (fun _ _ => .bl _) fun F n σ H2 u v Q E2 r1 r2 q => .inl (by rw [peekS E2 r1 s1, peekS E2 r2 s2]; exact ⟨rfl, by rw [show decide (V.str x = V.str y) = decide (x = y) by simp]; exact q⟩)
theorem on_ss (s1 : see ρ k1 = some (.str x)) (s2 : see ρ k2 = some (.str y)) : Op (rNeU K) ρ k1 k2 (.da (.bl (!decide (x = y)))) :=
  op0 (fun _ _ => .bl _) fun F n σ H2 u v Q E2 r1 r2 q => .inl (by rw [peekS E2 r1 s1, peekS E2 r2 s2]; exact ⟨rfl, by rw [show decide (V.str x = V.str y) = decide (x = y) by simp]; exact q⟩)
theorem oq_d (s1 : see ρ k1 = some d) (s2 : see ρ k2 = some e) (f1 : Fit d) (f2 : Fit e) : Op (rEqU K) ρ k1 k2 (.da (.bl (eqD d e))) := fun F n σ H x y Q E r1 r2 q => .inr (op_eq' (K := K) s1 s2 f1 f2 F n σ H x y Q E r1 r2 q)
theorem on_d (s1 : see ρ k1 = some d) (s2 : see ρ k2 = some e) (f1 : Fit d) (f2 : Fit e) : Op (rNeU K) ρ k1 k2 (.da (.bl (!eqD d e))) := fun F n σ H x y Q E r1 r2 q => .inr (op_ne' (K := K) s1 s2 f1 f2 F n σ H x y Q E r1 r2 q)
end
theorem ole_ii {K : PySem.W.Frag} {ρ : List Sl} {k1 k2 : Rk} {i j : Int} (s1 : see ρ k1 = some (.int i)) (s2 : see ρ k2 = some (.int j)) : Op (rLeU K) ρ k1 k2 (.da (.bl (decide (i ≤ j)))) :=
  op0 (fun _ _ => .bl _) fun F n σ H2 x y Q E2 r1 r2 q => .inl ⟨i, j, peekI E2 r1 s1, peekI E2 r2 s2, q⟩
/-! the same, the written part said by its name -/
def KIs (_ : PySem.W.Frag) : Prop := True
section
variable {X : Cx} {K : PySem.W.Frag}
theorem op_plusK (m : KIs K) (h : X.K = K) : OpR X (binaryOp .Add) (rPlus K) := h ▸ op_plus
theorem op_timesK (m : KIs K) (h : X.K = K) : OpR X (binaryOp .Mult) (rTimes K) := h ▸ op_times
theorem op_eqK (m : KIs K) (h : X.K = K) {k : Nat} (hr : Room k X.A) : OpR X (compareOp .Eq) (rEqU K) := h ▸ OpR.or op_eq (op_eqR hr)
theorem op_neK (m : KIs K) (h : X.K = K) {k : Nat} (hr : Room k X.A) : OpR X (compareOp .NotEq) (rNeU K) := h ▸ OpR.or op_ne (op_neR hr)
theorem op_inK (m : KIs K) (h : X.K = K) {k : Nat} (hr : Room k X.A) : OpR X (compareOp .In) (rInD K) := h ▸ op_inR hr
theorem op_ninK (m : KIs K) (h : X.K = K) {k : Nat} (hr : Room k X.A) : OpR X (compareOp .NotIn) (rNotInD K) := h ▸ op_ninR hr
theorem op_leK (m : KIs K) (h : X.K = K) {k : Nat} (hr : Room k X.A) : OpR X (compareOp .LtE) (rLeU K) := h ▸ op_leR hr
theorem ix_seqK (m : KIs K) (h : X.K = K) : IxR X (rIx K) := h ▸ ix_seq
theorem sl_anyK (m : KIs K) (h : X.K = K) : SlR X (rSlU K) := h ▸ sl_any
theorem cb_lenK (m : KIs K) (h : X.K = K) : CallR X (.builtin "len") (rLen K) := h ▸ cb_len
theorem cb_listK (m : KIs K) (h : X.K = K) : CallR X (.type "list") (rListOf K) := h ▸ cb_list
theorem cb_tupK (m : KIs K) (h : X.K = K) : CallR X (.type "tuple") (rTupOf K) := h ▸ cb_tup
theorem cr_sumK (m : KIs K) (h : X.K = K) (hc : X.calm = true) : CallR X (.builtin "sum") (rSum K) := h ▸ cr_sum hc
theorem cr_allK (m : KIs K) (h : X.K = K) (hc : X.calm = true) : CallR X (.builtin "all") (rAll K) := h ▸ cr_all hc
theorem cr_sortK (m : KIs K) (h : X.K = K) : CallR X (.builtin "sorted") (rSortU K) := h ▸ cr_sortU
theorem call_isiK' (m : KIs K) (h : X.K = K) : CallR X (.builtin "isinstance") (rIsi K) := h ▸ call_isi
theorem pe_revK (m : KIs K) (h : X.K = K) {e : Expr} {te : TE} {k : Nat} {p1 p2 p3 pos : Pos} (he : PE X e te) : PE X (.Subscript e (.Slice none none (some (.UnaryOp .USub (.Constant (.int 1) k p1) p2)) p3) pos) (tRevL K te) := h ▸ pe_revL he
theorem pe_joinK (m : KIs K) (h : X.K = K) {o e : Expr} {to te : TE} {apos pos : Pos} (ho : PE X o to) (he : PE X e te) (hs : starEach [e] X.env = [(false, eval e X.env)] := by rfl) (hbase : attributeBase o "join" X.env (eval o X.env) = eval o X.env := by rfl) (hline : (apos.endLine == pos.line) = true := by rfl) :
    PE X (.Call (.Attribute o "join" apos) [e] [] pos) (tM1 (rJoin K) to te) := h ▸ pe_joinD ho he hs hbase hline
theorem pi_seqK (m : KIs K) (h : X.K = K) {tg l : Expr} {tl : TE} (hl : PE X l tl) : PI X tg l (iSeq K tl) := h ▸ pi_seq hl
theorem pg_tupK (m : KIs K) (h : X.K = K) {es : List Expr} {k : Nat} {t : TGs} {n : Nat} {pos : Pos} (hc : X.calm = true) (h1 : PGs X es t) (hn : (assignEach es X.env).length = n := by rfl) (hst : (assignEach es X.env).findIdx? (·.1) = none := by rfl) : PG X (.Tuple es k pos) (gTup K n t) := h ▸ pg_tup hc h1 hn hst
theorem pt_truK (m : KIs K) (h : X.K = K) {a : Expr} {ta : TE} (ha : PE X a ta) (he : ∀ whole, isTrue a X.env whole = (do let v ← whole; standAt a.pos; holding [v] (truthy v))) : PT X a (tTruth K ta) := h ▸ pt_tru ha he
theorem pe_bmK (m : KIs K) (h : X.K = K) {e : Expr} {T : String} {r : V → List V → Hp → VK → Prop} {to : TE} {t : TA} (p : PE X e (tBM X.K T r to t)) : PE X e (tBM K T r to t) := by
  subst h
  exact p
theorem pe_bm0K (m : KIs K) (h : X.K = K) {e : Expr} {T : String} {r : V → List V → Hp → VK → Prop} {to : TE} (p : PE X e (tBM0 X.K T r to)) : PE X e (tBM0 K T r to) := by
  subst h
  exact p
theorem pe_lc2K (m : KIs K) (h : X.K = K) (i : Nat) {elt tg iter : Expr} {ifs : List Expr} {scope : Scope} {pos : Pos} {wi : TI} {tt : TT} {te : TE}
    (hg : ∀ (s : Shared) (H : Hp) (C : Addr) (cl : List (Str × Addr)) (fp : List Addr), PG (X.blk s H scope (compEnvC scope cl C X.env) fp) tg (gTup K 2 (gCons (gName i) (gCons (gName (i + 1)) gNil)))) (hc : X.calm = true) (hN : X.N.Nodup)
    (ok : blkC X.N X.env.scope scope [(X.N.getD i "", i), (X.N.getD (i + 1) "", i + 1)] = true) (hi : PI X tg iter wi)
    (ht : ∀ (s : Shared) (H : Hp) (C : Addr) (cl : List (Str × Addr)) (fp : List Addr), PTs (X.blk s H scope (compEnvC scope cl C X.env) fp) ifs tt)
    (he : ∀ (s : Shared) (H : Hp) (C : Addr) (cl : List (Str × Addr)) (fp : List Addr), PE (X.blk s H scope (compEnvC scope cl C X.env) fp) elt te) (hs : ∀ x, foldedSetIterable iter X.env x = pure x := by intro _; rfl) :
    PE X (.ListComp elt [⟨tg, iter, ifs, 0⟩] scope pos) (tLc wi (gTup K 2 (gCons (gName i) (gCons (gName (i + 1)) gNil))) tt te [i, i + 1]) := by
  subst h
  exact pe_lc2 i hg hc hN ok hi ht he hs
end
/-! ## terms by their shape -/

end Dd
namespace Dd
open PySem PySem.Spec PyProof.Rows L2
theorem le_line {n : Nat} (h : n ≤ 10000000) : n ≤ sizeLine := Nat.le_trans h (by decide)
theorem lt_line {n : Nat} (h : n ≤ 10000000) : n < sizeLine := Nat.lt_of_le_of_lt h (by decide)
theorem fit_int {i : Int} : Fit (.int i) := ⟨rfl, by rw [toPy]; rfl⟩
theorem fit_bl {i : Bool} : Fit (.bl i) := ⟨rfl, by rw [toPy]; rfl⟩
theorem fit_non : Fit .non := ⟨rfl, by rw [toPy]; rfl⟩
theorem fit_nil : Fit (.lst []) := ⟨rfl, by rw [toPy, toPys]; rfl⟩
theorem eqD_str {a b : Str} : eqD (.str a) (.str b) = (a == b) := by
  unfold eqD
  rw [toPy, toPy, PyData.eqv]
theorem eqD_int {i j : Int} : eqD (.int i) (.int j) = decide (i = j) := by
  unfold eqD
  rw [toPy, toPy, PyData.eqv]
  by_cases h : i = j <;> simp [h]
/-! ## steps -/
end Dd
namespace Dd
open PySem PySem.Spec PyProof.Rows L2
/-! ## objects: made, read, stored into -/
theorem DnF.look {n : Ns} {H : Hp} {f : Str} {d : Da} : ∀ {fs : List (Str × Da)} {vs : List (Str × V)}, DnF n H vs fs → fs.lookup f = some d → ∃ v, vs.lookup f = some v ∧ Dn n H v d
  | [], _, _, e => by cases e
  | (g, x) :: fs, _, h, e => by
    cases h with
    | cons h1 h2 =>
      rw [List.lookup_cons] at e ⊢
      split at e
      · rename_i hg
        cases e
        exact ⟨_, rfl, h1⟩
      · rename_i hg
        obtain ⟨v, e1, e2⟩ := DnF.look h2 e
        exact ⟨v, e1, e2⟩
theorem DnF.len {n : Ns} {H : Hp} : ∀ {fs : List (Str × Da)} {vs : List (Str × V)}, DnF n H vs fs → vs.length = fs.length
  | [], _, h => by cases h; rfl
  | _ :: _, _, h => by
    cases h with
    | cons _ h2 => simp [DnF.len h2]
section
variable {α : Type} {K : PySem.W.Frag} {F : Fx} {n : Ns} {ρ ρ' ρ0 ρ1 : List Sl} {te tl ta tv : TE} {tx tr : TA} {d e : Da} {k : Rk} {ks : List Rk} {ds es : List Da} {i j : Nat} {E : XK} {H : Hp} {σ : L2.St} {Φ : Rw → List Sl → Prop} {D : Ends} {C : Addr} {f : Str}
theorem wp_fld (h : Wp ta ρ fun k ρ1 => ∃ C fs d, see ρ1 (soft k) = some (.ins C fs) ∧ (Cls K C ∧ NoAttr K C f) ∧ fs.lookup f = some d ∧ Φ (.da d) ρ1) : Wp (tFld K ta f) ρ Φ := fun F n σ H E Q g =>
  h F n σ H E _ fun v H1 k ρ1 fc E1 x1 r1 => by
    obtain ⟨C, fs, d, s, c, l, q⟩ := fc
    obtain ⟨a, dx, vs, rfl, h1, h2⟩ := peekN E1 (r1.soft E) s
    obtain ⟨u, e1, e2⟩ := h2.look l
    exact ⟨a, C, dx, vs, u, rfl, h1, c.1, c.2, e1, g _ _ _ _ q E1 x1 e2⟩
theorem wp_make {enc : α → List Da} {pre : Ob → α → Prop} {post : Ob → α → Ob → Da → Prop} (hp : ∀ x o' r, post (.ins C []) x o' r → r = .non ∧ ∃ fs, o' = .ins C fs)
    (h : WpA tx ρ fun ks ρ1 => ∃ x, AllDa ks (enc x) ∧ pre (.ins C []) x ∧ ∀ fs, post (.ins C []) x (.ins C fs) .non → Φ (.da (.ins C fs)) ρ1) : Wp (tMake C (SpG (fun _ => []) enc pre post) [] E tx) ρ Φ := fun F n σ H E0 Q g =>
  h F n σ H E0 _ fun vs H1 ks ρ1 fc E1 x1 r1 => by
    obtain ⟨x, hs, hpre, q⟩ := fc
    rintro p dx hp0 hd0 hne
    have gr : Grow H1 (upd (upd H1 dx (.own p)) p (.ins C dx [])) := Grow.trans (.upd hd0) (.upd (by rw [upd_ne (fun z => hne z.symm)]; exact hp0))
    have hpH : (upd (upd H1 dx (.own p)) p (.ins C dx [])) p = some (.ins C dx []) := by simp [upd]
    have ds1 : DnL (addO n p) (upd (upd H1 dx (.own p)) p (.ins C dx [])) vs (enc x) := DnL.ext (gr.ext) _ _ (DnL.re (n' := addO n p) (fun a o e z w => w.elim z fun w => by rw [w, hp0] at e; cases e) _ _ (hs.rel r1))
    rw [List.append_nil]
    refine ⟨addO n p, p, [], vs, .ins C [], x, rfl, ⟨fun a ha => by rw [ha.no rfl]; exact .inr rfl, Nd.no rfl⟩, fun a ha => ?_, ⟨dx, [], hpH, .nil⟩, .nil, ds1, hpre, fun v H' o' r hr y h3 => ?_⟩
    · rcases ha with ha | ha
      · intro z
        cases e : H1 a with
        | none => exact E1.al a ha e
        | some o => rw [gr a o e] at z; cases z
      · rw [ha, hpH]
        intro z
        cases z
    · obtain ⟨rfl, fs, rfl⟩ := hp _ _ _ hr
      cases h3
      have gr2 : Grow H1 H' := fun a u e => y.fr a u (gr a u e) fun z => ne_of_none e hp0 (z.no rfl)
      refine ⟨rfl, g _ H' (.da (.ins C fs)) _ (q fs hr) (E1.grow gr2) (x1.trans gr2.ext) ?_⟩
      exact y.ok.dn (m := n) (fun a z => .inl z) (E1.not hp0)
/-- .. a field put in -/
def putD (f : Str) (d : Da) : List (Str × Da) → List (Str × Da)
  | [] => [(f, d)]
  | p :: r => if p.1 = f then (p.1, d) :: r else p :: putD f d r
theorem DnF.put {v : V} (hv : Dn n H v d) : ∀ {fs : List (Str × Da)} {vs : List (Str × V)}, DnF n H vs fs → DnF n H (putF f v vs) (putD f d fs)
  | [], _, h => by
    cases h
    exact .cons hv .nil
  | (g, x) :: fs, _, h => by
    cases h with
    | cons h1 h2 =>
      unfold putF putD
      by_cases hg : g = f
      · rw [if_pos hg, if_pos hg]
        exact .cons hv h2
      · rw [if_neg hg, if_neg hg]
        exact .cons h1 (DnF.put hv h2)
theorem nx_fld (h : Wp tv ρ fun k ρ1 => ∃ d b C fs, soft k = .da d ∧ ρ1[i]? = some (.own b (.ins C fs)) ∧ (Cls K C ∧ NoAttr K C f) ∧ fs.length < 1000 ∧ Nx F (ρ1.set i (.own b (.ins C (putD f d fs)))) D.nx) : Nx F ρ (sFld K (tVar i) tv f D) := fun n σ H E =>
  h F n σ H E _ fun v H1 k ρ1 fc E1 x1 r1 => by
    obtain ⟨d, b, C, fs, hk, s, c, hl, q⟩ := fc
    have r := r1.soft E
    rw [hk] at r
    have hv : Dn n H1 v d := r
    obtain ⟨l, e1, ⟨dx, vs, e2, e3⟩, e4⟩ := own_ob E1 s
    refine ⟨.ref l, e1, l, C, dx, vs, rfl, e2, c.1, c.2, by rw [e3.len]; exact hl, ?_⟩
    have xt : Ext n H1 (upd H1 l (.ins C dx (putF f v vs))) := ext_mut e4
    exact q n σ _ (E1.mut s e1 ⟨dx, putF f v vs, by simp [upd], DnF.extA xt.keep _ _ (e3.put hv)⟩)
/-! targets that change what a slot owns -/
def TgX (g : TG) (ρ : List Sl) (d : Da) (ρ' : List Sl) : Prop := ∀ F n σ H v, EnvOk F n ρ σ H → Dn n H v d → ∀ Q : L2.St → Hp → Prop, (∀ σ' H', EnvOk F n ρ' σ' H' → Ext n H H' → Q σ' H') → g v σ H Q
def TgsX (g : TGs) (ρ : List Sl) (ds : List Da) (ρ' : List Sl) : Prop := ∀ F n σ H vs, EnvOk F n ρ σ H → DnL n H vs ds → ∀ Q : L2.St → Hp → Prop, (∀ σ' H', EnvOk F n ρ' σ' H' → Ext n H H' → Q σ' H') → g vs σ H Q
theorem tgx_of {g : TG} (h : Tg g ρ d ρ') : TgX g ρ d ρ' := fun F n σ H v E hd Q q => h F n σ H v E hd Q fun σ' E' => q σ' H E' .refl
theorem tgx_nil : TgsX gNil ρ [] ρ := fun F n σ H vs E h Q q => by cases h; exact ⟨rfl, q _ _ E .refl⟩
theorem tgx_cons {g : TG} {gs : TGs} {ρ2 : List Sl} (h : TgX g ρ d ρ1) (h2 : TgsX gs ρ1 ds ρ2) : TgsX (gCons g gs) ρ (d :: ds) ρ2 := fun F n σ H vs E hd Q q => by
  cases hd with
  | cons a b => exact ⟨_, _, rfl, h F n σ H _ E a _ fun σ' H' E' x => h2 F n σ' H' _ E' (DnL.ext x _ _ b) Q fun σ2 H2 E2 x2 => q σ2 H2 E2 (x.trans x2)⟩
theorem tgx_tup {gs : TGs} {m : Nat} (h : TgsX gs ρ ds ρ1) (hm : ds.length = m) : TgX (gTup K m gs) ρ (.tup ds) ρ1 := fun F n σ H v E hd Q q => by
  cases hd with
  | tup a b c => exact ⟨_, _, rfl, .inl (.inl a), by rw [c.length]; exact hm, h F n σ H _ E c Q q⟩
theorem tgx_sub {tb : TE} {b : Bool} {a : Int} {m : Nat} (s : ρ[i]? = some (.own b (.lst es))) (hb : Wp tb ρ fun k2 ρ3 => ρ3 = ρ ∧ see ρ (soft k2) = some (.int a)) (hm : ixN es.length a = some m) : TgX (gSub (tVar i) tb rSetL) ρ d (ρ.set i (.own b (.lst (es.set m d)))) := fun F n σ H v E hd Q q => by
  obtain ⟨l, vs, h1, h2, h3, h4⟩ := own_at E s
  refine ⟨_, h1, hb F n σ H E _ fun u H2 k2 ρ3 f2 E2 x2 r2 => ?_⟩
  obtain ⟨rfl, s1⟩ := f2
  obtain ⟨l', ws, g1, g2, g3, g4⟩ := own_at E2 s
  rw [h1] at g1
  cases g1
  rw [peekI E2 (r2.soft E) s1]
  exact ⟨l, ws, a, m, rfl, rfl, g2, by rw [g3.length]; exact hm, q σ _ (mutL E2 s h1 g2 (g3.set m (Dn.ext x2 _ _ hd))) (x2.trans (ext_mut h4))⟩
theorem nx_asgX {g : TG} (h : Wp te ρ fun k ρ1 => ∃ d ρ2, soft k = .da d ∧ TgX g ρ1 d ρ2 ∧ Nx F ρ2 D.nx) : Nx F ρ (tAsg te g D) := fun n σ H E => h F n σ H E _ fun v H1 k ρ1 f E1 x1 r1 => by
  obtain ⟨d, ρ2, hk, hg, q⟩ := f
  have r1 := r1.soft E
  rw [hk] at r1
  exact hg F n σ H1 v E1 r1 _ fun σ' H' E' x => q n σ' H' E'
theorem nx_asgXs {K : PySem.W.Frag} {m : Nat} {ta tb : TE} {r : TSet} {gs : TGs} (h : Wp te ρ fun k ρ1 => ∃ d ρ2, soft k = .da d ∧ TgX (gTup K m (gCons (gSub ta tb r) gs)) ρ1 d ρ2 ∧ Nx F ρ2 D.nx) : Nx F ρ (tAsg te (gTup K m (gCons (gSub ta tb r) gs)) D) := nx_asgX h
end
section
variable {X : Cx} {K : PySem.W.Frag}
/-- a class of the text whose objects are made by its name -/
structure Makb (P : Program) (w : World) (K : PySem.W.Frag) (mg : Str → Option Value) (base : Heap) (k : Nat) (x : Str) (C : Addr) (sp : Sp) : Prop where
  ex : ∃ (f : Addr) (fd : FuncData) (ps : List Str), Mk K C f ∧ FnOk P w K mg base CX0 k f fd ps sp ∧ mg x = some (.ref C) ∧ Binds K fd ps []
theorem pe_mkb {j k : Nat} {x : Str} {C : Addr} {sp : Sp} {p pos : Pos} {e : Expr} {es : List Expr} {t : TA} (c : Makb X.prog X.w X.K X.mg X.base k x C sp) (hr : Room j X.A) (hk : k + 1 ≤ j) (hg : Gl X x) (ha : PA X (e :: es) t)
    (hdb : (x == ("__debug__" : Str)) = false := by decide) (he : starEach (e :: es) X.env = (false, eval e X.env) :: starEach es X.env := by rfl) (hpl : (backTo pos (starEach es X.env)).any (·.1) = false := by rfl) :
    PE X (.Call (.Name x p) (e :: es) [] pos) (tMake C sp [] E0 t) := by
  obtain ⟨f, fd, ps, M, F, hm, b⟩ := c.ex
  exact pe_make M F (hr.mono hk) hg hm b .nil pass0 ha hdb he hpl
theorem pe_fldK (m : KIs K) (h : X.K = K) {e : Expr} {ta : TE} {f : Str} {pos : Pos} (he : PE X e ta) (hb : attributeBase e f X.env (eval e X.env) = eval e X.env := by rfl) : PE X (.Attribute e f pos) (tFld K ta f) := h ▸ pe_fld he hb
theorem ps_fldK (m : KIs K) (h : X.K = K) {o value : Expr} {ta tv : TE} {f : Str} {pos pos' : Pos} (ha : PE X o ta) (hv : PE X value tv) (hs : swapsWith value (some (.Attribute o f pos')) pos.line X.env = pure false := by rfl) : PS X (.Assign [.Attribute o f pos'] value pos) (sFld K ta tv f) := h ▸ ps_fld ha hv hs
end

end Dd
namespace Dd
open PySem PySem.Spec PyProof.Rows L2
/-! ## equality of pairs and of lists of pairs -/
theorem eqv_pr (a b : Int × Int) : PyData.eqv (.tuple [.int a.1, .int a.2]) (.tuple [.int b.1, .int b.2]) = decide (a = b) := by
  obtain ⟨a1, a2⟩ := a
  obtain ⟨b1, b2⟩ := b
  rw [PyData.eqv, PyData.eqvAll, PyData.eqvAll, PyData.eqvAll, PyData.eqv, PyData.eqv]
  by_cases h : a1 = b1 <;> by_cases h2 : a2 = b2 <;> simp [h, h2]
theorem toPy_pr (a : Int × Int) : toPy (.tup [.int a.1, .int a.2]) = .tuple [.int a.1, .int a.2] := by
  rw [toPy, toPys, toPys, toPys, toPy, toPy]
theorem eqD_pr (a b : Int × Int) : eqD (.tup [.int a.1, .int a.2]) (.tup [.int b.1, .int b.2]) = decide (a = b) := by
  unfold eqD
  rw [toPy_pr, toPy_pr, eqv_pr]
theorem toPys_prz : ∀ ps : List (Int × Int), toPys (prz ps) = ps.map fun p => .tuple [.int p.1, .int p.2]
  | [] => by rw [prz, List.map_nil, toPys]; rfl
  | p :: ps => by
    have h := toPys_prz ps
    unfold prz at h ⊢
    rw [List.map_cons, toPys, toPy_pr, h]
    rfl
theorem eqv_prs : ∀ as bs : List (Int × Int), PyData.eqvAll (as.map fun p => .tuple [.int p.1, .int p.2]) (bs.map fun p => .tuple [.int p.1, .int p.2]) = decide (as = bs)
  | [], [] => by rw [List.map_nil, PyData.eqvAll]; simp
  | [], b :: bs => by rw [List.map_nil, List.map_cons, PyData.eqvAll]; simp
  | a :: as, [] => by rw [List.map_nil, List.map_cons, PyData.eqvAll]; simp
  | a :: as, b :: bs => by
    rw [List.map_cons, List.map_cons, PyData.eqvAll, eqv_pr, eqv_prs as bs]
    by_cases h : a = b <;> by_cases h2 : as = bs <;> simp [h, h2]
theorem eqD_prz (as bs : List (Int × Int)) : eqD (.lst (prz as)) (.lst (prz bs)) = decide (as = bs) := by
  unfold eqD
  rw [toPy, toPy, toPys_prz, toPys_prz, PyData.eqv, eqv_prs]
theorem eqv_inz : ∀ as bs : List Int, PyData.eqvAll (as.map .int) (bs.map .int) = decide (as = bs)
  | [], [] => by rw [List.map_nil, PyData.eqvAll]; simp
  | [], b :: bs => by rw [List.map_nil, List.map_cons, PyData.eqvAll]; simp
  | a :: as, [] => by rw [List.map_nil, List.map_cons, PyData.eqvAll]; simp
  | a :: as, b :: bs => by
    rw [List.map_cons, List.map_cons, PyData.eqvAll, PyData.eqv, eqv_inz as bs]
    by_cases h : a = b <;> by_cases h2 : as = bs <;> simp [h, h2]
theorem toPys_inz : ∀ ps : List Int, toPys (inz ps) = ps.map .int
  | [] => by rw [inz, List.map_nil, toPys]; rfl
  | p :: ps => by
    have h := toPys_inz ps
    unfold inz at h ⊢
    rw [List.map_cons, toPys, toPy, h]
    rfl
theorem eqD_inzL (as bs : List Int) : eqD (.lst (inz as)) (.lst (inz bs)) = decide (as = bs) := by
  unfold eqD
  rw [toPy, toPy, toPys_inz, toPys_inz, PyData.eqv, eqv_inz]
theorem eqD_inzT (as bs : List Int) : eqD (.tup (inz as)) (.tup (inz bs)) = decide (as = bs) := by
  unfold eqD
  rw [toPy, toPy, toPys_inz, toPys_inz, PyData.eqv, eqv_inz]
theorem plains_map {α : Type} (f : α → Da) (h : ∀ x, plain (f x) = true) : ∀ xs : List α, plains (xs.map f) = true
  | [] => rfl
  | x :: xs => by rw [List.map_cons, plains, h, plains_map f h xs]; rfl
theorem pr_fit (p : Int × Int) : Fit (.tup [.int p.1, .int p.2]) := ⟨rfl, by rw [toPy_pr]; rfl⟩
theorem lay_prz : ∀ ps : List (Int × Int), PyData.canLayAll0 (ps.map fun p => PyData.tuple [.int p.1, .int p.2]) = true ∧ PyData.depthAll (ps.map fun p => PyData.tuple [.int p.1, .int p.2]) ≤ 1
  | [] => ⟨rfl, Nat.zero_le _⟩
  | p :: ps => by
    obtain ⟨h1, h2⟩ := lay_prz ps
    rw [List.map_cons, PyData.canLayAll0, PyData.depthAll, h1]
    refine ⟨rfl, Nat.max_le.mpr ⟨Nat.le_refl _, h2⟩⟩
theorem prz_fit (ps : List (Int × Int)) : Fit (.lst (prz ps)) := ⟨by rw [plain]; exact plains_map _ (fun _ => rfl) ps, by
  obtain ⟨h1, h2⟩ := lay_prz ps
  rw [toPy, toPys_prz]
  unfold SeqAt.shaped
  rw [PyData.canLay0, PyData.depth, h1]
  simp
  omega⟩
theorem lay_inz : ∀ ps : List Int, PyData.canLayAll0 (ps.map .int) = true ∧ PyData.depthAll (ps.map .int) ≤ 0
  | [] => ⟨rfl, Nat.zero_le _⟩
  | p :: ps => by
    obtain ⟨h1, h2⟩ := lay_inz ps
    rw [List.map_cons, PyData.canLayAll0, PyData.depthAll, h1]
    refine ⟨rfl, Nat.max_le.mpr ⟨Nat.le_refl _, h2⟩⟩
theorem inz_fitL (ps : List Int) : Fit (.lst (inz ps)) := ⟨by rw [plain]; exact plains_map _ (fun _ => rfl) ps, by
  obtain ⟨h1, h2⟩ := lay_inz ps
  rw [toPy, toPys_inz]
  unfold SeqAt.shaped
  rw [PyData.canLay0, PyData.depth, h1]
  simp
  omega⟩
theorem inz_fitT (ps : List Int) : Fit (.tup (inz ps)) := ⟨by rw [plain]; exact plains_map _ (fun _ => rfl) ps, by
  obtain ⟨h1, h2⟩ := lay_inz ps
  rw [toPy, toPys_inz]
  unfold SeqAt.shaped
  rw [PyData.canLay0, PyData.depth, h1]
  simp
  omega⟩
section
variable {K : PySem.W.Frag} {F : Fx} {ρ ρ' ρ0 ρ1 ρ2 ρ3 : List Sl} {te tl ta tb tc : TE} {tt tu : TT} {tx tr : TA} {d e : Da} {k k1 k2 : Rk} {ks : List Rk} {ds es : List Da} {i j : Nat} {g : TG} {vs : List Nat}
variable {Φ Ψ : Rw → List Sl → Prop} {ΦB : Bool → List Sl → Prop}
/-- a comprehension over a tuple -/
theorem wp_lcT (hl : Wp tl ρ fun k ρ0 => ∃ ds, soft k = .da (.tup ds) ∧ LcK g tt te vs Φ ds ρ0) : Wp (tLc (iSeq K tl) g tt te vs) ρ Φ := fun F n σ H E Q q => .inr (hl F n σ H E _ fun v H1 k ρ0 f E1 x1 r1 => by
  have r1 := r1.soft E
  obtain ⟨ds, hk, Z, h0, hz, hs, hd⟩ := f
  rw [hk] at r1
  cases r1 with
  | @tup a us _ ha hna hds =>
    refine ⟨a, rfl, ⟨us, .inl (.inl ha)⟩, fun Dl hD => ?_⟩
    have gg := Grow.upd (o := .lst []) hD
    have ho : ¬ n.ow Dl := fun z => E1.al Dl (n.le _ z) hD
    have G0 := E1.h0 hD
    have start : InC (F.w a (.tup us) us ds) n σ vs H1 Dl (fun acc ρ' => 0 ≤ ds.length ∧ Z 0 acc ρ') (upd H1 Dl (.lst [])) := by
      refine ⟨[], ρ0, [], ⟨Nat.zero_le _, h0⟩, ?_, upd_same, .nil, gg.ext, by rw [E1.len]⟩
      exact ((E1.wrap ha hna hds).more hD gg (by rw [upd_same]; simp)).wipe vs
    refine lc_tup (xs := us) (Qd := Q (.ref Dl)) (fun m H' => InC (F.w a (.tup us) us ds) n σ vs H1 Dl (fun acc ρ' => m ≤ ds.length ∧ Z m acc ρ') H') start (fun m H' _ p => ?_) ?_ ?_
    · obtain ⟨acc, ρ', ws, z, E', _⟩ := p.ex
      exact .inl (.inl (E'.gh _ List.mem_cons_self).1)
    · intro m x H' hx p
      obtain ⟨d, e1, _⟩ := hds.getV m x hx
      have hlt : m < ds.length := (List.getElem?_eq_some_iff.mp e1).1
      have hv : ∀ ρ', EnvOk (F.w a (.tup us) us ds) (add n Dl) ρ' (L2.wipe σ vs) H' → Dn (add n Dl) H' x d := fun ρ' E' => by
        obtain ⟨d', e1', e2'⟩ := (E'.gh _ List.mem_cons_self).2.2.getV m x hx
        have : d' = d := by
          have e3 : ds[m]? = some d' := e1'
          rw [e1] at e3
          exact (Option.some.inj e3).symm
        rw [← this]
        exact e2'
      refine inC_turn (F := F.w a (.tup us) us ds) (Z1 := fun acc ρ' => m + 1 ≤ ds.length ∧ Z (m + 1) acc ρ') hD ho G0 p hv (fun acc ρ' z => hz m acc ρ' z.1 z.2) (fun acc ρ' z => ?_)
      obtain ⟨ρ1, t1, t2⟩ := hs m d acc ρ' e1 z.2
      exact ⟨ρ1, t1, t2.imp fun b ρ2 ⟨t3, t4⟩ => ⟨fun hb => (t3 hb).imp fun k ρ3 ⟨e, t5, t6⟩ => ⟨e, t5, hlt, t6⟩, fun hb => ⟨hlt, t4 hb⟩⟩⟩
    · intro H' p
      rw [hds.length] at p
      refine lc_end (F := F) (vs := vs) (Φ := Φ) x1 E1 hD (Z := fun acc ρ' => ds.length ≤ ds.length ∧ Z ds.length acc ρ') ?_ (fun acc ρ' z => hd acc ρ' z.2) q
      obtain ⟨acc, ρ', ws, z, E', e1, e2, x, len⟩ := p.ex
      exact ⟨acc, ρ', ws, z, E'.unwrap, e1, e2, x, len⟩)
end
end Dd
namespace Dd
open PySem PySem.Spec PyProof.Rows L2
/-! ## the text of data -/
def rRepr (K : PySem.W.Frag) : List V → Hp → VK → Prop := fun xs H Q => ∃ v d, xs = [v] ∧ Dp K H v d ∧ (d.showable = true ∧ d.hasDict = false ∧ d.depth ≤ 60 ∧ d.shown.length ≤ sizeLine) ∧ Q (.str d.shown) H
theorem call_reprD {X : Cx} (hg : X.A.guards = some []) {k : Nat} (hr : Room k X.A) : CallR X (.builtin "repr") (rRepr X.K) := by
  intro pins s σ H xs us Q I r h
  obtain ⟨v, d, rfl, hd, ⟨h1, h2, h3, h4⟩, q⟩ := h
  obtain ⟨u, rfl, hu⟩ := vals1 r
  have hun := hr.un
  cases hd with
  | non => cases hu; exact PySem.P.repr_of_none ⟨.str _, H, I.tok _, ⟨_, by rw [PyData.shown]⟩, q⟩
  | bl b => cases hu; exact PySem.P.repr_of_bool ⟨.str _, H, I.tok _, ⟨_, by rw [PyData.shown]⟩, q⟩
  | int i =>
    obtain ⟨t, rfl⟩ := hu
    refine PySem.P.repr_of_int ?_ ⟨.str _, H, I.tok _, ⟨_, by rw [PyData.shown]⟩, q⟩
    rw [PyData.showable] at h1
    exact of_decide_eq_true h1
  | str x =>
    obtain ⟨t, rfl⟩ := hu
    rw [PyData.shown] at h4 q
    exact PySem.P.repr_of_str ⟨.str _, H, I.tok _, ⟨_, rfl⟩, q⟩ h4
  | @lst a vs ds hs ha =>
    obtain ⟨as, rr⟩ := Dp.reads I (.list ds) (.ref a) u (.lst hs ha) hu
    cases hu
    exact repr_of_reads' rr h1 (PyData.noDict_hsm h2) hg (by omega) (fun _ _ e => e) (fun h' t tk hk => ⟨.str _, H, I.kept hk, ⟨_, rfl⟩, q⟩) h4
  | @tup a vs ds hs ha =>
    obtain ⟨as, rr⟩ := Dp.reads I (.tuple ds) (.ref a) u (.tup hs ha) hu
    cases hu
    exact repr_of_reads' rr h1 (PyData.noDict_hsm h2) hg (by omega) (fun _ _ e => e) (fun h' t tk hk => ⟨.str _, H, I.kept hk, ⟨_, rfl⟩, q⟩) h4
theorem call_reprK {X : Cx} {K : PySem.W.Frag} (m : KIs K) (h : X.K = K) (hg : X.A.guards = some []) {k : Nat} (hr : Room k X.A) : CallR X (.builtin "repr") (rRepr K) := h ▸ call_reprD hg hr
/-- data that may be written out -/
structure Shw (d : Da) : Prop where
  pl : plain d = true
  sh : (toPy d).showable = true
  nd : (toPy d).hasDict = false
  dp : (toPy d).depth ≤ 60
  ln : (toPy d).shown.length ≤ sizeLine
def txtD (d : Da) : Str := (toPy d).shown
theorem b_repr {K : PySem.W.Frag} {ρ : List Sl} {k : Rk} {d : Da} (s : see ρ k = some d) (z : Shw d) : Cb (rRepr K) ρ [k] (.da (.str (txtD d))) := fun F n σ H vs Q E r1 q => by
  obtain ⟨v, rfl, r⟩ := rk1 r1
  exact ⟨v, _, rfl, peekE E r s z.pl, ⟨z.sh, z.nd, z.dp, z.ln⟩, q _ H E .refl (.str _)⟩

/-! ## defs that ask for the text of data: nothing is being written out around them -/
structure FnG (P : Program) (w : World) (K : PySem.W.Frag) (mg : Str → Option Value) (base : Heap) (k : Nat) (f : Addr) (fd : FuncData) (ps : List Str) (sp : Sp) : Prop where
  len : ∀ vs H Q E, sp vs H Q E → vs.length = ps.length
  run : ∀ (A : Around) (fr : List Env) (s : Shared) (H : Hp) (as : Args) (us : List Value) (vs : List V) (Q : VK) (E : XK), A.guards = some [] → Room k A → Env0 P w K mg base A fr s H → BindsTo s fd as (ps.zip us) → Vals vs us → sp vs H Q E →
    codeAny (model P w) A (.call (.ref f) as) (CR CX0 fr P w H s Q E) s
theorem FnG.of {P : Program} {w : World} {K : PySem.W.Frag} {mg : Str → Option Value} {base : Heap} {k : Nat} {f : Addr} {fd : FuncData} {ps : List Str} {sp : Sp} (F : FnOk P w K mg base CX0 k f fd ps sp) : FnG P w K mg base k f fd ps sp :=
  ⟨F.len, fun A fr s H as us vs Q E _ => F.run A fr s H as us vs Q E⟩
section
variable {P : Program} {w : World} {K : PySem.W.Frag} {mg : Str → Option Value} {base : Heap}
theorem okG {x qual : Str} {st : Stmt} {f : Addr} {fd : FuncData} {N ps : List Str} {k : Nat} {sp : Sp} (F : Fun K x qual st f fd) (S : FnScope N ps (defScope st)) (hlen : ∀ vs H Q E, sp vs H Q E → vs.length = ps.length)
    (body : ∀ (cdv : Value) (A : Around) (fr : List Env) (s : Shared) (H : Hp) (vs : List V) (Q : VK) (E : XK), A.guards = some [] → Room k (A.deeper (envOfC qual (defScope st) s.heap.objs.size f cdv)) → sp vs H Q E →
      ∃ t, PSs (cxOf CX0 P w K mg base N qual (defScope st) f cdv A fr s H E).nox (defBody st) t ∧ t { nx := fun _ H' => Q .non H', rt := Q } (L2.start N vs) H) : FnG P w K mg base (k + 1) f fd ps sp := by
  obtain ⟨oc, od, kV, doc, pm, an, cdv, ct, osl, rfl, lk, hcd⟩ := F.ex
  refine ⟨hlen, fun A fr s H as us vs Q E hg hr e0 hb r hsp => ?_⟩
  have lenV := hlen _ _ _ _ hsp
  have kIn : K.In s.heap := e0.mod.kin.keeps fun a u z => (e0.bs a u z).1
  have noLim : s.heap.NoLimit := e0.mod.nolimit.keeps fun a u z => (e0.bs a u z).1
  have kinds : ∀ y ∈ ps.zip us, (defScope st).names.lookup y.1 = some .local ∨ ((defScope st).names.lookup y.1 = some .cell ∧ ((cellsFrom (s.heap.objs.size + 1) (defScope st).names []).lookup y.1).isSome = true) := by
    rintro ⟨p, u⟩ hy
    cases S.par p (List.of_mem_zip hy).1 with
    | inl z => exact .inl z
    | inr z => exact .inr ⟨z, PySem.W.cellsFrom_some _ _ _ (.inl z)⟩
  refine codeAny_call_function hr.depth (kIn _ _ lk) rfl S.co S.gen rfl (PySem.W.codeRec_of kIn hcd) (hb _ _ _ _ ?_)
  refine wpAny_newFunctionEnv_cells S.kind kinds fun env he s1 ic => ?_
  subst he
  refine ⟨noLim.keeps ic.toInCall.keep, codeAny_func ?_⟩
  obtain ⟨t, ht, hq⟩ := body cdv A fr s H vs Q E hg (hr.deeper _) hsp
  have J : Inv (cxOf CX0 P w K mg base N qual (defScope st) f cdv A fr s H E) [] (L2.start N vs) H s1 := inv_start S hr.hd e0 lenV r ic
  refine wpAny_mono (ht.nox.run [] s1 (L2.start N vs) H _ J hq) (fun fl s2 hs => ?_) fun e s2 hs => hs
  cases fl with
  | ret u =>
    obtain ⟨v, σ2, H2, J2, rv, q⟩ := hs
    exact ⟨v, H2, J2.os, J2.bare, J2.base, J2.hok, rv, q⟩
  | next =>
    obtain ⟨σ2, H2, J2, q⟩ := hs
    exact ⟨V.non, H2, J2.os, J2.bare, J2.base, J2.hok, (rfl : RelV .non Value.none), q⟩
  | brk => obtain ⟨_, _, _, q⟩ := hs; exact q.elim
  | cont => obtain ⟨_, _, _, q⟩ := hs; exact q.elim
/-- .. called by their names -/
structure CalG (P : Program) (w : World) (K : PySem.W.Frag) (mg : Str → Option Value) (base : Heap) (k : Nat) (x : Str) (sp : Sp) : Prop where
  ex : ∃ (f : Addr) (fd : FuncData) (ps : List Str), FnG P w K mg base k f fd ps sp ∧ mg x = some (.ref f) ∧ PySem.W.keepIn K (.ref f) = true ∧ Binds K fd ps []
end
section
variable {X : Cx}
theorem FnG.mono {P : Program} {w : World} {K : PySem.W.Frag} {mg : Str → Option Value} {base : Heap} {j k : Nat} {f : Addr} {fd : FuncData} {ps : List Str} {sp : Sp} (F : FnG P w K mg base j f fd ps sp) (h : j ≤ k) : FnG P w K mg base k f fd ps sp :=
  ⟨F.len, fun A fr s H as us vs Q E hg hr => F.run A fr s H as us vs Q E hg (hr.mono h)⟩
theorem pe_calG {j k : Nat} {x : Str} {sp : Sp} {p pos : Pos} {e : Expr} {es : List Expr} {t : TA} (c : CalG X.prog X.w X.K X.mg X.base k x sp) (hG : X.A.guards = some []) (hr : Room j X.A) (hk : k ≤ j) (hg : Gl X x) (ha : PA X (e :: es) t)
    (hdb : (x == ("__debug__" : Str)) = false := by decide) (he : starEach (e :: es) X.env = (false, eval e X.env) :: starEach es X.env := by rfl) (hpl : (backTo pos (starEach es X.env)).any (·.1) = false := by rfl) :
    PE X (.Call (.Name x p) (e :: es) [] pos) (tCall sp [] E0 t) := by
  obtain ⟨f, fd, ps, F, hm, kp, b⟩ := c.ex
  refine ⟨fun pins s σ H Q I h => ?_⟩
  refine wpAny_Call_Name_kw (ld_glob I hg hm ?_ hdb)
  refine PySem.W.callWith_K (h₀ := X.base) I.ok.mod.kin kp (thn (ha.run pos pins s σ H _ I h) fun us s1 ⟨vs, H1, I1, r, q⟩ => ⟨I1.kIn, ?_⟩) he hpl
  have q2 : sp (vs ++ []) H1 Q E0 := q
  rw [List.append_nil] at q2
  have hl : us.length = ps.length := by rw [← r.length]; exact F.len _ _ _ _ q2
  have hb := b s1 us I1.kIn (by rw [List.append_nil]; exact hl)
  rw [List.append_nil] at hb
  refine wpAny_call (codeAny_mono (F.run X.A X.stack s1 H1 ⟨us, []⟩ us vs Q E0 hG (hr.mono hk) I1.env0 hb r q2) fun res s2 hq => ?_)
  cases res with
  | error _ => exact (show False from hq).elim
  | ok fl =>
    cases fl with
    | ret u => exact I1.after hq
    | next => exact (show False from hq).elim
    | brk => exact (show False from hq).elim
    | cont => exact (show False from hq).elim
end
end Dd
namespace Dd
open PySem PySem.Spec PyProof.Rows L2
/-! ## the law's own call, of a def that asks for the text of data -/
theorem law_go {P : Program} {w : World} {K : PySem.W.Frag} {mg mb : Str → Option Value} {k : Nat} {fa a : Addr} {fd : FuncData} {x : Str} {sp : Sp} {s1 : Shared} {vs : List Value} {ns : List Int}
    (KX : K.In s1.heap) (g1 : s1.heap.Ns mainGlobals mg) (g2 : s1.heap.Ns builtinsNs mb) (g3 : ∀ x : Str, x ≠ "__name__" → mb x = bootBuiltins x) (g4 : s1.heap.NoLimit) (g5 : s1.gens = #[])
    (ha : s1.heap.get? a = some { cls := .type "list", data := .seq vs.toArray }) (hi : IntsAre vs ns) (hl : ns.length ≤ sizeLine) (hr : Room k callerA)
    (F : ∀ base : Heap, K.In base → base.Ns mainGlobals mg → FnG P w K mg base k fa fd [x] sp) (hb : ∀ (s : Shared) (u : Value), BindsTo s fd ⟨[u], []⟩ [(x, u)])
    (hsp : ∀ H : Hp, SqL K H a (ns.map V.int) → sp [.ref a] H (fun v _ => v = .bl true) fun _ _ _ => False) :
    codeAny (model P w) callerA (.call (.ref fa) ⟨[.ref a], []⟩) (fun r s' => r = .ok (.ret (.bool true)) ∧ OldK s1.heap s'.heap ∧ s'.os = s1.os ∧ AllBare s'.gens) s1 := by
  have hv := vals_ints hi
  have hn := hi.length
  have main : ∀ H : Hp, Only H → SqL K H a (ns.map V.int) → HOk P w H s1.heap → (∀ b, H b ≠ none → b = a) → (H a ≠ none → K.lookup a = none) →
      codeAny (model P w) callerA (.call (.ref fa) ⟨[.ref a], []⟩) (fun r s' => r = .ok (.ret (.bool true)) ∧ OldK s1.heap s'.heap ∧ s'.os = s1.os ∧ AllBare s'.gens) s1 := by
    intro H only hS hok one lone
    have nod : ∀ {b : Addr} {o : Obj} {es : Array DictEntry} {ep : Nat}, s1.heap.get? b = some o → o.data = .dict es ep → H b = none := by
      intro b o es ep e d
      cases q : H b with
      | none => rfl
      | some u =>
        obtain rfl : b = a := one b (by rw [q]; exact Option.some_ne_none _)
        rw [ha] at e
        obtain rfl := Option.some.inj e
        exact absurd d (fun z => by cases z)
    have nsH : ∀ {b : Addr} {m : Str → Option Value}, s1.heap.Ns b m → (hidT s1.heap H).Ns b m := by
      rintro b m ⟨o, es, ep, e, d, r⟩
      exact ⟨o, es, ep, hidT_get e (nod e d), d, r⟩
    have kH : K.In (hidT s1.heap H) := by
      intro b o e
      refine hidT_get (KX b o e) ?_
      cases q : H b with
      | none => rfl
      | some u =>
        obtain rfl : b = a := one b (by rw [q]; exact Option.some_ne_none _)
        rw [lone (by rw [q]; exact Option.some_ne_none _)] at e
        cases e
    have hM : Mod K mg (hidT s1.heap H) := by
      obtain ⟨mc, l1, l2⟩ := g4
      exact ⟨kH, nsH g1, ⟨mb, nsH g2, g3⟩, ⟨mc, nsH l1, l2⟩⟩
    have env : Env0 P w K mg (hidT s1.heap H) callerA [] s1 H := ⟨rfl, hM, fun b o e => of_hidT e, Nat.le_of_eq (hidT_size _ _), trivial, fun b z => absurd (show b ∈ ([] : List Addr) from z) List.not_mem_nil, hok, .of_eq g5⟩
    have run := (F _ kH (nsH g1)).run callerA [] s1 H ⟨[.ref a], []⟩ [.ref a] [.ref a] _ _ rfl hr env (hb s1 (.ref a)) (.cons rfl .nil) (hsp H hS)
    refine codeAny_mono run fun r s2 h => ?_
    match r, h with
    | .error e, h => exact (show False from h).elim
    | .ok .next, h => exact (show False from h).elim
    | .ok .brk, h => exact (show False from h).elim
    | .ok .cont, h => exact (show False from h).elim
    | .ok (.ret u), h =>
      obtain ⟨v, H2, os, bare, un, hok2, rv, q⟩ := h
      obtain rfl : v = .bl true := q
      obtain rfl : u = Value.bool true := rv
      refine ⟨rfl, OldK.of_keep fun b o e => ?_, os, bare⟩
      rcases only b with z | ⟨ob, xs, z⟩
      · exact un.keep b o e z (fun y => absurd (show b ∈ ([] : List Addr) from y) List.not_mem_nil) List.not_mem_nil
      · obtain ⟨e1, _⟩ := hok b _ z
        obtain ⟨e2, _⟩ := hok2 b _ (un.frzs b ob _ z)
        rw [e] at e1
        obtain rfl := Option.some.inj e1
        exact e2
  cases hk : K.lookup a with
  | some o =>
    have e := KX a o hk
    rw [ha] at e
    obtain rfl := Option.some.inj e
    exact main (fun _ => none) (fun _ => .inl rfl) (.inr ⟨_, vs.toArray, _, hk, rfl, rfl, rfl, by rw [List.size_toArray, hn]; exact hl, by simpa using hv⟩) (fun b u z => by cases (show (none : Option HO) = some u from z)) (fun b z => absurd rfl z) (fun z => absurd rfl z)
  | none =>
    have at_a : (if a = a then some (HO.frz { cls := .type "list", data := .seq vs.toArray } (.lst (ns.map V.int))) else none) = some (HO.frz { cls := .type "list", data := .seq vs.toArray } (.lst (ns.map V.int))) := if_pos rfl
    refine main (fun b => if b = a then some (.frz { cls := .type "list", data := .seq vs.toArray } (.lst (ns.map V.int))) else none) (fun b => ?_) (.inl (.inr ⟨_, at_a⟩)) (fun b u z => ?_) (fun b z => ?_) (fun _ => hk)
    · by_cases c : b = a
      · exact .inr ⟨_, _, if_pos c⟩
      · exact .inl (if_neg c)
    · by_cases c : b = a
      · subst c
        obtain rfl := Option.some.inj (at_a.symm.trans z)
        exact ⟨ha, by rw [List.length_map]; exact hl, vs, _, hv, ha⟩
      · cases (if_neg c).symm.trans z
    · by_cases c : b = a
      · exact c
      · exact absurd (if_neg c) z
theorem walk_go {l : PySem.W.OpenLaw} {n k : Nat} {q : Program} {loose : List Str} {XP : (Str → Option Value) → Heap → Prop} {YP : World → Heap → Prop} {d : DefRec} {K : Params → PySem.W.Frag} {sp : PySem.W.Frag → Sp} {x : Str}
    (h1 : l.most = some n) (h2 : n ≤ sizeLine) (h3 : d.params.defaults = []) (hr : Room k callerA) (hY : ∀ (w : World) (h : Heap), YP w h → (K w.params).In h)
    (F : ∀ (w : World) (mg : Str → Option Value) (fa : Addr) (h : Heap), (K w.params).In h → h.Ns mainGlobals mg → mg d.name = some (.ref fa) →
      ∃ fd : FuncData, (∀ (s : Shared) (u : Value), BindsTo s fd ⟨[u], []⟩ [(x, u)]) ∧ ∀ base : Heap, (K w.params).In base → base.Ns mainGlobals mg → FnG l.prog w (K w.params) mg base k fa fd [x] (sp (K w.params)))
    (hsp : ∀ (w : World) (H : Hp) (a : Addr) (ns : List Int), ns.length ≤ n → SqL (K w.params) H a (ns.map V.int) → sp (K w.params) [.ref a] H (fun v _ => v = .bl true) fun _ _ _ => False) :
    PySem.W.WalkO q loose XP YP l.row.toRowW d [] (fun f vs => PySem.call f vs) := by
  refine Att.attach_call h1 h3 fun w s0 s1 mg mb fa o pm cd doc a vs ns G Y ho hd hcd hmg hobj hints hlen hg => ?_
  obtain ⟨fd, hb, hF⟩ := F w mg fa _ (hY w _ Y) G.T.g hmg
  exact law_go (hY w _ Y) G.T.g G.T.b G.T.builtins G.T.nolimit hg hobj hints (Nat.le_trans hlen h2) hr hF hb fun H hS => hsp w H a ns hlen hS
end Dd
namespace Zz
open PySem PySem.Calls PyProof.Rows PyProof.V PySem.Spec
open Sem (wp)
/-! ## list(it), it an iterator that hands out new tuples and keeps the last one in mind -/
structure TupIt (prog : Program) (w : World) (A : Around) (S I : Addr) (n : Nat) (Pt : Nat → Array Value → Prop) (wr : List Addr) (St : Nat → Heap → Prop) : Prop where
  nS : S ∉ wr
  live : ∀ i h, St i h → ∀ b ∈ wr, b < h.objs.size
  keep : ∀ i h h', St i h → (∀ b o, b ≠ S → h.get? b = some o → h'.get? b = some o) → St i h'
  item : ∀ i (s : Shared) (Q : Option Value → Shared → Prop) (E : Value → Shared → Prop), i < n → St i s.heap → S < s.heap.objs.size →
    (∀ vals h' tk, Pt i vals → h'.get? s.heap.objs.size = some { cls := .type "tuple", data := .seq vals } → St (i + 1) h' → (∀ b o, b ∉ wr → s.heap.get? b = some o → h'.get? b = some o) → Q (some (.ref s.heap.objs.size)) { s with heap := h', toks := tk }) →
    wpAny (model prog w) A (pyNext (.ref I)) Q E s
  done : ∀ (s : Shared) (Q : Option Value → Shared → Prop) (E : Value → Shared → Prop), St n s.heap →
    (∀ h' tk, (∀ b o, b ∉ wr → s.heap.get? b = some o → h'.get? b = some o) → Q none { s with heap := h', toks := tk }) → wpAny (model prog w) A (pyNext (.ref I)) Q E s
/-- the tuples that were handed out, none of them a cell of the iterator -/
structure Got (Pt : Nat → Array Value → Prop) (S : Addr) (wr : List Addr) (h : Heap) (as : List Addr) : Prop where
  ap : ∀ a ∈ as, a ≠ S ∧ a ∉ wr
  rise : as.Pairwise (· < ·)
  lo : ∀ a ∈ as, S < a
  tu : ∀ (j : Nat) (a : Addr), as[j]? = some a → ∃ vals, Pt j vals ∧ h.get? a = some { cls := .type "tuple", data := .seq vals }
theorem Got.keep {Pt : Nat → Array Value → Prop} {S : Addr} {wr : List Addr} {h h' : Heap} {as : List Addr} (g : Got Pt S wr h as) (k : ∀ b o, b ≠ S → b ∉ wr → h.get? b = some o → h'.get? b = some o) : Got Pt S wr h' as :=
  ⟨g.ap, g.rise, g.lo, fun j a e => by
    obtain ⟨vals, p, q⟩ := g.tu j a e
    obtain ⟨n1, n2⟩ := g.ap a (List.mem_of_getElem? e)
    exact ⟨vals, p, k a _ n1 n2 q⟩⟩
section
variable {prog : Program} {w : World} {A : Around} {s : Shared} {R : Result → Shared → Prop} {S I : Addr} {n : Nat} {Pt : Nat → Array Value → Prop} {wr : List Addr} {St : Nat → Heap → Prop}
theorem grow_loop (T : TupIt prog w A.in1 S I n Pt wr St) (hn : n ≤ sizeLine) (res : Value) :
    ∀ (k i : Nat) (s : Shared) (acc : Array Value) (c : Nat) (as : List Addr), n - i = k → i ≤ n → St i s.heap → s.heap.get? S = some { cls := .type "list", dict := none, data := .seq acc c, slots := #[] } →
      acc.toList = as.map Value.ref → as.length = i → Got Pt S wr s.heap as →
      (∀ h' tk acc' c' as', (∀ b o, b ≠ S → b ∉ wr → s.heap.get? b = some o → h'.get? b = some o) → h'.get? S = some { cls := .type "list", dict := none, data := .seq acc' c', slots := #[] } → acc'.toList = as'.map Value.ref → as'.length = n → Got Pt S wr h' as' →
        R (.ok (.ret res)) { s with heap := h', toks := tk }) →
      codeAny (model prog w) A (.builtin "list.extend.loop" ⟨[.ref S, .ref I, res], []⟩) R s := by
  intro k
  induction k with
  | zero =>
    intro i s acc c as hk hi st hS ha hl g hR
    obtain rfl : i = n := by omega
    refine codeAny_builtin PySem.F.entry_extend_loop ?_
    rw [Around.under_plainId PySem.F.plain_extend_loop _]
    show wpAny _ A.in1 (pyNext (.ref I) >>= _) _ _ _
    refine wpAny_bind (T.done s _ _ st fun h' tk kp => ?_)
    exact wpAny_pure (hR h' tk acc c as (fun b o _ nb e => kp b o nb e) (kp S _ T.nS hS) ha hl (g.keep fun b o _ nb e => kp b o nb e))
  | succ k ih =>
    intro i s acc c as hk hi st hS ha hl g hR
    have lt : i < n := by omega
    have sz : acc.size = i := by rw [← Array.length_toList, ha, List.length_map, hl]
    have hSl : S < s.heap.objs.size := Heap.lt_size hS
    refine codeAny_builtin PySem.F.entry_extend_loop ?_
    rw [Around.under_plainId PySem.F.plain_extend_loop _]
    show wpAny _ A.in1 (pyNext (.ref I) >>= _) _ _ _
    refine wpAny_bind (T.item i s _ _ lt st hSl fun vals h' tk hp ht st' kp => ?_)
    have hS' : h'.get? S = some { cls := .type "list", dict := none, data := .seq acc c, slots := #[] } := kp S _ T.nS hS
    have up : ∀ b o, b ≠ S → h'.get? b = some o → (h'.update S (Obj.mapSeq (·.push (Value.ref s.heap.objs.size)))).get? b = some o := fun b o nb e => (Heap.get?_update_other _ _ (Ne.symm nb)).trans e
    have nw : s.heap.objs.size ∉ wr := fun z => absurd (T.live i _ st _ z) (Nat.lt_irrefl _)
    show wpAny _ A.in1 (updateSeq S (·.push (Value.ref s.heap.objs.size)) >>= _) _ _ _
    refine wpAny_bind ?_
    refine wpAny_updateSeq (s := { s with heap := h', toks := tk }) hS' rfl (wpAny_pure ⟨plainId_quiet PySem.F.plain_extend_loop _, ?_⟩) (by rw [sz]; omega) (by show (acc.push (Value.ref s.heap.objs.size)).size ≤ sizeLine + 1; rw [Array.size_push, sz]; omega)
    refine ih (i + 1) { s with heap := h'.update S (Obj.mapSeq (·.push (Value.ref s.heap.objs.size))), toks := tk } (acc.push (.ref s.heap.objs.size)) _ (as ++ [s.heap.objs.size]) (by omega) lt (T.keep _ _ _ st' up) (Heap.get?_update_self _ hS' rfl)
      (by rw [Array.toList_push, ha, List.map_append]; rfl) (by rw [List.length_append, hl]; rfl) ⟨fun a ma => ?_, ?_, fun a ma => ?_, fun j a e => ?_⟩ fun h2 tk2 acc2 c2 as2 kp2 e1 e2 e3 g2 => ?_
    · rcases List.mem_append.mp ma with m | m
      · exact g.ap a m
      · rw [List.mem_singleton.mp m]
        exact ⟨Nat.ne_of_gt hSl, nw⟩
    · refine List.pairwise_append.mpr ⟨g.rise, List.pairwise_singleton _ _, fun a ha b hb => ?_⟩
      rw [List.mem_singleton.mp hb]
      obtain ⟨j, hj⟩ := List.mem_iff_getElem?.mp ha
      obtain ⟨_, _, q⟩ := g.tu j a hj
      exact Heap.lt_size q
    · rcases List.mem_append.mp ma with m | m
      · exact g.lo a m
      · rw [List.mem_singleton.mp m]; exact hSl
    · by_cases hj : j < as.length
      · rw [List.getElem?_append_left hj] at e
        obtain ⟨v2, p2, q2⟩ := g.tu j a e
        obtain ⟨n1, n2⟩ := g.ap a (List.mem_of_getElem? e)
        exact ⟨v2, p2, up a _ n1 (kp a _ n2 q2)⟩
      · have hj2 : j = as.length := by
          have := (List.getElem?_eq_some_iff.mp e).1
          rw [List.length_append, List.length_singleton] at this
          omega
        subst hj2
        have ea : s.heap.objs.size = a := by simpa using e
        subst ea
        exact ⟨vals, by rw [hl]; exact hp, up _ _ (Nat.ne_of_gt hSl) ht⟩
    · exact hR h2 tk2 acc2 c2 as2 (fun b o nb nw e => kp2 b o nb nw (up b o nb (kp b o nw e))) e1 e2 e3 g2
end
end Zz
namespace Zz
open PySem PySem.Calls PyProof.Rows PyProof.V PySem.Spec
open Sem (wp)
/-- a zip that has handed out the tuple at T -/
def ZO (h : Heap) (z TI TO T : Addr) (f : Bool) : Prop := h.get? z = some { cls := .type "zip", dict := none, data := .fields #[rawInt T, .bool f, .bool false, .ref TI, .ref TO], slots := #[] }
section
variable {prog : Program} {w : World} {A : Around} {E : Value → Shared → Prop} {s : Shared} {z TI TO i1 i2 T : Addr} {fp1 fp2 : List Addr} {n1 n2 i : Nat} {P1 P2 : Nat → Value → Prop} {St1 St2 : Nat → Heap → Prop} {f : Bool}
theorem alive_rule {T : Addr} {Q : Option Obj → Shared → Prop} (h : Q (s.heap.get? T) s) : wpAny (model prog w) A (loadIfAlive T) Q E s := by
  intro Γ p hΓ
  unfold loadIfAlive
  rw [wp, wp]
  exact h
/-- it sees that the tuple is kept -/
theorem zo_free {Q : Bool → Shared → Prop} (hz : ZO s.heap z TI TO T f) (hT : ∃ o, s.heap.get? T = some o)
    (h : ∀ h', ZO h' z TI TO T true → Heap.SameBut z s.heap h' → Q false { s with heap := h' }) : wpAny (model prog w) A (Builtin.SmallTypes.ownedTupleIsFree (.ref z)) Q E s := by
  obtain ⟨o, ho⟩ := hT
  unfold Builtin.SmallTypes.ownedTupleIsFree
  refine wpAny_bind (wpAny_field hz rfl (x := rawInt T) rfl ?_)
  show wpAny _ _ (loadIfAlive (T : Int).toNat >>= _) _ _ _
  rw [Int.toNat_natCast]
  refine wpAny_bind (alive_rule ?_)
  rw [ho]
  show wpAny _ _ (field (.ref z) 1 >>= _) _ _ _
  refine wpAny_bind (wpAny_field hz rfl (x := .bool f) rfl ?_)
  cases f with
  | true =>
    refine wpAny_ite_split (fun c => absurd c (by decide)) (fun _ => ?_)
    exact wpAny_pure (h s.heap hz ⟨rfl, fun _ _ => rfl⟩)
  | false =>
    refine wpAny_ite_split (fun _ => ?_) (fun c => absurd (by decide) c)
    refine wpAny_bind (wpAny_setField_rec hz (by simp) fun h' hz' hs => ?_)
    exact wpAny_pure (h h' hz' hs)

theorem zo_step {Q : Value → Shared → Prop} (S : ZipSep2 z TI TO i1 i2 fp1 fp2) (D1 : Draws prog w A i1 fp1 n1 P1 St1) (D2 : Draws prog w A i2 fp2 n2 P2 St2)
    (hz : ZO s.heap z TI TO T f) (hT : ∃ o, s.heap.get? T = some o) (hTI : IsTupOf2 s.heap TI (.ref i1) (.ref i2)) (st1 : St1 i s.heap) (st2 : St2 i s.heap) (l1 : i < n1) (l2 : i < n2)
    (hQ : ∀ x y h' tk, P1 i x → P2 i y → ZO h' z TI TO T true → St1 (i + 1) h' → St2 (i + 1) h' → IsTupOf2 h' s.heap.objs.size x y →
      (∀ c o, c ≠ z → c ≠ i1 → c ≠ i2 → s.heap.get? c = some o → h'.get? c = some o) → Q (.ref s.heap.objs.size) { s with heap := h', toks := tk }) :
    wpAny (model prog w) A (Builtin.«zip.__next__» ⟨[.ref z], []⟩) (fun fin s' => ∃ v, fin = .done (.ret v) ∧ Q v s') E s := by
  obtain ⟨hp, g, d, tk0, os⟩ := s
  show wpAny _ _ (field (.ref z) 2 >>= _) _ _ _
  refine wpAny_bind (wpAny_field hz rfl (x := .bool false) rfl ?_)
  show wpAny _ _ (field (.ref z) 3 >>= _) _ _ _
  refine wpAny_bind (wpAny_field hz rfl (x := .ref TI) rfl ?_)
  refine wpAny_bind (wpAny_seqItems hTI rfl ?_)
  show wpAny _ _ (Builtin.SmallTypes.ownedTupleIsFree (.ref z) >>= _) _ _ _
  refine wpAny_bind (zo_free hz hT fun h0 hz0 hs0 => ?_)
  refine wpAny_ite_split (fun c => absurd c (by decide)) (fun _ => ?_)
  dsimp only
  refine wpAny_bind ?_
  simp only [List.forIn_toArray, List.forIn_cons, List.forIn_nil]
  refine wpAny_bind (wpAny_bind (wpAny_holding ?_))
  show wpAny _ _ (Builtin.SmallTypes.nextOf (.ref i1) >>= fun x => pure (some x)) _ _ ⟨h0, g, d, tk0, os⟩
  refine wpAny_bind (D1.item i _ _ _ l1 (D1.over st1 hs0 S.zf1) fun x h1 tk1 hx a1 b1 => wpAny_pure ?_)
  replace b1 : Heap.SameBut i1 h0 h1 := b1
  refine wpAny_pure ?_
  dsimp only
  refine wpAny_bind (wpAny_bind (wpAny_holding ?_))
  show wpAny _ _ (Builtin.SmallTypes.nextOf (.ref i2) >>= fun x => pure (some x)) _ _ ⟨h1, g, d, tk1, os⟩
  refine wpAny_bind (D2.item i _ _ _ l2 (D2.over (D2.over st2 hs0 S.zf2) b1 S.sep1_2) fun y h2 tk2 hy a2 b2 => wpAny_pure ?_)
  replace b2 : Heap.SameBut i2 h1 h2 := b2
  refine wpAny_pure ?_
  dsimp only
  refine wpAny_pure ?_
  dsimp only
  have sz : h2.objs.size = hp.objs.size := by rw [b2.1, b1.1, hs0.1]
  refine wpAny_bind (wpAny_newTuple (hsz := by show 2 ≤ sizeLine; decide) ?_)
  refine wpAny_pure ⟨_, rfl, ?_⟩
  show Q (.ref h2.objs.size) ⟨h2.push { cls := .type "tuple", data := .seq #[x, y] }, g, d, tk2, os⟩
  have up : ∀ c o, h2.get? c = some o → (h2.push { cls := .type "tuple", data := .seq #[x, y] }).get? c = some o := fun c o e => Heap.get?_push_of_some _ e
  have ht : IsTupOf2 (h2.push { cls := .type "tuple", data := .seq #[x, y] }) h2.objs.size x y := Heap.get?_push_size _ rfl
  rw [sz] at ht ⊢
  have zi1 : z ≠ i1 := S.zi1
  have zi2 : z ≠ i2 := S.zi2
  refine hQ x y _ tk2 hx hy (up _ _ (b2.extBut _ _ zi2 (b1.extBut _ _ zi1 hz0))) (D1.frame _ _ _ (D1.over a1 b2 S.sep2_1) fun b _ o e => up b o e) (D2.frame _ _ _ a2 fun b _ o e => up b o e) ht fun c o cz c1 c2 e => ?_
  exact up _ _ (b2.extBut _ _ c2 (b1.extBut _ _ c1 (hs0.extBut _ _ cz e)))
theorem zo_end {Q : Fin → Shared → Prop} (S : ZipSep2 z TI TO i1 i2 fp1 fp2) (D1 : Draws prog w A i1 fp1 n1 P1 St1) (D2 : Draws prog w A i2 fp2 n2 P2 St2)
    (hz : ZO s.heap z TI TO T f) (hT : ∃ o, s.heap.get? T = some o) (hTI : IsTupOf2 s.heap TI (.ref i1) (.ref i2)) (st1 : St1 i s.heap) (st2 : St2 i s.heap) (le1 : i ≤ n1) (le2 : i ≤ n2) (hend : i = n1 ∨ i = n2)
    (hE : ∀ h' tk e, (∀ c o, c ≠ z → c ≠ i1 → c ≠ i2 → s.heap.get? c = some o → h'.get? c = some o) → (∃ o, h'.get? e = some o ∧ o.cls = .type "StopIteration") → E (.ref e) { s with heap := h', toks := tk }) :
    wpAny (model prog w) A (Builtin.«zip.__next__» ⟨[.ref z], []⟩) Q E s := by
  obtain ⟨hp, g, d, tk0, os⟩ := s
  show wpAny _ _ (field (.ref z) 2 >>= _) _ _ _
  refine wpAny_bind (wpAny_field hz rfl (x := .bool false) rfl ?_)
  show wpAny _ _ (field (.ref z) 3 >>= _) _ _ _
  refine wpAny_bind (wpAny_field hz rfl (x := .ref TI) rfl ?_)
  refine wpAny_bind (wpAny_seqItems hTI rfl ?_)
  show wpAny _ _ (Builtin.SmallTypes.ownedTupleIsFree (.ref z) >>= _) _ _ _
  refine wpAny_bind (zo_free hz hT fun h0 hz0 hs0 => ?_)
  refine wpAny_ite_split (fun c => absurd c (by decide)) (fun _ => ?_)
  dsimp only
  refine wpAny_bind ?_
  simp only [List.forIn_toArray, List.forIn_cons, List.forIn_nil]
  refine wpAny_bind (wpAny_bind (wpAny_holding ?_))
  show wpAny _ _ (Builtin.SmallTypes.nextOf (.ref i1) >>= fun x => pure (some x)) _ _ ⟨h0, g, d, tk0, os⟩
  by_cases l1 : i < n1
  · refine wpAny_bind (D1.item i _ _ _ l1 (D1.over st1 hs0 S.zf1) fun x h1 tk1 hx a1 b1 => wpAny_pure ?_)
    replace b1 : Heap.SameBut i1 h0 h1 := b1
    refine wpAny_pure ?_
    dsimp only
    refine wpAny_bind (wpAny_bind (wpAny_holding ?_))
    show wpAny _ _ (Builtin.SmallTypes.nextOf (.ref i2) >>= fun x => pure (some x)) _ _ ⟨h1, g, d, tk1, os⟩
    obtain rfl : i = n2 := by omega
    refine wpAny_bind (D2.done ⟨h1, g, d, tk1, os⟩ _ _ (D2.over (D2.over st2 hs0 S.zf2) b1 S.sep1_2) fun q e hq he => ?_)
    exact hE q tk1 e (fun c o cz c1 c2 x => hq _ _ c2 (b1.extBut _ _ c1 (hs0.extBut _ _ cz x))) he
  · obtain rfl : i = n1 := by omega
    refine wpAny_bind (D1.done ⟨h0, g, d, tk0, os⟩ _ _ (D1.over st1 hs0 S.zf1) fun q e hq he => ?_)
    exact hE q tk0 e (fun c o cz c1 c2 x => hq _ _ c1 (hs0.extBut _ _ cz x)) he
end
end Zz
namespace Zz
open PySem PySem.Calls PyProof.Rows PyProof.V PySem.Spec
open Sem (wp)
section
variable {prog : Program} {w : World} {A : Around} {E : Value → Shared → Prop} {s : Shared} {z TI TO i1 i2 SS : Addr} {fp1 fp2 : List Addr} {n1 n2 i : Nat} {P1 P2 : Nat → Value → Prop} {St1 St2 : Nat → Heap → Prop} {f : Bool}
def zSt (SS z TI TO i1 i2 : Addr) (St1 St2 : Nat → Heap → Prop) (i : Nat) (h : Heap) : Prop := (IsTupOf2 h TI (.ref i1) (.ref i2) ∧ (∃ a b, IsTupOf2 h TO a b) ∧ (∃ o, h.get? i1 = some o) ∧ ∃ o, h.get? i2 = some o) ∧ (St1 i h ∧ St2 i h) ∧ (IsZip h z TI TO .none ∨ ∃ T f, ZO h z TI TO T f ∧ (∃ o, h.get? T = some o) ∧ T ≠ SS)
theorem zip_it (S : ZipSep2 z TI TO i1 i2 fp1 fp2) (D1 : Draws prog w A.in1 i1 fp1 n1 P1 St1) (D2 : Draws prog w A.in1 i2 fp2 n2 P2 St2) (n : Nat) (hn : n = min n1 n2) (sz : z ≠ SS) (sI : TI ≠ SS) (sO : TO ≠ SS) (s1 : SS ∉ fp1) (s2 : SS ∉ fp2) :
    TupIt prog w A SS z n (fun i vals => ∃ x y, P1 i x ∧ P2 i y ∧ vals = #[x, y]) [z, TO, i1, i2] (zSt SS z TI TO i1 i2 St1 St2) where
  nS := by
    simp only [List.mem_cons, List.not_mem_nil, or_false, not_or]
    exact ⟨Ne.symm sz, Ne.symm sO, fun e => s1 (e ▸ S.mem1), fun e => s2 (e ▸ S.mem2)⟩
  live := fun i h st b hb => by
    obtain ⟨⟨_, ⟨a1, a2, hO⟩, ⟨o1, e1⟩, o2, e2⟩, _, hz⟩ := st
    have hb' : b = z ∨ b = TO ∨ b = i1 ∨ b = i2 := by simpa using hb
    rcases hb' with rfl | rfl | rfl | rfl
    · rcases hz with hz | ⟨T, f, hz, _⟩
      · exact Heap.lt_size hz
      · exact Heap.lt_size hz
    · exact Heap.lt_size hO
    · exact Heap.lt_size e1
    · exact Heap.lt_size e2
  keep := fun i h h' st k => by
    obtain ⟨⟨hI, ⟨a1, a2, hO⟩, ⟨o1, e1⟩, o2, e2⟩, ⟨t1, t2⟩, hz⟩ := st
    refine ⟨⟨k _ _ sI hI, ⟨a1, a2, k _ _ sO hO⟩, ⟨o1, k _ _ (fun e => s1 (e ▸ S.mem1)) e1⟩, o2, k _ _ (fun e => s2 (e ▸ S.mem2)) e2⟩, ⟨D1.frame _ _ _ t1 fun b hb o e => k b o (fun q => s1 (q ▸ hb)) e, D2.frame _ _ _ t2 fun b hb o e => k b o (fun q => s2 (q ▸ hb)) e⟩, ?_⟩
    rcases hz with hz | ⟨T, f, hz, ⟨o, ho⟩, nT⟩
    · exact .inl (k _ _ sz hz)
    · exact .inr ⟨T, f, k _ _ sz hz, ⟨o, k _ _ nT ho⟩, nT⟩
  item := fun i s Q E hi st hS hQ => by
    obtain ⟨⟨hI, ⟨a1, a2, hO⟩, ⟨o1, e1⟩, o2, e2⟩, ⟨t1, t2⟩, hz⟩ := st
    have l1 : i < n1 := by omega
    have l2 : i < n2 := by omega
    have nsz : s.heap.objs.size ≠ SS := Nat.ne_of_gt hS
    have lv : ∀ {p : Addr} {fp : List Addr} {n : Nat} {P : Nat → Value → Prop} {St : Nat → Heap → Prop}, Draws prog w A.in1 p fp n P St → ∀ {h : Heap} {j : Nat}, St j h → ∃ o, h.get? p = some o := fun D => fun st => D.live _ _ st
    rcases hz with hz | ⟨T, f, hz, hT, nT⟩
    · refine wpAny_pyNext_zipD2_item S D1 D2 hz hI hO t1 t2 l1 l2 fun x y h' tk hx hy b1 b2 b3 b4 b5 b6 b7 => ?_
      have kI : IsTupOf2 h' TI (.ref i1) (.ref i2) := b7 _ _ S.TIz S.TITO S.TIi1 S.TIi2 hI
      exact hQ _ h' tk ⟨x, y, hx, hy, rfl⟩ b5 ⟨⟨kI, ⟨x, y, b2⟩, lv D1 b3, lv D2 b4⟩, ⟨b3, b4⟩, .inr ⟨_, false, b1, ⟨_, b5⟩, nsz⟩⟩ fun b o nb e => by
        simp only [List.mem_cons, List.not_mem_nil, or_false, not_or] at nb
        exact b7 b o nb.1 nb.2.1 nb.2.2.1 nb.2.2.2 e
    · have hTy : s.TypeIs (.ref z) "zip" := ⟨_, hz, rfl⟩
      unfold pyNext
      refine wpAny_bind (wpAny_attempt (wpAny_callSpecial?_slot (name := Str.ofString "__next__") hTy F.slot_zip_next
        (wpAny_call_entry F.slot_zip_next hTy F.entry_zip_next (zo_step S D1 D2 hz hT hI t1 t2 l1 l2 fun x y h' tk hx hy b1 b3 b4 b5 b7 => wpAny_pure ?_) (F.args_zip_next_1 _))))
      have kI : IsTupOf2 h' TI (.ref i1) (.ref i2) := b7 _ _ S.TIz S.TIi1 S.TIi2 hI
      have kO : IsTupOf2 h' TO a1 a2 := b7 _ _ S.TOz S.Ti1 S.Ti2 hO
      have kT : ∃ o, h'.get? T = some o := by
        obtain ⟨o, ho⟩ := hT
        by_cases c : T = z
        · subst c; exact ⟨_, b1⟩
        · by_cases c1 : T = i1
          · exact c1 ▸ lv D1 b3
          · by_cases c2 : T = i2
            · exact c2 ▸ lv D2 b4
            · exact ⟨o, b7 _ _ c c1 c2 ho⟩
      exact hQ _ h' tk ⟨x, y, hx, hy, rfl⟩ b5 ⟨⟨kI, ⟨a1, a2, kO⟩, lv D1 b3, lv D2 b4⟩, ⟨b3, b4⟩, .inr ⟨T, true, b1, kT, nT⟩⟩ fun b o nb e => by
        simp only [List.mem_cons, List.not_mem_nil, or_false, not_or] at nb
        exact b7 b o nb.1 nb.2.2.1 nb.2.2.2 e
  done := fun s Q E st hQ => by
    obtain ⟨⟨hI, ⟨a1, a2, hO⟩, _⟩, ⟨t1, t2⟩, hz⟩ := st
    have le1 : n ≤ n1 := by omega
    have le2 : n ≤ n2 := by omega
    have he : n = n1 ∨ n = n2 := by omega
    rcases hz with hz | ⟨T, f, hz, hT, nT⟩
    · exact wpAny_pyNext_zipD2_end S D1 D2 hz hI hO t1 t2 le1 le2 he fun h' tk k => hQ h' tk fun b o nb e => by
        simp only [List.mem_cons, List.not_mem_nil, or_false, not_or] at nb
        exact k b o nb.1 nb.2.1 nb.2.2.1 nb.2.2.2 e
    · have hTy : s.TypeIs (.ref z) "zip" := ⟨_, hz, rfl⟩
      unfold pyNext
      refine wpAny_bind (wpAny_attempt (wpAny_callSpecial?_slot (name := Str.ofString "__next__") hTy F.slot_zip_next
        (wpAny_call_entry F.slot_zip_next hTy F.entry_zip_next (zo_end S D1 D2 hz hT hI t1 t2 le1 le2 he fun h' tk e k q => ?_) (F.args_zip_next_1 _))))
      obtain ⟨o, ho, hc⟩ := q
      refine wpAny_bind (wpAny_isInstance (T := "StopIteration") (b := true) ⟨o, ho, hc⟩ isSubtype_stop ?_)
      exact wpAny_pure (hQ _ _ fun b o nb e => by
        simp only [List.mem_cons, List.not_mem_nil, or_false, not_or] at nb
        exact k b o nb.1 nb.2.2.1 nb.2.2.2 e)
end
theorem zip_no_len : typeLookup (.type "zip") "__len__" = pure none := by rw [typeLookup_type, builtinLookup_eq_fast]; kernel_rfl
theorem zip_no_hint : typeLookup (.type "zip") "__length_hint__" = pure none := by rw [typeLookup_type, builtinLookup_eq_fast]; kernel_rfl
section
variable {prog : Program} {w : World} {A : Around} {E : Value → Shared → Prop} {s : Shared} {r : Addr} {R : Result → Shared → Prop} {n : Nat} {Pt : Nat → Array Value → Prop} {wr : List Addr} {St : Nat → Heap → Prop}
theorem zip_hint (hT : s.TypeIs (.ref r) "zip") {Q : Bool → Shared → Prop} (h : Q true s) : wpAny (model prog w) A (Builtin.List.listLengthHint (.ref r)) Q E s := by
  unfold Builtin.List.listLengthHint
  refine wpAny_bind (wpAny_specialOf hT zip_no_len ?_)
  show wpAny _ _ (specialOf (Value.ref r) (Str.ofString "__length_hint__") >>= _) _ _ _
  refine wpAny_bind (wpAny_specialOf hT zip_no_hint ?_)
  exact wpAny_pure h
/-- list(z) of a zip that stands at r -/
theorem list_zip {Q : Value → Shared → Prop} (ty : ∀ h h' : Heap, (∃ o, h.get? r = some o ∧ o.cls = .type "zip") → (∀ b o, h.get? b = some o → h'.get? b = some o) → ∃ o, h'.get? r = some o ∧ o.cls = .type "zip")
    (it : ∀ (h : Heap), (∀ b o, s.heap.get? b = some o → h.get? b = some o) → TupIt prog w A.in1.in1 s.heap.objs.size r n Pt wr St ∧ St 0 h) (hr : ∃ o, s.heap.get? r = some o ∧ o.cls = .type "zip")
    (self : ∀ (A : Around) (s' : Shared) (Q : Value → Shared → Prop) (E : Value → Shared → Prop), (∀ b o, s.heap.get? b = some o → s'.heap.get? b = some o) → Q (.ref r) s' → wpAny (model prog w) A (pyIter (.ref r)) Q E s') (hn : n ≤ sizeLine)
    (hQ : ∀ h' tk acc c as, (∀ b o, b ∉ wr → s.heap.get? b = some o → h'.get? b = some o) → h'.get? s.heap.objs.size = some { cls := .type "list", dict := none, data := .seq acc c, slots := #[] } → acc.toList = as.map Value.ref → as.length = n → Got Pt s.heap.objs.size wr h' as →
      Q (.ref s.heap.objs.size) { s with heap := h', toks := tk }) :
    wpAny (model prog w) A (call (.type "list") [.ref r]) Q E s := by
  obtain ⟨orr, hor, hoc⟩ := hr
  have lr : r < s.heap.objs.size := Heap.lt_size hor
  refine callType_codes (Q₁ := fun obj s₁ => obj = .ref s.heap.objs.size ∧ s₁ = { s with heap := s.heap.push { cls := .type "list", data := .seq #[] } }) PySem.F.called_list (PySem.F.typeCall_list_1 _) PySem.F.entry_list_init
    (code_list_new _ ⟨rfl, rfl⟩) fun obj s₁ h₁ => ?_
  obtain ⟨rfl, rfl⟩ := h₁
  have k0 : ∀ b o, s.heap.get? b = some o → (s.heap.push { cls := .type "list", data := .seq #[] }).get? b = some o := fun b o e => Heap.get?_push_of_some _ e
  have hS : (s.heap.push { cls := .type "list", data := .seq #[] }).get? s.heap.objs.size = some { cls := .type "list", data := .seq #[] } := Heap.get?_push_size _ rfl
  have up : ∀ (h : Heap) (f : Obj → Obj), (∀ b o, s.heap.get? b = some o → h.get? b = some o) → ∀ b o, s.heap.get? b = some o → (h.update s.heap.objs.size f).get? b = some o := fun h f q b o e =>
    (Heap.get?_update_other _ _ (Ne.symm (Nat.ne_of_lt (Heap.lt_size e)))).trans (q b o e)
  refine ⟨⟨_, hS, rfl⟩, PySem.F.args_list_init_2 _ _, ?_⟩
  show wpAny _ _ (do let old ← Builtin.List.listItems (.ref s.heap.objs.size); Builtin.List.listUpdate (.ref s.heap.objs.size) (fun _ => #[]); letGo old.toList.reverse; Builtin.List.listExtendWith (.ref s.heap.objs.size) (.ref r) .none) _ _ _
  refine wpAny_bind ?_
  unfold Builtin.List.listItems
  refine wpAny_bind (wpAny_seqItems hS rfl (wpAny_pure ?_))
  show wpAny _ _ (updateSeq s.heap.objs.size (fun _ => #[]) >>= fun _ => letGo (#[] : Array Value).toList.reverse >>= fun _ => Builtin.List.listExtendWith (.ref s.heap.objs.size) (.ref r) .none) _ _ _
  refine wpAny_bind (wpAny_updateSeq hS rfl ?_)
  have hS2 := Heap.get?_update_self (Obj.mapSeq (fun _ => (#[] : Array Value))) hS rfl
  have k2 := up _ (Obj.mapSeq (fun _ => (#[] : Array Value))) k0
  refine wpAny_bind (wpAny_letGo ?_)
  unfold Builtin.List.listExtendWith
  have tyAt : ∀ (h : Heap), (∀ b o, s.heap.get? b = some o → h.get? b = some o) → ∃ o, h.get? r = some o ∧ o.cls = .type "zip" := fun h k => ⟨orr, k _ _ hor, hoc⟩
  refine wpAny_bind (wpAny_typeOf (T := "zip") (tyAt _ k2) ?_)
  have g1 : Builtin.List.listSameRef (.ref s.heap.objs.size) (.ref r) = false := by simp [Builtin.List.listSameRef, Nat.ne_of_gt lr]
  have g2 : (Value.type "zip" == Value.type "list") = false := by decide
  have g3 : (Value.type "zip" == Value.type "tuple") = false := by decide
  simp only [g1, g2, g3, Bool.or_false, Bool.false_eq_true, if_false]
  refine wpAny_bind (self _ { s with heap := _ } _ _ k2 ?_)
  refine wpAny_bind (wpAny_holding (zip_hint (s := { s with heap := _ }) (tyAt _ k2) ?_))
  refine wpAny_ite_split (fun _ => ?_) (fun q => absurd rfl q)
  refine wpAny_bind (wpAny_rule ?_)
  refine wpAny_bind ?_
  show wpAny _ _ (updateSeq s.heap.objs.size (·.push .none) >>= fun _ => updateSeq s.heap.objs.size (·.pop)) _ _ _
  refine wpAny_bind (wpAny_updateSeq hS2 rfl ?_)
  have hS3 := Heap.get?_update_self (Obj.mapSeq (·.push Value.none)) hS2 rfl
  refine wpAny_updateSeq (hz := by seq_fits) hS3 rfl ?_
  have hS4 := Heap.get?_update_self (Obj.mapSeq (·.pop)) hS3 rfl
  have k4 := up _ (Obj.mapSeq (·.pop)) (up _ (Obj.mapSeq (·.push Value.none)) k2)
  obtain ⟨TT, st0⟩ := it _ k4
  refine wpAny_pure ⟨plainId_quiet PySem.F.plain_extend_loop _, ?_⟩
  refine grow_loop (A := A.in1) TT hn .none n 0 { s with heap := _ } _ _ [] (by omega) (Nat.zero_le _) st0 hS4 rfl rfl ⟨(fun a m => by cases m), .nil, (fun a m => by cases m), (fun j a e => by simp at e)⟩ fun h' tk acc c as kp e1 e2 e3 g => ?_
  exact ⟨rfl, hQ h' tk acc c as (fun b o nb e => kp b o (Nat.ne_of_lt (Heap.lt_size e)) nb (k4 b o e)) e1 e2 e3 g⟩
end
end Zz
namespace Dd
open PySem PySem.Spec PyProof.Rows L2
section
variable {P : Program} {w : World} {fs ex : List Addr} {H H' : Hp} {h h' : Heap}
theorem un_grow (k : ∀ b u, h.get? b = some u → h'.get? b = some u) (g : Grow H H') (n : ∀ b u, h.get? b = some u → H b = none → H' b = none) : L2.Un fs ex H H' h h' where
  keep := fun b u q _ _ _ => k b u q
  slot := fun b u q _ _ _ => ⟨u.slots, k b u q⟩
  free := fun b u q z _ => n b u q z
  there := fun b u q _ => ⟨u, k b u q⟩
  tups := fun b xs q => g b _ q
  frzs := fun b o u q => g b _ q
  tbls := fun b ps q => ⟨#[], by rw [g b _ q]; simp⟩
theorem hok_grow (x : HOk P w H h) (k : ∀ b u, h.get? b = some u → h'.get? b = some u) (g : Grow H H') (n : ∀ b u, H' b = some u → H b = some u ∨ ObjOk P w H' h' b u) : HOk P w H' h' := fun b u e => by
  rcases n b u e with q | q
  · exact (x b u q).stay (fun c v _ z => k c v z) (fun c z => g c _ z) (fun c xs z => g c _ z)
  · exact q
theorem inv_grow {X : Cx} {pins : List (Addr × Obj)} {σ : L2.St} {s : Shared} {tk : Nat} (I : Inv X pins σ H s) (k : ∀ b u, s.heap.get? b = some u → h'.get? b = some u) (g : Grow H H') (n : ∀ b, H' b ≠ H b → s.heap.objs.size ≤ b) (ok : ∀ b u, H' b = some u → H b = some u ∨ ObjOk X.prog X.w H' h' b u) :
    Inv X pins σ H' { s with heap := h', toks := tk } :=
  I.un (un_grow k g fun b u q z => by
    by_cases e : H' b = H b
    · rw [e]; exact z
    · exact absurd (Heap.lt_size q) (Nat.not_lt.mpr (n b e))) (hok_grow I.hok k g ok)
end
/-- new tuples at ts, and the list of them at l -/
def newL (H : Hp) (l : Addr) (ts : List Addr) (ys : List (List V)) : Hp := fun b => if b = l then some (.lst (ts.map .ref)) else match (ts.zip ys).lookup b with
  | some y => some (.tup y)
  | none => H b
theorem lookup_zip {α : Type} : ∀ (ts : List Addr) (ys : List α) (j : Nat) (t : Addr) (y : α), ts.Nodup → ts[j]? = some t → ys[j]? = some y → (ts.zip ys).lookup t = some y
  | [], _, _, _, _, _, e, _ => by simp at e
  | _ :: _, [], _, _, _, _, _, e => by simp at e
  | a :: ts, b :: ys, 0, t, y, nd, e1, e2 => by
    simp at e1 e2
    subst e1 e2
    simp [List.zip_cons_cons, List.lookup]
  | a :: ts, b :: ys, j + 1, t, y, nd, e1, e2 => by
    have h1 : ts[j]? = some t := by simpa using e1
    have h2 : ys[j]? = some y := by simpa using e2
    have ne : ¬ t = a := fun z => by
      subst z
      exact (List.nodup_cons.mp nd).1 (List.mem_of_getElem? h1)
    rw [List.zip_cons_cons, List.lookup_cons]
    rw [show (t == a) = false by simpa using ne]
    exact lookup_zip ts ys j t y (List.nodup_cons.mp nd).2 h1 h2
theorem lookup_in {α : Type} : ∀ (ts : List Addr) (ys : List α) (t : Addr) (y : α), (ts.zip ys).lookup t = some y → ∃ j : Nat, ts[j]? = some t ∧ ys[j]? = some y
  | [], _, _, _, e => by simp at e
  | _ :: _, [], _, _, e => by simp at e
  | a :: ts, b :: ys, t, y, e => by
    rw [List.zip_cons_cons, List.lookup_cons] at e
    cases c : (t == a) with
    | true =>
      rw [c] at e
      have : t = a := by simpa using c
      exact ⟨0, by simp [this], by simpa using e⟩
    | false =>
      rw [c] at e
      obtain ⟨j, h1, h2⟩ := lookup_in ts ys t y e
      exact ⟨j + 1, by simpa using h1, by simpa using h2⟩
def rLZ (K : PySem.W.Frag) : List V → Hp → VK → Prop := fun vs H Q => ∃ a b xs ys, vs = [.ref a, .ref b] ∧ (SqL K H a xs ∨ SqT K H a xs) ∧ (SqL K H b ys ∨ SqT K H b ys) ∧ min xs.length ys.length ≤ sizeLine ∧
  ∀ (l : Addr) (ts : List Addr), H l = none → (∀ t ∈ ts, H t = none ∧ t ≠ l) → ts.Nodup → ts.length = min xs.length ys.length → Q (.ref l) (newL H l ts ((xs.zip ys).map fun p => [p.1, p.2]))

/-- a source of a zip: a list or a tuple -/
theorem zsrc {X : Cx} {pins : List (Addr × Obj)} {σ : L2.St} {H : Hp} {s : Shared} {a : Addr} {xs : List V} (I : Inv X pins σ H s) (h : SqL X.K H a xs ∨ SqT X.K H a xs) :
    ∃ (its : List Value) (o : Obj) (G : Heap → Prop) (st : Addr → Nat → Heap → Prop), Vals xs its ∧ G s.heap ∧ Begins (.ref a) o G ∧ a < s.heap.objs.size ∧ ∀ (prog : Program) (w : World) (A : Around) (it : Addr), A.handled = none → a ≠ it →
      Draws prog w A it [it, a] its.length (fun i v => its[i]? = some v) (st it) ∧ ∀ h : Heap, G h → h.get? it = some o → st it 0 h := by
  rcases h with h | h
  · obtain ⟨its, rv, p, _⟩ := I.list h
    refine ⟨its, _, _, fun it i h => h.IsListIter it a i ∧ h.IsList a its.toArray, rv, p.isList, begins_list a its.toArray, p.lt, fun prog w A it hh ne => ⟨?_, fun h g e => ⟨⟨_, e, rfl, rfl⟩, g⟩⟩⟩
    have D := Draws.list (prog := prog) (w := w) (A := A) hh it a ne its.toArray
    simpa using D
  · obtain ⟨its, rv, p, _⟩ := I.tuple h
    have lt : a < s.heap.objs.size := by
      obtain ⟨o, ho, _⟩ := id p
      exact Heap.lt_size ho
    refine ⟨its, _, _, fun it i h => h.IsTupleIter it a i ∧ h.IsTuple a its.toArray, rv, p, begins_tuple a its.toArray, lt, fun prog w A it hh ne => ⟨?_, fun h g e => ⟨⟨_, e, rfl, rfl⟩, g⟩⟩⟩
    have D := Draws.tuple (prog := prog) (w := w) (A := A) hh it a ne its.toArray
    simpa using D

theorem vals_at : ∀ {xs : List V} {us : List Value}, Vals xs us → ∀ (j : Nat) (u : Value), us[j]? = some u → ∃ x, xs[j]? = some x ∧ RelV x u
  | _, _, .nil, j, u, e => by simp at e
  | _, _, .cons r t, 0, u, e => by simp at e; subst e; exact ⟨_, rfl, r⟩
  | _, _, .cons r t, j + 1, u, e => by simpa using vals_at t j u (by simpa using e)
theorem ane {x y : Nat} (h : x < y ∨ y < x) : ¬ ((show Addr from x) = (show Addr from y)) := fun e => by
  have e : x = y := e
  omega
theorem pe_listzip {X : Cx} {e e2 : Expr} {ta : TA} {p1 p2 pos pos2 : Pos} (hc : X.calm = true) (gl : Gl X "list") (ml : X.mg "list" = none) (gz : Gl X "zip") (mz : X.mg "zip" = none) (ha : PA X [e, e2] ta)
    (hs : starEach [e, e2] X.env = (false, eval e X.env) :: starEach [e2] X.env := by rfl) (hpl : (backTo pos2 (starEach [e2] X.env)).any (·.1) = false := by rfl)
    (he : starEach [.Call (.Name "zip" p2) [e, e2] [] pos2] X.env = (false, eval (.Call (.Name "zip" p2) [e, e2] [] pos2) X.env) :: starEach [] X.env := by rfl) :
    PE X (.Call (.Name "list" p1) [.Call (.Name "zip" p2) [e, e2] [] pos2] [] pos) (tCB (rLZ X.K) ta) := by
  refine ⟨fun pins s σ H Q I h => ?_⟩
  refine wpAny_Call_Name_kw (ld_blt I gl ml boot_list ?_)
  refine PyProof.Rows.callWith_type1 ?_ he rfl
  rw [he]
  show wpAny _ _ (spliced ((false, eval _ X.env) :: backTo pos (starEach [] X.env))) _ _ s
  refine Calls.spliced_cons (wpAny_Call_Name_kw (ld_blt I gz mz PyProof.Rows.boot_zip (PyProof.Rows.callWith_type1 (thn (ha.run pos2 pins s σ H _ I h) fun us s1 ⟨vs, H1, I1, r1, q1⟩ => ?_) hs hpl)))
  obtain ⟨a, b, xs, ys, rfl, qx, qy, hz, q⟩ := q1
  obtain ⟨u1, u2, rfl, ra, rb⟩ := vals2 r1
  cases ra
  cases rb
  obtain ⟨ix, o1, G1, st1, v1, g1, B1, la, D1⟩ := zsrc I1 qx
  obtain ⟨iy, o2, G2, st2, v2, g2, B2, lb, D2⟩ := zsrc I1 qy
  refine zip_begins2 B1 B2 g1 g2 fun h' z1 z2 z3 z4 z5 z6 z7 => ?_
  refine Calls.spliced_nil ?_
  have hd := I1.ok.hd hc
  have S := zip_sep2 (N := s1.heap.objs.size) (fp1 := [a]) (fp2 := [b]) (by simpa using la) (by simpa using lb)
  have nx := v1.length
  have ny := v2.length
  have IT : ∀ hh : Heap, (∀ b o, h'.get? b = some o → hh.get? b = some o) → Zz.TupIt X.prog X.w X.A.in1.in1 h'.objs.size (s1.heap.objs.size + 4) (min xs.length ys.length) (fun i vals => ∃ x y, ix[i]? = some x ∧ iy[i]? = some y ∧ vals = #[x, y]) [s1.heap.objs.size + 4, s1.heap.objs.size + 3, s1.heap.objs.size, s1.heap.objs.size + 1]
      (Zz.zSt h'.objs.size (s1.heap.objs.size + 4) (s1.heap.objs.size + 2) (s1.heap.objs.size + 3) s1.heap.objs.size (s1.heap.objs.size + 1) (st1 s1.heap.objs.size) (st2 (s1.heap.objs.size + 1))) ∧
      Zz.zSt h'.objs.size (s1.heap.objs.size + 4) (s1.heap.objs.size + 2) (s1.heap.objs.size + 3) s1.heap.objs.size (s1.heap.objs.size + 1) (st1 s1.heap.objs.size) (st2 (s1.heap.objs.size + 1)) 0 hh := fun hh kk => by
    obtain ⟨d1, t1⟩ := D1 X.prog X.w X.A.in1.in1.in1 s1.heap.objs.size hd (Nat.ne_of_lt la)
    obtain ⟨d2, t2⟩ := D2 X.prog X.w X.A.in1.in1.in1 (s1.heap.objs.size + 1) hd (Nat.ne_of_lt (Nat.lt_succ_of_lt lb))
    have la' : @LT.lt Nat _ a s1.heap.objs.size := la
    have lb' : @LT.lt Nat _ b s1.heap.objs.size := lb
    have ga : a ≠ h'.objs.size := ane (by omega)
    have gb : b ≠ h'.objs.size := ane (by omega)
    refine ⟨Zz.zip_it S d1 d2 _ (by rw [nx, ny]) (ane (by omega)) (ane (by omega)) (ane (by omega)) ?_ ?_, ⟨kk _ _ z2, ⟨_, _, kk _ _ z3⟩, ⟨_, kk _ _ z4⟩, _, kk _ _ z5⟩, ⟨t1 _ (B1.keeps _ _ g1 fun c o e => kk _ _ (z7 c o e)) (kk _ _ z4), t2 _ (B2.keeps _ _ g2 fun c o e => kk _ _ (z7 c o e)) (kk _ _ z5)⟩, .inl (kk _ _ z1)⟩
    · simp only [List.mem_cons, List.not_mem_nil, or_false, not_or]
      exact ⟨ane (by omega), Ne.symm ga⟩
    · simp only [List.mem_cons, List.not_mem_nil, or_false, not_or]
      exact ⟨ane (by omega), Ne.symm gb⟩
  refine Zz.list_zip (s := { s1 with heap := h' }) (r := s1.heap.objs.size + 4) (fun h h' ⟨o, e, c⟩ k => ⟨o, k _ _ e, c⟩) IT ⟨_, z1, rfl⟩ (fun A s' Q E k hQ => wpAny_pyIter_zip (k _ _ z1) hQ) hz fun h2 tk acc c as kp e1 e2 e3 g => ?_
  have l0 : s1.heap.objs.size ≤ h'.objs.size := by omega
  have fr : ∀ t, s1.heap.objs.size ≤ t → H1 t = none := fun t ht => I1.hok.fresh ht
  have nd : as.Nodup := g.rise.imp fun hlt => Nat.ne_of_lt hlt
  have kp2 : ∀ b u, s1.heap.get? b = some u → h2.get? b = some u := fun c o e => by
    have lt : @LT.lt Nat _ c s1.heap.objs.size := Heap.lt_size e
    refine kp c o ?_ (z7 c o e)
    simp only [List.mem_cons, List.not_mem_nil, or_false, not_or]
    exact ⟨ane (by omega), ane (by omega), ane (by omega), ane (by omega)⟩
  have hl : ∀ t ∈ as, h'.objs.size < t := g.lo
  have ll : ((xs.zip ys).map fun p => [p.1, p.2]).length = as.length := by rw [List.length_map, List.length_zip, e3]
  have look : ∀ {t y}, (as.zip ((xs.zip ys).map fun p => [p.1, p.2])).lookup t = some y → ∃ (j : Nat) (x y' : V), as[j]? = some t ∧ xs[j]? = some x ∧ ys[j]? = some y' ∧ y = [x, y'] := fun {t y} e => by
    obtain ⟨j, h1, h2⟩ := lookup_in _ _ _ _ e
    rw [List.getElem?_map] at h2
    cases e4 : (xs.zip ys)[j]? with
    | none => rw [e4] at h2; cases h2
    | some p =>
      rw [e4] at h2
      obtain ⟨g1, g2⟩ := List.getElem?_zip_eq_some.mp e4
      exact ⟨j, p.1, p.2, h1, g1, g2, by simpa using h2.symm⟩
  have ge : ∀ t y, (as.zip ((xs.zip ys).map fun p => [p.1, p.2])).lookup t = some y → s1.heap.objs.size ≤ t := fun t y e => by
    obtain ⟨j, x, y', h1, _⟩ := look e
    have := hl t (List.mem_of_getElem? h1)
    exact Nat.le_of_lt (Nat.lt_of_le_of_lt l0 this)
  have gr : Grow H1 (newL H1 h'.objs.size as ((xs.zip ys).map fun p => [p.1, p.2])) := fun c o e => by
    have lc : c < s1.heap.objs.size := I1.hok.lt e
    unfold newL
    rw [if_neg (Nat.ne_of_lt (Nat.lt_of_lt_of_le lc l0))]
    cases q : (as.zip ((xs.zip ys).map fun p => [p.1, p.2])).lookup c with
    | none => exact e
    | some y => exact absurd lc (Nat.not_lt.mpr (ge c y q))
  have II : Inv X pins σ (newL H1 h'.objs.size as ((xs.zip ys).map fun p => [p.1, p.2])) { s1 with heap := h2, toks := tk } := by
    refine inv_grow I1 kp2 gr (fun c hn => ?_) (fun c u e => ?_)
    · by_cases c1 : c = h'.objs.size
      · rw [c1]; exact l0
      · unfold newL at hn
        rw [if_neg c1] at hn
        cases q : (as.zip ((xs.zip ys).map fun p => [p.1, p.2])).lookup c with
        | none => rw [q] at hn; exact absurd rfl hn
        | some y => exact ge c y q
    · by_cases c1 : c = h'.objs.size
      · subst c1
        right
        unfold newL at e
        rw [if_pos rfl] at e
        cases e
        refine ⟨by rw [List.length_map, e3]; exact hz, acc.toList, _, ?_, by rw [Array.toArray_toList]; exact e1⟩
        rw [e2]
        clear e1 e2 e3 nd hl ll look ge gr kp g
        induction as with
        | nil => exact .nil
        | cons t as ih => exact .cons rfl ih
      · unfold newL at e
        rw [if_neg c1] at e
        cases q : (as.zip ((xs.zip ys).map fun p => [p.1, p.2])).lookup c with
        | none => rw [q] at e; exact .inl e
        | some y =>
          rw [q] at e
          cases e
          right
          obtain ⟨j, x, y', h1, h2', h3', rfl⟩ := look q
          obtain ⟨vals, ⟨u, v, f1, f2, rfl⟩, f3⟩ := g.tu j c h1
          obtain ⟨x2, gx, rx⟩ := vals_at v1 j u f1
          obtain ⟨y2, gy, ry⟩ := vals_at v2 j v f2
          rw [h2'] at gx
          rw [h3'] at gy
          cases gx
          cases gy
          exact ⟨by show 2 ≤ sizeLine; decide, [u, v], .cons rx (.cons ry .nil), ⟨_, f3, rfl, _, rfl⟩⟩
  exact ⟨.ref h'.objs.size, _, II, rfl, q _ as (fr _ l0) (fun t ht => ⟨fr _ (Nat.le_of_lt (Nat.lt_of_le_of_lt l0 (hl t ht))), Nat.ne_of_gt (hl t ht)⟩) nd e3⟩
end Dd
namespace Dd
open PySem PySem.Spec PyProof.Rows L2
def zipD (ds es : List Da) : List Da := (ds.zip es).map fun p => .tup [p.1, p.2]
theorem zipD_len (ds es : List Da) : (zipD ds es).length = min ds.length es.length := by simp [zipD]
theorem zipD_get {ds es : List Da} {m : Nat} {d : Da} (h : (zipD ds es)[m]? = some d) : ∃ x y, ds[m]? = some x ∧ es[m]? = some y ∧ d = .tup [x, y] := by
  unfold zipD at h
  rw [List.getElem?_map] at h
  cases e : (ds.zip es)[m]? with
  | none => rw [e] at h; cases h
  | some p =>
    rw [e] at h
    obtain ⟨h1, h2⟩ := List.getElem?_zip_eq_some.mp e
    exact ⟨p.1, p.2, h1, h2, by simpa using h.symm⟩
/-- lists and tuples alike -/
inductive Sq : Da → List Da → Prop
  | lst (ds : List Da) : Sq (.lst ds) ds
  | tup (ds : List Da) : Sq (.tup ds) ds
theorem dnl_of : ∀ {n : Ns} {H : Hp} {ds : List Da} {vs : List V}, vs.length = ds.length → (∀ (j : Nat) (v : V) (d : Da), vs[j]? = some v → ds[j]? = some d → Dn n H v d) → DnL n H vs ds
  | n, H, [], [], _, _ => .nil
  | n, H, d :: ds, v :: vs, hl, h => .cons (h 0 v d rfl rfl) (dnl_of (by simpa using hl) fun j u e h1 h2 => h (j + 1) u e (by simpa using h1) (by simpa using h2))
section
variable {K : PySem.W.Frag} {ρ ρ' ρ0 ρ1 ρ2 : List Sl} {k1 k2 : Rk} {d e : Da} {ds es : List Da} {F : Fx} {te tl : TE} {tx : TA} {tt : TT} {t : TS} {g : TG} {D : Ends} {vs : List Nat} {Φ : Rw → List Sl → Prop}
theorem peekSq {n : Ns} {σ : L2.St} {H : Hp} {k : Rk} {v : V} (E : EnvOk F n ρ σ H) (r : RelK n σ H v k) (s : see ρ k = some d) (q : Sq d ds) : ∃ a us, v = .ref a ∧ (SqL K H a us ∨ SqT K H a us) ∧ (H a = some (.lst us) ∨ H a = some (.tup us)) ∧ DnL n H us ds := by
  cases q with
  | lst =>
    obtain ⟨a, us, rfl, h1, h2⟩ := peekL E r s
    exact ⟨a, us, rfl, .inl (.inl (.inl h1)), .inl h1, h2⟩
  | tup =>
    obtain ⟨a, us, rfl, h1, _, h2⟩ := peekT E r s
    exact ⟨a, us, rfl, .inr (.inl (.inl h1)), .inr h1, h2⟩
theorem newL_grow {H : Hp} {l : Addr} {ts : List Addr} {ys : List (List V)} (h1 : H l = none) (h2 : ∀ t ∈ ts, H t = none ∧ t ≠ l) : Grow H (newL H l ts ys) := fun c o e => by
  unfold newL
  rw [if_neg (ne_of_none e h1)]
  cases q : (ts.zip ys).lookup c with
  | none => exact e
  | some y =>
    obtain ⟨j, g1, _⟩ := lookup_in _ _ _ _ q
    have := (h2 c (List.mem_of_getElem? g1)).1
    rw [this] at e
    cases e
theorem b_lz (s1 : see ρ k1 = some d) (q1 : Sq d ds) (s2 : see ρ k2 = some e) (q2 : Sq e es) (z : min ds.length es.length ≤ sizeLine) : Cb (rLZ K) ρ [k1, k2] (.nw (zipD ds es)) := fun F n σ H vs Q E r1 q => by
  obtain ⟨v, u, rfl, r, r'⟩ := rk2 r1
  obtain ⟨a, xs, rfl, ha, _, hx⟩ := peekSq (K := K) E r s1 q1
  obtain ⟨b, ys, rfl, hb, _, hy⟩ := peekSq (K := K) E r' s2 q2
  refine ⟨a, b, xs, ys, rfl, ha, hb, by rw [hx.length, hy.length]; exact z, fun l ts h1 h2 h3 h4 => ?_⟩
  have g := newL_grow (ys := (xs.zip ys).map fun p => [p.1, p.2]) h1 h2
  have el : newL H l ts ((xs.zip ys).map fun p => [p.1, p.2]) l = some (.lst (ts.map .ref)) := if_pos rfl
  refine q _ _ (E.grow g) g.ext ⟨l, _, rfl, h1, E.more h1 g (by rw [el]; simp), el, ?_⟩
  refine dnl_of (by rw [List.length_map, zipD_len, h4, hx.length, hy.length]) fun j v d e1 e2 => ?_
  obtain ⟨x, y, f1, f2, rfl⟩ := zipD_get e2
  rw [List.getElem?_map] at e1
  cases e3 : ts[j]? with
  | none => rw [e3] at e1; cases e1
  | some t =>
    rw [e3] at e1
    obtain rfl : V.ref t = v := by simpa using e1
    obtain ⟨xv, gx, dx⟩ := hx.get j x f1
    obtain ⟨yv, gy, dy⟩ := hy.get j y f2
    have hz : ((xs.zip ys).map fun p => [p.1, p.2])[j]? = some [xv, yv] := by
      rw [List.getElem?_map, List.getElem?_zip_eq_some (z := (xv, yv)) |>.mpr ⟨gx, gy⟩]
      rfl
    obtain ⟨ht, nt⟩ := h2 t (List.mem_of_getElem? e3)
    have ht' : newL H l ts ((xs.zip ys).map fun p => [p.1, p.2]) t = some (.tup [xv, yv]) := by
      unfold newL
      rw [if_neg nt, lookup_zip ts _ j t _ h3 e3 hz]
    exact .tup ht' (fun w => w.elim (E.not ht) nt) (.cons (Dn.ext g.ext _ _ (dx.more h1)) (.cons (Dn.ext g.ext _ _ (dy.more h1)) .nil))
end
end Dd
namespace Dd
open PySem PySem.Spec PyProof.Rows L2
/-! ## what loops and comprehensions go over: a list of data, each handed out at its turn -/
def WalkD (F : Fx) (J : It) (ds : List Da) : Prop := Walk J ds.length (fun H => ∃ n ρ σ, EnvOk F n ρ σ H) (fun i H x H' => Grow H H' ∧ ∃ d, ds[i]? = some d ∧ ∀ n ρ σ, EnvOk F n ρ σ H → Dn n H' x d)
def WpI (wi : TI) (ρ : List Sl) (Φ : List Da → List Sl → Prop) : Prop := ∀ F n σ H, EnvOk F n ρ σ H → ∀ R : It → Hp → Prop,
  (∀ J H1 ds ρ0 G, Φ ds ρ0 → Fw F G → EnvOk G n ρ0 σ H1 → Ext n H H1 → WalkD G J ds → R J H1) → wi σ H R
section
variable {K : PySem.W.Frag} {F : Fx} {ρ ρ' ρ0 ρ1 ρ2 : List Sl} {te tl : TE} {tx : TA} {tt : TT} {t : TS} {g : TG} {D : Ends} {vs : List Nat} {Φ : Rw → List Sl → Prop} {wi : TI}
theorem nx_forI (h : WpI wi ρ fun ds ρ0 => ForK F g t D ds ρ0) : Nx F ρ (tFor wi g t D) := fun n σ H E => h F n σ H E _ fun J H1 ds ρ0 G f w E1 x1 wk => by
  obtain ⟨Z, h0, hs, hd⟩ := f
  refine for_it wk (D := D) (fun m σ' H' => At G (Z m) σ' H') ⟨n, ρ0, h0, E1⟩ (fun m σ' H' _ ⟨n', ρ', _, E'⟩ => ⟨n', ρ', σ', E'⟩) ?_ ?_
  · rintro m x σ' H' H2 hm ⟨n', ρ', z, E'⟩ ⟨gr, d, e1, e2⟩
    obtain ⟨ρ1, hg, hb⟩ := hs G m d ρ' w e1 z
    exact hg _ n' σ' H2 x (E'.grow gr) (e2 n' ρ' σ' E') _ fun σ2 E2 => hb n' σ2 H2 E2
  · rintro σ' H' ⟨n', ρ', z, E'⟩
    exact hd ρ' z n' σ' H' (w.un E')
theorem inC_grow {n : Ns} {σ : L2.St} {H1 H' H2 : Hp} {Dl : Addr} {Z : List Da → List Sl → Prop} (p : InC F n σ vs H1 Dl Z H') (g : Grow H' H2) : InC F n σ vs H1 Dl Z H2 := by
  obtain ⟨acc, ρ', us, z, E', e1, e2, x, len⟩ := p.ex
  exact ⟨acc, ρ', us, z, E'.grow g, g _ _ e1, DnL.ext g.ext _ _ e2, x.trans g.ext, len⟩
theorem fw_wipe {G : Fx} {n : Ns} {σ : L2.St} {H1 H' : Hp} {Dl : Addr} {Z : List Da → List Sl → Prop} (w : Fw F G) (p : InC G n σ vs H1 Dl Z H') : InC F n σ vs H1 Dl Z H' := by
  obtain ⟨acc, ρ', us, z, E', r⟩ := p.ex
  exact ⟨acc, ρ', us, z, w.un E', r⟩
theorem wp_lcI (h : WpI wi ρ fun ds ρ0 => LcK g tt te vs Φ ds ρ0) : Wp (tLc wi g tt te vs) ρ Φ := fun F n σ H E Q q => h F n σ H E _ fun J H1 ds ρ0 G f w E1 x1 wk => by
  obtain ⟨Z, h0, hz, hs, hd⟩ := f
  intro Dl hD
  have gg := Grow.upd (o := .lst []) hD
  have ho : ¬ n.ow Dl := fun z => E1.al Dl (n.le _ z) hD
  have G0 := E1.h0 hD
  have start : InC G n σ vs H1 Dl (fun acc ρ' => 0 ≤ ds.length ∧ Z 0 acc ρ') (upd H1 Dl (.lst [])) := by
    refine ⟨[], ρ0, [], ⟨Nat.zero_le _, h0⟩, ?_, upd_same, .nil, gg.ext, by rw [E1.len]⟩
    exact (E1.more hD gg (by rw [upd_same]; simp)).wipe vs
  refine lc_it wk (Qd := Q (.ref Dl)) (fun m H' => InC G n σ vs H1 Dl (fun acc ρ' => m ≤ ds.length ∧ Z m acc ρ') H') start (fun m H' _ p => ?_) ?_ ?_
  · obtain ⟨acc, ρ', ws, z, E', _⟩ := p.ex
    exact ⟨_, _, _, E'⟩
  · rintro m x H' H2 hm p ⟨gr, d, e1, e2⟩
    refine inC_turn (F := G) (Z1 := fun acc ρ' => m + 1 ≤ ds.length ∧ Z (m + 1) acc ρ') hD ho G0 (inC_grow p gr) (d := d) (fun ρ' E' => ?_) (fun acc ρ' z => hz m acc ρ' z.1 z.2) (fun acc ρ' z => ?_)
    · obtain ⟨acc, ρ2, ws, z, E2, _⟩ := p.ex
      exact e2 _ _ _ E2
    · obtain ⟨ρ1, t1, t2⟩ := hs m d acc ρ' e1 z.2
      exact ⟨ρ1, t1, t2.imp fun b ρ2 ⟨t3, t4⟩ => ⟨fun hb => (t3 hb).imp fun k ρ3 ⟨e, t5, t6⟩ => ⟨e, t5, hm, t6⟩, fun hb => ⟨hm, t4 hb⟩⟩⟩
  · intro H' p
    exact lc_end (F := F) (vs := vs) (Φ := Φ) x1 (w.un E1) hD (Z := fun acc ρ' => ds.length ≤ ds.length ∧ Z ds.length acc ρ') (fw_wipe w p) (fun acc ρ' z => hd acc ρ' z.2) q
theorem wi_lst {ΦI : List Da → List Sl → Prop} (h : Wp te ρ fun k ρ0 => ∃ ds, soft k = .da (.lst ds) ∧ ΦI ds ρ0) : WpI (iSeq K te) ρ ΦI := fun F n σ H E R g => .inl (h F n σ H E _ fun v H1 k ρ0 f E1 x1 r1 => by
  have r1 := r1.soft E
  obtain ⟨ds, hk, q⟩ := f
  rw [hk] at r1
  cases r1 with
  | @lst a us _ ha hna hds =>
    refine ⟨a, rfl, ⟨us, .inl (.inl ha)⟩, g _ H1 ds ρ0 _ q (.w a (.lst us) us ds .refl) (E1.wrap ha hna hds) x1 ?_⟩
    unfold WalkD
    rw [← hds.length]
    refine (walk_list (K := K) (a := a) (xs := us)).mono (fun H ⟨n', ρ', σ', E'⟩ => .inl (.inl (E'.gh _ List.mem_cons_self).1)) (fun i H x H' hi ⟨n', ρ', σ', E'⟩ y => ?_)
    obtain ⟨rfl, y2⟩ := y
    obtain ⟨d, e1, _⟩ := (E'.gh _ List.mem_cons_self).2.2.getV i x y2
    refine ⟨.refl, d, e1, fun n2 ρ2 σ2 E2 => ?_⟩
    obtain ⟨d2, e3, e4⟩ := (E2.gh _ List.mem_cons_self).2.2.getV i x y2
    have : d2 = d := Option.some.inj (e3.symm.trans e1)
    exact this ▸ e4)
theorem wi_tup {ΦI : List Da → List Sl → Prop} (h : Wp te ρ fun k ρ0 => ∃ ds, soft k = .da (.tup ds) ∧ ΦI ds ρ0) : WpI (iSeq K te) ρ ΦI := fun F n σ H E R g => .inr (h F n σ H E _ fun v H1 k ρ0 f E1 x1 r1 => by
  have r1 := r1.soft E
  obtain ⟨ds, hk, q⟩ := f
  rw [hk] at r1
  cases r1 with
  | @tup a us _ ha hna hds =>
    refine ⟨a, rfl, ⟨us, .inl (.inl ha)⟩, g _ H1 ds ρ0 _ q (.w a (.tup us) us ds .refl) (E1.wrap ha hna hds) x1 ?_⟩
    unfold WalkD
    rw [← hds.length]
    refine (walk_tup (K := K) (a := a) (xs := us)).mono (fun H ⟨n', ρ', σ', E'⟩ => .inl (.inl (E'.gh _ List.mem_cons_self).1)) (fun i H x H' hi ⟨n', ρ', σ', E'⟩ y => ?_)
    obtain ⟨rfl, y2⟩ := y
    obtain ⟨d, e1, _⟩ := (E'.gh _ List.mem_cons_self).2.2.getV i x y2
    refine ⟨.refl, d, e1, fun n2 ρ2 σ2 E2 => ?_⟩
    obtain ⟨d2, e3, e4⟩ := (E2.gh _ List.mem_cons_self).2.2.getV i x y2
    have : d2 = d := Option.some.inj (e3.symm.trans e1)
    exact this ▸ e4)
/-! enumerate -/
def enumD (ds : List Da) : List Da := ds.mapIdx fun i d => .tup [.int (i : Nat), d]
theorem enumD_len (ds : List Da) : (enumD ds).length = ds.length := by simp [enumD]
theorem enumD_get {ds : List Da} {i : Nat} : (enumD ds)[i]? = (ds[i]?).map fun d => .tup [.int (i : Nat), d] := by simp [enumD]
/-- the tuple at a, each item in a new pair -/
def IteT (K : PySem.W.Frag) (a : Addr) : It :=
  ⟨fun i H => ∃ xs x, SqT K H a xs ∧ xs[i]? = some x, fun i H v H' => ∃ T x, v = .ref T ∧ H T = none ∧ H' = upd H T (.tup [.int (i : Nat), x]) ∧ ∀ xs, SqT K H a xs → xs[i]? = some x, fun i H => ∃ xs, SqT K H a xs ∧ xs.length = i⟩
theorem turn_enumT {P : Program} {w : World} {K : PySem.W.Frag} {elts : List Expr} {kk : Nat} {tpos : Pos} (a e it : Addr) :
    Turn P w K (.Tuple elts kk tpos) (IteT K a) [e, it] e (fun i h => (∃ old, IsEnum h e it ((i : Nat) : Int) old) ∧ (h.IsTupleIter it a i) ∧ e ≠ it ∧ e ≠ a ∧ a ≠ it) where
  mem := List.mem_cons_self
  obj := fun i h st b hb => by
    obtain ⟨⟨old, he⟩, ⟨o, ho, hc, hd⟩, _⟩ := st
    have hb' : b = e ∨ b = it := by simpa using hb
    rcases hb' with rfl | rfl
    · exact ⟨_, he, fun v q => by cases q⟩
    · exact ⟨o, ho, fun v q => by rw [hd] at q; cases q⟩
  keep := fun i h h' st k => by
    obtain ⟨⟨old, he⟩, hi, hne⟩ := st
    exact ⟨⟨old, k e List.mem_cons_self _ he⟩, hi.at fun o q => k it (List.mem_cons_of_mem _ List.mem_cons_self) o q, hne⟩
  item := by
    intro X hP hw hK hc i pins s σ H E I hf st hg
    subst hP hw hK
    obtain ⟨⟨old, he⟩, hit, hne, hea, hai⟩ := st
    obtain ⟨xs, x, hq, hx⟩ := hg
    obtain ⟨its, rv, p, hz⟩ := I.tuple hq
    obtain ⟨u, hu, ru⟩ := rv.get hx
    have hl : i < its.length := (List.getElem?_eq_some_iff.mp hu).1
    have hd := I.ok.hd hc
    have DD := Draws.tuple (prog := X.prog) (w := X.w) (A := X.A.in1) hd it a hai its.toArray
    have hel : e < s.heap.objs.size := Heap.lt_size he
    have hil : it < s.heap.objs.size := by obtain ⟨_, q, _⟩ := hit; exact Heap.lt_size q
    refine wpAny_pyNext_enum_itemD DD he (⟨hit, p⟩ : s.heap.IsTupleIter it a i ∧ s.heap.IsTuple a its.toArray) (by simpa using hl) hne (by simp [hne, hea]) fun x' h1 tk hx' ho hst hT hsz hk => ?_
    obtain rfl : u = x' := by
      have : its[i]? = some x' := by simpa using hx'
      rw [hu] at this
      exact Option.some.inj this
    refine ⟨_, rfl, wpAny_letOwnedTupleGo_enum (s := { s with heap := h1, toks := tk + 1 }) ho fun h2 he2 sb => ?_⟩
    have hT2 : h2.get? s.heap.objs.size = some { cls := .type "tuple", data := .seq #[.int i tk, u] } := (sb.2 _ (Nat.ne_of_gt hel)).trans hT
    have new : ObjOk X.prog X.w (upd H s.heap.objs.size (.tup [.int (i : Nat), x])) h2 s.heap.objs.size (.tup [.int (i : Nat), x]) :=
      ⟨by show 2 ≤ sizeLine; decide, [.int i tk, u], .cons ⟨_, rfl⟩ (.cons ru .nil), ⟨_, hT2, rfl, _, rfl⟩⟩
    have kp : ∀ b ob, b ∉ [e, it] → s.heap.get? b = some ob → h2.get? b = some ob := fun b ob hb q => by
      simp only [List.mem_cons, List.not_mem_nil, or_false, not_or] at hb
      exact (sb.2 b hb.1).trans (hk b ob hb.1 hb.2 q)
    have I1 : Inv X pins σ (upd H s.heap.objs.size (.tup [.int (i : Nat), x])) { s with heap := h2, toks := tk + 1 } := I.turnedNew (ch := [e, it]) (fun b ob hb q => kp b ob hb q) hf (Nat.le_refl _) new
    refine ⟨.ref s.heap.objs.size, _, I1, rfl, ⟨_, x, rfl, I.hok.fresh (Nat.le_refl _), rfl, fun ys hy => by rw [I.tuple_inj hy hq]; exact hx⟩, ⟨⟨u, ?_⟩, hst.1.at fun o q => (sb.2 it (Ne.symm hne)).trans q, hne, hea, hai⟩, fun b hb => ?_⟩
    · have e1 : ((i + 1 : Nat) : Int) = (i : Int) + 1 := by omega
      rw [e1]
      exact he2
    · have hb' : b = e ∨ b = it := by simpa using hb
      have lt : b < s.heap.objs.size := by rcases hb' with rfl | rfl <;> assumption
      rw [upd_ne (Nat.ne_of_lt lt)]
      exact (hf b hb).1
  done := by
    intro X hP hw hK hc i pins s σ H E I hf st hg
    subst hP hw hK
    obtain ⟨⟨old, he⟩, hit, hne, hea, hai⟩ := st
    obtain ⟨xs, hq, hx⟩ := hg
    obtain ⟨its, rv, p, hz⟩ := I.tuple hq
    obtain rfl : its.length = i := rv.length.symm.trans hx
    have hd := I.ok.hd hc
    have DD := Draws.tuple (prog := X.prog) (w := X.w) (A := X.A.in1) hd it a hai its.toArray
    obtain ⟨f0, f1, f2, f3, f4, f5⟩ := hf it (by simp)
    exact wpAny_pyNext_enum_endD DD he (by simpa using (⟨hit, p⟩ : s.heap.IsTupleIter it a its.length ∧ s.heap.IsTuple a its.toArray)) fun h' eb => ⟨rfl, I.turned (t' := s.toks) (fun b o hb q => eb b o hb q) f0 f1 f3 f4 f5⟩
  self := fun A i s Q E st h => by
    obtain ⟨⟨_, he⟩, _⟩ := st
    exact wpAny_pyIter_enum he h
theorem meets_enumT (t : Addr) (items : Array Value) :
    Meets (Builtin.«enumerate.__new__» ⟨[.type "enumerate", .ref t], []⟩) (fun _ R s => s.heap.IsTuple t items ∧
      R (.ok (.ret (.ref (s.heap.push { cls := .type "tuple_iterator", data := .fields #[.ref t, .int 0 0] }).objs.size)))
        { s with heap := (s.heap.push { cls := .type "tuple_iterator", data := .fields #[.ref t, .int 0 0] }).push { cls := .type "enumerate", data := .fields #[.none, .bool false, .ref s.heap.objs.size, rawInt 0, .none, .none] } }) :=
  .of_wp fun prog w A R s hh => by
    obtain ⟨hp, gg, dd, tk, os⟩ := s
    obtain ⟨hl, hR⟩ := hh
    have hsub := sub_enumerate
    have hL : Heap.IsTuple (Shared.heap ⟨hp, gg, dd, tk, os⟩) t items := hl
    wp_walk using wpAny_pyIter_tuple hL
    refine wpAny_stack_any fun st => wpAny_pure ?_
    split
    · rename_i c _ _ _ _ _
      cases (c == Value.type "enumerate")
      · wp_walk using wpAny_pyIter_tuple hL
        exact ⟨_, rfl, hR⟩
      · wp_walk using wpAny_pyIter_tuple hL
        exact ⟨_, rfl, hR⟩
    · wp_walk using wpAny_pyIter_tuple hL
      exact ⟨_, rfl, hR⟩
theorem call_enumT {prog : Program} {w : World} {A : Around} {E : Value → Shared → Prop} {s : Shared} {l : Addr} {items : Array Value} {Q : Value → Shared → Prop} (hL : s.heap.IsTuple l items)
    (h : ∀ h', IsEnum h' (s.heap.objs.size + 1) s.heap.objs.size 0 .none → h'.IsTupleIter s.heap.objs.size l 0 → (∀ b o, s.heap.get? b = some o → h'.get? b = some o) → Q (.ref (s.heap.objs.size + 1)) { s with heap := h' }) :
    wpAny (model prog w) A (call (.type "enumerate") [.ref l]) Q E s := by
  refine callType_new F.called_enumerate (by decide) (F.typeCall_enumerate_1 _) (F.newCall_enumerate_1 _) (fun obj => F.args_object_init_2 obj _) F.entry_enumerate_new (meets_enumT l items) ⟨hL, ?_⟩
  have sz : (s.heap.push { cls := .type "tuple_iterator", data := .fields #[.ref l, .int 0 0] }).objs.size = s.heap.objs.size + 1 := Heap.size_push ..
  show _ ∧ _
  rw [sz]
  have he := Heap.get?_push_size (s.heap.push { cls := .type "tuple_iterator", data := .fields #[.ref l, .int 0 0] }) (o := { cls := .type "enumerate", data := .fields #[.none, .bool false, .ref s.heap.objs.size, rawInt 0, .none, .none] }) rfl
  rw [sz] at he
  exact ⟨⟨_, he, rfl⟩, h _ he ⟨_, Heap.get?_push_of_some _ (Heap.get?_push_size _ rfl), rfl, rfl⟩ fun b o x => Heap.get?_push_of_some _ (Heap.get?_push_of_some _ x)⟩
def iEnumA (K : PySem.W.Frag) (ta : TA) : TI := fun σ H R => ta σ H fun vs H1 => ∃ a xs, vs = [.ref a] ∧ ((SqL K H1 a xs ∧ R (Ite K a) H1) ∨ (SqT K H1 a xs ∧ R (IteT K a) H1))
theorem pi_enumA {X : Cx} {e : Expr} {ta : TA} {p pos tpos : Pos} {elts : List Expr} {kk : Nat} (hg : Gl X "enumerate") (hm : X.mg "enumerate" = none) (ha : PA X [e] ta) (hs : starEach [e] X.env = [(false, eval e X.env)] := by rfl) :
    PI X (.Tuple elts kk tpos) (.Call (.Name "enumerate" p) [e] [] pos) (iEnumA X.K ta) := by
  refine ⟨fun pins s σ H R I h => ?_⟩
  refine wpAny_Call_Name_kw (ld_blt I hg hm boot_enumerate (PyProof.Rows.callWith_type1 (thn (ha.run pos pins s σ H _ I h) fun us s1 ⟨vs, H1, I1, r1, q1⟩ => ?_) hs rfl))
  obtain ⟨a, xs, rfl, q⟩ := q1
  obtain ⟨u, rfl, ru⟩ := vals1 r1
  cases ru
  have fp : ∀ b ∈ [s1.heap.objs.size + 1, s1.heap.objs.size], FpOk X pins H1 b := fun b hb => by
    have hb' : b = s1.heap.objs.size + 1 ∨ b = s1.heap.objs.size := by simpa using hb
    have hle : s1.heap.objs.size ≤ b := by
      rcases hb' with rfl | rfl
      · exact Nat.le_add_right _ _
      · exact Nat.le_refl _
    exact I1.fpOk hle (I1.hok.fresh hle)
  rcases q with ⟨hq, q⟩ | ⟨hq, q⟩
  · obtain ⟨its, rv, p', hz⟩ := I1.list hq
    refine call_enumerate_list p'.isList fun h' he hit hsz hk => wpAny_pyIter_enum he ?_
    exact ⟨s1.heap.objs.size + 1, [s1.heap.objs.size + 1, s1.heap.objs.size], _, _, H1, rfl, I1.kept (t' := s1.toks) hk, turn_enum a (s1.heap.objs.size + 1) s1.heap.objs.size, ⟨⟨.none, he⟩, hit, Nat.succ_ne_self _⟩, fp, q⟩
  · obtain ⟨its, rv, p', hz⟩ := I1.tuple hq
    have lt : a < s1.heap.objs.size := by
      obtain ⟨o, ho, _⟩ := id p'
      exact Heap.lt_size ho
    refine call_enumT (show s1.heap.IsTuple a its.toArray from p') fun h' he hit hk => wpAny_pyIter_enum he ?_
    exact ⟨s1.heap.objs.size + 1, [s1.heap.objs.size + 1, s1.heap.objs.size], _, _, H1, rfl, I1.kept (t' := s1.toks) hk, turn_enumT a (s1.heap.objs.size + 1) s1.heap.objs.size, ⟨⟨.none, he⟩, hit, Nat.succ_ne_self _, Nat.ne_of_gt (Nat.lt_succ_of_lt lt), Nat.ne_of_lt lt⟩, fp, q⟩
theorem walk_enumT {K : PySem.W.Frag} {a : Addr} {xs : List V} : Walk (IteT K a) xs.length (fun H => SqT K H a xs) (YPair (fun i => some (.int (i : Nat))) (fun i => xs[i]?)) := by
  refine ⟨fun i _ hi q => ⟨xs, xs[i], q, by simp [hi]⟩, fun _ q => ⟨xs, q, rfl⟩, fun i H v H' _ q y => ?_⟩
  obtain ⟨T, x, h1, h2, h3, h4⟩ := y
  exact ⟨T, .int (i : Nat), x, h1, h2, h3, rfl, h4 xs q⟩
end
section
variable {K : PySem.W.Frag} {F : Fx} {ρ ρ0 ρ1 : List Sl} {te te2 : TE} {ΦI : List Da → List Sl → Prop}
/-- new pairs -/
theorem walkD_pair {G : Fx} {J : It} {m : Nat} {GH : Hp → Prop} {A B : Nat → Option V} {ds : List Da} (w : Walk J m GH (YPair A B)) (hm : m = ds.length) (hG : ∀ n ρ σ H, EnvOk G n ρ σ H → GH H)
    (hd : ∀ i x y, A i = some x → B i = some y → i < m → ∃ dx dy, ds[i]? = some (.tup [dx, dy]) ∧ ∀ n ρ σ H, EnvOk G n ρ σ H → Dn n H x dx ∧ Dn n H y dy) : WalkD G J ds := by
  subst hm
  refine w.mono (fun H ⟨n', ρ', σ', E'⟩ => hG _ _ _ _ E') (fun i H v H' hi ⟨n', ρ', σ', E'⟩ y => ?_)
  obtain ⟨T, x, y, rfl, hT, rfl, hx, hy⟩ := y
  obtain ⟨dx, dy, e, hh⟩ := hd i x y hx hy hi
  have gr := Grow.upd (o := .tup [x, y]) hT
  refine ⟨gr, _, e, fun n2 ρ2 σ2 E2 => ?_⟩
  obtain ⟨h1, h2⟩ := hh _ _ _ _ E2
  exact .tup upd_same (E2.not hT) (.cons (Dn.ext gr.ext _ _ h1) (.cons (Dn.ext gr.ext _ _ h2) .nil))
theorem wi_enum (h : Wp te ρ fun k ρ0 => ∃ d ds, soft k = .da d ∧ Sq d ds ∧ ΦI (enumD ds) ρ0) : WpI (iEnumA K (tCons te tNil)) ρ ΦI := fun F n σ H E R g => h F n σ H E _ fun v H1 k ρ0 f E1 x1 r1 => by
  have r1 := r1.soft E
  obtain ⟨d, ds, hk, hs, q⟩ := f
  rw [hk] at r1
  have hds : ∀ {a : Addr} {o : HO} {us : List V} (hu : DnL n H1 us ds), ∀ (i : Nat) (x y : V), some (V.int (i : Nat)) = some x → us[i]? = some y → i < us.length → ∃ dx dy, (enumD ds)[i]? = some (.tup [dx, dy]) ∧ ∀ n' ρ' σ' H', EnvOk (F.w a o us ds) n' ρ' σ' H' → Dn n' H' x dx ∧ Dn n' H' y dy := fun hu i x y hx hy hi => by
    cases hx
    obtain ⟨dy, e1, _⟩ := hu.getV i y hy
    refine ⟨_, dy, by rw [enumD_get, e1]; rfl, fun n' ρ' σ' H' E' => ⟨.int _, ?_⟩⟩
    obtain ⟨d2, e3, e4⟩ := (E'.gh _ List.mem_cons_self).2.2.getV i y hy
    exact (Option.some.inj (e3.symm.trans e1)) ▸ e4
  cases hs with
  | lst =>
    cases r1 with
    | @lst a us _ ha hna hu =>
      refine ⟨a, us, rfl, .inl ⟨.inl (.inl ha), g _ H1 (enumD ds) ρ0 _ q (.w a (.lst us) us ds .refl) (E1.wrap ha hna hu) x1 (walkD_pair walk_enum (by rw [enumD_len, hu.length]) (fun _ _ _ _ E' => .inl (.inl (E'.gh _ List.mem_cons_self).1)) (hds hu))⟩⟩
  | tup =>
    cases r1 with
    | @tup a us _ ha hna hu =>
      refine ⟨a, us, rfl, .inr ⟨.inl (.inl ha), g _ H1 (enumD ds) ρ0 _ q (.w a (.tup us) us ds .refl) (E1.wrap ha hna hu) x1 (walkD_pair walk_enumT (by rw [enumD_len, hu.length]) (fun _ _ _ _ E' => .inl (.inl (E'.gh _ List.mem_cons_self).1)) (hds hu))⟩⟩
end
end Dd
namespace Dd
open PySem PySem.Spec PyProof.Rows L2
/-! ## more terms by their shape -/
section
variable {X : Cx} {K : PySem.W.Frag}
theorem snds (f : Nat → Str) : ∀ l : List Nat, (l.map fun i => (f i, i)).map (·.2) = l
  | [] => rfl
  | a :: l => by rw [List.map_cons, List.map_cons, snds f l]
theorem pe_lcG (is : List Nat) {elt tg iter : Expr} {ifs : List Expr} {scope : Scope} {pos : Pos} {wi : TI} {tt : TT} {te : TE} {g : TG}
    (hg : ∀ (s : Shared) (H : Hp) (C : Addr) (cl : List (Str × Addr)) (fp : List Addr), PG (X.blk s H scope (compEnvC scope cl C X.env) fp) tg g) (hc : X.calm = true) (hN : X.N.Nodup)
    (ok : blkC X.N X.env.scope scope (is.map fun i => (X.N.getD i "", i)) = true) (hi : PI X tg iter wi)
    (ht : ∀ (s : Shared) (H : Hp) (C : Addr) (cl : List (Str × Addr)) (fp : List Addr), PTs (X.blk s H scope (compEnvC scope cl C X.env) fp) ifs tt)
    (he : ∀ (s : Shared) (H : Hp) (C : Addr) (cl : List (Str × Addr)) (fp : List Addr), PE (X.blk s H scope (compEnvC scope cl C X.env) fp) elt te) (hs : ∀ x, foldedSetIterable iter X.env x = pure x := by intro _; rfl) :
    PE X (.ListComp elt [⟨tg, iter, ifs, 0⟩] scope pos) (tLc wi g tt te is) := by
  have h := pe_lc (own := is.map fun i => (X.N.getD i "", i)) (pos := pos) hc hN hi (blkOk_by ok) hg ht he hs
  rw [snds] at h
  exact h
theorem ps_setLcG (is : List Nat) {j : Nat} {y : Str} {py spos : Pos} {elt tg iter : Expr} {ifs : List Expr} {scope : Scope} {pos : Pos} {wi : TI} {tt : TT} {te : TE} {g : TG}
    (hg : ∀ (s : Shared) (H : Hp) (C : Addr) (cl : List (Str × Addr)) (fp : List Addr), PG (X.blk s H scope (compEnvC scope cl C X.env) fp) tg g) (hc : X.calm = true) (hN : X.N.Nodup) (hy : X.N[j]? = some y) (hyl : X.env.scope.names.lookup y = some .local)
    (hk : X.env.scope.kind = .function) (hl : (py.line == pos.line) = true) (hw : (scope.names.any fun (n, k) => n == y && (k == .local || k == .cell)) = false) (ok : blkC X.N X.env.scope scope (is.map fun i => (X.N.getD i "", i)) = true) (hi : PI X tg iter wi)
    (ht : ∀ (s : Shared) (H : Hp) (C : Addr) (cl : List (Str × Addr)) (fp : List Addr), PTs (X.blk s H scope (compEnvC scope cl C X.env) fp) ifs tt)
    (he : ∀ (s : Shared) (H : Hp) (C : Addr) (cl : List (Str × Addr)) (fp : List Addr), PE (X.blk s H scope (compEnvC scope cl C X.env) fp) elt te) (hs : ∀ x, foldedSetIterable iter X.env x = pure x := by intro _; rfl) :
    PS X (.Assign [.Name y py] (.ListComp elt [⟨tg, iter, ifs, 0⟩] scope pos) spos) (tAsg (tLc wi g tt te is) (gName j)) := by
  have h := ps_setLc (own := is.map fun i => (X.N.getD i "", i)) (pos := pos) (spos := spos) hc hN hy hyl (sw_true hk hyl hl hw) hi (blkOk_by ok) hg ht he hs
  rw [snds] at h
  exact h
theorem pe_lc2g (m : KIs K) (h : X.K = K) {i j : Nat} {elt tg iter : Expr} {ifs : List Expr} {scope : Scope} {pos : Pos} {wi : TI} {tt : TT} {te : TE}
    (hg : ∀ (s : Shared) (H : Hp) (C : Addr) (cl : List (Str × Addr)) (fp : List Addr), PG (X.blk s H scope (compEnvC scope cl C X.env) fp) tg (gTup K 2 (gCons (gName i) (gCons (gName j) gNil)))) (hc : X.calm = true) (hN : X.N.Nodup)
    (ok : blkC X.N X.env.scope scope [(X.N.getD i "", i), (X.N.getD j "", j)] = true) (hi : PI X tg iter wi)
    (ht : ∀ (s : Shared) (H : Hp) (C : Addr) (cl : List (Str × Addr)) (fp : List Addr), PTs (X.blk s H scope (compEnvC scope cl C X.env) fp) ifs tt)
    (he : ∀ (s : Shared) (H : Hp) (C : Addr) (cl : List (Str × Addr)) (fp : List Addr), PE (X.blk s H scope (compEnvC scope cl C X.env) fp) elt te) (hs : ∀ x, foldedSetIterable iter X.env x = pure x := by intro _; rfl) :
    PE X (.ListComp elt [⟨tg, iter, ifs, 0⟩] scope pos) (tLc wi (gTup K 2 (gCons (gName i) (gCons (gName j) gNil))) tt te [i, j]) := by
  subst h
  exact pe_lcG [i, j] hg hc hN ok hi ht he hs
theorem ps_setLc2g (m : KIs K) (h : X.K = K) {i i' j : Nat} {y : Str} {py spos : Pos} {elt tg iter : Expr} {ifs : List Expr} {scope : Scope} {pos : Pos} {wi : TI} {tt : TT} {te : TE}
    (hg : ∀ (s : Shared) (H : Hp) (C : Addr) (cl : List (Str × Addr)) (fp : List Addr), PG (X.blk s H scope (compEnvC scope cl C X.env) fp) tg (gTup K 2 (gCons (gName i) (gCons (gName i') gNil)))) (hc : X.calm = true) (hN : X.N.Nodup) (hy : X.N[j]? = some y) (hyl : X.env.scope.names.lookup y = some .local)
    (hk : X.env.scope.kind = .function) (hl : (py.line == pos.line) = true) (hw : (scope.names.any fun (n, k) => n == y && (k == .local || k == .cell)) = false) (ok : blkC X.N X.env.scope scope [(X.N.getD i "", i), (X.N.getD i' "", i')] = true) (hi : PI X tg iter wi)
    (ht : ∀ (s : Shared) (H : Hp) (C : Addr) (cl : List (Str × Addr)) (fp : List Addr), PTs (X.blk s H scope (compEnvC scope cl C X.env) fp) ifs tt)
    (he : ∀ (s : Shared) (H : Hp) (C : Addr) (cl : List (Str × Addr)) (fp : List Addr), PE (X.blk s H scope (compEnvC scope cl C X.env) fp) elt te) (hs : ∀ x, foldedSetIterable iter X.env x = pure x := by intro _; rfl) :
    PS X (.Assign [.Name y py] (.ListComp elt [⟨tg, iter, ifs, 0⟩] scope pos) spos) (tAsg (tLc wi (gTup K 2 (gCons (gName i) (gCons (gName i') gNil))) tt te [i, i']) (gName j)) := by
  subst h
  exact ps_setLcG [i, i'] hg hc hN hy hyl hk hl hw ok hi ht he hs
abbrev g2 (K : PySem.W.Frag) (a b : TG) : TG := gTup K 2 (gCons a (gCons b gNil))
/-- a statement that is not reached -/
def tNo : TS := fun _ _ _ => False
theorem ps_no {st : Stmt} : PS X st tNo := ⟨fun _ _ _ _ _ _ h => h.elim⟩
theorem nx_no {F : Fx} {ρ : List Sl} {D : Ends} (h : False) : Nx F ρ (tNo D) := h.elim
theorem pi_enumAK (m : KIs K) (h : X.K = K) {e : Expr} {ta : TA} {p pos tpos : Pos} {elts : List Expr} {kk : Nat} (hg : Gl X "enumerate") (hm : X.mg "enumerate" = none) (ha : PA X [e] ta) (hs : starEach [e] X.env = [(false, eval e X.env)] := by rfl) :
    PI X (.Tuple elts kk tpos) (.Call (.Name "enumerate" p) [e] [] pos) (iEnumA K ta) := h ▸ pi_enumA hg hm ha hs
theorem pe_listzipK (m : KIs K) (h : X.K = K) {e e2 : Expr} {ta : TA} {p1 p2 pos pos2 : Pos} (hc : X.calm = true) (gl : Gl X "list") (ml : X.mg "list" = none) (gz : Gl X "zip") (mz : X.mg "zip" = none) (ha : PA X [e, e2] ta)
    (hs : starEach [e, e2] X.env = (false, eval e X.env) :: starEach [e2] X.env := by rfl) (hpl : (backTo pos2 (starEach [e2] X.env)).any (·.1) = false := by rfl)
    (he : starEach [.Call (.Name "zip" p2) [e, e2] [] pos2] X.env = (false, eval (.Call (.Name "zip" p2) [e, e2] [] pos2) X.env) :: starEach [] X.env := by rfl) :
    PE X (.Call (.Name "list" p1) [.Call (.Name "zip" p2) [e, e2] [] pos2] [] pos) (tCB (rLZ K) ta) := h ▸ pe_listzip hc gl ml gz mz ha hs hpl he
/-- what may be written to: a text's repr -/
theorem pe_fldX (m : KIs K) (h : X.K = K) {e : Expr} {ta : TE} (he : PE X e ta) : PE X e ta := he
end

end Dd
namespace Dd
open PySem PySem.Spec PyProof.Rows L2
/-! ## tuples: times at most one, plus an empty one -/
theorem mul_one (l : Addr) (items : Array Value) (n : Nat) (dd : Option Addr) (sl : Array (Option Value)) (u : Tok) :
    Meets (Builtin.«tuple.__mul__» ⟨[.ref l, .int 1 u], []⟩) (fun _ R s => s.heap.get? l = some { cls := .type "tuple", dict := dd, data := .seq items n, slots := sl } ∧ R (.ok (.ret (Value.ref l))) s) :=
  .of_wp fun prog w A R s hh => by
    obtain ⟨hp, g, d, tk, os⟩ := s
    obtain ⟨hl, hR⟩ := hh
    have f1 := AutoSeq1.idx_int
    wp_walk using wpAny_loadPart' hl
    all_goals exact ⟨_, rfl, hR⟩
theorem mul_none (l : Addr) (items : Array Value) (n : Nat) (dd : Option Addr) (sl : Array (Option Value)) (x : Int) (u : Tok) (c0 : (decide (x < -(2 ^ 63)) || decide (x ≥ 2 ^ 63)) = false) (c1 : (items.isEmpty || x == 1) = false) (c2 : (decide (x ≤ 0) || items.isEmpty) = true) :
    Meets (Builtin.«tuple.__mul__» ⟨[.ref l, .int x u], []⟩) (fun _ R s => s.heap.get? l = some { cls := .type "tuple", dict := dd, data := .seq items n, slots := sl } ∧
      R (.ok (.ret (Value.ref s.heap.objs.size))) { s with heap := s.heap.push { cls := Value.type "tuple", data := Data.seq #[] }, toks := s.toks }) :=
  .of_wp fun prog w A R s hh => by
    obtain ⟨hp, g, d, tk, os⟩ := s
    obtain ⟨hl, hR⟩ := hh
    have f1 := AutoSeq1.idx_int
    wp_walk using wpAny_loadPart' hl
    repeat (first
      | (refine wpAny_ite_false (decide_eq_false (by rw [c0]; exact Bool.false_ne_true)) ?_; wp_walk using wpAny_loadPart' hl)
      | (refine wpAny_ite_false (decide_eq_false (by rw [c1]; exact Bool.false_ne_true)) ?_; wp_walk using wpAny_loadPart' hl)
      | (refine wpAny_ite_true (decide_eq_true c2) ?_; wp_walk using wpAny_loadPart' hl))
    all_goals exact ⟨_, rfl, hR⟩
theorem add_none (t b : Addr) (vs : Array Value) (n n2 : Nat) (dd dd2 : Option Addr) (sl sl2 : Array (Option Value)) :
    Meets (Builtin.«tuple.__add__» ⟨[.ref t, .ref b], []⟩) (fun _ R s => s.heap.get? t = some { cls := .type "tuple", dict := dd, data := .seq #[] n, slots := sl } ∧ s.heap.get? b = some { cls := .type "tuple", dict := dd2, data := .seq vs n2, slots := sl2 } ∧ R (.ok (.ret (Value.ref b))) s) :=
  .of_wp fun prog w A R s hh => by
    obtain ⟨hp, g, d, tk, os⟩ := s
    obtain ⟨h1, h2, hR⟩ := hh
    have tt := AutoSeq1.sub_tuple_tuple
    wp_walk using wpAny_loadPart' h1, wpAny_loadPart' h2
    all_goals exact ⟨_, rfl, hR⟩
def rCat0 (K : PySem.W.Frag) : R2 := fun x y H Q => ∃ a b ys, x = .ref a ∧ y = .ref b ∧ SqT K H a [] ∧ SqT K H b ys ∧ Q (.ref b) H
theorem op_cat0 {X : Cx} : OpR X (binaryOp .Add) (rCat0 X.K) := by
  intro pins s σ H x y v u Q I rx ry h
  obtain ⟨a, b, ys, rfl, rfl, ha, hb, q⟩ := h
  cases rx
  cases ry
  obtain ⟨its, r1, ⟨⟨cls, dd, data, sl⟩, ho, hc, n, hd⟩, _⟩ := I.tuple ha
  obtain ⟨its2, r2, ⟨⟨cls2, dd2, data2, sl2⟩, ho2, hc2, n2, hd2⟩, _⟩ := I.tuple hb
  cases r1
  simp only at hc hd hc2 hd2
  subst hc hd hc2 hd2
  exact concat_meets ⟨_, ho, rfl⟩ ⟨_, ho2, rfl⟩ noFill_tuple_add seq_tuple_add PySem.F.slot_tuple_add PySem.F.entry_tuple_add (PySem.F.args_tuple_add_2 _ _)
    (add_none a b its2.toArray n n2 dd dd2 sl sl2) ⟨ho, ho2, .ref b, H, I, rfl, q⟩
def rRep1 (K : PySem.W.Frag) : R2 := fun x y H Q => ∃ l k xs, x = .ref l ∧ y = .int k ∧ SqT K H l xs ∧ xs ≠ [] ∧ -(2 ^ 63) ≤ k ∧ ((k = 1 ∧ Q (.ref l) H) ∨ (k ≤ 0 ∧ ∀ p, H p = none → Q (.ref p) (upd H p (.tup []))))
theorem op_rep1 {X : Cx} : OpR X (binaryOp .Mult) (rRep1 X.K) := by
  intro pins s σ H x y v u Q I rx ry h
  obtain ⟨l, k, xs, rfl, rfl, hT, hne, hk, q⟩ := h
  cases rx
  obtain ⟨t, rfl⟩ := ry
  obtain ⟨its, r, ⟨⟨cls, dd, data, sl⟩, ho, hc, n, hd⟩, hs⟩ := I.tuple hT
  simp only at hc hd
  subst hc hd
  have hn : its.toArray.isEmpty = false := by
    cases r with
    | nil => exact absurd rfl hne
    | cons _ _ => rfl
  have road : ∀ {Q' : Value → Shared → Prop} {Rr : Result → Shared → Prop}, True := trivial
  rcases q with ⟨rfl, q⟩ | ⟨hk0, q⟩
  · exact wpAny_binaryOp_repeat_ref (T := "tuple") (U := "int") (by decide) ⟨_, ho, rfl⟩ (fun s' => typeIs_int s' 1 t) noFill_tuple_mul F.fills_int_mul F.slot_int_rmul repeat_tuple F.slot_int_index.lookup
      (call_meets F.slot_int_rmul (typeIs_int s 1 t) F.entry_int_rmul (F.args_int_rmul_2 _ _) (int_rmul_tuple 1 t l its.toArray n dd sl)
        ⟨ho, rfl, ⟨_, ho, rfl⟩, call_meets F.slot_tuple_mul ⟨_, ho, rfl⟩ F.entry_tuple_mul (F.args_tuple_mul_2 _ _) (mul_one l its.toArray n dd sl t) ⟨ho, .ref l, H, I, rfl, q⟩⟩)
  · refine wpAny_binaryOp_repeat_ref (T := "tuple") (U := "int") (by decide) ⟨_, ho, rfl⟩ (fun s' => typeIs_int s' k t) noFill_tuple_mul F.fills_int_mul F.slot_int_rmul repeat_tuple F.slot_int_index.lookup
      (call_meets F.slot_int_rmul (typeIs_int s k t) F.entry_int_rmul (F.args_int_rmul_2 _ _) (int_rmul_tuple k t l its.toArray n dd sl)
        ⟨ho, rfl, ⟨_, ho, rfl⟩, call_meets F.slot_tuple_mul ⟨_, ho, rfl⟩ F.entry_tuple_mul (F.args_tuple_mul_2 _ _) (mul_none l its.toArray n dd sl k t ?_ ?_ ?_) ⟨ho, ?_⟩⟩)
    · rw [decide_eq_false (by omega), decide_eq_false (by omega)]; rfl
    · rw [hn, Bool.false_or]; exact beq_eq_false_iff_ne.mpr (by omega)
    · rw [decide_eq_true hk0]; rfl
    · refine ⟨.ref s.heap.objs.size, _, I.laid (t' := s.toks) (o := .tup []) (fun b ob q => Heap.get?_push_of_some _ q) (Nat.le_refl _) ?_, rfl, q _ (I.hok.fresh (Nat.le_refl _))⟩
      exact ⟨Nat.zero_le _, [], .nil, IsTup.new _ _⟩
/-- + and * with these -/
def rPlus2 (K : PySem.W.Frag) : R2 := fun x y H Q => rPlus K x y H Q ∨ rCat0 K x y H Q
def rTimes2 (K : PySem.W.Frag) : R2 := fun x y H Q => rTimes K x y H Q ∨ rRep1 K x y H Q
section
variable {X : Cx} {K : PySem.W.Frag}
theorem op_plus2K (m : KIs K) (h : X.K = K) : OpR X (binaryOp .Add) (rPlus2 K) := h ▸ OpR.or op_plus op_cat0
theorem op_times2K (m : KIs K) (h : X.K = K) : OpR X (binaryOp .Mult) (rTimes2 K) := h ▸ OpR.or op_times op_rep1
end
section
variable {K : PySem.W.Frag} {ρ : List Sl} {k1 k2 : Rk} {ds es : List Da} {d : Da} {j : Int}
theorem op_plusT (s1 : see ρ k1 = some (.tup ds)) (s2 : see ρ k2 = some (.tup es)) (z : ds.length + es.length ≤ sizeLine) : Op (rPlus2 K) ρ k1 k2 (.da (.tup (ds ++ es))) := fun F n σ H x y Q E r1 r2 q => by
  obtain ⟨a, xs, rfl, h1, n1, h2⟩ := peekT E r1 s1
  obtain ⟨b, ys, rfl, h3, n3, h4⟩ := peekT E r2 s2
  cases xs with
  | nil =>
    cases h2
    exact .inr ⟨a, b, ys, rfl, rfl, .inl (.inl h1), .inl (.inl h3), q _ H E .refl (.tup h3 n3 h4)⟩
  | cons x xs =>
    refine .inl (.inr (.inr (.inl ⟨a, b, x :: xs, ys, rfl, rfl, .inl (.inl h1), .inl (.inl h3), List.cons_ne_nil _ _, by rw [h2.length, h4.length]; exact z, fun e => ?_, fun _ => mk_t E (h2.app h4) q⟩)))
    subst e
    cases h4
    rw [List.append_nil] at q
    exact q _ H E .refl (.tup h1 n1 h2)
theorem op_timesT (s1 : see ρ k1 = some (.tup [d])) (s2 : see ρ k2 = some (.int j)) (z : -(2 ^ 63) ≤ j ∧ j ≤ 1000) : Op (rTimes2 K) ρ k1 k2 (.da (.tup (List.replicate j.toNat d))) := fun F n σ H x y Q E r1 r2 q => by
  obtain ⟨a, xs, rfl, h1, n1, h2⟩ := peekT E r1 s1
  have hy := peekI E r2 s2
  cases h2 with
  | @cons v vs _ _ hv hn =>
    cases hn
    by_cases c : j ≤ 0
    · refine .inr ⟨a, j, [v], rfl, hy, .inl (.inl h1), List.cons_ne_nil _ _, z.1, .inr ⟨c, mk_t E (ds := List.replicate j.toNat d) ?_ q⟩⟩
      rw [show j.toNat = 0 by omega]
      exact .nil
    · by_cases c1 : j = 1
      · subst c1
        exact .inr ⟨a, 1, [v], rfl, hy, .inl (.inl h1), List.cons_ne_nil _ _, by decide, .inl ⟨rfl, q _ H E .refl (.tup h1 n1 (.cons hv .nil))⟩⟩
      · refine .inl (.inr (.inr ⟨a, j, [v], rfl, hy, .inl (.inl h1), List.cons_ne_nil _ _, by omega, z.2, by simp, mk_t E (ds := List.replicate j.toNat d) ?_ q⟩))
        have e : (List.replicate j.toNat d) = (List.replicate j.toNat [d]).flatten := by
          generalize j.toNat = m
          induction m with
          | zero => rfl
          | succ m ih => rw [List.replicate_succ, List.replicate_succ, List.flatten_cons, ← ih]; rfl
        rw [e]
        exact (DnL.cons hv .nil).repl _
/-- what held of + and * holds -/
theorem op_pl {kw : Rw} (h : Op (rPlus K) ρ k1 k2 kw) : Op (rPlus2 K) ρ k1 k2 kw := fun F n σ H x y Q E r1 r2 q => .inl (h F n σ H x y Q E r1 r2 q)
theorem op_ti {kw : Rw} (h : Op (rTimes K) ρ k1 k2 kw) : Op (rTimes2 K) ρ k1 k2 kw := fun F n σ H x y Q E r1 r2 q => .inl (h F n σ H x y Q E r1 r2 q)
end
end Dd
namespace Dd
open PySem PySem.Spec PyProof.Rows L2
/-! ## a method of one's own that a built-in asks for -/
structure Own (P : Program) (w : World) (K : PySem.W.Frag) (mg : Str → Option Value) (base : Heap) (k : Nat) (C : Addr) (m : Str) (sp : Sp) : Prop where
  ex : ∃ (f : Addr) (fd : FuncData) (ps : List Str), FnOk P w K mg base CX0 k f fd ps sp ∧ PySem.W.findIn K (.ref C) m = some (some (.ref f)) ∧ PySem.W.isFn K (.ref f) = true ∧ Binds K fd ps []
theorem ins_at {X : Cx} {pins : List (Addr × Obj)} {σ : L2.St} {H : Hp} {s : Shared} {a C dx : Addr} {fs : List (Str × V)} (I : Inv X pins σ H s) (h : H a = some (.ins C dx fs)) : ∃ od, PySem.W.InstAt s.heap a (PySem.W.instObj C dx) C (some od) := by
  obtain ⟨mA, J, _⟩ := ins_get I.hok h
  obtain ⟨od, J, _⟩ := J.look
  exact ⟨od, J⟩
/-- the run of such a method, somewhere below -/
theorem run_own {X : Cx} {pins : List (Addr × Obj)} {σ : L2.St} {H : Hp} {s : Shared} {A : Around} {E : Value → Shared → Prop} {k : Nat} {f : Addr} {fd : FuncData} {ps : List Str} {sp : Sp} {us : List Value} {vs : List V} {Q : VK} (F : FnOk X.prog X.w X.K X.mg X.base CX0 k f fd ps sp) (hb : Binds X.K fd ps []) (hr : Room k A) (hf : A.frames = X.A.frames)
    (I : Inv X pins σ H s) (r : Vals vs us) (h : sp vs H Q E0) : wpAny (model X.prog X.w) A (call (.ref f) us) (EP X pins σ Q) E s := by
  have hl : us.length = ps.length := by rw [← r.length]; exact F.len _ _ _ _ h
  have e0 : Env0 X.prog X.w X.K X.mg X.base A X.stack s H := by
    have e := I.env0
    exact ⟨by rw [hf]; exact e.frames, e.mod, e.bs, e.bsz, e.funs, e.frf, e.hok, e.bare⟩
  have hb2 := hb s us I.kIn (by rw [List.append_nil]; exact hl)
  rw [List.append_nil] at hb2
  refine wpAny_call (codeAny_mono (F.run A X.stack s H ⟨us, []⟩ us vs Q E0 hr e0 hb2 r h) fun res s2 hq => ?_)
  cases res with
  | error _ => exact (show False from hq).elim
  | ok fl =>
    cases fl with
    | ret u => exact I.after hq
    | next => exact (show False from hq).elim
    | brk => exact (show False from hq).elim
    | cont => exact (show False from hq).elim
/-- str(o) -/
def rStrO (C : Addr) (sp : Sp) : List V → Hp → VK → Prop := fun xs H Q => ∃ a dx fs, xs = [.ref a] ∧ H a = some (.ins C dx fs) ∧ sp xs H (fun v H' => ∃ z, v = .str z ∧ Q v H') E0
theorem call_strO {X : Cx} {j k : Nat} {C : Addr} {sp : Sp} (o : Own X.prog X.w X.K X.mg X.base k C "__str__" sp) (hr : Room j X.A) (hk : k + 2 ≤ j) : CallR X (.type "str") (rStrO C sp) := by
  intro pins s σ H xs us Q I r h
  obtain ⟨a, dx, fs, rfl, ha, q⟩ := h
  obtain ⟨f, fd, ps, F, h1, h2, hb⟩ := o.ex
  obtain ⟨u, rfl, ru⟩ := vals1 r
  cases ru
  obtain ⟨od, J⟩ := ins_at I ha
  have hr2 : Room k X.A.in1.in1 := (hr.mono hk).in1.in1
  have rr : Vals [V.ref a] [Value.ref a] := .cons rfl .nil
  refine PySem.W.kso_call hr2.units0 I.kIn J h1 h2 (wpAny_mono (run_own F hb hr2 rfl I rr q) (fun v s2 ⟨v', H', I', rv, z, e, q'⟩ => ?_) fun _ _ x => x)
  subst e
  obtain ⟨t, rfl⟩ := rv
  exact ⟨.str z, H', I', ⟨t, rfl⟩, q'⟩
section
variable {α : Type} {ρ : List Sl} {k : Rk} {C : Addr} {fs : List (Str × Da)} {z : Str}
theorem b_strO {enc : α → List Da} {pre : α → Prop} {post : α → Da → Prop} (s : see ρ k = some (.ins C fs)) (x : α) (he : enc x = [.ins C fs]) (hp : pre x) (hz : ∀ r, post x r → r = .str z) : Cb (rStrO C (SpT enc pre post)) ρ [k] (.da (.str z)) := fun F n σ H vs Q E r1 q => by
  obtain ⟨v, rfl, r⟩ := rk1 r1
  obtain ⟨a, dx, us, rfl, h1, h2⟩ := peekN E r s
  have hs := sees_rel E (ks := [k]) (ds := [.ins C fs]) (.cons (seeX_ins s) .nil) (.cons r .nil)
  rw [← he] at hs
  exact ⟨a, dx, us, rfl, h1, letgoA n, x, fun a h => E.al a h.1, hs, hp, fun v H' r hr gr h => by
    obtain rfl := hz r hr
    cases h
    exact ⟨z, rfl, q _ H' (E.grow gr) gr.ext (.str z)⟩⟩
end

end Dd
namespace Dd
open PySem PySem.Spec PyProof.Rows L2
/-! ## terms by their shape: each rule behind a look at what stands there -/
end Dd
namespace Dd
open PySem PySem.Spec PyProof.Rows L2
/-! ## data whose text is short enough: by its weight and its depth -/
structure Wr (d : Da) (w k : Nat) : Prop where
  pl : plain d = true
  sh : (toPy d).showable = true
  nd : (toPy d).hasDict = false
  lf : (toPy d).leavesShort 13 = true
  wt : (toPy d).weight ≤ w
  dp : (toPy d).depth ≤ k
theorem small_log {i : Int} (h : i.natAbs < 10 ^ 12) : i.natAbs.log2 < 40 := by
  by_cases z : i.natAbs = 0
  · rw [z]; decide
  · exact (Nat.log2_lt z).mpr (by omega)
theorem Wr.int {i : Int} (h : i.natAbs < 10 ^ 12) : Wr (.int i) 40 0 := by
  have hl := small_log h
  refine ⟨rfl, ?_, by rw [toPy]; rfl, ?_, ?_, by rw [toPy]; exact Nat.le_refl _⟩
  · rw [toPy, PyData.showable]; exact decide_eq_true (by omega)
  · rw [toPy, PyData.leavesShort]; exact decide_eq_true (PyData.shown_int_le h)
  · rw [toPy, PyData.weight]
    split <;> omega
theorem Wr.bl {b : Bool} : Wr (.bl b) 0 0 := ⟨rfl, by rw [toPy]; rfl, by rw [toPy]; rfl, by rw [toPy]; rfl, by rw [toPy]; exact Nat.le_refl _, by rw [toPy]; exact Nat.le_refl _⟩
theorem Wr.non : Wr .non 0 0 := ⟨rfl, by rw [toPy]; rfl, by rw [toPy]; rfl, by rw [toPy]; rfl, by rw [toPy]; exact Nat.le_refl _, by rw [toPy]; exact Nat.le_refl _⟩
theorem Wr.str {x : Str} {w : Nat} (h : x.cps.toList.all (fun c => decide (c < 16 ^ 8)) = true) (hw : x.cps.size ≤ w) : Wr (.str x) w 0 := ⟨rfl, by rw [toPy]; rfl, by rw [toPy]; rfl, by rw [toPy]; exact h, by rw [toPy]; exact hw, by rw [toPy]; exact Nat.le_refl _⟩
theorem Wr.mono {d : Da} {w k w' k' : Nat} (h : Wr d w k) (hw : w ≤ w') (hk : k ≤ k') : Wr d w' k' := ⟨h.pl, h.sh, h.nd, h.lf, Nat.le_trans h.wt hw, Nat.le_trans h.dp hk⟩
theorem wr_all {w k : Nat} : ∀ {ds : List Da}, (∀ d ∈ ds, Wr d w k) → plains ds = true ∧ PyData.showableAll (toPys ds) = true ∧ PyData.hasDictAll (toPys ds) = false ∧ PyData.leavesShortAll 13 (toPys ds) = true ∧ PyData.weightAll (toPys ds) ≤ (w + 1) * ds.length ∧ PyData.depthAll (toPys ds) ≤ k
  | [], _ => ⟨rfl, by rw [toPys]; rfl, by rw [toPys]; rfl, by rw [toPys]; rfl, by rw [toPys]; exact Nat.zero_le _, by rw [toPys]; exact Nat.zero_le _⟩
  | d :: ds, h => by
    obtain ⟨a1, a2, a3, a4, a5, a6⟩ := wr_all fun x hx => h x (List.mem_cons_of_mem _ hx)
    have b := h d List.mem_cons_self
    refine ⟨by rw [plains, b.pl, a1]; rfl, by rw [toPys, PyData.showableAll, b.sh, a2]; rfl, by rw [toPys, PyData.hasDictAll, b.nd, a3]; rfl, by rw [toPys, PyData.leavesShortAll, b.lf, a4]; rfl, ?_, ?_⟩
    · rw [toPys, PyData.weightAll, List.length_cons, Nat.mul_add]
      have := b.wt
      omega
    · rw [toPys, PyData.depthAll]
      exact Nat.max_le.mpr ⟨b.dp, a6⟩
theorem Wr.lst {ds : List Da} {w k : Nat} (h : ∀ d ∈ ds, Wr d w k) : Wr (.lst ds) ((w + 1) * ds.length) (k + 1) := by
  obtain ⟨a1, a2, a3, a4, a5, a6⟩ := wr_all h
  exact ⟨by rw [plain]; exact a1, by rw [toPy, PyData.showable]; exact a2, by rw [toPy, PyData.hasDict]; exact a3, by rw [toPy, PyData.leavesShort]; exact a4, by rw [toPy, PyData.weight]; exact a5, by rw [toPy, PyData.depth]; omega⟩
theorem Wr.tup {ds : List Da} {w k : Nat} (h : ∀ d ∈ ds, Wr d w k) : Wr (.tup ds) ((w + 1) * ds.length) (k + 1) := by
  obtain ⟨a1, a2, a3, a4, a5, a6⟩ := wr_all h
  exact ⟨by rw [plain]; exact a1, by rw [toPy, PyData.showable]; exact a2, by rw [toPy, PyData.hasDict]; exact a3, by rw [toPy, PyData.leavesShort]; exact a4, by rw [toPy, PyData.weight]; exact a5, by rw [toPy, PyData.depth]; omega⟩
theorem Wr.shw {d : Da} {w k : Nat} (h : Wr d w k) (hw : w ≤ 2 ^ 20) (hk : k ≤ 60) : Shw d := ⟨h.pl, h.sh, h.nd, Nat.le_trans h.dp hk, PyData.shown_fits (by decide) (by decide) h.lf (Nat.le_trans h.wt hw)⟩
theorem Wr.pr {a b : Int} (ha : a.natAbs < 10 ^ 12) (hb : b.natAbs < 10 ^ 12) : Wr (.tup [.int a, .int b]) 82 1 := Wr.tup (ds := [.int a, .int b]) (w := 40) (k := 0) fun d hd => by
  rcases List.mem_cons.mp hd with rfl | hd
  · exact .int ha
  · rw [List.mem_singleton.mp hd]; exact .int hb
theorem Wr.prz {v : List (Int × Int)} (h : ∀ p ∈ v, p.1.natAbs < 10 ^ 12 ∧ p.2.natAbs < 10 ^ 12) : Wr (.lst (Dd.prz v)) (83 * v.length) 2 := by
  have := Wr.lst (ds := Dd.prz v) (w := 82) (k := 1) fun d hd => by
    obtain ⟨p, hp, rfl⟩ := List.mem_map.mp hd
    exact .pr (h p hp).1 (h p hp).2
  rw [show (Dd.prz v).length = v.length by simp [Dd.prz]] at this
  exact this
theorem Wr.inz {ns : List Int} (h : ∀ i ∈ ns, i.natAbs < 10 ^ 12) : Wr (.lst (Dd.inz ns)) (41 * ns.length) 1 := by
  have := Wr.lst (ds := Dd.inz ns) (w := 40) (k := 0) fun d hd => by
    obtain ⟨i, hi, rfl⟩ := List.mem_map.mp hd
    exact .int (h i hi)
  rw [show (Dd.inz ns).length = ns.length by simp [Dd.inz]] at this
  exact this
end Dd
namespace Dd
open PySem PySem.Spec PyProof.Rows L2
/-! ## methods of a class of the text -/
def tIns (C : Addr) (m : Str) (ta : TE) : TE := fun σ H Q => ta σ H fun x H1 => (∃ a dx fs, x = .ref a ∧ H1 a = some (.ins C dx fs) ∧ fs.lookup m = none) ∧ Q x H1
theorem meth_eq {C : Addr} {m : Str} {sp : Sp} {dvs : List V} {E : XK} {ta : TE} {t : TA} : tMeth C m sp dvs E ta t = tCall sp dvs E (tCons (tIns C m ta) t) := by
  funext σ H Q
  show ta σ H _ = ta σ H _
  congr 1
  funext x H1
  refine propext ⟨?_, ?_⟩
  · rintro ⟨a, dx, fs, h1, h2, h3, q⟩
    exact ⟨⟨a, dx, fs, h1, h2, h3⟩, q⟩
  · rintro ⟨⟨a, dx, fs, h1, h2, h3⟩, q⟩
    exact ⟨a, dx, fs, h1, h2, h3, q⟩
section
variable {X : Cx}
/-- a method of the class at C -/
structure Metb (P : Program) (w : World) (K : PySem.W.Frag) (mg : Str → Option Value) (base : Heap) (k : Nat) (C : Addr) (m : Str) (sp : Sp) : Prop where
  ex : ∃ (f : Addr) (fd : FuncData) (ps : List Str), FnOk P w K mg base CX0 k f fd ps sp ∧ Cls K C ∧ Meth K C m f ∧ Binds K fd ps []
theorem pe_met {pl : Sem Bool} {j k : Nat} {C : Addr} {m : Str} {sp : Sp} {o e : Expr} {es : List Expr} {ta : TE} {t : TA} {apos pos : Pos} (c : Metb X.prog X.w X.K X.mg X.base k C m sp) (hr : Room j X.A) (hk : k ≤ j) (he : PE X o ta) (ha : PA X (e :: es) t)
    (hst : starEach (e :: es) X.env = (false, eval e X.env) :: starEach es X.env := by rfl) (hpl : (backTo pos (starEach es X.env)).any (·.1) = false := by rfl)
    (ht : eval (.Call (.Attribute o m apos) (e :: es) [] pos) X.env = (do
      let ov ← eval o X.env
      standAt apos.atName
      let (f, first) ← holding [ov] (getMethod ov m pl)
      callWith pos f first (backTo pos (starEach (e :: es) X.env)) (backToKw pos (keywordEach [] X.env))) := by rfl) : PE X (.Call (.Attribute o m apos) (e :: es) [] pos) (tCall sp [] E0 (tCons (tIns C m ta) t)) := by
  obtain ⟨f, fd, ps, F, cl, M, b⟩ := c.ex
  rw [← meth_eq]
  exact pe_meth he cl M F (hr.mono hk) b .nil pass0 ha hst hpl ht
theorem pe_met0 {pl : Sem Bool} {j k : Nat} {C : Addr} {m : Str} {sp : Sp} {o : Expr} {ta : TE} {apos pos : Pos} (c : Metb X.prog X.w X.K X.mg X.base k C m sp) (hr : Room j X.A) (hk : k ≤ j) (he : PE X o ta)
    (ht : eval (.Call (.Attribute o m apos) [] [] pos) X.env = (do
      let ov ← eval o X.env
      standAt apos.atName
      let (f, first) ← holding [ov] (getMethod ov m pl)
      callWith pos f first (backTo pos (starEach [] X.env)) (backToKw pos (keywordEach [] X.env))) := by rfl) : PE X (.Call (.Attribute o m apos) [] [] pos) (tCall sp [] E0 (tCons (tIns C m ta) tNil)) := by
  obtain ⟨f, fd, ps, F, cl, M, b⟩ := c.ex
  rw [← meth_eq]
  exact pe_meth0 he cl M F (hr.mono hk) b .nil pass0 ht
/-- a method whose last parameter is given by its name alone, and has a default, dv -/
structure Metd (P : Program) (w : World) (K : PySem.W.Frag) (mg : Str → Option Value) (base : Heap) (k : Nat) (C : Addr) (m y : Str) (dv : V) (sp : Sp) : Prop where
  ex : ∃ (f : Addr) (fd : FuncData) (ps : List Str) (du : Value), FnOk P w K mg base CX0 k f fd ps sp ∧ Cls K C ∧ Meth K C m f ∧ Binds K fd ps [du] ∧ RelV dv du ∧ KBn K fd ps 2 [y] (fun us ws => us ++ ws) (fun vs zs => vs ++ zs)
theorem pe_metD {pl : Sem Bool} {j k : Nat} {C : Addr} {m y : Str} {dv : V} {sp : Sp} {o e : Expr} {ta te : TE} {apos pos : Pos} (c : Metd X.prog X.w X.K X.mg X.base k C m y dv sp) (hr : Room j X.A) (hk : k ≤ j) (he : PE X o ta) (ha : PE X e te)
    (hst : starEach [e] X.env = (false, eval e X.env) :: starEach [] X.env := by rfl) (hpl : (backTo pos (starEach [] X.env)).any (·.1) = false := by rfl)
    (ht : eval (.Call (.Attribute o m apos) [e] [] pos) X.env = (do
      let ov ← eval o X.env
      standAt apos.atName
      let (f, first) ← holding [ov] (getMethod ov m pl)
      callWith pos f first (backTo pos (starEach [e] X.env)) (backToKw pos (keywordEach [] X.env))) := by rfl) : PE X (.Call (.Attribute o m apos) [e] [] pos) (tCall sp [] E0 (tCons (tIns C m ta) (tCons te (tCons (tC dv) tNil)))) := by
  obtain ⟨f, fd, ps, du, F, cl, M, b, r, _⟩ := c.ex
  have h := pe_meth he cl M F (hr.mono hk) b (.cons r .nil) pass0 (pa_cons ha pa_nil hst) hst hpl ht
  rw [meth_eq] at h
  exact h
theorem pe_metK {pl : Sem Bool} {j k : Nat} {C : Addr} {m y : Str} {dv : V} {sp : Sp} {o e z : Expr} {ta te tz : TE} {apos pos kpos : Pos} (c : Metd X.prog X.w X.K X.mg X.base k C m y dv sp) (hr : Room j X.A) (hk : k ≤ j) (he : PE X o ta) (ha : PE X e te) (hz : PE X z tz)
    (hst : starEach [e] X.env = (false, eval e X.env) :: starEach [] X.env := by rfl)
    (hall : (backToKw pos (keywordEach [⟨some y, z, kpos⟩] X.env)).all (·.1.isSome) = true := by rfl) (hks : (backToKw pos (keywordEach [⟨some y, z, kpos⟩] X.env)).filterMap (·.1) = [y] := by rfl)
    (hpl : ((backTo pos (starEach [e] X.env)).any (·.1) || (backToKw pos (keywordEach [⟨some y, z, kpos⟩] X.env)).any (·.1.isNone)) = false := by rfl)
    (ht : eval (.Call (.Attribute o m apos) [e] [⟨some y, z, kpos⟩] pos) X.env = (do
      let ov ← eval o X.env
      standAt apos.atName
      let (f, first) ← holding [ov] (getMethod ov m pl)
      callWith pos f first (backTo pos (starEach [e] X.env)) (backToKw pos (keywordEach [⟨some y, z, kpos⟩] X.env))) := by rfl) : PE X (.Call (.Attribute o m apos) [e] [⟨some y, z, kpos⟩] pos) (tCall sp [] E0 (tCons (tIns C m ta) (tCons te (tCons tz tNil)))) := by
  obtain ⟨f, fd, ps, du, F, cl, M, _, _, b⟩ := c.ex
  refine ⟨fun pins s σ H Q I h => ?_⟩
  refine PySem.W.methodCall_KW (pl := pl) (thn (he.run pins s σ H _ I h) fun u s1 ⟨x, H1, I1, rx, ⟨a, dx, fs, ex, ea, l⟩, q⟩ => ?_) ht
  subst ex
  obtain rfl : u = Value.ref a := rx
  refine getmeth_ok I1 ea cl M l ?_
  have q' : tCons te tNil σ H1 fun vs H2 => ∃ x2, vs = [x2] ∧ tCons tz tNil σ H2 fun zs H3 => ∃ z1, zs = [z1] ∧ sp [V.ref a, x2, z1] H3 Q E0 := by
    have e1 : ∀ x2, (fun z1 H3 => sp [V.ref a, x2, z1] H3 Q E0) = fun z1 H3 => (fun zs H3 => ∃ z1, zs = [z1] ∧ sp [V.ref a, x2, z1] H3 Q E0) [z1] H3 := fun x2 => by
      funext z1 H3
      exact propext ⟨fun h => ⟨z1, rfl, h⟩, fun ⟨z2, e, h⟩ => by cases e; exact h⟩
    have e2 : (fun x1 H2 => tz σ H2 fun z1 H3 => sp [V.ref a, x1, z1] H3 Q E0) = fun x1 H2 => (fun vs H2 => ∃ x2, vs = [x2] ∧ tz σ H2 fun z1 H3 => (fun zs H3 => ∃ z1, zs = [z1] ∧ sp [V.ref a, x2, z1] H3 Q E0) [z1] H3) [x1] H2 := by
      funext x1 H2
      refine propext ⟨fun h => ⟨x1, rfl, ?_⟩, fun ⟨x2, e, h⟩ => ?_⟩
      · rw [← e1 x1]
        exact h
      · cases e
        rw [← e1 x1] at h
        exact h
    have q0 : te σ H1 fun x1 H2 => tz σ H2 fun z1 H3 => sp [V.ref a, x1, z1] H3 Q E0 := q
    rw [e2] at q0
    exact q0
  refine PySem.W.callWith_KW (first := [.ref a]) (h₀ := X.base) I.ok.mod.kin M.kp hall (thn ((pa_cons ha pa_nil hst).run pos pins s1 σ H1 _ I1 q') fun us s2 ⟨vs, H2, I2, r, x2, ev, q2⟩ => ?_) hpl hst
  refine thn ((pk_cons hz pk_nil).run pos pins s2 σ H2 _ I2 q2) fun ws s3 ⟨zs, H3, I3, rz, z1, ez, q3⟩ => ⟨I3.kIn, ?_⟩
  rw [hks]
  subst ev
  subst ez
  exact run_fnN (us := .ref a :: us) (vs := .ref a :: [x2]) F (hr.mono hk) b pass0 I3 (.cons rfl r) rz rfl rfl q3
end
section
variable {K : PySem.W.Frag} {F : Fx} {n : Ns} {ρ ρ' ρ0 ρ1 ρ2 : List Sl} {te ta tb : TE} {tx tr : TA} {d e : Da} {k k1 k2 : Rk} {ks : List Rk} {ds es : List Da} {i j : Nat} {H : Hp} {σ : L2.St} {Φ : Rw → List Sl → Prop}
theorem DnF.none {n : Ns} {H : Hp} {f : Str} : ∀ {fs : List (Str × Da)} {vs : List (Str × V)}, DnF n H vs fs → fs.lookup f = .none → vs.lookup f = .none
  | [], _, h, _ => by cases h; rfl
  | (g, d) :: fs, _, h, e => by
    cases h with
    | cons h1 h2 =>
      by_cases c : f = g
      · subst c
        simp [List.lookup] at e
      · have b : (f == g) = false := by simpa using c
        rw [List.lookup, b] at e ⊢
        exact h2.none e
theorem wp_ins {C : Addr} {m : Str} (h : Wp ta ρ fun k ρ1 => ∃ fs, see ρ1 (soft k) = some (.ins C fs) ∧ fs.lookup m = none ∧ Φ k ρ1) : Wp (tIns C m ta) ρ Φ := fun F n σ H E Q g =>
  h F n σ H E _ fun v H1 k ρ1 f E1 x1 r1 => by
    obtain ⟨fs, s, l, q⟩ := f
    obtain ⟨a, dx, vs, rfl, h1, h2⟩ := peekN E1 (r1.soft E) s
    exact ⟨⟨a, dx, vs, rfl, h1, h2.none l⟩, g _ _ _ _ q E1 x1 r1⟩
/-! ## max and min of a list, remove, extend by a tuple, sorted the other way round -/
theorem b_maxL {ns : List Int} {m : Int} (s : see ρ k = some (.lst (inz ns))) (h1 : m ∈ ns) (h2 : ∀ y ∈ ns, y ≤ m) : Cb (rMax K) ρ [k] (.da (.int m)) := fun F n σ H vs Q E r1 q => by
  obtain ⟨v, rfl, r⟩ := rk1 r1
  obtain ⟨a, us, rfl, g1, g2⟩ := peekL E r s
  rw [g2.inz] at g1
  refine ⟨a, ns, rfl, .inl (.inl g1), List.length_pos_of_mem h1, fun m' g3 g4 => ?_⟩
  obtain rfl : m' = m := Int.le_antisymm (h2 m' g3) (g4 m h1)
  exact q _ H E .refl (.int _)
theorem b_minL {ns : List Int} {m : Int} (s : see ρ k = some (.lst (inz ns))) (h1 : m ∈ ns) (h2 : ∀ y ∈ ns, m ≤ y) : Cb (rMin K) ρ [k] (.da (.int m)) := fun F n σ H vs Q E r1 q => by
  obtain ⟨v, rfl, r⟩ := rk1 r1
  obtain ⟨a, us, rfl, g1, g2⟩ := peekL E r s
  rw [g2.inz] at g1
  refine ⟨a, ns, rfl, .inl (.inl g1), List.length_pos_of_mem h1, fun m' g3 g4 => ?_⟩
  obtain rfl : m' = m := Int.le_antisymm (g4 m h1) (h2 m' g3)
  exact q _ H E .refl (.int _)
theorem wp_remove {b : Bool} (s0 : ρ[i]? = some (.own b (.lst es))) (h : WpA tx ρ fun ks ρ1 => ∃ k a ns, ks = [k] ∧ see ρ1 k = some (.int a) ∧ ρ1[i]? = some (.own b (.lst (inz ns))) ∧ a ∈ ns ∧ Φ (.da .non) (ρ1.set i (.own b (.lst (inz (ns.erase a)))))) : Wp (tBM K "list" rRemI (tVar i) tx) ρ Φ := fun F n σ H E Q g => by
  obtain ⟨l, vs, h1, h2, h3, h4⟩ := own_at E s0
  refine ⟨_, h1, .inl ⟨rfl, vs, .inl (.inl h2)⟩, h F n σ H E _ fun us H1 ks ρ1 f E1 x1 r1 => ?_⟩
  obtain ⟨k, a, ns, rfl, s1, s, z, q⟩ := f
  obtain ⟨v, rfl, r⟩ := rk1 r1
  obtain ⟨l', ws, g1, g2, g3, g4⟩ := own_at E1 s
  rw [h1] at g1
  cases g1
  rw [peekI E1 r s1]
  rw [g3.inz] at g2
  have z1 : ns.idxOf a < ns.length := List.idxOf_lt_length_of_mem z
  have e : ns.erase a = ns.eraseIdx (ns.idxOf a) := List.erase_eq_eraseIdx_of_idxOf rfl
  rw [e] at q
  exact ⟨l, ns, a, ns.idxOf a, rfl, rfl, g2, by rw [List.getElem?_eq_getElem z1, List.getElem_idxOf z1], fun m hm e => by
    obtain ⟨hl, e⟩ := List.getElem?_eq_some_iff.mp e
    have := List.not_of_lt_findIdx (p := fun x => x == a) hm
    rw [e] at this
    simp at this, g _ _ _ _ q (mutL E1 s h1 g2 (DnL.ofInts _)) (x1.trans (ext_mut g4)) .non⟩
end
end Dd
namespace Dd
open PySem PySem.Spec PyProof.Rows L2
/-! ## xs.extend(a tuple) -/
theorem list_extend_tupO (l : Addr) (items : Array Value) (n : Nat) (b : Addr) (items2 : Array Value) (hs0 : ¬(!items.isEmpty && Builtin.List.listTooLong (items.size + items2.size)) = true) (hs1 : items.size ≤ sizeLine) (hs2 : (items ++ items2).size ≤ sizeLine + 1) :
    Meets (Builtin.«list.extend» ⟨[.ref l, .ref b], []⟩) (fun _ R s => s.heap.get? l = some { cls := .type "list", dict := none, data := .seq items n, slots := #[] } ∧ IsTup s.heap b items2 ∧ R (.ok (.ret Value.none)) { s with heap := s.heap.update l (Obj.mapSeq fun x => x ++ items2), toks := s.toks }) :=
  .of_wp fun prog w A R s h => by
    obtain ⟨hl, ⟨o, hb, hc, n2, hd⟩, h⟩ := h
    show wpAny _ _ (Builtin.List.listExtendWith (.ref l) (.ref b) .none) _ _ _
    unfold Builtin.List.listExtendWith
    refine wpAny_bind (wpAny_typeOf (T := "tuple") ⟨o, hb, hc⟩ ?_)
    have g3 : (Value.type "tuple" == Value.type "tuple") = true := by decide
    simp only [g3, Bool.or_true, if_true]
    unfold Builtin.List.listItems
    refine wpAny_bind (wpAny_bind (wpAny_seqItems hb hd (wpAny_pure ?_)))
    refine wpAny_bind (wpAny_bind (wpAny_seqItems hl rfl (wpAny_pure ?_)))
    rw [if_neg hs0]
    refine wpAny_bind ?_
    show wpAny _ _ (updateSeq l fun x => x ++ items2) _ _ _
    refine wpAny_updateSeq (hz := hs1) (_hz' := hs2) hl rfl ?_
    exact wpAny_pure ⟨_, rfl, h⟩
def rExtT (K : PySem.W.Frag) : V → List V → Hp → VK → Prop := fun x vs H Q => ∃ l b xs zs, x = .ref l ∧ vs = [.ref b] ∧ H l = some (.lst xs) ∧ SqT K H b zs ∧ xs.length + zs.length ≤ sizeLine ∧ Q .non (upd H l (.lst (xs ++ zs)))
theorem mt_extendT {X : Cx} : MtM X "list.extend" (rExtT X.K) := by
  intro pins s σ H x vs v us Q I rx rv h
  obtain ⟨l, b, xs, zs, rfl, rfl, hH, hB, hz, q⟩ := h
  cases rx
  obtain ⟨u, rfl, ru⟩ := rv.one
  cases ru
  obtain ⟨z, its, n, r, hl, e⟩ := I.lstM hH
  obtain ⟨its2, r2, hT, hl2⟩ := I.tuple hB
  have l2 := r2.length
  have hsz : its.toArray.size + its2.toArray.size ≤ sizeLine := by rw [List.size_toArray, List.size_toArray]; omega
  have hlong : ¬ (!its.toArray.isEmpty && Builtin.List.listTooLong (its.toArray.size + its2.toArray.size)) = true := by
    rw [notLongL hsz, Bool.and_false]
    exact Bool.false_ne_true
  refine call_meets PySem.F.slot_list_extend ⟨_, e, rfl⟩ PySem.F.entry_list_extend (PySem.F.args_list_extend_2 _ _)
    (list_extend_tupO l its.toArray n b its2.toArray hlong (by rw [List.size_toArray]; omega) (by rw [Array.size_append]; omega)) ⟨e, hT, ?_⟩
  refine ⟨.non, _, I.lset (its' := its ++ its2) hH e (by simp) (r.append r2) ?_, rfl, q⟩
  rw [List.length_append]
  omega
section
variable {K : PySem.W.Frag} {F : Fx} {n : Ns} {ρ ρ' ρ0 ρ1 ρ2 : List Sl} {te ta tb : TE} {tx tr : TA} {d e : Da} {k k1 k2 : Rk} {ks : List Rk} {ds es : List Da} {i j : Nat} {H : Hp} {σ : L2.St} {Φ : Rw → List Sl → Prop}
theorem wp_extendT {b : Bool} (s0 : ρ[i]? = some (.own b (.lst es))) (h : WpA tx ρ fun ks ρ1 => ∃ k fs ds, ks = [k] ∧ see ρ1 k = some (.tup fs) ∧ ρ1[i]? = some (.own b (.lst ds)) ∧ ds.length + fs.length ≤ sizeLine ∧ Φ (.da .non) (ρ1.set i (.own b (.lst (ds ++ fs))))) : Wp (tBM K "list" (rExtT K) (tVar i) tx) ρ Φ := fun F n σ H E Q g => by
  obtain ⟨l, vs, h1, h2, h3, h4⟩ := own_at E s0
  refine ⟨_, h1, .inl ⟨rfl, vs, .inl (.inl h2)⟩, h F n σ H E _ fun us H1 ks ρ1 f E1 x1 r1 => ?_⟩
  obtain ⟨k, fs, ds, rfl, s1, s, z, q⟩ := f
  obtain ⟨v, rfl, r⟩ := rk1 r1
  obtain ⟨l', ws, g1, g2, g3, g4⟩ := own_at E1 s
  rw [h1] at g1
  cases g1
  obtain ⟨a, us, rfl, q1, _, q2⟩ := peekT E1 r s1
  exact ⟨l, a, ws, us, rfl, rfl, g2, .of q1, by rw [g3.length, q2.length]; exact z, g _ _ _ _ q (mutL E1 s h1 g2 (g3.app q2)) (x1.trans (ext_mut g4)) .non⟩
theorem wp_sortR (h : WpA tx ρ fun ks ρ1 => ∃ k ns, ks = [k] ∧ see ρ1 k = some (.lst (inz ns)) ∧ Φ (.nw (inz (srt ns).reverse)) ρ1) : Wp (tCKw (rSortedKw K true [.bl true]) tx (tCons (tC (.bl true)) tNil)) ρ Φ := fun F n σ H E Q g =>
  h F n σ H E _ fun vs H1 ks ρ1 f E1 x1 r1 => by
    obtain ⟨k, ns, rfl, s, q⟩ := f
    obtain ⟨v, rfl, r⟩ := rk1 r1
    obtain ⟨a, us, rfl, h1, h2⟩ := peekL E1 r s
    rw [h2.inz] at h1
    refine ⟨a, ns, rfl, rfl, .of h1, fun ns' p pm pw hp => ?_⟩
    have pw : ns'.Pairwise (· ≥ ·) := pw
    have e1 : ns'.reverse = srt ns := srt_uniq ((ns'.reverse_perm).trans (pm.trans (srt_perm ns).symm)) (List.pairwise_reverse.mpr pw) (srt_sorted ns)
    have e : ns' = (srt ns).reverse := by rw [← e1, List.reverse_reverse]
    rw [e]
    exact mk_o E1 (DnL.ofInts (srt ns).reverse) (fun v H' E' x' r' => g v H' _ ρ1 q E' (x1.trans x') (r'.pre E1 x1)) p hp
end
section
variable {X : Cx}
theorem cr_maxK {K : PySem.W.Frag} (m : KIs K) (h : X.K = K) (hc : X.calm = true) : CallR X (.builtin "max") (rMax K) := h ▸ cr_max hc
theorem cr_minK {K : PySem.W.Frag} (m : KIs K) (h : X.K = K) (hc : X.calm = true) : CallR X (.builtin "min") (rMin K) := h ▸ cr_min hc
theorem cr_sortedRevK {K : PySem.W.Frag} (m : KIs K) (h : X.K = K) : CallRK X (.builtin "sorted") [Str.ofString "reverse"] (rSortedKw K true [.bl true]) := h ▸ cr_sortedRev
theorem mt_extendTK {K : PySem.W.Frag} (m : KIs K) (h : X.K = K) : MtM X "list.extend" (rExtT K) := h ▸ mt_extendT
end
end Dd
namespace Dd
open PySem PySem.Spec PyProof.Rows L2
theorem eqD_LL (a b c d : List Int) : eqD (.tup [.lst (inz a), .lst (inz b)]) (.tup [.lst (inz c), .lst (inz d)]) = (decide (a = c) && decide (b = d)) := by
  unfold eqD
  simp only [toPy, toPys, toPys_inz, PyData.eqv, PyData.eqvAll, eqv_inz, Bool.and_true]
theorem LL_fit (a b : List Int) : Fit (.tup [.lst (inz a), .lst (inz b)]) := ⟨by
    rw [plain, plains, plains, plains, plain, plain, inz, inz, plains_map _ (fun _ => rfl) a, plains_map _ (fun _ => rfl) b]
    rfl, by
  obtain ⟨h1, h2⟩ := lay_inz a
  obtain ⟨h3, h4⟩ := lay_inz b
  rw [toPy, toPys, toPys, toPys, toPy, toPy, toPys_inz, toPys_inz]
  unfold SeqAt.shaped
  rw [PyData.canLay0, PyData.depth, PyData.canLayAll0, PyData.canLayAll0, PyData.canLayAll0, PyData.canLay0, PyData.canLay0, PyData.depthAll, PyData.depthAll, PyData.depthAll, PyData.depth, PyData.depth, h1, h3]
  simp
  omega⟩
theorem any_eqI (x : Int) (xs : List Int) : ((inz xs).any fun e => eqD e (.int x)) = decide (x ∈ xs) := by
  induction xs with
  | nil => rfl
  | cons a xs ih =>
    show (eqD (.int a) (.int x) || (inz xs).any fun e => eqD e (.int x)) = _
    rw [ih, eqD_int]
    by_cases h : a = x
    · subst h
      simp
    · have h' : ¬ x = a := fun e => h e.symm
      by_cases h2 : x ∈ xs <;> simp [h, h', h2]
section
variable {K : PySem.W.Frag} {F : Fx} {n : Ns} {ρ ρ' ρ0 ρ1 ρ2 : List Sl} {te tl ta tb : TE} {tt : TT} {tx : TA} {g : TG} {vs : List Nat} {Φ : Rw → List Sl → Prop}
theorem lcr_typed (f : Nat → Da) (c : Nat → Bool) (a : Nat) (hz : a < 1000000)
    (hs : ∀ m : Nat, m < a → ∃ ρ1, TgC g vs (wipeS ρ0 vs) (.int (m : Int)) ρ1 ∧ WpB tt ρ1 fun b ρ2 => b = c m ∧ (c m = true → Wp te ρ2 fun k ρ3 => soft k = .da (f m) ∧ wipeS ρ3 vs = wipeS ρ0 vs) ∧ (c m = false → wipeS ρ2 vs = wipeS ρ0 vs)) (q : Φ (.nw (((List.range a).filter c).map f)) (wipeS ρ0 vs)) : LcR g tt te vs Φ (a : Int) ρ0 := by
  refine ⟨⟨by omega, by omega⟩, fun m acc ρ' => acc = ((List.range m).filter c).map f ∧ ρ' = wipeS ρ0 vs, ⟨rfl, rfl⟩, fun m acc ρ' hm z => ?_, fun m acc ρ' hm z => ?_, fun acc ρ' z => ?_⟩
  · rw [z.1, List.length_map]
    exact Nat.lt_of_le_of_lt (Nat.le_trans (List.length_filter_le _ _) (by rw [List.length_range]; exact hm)) (by omega)
  · obtain ⟨z1, z2⟩ := z
    obtain ⟨ρ1, t1, t2⟩ := hs m (by omega)
    rw [z2]
    refine ⟨ρ1, t1, t2.imp fun b ρ2 ⟨hb, t3, t4⟩ => ⟨fun h => (t3 (hb.symm.trans h)).imp fun k ρ3 ⟨t5, t6⟩ => ⟨f m, t5, ?_, t6⟩, fun h => ⟨?_, t4 (hb.symm.trans h)⟩⟩⟩
    · rw [List.range_succ, z1]
      simp [hb.symm.trans h]
    · rw [List.range_succ, z1]
      simp [hb.symm.trans h]
  · obtain ⟨z1, z2⟩ := z
    rw [z1, z2, Int.toNat_natCast]
    exact q
theorem lcr_map (f : Nat → Da) (a : Nat) (hz : a < 1000000)
    (hs : ∀ m : Nat, m < a → ∃ ρ1, TgC g vs (wipeS ρ0 vs) (.int (m : Int)) ρ1 ∧ Wp te ρ1 fun k ρ3 => soft k = .da (f m) ∧ wipeS ρ3 vs = wipeS ρ0 vs) (q : Φ (.nw ((List.range a).map f)) (wipeS ρ0 vs)) : LcR g tYes te vs Φ (a : Int) ρ0 := by
  refine lcr_typed f (fun _ => true) a hz (fun x hx => ?_) ?_
  · obtain ⟨ρ1, t1, t2⟩ := hs x hx
    exact ⟨ρ1, t1, wb_yes ⟨rfl, fun _ => t2, fun h => by cases h⟩⟩
  · have e : (List.range a).filter (fun _ => true) = List.range a := by simp
    rw [e]
    exact q
end
end Dd
namespace Dd
open PySem PySem.Spec PyProof.Rows L2
/-! ## own errors: a base's __init__ called by its class's name -/
structure BaseI (K : PySem.W.Frag) (S : Addr) (mc : Value) : Prop where
  rd : ClX.CRead K S mc
  at_ : PySem.W.findCls K (.ref S) mc "__init__" = some (.val (.builtin "ValueError.__init__"))
section
variable {X : Cx} {o e : Expr} {es : List Expr} {to te : TE} {ta : TA} {f : Str} {p p' p1 p2 pos : Pos}
theorem pe_baseinit {pl : Sem Bool} {x : Str} {S : Addr} {mc : Value} (hg : Gl X x) (hm : X.mg x = some (.ref S)) (r : BaseI X.K S mc) (ha : PA X (e :: es) ta) (hdb : (x == ("__debug__" : Str)) = false := by decide)
    (hc : eval (.Call (.Attribute (.Name x p1) "__init__" p2) (e :: es) [] pos) X.env = (do
      let ov ← eval (.Name x p1) X.env
      standAt p2.atName
      let (f, first) ← holding [ov] (getMethod ov "__init__" pl)
      callWith pos f first (backTo pos (starEach (e :: es) X.env)) (backToKw pos (keywordEach [] X.env))) := by rfl)
    (he : starEach (e :: es) X.env = (false, eval e X.env) :: starEach es X.env := by rfl) (hpl : (backTo pos (starEach es X.env)).any (·.1) = false := by rfl) :
    PE X (.Call (.Attribute (.Name x p1) "__init__" p2) (e :: es) [] pos) (tVeI X.K ta) := by
  refine ⟨fun pins s σ H Q I h => ?_⟩
  refine PySem.W.methodCall_KW (pl := pl) (ld_glob I hg hm ?_ hdb) hc
  refine PySem.W.method_cls I.kIn r.rd.ga (PySem.W.cls_value I.kIn r.rd.rd r.at_ (by decide +kernel) ?_)
  show wpAny _ _ (callWith pos (Value.builtin "ValueError.__init__") [] (backTo pos (starEach (e :: es) X.env)) []) _ _ _
  refine PyProof.Rows.callWith_method1 (thn (ha.run pos pins _ σ H _ (I.tok _) h) fun us s1 ⟨vs, H1, I1, r1, a, C, ws, ev, hl, T, ea, q⟩ => ?_) he hpl
  subst ev
  cases r1 with
  | @cons _ u0 _ ur ra rw' =>
    obtain rfl : u0 = Value.ref a := ra
    have hlen : ur.length ≤ sizeLine := by
      rw [← Paired.length rw', sizeLine_eq]
      omega
    exact oinit_ok T I1 ea hlen fun s' J => ⟨.non, H1, J, rfl, q⟩
end
end Dd
namespace Dd
open PySem PySem.Spec PyProof.Rows L2
/-! ## xs[i] op= e, of an own list -/
theorem ixN_nat {n m : Nat} (h : m < n) : ixN n (m : Int) = some m := by
  unfold ixN
  rw [if_pos (by omega), if_pos (by omega), Int.toNat_natCast]
def rGetL : V → V → Hp → VK → Prop := fun o i H Q => ∃ p xs k z, o = .ref p ∧ i = .int k ∧ H p = some (.lst xs) ∧ 0 ≤ k ∧ k < 2 ^ 62 ∧ xs[k.toNat]? = some z ∧ Q z H
section
variable {X : Cx}
theorem get_own : PGet X rGetL := by
  intro pins s σ H o i ov iv Q I r1 r2 h
  obtain ⟨p, xs, k, z, rfl, rfl, hH, h0, h1, hz, q⟩ := h
  cases r1
  obtain ⟨t, rfl⟩ := r2
  obtain ⟨its, r, pl, hl⟩ := I.list (.of hH)
  obtain ⟨w, ew, rw'⟩ := r.get hz
  exact wpAny_getItem_list pl.isList h0 (by omega) (by simpa using ew) ⟨z, H, I, rw', q⟩
theorem ps_augI {o i e : Expr} {to ti te : TE} {tip : TIp} {op : Operator} {tpos pos : Pos} (ho : PE X o to) (hi : PE X i ti) (he : PE X e te) (hp : PIp X op tip)
    (ha : ∀ ov iv new, augStore i ov iv new = (do holding [new, ov, iv] (setItem ov iv new); release [new, ov, iv] []; pure .next) := by intros; rfl) : PS X (.AugAssign (.Subscript o i tpos) op e pos) (tAugS to ti te rGetL tip rSetL) :=
  ps_augS ho hi get_own he hp set_list ha
end
section
variable {K : PySem.W.Frag} {F : Fx} {n : Ns} {ρ ρ' ρ0 ρ1 ρ2 : List Sl} {te ti : TE} {d e : Da} {ds es : List Da} {i j : Nat} {H : Hp} {σ : L2.St} {D : Ends}
theorem nx_augI {f : Int → Int → Int} (h : Wp ti ρ fun k ρ1 => ∃ (m : Nat) (b : Bool) (ds : List Da) (x : Int), see ρ1 (soft k) = some (.int (m : Int)) ∧ ρ[j]? = some (.own b (.lst ds)) ∧ ρ1[j]? = some (.own b (.lst ds)) ∧ m < 2 ^ 62 ∧ ds[m]? = some (.int x) ∧ Wp te ρ1 fun k2 ρ2 => ∃ y ds2, see ρ2 (soft k2) = some (.int y) ∧ ρ2[j]? = some (.own b (.lst ds2)) ∧ m < ds2.length ∧ Nx F (ρ2.set j (.own b (.lst (ds2.set m (.int (f x y)))))) D.nx)
    (hj : ∃ b ds, ρ[j]? = some (.own b (.lst ds))) : Nx F ρ (tAugS (tVar j) ti te rGetL (ipI f) rSetL D) := fun n σ H E => by
  obtain ⟨b0, ds0, hj⟩ := hj
  obtain ⟨l, vs, h1, h2, h3, h4⟩ := own_at E hj
  refine ⟨_, h1, h F n σ H E _ fun v H1 k ρ1 f1 E1 x1 r1 => ?_⟩
  obtain ⟨m, b, ds, x, s1, _, so, hm, hx, ho⟩ := f1
  obtain ⟨l1, vs1, g1, g2, g3, g4⟩ := own_at E1 so
  rw [h1] at g1
  cases g1
  rw [peekI E1 (r1.soft E) s1]
  obtain ⟨z, e1, e2⟩ := g3.get m _ hx
  cases e2
  refine ⟨l, vs1, m, _, rfl, rfl, g2, by omega, by omega, by simpa using e1, ho F n σ H1 E1 _ fun u H2 k2 ρ2 f2 E2 x2 r2 => ?_⟩
  obtain ⟨y, ds2, s2, so2, hm2, q⟩ := f2
  obtain ⟨l2, vs2, k1, k2', k3, k4⟩ := own_at E2 so2
  rw [h1] at k1
  cases k1
  rw [peekI E2 (r2.soft E1) s2]
  exact ⟨x, y, rfl, rfl, l, vs2, (m : Int), m, rfl, rfl, k2', by rw [k3.length]; exact ixN_nat hm2, q n σ _ (mutL E2 so2 h1 k2' (k3.set m (.int _)))⟩
end
end Dd
namespace Dd
open PySem PySem.Spec PyProof.Rows L2
/-! ## raise C(e), C an own error whose __init__ keeps one number as f -/
def spErr (C : Addr) (f : Str) : Sp := fun vs H Q _ => ∃ (a : Addr) (i : Int), vs = [.ref a, .int i] ∧ H a = some (exo a C none) ∧ ∀ (d : Addr) (H' : Hp), H d = none → d ≠ a → H' a = some (exo a C (some d)) → H' d = some (exd d [(f, .int i)]) → (∀ b o, H b = some o → b ≠ a → H' b = some o) → Q .non H'
def tRaiseI (C : Addr) (f : Str) (E : XK) (te : TE) : TS := fun _ σ H => tMkO C (spErr C f) [] (tCons te tNil) σ H fun cls d H' => E cls d H'
structure Errb (P : Program) (w : World) (K : PySem.W.Frag) (mg : Str → Option Value) (base : Heap) (k : Nat) (x : Str) (C : Addr) (f : Str) : Prop where
  ex : ∃ (fI : Addr) (fd : FuncData) (ps : List Str), OexC K C ∧ PySem.W.findIn K (.ref C) "__init__" = some (some (.ref fI)) ∧ PySem.W.typeIn K (.ref fI) = some (.type "function") ∧ FnOk P w K mg base CX0 k fI fd ps (spErr C f) ∧ Binds K fd ps [] ∧ mg x = some (.ref C)
section
variable {X : Cx}
theorem ps_raiseI {E : XK} {j k : Nat} {x : Str} {C : Addr} {f : Str} {e : Expr} {te : TE} {p p2 pos : Pos} (hc : X.calm = true) (tk : Takes X (fun cls d _ H => E cls d H)) (c : Errb X.prog X.w X.K X.mg X.base k x C f) (hr : Room j X.A) (hk : k + 1 ≤ j) (hg : Gl X x) (he : PE X e te)
    (hdb : (x == ("__debug__" : Str)) = false := by decide) (hst : starEach [e] X.env = (false, eval e X.env) :: starEach [] X.env := by rfl) (hpl : (backTo p2 (starEach [] X.env)).any (·.1) = false := by rfl) :
    PS X (.Raise (some (.Call (.Name x p) [e] [] p2)) none pos) (tRaiseI C f E te) := by
  obtain ⟨fI, fd, ps, T, iC, tI, F, b, hm⟩ := c.ex
  exact ps_raise hc tk (pmk_oex T iC tI F (hr.mono hk) b .nil pass0 hg hm (pa_cons he pa_nil hst) hdb hst hpl)
end
section
variable {K : PySem.W.Frag} {F G : Fx} {n n0 : Ns} {ρ ρ' ρ0 ρ1 ρ2 : List Sl} {te : TE} {H H0 : Hp} {σ : L2.St} {D : Ends} {E : XK} {C : Addr} {f : Str}
theorem nx_raiseI (w : Fw ⟨H0, fun _ => False, n0, []⟩ G) (h : Wp te ρ fun k ρ1 => ∃ i, see ρ1 (soft k) = some (.int i) ∧ ∀ d H', Grow H0 H' → H0 d = none → H' d = some (.xd [(f, .int i)]) → E (.ref C) (some d) H') : Nx G ρ (tRaiseI C f E te D) := fun n σ H E0 => by
  refine h G n σ H E0 _ fun v H1 k ρ1 f1 E1 x1 r1 => ?_
  obtain ⟨i, s1, q⟩ := f1
  rw [peekI E1 (r1.soft E0) s1]
  have E2 := w.un E1
  have gr : Grow H0 H1 := fun a o z => E2.kp a o z (fun z => z)
  refine ⟨Nat.le_of_ble_eq_true rfl, fun a ha => ?_⟩
  refine ⟨a, i, rfl, upd_same, fun d H' hd hda ea ed kp => ⟨rfl, d, _, ea, ed, ?_, ?_⟩⟩
  · rw [upd_ne hda] at hd
    exact hd
  · rw [upd_ne hda] at hd
    have na : ∀ {b o}, H0 b = some o → b ≠ a := fun {b o} z e => by rw [e] at z; rw [gr _ _ z] at ha; cases ha
    have nd : ∀ {b o}, H0 b = some o → b ≠ d := fun {b o} z e => by rw [e] at z; rw [gr _ _ z] at hd; cases hd
    refine q d _ (fun b o z => ?_) ?_ upd_same
    · rw [upd_ne (nd z), del_ne (na z)]
      exact kp b o (by rw [upd_ne (na z)]; exact gr _ _ z) (na z)
    · cases e : H0 d with
      | none => rfl
      | some o => rw [gr _ _ e] at hd; cases hd
end
end Dd
namespace Dd
open PySem PySem.Spec PyProof.Rows L2
/-! ## defs that let an own error with one number out -/
def SpX {α : Type} (enc : α → List Da) (pre : α → Prop) (post : α → Da → Prop) (exc : α → Addr → Str → Int → Prop) : Sp := fun vs H Q E => ∃ (n : Ns) (x : α), (∀ a, n a → H a ≠ none) ∧ DnL n H vs (enc x) ∧ pre x ∧ (∀ v H' r, post x r → Grow H H' → Dn n H' v r → Q v H') ∧
  ∀ C f i d H', exc x C f i → Grow H H' → H d = none → H' d = some (.xd [(f, .int i)]) → E (.ref C) (some d) H'
structure CalX (P : Program) (w : World) (K : PySem.W.Frag) (mg : Str → Option Value) (base : Heap) (k : Nat) (x : Str) (sp : Sp) : Prop where
  ex : ∃ (f : Addr) (fd : FuncData) (ps : List Str), FnOk P w K mg base (L2.CX P w) k f fd ps sp ∧ mg x = some (.ref f) ∧ PySem.W.keepIn K (.ref f) = true ∧ Binds K fd ps []
section
variable {X : Cx}
theorem pe_calX {W : WX} {E : XK} {j k : Nat} {x : Str} {sp : Sp} {p pos : Pos} {e : Expr} {es : List Expr} {t : TA} (c : CalX X.prog X.w X.K X.mg X.base k x sp) (hr : Room j X.A) (hk : k ≤ j) (hg : Gl X x) (tk : Takes X W) (hW : ∀ cls d σ H, E cls d H → W cls d σ H) (ha : PA X (e :: es) t)
    (hdb : (x == ("__debug__" : Str)) = false := by decide) (he : starEach (e :: es) X.env = (false, eval e X.env) :: starEach es X.env := by rfl) (hpl : (backTo pos (starEach es X.env)).any (·.1) = false := by rfl) :
    PE X (.Call (.Name x p) (e :: es) [] pos) (tCall sp [] E t) := by
  obtain ⟨f, fd, ps, F, hm, kp, b⟩ := c.ex
  exact pe_call F (hr.mono hk) hg hm kp b .nil (passes_call tk hW) ha hdb he hpl
end
section
variable {α : Type} {K : PySem.W.Frag} {F G : Fx} {n n0 : Ns} {io : Addr → Prop} {ρ ρ' ρ0 ρ1 ρ2 : List Sl} {tx : TA} {H H0 : Hp} {σ : L2.St} {D : Ends} {E : XK} {enc : α → List Da} {pre : α → Prop} {post : α → Da → Prop} {exc : α → Addr → Str → Int → Prop} {i : Nat}
theorem new_in {d : Addr} (w : Fw ⟨H0, io, n0, []⟩ G) (E1 : EnvOk G n ρ σ H) (hd : H d = none) : H0 d = none := by
  have E2 := w.un E1
  cases e : H0 d with
  | none => rfl
  | some o =>
    by_cases c : io d
    · exact absurd hd (E2.al d (E2.sub d (E2.ion d c)))
    · rw [E2.kp d o e c] at hd
      cases hd
theorem nx_dropX (w : Fw ⟨H0, io, n0, []⟩ G) (h : WpA tx ρ fun ks ρ1 => ∃ x, AllDa ks (enc x) ∧ pre x ∧ (∀ r, post x r → Nx G ρ1 D.nx) ∧ ∀ C f i d H', exc x C f i → (∀ b o, H0 b = some o → ¬ io b → H' b = some o) → H0 d = none → H' d = some (.xd [(f, .int i)]) → E (.ref C) (some d) H') :
    Nx G ρ (tDrop (tCall (SpX enc pre post exc) [] E tx) D) := fun n σ H E0 =>
  h G n σ H E0 _ fun vs H1 ks ρ1 f E1 x1 r1 => by
    obtain ⟨x, hs, hp, q, qx⟩ := f
    rw [List.append_nil]
    exact ⟨n, x, E1.al, hs.rel r1, hp, fun v H' r hr gr h => q r hr n σ H' (E1.grow gr), fun C f i d H' he gr hd hx => qx C f i d H' he (fun b o z nio => gr _ _ ((w.un E1).kp b o z nio)) (new_in w E1 hd) hx⟩
theorem nx_setX (w : Fw ⟨H0, io, n0, []⟩ G) (h : WpA tx ρ fun ks ρ1 => ∃ x, AllDa ks (enc x) ∧ pre x ∧ (∀ r, post x r → Nx G (ρ1.set i (.is r)) D.nx) ∧ ∀ C f i d H', exc x C f i → (∀ b o, H0 b = some o → ¬ io b → H' b = some o) → H0 d = none → H' d = some (.xd [(f, .int i)]) → E (.ref C) (some d) H') :
    Nx G ρ (tAsg (tCall (SpX enc pre post exc) [] E tx) (gName i) D) := fun n σ H E0 =>
  h G n σ H E0 _ fun vs H1 ks ρ1 f E1 x1 r1 => by
    obtain ⟨x, hs, hp, q, qx⟩ := f
    rw [List.append_nil]
    exact ⟨n, x, E1.al, hs.rel r1, hp, fun v H' r hr gr h => q r hr n _ H' ((E1.grow gr).set h), fun C f i d H' he gr hd hx => qx C f i d H' he (fun b o z nio => gr _ _ ((w.un E1).kp b o z nio)) (new_in w E1 hd) hx⟩
end
end Dd
namespace Dd
open PySem PySem.Spec PyProof.Rows L2
/-! ## sum of a tuple, list(range(n)), any part of a tuple -/
section
variable {prog : Program} {w : World} {A : Around} {E : Value → Shared → Prop} {s : Shared} {l : Addr}
theorem sum_rawT {its : List Value} {ns : List Int} {Q : Value → Shared → Prop} (hh : A.handled = none) (hl : s.heap.IsTuple l its.toArray) (hi : IntsAre its ns)
    (h : ∀ h' tk t', (∀ b o, s.heap.get? b = some o → h'.get? b = some o) → Q (.int ns.sum t') { s with heap := h', toks := tk }) : wpAny (model prog w) A (PySem.call (.builtin "sum") [.ref l]) Q E s := by
  obtain ⟨xs, e⟩ := hi.allInts.items
  have hn : numsOf (intItems xs).toList = ns := by rw [← e]; exact hi.numsOf
  rw [nums_intItems] at hn
  rw [e] at hl
  have hlt : l < s.heap.objs.size := by obtain ⟨_, e, _⟩ := hl; exact Heap.lt_size e
  refine call_sum_walkG (wpAny_pyIter_tuple hl ?_)
  refine ⟨_, _, _, _, _, _, numAt xs, rfl, Walks.tuple (A := A.in1) hh _ l (Nat.ne_of_lt hlt) (intItems xs), ⟨⟨_, Heap.get?_push_size _ rfl, rfl, rfl⟩, hl.push _⟩, fun b hb => ?_, (fun _ _ => intItems_at), fun h' tk t' hk => ?_⟩
  · show b < (s.heap.push _).objs.size
    rw [Heap.size_push]
    rcases List.mem_cons.mp hb with rfl | hb
    · exact Nat.lt_succ_self _
    · rcases List.mem_cons.mp hb with rfl | hb
      · exact Nat.lt_succ_of_lt hlt
      · cases hb
  · have := h h' tk t' fun b o e => hk b o (fun hm => by
      rcases List.mem_cons.mp hm with e1 | hm
      · exact absurd (e1 ▸ Heap.lt_size e) (Nat.lt_irrefl _)
      · cases hm) (Heap.get?_push_of_some _ e)
    rw [show (intItems xs).size = xs.size by simp [intItems], preSum_eq, List.take_of_length_le (by simp), hn]
    exact this
end
def rSumU (K : PySem.W.Frag) : List V → Hp → VK → Prop := fun vs H Q => ∃ (a : Addr) (ns : List Int), vs = [V.ref a] ∧ (SqL K H a (ns.map V.int) ∨ SqT K H a (ns.map V.int)) ∧ Q (.int ns.sum) H
def rSlV (K : PySem.W.Frag) : V → Option Int → Option Int → Hp → VK → Prop := fun x lo hi H Q => rSlL K x lo hi H Q ∨ (rSlA K x lo hi H Q ∨ rSlS x lo hi H Q)
section
variable {X : Cx} {K : PySem.W.Frag}
theorem cr_sumU (hc : X.calm = true) : CallR X (.builtin "sum") (rSumU X.K) := by
  intro pins s σ H vs us Q I r h
  obtain ⟨a, ns, rfl, hs, q⟩ := h
  rw [Vals.ref1 r]
  rcases hs with hs | hs
  · obtain ⟨its, rv, hl, _⟩ := I.list hs
    exact sum_raw (I.ok.hd hc) hl.isList rv.ints fun h' tk t' hk => ⟨.int _, H, I.kept hk, ⟨_, rfl⟩, q⟩
  · obtain ⟨its, rv, hl, _⟩ := I.tuple hs
    exact sum_rawT (I.ok.hd hc) hl rv.ints fun h' tk t' hk => ⟨.int _, H, I.kept hk, ⟨_, rfl⟩, q⟩
theorem cr_sumUK (m : KIs K) (h : X.K = K) (hc : X.calm = true) : CallR X (.builtin "sum") (rSumU K) := h ▸ cr_sumU hc
theorem sl_anyV : SlR X (rSlV X.K) := SlR.or sl_list (SlR.or sl_tupA sl_str)
theorem sl_anyVK (m : KIs K) (h : X.K = K) : SlR X (rSlV K) := h ▸ sl_anyV
end
section
variable {K : PySem.W.Frag} {F : Fx} {n : Ns} {ρ ρ' ρ0 ρ1 ρ2 : List Sl} {te ta tb : TE} {tl th : TO} {tx tr : TA} {d e : Da} {k k1 k2 : Rk} {ks : List Rk} {ds es : List Da} {i j : Nat} {H : Hp} {σ : L2.St} {x : Str} {Φ : Rw → List Sl → Prop}
theorem b_sumL {ns : List Int} (s : see ρ k = some (.lst (inz ns))) : Cb (rSumU K) ρ [k] (.da (.int ns.sum)) := fun F n σ H vs Q E r1 q => by
  obtain ⟨v, rfl, r⟩ := rk1 r1
  obtain ⟨a, us, rfl, h1, h2⟩ := peekL E r s
  rw [h2.inz] at h1
  exact ⟨a, ns, rfl, .inl (.inl (.inl h1)), q _ H E .refl (.int _)⟩
theorem b_sumT {ns : List Int} (s : see ρ k = some (.tup (inz ns))) : Cb (rSumU K) ρ [k] (.da (.int ns.sum)) := fun F n σ H vs Q E r1 q => by
  obtain ⟨v, rfl, r⟩ := rk1 r1
  obtain ⟨a, us, rfl, h1, _, h2⟩ := peekT E r s
  rw [h2.inz] at h1
  exact ⟨a, ns, rfl, .inr (.inl (.inl h1)), q _ H E .refl (.int _)⟩
def SlcV (K : PySem.W.Frag) (ρ : List Sl) (k : Rk) (lo hi : Option Int) (kw : Rw) : Prop := ∀ F n σ H x (Q : VK), EnvOk F n ρ σ H → RelK n σ H x k → (∀ v H', EnvOk F n ρ σ H' → Ext n H H' → RelW F n ρ σ H H' v kw → Q v H') → rSlV K x lo hi H Q
theorem wp_slV (h : Wp te ρ fun k ρ0 => WpO tl ρ0 fun lo ρ1 => WpO th ρ1 fun hi ρ2 => ∃ kw, SlcV K ρ2 (soft k) lo hi kw ∧ Φ kw ρ2) : Wp (tSl (rSlV K) te tl th) ρ Φ := fun F n σ H E Q g =>
  h F n σ H E _ fun v H0 k ρ0 f0 E0 x0 r0 => f0 F n σ H0 E0 _ fun H1 lo ρ1 f1 E1 x1 => f1 F n σ H1 E1 _ fun H2 hi ρ2 f2 E2 x2 => by
    obtain ⟨kw, o, f⟩ := f2
    exact o F n σ H2 v Q E2 (((r0.soft E).ext x1).ext x2) fun w H3 E3 x3 r3 => g w H3 kw ρ2 f E3 (((x0.trans x1).trans x2).trans x3) (r3.pre E2 ((x0.trans x1).trans x2))
theorem slv_L {lo hi : Option Int} (s : see ρ k = some (.lst ds)) : SlcV K ρ k lo hi (.nw (cutD ds lo hi)) := fun F n σ H x Q E r q => by
  obtain ⟨a, vs, rfl, g1, g2⟩ := peekL E r s
  exact .inl ⟨a, vs, rfl, .inl (.inl g1), mk_o E (g2.cut lo hi) q⟩
theorem slv_S {lo hi : Option Int} (s : see ρ k = some (.str x)) (z : x.length ≤ sizeLine) : SlcV K ρ k lo hi (.da (.str (cutS x lo hi))) := fun F n σ H u Q E r q => by
  rw [peekS E r s]
  exact .inr (.inr ⟨x, rfl, z, q _ H E .refl (.str _)⟩)
theorem cutD_all {lo hi : Option Int} (h : HT.sIx ds.length 0 lo = 0 ∧ HT.sIx ds.length ds.length hi = ds.length) : cutD ds lo hi = ds := by
  unfold cutD
  rw [h.1, h.2, List.drop_zero, Nat.sub_zero, List.take_length]
theorem slv_T {lo hi : Option Int} (s : see ρ k = some (.tup ds)) : SlcV K ρ k lo hi (.da (.tup (cutD ds lo hi))) := fun F n σ H x Q E r q => by
  obtain ⟨a, vs, rfl, g1, gn, g2⟩ := peekT E r s
  refine .inr (.inl ⟨a, vs, rfl, .inl (.inl g1), fun h => ?_, fun h => mk_t E (g2.cut lo hi) q⟩)
  rw [g2.length] at h
  rw [cutD_all h] at q
  exact q _ _ E .refl (.tup g1 gn g2)
theorem rgV_int (a : Nat) : rgV 0 (a : Int) = ((List.range a).map fun i : Nat => (i : Int)).map V.int := by
  unfold rgV
  rw [List.map_map]
  have : ((a : Int) - 0).toNat = a := by omega
  rw [this]
  refine List.map_congr_left fun i _ => ?_
  show V.int (0 + (i : Int)) = V.int (i : Int)
  rw [Int.zero_add]
/-- list(range(n)) -/
def rgI (a : Nat) : List Int := (List.range a).map fun i : Nat => (i : Int)
theorem rgI_len (a : Nat) : (rgI a).length = a := by simp [rgI]
theorem wp_lrg (h : Wp te ρ fun k ρ1 => ∃ a : Nat, see ρ1 (soft k) = some (.int (a : Int)) ∧ a ≤ 16777216 ∧ Φ (.nw (inz (rgI a))) ρ1) : Wp (tLstRg (tRg1 te)) ρ Φ := fun F n σ H E Q g =>
  h F n σ H E _ fun v H1 k ρ1 f E1 x1 r1 => by
    obtain ⟨a, s, z, q⟩ := f
    refine ⟨(a : Int), peekI E1 (r1.soft E) s, .of_le (by omega) (by omega) (by omega) (by omega), ?_⟩
    rw [rgV_int]
    exact mk_o E1 (DnL.ofInts _) fun v H' E' x' r' => g v H' _ ρ1 q E' (x1.trans x') (r'.pre E1 x1)
end
/-! ## a whole number in a list or a tuple of such -/
def rInU (K : PySem.W.Frag) : R2 := fun x y H Q => rInD K x y H Q ∨ rIn K false x y H Q
section
variable {X : Cx} {K : PySem.W.Frag}
theorem op_inU {k : Nat} (hr : Room k X.A) : OpR X (compareOp .In) (rInU X.K) := OpR.or (op_inR hr) op_in_seq
theorem op_inUK (m : KIs K) (h : X.K = K) {k : Nat} (hr : Room k X.A) : OpR X (compareOp .In) (rInU K) := h ▸ op_inU hr
end
section
variable {K : PySem.W.Frag} {F : Fx} {n : Ns} {ρ : List Sl} {d e : Da} {k k1 k2 : Rk} {ds es : List Da} {i : Int}
theorem op_in'' (s1 : see ρ k1 = some d) (s2 : see ρ k2 = some (.lst es)) (f1 : Fit d) (f2 : Fit (.lst es)) : Op (rInU K) ρ k1 k2 (.da (.bl (es.any fun e => eqD e d))) := fun F n σ H x y Q E r1 r2 q => .inl (op_in' (K := K) s1 s2 f1 f2 F n σ H x y Q E r1 r2 q)
theorem inV_ints (i : Int) (ns : List Int) : inV (.int i) (ns.map V.int) = decide (i ∈ ns) := by
  unfold inV
  induction ns with
  | nil => rfl
  | cons a ns ih =>
    rw [List.map_cons, List.any_cons, ih]
    have : eqV (V.int a) (.int i) = decide (a = i) := by
      by_cases c : a = i <;> simp [eqV, c]
    rw [this]
    have e : (i ∈ a :: ns) ↔ (a = i ∨ i ∈ ns) := by rw [List.mem_cons]; exact or_congr_left eq_comm
    by_cases c : a = i <;> by_cases c2 : i ∈ ns <;> simp [c, c2, e]
theorem op_inz {ns : List Int} (s1 : see ρ k1 = some (.int i)) (s2 : see ρ k2 = some d) (q2 : Sq d (inz ns)) : Op (rInU K) ρ k1 k2 (.da (.bl (decide (i ∈ ns)))) := fun F n σ H x y Q E r1 r2 q => by
  obtain ⟨a, us, rfl, h1, _, h2⟩ := peekSq (K := K) E r2 s2 q2
  rw [h2.inz] at h1
  refine .inr ⟨a, _, rfl, h1, ?_, ?_, ?_⟩
  · rw [peekI E r1 s1]; rfl
  · rw [List.all_map]
    exact List.all_eq_true.mpr fun _ _ => rfl
  · rw [peekI E r1 s1, inV_ints]
    exact q _ _ E .refl (.bl _)
end
section
variable {K : PySem.W.Frag} {ρ : List Sl} {te : TE} {d : Da} {ds : List Da}
/-- over a list or a tuple that is known -/
theorem wi_sq {ΦI : List Da → List Sl → Prop} (q : Sq d ds) (h : Wp te ρ fun k ρ0 => soft k = .da d ∧ ΦI ds ρ0) : WpI (iSeq K te) ρ ΦI := by
  cases q with
  | lst => exact wi_lst (h.imp fun k ρ' z => ⟨_, z⟩)
  | tup => exact wi_tup (h.imp fun k ρ' z => ⟨_, z⟩)
end
section
variable {F : Fx} {ρ ρ1 ρ2 : List Sl} {D : Ends} {t u : TS} {p q : Prop}
/-- what follows an if, shown once -/
theorem if_cut (Z : List Sl → Prop) (k : ∀ ρ', Z ρ' → Nx F ρ' D.nx) (h : (∀ ρ', Z ρ' → Nx F ρ' D.nx) → (p → Nx F ρ1 (t D)) ∧ (q → Nx F ρ2 (u D))) : (p → Nx F ρ1 (t D)) ∧ (q → Nx F ρ2 (u D)) := h k
end
end Dd
namespace Dd
open PySem PySem.Spec PyProof.Rows L2
/-! ## range(a, b) -/
section
variable {K : PySem.W.Frag} {F : Fx} {ρ ρ' ρ0 : List Sl} {tx : TA}
theorem wi_rng2 {ΦI : List Da → List Sl → Prop} (h : WpA tx ρ fun ks ρ0 => ∃ k1 k2 a b, ks = [k1, k2] ∧ see ρ0 k1 = some (.int a) ∧ see ρ0 k2 = some (.int b) ∧ (-(2 ^ 62) ≤ a ∧ a < 2 ^ 62 ∧ -(2 ^ 62) ≤ b ∧ b < 2 ^ 62) ∧ ΦI ((List.range (b - a).toNat).map fun i : Nat => Da.int (a + (i : Int))) ρ0) : WpI (iRng2 tx) ρ ΦI := fun F n σ H E R g =>
  h F n σ H E _ fun us H1 ks ρ0 f E1 x1 r1 => by
    obtain ⟨k1, k2, a, b, rfl, s1, s2, z, q⟩ := f
    obtain ⟨v, u, rfl, r, r'⟩ := rk2 r1
    rw [peekI E1 r s1, peekI E1 r' s2]
    refine ⟨a, b, rfl, z, g _ H1 _ ρ0 F q .refl E1 x1 ?_⟩
    unfold WalkD
    rw [List.length_map, List.length_range]
    refine (walk_range (lo := a) (n := (b - a).toNat)).mono (fun _ _ => trivial) (fun i H x H' hi _ y => ?_)
    obtain ⟨rfl, rfl⟩ := y
    exact ⟨.refl, _, by rw [List.getElem?_map, List.getElem?_range hi]; rfl, fun _ _ _ _ => .int _⟩
end
end Dd
namespace Dd
open PySem PySem.Spec PyProof.Rows L2
/-! ## sorted of a tuple of whole numbers -/
section
variable {pg : Program} {wd : World} {ar : Around} {Er : Value → Shared → Prop} {sh : Shared} {tu : Addr} {us : List Value}
def colH (h : Heap) (us : List Value) : Heap := (h.push (seqObj "list" #[] 0)).update h.objs.size (Obj.mapSeq (· ++ us.toArray))
theorem coll_tup {R : List Value → Shared → Prop} (ht : sh.heap.IsTuple tu us.toArray) (hz : us.length ≤ sizeLine) (q : R us { sh with heap := colH sh.heap us }) :
    wpAny (model pg wd) ar (collect (.ref tu)) R Er sh := by
  obtain ⟨ob, hob, hcl, m, hdt⟩ := id ht
  have hnew : (sh.heap.push (seqObj "list" #[] 0)).get? sh.heap.objs.size = some (seqObj "list" #[] 0) := Heap.get?_push_size _ rfl
  have hob2 := Heap.get?_push_of_some (seqObj "list" #[] 0) hob
  have two : (Value.type "tuple" == Value.type "tuple") = true := rfl
  unfold collect
  refine wpAny_bind (wpAny_runValue (codeAny_builtin entry_proto_collect' (wpAny_bind ?_)))
  refine wpAny_newList (wpAny_pure ⟨Code.quiet_builtin _ (by decide +kernel), codeAny_builtin entry_list_iadd' ?_⟩)
  show wpAny _ _ (Builtin.List.listExtendWith (.ref sh.heap.objs.size) (.ref tu) (.ref sh.heap.objs.size)) _ _ _
  unfold Builtin.List.listExtendWith
  refine wpAny_bind (wpAny_typeOf (T := "tuple") ⟨ob, hob2, hcl⟩ ?_)
  rw [two, Bool.or_true, if_pos rfl]
  refine wpAny_bind (listItems_at hob2 hdt ?_)
  refine wpAny_bind (listItems_at (xs := #[]) (n := 0) hnew rfl ?_)
  rw [if_neg (by simp)]
  refine wpAny_bind (listUpdate_at (xs := #[]) (n := 0) hnew rfl (wpAny_pure ?_) (Nat.zero_le _) ?_)
  · show wpAny (model pg wd) ar (load sh.heap.objs.size >>= _) _ _ _
    refine wpAny_bind (wpAny_load (get?_update_seq hnew _) ?_)
    have e : ((#[] : Array Value) ++ us.toArray).toList = us := by simp
    show wpAny _ _ (pure ((#[] : Array Value) ++ us.toArray).toList) _ _ _
    rw [e]
    exact wpAny_pure q
  · show (#[] ++ us.toArray).size ≤ sizeLine + 1
    rw [Array.size_append, List.size_toArray]
    exact Nat.le_succ_of_le (by simpa using hz)
theorem sort_tup {lt : Value → Value → Bool} {R : Value → Shared → Prop} (O : SrtO.Swo lt) (ht : sh.heap.IsTuple tu us.toArray) (hz : us.length ≤ sizeLine)
    (hS : 2 ≤ us.length → ∀ (g : Heap) (a : Addr), g.get? a = some (seqObj "list" us.toArray 0) → (∀ b o, sh.heap.get? b = some o → b ≠ a ∧ g.get? b = some o) → SrtO.SortableO pg wd ar.in1.in1 { sh with heap := g } a us lt)
    (q : ∀ out : List Value, SrtO.Srtd lt out → SrtO.Stb lt out us → R (.ref (sh.heap.objs.size + 1)) { sh with heap := sortedAll sh.heap us out.toArray }) :
    wpAny (model pg wd) ar (PySem.call (.builtin "sorted") [.ref tu]) R Er sh := by
  have sz : (colH sh.heap us).objs.size = sh.heap.objs.size + 1 := by unfold colH; rw [Heap.size_update, size_push']
  have at1 : ((colH sh.heap us).push (seqObj "list" us.toArray 0)).get? (sh.heap.objs.size + 1) = some (seqObj "list" us.toArray 0) := by
    rw [← sz]
    exact Heap.get?_push_size _ rfl
  have old : ∀ b o, sh.heap.get? b = some o → b ≠ sh.heap.objs.size + 1 ∧ ((colH sh.heap us).push (seqObj "list" us.toArray 0)).get? b = some o := fun b o e => by
    have lt' := Heap.lt_size e
    refine ⟨Nat.ne_of_lt (Nat.lt_succ_of_lt lt'), Heap.get?_push_of_some _ ?_⟩
    unfold colH
    rw [Heap.get?_update_ne _ _ _ _ (Nat.ne_of_lt lt')]
    exact Heap.get?_push_of_some _ e
  refine Calls.call_function_entry kind_sorted plain_sorted entry_sorted (args_sorted1 _) ?_
  unfold Builtin.«sorted»
  refine wpAny_bind (m := checkCount "sorted" 1 1 _) (wpAny_pure (wpAny_bind (coll_tup ht hz (wpAny_bind (wpAny_newList ?_ hz)))))
  rw [show ({ sh with heap := colH sh.heap us } : Shared).heap.objs.size = sh.heap.objs.size + 1 from sz]
  exact wpAny_bind (wpAny_holding (wpAny_call_entry slot_list_sort ⟨_, at1, rfl⟩ entry_list_sort (SrtO.list_sort_ord O at1 hz (fun h2 => hS h2 _ _ at1 old) fun out h1 h2 => ⟨_, rfl, wpAny_pure ⟨_, rfl, q out h1 h2⟩⟩) (args_list_sort _)))
end
def rSortV (K : PySem.W.Frag) : List V → Hp → VK → Prop := fun vs H Q => rSortU K vs H Q ∨ ∃ (a : Addr) (ns : List Int), vs = [V.ref a] ∧ SqT K H a (ns.map V.int) ∧ ∀ (ns' : List Int) (p : Addr), ns'.Perm ns → ns'.Pairwise (· ≤ ·) → H p = none → Q (.ref p) (upd H p (.lst (ns'.map V.int)))
section
variable {X : Cx} {K : PySem.W.Frag}
theorem cr_sortV : CallR X (.builtin "sorted") (rSortV X.K) := by
  rintro pins s σ H vs us Q I r (h | ⟨a, ns, rfl, hs, q⟩)
  · exact cr_sortU pins s σ H vs us Q I r h
  · obtain ⟨its, rv, ht, hz⟩ := I.tuple hs
    have hi := rv.ints
    have hl := rv.length
    rw [Vals.ref1 r]
    refine sort_tup SrtO.swo_int ht (by rw [← hl]; exact hz) (fun h2 g a' _ _ => SrtO.ints_sortable hi h2) fun out h1 h2 => ?_
    obtain ⟨k1, k2, k3⟩ := SrtO.ints_out hi h1 h2
    obtain ⟨ep, he'⟩ := PyProof.Rows.sortedAll_at s.heap its out.toArray
    have hlen : ((out.map SrtO.iv).map V.int).length ≤ sizeLine := by
      rw [List.length_map, k2.length_eq]
      simpa using hz
    exact ⟨.ref _, upd H (s.heap.objs.size + 1) (.lst ((out.map SrtO.iv).map V.int)), I.laid (t' := s.toks) (fun _ _ => PyProof.Rows.sortedAll_old) (Nat.le_succ _) ⟨hlen, out, ep, vals_of_ints k1, he'⟩, rfl, q _ _ k2 k3 (I.hok.fresh (Nat.le_succ _))⟩
theorem cr_sortVK (m : KIs K) (h : X.K = K) : CallR X (.builtin "sorted") (rSortV K) := h ▸ cr_sortV
end
section
variable {K : PySem.W.Frag} {F : Fx} {n : Ns} {ρ ρ' ρ0 ρ1 ρ2 : List Sl} {te ta tb : TE} {tx tr : TA} {d e : Da} {k k1 k2 : Rk} {ks : List Rk} {ds es : List Da} {i j : Nat} {H : Hp} {σ : L2.St} {Φ : Rw → List Sl → Prop} {D : Ends} {C : Addr} {f : Str}
theorem b_srtV {ns : List Int} (s : see ρ k = some (.lst (inz ns))) : Cb (rSortV K) ρ [k] (.nw (inz (srt ns))) := fun F n σ H vs Q E r1 q => .inl (b_srtU (K := K) s F n σ H vs Q E r1 q)
theorem b_srtVP {ps : List (Int × Int)} (s : see ρ k = some (.lst (prz ps))) : Cb (rSortV K) ρ [k] (.nw (prz (srtP ps))) := fun F n σ H vs Q E r1 q => .inl (b_srtPU (K := K) s F n σ H vs Q E r1 q)
theorem b_srtT {ns : List Int} (s : see ρ k = some (.tup (inz ns))) : Cb (rSortV K) ρ [k] (.nw (inz (srt ns))) := fun F n σ H vs Q E r1 q => by
  obtain ⟨v, rfl, r⟩ := rk1 r1
  obtain ⟨a, us, rfl, h1, _, h2⟩ := peekT E r s
  rw [h2.inz] at h1
  refine .inr ⟨a, ns, rfl, .inl (.inl h1), fun ns' p pm pw hp => ?_⟩
  have e : ns' = srt ns := srt_uniq (pm.trans (srt_perm ns).symm) pw (srt_sorted ns)
  rw [e]
  exact mk_o E (DnL.ofInts _) q p hp
/-- an empty tuple of the program's text, a default -/
def EmpT (K : PySem.W.Frag) (T : Addr) : Prop := ∀ H, SqT K H T []
theorem b_srtK {T : Addr} (s : see ρ k = some (.cl T)) (hT : EmpT K T) : Cb (rSortV K) ρ [k] (.nw (inz [])) := fun F n σ H vs Q E r1 q => by
  obtain ⟨v, rfl, r⟩ := rk1 r1
  obtain rfl := peekC E r s
  refine .inr ⟨T, [], rfl, hT H, fun ns' p pm pw hp => ?_⟩
  have e : ns' = [] := pm.eq_nil
  rw [e]
  exact mk_o E (DnL.ofInts []) q p hp
/-! ## objects of its own: made, asked, their fields counted up -/
/-- name = C(..): an object of its own -/
theorem nx_setMk {α : Type} {enc : α → List Da} {pre : Ob → α → Prop} {post : Ob → α → Ob → Da → Prop} {E0 : XK} (hp : ∀ x o' r, post (.ins C []) x o' r → r = .non ∧ ∃ fs, o' = .ins C fs)
    (h : WpA tx ρ fun ks ρ1 => ∃ x, AllDa ks (enc x) ∧ pre (.ins C []) x ∧ ∀ fs, post (.ins C []) x (.ins C fs) .non → Nx F (ρ1.set i (.own false (.ins C fs))) D.nx) : Nx F ρ (tAsg (tMake C (SpG (fun _ => []) enc pre post) [] E0 tx) (gName i) D) := fun n σ H E =>
  h F n σ H E _ fun vs H1 ks ρ1 fc E1 x1 r1 => by
    obtain ⟨x, hs, hpre, q⟩ := fc
    rintro p dx hp0 hd0 hne
    have gr : Grow H1 (upd (upd H1 dx (.own p)) p (.ins C dx [])) := Grow.trans (.upd hd0) (.upd (by rw [upd_ne (fun z => hne z.symm)]; exact hp0))
    have hpH : (upd (upd H1 dx (.own p)) p (.ins C dx [])) p = some (.ins C dx []) := by simp [upd]
    have ds1 : DnL (addO n p) (upd (upd H1 dx (.own p)) p (.ins C dx [])) vs (enc x) := DnL.ext (gr.ext) _ _ (DnL.re (n' := addO n p) (fun a o e z w => w.elim z fun w => by rw [w, hp0] at e; cases e) _ _ (hs.rel r1))
    rw [List.append_nil]
    refine ⟨addO n p, p, [], vs, .ins C [], x, rfl, ⟨fun a ha => by rw [ha.no rfl]; exact .inr rfl, Nd.no rfl⟩, fun a ha => ?_, ⟨dx, [], hpH, .nil⟩, .nil, ds1, hpre, fun v H' o' r hr y h3 => ?_⟩
    · rcases ha with ha | ha
      · intro z
        cases e : H1 a with
        | none => exact E1.al a ha e
        | some o => rw [gr a o e] at z; cases z
      · rw [ha, hpH]
        intro z
        cases z
    · obtain ⟨rfl, fs, rfl⟩ := hp _ _ _ hr
      cases h3
      have gr2 : Grow H1 H' := fun a u e => y.fr a u (gr a u e) fun z => ne_of_none e hp0 (z.no rfl)
      obtain ⟨u, hu⟩ := y.ok.some
      have E2 := (E1.more hp0 gr2 (by rw [hu]; simp)).may
      exact ⟨rfl, q fs hr _ _ _ (E2.setO (i := i) (fun j b es l e1 e2 ha => E1.not hp0 (n.le p ((E1.ownF j b es l e1 e2).1 p ha).1)) (E1.h0 hp0) y.ok)⟩
mutual
/-- what does not hang on the object at l -/
theorem Dn.unlet {l : Addr} {dx : Addr} {vs : List (Str × V)} (hl : H l = some (.ins C dx vs)) : ∀ (d : Da) (v : V), plain d = true → Dn (letgo n [.ref l]) H v d → Dn n H v d
  | .non, _, _, h => by cases h; exact .non
  | .bl _, _, _, h => by cases h; exact .bl _
  | .int _, _, _, h => by cases h; exact .int _
  | .str _, _, _, h => by cases h; exact .str _
  | .ty _, _, p, _ => by rw [plain] at p; cases p
  | .cl _, _, p, _ => by rw [plain] at p; cases p
  | .exn _ _, _, p, _ => by rw [plain] at p; cases p
  | .dic _ _, _, p, _ => by rw [plain] at p; cases p
  | .scr _ _, _, p, _ => by rw [plain] at p; cases p
  | .ins _ _, _, p, _ => by rw [plain] at p; cases p
  | .lst ds, _, p, h => by
    cases h with
    | @lst a _ _ h1 h2 h3 =>
      refine .lst h1 (fun z => h2 ⟨z, fun m => ?_⟩) (DnL.unlet hl ds _ (by rw [plain] at p; exact p) h3)
      cases List.mem_singleton.mp m
      rw [hl] at h1
      cases h1
  | .tup ds, _, p, h => by
    cases h with
    | @tup a _ _ h1 h2 h3 =>
      refine .tup h1 (fun z => h2 ⟨z, fun m => ?_⟩) (DnL.unlet hl ds _ (by rw [plain] at p; exact p) h3)
      cases List.mem_singleton.mp m
      rw [hl] at h1
      cases h1
theorem DnL.unlet {l : Addr} {dx : Addr} {vs : List (Str × V)} (hl : H l = some (.ins C dx vs)) : ∀ (ds : List Da) (us : List V), plains ds = true → DnL (letgo n [.ref l]) H us ds → DnL n H us ds
  | [], _, _, h => by cases h; exact .nil
  | d :: ds, _, p, h => by
    rw [plains, Bool.and_eq_true] at p
    cases h with
    | cons a b => exact .cons (Dn.unlet hl d _ p.1 a) (DnL.unlet hl ds _ p.2 b)
end
/-- o.f, a property whose answer is plain -/
theorem wp_prop {α : Type} {enc : α → List Da} {pre : α → Prop} {post : α → Da → Prop} {E0 : XK} (h : Wp ta ρ fun k ρ1 => ∃ fs x, see ρ1 (soft k) = some (.ins C fs) ∧ enc x = [.ins C fs] ∧ pre x ∧ (∀ r, post x r → plain r = true) ∧ ∀ r, post x r → Φ (.da r) ρ1) : Wp (tProp C (SpT enc pre post) [] E0 ta) ρ Φ := fun F n σ H E Q g =>
  h F n σ H E _ fun v H1 k ρ1 fc E1 x1 r1 => by
    obtain ⟨fs, x, s, en, hp, hpl, q⟩ := fc
    rcases peek E1 (r1.soft E) s with hd | ⟨l, o, rfl, e, ho⟩
    · cases hd with
      | ins h1 h2 h3 =>
        refine ⟨_, _, _, rfl, h1, n, x, E1.al, by rw [en]; exact .cons (.ins h1 h2 h3) .nil, hp, fun v H' r hr gr h => g v H' _ ρ1 (q r hr) (E1.grow gr) (x1.trans gr.ext) h⟩
    · cases o with
      | lst es => cases e
      | dic D kvs => cases e
      | nst l0 u ks => cases e
      | ins C' fs' =>
        cases e
        obtain ⟨dx, vs, e2, e3⟩ := ho
        refine ⟨l, dx, vs, rfl, e2, letgo n [.ref l], x, fun a h => E1.al a h.1, ?_, hp, fun v H' r hr gr h => ?_⟩
        · rw [en]
          refine .cons (.ins e2 (fun z => z.2 (by simp)) ?_) .nil
          have h4 : Dn (letgo n [.ref l]) H1 (.ref l) (.ins C fs) := ObOk.dn (o := .ins C fs) ⟨dx, vs, e2, e3⟩ (fun a z => z.1) (fun z => z.2 (by simp))
          cases h4 with
          | ins k1 k2 k3 =>
            rw [e2] at k1
            cases k1
            exact k3
        · exact g v H' _ ρ1 (q r hr) (E1.grow gr) (x1.trans gr.ext) (Dn.unlet (gr _ _ e2) r v (hpl r hr) h)
/-- o.f += e, of a whole number in an object of its own -/
theorem nx_fldAug {b : Bool} {fs : List (Str × Da)} {a : Int} (s0 : ρ[i]? = some (.own b (.ins C fs))) (hc : Cls K C ∧ NoAttr K C f) (hf : fs.lookup f = some (.int a)) (hl : fs.length < 1000)
    (h : Wp te ρ fun k ρ1 => ∃ y, see ρ1 (soft k) = some (.int y) ∧ ρ1[i]? = some (.own b (.ins C fs)) ∧ Nx F (ρ1.set i (.own b (.ins C (putD f (.int (a + y)) fs)))) D.nx) : Nx F ρ (sFldAug K (tVar i) te rAdd f D) := fun n σ H E => by
  obtain ⟨l, e1, ⟨dx, vs, e2, e3⟩, e4⟩ := own_ob E s0
  obtain ⟨u, u1, u2⟩ := e3.look hf
  cases u2
  refine ⟨_, e1, l, C, dx, vs, _, rfl, e2, hc.1, hc.2, u1, h F n σ H E _ fun v H1 k ρ1 fc E1 x1 r1 => ?_⟩
  obtain ⟨y, s1, s2, q⟩ := fc
  rw [peekI E1 (r1.soft E) s1]
  obtain ⟨l', g1, ⟨dx', vs', g2, g3⟩, g4⟩ := own_ob E1 s2
  rw [e1] at g1
  cases g1
  refine ⟨a, y, rfl, rfl, dx', vs', g2, by rw [g3.len]; exact hl, ?_⟩
  have xt : Ext n H1 (upd H1 l (.ins C dx' (putF f (.int (a + y)) vs'))) := ext_mut g4
  exact q n σ _ (E1.mut s2 e1 ⟨dx', _, by simp [upd], DnF.extA xt.keep _ _ (g3.put (.int _))⟩)
end
section
variable {X : Cx} {K : PySem.W.Frag}
/-- a property of the class at C -/
structure Prob (P : Program) (w : World) (K : PySem.W.Frag) (mg : Str → Option Value) (base : Heap) (k : Nat) (C : Addr) (f : Str) (sp : Sp) : Prop where
  ex : ∃ (p g : Addr) (fd : FuncData) (ps : List Str), Cls K C ∧ PropOf K C f p g ∧ FnOk P w K mg base CX0 k g fd ps sp ∧ Binds K fd ps []
theorem pe_prob {j k : Nat} {C : Addr} {f : Str} {sp : Sp} {e : Expr} {ta : TE} {pos : Pos} (c : Prob X.prog X.w X.K X.mg X.base k C f sp) (hr : Room j X.A) (hk : k + 1 ≤ j) (he : PE X e ta) (hab : attributeBase e f X.env (eval e X.env) = eval e X.env := by rfl) : PE X (.Attribute e f pos) (tProp C sp [] E0 ta) := by
  obtain ⟨p, g, fd, ps, cl, hp, F, b⟩ := c.ex
  exact pe_prop he cl hp F (hr.mono hk) b .nil pass0 hab
/-- a class whose __init__ has one more parameter, given by its name alone, with a default -/
structure Makk (P : Program) (w : World) (K : PySem.W.Frag) (mg : Str → Option Value) (base : Heap) (k : Nat) (x : Str) (C : Addr) (y : Str) (m : Nat) (dv : V) (sp : Sp) : Prop where
  ex : ∃ (f : Addr) (fd : FuncData) (ps : List Str) (du : Value), Mk K C f ∧ FnOk P w K mg base CX0 k f fd ps sp ∧ mg x = some (.ref C) ∧ Binds K fd ps [du] ∧ RelV dv du ∧ KBn K fd ps (m + 1) [y] (fun us ws => us ++ ws) (fun vs zs => vs ++ zs)
theorem pe_mkD {j k m : Nat} {x y : Str} {C : Addr} {dv : V} {sp : Sp} {p pos : Pos} {e : Expr} {es : List Expr} {t : TA} (c : Makk X.prog X.w X.K X.mg X.base k x C y m dv sp) (hr : Room j X.A) (hk : k + 1 ≤ j) (hg : Gl X x) (ha : PA X (e :: es) t)
    (hdb : (x == ("__debug__" : Str)) = false := by decide) (he : starEach (e :: es) X.env = (false, eval e X.env) :: starEach es X.env := by rfl) (hpl : (backTo pos (starEach es X.env)).any (·.1) = false := by rfl) :
    PE X (.Call (.Name x p) (e :: es) [] pos) (tMake C sp [dv] E0 t) := by
  obtain ⟨f, fd, ps, du, M, F, hm, b, r, _⟩ := c.ex
  exact pe_make M F (hr.mono hk) hg hm b (.cons r .nil) pass0 ha hdb he hpl
theorem pe_mkK {j k m : Nat} {x y : Str} {C : Addr} {dv : V} {sp : Sp} {p pos kpos : Pos} {e z : Expr} {es : List Expr} {t : TA} {tz : TE} (c : Makk X.prog X.w X.K X.mg X.base k x C y m dv sp) (hr : Room j X.A) (hk : k + 1 ≤ j) (hg : Gl X x) (ha : PA X (e :: es) t) (hz : PE X z tz)
    (hall : (backToKw pos (keywordEach [⟨some y, z, kpos⟩] X.env)).all (·.1.isSome) = true := by rfl) (hks : (backToKw pos (keywordEach [⟨some y, z, kpos⟩] X.env)).filterMap (·.1) = [y] := by rfl)
    (hdb : (x == ("__debug__" : Str)) = false := by decide) (he : starEach (e :: es) X.env = (false, eval e X.env) :: starEach es X.env := by rfl)
    (hpl : ((backTo pos (starEach (e :: es) X.env)).any (·.1) || (backToKw pos (keywordEach [⟨some y, z, kpos⟩] X.env)).any (·.1.isNone)) = false := by rfl) :
    PE X (.Call (.Name x p) (e :: es) [⟨some y, z, kpos⟩] pos) (tMakeN C m 1 sp (fun vs zs => vs ++ zs) E0 t (tCons tz tNil)) := by
  obtain ⟨f, fd, ps, du, M, F, hm, _, _, b⟩ := c.ex
  exact pe_makeN M F (hr.mono hk) hg hm b pass0 ha (pk_cons hz pk_nil) hall hks hdb he hpl
theorem ps_fldaugK (m : KIs K) (h : X.K = K) {o value : Expr} {f : Str} {tpos pos : Pos} {ta tv : TE} (ha : PE X o ta) (hv : PE X value tv) : PS X (.AugAssign (.Attribute o f tpos) .Add value pos) (sFldAug K ta tv rAdd f) := h ▸ ps_fldaug ha hv in_add
end
section
variable {ρ0 ρ1 ρ2 : List Sl} {t u : TE} {p q : Prop}
/-- what follows a conditional expression, shown once -/
theorem wif_cut {Ψ : Rw → List Sl → Prop} (kw : Rw) (ρ0 : List Sl) (k : Ψ kw ρ0) (h : ∀ Θ : Rw → List Sl → Prop, Θ kw ρ0 → (p → Wp t ρ1 Θ) ∧ (q → Wp u ρ2 Θ)) : (p → Wp t ρ1 Ψ) ∧ (q → Wp u ρ2 Ψ) := h Ψ k
end
section
variable {K : PySem.W.Frag} {F : Fx} {ρ : List Sl} {ta tb : TE} {Φ : Rw → List Sl → Prop}
/-- tuple(range(a, b)) -/
def rgJ (a b : Int) : List Int := (List.range (b - a).toNat).map fun i : Nat => a + (i : Int)
theorem rgV_J (a b : Int) : rgV a b = (rgJ a b).map V.int := by
  unfold rgV rgJ
  rw [List.map_map]
  rfl
theorem wp_trg2 (h : Wp ta ρ fun k ρ1 => ∃ a, see ρ1 (soft k) = some (.int a) ∧ Wp tb ρ1 fun k2 ρ2 => ∃ b, see ρ2 (soft k2) = some (.int b) ∧ RgOk a b ∧ Φ (.da (.tup (inz (rgJ a b)))) ρ2) : Wp (tTupRg (tRg2 ta tb)) ρ Φ := fun F n σ H E Q g =>
  h F n σ H E _ fun v H1 k ρ1 f1 E1 x1 r1 => by
    obtain ⟨a, s1, f1⟩ := f1
    rw [peekI E1 (r1.soft E) s1]
    refine f1 F n σ H1 E1 _ fun u H2 k2 ρ2 f2 E2 x2 r2 => ?_
    obtain ⟨b, s2, z, q⟩ := f2
    rw [peekI E2 (r2.soft E1) s2]
    refine ⟨a, b, rfl, rfl, z, ?_⟩
    rw [rgV_J]
    exact mk_t E2 (DnL.ofInts _) fun v H' E' x' r' => g v H' _ ρ2 q E' ((x1.trans x2).trans x') r'
end
end Dd
namespace Dd
open PySem PySem.Spec PyProof.Rows L2
/-! ## x is None; a def that returns a new list or something else -/
def isNonD : Da → Bool
  | .non => true
  | _ => false
def rIsN : R2 := fun x y H Q => y = .non ∧ Q (.bl (decide (x = .non))) H
section
variable {X : Cx} {K : PySem.W.Frag} {F : Fx} {n : Ns} {ρ ρ1 ρ2 : List Sl} {d e : Da} {k k1 k2 : Rk} {ds es : List Da} {H : Hp} {σ : L2.St}
theorem op_isN' : OpR X (compareOp .Is) rIsN := op_isN
theorem seen_non {v : V} (h : Seen n H v d) : decide (v = .non) = isNonD d := by
  rcases h with h | ⟨l, o, rfl, rfl, h⟩
  · cases h <;> simp [isNonD]
  · cases o <;> simp [obD, isNonD]
theorem op_isn (s1 : see ρ k1 = some d) (s2 : see ρ k2 = some .non) : Op rIsN ρ k1 k2 (.da (.bl (isNonD d))) :=
  op0 (fun _ _ => .bl _) fun F n σ H2 x y Q E2 r1 r2 q => by
    have h := peekD E2 r2 s2 (fun o e => by cases o <;> cases e)
    cases h
    refine ⟨rfl, ?_⟩
    rw [seen_non (peek E2 r1 s1)]
    exact q
theorem rt_TO {Q : VK} {n0 : Ns} {H0 : Hp} {G : Fx} {P0 : Da → Prop} (q : ∀ v H' r, P0 r → Grow H0 H' → Dn n0 H' v r → Q v H') (w : Fw ⟨H0, fun _ => False, n0, []⟩ G) (al : ∀ a, n0 a → H0 a ≠ none) (e : P0 (.lst ds)) : RtO G ρ ds Q := fun n σ H p us E h0 h1 h2 => by
  have E' := w.un E
  rw [w.H0] at h0
  exact q (.ref p) H (.lst ds) e (fun a o z => E'.kp a o z (fun z => z)) (.lst h1 (fun z => al p z h0) (h2.less fun a z => .inl (E'.sub a z)))
end
end Dd
namespace Dd
open PySem PySem.Spec PyProof.Rows L2
/-! ## an error that is kept behind its except clause -/
theorem caO_ok {P : Program} {w : World} {H : Hp} {h : Heap} {a : Addr} {ob : Obj} {vs : Array Value} (e : h.get? a = some ob) (hd : ob.data = .fields vs) : ObjOk P w H h a (CaO ob.cls ob.dict a) :=
  ⟨⟨ob, vs, e, rfl, rfl, hd⟩, ⟨ob, e⟩, fun _ _ ⟨o, u, q, r⟩ k => ⟨o, u, k o q, r⟩⟩
section
variable {X : Cx} {pins : List (Addr × Obj)} {σ : L2.St} {H : Hp} {s : Shared} {a : Addr} {ob : Obj} {vs : Array Value}
/-- an object that the entry did not know comes among what is told -/
theorem tracked (I : Inv X pins σ H s) (e : s.heap.get? a = some ob) (hd : ob.data = .fields vs) (na : H a = none) (nl : a ≠ X.env.locals) (n0 : X.s_0.heap.get? a = none) (np : ∀ p ∈ X.pn ++ pins, p.1 ≠ a) : Inv X pins σ (upd H a (CaO ob.cls ob.dict a)) s := by
  have away : ∀ {b : Addr} {o : HO}, H b = some o → upd H a (CaO ob.cls ob.dict a) b = some o := fun {b o} z => by rw [upd_ne (ne_of_none z na)]; exact z
  have gone : ∀ {b : Addr}, b ≠ a → H b = none → upd H a (CaO ob.cls ob.dict a) b = none := fun {b} k z => by rw [upd_ne k]; exact z
  refine ⟨I.ok, I.os, I.bare, ⟨I.base.keep, I.base.slot, fun b o z n hx => ?_, I.base.there, fun b xs z => away (I.base.tups b xs z), fun b o u z => away (I.base.frzs b o u z), fun b ps z => ?_⟩, I.loc, I.cell, gone (Ne.symm nl) I.free, fun x c z => ?_, fun p hp => ?_, fun b u z => ?_, I.len⟩
  · refine gone (fun k => ?_) (I.base.free b o z n hx)
    rw [k, n0] at z
    cases z
  · obtain ⟨m, q⟩ := I.base.tbls b ps z
    exact ⟨m, away q⟩
  · refine gone (fun k => ?_) (I.freeC x c z)
    obtain ⟨v, o, q, r⟩ := I.cell x c z
    rw [k, e] at q
    cases q
    rw [hd] at r
    cases r
  · obtain ⟨q1, q2, q3, q4, q5⟩ := I.pin p hp
    exact ⟨q1, gone (np p hp) q2, q3, q4, q5⟩
  · by_cases hb : b = a
    · subst hb
      rw [upd_same] at z
      cases z
      exact caO_ok e hd
    · rw [upd_ne hb] at z
      exact (I.hok b u z).stay (fun _ _ _ q => q) (fun c q => away q) fun c xs q => away q
end
end Dd
namespace Dd
open PySem PySem.Spec PyProof.Rows L2
/-- what the clause wishes, n in slot i: each error is the clause's, and its object stays among what is told -/
def wKeep (K : PySem.W.Frag) (c : Value) (i : Nat) (ts : Addr → Value → Option Addr → TS) (D : Ends) : WX := fun cls d σ H =>
  PySem.W.exmOne K cls c = some true ∧ ∀ a, H a = none → ts a cls d { nx := fun σ1 H1 => H1 a = none → D.nx (σ1.set i none) (upd H1 a (CaO cls d a)), rt := fun _ _ => False } (σ.set i (some (.ref a))) H
section
variable {X : Cx} {x n : Str} {c : Value} {i : Nat} {body more : List Stmt} {st : Stmt} {px ph pt : Pos} {tb : WX → TS} {ts : Addr → Value → Option Addr → TS}
/-- an error that lies on the ground B is new, whatever the entry or the calls around hold -/
theorem new_err {pins : List (Addr × Obj)} {σ : L2.St} {H : Hp} {s : Shared} {B : Heap} {a : Addr} (I : Inv X pins σ H s) (hex : X.ex = []) (nb : ∀ b o, s.heap.get? b = some o → b ∉ frs X.stack → B.get? b = some o) (na : B.get? a = none) (nf : a ∉ frs X.stack) :
    X.s_0.heap.get? a = none ∧ ∀ p ∈ X.pn ++ pins, p.1 ≠ a := by
  have no : ∀ o, s.heap.get? a ≠ some o := fun o z => by
    have := nb a o z nf
    rw [na] at this
    cases this
  refine ⟨?_, fun p hp z => no _ (z ▸ (I.pin p hp).1)⟩
  cases z : X.s_0.heap.get? a with
  | none => rfl
  | some o =>
    obtain ⟨u, q⟩ := I.base.there a o z (by rw [hex]; exact List.not_mem_nil)
    exact absurd q (no u)
theorem ps_try_kept (hst : X.stack = X.env :: X.outer) (hfm : X.env.frame = some X.env.locals) (hex : X.ex = []) (nd : X.N.Nodup) (hni : X.N[i]? = some n) (hk : X.env.kindOf n = some .local) (hcn : Names X x c)
    (hbody : ∀ (W : WX) (pn : List (Addr × Obj)) (xe : Value → Shared → Prop), Takes (X.tr pn xe) W → PassesOwn (model X.prog X.w) X.A X.env xe → PSs (X.tr pn xe) body (tb W))
    (hclause : ∀ (a : Addr) (oe : Obj) (cls : Value) (d : Option Addr) (pn : List (Addr × Obj)), Zc cls d oe → (∃ us, oe.data = .fields us) → PSs (X.suite a ((a, oe) :: pn)) (st :: more) (ts a cls d)) :
    PS X (.Try body [.ExceptHandler (some (.Name x px)) (some n) (st :: more) ph] [] [] pt) (fun D σ H => tb (wKeep X.K c i ts D) D σ H) := by
  refine ⟨fun ps s0 σ0 H0 D I0 told => ?_⟩
  have okX := I0.ok
  have fr : X.A.frames = some (X.env :: X.outer) := okX.frames.trans (congrArg some hst)
  refine wpAny_Try_except ?_
  refine wpAny_mono ((hbody (wKeep X.K c i ts D) (X.pn ++ ps) _ (fun u s1 air => ?caught) PassesOwn.looking).run [] s0 σ0 H0 D (I0.toTry _) told) (fun fl s1 done => ?ended) (fun _ _ z => z)
  case ended =>
    cases fl with
    | next => obtain ⟨σ1, H1, I1, q⟩ := done; exact wpAny_execs_nil ⟨σ1, H1, I1.ofTry okX, q⟩
    | brk => obtain ⟨σ1, H1, I1, q⟩ := done; exact ⟨σ1, H1, I1.ofTry okX, q⟩
    | cont => obtain ⟨σ1, H1, I1, q⟩ := done; exact ⟨σ1, H1, I1.ofTry okX, q⟩
    | ret v => obtain ⟨w1, σ1, H1, I1, r, q⟩ := done; exact ⟨w1, σ1, H1, I1.ofTry okX, r, q⟩
  case caught =>
    obtain ⟨a, B, sg, ps1, σ1, H1, cls, d, rfl, I1', ground, slots1, sky, a0, osE, gensE, isC, told1⟩ := air
    have I1 := I1'.ofTry okX
    rw [show (X.tr (X.pn ++ ps) _).stack = X.env :: X.outer from hst] at sky
    refine Sky.land (E₁ := X.xe) Zc.steady fr hfm sky fun hA flA slotsA => ?_
    obtain ⟨oA, uA, getA, zA, dataA⟩ := flA.there
    have notF : a ∉ frs (X.env :: X.outer) := fun hm => by
      obtain ⟨_, o, e, k⟩ := flA.2.2.1.mem hm
      rw [getA] at e
      cases e
      exact k _ dataA
    have notL : a ≠ X.env.locals := fun z => notF (List.mem_filterMap.mpr ⟨X.env, List.mem_cons_self, hfm.trans (congrArg some z.symm)⟩)
    have notO : a ∉ X.fs := fun hm => by
      obtain ⟨e, he, q⟩ := List.mem_filterMap.mp hm
      exact notF (List.mem_filterMap.mpr ⟨e, List.mem_cons_of_mem _ he, q⟩)
    obtain ⟨newE, newP⟩ := new_err I1 hex ground flA.2.1 (by rw [hst]; exact notF)
    have IA := I1.landed (s' := { s1 with heap := hA }) ground flA.1 (slots1.trans slotsA) osE gensE
    have SA := IA.suite getA dataA a0 notL notO
    refine wpAny_handleBy_cons (codeAny_handlers_test ?_) (fun z => by cases z)
    have ofC : PySem.W.Looks (model X.prog X.w) hA (typeOf (.ref a)) cls := fun _ _ _ _ k q => wpAny_typeOf_ref (k _ _ getA) (by rw [zA.1]; exact q)
    have clause := PySem.W.exm_one (M := model X.prog X.w) IA.kIn ofC isC
    have named : ∀ {Q E : Value → Shared → Prop}, Q c { s1 with heap := hA } → wpAny (model X.prog X.w) (X.A.mark (some (.ref a))) (eval (.Name x px) X.env) Q E { s1 with heap := hA } := fun q => by
      rcases hcn with ⟨g, nodbg, own | ⟨own, boot, nn⟩⟩
      · exact ld_glob (X := X.suite a ((a, oA) :: (X.pn ++ ps))) SA g own q nodbg
      · exact ld_blt (X := X.suite a ((a, oA) :: (X.pn ++ ps))) SA g own boot q nn nodbg
    refine named (clause.here (codeAny_handlers_suite_as ?_))
    refine HandSPX.lands_againZ flA fun hB flB slotsB => ?_
    obtain ⟨oB, uB, getB, zB, dataB⟩ := flB.there
    have IB := I1.landed (s' := { s1 with heap := hB }) ground flB.1 ((slots1.trans slotsA).trans slotsB) osE gensE
    have SB := IB.suite getB dataB a0 notL notO
    refine store_ok (X := X.suite a ((a, oB) :: (X.pn ++ ps))) (v := .ref a) SB nd hni (.inl hk) rfl (fun sC SC => ?_) (.inr hk)
    refine wpAny_mono ((hclause a oB cls d (X.pn ++ ps) zB ⟨uB, dataB⟩).run [] sC _ H1 _ SC (told1 a a0)) (fun fl sD done => ?_) (fun _ _ z => False.elim z)
    cases fl with
    | next =>
      obtain ⟨σD, HD, SD, q⟩ := done
      refine gone_ok (X := X.suite a ((a, oB) :: (X.pn ++ ps))) SD nd hni hk fun sE SE => ?_
      obtain ⟨getE, aE, _⟩ := SE.pin (a, oB) (List.mem_append_left _ List.mem_cons_self)
      have IE := tracked (SE.unsuite okX) getE dataB aE notL newE newP
      rw [zB.1, zB.2] at IE
      exact ⟨_, _, IE, q aE⟩
    | brk => obtain ⟨_, _, _, q⟩ := done; exact q.elim
    | cont => obtain ⟨_, _, _, q⟩ := done; exact q.elim
    | ret v => obtain ⟨_, _, _, _, _, q⟩ := done; exact q.elim
end
end Dd
namespace Dd
open PySem PySem.Spec PyProof.Rows L2
/-! ## sorted(.., reverse=True) of a tuple of whole numbers and of a list of pairs -/
section
variable {pg : Program} {wd : World} {ar : Around} {Er : Value → Shared → Prop} {sh : Shared} {tu : Addr} {us : List Value}
theorem sort_tupR {lt : Value → Value → Bool} {R : Value → Shared → Prop} (O : SrtO.Swo lt) (ht : sh.heap.IsTuple tu us.toArray) (hz : us.length ≤ sizeLine)
    (hS : 2 ≤ us.length → ∀ (g : Heap) (a : Addr), g.get? a = some (seqObj "list" us.toArray 0) → (∀ b o, sh.heap.get? b = some o → b ≠ a ∧ g.get? b = some o) → SrtO.SortableO pg wd ar.in1.in1 { sh with heap := g } a us lt)
    (q : ∀ out : List Value, SrtO.Srtd lt out → SrtO.Stb lt out us.reverse → R (.ref (sh.heap.objs.size + 1)) { sh with heap := sortedAll sh.heap us out.toArray.reverse }) :
    wpAny (model pg wd) ar (PySem.call (.builtin "sorted") [.ref tu] [(Str.ofString "reverse", .bool true)]) R Er sh := by
  have sz : (colH sh.heap us).objs.size = sh.heap.objs.size + 1 := by unfold colH; rw [Heap.size_update, size_push']
  have at1 : ((colH sh.heap us).push (seqObj "list" us.toArray 0)).get? (sh.heap.objs.size + 1) = some (seqObj "list" us.toArray 0) := by
    rw [← sz]
    exact Heap.get?_push_size _ rfl
  have old : ∀ b o, sh.heap.get? b = some o → b ≠ sh.heap.objs.size + 1 ∧ ((colH sh.heap us).push (seqObj "list" us.toArray 0)).get? b = some o := fun b o e => by
    have lt' := Heap.lt_size e
    refine ⟨Nat.ne_of_lt (Nat.lt_succ_of_lt lt'), Heap.get?_push_of_some _ ?_⟩
    unfold colH
    rw [Heap.get?_update_ne _ _ _ _ (Nat.ne_of_lt lt')]
    exact Heap.get?_push_of_some _ e
  refine call_function_entry_kw kind_sorted plain_sorted entry_sorted (args_sorted_rev _ _) ?_
  unfold Builtin.«sorted»
  refine wpAny_bind (m := checkCount "sorted" 1 1 _) (wpAny_pure (wpAny_bind (coll_tup ht hz (wpAny_bind (wpAny_newList ?_ hz)))))
  rw [show ({ sh with heap := colH sh.heap us } : Shared).heap.objs.size = sh.heap.objs.size + 1 from sz]
  refine wpAny_bind (wpAny_holding (wpAny_call_entry_kw slot_list_sort ⟨_, at1, rfl⟩ entry_list_sort ?_ (args_list_sort_rev _ _)))
  exact SrtR.list_sort_ordR (b := true) O at1 hz (fun h2 => hS h2 _ _ at1 old) fun out h1 h2 => ⟨_, rfl, wpAny_pure ⟨_, rfl, q out h1 h2⟩⟩
end
def rSortRV (K : PySem.W.Frag) : List V → List V → Hp → VK → Prop := fun vs zs H Q => rSortedKw K true [.bl true] vs zs H Q ∨
  (∃ (a : Addr) (ns : List Int), vs = [V.ref a] ∧ zs = [.bl true] ∧ SqT K H a (ns.map V.int) ∧ ∀ (ns' : List Int) (p : Addr), ns'.Perm ns → ns'.Pairwise (· ≥ ·) → H p = none → Q (.ref p) (upd H p (.lst (ns'.map V.int)))) ∨
  ∃ (a : Addr) (xs : List V) (k : V → Int × Int), vs = [V.ref a] ∧ zs = [.bl true] ∧ SqL K H a xs ∧ (∀ x ∈ xs, ∃ t, x = V.ref t ∧ H t = some (.tup [.int (k x).1, .int (k x).2])) ∧
    ∀ ys p, SrtO.Srtd (ltP k) ys → ys.Perm xs → H p = none → Q (.ref p) (upd H p (.lst ys.reverse))
section
variable {X : Cx} {K : PySem.W.Frag}
theorem cr_sortRV : CallRK X (.builtin "sorted") [Str.ofString "reverse"] (rSortRV X.K) := by
  rintro pins s σ H vs zs us ws Q I r rz (h | ⟨a, ns, rfl, rfl, hs, q⟩ | ⟨a, xs, k, rfl, rfl, hs, hx, q⟩)
  · exact cr_sortedRev pins s σ H vs zs us ws Q I r rz h
  · obtain ⟨w1, rfl, e1⟩ := vals1 rz
    obtain rfl : w1 = Value.bool true := e1
    obtain ⟨its, rv, ht, hz⟩ := I.tuple hs
    have hi := rv.ints
    have hl := rv.length
    rw [Vals.ref1 r]
    refine sort_tupR SrtO.swo_int ht (by rw [← hl]; exact hz) (fun h2 g a' _ _ => SrtO.ints_sortable hi h2) fun out h1 h2 => ?_
    obtain ⟨ns', k1, k2, k3⟩ := SrtR.ints_outR (b := true) hi h1 h2
    obtain ⟨ep, he'⟩ := PyProof.Rows.sortedAll_at s.heap its out.toArray.reverse
    have hlen : (ns'.map V.int).length ≤ sizeLine := by
      rw [List.length_map, k2.length_eq]
      simpa using hz
    have e0 : (out.toArray.reverse.toList).toArray = out.toArray.reverse := by rw [Array.toArray_toList]
    exact ⟨.ref _, upd H (s.heap.objs.size + 1) (.lst (ns'.map V.int)), I.laid (t' := s.toks) (fun _ _ => PyProof.Rows.sortedAll_old) (Nat.le_succ _) ⟨hlen, _, ep, vals_of_ints k1, by rw [if_pos rfl, e0]; exact he'⟩, rfl, q _ _ k2 k3 (I.hok.fresh (Nat.le_succ _))⟩
  · obtain ⟨w1, rfl, e1⟩ := vals1 rz
    obtain rfl : w1 = Value.bool true := e1
    obtain ⟨its, rv, hl, hz⟩ := I.list hs
    rw [Vals.ref1 r]
    obtain ⟨f1, f2⟩ := refs_back rv fun x m => by
      obtain ⟨t, e, _⟩ := hx x m
      exact ⟨t, e⟩
    have hp : ∀ v ∈ its, Srt.IsPair s.heap v (k (backV v)).1 (k (backV v)).2 := fun v hv => by
      obtain ⟨t, rfl⟩ := f2 v hv
      obtain ⟨t', e, ht⟩ := hx (V.ref t) (by rw [f1]; exact List.mem_map.mpr ⟨_, hv, rfl⟩)
      cases e
      obtain ⟨_, its2, r2, o, ho, hc, n, hd⟩ := I.hok _ _ ht
      obtain ⟨u1, u2, rfl, ⟨t1, rfl⟩, ⟨t2, rfl⟩⟩ := vals2 r2
      exact ⟨t, o, t1, t2, n, rfl, ho, hc, hd⟩
    refine SrtR.sorted_ordK (b := true) (fun _ => rfl) (args_sorted_rev _ _) (fun _ => args_list_sort_rev _ _) (SrtO.swo_lex fun u => k (backV u)) hl.isList (by rw [← rv.length]; exact hz) (fun h2 g a' hg old => ?_) fun out h1 h2 => ?_
    · exact SrtO.pairs_sortableO (by omega) (fun v hv => by
        obtain ⟨t, o, t1, t2, n, e, ho, hc, hd⟩ := hp v hv
        exact ⟨t, o, t1, t2, n, e, (old _ _ ho).2, hc, hd⟩) fun o e => by
        rw [hg] at e
        cases e
        exact fun z => by
          injection z with z3
          exact absurd z3 (by decide)
    · have pm : out.Perm its := h2.perm.trans (List.reverse_perm _)
      have rf : ∀ u ∈ out.reverse, ∃ b, u = Value.ref b := fun u hu => f2 u (pm.mem_iff.mp (List.mem_reverse.mp hu))
      have pb : (out.map backV).Perm xs := by
        rw [f1]
        exact pm.map backV
      obtain ⟨ep, he'⟩ := PyProof.Rows.sortedAll_at s.heap its out.toArray.reverse
      have er : (out.map backV).reverse = out.reverse.map backV := by rw [List.map_reverse]
      have hlen : (out.map backV).reverse.length ≤ sizeLine := by
        rw [List.length_reverse, pb.length_eq]
        exact hz
      have e0 : out.reverse.toArray = out.toArray.reverse := by simp
      refine ⟨.ref _, upd H (s.heap.objs.size + 1) (.lst (out.map backV).reverse), I.laid (t' := s.toks) (fun _ _ => PyProof.Rows.sortedAll_old) (Nat.le_succ _) ⟨hlen, out.reverse, ep, by rw [er]; exact vals_back rf, by rw [if_pos rfl, e0]; exact he'⟩, rfl, q _ _ (SrtO.srtd_map h1) pb (I.hok.fresh (Nat.le_succ _))⟩
theorem cr_sortRVK (m : KIs K) (h : X.K = K) : CallRK X (.builtin "sorted") [Str.ofString "reverse"] (rSortRV K) := h ▸ cr_sortRV
end
section
variable {K : PySem.W.Frag} {F : Fx} {n : Ns} {ρ ρ' ρ0 ρ1 ρ2 : List Sl} {te ta tb : TE} {tx tr : TA} {d e : Da} {k k1 k2 : Rk} {ks : List Rk} {ds es : List Da} {i j : Nat} {H : Hp} {σ : L2.St} {Φ : Rw → List Sl → Prop}
/-- what falls: whole numbers, pairs -/
theorem wp_sortRV (h : WpA tx ρ fun ks ρ1 => ∃ k, ks = [k] ∧ ((∃ ns d, see ρ1 k = some d ∧ Sq d (inz ns) ∧ Φ (.nw (inz (srt ns).reverse)) ρ1) ∨ ∃ ps, see ρ1 k = some (.lst (prz ps)) ∧ Φ (.nw (prz (srtP ps).reverse)) ρ1)) : Wp (tCKw (rSortRV K) tx (tCons (tC (.bl true)) tNil)) ρ Φ := fun F n σ H E Q g =>
  h F n σ H E _ fun vs H1 ks ρ1 f E1 x1 r1 => by
    obtain ⟨k, rfl, f⟩ := f
    obtain ⟨v, rfl, r⟩ := rk1 r1
    rcases f with ⟨ns, d, s, sq, q⟩ | ⟨ps, s, q⟩
    · have uniq : ∀ ns' : List Int, ns'.Perm ns → ns'.Pairwise (· ≥ ·) → ns' = (srt ns).reverse := fun ns' pm pw => by
        have e1 : ns'.reverse = srt ns := srt_uniq ((ns'.reverse_perm).trans (pm.trans (srt_perm ns).symm)) (List.pairwise_reverse.mpr pw) (srt_sorted ns)
        rw [← e1, List.reverse_reverse]
      cases sq with
      | lst =>
        obtain ⟨a, us, rfl, h1, h2⟩ := peekL E1 r s
        rw [h2.inz] at h1
        refine .inl ⟨a, ns, rfl, rfl, .of h1, fun ns' p pm pw hp => ?_⟩
        rw [uniq ns' pm pw]
        exact mk_o E1 (DnL.ofInts (srt ns).reverse) (fun v H' E' x' r' => g v H' _ ρ1 q E' (x1.trans x') (r'.pre E1 x1)) p hp
      | tup =>
        obtain ⟨a, us, rfl, h1, _, h2⟩ := peekT E1 r s
        rw [h2.inz] at h1
        refine .inr (.inl ⟨a, ns, rfl, rfl, .inl (.inl h1), fun ns' p pm pw hp => ?_⟩)
        rw [uniq ns' pm pw]
        exact mk_o E1 (DnL.ofInts (srt ns).reverse) (fun v H' E' x' r' => g v H' _ ρ1 q E' (x1.trans x') (r'.pre E1 x1)) p hp
    · obtain ⟨a, us, rfl, h1, h2⟩ := peekL E1 r s
      obtain ⟨e1, e2⟩ := prz_keys h2
      refine .inr (.inr ⟨a, us, keyAt H1, rfl, rfl, .inl (.inl h1), fun x hx => ?_, fun ys p hs hb hp => ?_⟩)
      · obtain ⟨t, e, h3, _⟩ := e2 x hx
        exact ⟨t, e, h3⟩
      · have hm : ∀ x ∈ ys, x ∈ us := fun x hx => hb.mem_iff.mp hx
        have e3 : ys.map (keyAt H1) = srtP ps := by
          refine srtP_uniq ?_ ?_ (srtP_sorted ps)
          · have := hb.map (keyAt H1)
            rw [e1] at this
            exact this.trans (srtP_perm ps).symm
          · refine List.pairwise_map.mpr (hs.imp fun {x y} h => ?_)
            have h4 := SrtO.lexB_no.mp h
            unfold LexLe
            omega
        have h5 := dn_keys (n := n) (H := H1) (ys := ys.reverse) fun x hx => e2 x (hm x (List.mem_reverse.mp hx))
        rw [List.map_reverse, e3] at h5
        exact mk_o E1 h5 (fun v H' E' x' r' => g v H' _ ρ1 q E' (x1.trans x') (r'.pre E1 x1)) p hp
end
end Dd
namespace Dd
open PySem PySem.Spec PyProof.Rows L2
/-! ## a kept error: its field, its class -/
section
variable {X : Cx} {pins : List (Addr × Obj)} {σ : L2.St} {H : Hp} {s : Shared} {a C dx : Addr} {fs : List (Str × V)}
theorem kept_at (I : Inv X pins σ H s) (ha : H a = some (CaO (.ref C) (some dx) a)) (hd : H dx = some (.xd fs)) :
    ∃ (ob od : Obj) (mA : Str → Option Value), PySem.W.InstAt s.heap a ob C (some od) ∧ (∀ n, PySem.W.lookIn n od = some (mA n)) ∧ ∀ f, RelO (fs.lookup f) (mA f) := by
  obtain ⟨⟨ob, us, e, c1, c2, c3⟩, _⟩ := I.hok a _ ha
  obtain ⟨mA, hns, hr⟩ : ObjOk X.prog X.w H s.heap dx (.xd fs) := I.hok dx _ hd
  obtain ⟨od, ho, hl⟩ := lookIn_ns hns
  exact ⟨ob, od, mA, ⟨e, c1, by unfold PySem.W.notCls; rw [c3] <;> rfl, by rw [c2]; exact ho⟩, hl, hr⟩
def tXfO (K : PySem.W.Frag) (te : TE) (f : Str) : TE := fun σ H Q => te σ H fun x H1 => ∃ (a C dx : Addr) (fs : List (Str × V)) (v : V), x = .ref a ∧ XfC K C ∧ PySem.W.findIn K (.ref C) f = some none ∧ H1 a = some (CaO (.ref C) (some dx) a) ∧ H1 dx = some (.xd fs) ∧ fs.lookup f = some v ∧ Q v H1
theorem pe_xfO {e : Expr} {te : TE} {pos : Pos} {n : Str} (he : PE X e te) (hb : attributeBase e n X.env (eval e X.env) = eval e X.env := by rfl) : PE X (.Attribute e n pos) (tXfO X.K te n) := by
  refine ⟨fun pins s σ H Q I h => ?_⟩
  refine attr_of hb (thn (he.run pins s σ H _ I h) fun u s1 hh => ?_)
  obtain ⟨x, H1, I1, rx, a, C, dx, fs, v, rfl, T, hno, ha, hd, hl, q⟩ := hh
  obtain rfl : u = Value.ref a := rx
  obtain ⟨ob, od, mA, J, look, hr⟩ := kept_at I1 ha hd
  obtain ⟨w, hw, rw'⟩ := RelO.some_of (v := v) (o := mA n) (by rw [← hl]; exact hr n)
  exact HandSPX.exc_get I1.kIn J T.ga T.gg T.exC (PySem.W.findObj_own T.hdC hno rfl (by rw [look, hw])) (handed_of rw') ⟨v, H1, I1.tok _, rw', q⟩
theorem pe_xfOK {K : PySem.W.Frag} (m : KIs K) (h : X.K = K) {e : Expr} {te : TE} {pos : Pos} {n : Str} (he : PE X e te) (hb : attributeBase e n X.env (eval e X.env) = eval e X.env := by rfl) : PE X (.Attribute e n pos) (tXfO K te n) := h ▸ pe_xfO he hb
/-- isinstance of a kept error -/
def rIsO (K : PySem.W.Frag) : List V → Hp → VK → Prop := fun xs H Q => ∃ (a C dx D : Addr) (fs : List (Str × V)) (b : Bool), xs = [.ref a, .ref D] ∧ H a = some (CaO (.ref C) (some dx) a) ∧ H dx = some (.xd fs) ∧ ExcC K C ∧ PySem.W.kitOne K (.ref C) (.ref D) = some b ∧ Q (.bl b) H
theorem call_isO : CallR X (.builtin "isinstance") (rIsO X.K) := by
  intro pins s σ H xs us Q I r h
  obtain ⟨a, C, dx, D, fs, b, rfl, ha, hd, T, hb, q⟩ := h
  obtain ⟨u1, u2, rfl, r1, r2⟩ := vals2 r
  obtain rfl : u1 = Value.ref a := r1
  obtain rfl : u2 = Value.ref D := r2
  obtain ⟨ob, od, mA, J, _, _⟩ := kept_at I ha hd
  have hcl : (PySem.W.clsIn X.K C).isSome = true := by
    obtain ⟨cd, hc, _⟩ := PySem.W.any_some T.hd
    rw [hc]
    rfl
  exact PySem.W.kia_one (PySem.W.kitx_exc hcl T.hg T.hk T.hs T.ha T.hn T.ht T.hm) I.kIn J hb (fun z => nomatch z) fun tk => ⟨.bl b, H, I.tok tk, rfl, q⟩
theorem call_isOK {K : PySem.W.Frag} (m : KIs K) (h : X.K = K) : CallR X (.builtin "isinstance") (rIsO K) := h ▸ call_isO
end
/-- a class of errors of the text, known well enough to ask its errors -/
structure KeptC (K : PySem.W.Frag) (C : Addr) (f : Str) : Prop where
  ex : ExcC K C
  no : PySem.W.findIn K (.ref C) f = some none
section
variable {K : PySem.W.Frag} {F G : Fx} {n : Ns} {ρ ρ' ρ0 ρ1 ρ2 : List Sl} {te ta tb : TE} {tx tr : TA} {d e : Da} {k k1 k2 : Rk} {i j : Nat} {H H0 : Hp} {σ : L2.St} {Φ : Rw → List Sl → Prop} {D : Ends} {f : Str}
theorem peekX {C : Addr} {fs : List (Str × Da)} {v : V} (E : EnvOk F n ρ σ H) (r : RelK n σ H v k) (s : see ρ k = some (.exn C fs)) : ∃ a dx vs, v = .ref a ∧ H a = some (CaO (.ref C) (some dx) a) ∧ H dx = some (.xd vs) ∧ DnF n H vs fs := by
  have h := peekD E r s (fun o e => by cases o <;> cases e)
  cases h with
  | exn h1 h2 _ _ h3 => exact ⟨_, _, _, rfl, h1, h2, h3⟩
theorem wp_xfO (h : Wp te ρ fun k ρ1 => ∃ C fs d, see ρ1 (soft k) = some (.exn C fs) ∧ KeptC K C f ∧ fs.lookup f = some d ∧ Φ (.da d) ρ1) : Wp (tXfO K te f) ρ Φ := fun F n σ H E Q g =>
  h F n σ H E _ fun v H1 k ρ1 fc E1 x1 r1 => by
    obtain ⟨C, fs, d, s, T, hl, q⟩ := fc
    obtain ⟨a, dx, vs, rfl, h1, h2, h3⟩ := peekX E1 (r1.soft E) s
    obtain ⟨u, hu, hd⟩ := h3.look hl
    exact ⟨a, C, dx, vs, u, rfl, ⟨T.ex.hg, T.ex.hk, T.ex.hs, T.ex.hd⟩, T.no, h1, h2, hu, g u H1 _ ρ1 q E1 x1 hd⟩
theorem wp_isO {D' : Addr} (h : Wp te ρ fun k ρ1 => ∃ C fs b, see ρ1 (soft k) = some (.exn C fs) ∧ ExcC K C ∧ PySem.W.kitOne K (.ref C) (.ref D') = some b ∧ Φ (.da (.bl b)) ρ1) : Wp (tCB (rIsO K) (tCons te (tCons (tC (.ref D')) tNil))) ρ Φ := fun F n σ H E Q g =>
  h F n σ H E _ fun v H1 k ρ1 fc E1 x1 r1 => by
    obtain ⟨C, fs, b, s, T, hb, q⟩ := fc
    obtain ⟨a, dx, vs, rfl, h1, h2, h3⟩ := peekX E1 (r1.soft E) s
    exact ⟨a, C, dx, D', vs, b, rfl, h1, h2, T, hb, g _ H1 _ ρ1 q E1 x1 (.bl b)⟩
end
/-! ## try: x = f(..) except C as e: y = e -/
def SpY {α : Type} (enc : α → List Da) (pre : α → Prop) (post : α → Da → Prop) (exc : α → Addr → List (Str × Da) → Prop) : Sp := fun vs H Q E => ∃ (n : Ns) (x : α), (∀ a, n a → H a ≠ none) ∧ DnL n H vs (enc x) ∧ pre x ∧ (∀ v H' r, post x r → Grow H H' → Dn n H' v r → Q v H') ∧
  ∀ C fs d vs' H', exc x C fs → Grow H H' → H d = none → H' d = some (.xd vs') → DnF n H' vs' fs → E (.ref C) (some d) H'
structure CalY (P : Program) (w : World) (K : PySem.W.Frag) (mg : Str → Option Value) (base : Heap) (k : Nat) (x : Str) (sp : Sp) : Prop where
  ex : ∃ (f : Addr) (fd : FuncData) (ps : List Str), FnOk P w K mg base (L2.CX P w) k f fd ps sp ∧ mg x = some (.ref f) ∧ PySem.W.keepIn K (.ref f) = true ∧ Binds K fd ps []
def tTryK (K : PySem.W.Frag) (c : Value) (i jx jy : Nat) (sp : Sp) (t : TA) : TS := fun D σ H => t σ H fun vs H1 => sp vs H1 (fun v H2 => D.nx (σ.set jx (some v)) H2) fun cls d H2 => wKeep K c i (fun a _ _ => tAsg (tVar i) (gName jy)) D cls d σ H2
section
variable {X : Cx}
theorem ps_tryK {j k i jx jy : Nat} {fx x y n c : Str} {C : Addr} {sp : Sp} {e : Expr} {es : List Expr} {t : TA} {p p1 p2 p3 p4 p5 p6 p7 p8 p9 : Pos} (hst : X.stack = X.env :: X.outer) (hfm : X.env.frame = some X.env.locals) (hex : X.ex = []) (nd : X.N.Nodup)
    (cal : CalY X.prog X.w X.K X.mg X.base k fx sp) (hr : Room j X.A) (hk : k ≤ j) (hg : Gl X fx) (hgc : Gl X c) (hmc : X.mg c = some (.ref C)) (hni : X.N[i]? = some n) (hnx : X.N[jx]? = some x) (hny : X.N[jy]? = some y) (lx : Loc X.env.scope x) (ly : Loc X.env.scope y) (hki : X.env.kindOf n = some .local) (vi : Vis X.env.scope n)
    (ha : ∀ (pn : List (Addr × Obj)) (xe : Value → Shared → Prop), PA (X.tr pn xe) (e :: es) t)
    (fx1 : X.fn x = true ∨ X.env.scope.names.lookup x = some .local) (fy1 : X.fn y = true ∨ X.env.scope.names.lookup y = some .local)
    (hdb : (fx == ("__debug__" : Str)) = false := by decide) (hdc : (c == ("__debug__" : Str)) = false := by decide) (hdn : (n == ("__debug__" : Str)) = false := by decide) (hcn : (n == ("__classdict__" : Str)) = false := by decide)
    (he : starEach (e :: es) X.env = (false, eval e X.env) :: starEach es X.env := by rfl) (hpl : (backTo p2 (starEach es X.env)).any (·.1) = false := by rfl)
    (hs1 : swapsWith (.Call (.Name fx p1) (e :: es) [] p2) (some (.Name x p3)) p4.line X.env = pure false := by rfl) (hs2 : swapsWith (.Name n p5) (some (.Name y p6)) p7.line X.env = pure false := by rfl) :
    PS X (.Try [.Assign [.Name x p3] (.Call (.Name fx p1) (e :: es) [] p2) p4] [.ExceptHandler (some (.Name c p8)) (some n) [.Assign [.Name y p6] (.Name n p5) p7] p9] [] [] p) (tTryK X.K (.ref C) i jx jy sp t) := by
  obtain ⟨f, fd, ps, FO, hm, kp, b⟩ := cal.ex
  have h := ps_try_kept (X := X) (tb := fun W => tAsg (tCallS sp (WE W) t) (gName jx)) (ts := fun a _ _ => tAsg (tVar i) (gName jy)) (px := p8) (pt := p) (ph := p9) hst hfm hex nd hni hki ⟨hgc, hdc, .inl hmc⟩
    (fun W pn xe tk pass => pss_one (ps_set (X := X.tr pn xe) nd hnx lx (pe_callS (X := X.tr pn xe) FO (hr.mono hk) hg hm kp b (fun σ => passAt tk σ) (ha pn xe) hdb he hpl) hs1 fx1))
    (fun a oe cls d pn hz hf => pss_one (ps_set (X := X.suite a ((a, oe) :: pn)) nd hny ly (pe_var (X := X.suite a ((a, oe) :: pn)) hni vi hdn hcn) hs2 fy1))
  exact h
end
section
variable {α : Type} {K : PySem.W.Frag} {F G : Fx} {n : Ns} {ρ ρ' ρ0 ρ1 ρ2 : List Sl} {tx : TA} {H H0 : Hp} {σ : L2.St} {D : Ends} {enc : α → List Da} {pre : α → Prop} {post : α → Da → Prop} {exc : α → Addr → List (Str × Da) → Prop} {i jx jy : Nat} {S : Addr}
theorem EnvOk.updN (E : EnvOk F n ρ σ H) {a : Addr} {o : HO} (h : H a = none) : EnvOk F n ρ σ (upd H a o) := E.grow (.upd h)
theorem nx_tryK (hi : i < ρ.length) (hij : i ≠ jy) (h : WpA tx ρ fun ks ρ1 => ρ1 = ρ ∧ ∃ x, AllDa ks (enc x) ∧ pre x ∧ (∀ r, post x r → Nx F (ρ.set jx (.is r)) D.nx) ∧ ∀ C fs, exc x C fs → PySem.W.exmOne K (.ref C) (.ref S) = some true ∧ Nx F ((ρ.set jy (.is (.exn C fs))).set i .no) D.nx) :
    Nx F ρ (tTryK K (.ref S) i jx jy (SpY enc pre post exc) tx D) := fun n σ H E0 =>
  h F n σ H E0 _ fun vs H1 ks ρ1 f E1 x1 r1 => by
    obtain ⟨rfl, x, hs, hp, q, qx⟩ := f
    refine ⟨n, x, E1.al, hs.rel r1, hp, fun v H' r hr gr hv => q r hr n _ H' ((E1.grow gr).set hv), fun C fs d vs' H' he gr hd hx hfs => ?_⟩
    obtain ⟨h1, h2⟩ := qx C fs he
    refine ⟨h1, fun a ha => ?_⟩
    have hlen : i < σ.length := by rw [E1.len]; exact hi
    refine ⟨.ref a, by rw [List.getElem?_set_self hlen], fun ha' => ?_⟩
    have hup : (upd H' a (CaO (.ref C) (some d) a)) d = some (.xd vs') := by rw [upd_ne (ne_of_none hx ha)]; exact hx
    have E2 : EnvOk F n ρ1 σ (upd H' a (CaO (.ref C) (some d) a)) := (E1.grow gr).updN ha
    have hv : Dn n (upd H' a (CaO (.ref C) (some d) a)) (.ref a) (.exn C fs) := .exn upd_same hup ((E1.grow gr).not ha) (E1.not hd) (DnF.extA (Ext.keep (Grow.ext (.upd ha))) _ _ hfs)
    have e : ((((σ.set i (some (V.ref a))).set jy (some (V.ref a))).set i none)) = ((σ.set jy (some (V.ref a))).set i none) := by
      rw [List.set_comm _ _ hij, List.set_set]
    have E3 := (E2.set (i := jy) hv).drop (i := i) none
    rw [← e] at E3
    exact h2 n _ _ E3
end
end Dd
namespace Dd
open PySem PySem.Spec PyProof.Rows L2 RZ
/-! ## for x, y in zip(a, b); len(set(..)) of different numbers -/
section
variable {K : PySem.W.Frag} {F : Fx} {ρ ρ0 ρ1 : List Sl} {te te2 : TE} {tx : TA} {ΦI : List Da → List Sl → Prop} {Φ : Rw → List Sl → Prop}
theorem pi_zipAK {X : Cx} {K : PySem.W.Frag} (m : KIs K) (h : X.K = K) {e e2 : Expr} {ta : TA} {p pos tpos : Pos} {elts : List Expr} {kk : Nat} (hg : Gl X "zip") (hm : X.mg "zip" = none) (ha : PA X [e, e2] ta)
    (h1 : starEach [e, e2] X.env = (false, eval e X.env) :: starEach [e2] X.env := by rfl) (h2 : (backTo pos (starEach [e2] X.env)).any (·.1) = false := by rfl) : PI X (.Tuple elts kk tpos) (.Call (.Name "zip" p) [e, e2] [] pos) (iZipA K ta) := h ▸ pi_zipA hg hm ha h1 h2
theorem wi_zip (h : WpA tx ρ fun ks ρ0 => ∃ ds es, ks = [.da (.lst ds), .da (.lst es)] ∧ ΦI (zipD ds es) ρ0) : WpI (iZipA K tx) ρ ΦI := fun F n σ H E R g => h F n σ H E _ fun vs H1 ks ρ0 f E1 x1 r1 => by
  obtain ⟨ds, es, rfl, q⟩ := f
  obtain ⟨v, u, rfl, r, r'⟩ := rk2 r1
  cases r with
  | @lst a us _ ha hna hu =>
    cases r' with
    | @lst b ws _ hb hnb hw =>
      have E2 := (E1.wrap ha hna hu).wrap hb hnb hw
      refine ⟨a, b, us, ws, rfl, .inl ⟨.inl (.inl ha), .inl (.inl hb), g _ H1 (zipD ds es) ρ0 _ q (.w b (.lst ws) ws es (.w a (.lst us) us ds .refl)) E2 x1 (walkD_pair (walk_zip rfl) (by rw [zipD_len, hu.length, hw.length]) (fun _ _ _ _ E' => ⟨.inl (.inl (E'.gh _ (List.mem_cons_of_mem _ List.mem_cons_self)).1), .inl (.inl (E'.gh _ List.mem_cons_self).1)⟩) fun i x y hx hy hi => ?_)⟩⟩
      obtain ⟨dx, e1, _⟩ := hu.getV i x hx
      obtain ⟨dy, e2, _⟩ := hw.getV i y hy
      refine ⟨dx, dy, ?_, fun n' ρ' σ' H' E' => ?_⟩
      · unfold zipD
        rw [List.getElem?_map, List.getElem?_zip_eq_some (z := (dx, dy)) |>.mpr ⟨e1, e2⟩]
        rfl
      · obtain ⟨d3, e3, e4⟩ := (E'.gh _ (List.mem_cons_of_mem _ List.mem_cons_self)).2.2.getV i x hx
        obtain ⟨d5, e5, e6⟩ := (E'.gh _ List.mem_cons_self).2.2.getV i y hy
        exact ⟨(Option.some.inj (e3.symm.trans e1)) ▸ e4, (Option.some.inj (e5.symm.trans e2)) ▸ e6⟩
theorem pe_lenSetK {X : Cx} {K : PySem.W.Frag} (m : KIs K) (h : X.K = K) {a : Expr} {ta : TE} {p p2 q pos : Pos} (hg : Gl X "len") (hm : X.mg "len" = none) (hg2 : Gl X "set") (hm2 : X.mg "set" = none) (hc : X.calm = true) (ha : PE X a ta) (h1 : starEach [a] X.env = (false, eval a X.env) :: starEach [] X.env := by rfl) :
    PE X (.Call (.Name "len" p) [.Call (.Name "set" p2) [a] [] q] [] pos) (tLenSetI K ta) := h ▸ pe_lenSetI hg hm hg2 hm2 ha hc h1
theorem wp_lenSet (h : Wp te ρ fun k ρ1 => ∃ ns : List Int, see ρ1 (soft k) = some (.lst (inz ns)) ∧ ns.Nodup ∧ ns.length ≤ 4000 ∧ Φ (.da (.int (ns.length : Nat))) ρ1) : Wp (tLenSetI K te) ρ Φ := fun F n σ H E Q g =>
  h F n σ H E _ fun v H1 k ρ1 f E1 x1 r1 => by
    obtain ⟨ns, s, nd, hl, q⟩ := f
    obtain ⟨a, us, rfl, h1, h2⟩ := peekL E1 (r1.soft E) s
    rw [h2.inz] at h1
    exact ⟨a, ns, rfl, .of h1, nd, hl, g _ H1 _ ρ1 q E1 x1 (.int _)⟩
end
/-! ## raise C(e), C an own error whose __init__ keeps a list of whole numbers as f -/
def spErrL (C : Addr) (f : Str) : Sp := fun vs H Q _ => ∃ (n : Ns) (a : Addr) (v : V) (xs : List Int), vs = [.ref a, v] ∧ (∀ b, n b → H b ≠ none) ∧ Dn n H v (.lst (inz xs)) ∧ xs.length ≤ 100000 ∧ H a = some (exo a C none) ∧
  ∀ (d l : Addr) (H' : Hp), H d = none → d ≠ a → H' a = some (exo a C (some d)) → H' d = some (exd d [(f, .ref l)]) → (∀ b o, H b = some o → b ≠ a → H' b = some o) → H' l = some (.lst (xs.map V.int)) → ¬ n l → Q .non H'
def tRaiseL (C : Addr) (f : Str) (E : XK) (te : TE) : TS := fun _ σ H => tMkO C (spErrL C f) [] (tCons te tNil) σ H fun cls d H' => E cls d H'
structure ErrbL (P : Program) (w : World) (K : PySem.W.Frag) (mg : Str → Option Value) (base : Heap) (k : Nat) (x : Str) (C : Addr) (f : Str) : Prop where
  ex : ∃ (fI : Addr) (fd : FuncData) (ps : List Str), OexC K C ∧ PySem.W.findIn K (.ref C) "__init__" = some (some (.ref fI)) ∧ PySem.W.typeIn K (.ref fI) = some (.type "function") ∧ FnOk P w K mg base CX0 k fI fd ps (spErrL C f) ∧ Binds K fd ps [] ∧ mg x = some (.ref C)
section
variable {X : Cx}
theorem ps_raiseL {E : XK} {j k : Nat} {x : Str} {C : Addr} {f : Str} {e : Expr} {te : TE} {p p2 pos : Pos} (hc : X.calm = true) (tk : Takes X (fun cls d _ H => E cls d H)) (c : ErrbL X.prog X.w X.K X.mg X.base k x C f) (hr : Room j X.A) (hk : k + 1 ≤ j) (hg : Gl X x) (he : PE X e te)
    (hdb : (x == ("__debug__" : Str)) = false := by decide) (hst : starEach [e] X.env = (false, eval e X.env) :: starEach [] X.env := by rfl) (hpl : (backTo p2 (starEach [] X.env)).any (·.1) = false := by rfl) :
    PS X (.Raise (some (.Call (.Name x p) [e] [] p2)) none pos) (tRaiseL C f E te) := by
  obtain ⟨fI, fd, ps, T, iC, tI, F, b, hm⟩ := c.ex
  exact ps_raise hc tk (pmk_oex T iC tI F (hr.mono hk) b .nil pass0 hg hm (pa_cons he pa_nil hst) hdb hst hpl)
end
section
variable {K : PySem.W.Frag} {F G : Fx} {n n0 : Ns} {ρ ρ' ρ0 ρ1 ρ2 : List Sl} {te : TE} {H H0 : Hp} {σ : L2.St} {D : Ends} {E : XK} {C : Addr} {f : Str}
theorem nx_raiseL (w : Fw ⟨H0, fun _ => False, n0, []⟩ G) (h : Wp te ρ fun k ρ1 => ∃ xs, soft k = .da (.lst (inz xs)) ∧ xs.length ≤ 100000 ∧ ∀ d vs' H', Grow H0 H' → H0 d = none → H' d = some (.xd vs') → DnF n0 H' vs' [(f, .lst (inz xs))] → E (.ref C) (some d) H') : Nx G ρ (tRaiseL C f E te D) := fun n σ H E0 => by
  refine h G n σ H E0 _ fun v H1 k ρ1 f1 E1 x1 r1 => ?_
  obtain ⟨xs, s1, hl, q⟩ := f1
  have r2 := r1.soft E0
  rw [s1] at r2
  obtain ⟨l0, us, rfl, g1, gn0, g2⟩ : ∃ l0 us, v = V.ref l0 ∧ H1 l0 = some (.lst us) ∧ ¬ n l0 ∧ DnL n H1 us (inz xs) := by
    cases r2 with
    | lst a b c => exact ⟨_, _, rfl, a, b, c⟩
  have E2 := w.un E1
  have gr : Grow H0 H1 := fun a o z => E2.kp a o z (fun z => z)
  refine ⟨Nat.le_of_ble_eq_true rfl, fun a ha => ?_⟩
  have na : ∀ {b o}, H0 b = some o → b ≠ a := fun {b o} z e => by rw [e] at z; rw [gr _ _ z] at ha; cases ha
  have gn : n0 a → False := fun z => E2.not ha (E2.sub a z)
  have g1' : (upd H1 a (exo a C none)) l0 = some (.lst us) := by rw [upd_ne (ne_of_none g1 ha)]; exact g1
  refine ⟨n0, a, .ref l0, xs, rfl, fun b hb => ?_, .lst g1' (fun z => gn0 (E2.sub l0 z)) (by rw [g2.inz]; exact DnL.ofInts _), hl, upd_same, fun d l H' hd hda ea ed kp hl' hnl => ⟨rfl, d, _, ea, ed, ?_, ?_⟩⟩
  · by_cases z : b = a
    · rw [z, upd_same]
      intro k
      cases k
    · rw [upd_ne z]
      exact E2.al b (E2.sub b hb)
  · rw [upd_ne hda] at hd
    exact hd
  · rw [upd_ne hda] at hd
    have nd : ∀ {b o}, H0 b = some o → b ≠ d := fun {b o} z e => by rw [e] at z; rw [gr _ _ z] at hd; cases hd
    have hla : l ≠ a := fun z => by rw [z, ea] at hl'; cases hl'
    have hld : l ≠ d := fun z => by rw [z, ed] at hl'; cases hl'
    refine q d _ _ (fun b o z => ?_) ?_ upd_same (.cons (.lst (by rw [upd_ne hld, del_ne hla]; exact hl') hnl (DnL.ofInts xs)) .nil)
    · rw [upd_ne (nd z), del_ne (na z)]
      exact kp b o (by rw [upd_ne (na z)]; exact gr _ _ z) (na z)
    · cases e : H0 d with
      | none => rfl
      | some o => rw [gr _ _ e] at hd; cases hd
end
end Dd
namespace Dd
open PySem PySem.Spec PyProof.Rows L2 RZ
/-! ## x is not None; the new words of D37 to D40 for the walk -/
def rIsNN : R2 := fun x y H Q => y = .non ∧ Q (.bl (!decide (x = .non))) H
section
variable {X : Cx} {K : PySem.W.Frag} {F : Fx} {n : Ns} {ρ ρ1 ρ2 : List Sl} {d e : Da} {k k1 k2 : Rk} {ds es : List Da} {H : Hp} {σ : L2.St}
theorem op_isNN' : OpR X (compareOp .IsNot) rIsNN := op_notN
theorem op_isnn (s1 : see ρ k1 = some d) (s2 : see ρ k2 = some .non) : Op rIsNN ρ k1 k2 (.da (.bl (!isNonD d))) :=
  op0 (fun _ _ => .bl _) fun F n σ H2 x y Q E2 r1 r2 q => by
    have h := peekD E2 r2 s2 (fun o e => by cases o <;> cases e)
    cases h
    refine ⟨rfl, ?_⟩
    rw [seen_non (peek E2 r1 s1)]
    exact q
end
end Dd
namespace Dd
open PySem PySem.Spec PyProof.Rows L2
theorem ps_tryKK {X : Cx} {K : PySem.W.Frag} (m : KIs K) (h : X.K = K) {j k i jx jy : Nat} {fx x y n c : Str} {C : Addr} {sp : Sp} {e : Expr} {es : List Expr} {t : TA} {p p1 p2 p3 p4 p5 p6 p7 p8 p9 : Pos} (hst : X.stack = X.env :: X.outer) (hfm : X.env.frame = some X.env.locals) (hex : X.ex = []) (nd : X.N.Nodup)
    (cal : CalY X.prog X.w X.K X.mg X.base k fx sp) (hr : Room j X.A) (hk : k ≤ j) (hg : Gl X fx) (hgc : Gl X c) (hmc : X.mg c = some (.ref C)) (hni : X.N[i]? = some n) (hnx : X.N[jx]? = some x) (hny : X.N[jy]? = some y) (lx : Loc X.env.scope x) (ly : Loc X.env.scope y) (hki : X.env.kindOf n = some .local) (vi : Vis X.env.scope n)
    (ha : ∀ (pn : List (Addr × Obj)) (xe : Value → Shared → Prop), PA (X.tr pn xe) (e :: es) t)
    (fx1 : X.fn x = true ∨ X.env.scope.names.lookup x = some .local) (fy1 : X.fn y = true ∨ X.env.scope.names.lookup y = some .local)
    (hdb : (fx == ("__debug__" : Str)) = false := by decide) (hdc : (c == ("__debug__" : Str)) = false := by decide) (hdn : (n == ("__debug__" : Str)) = false := by decide) (hcn : (n == ("__classdict__" : Str)) = false := by decide)
    (he : starEach (e :: es) X.env = (false, eval e X.env) :: starEach es X.env := by rfl) (hpl : (backTo p2 (starEach es X.env)).any (·.1) = false := by rfl)
    (hs1 : swapsWith (.Call (.Name fx p1) (e :: es) [] p2) (some (.Name x p3)) p4.line X.env = pure false := by rfl) (hs2 : swapsWith (.Name n p5) (some (.Name y p6)) p7.line X.env = pure false := by rfl) :
    PS X (.Try [.Assign [.Name x p3] (.Call (.Name fx p1) (e :: es) [] p2) p4] [.ExceptHandler (some (.Name c p8)) (some n) [.Assign [.Name y p6] (.Name n p5) p7] p9] [] [] p) (tTryK K (.ref C) i jx jy sp t) :=
  h ▸ ps_tryK hst hfm hex nd cal hr hk hg hgc hmc hni hnx hny lx ly hki vi ha fx1 fy1 hdb hdc hdn hcn he hpl hs1 hs2
end Dd
namespace Dd
open PySem PySem.Spec PyProof.Rows L2
open PySem.SeqAt (EqAt)
/-! ## keys of dicts: tuples of whole numbers, texts and such tuples, to a depth of six -/
noncomputable instance decPy : DecidableEq PyData := fun _ _ => Classical.propDecidable _
mutual
def kyD : PyData → Bool
  | .int _ => true | .str x => (PyData.str x).canLay0 | .tuple xs => kyDs xs | _ => false
def kyDs : List PyData → Bool
  | [] => true | x :: xs => kyD x && kyDs xs
end
mutual
theorem ky_eqv : ∀ x y : PyData, kyD x = true → kyD y = true → PyData.eqv x y = decide (x = y)
  | .int i, .int j, _, _ => by simp [PyData.eqv]; by_cases h : i = j <;> simp [h]
  | .int i, .str j, _, _ => by simp [PyData.eqv]
  | .int i, .tuple j, _, _ => by simp [PyData.eqv]
  | .str i, .int j, _, _ => by simp [PyData.eqv]
  | .str i, .str j, _, _ => by simp [PyData.eqv]; by_cases h : i = j <;> simp [h]
  | .str i, .tuple j, _, _ => by simp [PyData.eqv]
  | .tuple i, .int j, _, _ => by simp [PyData.eqv]
  | .tuple i, .str j, _, _ => by simp [PyData.eqv]
  | .tuple xs, .tuple ys, hx, hy => by
    rw [PyData.eqv, ky_eqvs xs ys (by rw [kyD] at hx; exact hx) (by rw [kyD] at hy; exact hy)]
    by_cases h : xs = ys
    · simp [h]
    · simp [h]
theorem ky_eqvs : ∀ xs ys : List PyData, kyDs xs = true → kyDs ys = true → PyData.eqvAll xs ys = decide (xs = ys)
  | [], [], _, _ => by simp [PyData.eqvAll]
  | [], _ :: _, _, _ => by simp [PyData.eqvAll]
  | _ :: _, [], _, _ => by simp [PyData.eqvAll]
  | x :: xs, y :: ys, hx, hy => by
    rw [kyDs, Bool.and_eq_true] at hx hy
    rw [PyData.eqvAll, ky_eqv x y hx.1 hy.1, ky_eqvs xs ys hx.2 hy.2]
    by_cases h : x = y
    · by_cases h2 : xs = ys <;> simp [h, h2]
    · simp [h]
end
mutual
theorem ky_lay : ∀ x : PyData, kyD x = true → x.canLay0 = true
  | .int i, _ => rfl
  | .str i, h => by rw [kyD] at h; exact h
  | .tuple xs, h => by
    rw [kyD] at h
    have := ky_lays xs h
    simpa [PyData.canLay0] using this
theorem ky_lays : ∀ x : List PyData, kyDs x = true → PyData.canLayAll0 x = true
  | [], _ => rfl
  | x :: xs, h => by
    rw [kyDs, Bool.and_eq_true] at h
    simp [PyData.canLayAll0, ky_lay x h.1, ky_lays xs h.2]
end
mutual
theorem ky_uniq {h : Heap} : ∀ (x y : PyData) (v : Value) (as bs : List Addr), kyD x = true → kyD y = true → Reads h v x as → Reads h v y bs → x = y
  | .int i, y, v, as, bs, _, hy, rx, ry => by
    cases rx
    cases ry
    rfl
  | .str i, y, v, as, bs, _, hy, rx, ry => by
    cases rx
    cases ry
    rfl
  | .tuple xs, y, v, as, bs, hx, hy, rx, ry => by
    rw [kyD] at hx
    cases rx with
    | tuple h1 h2 h3 h4 =>
      cases ry with
      | list g1 g2 g3 g4 => cases hy
      | tuple g1 g2 g3 g4 =>
        rw [h1] at g1
        cases g1
        rw [h3] at g3
        cases g3
        rw [kyD] at hy
        rw [ky_uniqs xs _ _ _ _ hx hy h4 g4]
      | dict g1 g2 g3 g4 g5 => cases hy
theorem ky_uniqs {h : Heap} : ∀ (xs ys : List PyData) (vs : List Value) (as bs : List Addr), kyDs xs = true → kyDs ys = true → ReadsAll h vs xs as → ReadsAll h vs ys bs → xs = ys
  | [], ys, vs, as, bs, _, _, rx, ry => by
    cases rx
    cases ry
    rfl
  | x :: xs, ys, vs, as, bs, hx, hy, rx, ry => by
    cases rx with
    | cons r1 r2 =>
      cases ry with
      | cons q1 q2 =>
        rw [kyDs, Bool.and_eq_true] at hx hy
        rw [ky_uniq x _ _ _ _ hx.1 hy.1 r1 q1, ky_uniqs xs _ _ _ _ hx.2 hy.2 r2 q2]
end
mutual
theorem reads_mono {h h' : Heap} (k : ∀ b o, h.get? b = some o → (∀ es ep, o.data ≠ .dict es ep) → h'.get? b = some o) : ∀ (x : PyData) (v : Value) (as : List Addr), kyD x = true → Reads h v x as → Reads h' v x as
  | .int i, v, as, _, rx => by cases rx; exact .int _ _
  | .str i, v, as, _, rx => by cases rx; exact .str _ _
  | .tuple xs, v, as, hx, rx => by
    rw [kyD] at hx
    cases rx with
    | tuple h1 h2 h3 h4 => exact .tuple (k _ _ h1 fun es ep z => by rw [h3] at z; cases z) h2 h3 (readss_mono k xs _ _ hx h4)
theorem readss_mono {h h' : Heap} (k : ∀ b o, h.get? b = some o → (∀ es ep, o.data ≠ .dict es ep) → h'.get? b = some o) : ∀ (x : List PyData) (v : List Value) (as : List Addr), kyDs x = true → ReadsAll h v x as → ReadsAll h' v x as
  | [], v, as, _, rx => by cases rx; exact .nil
  | x :: xs, v, as, hx, rx => by
    rw [kyDs, Bool.and_eq_true] at hx
    cases rx with
    | cons r1 r2 => exact .cons (reads_mono k x _ _ hx.1 r1) (readss_mono k xs _ _ hx.2 r2)
end
section
variable (P : Program) (w : World)
mutual
def hashK : PyData → Int
  | .int i => (mixKind P w).hash (.inl i)
  | .str x => (mixKind P w).hash (.inr x)
  | .tuple xs => reduceHash (Builtin.Tuple.tupleHashOf (hashKs xs))
  | _ => 0
def hashKs : List PyData → List Int
  | [] => []
  | x :: xs => hashK x :: hashKs xs
end
end
mutual
def drawsK : PyData → Nat
  | .tuple xs => drawsKs xs + 1
  | _ => 1
def drawsKs : List PyData → Nat
  | [] => 0
  | x :: xs => drawsK x + drawsKs xs
end
section
variable {P : Program} {w : World}
theorem hashKs_app : ∀ xs ys : List PyData, hashKs P w (xs ++ ys) = hashKs P w xs ++ hashKs P w ys
  | [], _ => rfl
  | x :: xs, ys => by rw [List.cons_append, hashKs, hashKs_app xs ys, hashKs]; rfl
theorem drawsKs_app : ∀ xs ys : List PyData, drawsKs (xs ++ ys) = drawsKs xs + drawsKs ys
  | [], _ => by simp [drawsKs]
  | x :: xs, ys => by rw [List.cons_append, drawsKs, drawsKs_app xs ys, drawsKs]; omega
theorem depth_mem : ∀ {xs : List PyData} {x : PyData}, x ∈ xs → x.depth ≤ PyData.depthAll xs
  | [], _, h => by cases h
  | y :: ys, x, h => by
    rw [PyData.depthAll]
    rcases List.mem_cons.mp h with rfl | h
    · exact Nat.le_max_left _ _
    · exact Nat.le_trans (depth_mem h) (Nat.le_max_right _ _)
theorem kyDs_app : ∀ xs ys : List PyData, kyDs (xs ++ ys) = (kyDs xs && kyDs ys)
  | [], _ => by simp [kyDs]
  | x :: xs, ys => by rw [List.cons_append, kyDs, kyDs_app xs ys, kyDs, Bool.and_assoc]
theorem kyDs_mem : ∀ {xs : List PyData} {x : PyData}, x ∈ xs → kyDs xs = true → kyD x = true
  | [], _, h, _ => by cases h
  | y :: ys, x, h, k => by
    rw [kyDs, Bool.and_eq_true] at k
    rcases List.mem_cons.mp h with rfl | h
    · exact k.1
    · exact kyDs_mem h k.2
theorem hash_tup {xs : List PyData} {a : Addr} {o : Obj} {vs : Array Value} {c : Nat} {as : List Addr} {A : Around} {E : Value → Shared → Prop} {s : Shared} {Q : Int → Shared → Prop} (hu1 : A.units < cLine) (ho : s.heap.get? a = some o) (hc : o.cls = .type "tuple") (hd : o.data = .seq vs c) (hi : ReadsAll s.heap vs.toList xs as)
    (IH : ∀ (A' : Around), A'.units = A.units + 1 ∨ A'.units = A.units → ∀ d ∈ xs, ∀ (x : Value) (as3 : List Addr) (E : Value → Shared → Prop) (t : Nat) (Q : Int → Shared → Prop), Reads s.heap x d as3 → Q (hashK P w d) { s with toks := t + drawsK d } → wpAny (model P w) A' (pyHash x) Q E { s with toks := t })
    (h : Q (reduceHash (Builtin.Tuple.tupleHashOf (hashKs P w xs))) { s with toks := s.toks + (drawsKs xs + 1) }) : wpAny (model P w) A (pyHash (.ref a)) Q E s := by
  have hT : s.TypeIs (.ref a) "tuple" := ⟨o, ho, hc⟩
  unfold pyHash
  first | unfold pyHashByItsType | skip
  first | refine wpAny_bind (wpAny_cRoomFor_or (.inr hu1) ?_) | skip
  refine wpAny_bind (wpAny_specialOf hT F.slot_tuple_hash.lookup ?_)
  show wpAny _ _ (if (some (Value.builtin "tuple.__hash__") == some Value.none) = true then _ else _) Q E s
  rw [if_neg (by rw [beq_builtin_none]; exact Bool.false_ne_true)]
  refine wpAny_bind (wpAny_specialOf hT F.slot_tuple_hash.lookup ?_)
  show wpAny _ _ (callSpecialIfBoundUnlessNone? (.ref a) "__hash__" _ >>= _) Q E s
  refine wpAny_bind (wpAny_callSpecialIfBoundUnlessNone?_slot hT F.slot_tuple_hash (wpAny_call_entry F.slot_tuple_hash hT F.entry_tuple_hash ?_ (F.args_tuple_hash_1 _)))
  show wpAny _ _ (Builtin.Tuple.tupleItemsOf (.ref a) >>= _) _ _ s
  refine wpAny_bind (wpAny_tupleItemsOf ho hd ?_)
  refine wpAny_bind ?_
  rw [← Array.forIn_toList]
  refine wpAny_forIn_list _
    (fun rest (b : Array Int) s' => ∃ done left as2, xs = done ++ left ∧ ReadsAll s.heap rest left as2 ∧ b.toList = hashKs P w done ∧ s' = { s with toks := s.toks + drawsKs done })
    _ ?_ ?_ _ _ ⟨[], xs, as, rfl, hi, rfl, rfl⟩
  · rintro x rest b s' ⟨done, left, as2, e1, hl, hb, rfl⟩
    cases hl with
    | @cons _ _ d ds as3 bs3 r1 r2 =>
      have hm : d ∈ xs := by rw [e1]; simp
      refine wpAny_bind (IH _ (by first | exact .inl rfl | exact .inr rfl) d hm x as3 _ _ _ r1 ?_)
      have e2 : s.toks + drawsKs done + drawsK d = s.toks + drawsKs (done ++ [d]) := by rw [drawsKs_app]; simp [drawsKs, Nat.add_assoc]
      have e3 : (b.push (hashK P w d)).toList = hashKs P w (done ++ [d]) := by rw [hashKs_app]; simp [hb, hashKs]
      rw [e2]
      first
        | exact wpAny_pure ⟨done ++ [d], ds, bs3, by rw [e1]; simp, r2, e3, rfl⟩
        | exact wpAny_bind (wpAny_pure (wpAny_pure ⟨done ++ [d], ds, bs3, by rw [e1]; simp, r2, e3, rfl⟩))
  · rintro b s' ⟨done, left, as2, e1, hl, hb, rfl⟩
    cases hl
    rw [List.append_nil] at e1
    subst e1
    show wpAny _ _ (retInt (Builtin.Tuple.tupleHashOf b.toList)) _ _ _
    rw [hb]
    refine wpAny_ret_mkInt ?_
    show wpAny _ _ (if (decide (-(2 : Int) ^ 63 ≤ Builtin.Tuple.tupleHashOf (hashKs P w xs)) && decide (Builtin.Tuple.tupleHashOf (hashKs P w xs) < 2 ^ 63)) = true then _ else _) Q E _
    unfold reduceHash at h
    by_cases hr : (decide (-(2 : Int) ^ 63 ≤ Builtin.Tuple.tupleHashOf (hashKs P w xs)) && decide (Builtin.Tuple.tupleHashOf (hashKs P w xs) < 2 ^ 63)) = true
    · rw [if_pos hr]
      rw [if_pos hr] at h
      exact wpAny_pure (by simpa [Nat.add_assoc] using h)
    · rw [if_neg hr]
      rw [if_neg hr] at h
      exact wpAny_bind (wpAny_rule (wpAny_pure (by simpa [Nat.add_assoc] using h)))
theorem hash_run : ∀ (n : Nat) (k : PyData) (v : Value) (as : List Addr) (A : Around) (E : Value → Shared → Prop) (s : Shared) (Q : Int → Shared → Prop), k.depth ≤ n → kyD k = true → A.units + n ≤ 9880 → Reads s.heap v k as →
    Q (hashK P w k) { s with toks := s.toks + drawsK k } → wpAny (model P w) A (pyHash v) Q E s := by
  intro n
  induction n with
  | zero =>
    intro k v as A E s Q hn hk hu r h
    cases k with
    | int i =>
      cases r
      exact (mixKind P w).pyHash (k := .inl i) (by simp [mixKind, keyIs, Value.isInt]) h
    | str i =>
      cases r
      exact (mixKind P w).pyHash (k := .inr i) (by simp [mixKind, keyIs, Value.isStrOf]) h
    | tuple xs => rw [PyData.depth] at hn; omega
    | none => cases hk
    | bool b => cases hk
    | list xs => cases hk
    | dict xs => cases hk
  | succ n IH =>
    intro k v as A E s Q hn hk hu r h
    cases k with
    | int i =>
      cases r
      exact (mixKind P w).pyHash (k := .inl i) (by simp [mixKind, keyIs, Value.isInt]) h
    | str i =>
      cases r
      exact (mixKind P w).pyHash (k := .inr i) (by simp [mixKind, keyIs, Value.isStrOf]) h
    | tuple xs =>
      rw [PyData.depth] at hn
      rw [kyD] at hk
      cases r with
      | @tuple a o vs c _ as' ho hc hd hi =>
        refine hash_tup (by unfold cLine; omega) ho hc hd hi (fun A' hA d hm x as3 E t Q r1 q => ?_) h
        have hdd := depth_mem hm
        exact IH d x as3 A' E { s with toks := t } Q (by omega) (kyDs_mem hm hk) (by rcases hA with e | e <;> omega) r1 q
    | none => cases hk
    | bool b => cases hk
    | list xs => cases hk
    | dict xs => cases hk
theorem quiet_run : ∀ (n : Nat) (k : PyData) (v : Value) (as : List Addr) (A : Around) (E : Value → Shared → Prop) (s : Shared) (Q : Bool → Shared → Prop), k.depth ≤ n → kyD k = true → Reads s.heap v k as → Q true s → wpAny (model P w) A (eqIsQuiet n v) Q E s := by
  intro n
  induction n with
  | zero =>
    intro k v as A E s Q hn hk r h
    cases k with
    | int i => cases r; rw [eqIsQuiet_byValue _ rfl]; exact wpAny_pure h
    | str i => cases r; rw [eqIsQuiet_byValue _ rfl]; exact wpAny_pure h
    | tuple xs => rw [PyData.depth] at hn; omega
    | none => cases hk
    | bool b => cases hk
    | list xs => cases hk
    | dict xs => cases hk
  | succ n IH =>
    intro k v as A E s Q hn hk r h
    cases k with
    | int i => cases r; rw [eqIsQuiet_byValue _ rfl]; exact wpAny_pure h
    | str i => cases r; rw [eqIsQuiet_byValue _ rfl]; exact wpAny_pure h
    | tuple xs =>
      rw [PyData.depth] at hn
      rw [kyD] at hk
      cases r with
      | @tuple a o vs c _ as' ho hc hd hi =>
        have hT : s.TypeIs (.ref a) "tuple" := ⟨o, ho, hc⟩
        unfold eqIsQuiet
        refine wpAny_bind (wpAny_specialOf hT F.slot_tuple_eq.lookup ?_)
        show wpAny _ _ (isInstance (.ref a) (.type "tuple") >>= _) _ _ s
        refine wpAny_bind (wpAny_isInstance hT isSubtype_tuple_tuple ?_)
        simp only [Bool.not_true, Bool.false_eq_true, if_false]
        refine wpAny_bind (wpAny_seqItems ho hd ?_)
        refine wpAny_bind ?_
        show wpAny _ _ (forIn vs _ _) _ _ s
        rw [← Array.forIn_toList]
        refine wpAny_forIn_list _ (fun rest r s' => r.1 = none ∧ s' = s ∧ ∃ left as2, ReadsAll s.heap rest left as2 ∧ kyDs left = true ∧ PyData.depthAll left ≤ n) _ ?_ ?_ _ _ ⟨rfl, rfl, xs, as, hi, hk, by omega⟩
        · rintro v rest r s' ⟨hr, rfl, left, as2, hl, h1, h2⟩
          cases hl with
          | @cons _ _ d ds as3 bs3 r1 r2 =>
            rw [kyDs, Bool.and_eq_true] at h1
            rw [PyData.depthAll] at h2
            refine wpAny_bind (IH d v as3 _ _ _ _ (by omega) h1.1 r1 ?_)
            simp only [Bool.not_true, Bool.false_eq_true, if_false]
            exact wpAny_pure ⟨rfl, rfl, ds, bs3, r2, h1.2, by omega⟩
        · rintro ⟨r1, r2⟩ s' ⟨hr, rfl, _⟩
          simp only at hr
          subst hr
          exact wpAny_pure h
    | none => cases hk
    | bool b => cases hk
    | list xs => cases hk
    | dict xs => cases hk
/-- a tuple at a is the key k -/
structure IsKy (h : Heap) (k : PyData) (a : Addr) : Prop where
  ky : kyD k = true
  dp : k.depth ≤ 6
  rd : ∃ as, Reads h (.ref a) k as
theorem IsKy.keep {h h' : Heap} {k : PyData} {a : Addr} (x : IsKy h k a) (q : ∀ b o, h.get? b = some o → (∀ es ep, o.data ≠ .dict es ep) → h'.get? b = some o) : IsKy h' k a := by
  obtain ⟨as, r⟩ := x.rd
  exact ⟨x.ky, x.dp, as, reads_mono q k _ _ x.ky r⟩
noncomputable def deepKind (P : Program) (w : World) : HeapKind P w PyData where
  is := IsKy
  hash := hashK P w
  draws := drawsK
  room := fun A => A.units ≤ 9850
  inj := fun hx hy => by
    obtain ⟨as, r⟩ := hx.rd
    obtain ⟨bs, q⟩ := hy.rd
    exact ky_uniq _ _ _ _ _ hx.ky hy.ky r q
  keeps := fun x ho hd hs => x.keep fun b o e q => by
    refine (hs.2 b fun z => ?_).trans e
    subst z
    rw [ho] at e
    cases e
    exact q _ _ hd
  pyHash := fun hu hk h => by
    obtain ⟨as, r⟩ := hk.rd
    exact hash_run 6 _ _ as _ _ _ _ hk.dp hk.ky (by omega) r h
  eqBool := fun {A E s x y a b Q} hu hx hy h => by
    obtain ⟨as, r⟩ := hx.rd
    obtain ⟨bs, q⟩ := hy.rd
    have e := SeqAt.eqAt_reads x y A s _ _ as bs r q (ky_lay x hx.ky) (ky_lay y hy.ky) (by have := hx.dp; have := Nat.min_le_left x.depth y.depth; unfold cLine; omega)
    rw [ky_eqv x y hx.ky hy.ky] at e
    exact e P w E Q h
  quiet := fun hk h => by
    obtain ⟨as, r⟩ := hk.rd
    exact quiet_run 8 _ _ as _ _ _ _ (by have := hk.dp; omega) hk.ky r h
end
end Dd
namespace Dd
open PySem PySem.Spec PyProof.Rows L2
/-! ## dicts whose keys are tuples, of their own: the rules -/
def DRel (p : PyData × Addr × V) (q : PyData × Addr × Value) : Prop := p.1 = q.1 ∧ p.2.1 = q.2.1 ∧ RelV p.2.2 q.2.2
def DicAt (P : Program) (w : World) (h : Heap) (a : Addr) (es : List (PyData × Addr × V)) : Prop := ∃ xs : List (PyData × Addr × Value), Paired DRel es xs ∧
  ∃ o ents ep, h.get? a = some o ∧ o.ExactDict ∧ o.data = .dict ents ep ∧ ents.toList = xs.map (entryOfKey (deepKind P w)) ∧ (xs.map (·.1)).Nodup
def dicO (P : Program) (w : World) : DicK := fun a es => .ext fun h => es.length ≤ sizeLine ∧ (a == sysModules) = false ∧ DicAt P w h a es
theorem dicO_ok {P : Program} {w : World} {H : Hp} {h : Heap} {a : Addr} {es : List (PyData × Addr × V)} (h1 : es.length ≤ sizeLine) (h2 : (a == sysModules) = false) (h3 : DicAt P w h a es) : ObjOk P w H h a (dicO P w a es) := by
  refine ⟨⟨h1, h2, h3⟩, ?_, ?_⟩
  · obtain ⟨xs, _, o, ents, ep, e, _⟩ := h3
    exact ⟨o, e⟩
  · rintro g1 g2 ⟨q1, q2, xs, q3, o, ents, ep, e, q4⟩ k
    exact ⟨q1, q2, xs, q3, o, ents, ep, k _ e, q4⟩
noncomputable def putE (es : List (PyData × Addr × V)) (k : PyData) (b : Addr) (v : V) : List (PyData × Addr × V) :=
  if es.any (fun p => decide (p.1 = k)) then es.map (fun p => if p.1 = k then (p.1, p.2.1, v) else p) else es ++ [(k, b, v)]
theorem putE_len (es : List (PyData × Addr × V)) (k : PyData) (b : Addr) (v : V) : (putE es k b v).length ≤ es.length + 1 := by
  unfold putE
  split <;> simp
theorem any_rel {es : List (PyData × Addr × V)} {xs : List (PyData × Addr × Value)} (r : Paired DRel es xs) (k : PyData) : (es.any fun p => decide (p.1 = k)) = (atKey xs k).isSome := by
  induction r with
  | nil => rfl
  | @cons p q ps qs h t ih =>
    unfold atKey at ih ⊢
    rw [List.any_cons, List.find?_cons, h.1]
    by_cases hk : q.1 = k
    · simp [hk]
    · simp [hk, ih]
theorem rel_put {es : List (PyData × Addr × V)} {xs : List (PyData × Addr × Value)} (r : Paired DRel es xs) (k : PyData) (b : Addr) {v : V} {u : Value} (rv : RelV v u) : Paired DRel (putE es k b v) (storedH xs k b u) := by
  unfold putE storedH
  rw [any_rel r k]
  cases (atKey xs k).isSome with
  | false =>
    simp only [Bool.false_eq_true, if_false]
    exact Paired.snoc r ⟨rfl, rfl, rv⟩
  | true =>
    simp only [if_true]
    induction r with
    | nil => exact .nil
    | @cons p q ps qs h t ih =>
      rw [List.map_cons, List.map_cons]
      refine .cons ?_ ih
      unfold putAt
      rw [h.1]
      by_cases hk : q.1 = k
      · rw [if_pos hk, if_pos hk]
        exact ⟨rfl, h.2.1, rv⟩
      · rw [if_neg hk, if_neg hk]
        exact h
theorem atKey_rel {es : List (PyData × Addr × V)} {xs : List (PyData × Addr × Value)} (r : Paired DRel es xs) (k : PyData) : RelO ((es.find? fun p => decide (p.1 = k)).map (·.2.2)) ((atKey xs k).map (·.2)) := by
  induction r with
  | nil => trivial
  | @cons p q ps qs h t ih =>
    unfold atKey at ih ⊢
    rw [List.find?_cons, List.find?_cons, h.1]
    by_cases hk : q.1 = k
    · simp only [hk, decide_true]
      exact h.2.2
    · simp only [hk, decide_false]
      exact ih
/-- q's key stands at its place -/
def KyH (K : PySem.W.Frag) (H : Hp) (k : PyData) (b : Addr) : Prop := kyD k = true ∧ k.depth ≤ 6 ∧ Dp K H (.ref b) k
section
variable {X : Cx} {pins : List (Addr × Obj)} {σ : L2.St} {H : Hp} {s : Shared} {a b : Addr} {es : List (PyData × Addr × V)} {k : PyData} {A : Around} {E : Value → Shared → Prop}
theorem ky_is (I : Inv X pins σ H s) (h : KyH X.K H k b) : IsKy s.heap k b := by
  obtain ⟨as, r⟩ := Dp.reads I k (.ref b) (.ref b) h.2.2 rfl
  exact ⟨h.1, h.2.1, as, r⟩
theorem dic_of (I : Inv X pins σ H s) (e : H a = some (dicO X.prog X.w a es) ∨ ∃ o, H a = some (.frz o (dicO X.prog X.w a es))) (hk : ∀ q ∈ es, KyH X.K H q.1 q.2.1) :
    es.length ≤ sizeLine ∧ (a == sysModules) = false ∧ ∃ xs : List (PyData × Addr × Value), Paired DRel es xs ∧ s.heap.DictOfH (deepKind X.prog X.w) a xs := by
  have ok : ObjOk X.prog X.w H s.heap a (dicO X.prog X.w a es) := by
    rcases e with e | ⟨o, e⟩
    · exact I.hok a _ e
    · exact (I.hok a _ e).2
  obtain ⟨⟨z, y, xs, r, o, ents, ep, h1, h2, h3, h4, h5⟩, _⟩ := ok
  refine ⟨z, y, xs, r, o, ents, ep, h1, h2, h3, h4, fun x hx => ?_, h5⟩
  have all : ∀ {l : List (PyData × Addr × V)} {m : List (PyData × Addr × Value)}, Paired DRel l m → (∀ q ∈ l, KyH X.K H q.1 q.2.1) → ∀ x ∈ m, IsKy s.heap x.1 x.2.1 := by
    intro l m q
    induction q with
    | nil => intro _ x hx; exact nomatch hx
    | @cons p q ps qs hq t ih =>
      intro hk x hx
      rcases List.mem_cons.mp hx with e | hx
      · subst e
        have := ky_is I (hk p List.mem_cons_self)
        rw [hq.1, hq.2.1] at this
        exact this
      · exact ih (fun q hq => hk q (List.mem_cons_of_mem _ hq)) x hx
  exact all r hk x hx
theorem dic_set {v : V} {r : Value} {Q : Unit → Shared → Prop} (hu : A.units ≤ 9700) (I : Inv X pins σ H s) (e : H a = some (dicO X.prog X.w a es)) (hk : ∀ q ∈ es, KyH X.K H q.1 q.2.1) (hl : es.length < sizeLine) (kk : KyH X.K H k b) (rv : RelV v r)
    (h : ∀ s', Inv X pins σ (upd H a (dicO X.prog X.w a (putE es k b v))) s' → Q () s') : wpAny (model X.prog X.w) A (setItem (.ref a) (.ref b) r) Q E s := by
  obtain ⟨z, hd, xs, rel, dd⟩ := dic_of I (.inl e) hk
  have hz : xs.length ≤ sizeLine := by rw [← Paired.length rel]; exact z
  have hl2 : (putE es k b v).length ≤ sizeLine := by have := putE_len es k b v; omega
  refine wpAny_setItem_heap (knd := deepKind X.prog X.w) (hsz := hz) (show A.units + 1 ≤ 9850 by omega) (ky_is I kk) dd fun h' dd' hs => h _ ?_
  obtain ⟨q, ents, ep, hq, h2, h3, h4, _, h5⟩ := dd'
  exact L2.d_write I (by rw [e]; exact True.intro) hs ⟨q, hq⟩ (dicO_ok hl2 hd ⟨_, rel_put rel k b rv, q, ents, ep, hq, h2, h3, h4, h5⟩)
end
/-- d[k] = v -/
def sPutD (P : Program) (w : World) (K : PySem.W.Frag) (td ty tv : TE) : TS := fun D σ H => tv σ H fun v H1 => td σ H1 fun x H2 => ty σ H2 fun y H3 => ∃ (a b : Addr) (k : PyData) (es : List (PyData × Addr × V)), x = .ref a ∧ y = .ref b ∧ H3 a = some (dicO P w a es) ∧
  (∀ q ∈ es, KyH K H3 q.1 q.2.1) ∧ es.length < sizeLine ∧ KyH K H3 k b ∧ D.nx σ (upd H3 a (dicO P w a (putE es k b v)))
/-- {} -/
def tNewD (P : Program) (w : World) : TE := fun _ H Q => ∀ p, H p = none → Q (.ref p) (upd H p (dicO P w p []))
/-- {k: v} -/
def tDsp1 (P : Program) (w : World) (K : PySem.W.Frag) (tk tv : TE) : TE := fun σ H Q => ∀ p, H p = none → tk σ (upd H p (dicO P w p [])) fun x H1 => tv σ H1 fun v H2 => ∃ (b : Addr) (k : PyData), x = .ref b ∧ H2 p = some (dicO P w p []) ∧ KyH K H2 k b ∧ Q (.ref p) (upd H2 p (dicO P w p [(k, b, v)]))
section
variable {X : Cx} {o i e value kx vx : Expr} {pos pos' tpos : Pos} {td ty tv tk : TE}
theorem ps_putD (hu : X.A.units ≤ 9700) (ho : PE X o td) (hi : PE X i ty) (hv : PE X value tv) (hs : swapsWith value (some (.Subscript o i pos')) pos.line X.env = pure false) :
    PS X (.Assign [.Subscript o i pos'] value pos) (sPutD X.prog X.w X.K td ty tv) := by
  refine ⟨fun pins s σ H D I h => ?_⟩
  refine wpAny_Assign_Subscript (thn (hv.run pins s σ H _ I h) fun r s1 ⟨v, H1, I1, rv, q1⟩ => thn (ho.run pins s1 σ H1 _ I1 q1) fun u s2 ⟨x, H2, I2, rx, q2⟩ => thn (hi.run pins s2 σ H2 _ I2 q2) fun iv s3 ⟨y, H3, I3, ry, a, b, k, es, ex, ey, g, hk, hl, kk, q3⟩ => ?_) hs
  subst ex ey
  obtain rfl : u = Value.ref a := rx
  obtain rfl : iv = Value.ref b := ry
  exact dic_set hu I3 g hk hl kk rv fun s4 I4 => ⟨σ, _, I4, q3⟩
theorem dic_empty {P : Program} {w : World} {H : Hp} (h : Heap) (hb : sysModules < h.objs.size) : ObjOk P w H (h.push { cls := .type "dict", data := .dict #[] }) h.objs.size (dicO P w h.objs.size []) :=
  dicO_ok (Nat.zero_le _) (beq_eq_false_iff_ne.mpr (Ne.symm (Nat.ne_of_lt hb))) ⟨[], .nil, _, #[], 0, Heap.get?_push_size _ rfl, ⟨rfl, rfl, rfl⟩, rfl, rfl, List.nodup_nil⟩
theorem pe_newD : PE X (.Dict [] [] pos) (tNewD X.prog X.w) := ⟨fun pins s σ H Q I h =>
  wpAny_Dict_empty ⟨.ref s.heap.objs.size, _, I.laid (a := s.heap.objs.size) (o := dicO X.prog X.w s.heap.objs.size []) (t' := s.toks) (fun _ _ q => Heap.get?_push_of_some _ q) (Nat.le_refl _) (dic_empty s.heap I.big), rfl, h _ (I.hok.fresh (Nat.le_refl _))⟩⟩
theorem dict_walkH {prog : Program} {w : World} {A : Around} {E : Value → Shared → Prop} {s : Shared} {env : Env} {keys : List (Option Expr)} {values : List Expr} {pos : Pos} {pairs : List (Sem Value × Sem Value)} {Q : Value → Shared → Prop} (hu : A.units ≤ 9850)
    (hshape : (evalEachOpt keys env).zip ((evalEach values env).map fun v => do let x ← v; standAt pos; pure x) = pairs.map fun p => (some p.1, p.2)) (h0 : pairs ≠ []) (hlen : pairs.length ≤ 15)
    (h : wpAny (model prog w) A (evalPairs pairs) (fun vs s₁ => ∃ ps, CarriesH (deepKind prog w) s₁.heap vs ps ∧ s₁.heap.DictOfH (deepKind prog w) s.heap.objs.size [] ∧
      ∀ h' tk, h'.DictOfH (deepKind prog w) s.heap.objs.size (storedAllH [] ps) → Heap.SameBut s.heap.objs.size s₁.heap h' → Q (.ref s.heap.objs.size) { s₁ with heap := h', toks := tk }) E
      { s with heap := s.heap.push { cls := .type "dict", data := .dict #[] } }) :
    wpAny (model prog w) A (eval (.Dict keys values pos) env) Q E s := by
  rw [arm_eval_Dict, hshape, dictDisplay_pairs pairs h0 (by omega)]
  exact wpAny_bind (wpAny_standAt (wpAny_bind (wpAny_subDictH (knd := deepKind prog w) (Q := fun d s' => wpAny (model prog w) A (pure (Value.ref d)) Q E s') hu hlen
    (wpAny_mono h (fun vs s₁ h₁ => by obtain ⟨ps, hc, hm, hq⟩ := h₁; exact ⟨ps, hc, hm, fun h' tk a b => wpAny_pure (hq h' tk a b)⟩) fun _ _ e => e))))
theorem pe_dsp1 (hu : X.A.units ≤ 9700) (hk : PE X kx tk) (hv : PE X vx tv) : PE X (.Dict [some kx] [vx] pos) (tDsp1 X.prog X.w X.K tk tv) := by
  refine ⟨fun pins s σ H Q I q => ?_⟩
  have hn := I.hok.fresh (Nat.le_refl s.heap.objs.size)
  have I1 := I.laid (a := s.heap.objs.size) (o := dicO X.prog X.w s.heap.objs.size []) (h' := s.heap.push { cls := .type "dict", data := .dict #[] }) (t' := s.toks) (fun _ _ q => Heap.get?_push_of_some _ q) (Nat.le_refl _) (dic_empty s.heap I.big)
  refine dict_walkH (pairs := pairTrees [some kx] [vx] X.env pos) (by omega) (zip_pairTrees _ _ _ _ rfl rfl) (by simp [pairTrees]) (by rw [pairTrees_length _ _ _ _ rfl rfl]; simp) ?_
  refine pairTrees_cons_walk (thn (hk.run pins _ σ _ _ I1 (q _ hn)) fun u s1 ⟨x, H1, I2, rx, q1⟩ => thn (hv.run pins s1 σ H1 _ I2 q1) fun w2 s2 ⟨v, H2, I3, ry, b, k, ex, g, kk, q2⟩ => pairTrees_nil_walk ?_)
  subst ex
  obtain rfl : u = Value.ref b := rx
  obtain ⟨z, hd, xs, rel, dd⟩ := dic_of I3 (.inl g) (fun q hq => by cases hq)
  cases rel
  refine ⟨[(k, b, w2)], ⟨rfl, rfl, ky_is I3 kk, trivial⟩, dd, fun h' tk dd' hs => ⟨.ref s.heap.objs.size, _, ?_, rfl, q2⟩⟩
  have e1 : storedAllH ([] : List (PyData × Addr × Value)) [(k, b, w2)] = [(k, b, w2)] := by
    simp [storedAllH, storedH, atKey]
  rw [e1] at dd'
  obtain ⟨q, ents, ep, hq, h2, h3, h4, _, h5⟩ := dd'
  exact L2.d_write I3 (by rw [g]; exact True.intro) hs ⟨q, hq⟩ (dicO_ok (by simp [sizeLine_eq]) hd ⟨_, .cons ⟨rfl, rfl, ry⟩ .nil, q, ents, ep, hq, h2, h3, h4, h5⟩)
end
end Dd
namespace Dd
open PySem PySem.Spec PyProof.Rows L2
/-! ## a dict of its own walked: locked from then on -/
def ItD (d : Addr) (o : Obj) (u : HO) (es : List (PyData × Addr × V)) : It :=
  ⟨fun i H => H d = some (.frz o u) ∧ i < es.length, fun i H x H' => H' = H ∧ ∃ (k : PyData) (b : Addr) (v : V), es[i]? = some (k, b, v) ∧ x = .ref b, fun i H => H d = some (.frz o u) ∧ es.length ≤ i⟩
def iDic (P : Program) (w : World) (td : TE) : TI := fun σ H R => td σ H fun x H1 => ∃ (d : Addr) (es : List (PyData × Addr × V)), x = .ref d ∧ H1 d = some (dicO P w d es) ∧ ∀ o, R (ItD d o (dicO P w d es) es) (upd H1 d (.frz o (dicO P w d es)))
section
variable {X : Cx} {pins : List (Addr × Obj)} {σ : L2.St} {H : Hp} {s : Shared} {d : Addr} {o : Obj} {es : List (PyData × Addr × V)}
theorem frzD (I : Inv X pins σ H s) (h : H d = some (.frz o (dicO X.prog X.w d es))) : (d == sysModules) = false ∧ s.heap.get? d = some o ∧ o.ExactDict ∧ ∃ (ents : Array DictEntry) (ep : Nat), o.data = .dict ents ep ∧ ents.size = es.length ∧
    ∀ (i : Nat) (p : PyData × Addr × V), es[i]? = some p → ∃ en : DictEntry, ents[i]? = some en ∧ en.key = .ref p.2.1 := by
  obtain ⟨hd, ⟨z, hs, xs, pr, o', ents, ep, ho, hx, hdt, he, _⟩, _⟩ := I.hok d _ h
  rw [hd] at ho
  cases ho
  refine ⟨hs, hd, hx, ents, ep, hdt, ?_, fun i p e => ?_⟩
  · have l1 : ents.size = xs.length := size_of_entries he
    have l2 : es.length = xs.length := Paired.length pr
    omega
  · obtain ⟨b, hb, e1, e2, _⟩ := L2.paired_get pr e
    have q := entry_at he i
    rw [hb] at q
    exact ⟨_, q, by show Value.ref b.2.1 = _; rw [e2]⟩
theorem turn_dic {P : Program} {w : World} {K : PySem.W.Frag} {tg : Expr} {ents : Array DictEntry} {ep : Nat} (it : Addr) (hod : o.data = .dict ents ep) : Turn P w K tg (ItD d o (dicO P w d es) es) [it] it (fun i h => h.IsKeyIter it d i es.length ep) where
  mem := by simp
  obj := fun i h st b hb => by
    have e : b = it := by simpa using hb
    subst e
    obtain ⟨oi, e, c, dd⟩ := st
    exact ⟨oi, e, fun v z => by rw [dd] at z; cases z⟩
  keep := fun i h h' st k => st.at fun oi e => k it (by simp) oi e
  item := by
    intro X hP hw hK hc i pins s σ H E I hf st hg
    subst hP hw hK
    obtain ⟨hd, hi⟩ := hg
    obtain ⟨f0, f1, f2, f3, f4, f5⟩ := hf it (by simp)
    obtain ⟨hs, hgd, hx, es', ep', hdt, hsz, ent⟩ := frzD I hd
    obtain ⟨rfl, rfl⟩ := L2.dict_ep hod hdt
    obtain ⟨⟨k, b, v⟩, hkv⟩ : ∃ p, es[i]? = some p := ⟨es[i], List.getElem?_eq_getElem hi⟩
    obtain ⟨en, hen, hkey⟩ := ent i _ hkv
    refine next_key_item st hgd hdt hsz hen fun h' st' sb => ?_
    have I1 : Inv X pins σ H { s with heap := h' } := I.turned (t' := s.toks) (fun b ob hb e => (sb.2 b hb).trans e) f0 f1 f3 f4 f5
    obtain ⟨oi, e, c, dd⟩ := id st'
    exact ⟨en.key, rfl, go_of (s := { s with heap := h' }) e c dd (by decide) ⟨.ref b, H, I1, hkey, ⟨rfl, k, b, v, hkv, rfl⟩, st', fun b hb => (hf b hb).1⟩⟩
  done := by
    intro X hP hw hK hc i pins s σ H E I hf st hg
    subst hP hw hK
    obtain ⟨hd, hi⟩ := hg
    obtain ⟨f0, f1, f2, f3, f4, f5⟩ := hf it (by simp)
    obtain ⟨hs, hgd, hx, es', ep', hdt, hsz, ent⟩ := frzD I hd
    obtain ⟨rfl, rfl⟩ := L2.dict_ep hod hdt
    exact next_key_end (I.ok.hd hc) st hgd hdt hsz hi fun h' eb => ⟨rfl, I.turned (t' := s.toks) (fun b ob hb e => eb b ob hb e) f0 f1 f3 f4 f5⟩
  self := fun A i s Q E st h => by
    refine wpAny_pyIter_slot st.typeIs F.slot_dict_keyiterator_iter (wpAny_call_entry F.slot_dict_keyiterator_iter st.typeIs F.entry_dict_keyiterator_iter ?_ (F.args_dict_keyiterator_iter_1 _))
    show wpAny _ _ (ret (.ref it)) _ _ s
    exact wpAny_pure ⟨_, rfl, "dict_keyiterator", _, st.typeIs, F.slot_dict_keyiterator_next.lookup, h⟩
theorem pi_dic {tg e : Expr} {td : TE} (he : PE X e td) : PI X tg e (iDic X.prog X.w td) := by
  refine ⟨fun pins s σ H R I h => ?_⟩
  refine thn (he.run pins s σ H _ I h) fun u s1 ⟨x, H1, I1, rx, d, es, ex, hd, q⟩ => ?_
  subst ex
  obtain rfl : u = Value.ref d := rx
  obtain ⟨od, I2⟩ := I1.lock hd trivial
  have hd2 : (upd H1 d (.frz od (dicO X.prog X.w d es))) d = some (.frz od (dicO X.prog X.w d es)) := upd_same
  obtain ⟨hs, hgd, hx, ents, ep, hdt, hsz, ent⟩ := frzD I2 hd2
  refine iter_keys hs hgd hx hdt (pi_one (tk := s1.toks) I2 _ (turn_dic _ hdt) ⟨_, Heap.get?_push_size _ rfl, rfl, ?_⟩ (q od))
  rw [hsz] <;> rfl
end
/-! ## sorted(d), list(d) -/
theorem sorts_one {prog : Program} {w : World} {A : Around} {s : Shared} {vs : List Value} {ds : List PyData} (e : PySem.W.EachIs (fun v d => ∃ as, Reads s.heap v d as) vs ds) (hal : PySem.W.AllAlike ds) (hn : ∀ d ∈ ds, d ≠ .none) (h1 : vs.length ≤ 1) (hu : ∀ d, d ∈ ds → A.units + d.depth < cLine) : PySem.W.SortsAt prog w A s (PySem.W.dataKind s.heap ds) vs := by
  refine ⟨fun v hv => ?_, PyProof.Rows.general', fun E x y a b Q ha hb hq => ?_, fun h2 => by omega⟩
  · obtain ⟨d, hd, as, r⟩ := e.left v hv
    exact ⟨_, PySem.W.dataKind_some hal hd r⟩
  · obtain ⟨d, as, hd, ra, rfl⟩ := PySem.W.dataKind_inv ha
    obtain ⟨d', as', hd', rb, rfl⟩ := PySem.W.dataKind_inv hb
    exact PySem.W.oneLt_alike (f := false) (fun z => by cases z) ra rb (hal d hd d' hd') (hn d hd) (Nat.lt_of_le_of_lt (Nat.add_le_add_left (Nat.min_le_left _ _) _) (hu d hd)) hq
section
variable {X : Cx} {pins : List (Addr × Obj)} {σ : L2.St} {H : Hp} {s : Shared} {a : Addr} {es : List (PyData × Addr × V)}
theorem refs_vals : ∀ bs : List Addr, Vals (bs.map V.ref) (bs.map Value.ref)
  | [] => .nil
  | _ :: r => .cons rfl (refs_vals r)
theorem each_of {h : Heap} : ∀ {es : List (PyData × Addr × V)}, (∀ q ∈ es, ∃ as, Reads h (.ref q.2.1) q.1 as) → PySem.W.EachIs (fun v d => ∃ as, Reads h v d as) ((es.map (·.2.1)).map Value.ref) (es.map (·.1))
  | [], _ => .nil
  | q :: es, h => .cons (h q List.mem_cons_self) (each_of fun q hq => h q (List.mem_cons_of_mem _ hq))
def refA : Value → Option Addr
  | .ref b => some b
  | _ => none
theorem refs_of : ∀ {l : List Value} {as : List Addr}, l.Perm (as.map Value.ref) → ∃ bs : List Addr, l = bs.map Value.ref ∧ bs.Perm as
  | l, as, h => by
    refine ⟨l.filterMap refA, ?_, ?_⟩
    · have hm : ∀ v ∈ l, ∃ b, v = Value.ref b := fun v hv => by
        obtain ⟨b, _, e⟩ := List.mem_map.mp (h.mem_iff.mp hv)
        exact ⟨b, e.symm⟩
      clear h
      induction l with
      | nil => rfl
      | cons v l ih =>
        obtain ⟨b, rfl⟩ := hm v List.mem_cons_self
        rw [List.filterMap_cons_some (show refA (Value.ref b) = some b from rfl), List.map_cons, ← ih fun v hv => hm v (List.mem_cons_of_mem _ hv)]
    · have := h.filterMap refA
      refine this.trans (.of_eq ?_)
      rw [List.filterMap_map]
      have : (refA ∘ Value.ref) = some := rfl
      rw [this, List.filterMap_some]
theorem sortVals_perm {κ : PyProof.Rows.KeyKind} {b : Bool} (vs : List Value) : (PySem.W.sortVals κ b vs vs).Perm vs := by
  unfold PySem.W.sortVals
  refine ((List.mergeSort_perm _ _).map _).trans (.of_eq ?_)
  rw [List.map_snd_zip]
  exact Nat.le_refl _
def rSortDic (K : PySem.W.Frag) (P : Program) (w : World) : List V → Hp → VK → Prop := fun xs H Q => ∃ (a : Addr) (es : List (PyData × Addr × V)), xs = [.ref a] ∧ H a = some (dicO P w a es) ∧ (∀ q ∈ es, KyH K H q.1 q.2.1) ∧ PySem.W.AllAlike (es.map (·.1)) ∧ (es.length ≤ 1 ∨ ∀ q ∈ es, ∃ x r, q.1 = .tuple (x :: r)) ∧
  ∀ (bs : List Addr) (p : Addr), bs.Perm (es.map (·.2.1)) → H p = none → Q (.ref p) (upd H p (.lst (bs.map V.ref)))
theorem call_sortDic (hcalm : X.calm = true) (hu : X.A.units ≤ 9700) : CallR X (.builtin "sorted") (rSortDic X.K X.prog X.w) := by
  intro pins s σ H xs us Q I r q
  obtain ⟨a, es, ex, hd, hk, hal, hso, q⟩ := q
  subst ex
  obtain ⟨u, eu, rx⟩ := L2.vals1 r
  subst eu
  cases rx
  obtain ⟨z, lo, xs, rel, dd⟩ := dic_of I (.inl hd) hk
  obtain ⟨o, ents, ep, ho, hx, hdt, hen, his, hnd⟩ := id dd
  have l1 : ents.size = xs.length := size_of_entries hen
  have l2 : es.length = xs.length := Paired.length rel
  refine Calls.call_function_entry PyProof.Rows.kind_sorted PyProof.Rows.plain_sorted PyProof.Rows.entry_sorted (PyProof.Rows.args_sorted1 _) ?_
  unfold Builtin.«sorted»
  refine wpAny_bind (m := checkCount "sorted" 1 1 _) (wpAny_pure ?_)
  refine wpAny_bind (PySem.W.kdu_collect (A := X.A.in1) (L2.kdl_raw lo hx hdt) (I.ok.hd hcalm) ho (by omega) fun h' tk acc hkp hacc => ?_)
  have hacc2 : acc.toList = (es.map (·.2.1)).map Value.ref := by
    have hl : acc.toList.length = es.length := by rw [Array.length_toList, hacc.1]; omega
    apply List.ext_getElem?
    intro j
    rw [List.getElem?_map, List.getElem?_map]
    cases hj : acc.toList[j]? with
    | none =>
      have h1 := List.getElem?_eq_none_iff.mp hj
      rw [List.getElem?_eq_none (by omega)]
      rfl
    | some v =>
      obtain ⟨en, he, hv⟩ := hacc.2 j v (by rw [← Array.getElem?_toList]; exact hj)
      have qe := entry_at hen j
      rw [he] at qe
      cases hb : es[j]? with
      | none =>
        have := (List.getElem?_eq_some_iff.mp hj).1
        have := List.getElem?_eq_none_iff.mp hb
        omega
      | some p =>
        obtain ⟨x, hx2, e1, e2, _⟩ := L2.paired_get rel hb
        rw [hx2] at qe
        cases qe
        rw [hv]
        show some (Value.ref x.2.1) = some (Value.ref p.2.1)
        rw [e2]
  have hal2 : acc.toList.length = es.length := by rw [hacc2, List.length_map, List.length_map]
  have I1 : Inv X pins σ H { s with heap := h', toks := tk } := I.kept hkp
  refine wpAny_bind (wpAny_newList ?_ (by rw [hal2]; exact z))
  have hoL : (h'.push (seqObj "list" acc.toList.toArray 0)).get? h'.objs.size = some (seqObj "list" acc.toList.toArray 0) := Heap.get?_push_size _ rfl
  show wpAny _ _ _ _ _ { s with heap := h'.push (seqObj "list" acc.toList.toArray 0), toks := tk }
  have hrd : ∀ g : Heap, (∀ b u, h'.get? b = some u → g.get? b = some u) → ∀ q ∈ es, ∃ as, Reads g (.ref q.2.1) q.1 as := fun g hg q hq => by
    obtain ⟨as, r⟩ := (ky_is I1 (hk q hq)).rd
    exact ⟨as, reads_mono (fun b u e _ => hg b u e) _ _ _ (hk q hq).1 r⟩
  have hold : ∀ b u, h'.get? b = some u → (PySem.W.sortingHeap (h'.push (seqObj "list" acc.toList.toArray 0)) h'.objs.size acc.toList).get? b = some u := fun b u e => PySem.W.sortingHeap_old (Nat.ne_of_lt (Heap.lt_size e)) (Heap.get?_push_of_some _ e)
  have E1 := each_of (hrd _ hold)
  rw [← hacc2] at E1
  have hdp : ∀ d, d ∈ es.map (·.1) → d.depth ≤ 6 := fun d hd => by
    obtain ⟨q, hq, rfl⟩ := List.mem_map.mp hd
    exact (hk q hq).2.1
  have S : PySem.W.SortsAt X.prog X.w X.A.in1.in1 { heap := PySem.W.sortingHeap (h'.push (seqObj "list" acc.toList.toArray 0)) h'.objs.size acc.toList, gens := s.gens, drawn := s.drawn, toks := tk, os := s.os } (PySem.W.dataKind (PySem.W.sortingHeap (h'.push (seqObj "list" acc.toList.toArray 0)) h'.objs.size acc.toList) (es.map (·.1))) acc.toList := by
    have hu2 : ∀ d, d ∈ es.map (·.1) → X.A.in1.in1.units + d.depth < cLine := fun d hd => by
      have := hdp d hd
      show X.A.units + 1 + 1 + d.depth < cLine
      unfold cLine
      omega
    rcases hso with h1 | h1
    · refine sorts_one (s := { heap := _, gens := s.gens, drawn := s.drawn, toks := tk, os := s.os }) E1 hal (fun d hd z => ?_) (by omega) hu2
      obtain ⟨q, hq, rfl⟩ := List.mem_map.mp hd
      have := (hk q hq).1
      rw [z] at this
      cases this
    · refine PySem.W.SortsAt.data (s := { heap := _, gens := s.gens, drawn := s.drawn, toks := tk, os := s.os }) E1 hal (.inl fun d hd => ?_) hu2
      obtain ⟨q, hq, rfl⟩ := List.mem_map.mp hd
      exact h1 q hq
  refine wpAny_bind (wpAny_holding (wpAny_call_entry PyProof.Rows.slot_list_sort ⟨_, hoL, rfl⟩ PyProof.Rows.entry_list_sort
    (PySem.W.list_sort_vals (s := { s with heap := h'.push (seqObj "list" acc.toList.toArray 0), toks := tk }) hoL S (by rw [hal2]; exact z) ⟨_, rfl, ?_⟩) (PyProof.Rows.args_list_sort _)))
  obtain ⟨e', he'⟩ := PyProof.Rows.sortedHeap_at (vs := acc.toList) (out := (PySem.W.sortVals (PySem.W.dataKind (PySem.W.sortingHeap (h'.push (seqObj "list" acc.toList.toArray 0)) h'.objs.size acc.toList) (es.map (·.1))) false acc.toList acc.toList).toArray) hoL
  obtain ⟨bs, eb, pb⟩ := refs_of ((sortVals_perm (κ := PySem.W.dataKind (PySem.W.sortingHeap (h'.push (seqObj "list" acc.toList.toArray 0)) h'.objs.size acc.toList) (es.map (·.1))) (b := false) acc.toList).trans (.of_eq hacc2))
  rw [eb] at he'
  rw [eb]
  have hlen : (bs.map V.ref).length ≤ sizeLine := by
    rw [List.length_map, pb.length_eq, List.length_map]
    exact z
  refine wpAny_pure ⟨_, rfl, .ref h'.objs.size, upd H h'.objs.size (.lst (bs.map V.ref)), I1.laid (t' := tk) (fun b u e => ?_) (Nat.le_refl _)
    (show ObjOk X.prog X.w _ _ _ (.lst (bs.map V.ref)) from ⟨hlen, bs.map Value.ref, e', refs_vals bs, he'⟩), rfl, q bs _ pb (I1.hok.fresh (Nat.le_refl _))⟩
  have hb : b < h'.objs.size := Heap.lt_size e
  rw [PyProof.Rows.sortedHeap_old (Nat.ne_of_lt hb) (by rw [size_push']; exact Nat.lt_succ_of_lt hb)]
  exact Heap.get?_push_of_some _ e
/-- list(d) -/
def rListDic (K : PySem.W.Frag) (P : Program) (w : World) : List V → Hp → VK → Prop := fun xs H Q => ∃ (a : Addr) (es : List (PyData × Addr × V)), xs = [.ref a] ∧ H a = some (dicO P w a es) ∧ (∀ q ∈ es, KyH K H q.1 q.2.1) ∧ ∀ (p : Addr), H p = none → Q (.ref p) (upd H p (.lst ((es.map (·.2.1)).map V.ref)))
theorem call_listDic (hc : X.calm = true) : CallR X (.type "list") (rListDic X.K X.prog X.w) := by
  intro pins s σ H xs us Q I r h
  obtain ⟨d, es, rfl, hd, hk, q⟩ := h
  obtain ⟨u, rfl, rx⟩ := r.one
  cases rx
  obtain ⟨z, hs, ks, pr, dd⟩ := dic_of I (.inl hd) hk
  obtain ⟨o, ents, ep, ho, hx, hdt, he, his, hn⟩ := id dd
  have l1 : ents.size = ks.length := size_of_entries he
  have l2 : es.length = ks.length := Paired.length pr
  refine PySem.W.kdl_call (L2.kdl_raw hs hx hdt) (I.ok.hd hc) ho (by omega) fun h' tk acc' c' kp e it => ?_
  have eb : acc'.toList = (es.map (·.2.1)).map Value.ref := by
    have hl : acc'.toList.length = es.length := by rw [Array.length_toList, it.1]; omega
    apply List.ext_getElem?
    intro j
    rw [List.getElem?_map, List.getElem?_map]
    cases hj : acc'.toList[j]? with
    | none =>
      have h1 := List.getElem?_eq_none_iff.mp hj
      rw [List.getElem?_eq_none (by omega)]
      rfl
    | some v =>
      obtain ⟨en, hen, hv⟩ := it.2 j v (by rw [← Array.getElem?_toList]; exact hj)
      have qe := entry_at he j
      rw [hen] at qe
      cases hb : es[j]? with
      | none =>
        have := (List.getElem?_eq_some_iff.mp hj).1
        have := List.getElem?_eq_none_iff.mp hb
        omega
      | some p =>
        obtain ⟨x, hx2, e1, e2, _⟩ := L2.paired_get pr hb
        rw [hx2] at qe
        cases qe
        rw [hv]
        show some (Value.ref x.2.1) = some (Value.ref p.2.1)
        rw [e2]
  have rv : Vals ((es.map (·.2.1)).map V.ref) acc'.toList := by rw [eb]; exact refs_vals _
  have hz : ((es.map (·.2.1)).map V.ref).length ≤ sizeLine := by rw [List.length_map, List.length_map]; omega
  refine ⟨.ref s.heap.objs.size, _, I.laid (t' := tk) (o := .lst ((es.map (·.2.1)).map V.ref)) kp (Nat.le_refl _) ?_, rfl, q _ (I.hok.fresh (Nat.le_refl _))⟩
  exact ⟨hz, acc'.toList, c', rv, by rw [Array.toArray_toList]; exact e⟩
end
end Dd
namespace Dd
open PySem PySem.Spec PyProof.Rows L2
/-! ## dicts of tuple keys among the slots -/
structure KyDa (k : Da) : Prop where
  pl : plain k = true
  ky : kyD (toPy k) = true
  dp : (toPy k).depth ≤ 6
noncomputable def dputD (kvs : List (Da × Da)) (k d : Da) : List (Da × Da) :=
  if kvs.any (fun p => decide (toPy p.1 = toPy k)) then kvs.map (fun p => if toPy p.1 = toPy k then (p.1, d) else p) else kvs ++ [(k, d)]
section
variable {K : PySem.W.Frag} {P : Program} {w : World} {F G : Fx} {n : Ns} {ρ ρ' ρ0 ρ1 ρ2 ρ3 : List Sl} {te ta tb tc tk tv : TE} {tx tr : TA} {d e : Da} {k k1 k2 : Rk} {ds es : List Da} {i j l s : Nat} {H H0 : Hp} {σ : L2.St} {Φ : Rw → List Sl → Prop} {D : Ends} {t u : TS} {g : TG} {kvs : List (Da × Da)} {D0 : DicK}
theorem DnE.ky : ∀ {kvs : List (Da × Da)} {es : List (PyData × Addr × V)}, DnE n H es kvs → (∀ p ∈ kvs, KyDa p.1) → ∀ q ∈ es, KyH K H q.1 q.2.1
  | [], _, h, _, q, hq => by cases h; cases hq
  | (k, d) :: kvs, _, h, hk, q, hq => by
    cases h with
    | cons h1 h2 h3 =>
      rcases List.mem_cons.mp hq with e | hq
      · subst e
        have := hk (k, d) List.mem_cons_self
        exact ⟨this.ky, this.dp, Dn.dp _ _ this.pl h1⟩
      · exact DnE.ky h3 (fun p hp => hk p (List.mem_cons_of_mem _ hp)) q hq
theorem DnE.len : ∀ {kvs : List (Da × Da)} {es : List (PyData × Addr × V)}, DnE n H es kvs → es.length = kvs.length
  | [], _, h => by cases h; rfl
  | (k, d) :: kvs, _, h => by
    cases h with
    | cons h1 h2 h3 => simp [DnE.len h3]
theorem DnE.keys : ∀ {kvs : List (Da × Da)} {es : List (PyData × Addr × V)}, DnE n H es kvs → DnL n H (es.map fun q => V.ref q.2.1) (kvs.map (·.1)) ∧ es.map (·.1) = kvs.map fun p => toPy p.1
  | [], _, h => by cases h; exact ⟨.nil, rfl⟩
  | (k, d) :: kvs, _, h => by
    cases h with
    | cons h1 h2 h3 => exact ⟨.cons h1 (DnE.keys h3).1, by simp [(DnE.keys h3).2]⟩
theorem DnE.anyP {k : PyData} : ∀ {kvs : List (Da × Da)} {es : List (PyData × Addr × V)}, DnE n H es kvs → (es.any fun p => decide (p.1 = k)) = kvs.any fun p => decide (toPy p.1 = k)
  | [], _, h => by cases h; rfl
  | (k, d) :: kvs, _, h => by
    cases h with
    | cons h1 h2 h3 => simp [DnE.anyP h3]
theorem DnE.put {k d : Da} {b : Addr} {v : V} (hk : Dn n H (.ref b) k) (hv : Dn n H v d) {kvs : List (Da × Da)} {es : List (PyData × Addr × V)} (h : DnE n H es kvs) : DnE n H (putE es (toPy k) b v) (dputD kvs k d) := by
  have e := DnE.anyP (k := toPy k) h
  unfold putE dputD
  rw [e]
  split
  · clear e
    rename_i z
    clear z
    induction kvs generalizing es with
    | nil => cases h; exact .nil
    | cons p kvs ih =>
      obtain ⟨k', d'⟩ := p
      cases h with
      | cons h1 h2 h3 =>
        rw [List.map_cons, List.map_cons]
        by_cases z : toPy k' = toPy k
        · rw [if_pos z, if_pos z]
          exact .cons h1 hv (ih h3)
        · rw [if_neg z, if_neg z]
          exact .cons h1 h2 (ih h3)
  · rename_i z
    clear z e
    induction kvs generalizing es with
    | nil => cases h; exact .cons hk hv .nil
    | cons p kvs ih =>
      obtain ⟨k', d'⟩ := p
      cases h with
      | cons h1 h2 h3 => exact .cons h1 h2 (ih h3)
theorem DnE.ext {H' : Hp} (x : Ext n H H') (kvs : List (Da × Da)) (es : List (PyData × Addr × V)) (h : DnE n H es kvs) : DnE n H' es kvs := DnE.extA x.keep _ _ h
/-- x = {} -/
theorem nx_newD (h : Nx F (ρ.set i (.own false (.dic (dicO P w) []))) D.nx) : Nx F ρ (tAsg (tNewD P w) (gName i) D) := fun n σ H E p hp => by
  have gr := Grow.upd (o := dicO P w p []) hp
  have E2 := E.more hp gr (by rw [upd_same]; simp)
  exact h _ _ _ (E2.may.setO (fun j b es l e1 e2 ha => E.not hp (n.le p ((E.ownF j b es l e1 e2).1 p ha).1)) (E.h0 hp) ⟨[], upd_same, .nil⟩)
/-- x, y, z = {(): True}, a, b -/
theorem nx_par3D {a b : Int} (hij : i ≠ j) (hil : i ≠ l) (hjl : j ≠ l) (h : Nx F (((ρ.set i (.own false (.dic (dicO P w) [(.tup [], .bl true)]))).set j (.is (.int a))).set l (.is (.int b))) D.nx) :
    Nx F ρ (tPar3 i j l (tCons (tDsp1 P w K (tTup tNil) (tC (.bl true))) (tCons (tC (.int a)) (tCons (tC (.int b)) tNil))) D) := fun n σ H E p hp => by
  refine ⟨by simp, fun q hq => ?_⟩
  have gr := Grow.upd (o := dicO P w p []) hp
  have E2 := E.more hp gr (by rw [upd_same]; simp)
  have gr2 := Grow.upd (o := .tup []) hq
  have E3 := E2.grow gr2
  have hpq : p ≠ q := fun z => by rw [z, upd_same] at hq; cases hq
  have hp3 : upd (upd H p (dicO P w p [])) q (.tup []) p = some (dicO P w p []) := by rw [upd_ne hpq, upd_same]
  refine ⟨q, .tuple [], rfl, hp3, ⟨by simp [kyD, kyDs], by simp [PyData.depth, PyData.depthAll], .tup (.inl (.inl upd_same)) .nil⟩, _, _, _, rfl, ?_⟩
  have E4 := E3.may.setO (i := i) (ds := .dic (dicO P w) []) (fun j b es l e1 e2 ha => E.not hp (n.le p ((E.ownF j b es l e1 e2).1 p ha).1)) (E.h0 hp) ⟨[], hp3, .nil⟩
  have hqn : ¬ (addO n p) q := fun z => by
    rcases z with z | z
    · have hq0 : H q = none := by
        cases e : H q with
        | none => rfl
        | some o => rw [gr _ _ e] at hq; cases hq
      exact E.not hq0 z
    · exact hpq z.symm
  have hup : upd (upd (upd H p (dicO P w p [])) q (.tup [])) p (dicO P w p [(.tuple [], q, .bl true)]) q = some (.tup []) := by rw [upd_ne (Ne.symm hpq), upd_same]
  by_cases hi : i < ρ.length
  · have E5 := E4.mut (i := i) (b := false) (l := p) (u := dicO P w p [(.tuple [], q, .bl true)]) (ds := .dic (dicO P w) []) (es := .dic (dicO P w) [(.tup [], .bl true)]) (by rw [List.getElem?_set_self hi]) (by rw [List.getElem?_set_self (by rw [E.len]; exact hi)])
      ⟨[(.tuple [], q, .bl true)], upd_same, DnE.cons (k := .tup []) (.tup hup hqn .nil) (.bl true) .nil⟩
    rw [List.set_set] at E5
    have E6 := (E5.set (i := j) (.int a)).set (i := l) (.int b)
    exact h _ _ _ E6
  · have hi2 : σ.length ≤ i := by rw [E.len]; omega
    have e1 : ρ.set i (.own false (.dic (dicO P w) [(.tup [], .bl true)])) = ρ := List.set_eq_of_length_le (by omega)
    have e2 : σ.set i (some (V.ref p)) = σ := List.set_eq_of_length_le hi2
    rw [e1] at h
    rw [e2]
    rw [List.set_eq_of_length_le (by omega : ρ.length ≤ i), e2] at E4
    have E5 : EnvOk F (addO n p) ρ σ (upd (upd (upd H p (dicO P w p [])) q (.tup [])) p (dicO P w p [(.tuple [], q, .bl true)])) := by
      refine ⟨E4.len, fun j s e => ?_, E4.ownF, E4.apF, E4.sub, E4.ion, E4.al0, fun a ha => ?_, fun a o e k => ?_, fun r hr => ?_⟩
      · obtain ⟨o, h1, h2⟩ := E4.sl j s e
        refine ⟨o, h1, ?_⟩
        have x : ∀ a u, upd (upd H p (dicO P w p [])) q (.tup []) a = some u → ¬ (addO n p) a → upd (upd (upd H p (dicO P w p [])) q (.tup [])) p (dicO P w p [(.tuple [], q, .bl true)]) a = some u := fun a u e k => by rw [upd_ne (fun z => k (.inr z))]; exact e
        cases s with
        | no => trivial
        | is d =>
          obtain ⟨v, e1, e2⟩ := h2
          exact ⟨v, e1, Dn.extA x _ _ e2⟩
        | own c fs =>
          obtain ⟨m, e1, e2⟩ := h2
          subst e1
          refine ⟨m, rfl, ObOk.keep (x) _ _ e2 fun aF haF v hv => ?_⟩
          have q1 := (E.ownF j c fs m e h1).1 aF haF
          rw [upd_ne (fun z => E.not hp (by rw [← z]; exact n.le _ q1.1))]
          exact hv
      · by_cases z : a = p
        · rw [z, upd_same]; simp
        · rw [upd_ne z]; exact E4.al a ha
      · rw [upd_ne (fun z => by rw [z, E.h0 hp] at e; cases e)]
        exact E4.kp a o e k
      · have := E4.gh r hr
        refine ⟨?_, this.2.1, DnL.extA (fun a u e k => by rw [upd_ne (fun z => k (.inr z))]; exact e) _ _ this.2.2⟩
        rw [upd_ne (fun z => this.2.1 (.inr z))]
        exact this.1
    exact h _ _ _ ((E5.set (i := j) (.int a)).set (i := l) (.int b))
/-- an own object moved from one slot to another -/
theorem EnvOk.mvO {o : Ob} (E : EnvOk F n ρ σ H) (hs : ρ[s]? = some (.own false o)) (his : i ≠ s) (hk : o.at_ = none) : ∃ lc, σ[s]? = some (some (.ref lc)) ∧ EnvOk F n ((ρ.set s .no).set i (.own false o)) (σ.set i (some (.ref lc))) H := by
  obtain ⟨u, h1, lc, e1, ho⟩ := E.sl s _ hs
  subst e1
  have q := E.ownF s false o lc hs h1
  refine ⟨lc, h1, ?_⟩
  have hsl : s < ρ.length := (List.getElem?_eq_some_iff.mp hs).1
  refine ⟨by simp [E.len], fun j sl e => ?_, fun j b ds m e1 e2 => ?_, fun j k b c ds es m m' e1 e2 e3 e4 a ha ha' => ?_, E.sub, E.ion, E.al0, E.al, E.kp, E.gh⟩
  · by_cases hj : i = j
    · subst hj
      by_cases hl : i < ρ.length
      · rw [List.getElem?_set_self (by simpa using hl)] at e
        cases e
        exact ⟨_, by rw [List.getElem?_set_self (by rw [E.len]; exact hl)], lc, rfl, ho⟩
      · rw [List.getElem?_eq_none (by simp; omega)] at e
        cases e
    · rw [List.getElem?_set_ne hj] at e ⊢
      by_cases hk : s = j
      · subst hk
        rw [List.getElem?_set_self hsl] at e
        cases e
        exact ⟨_, h1, trivial⟩
      · rw [List.getElem?_set_ne hk] at e
        exact E.sl j sl e
  · by_cases hj : i = j
    · subst hj
      by_cases hl : i < ρ.length
      · rw [List.getElem?_set_self (by simpa using hl)] at e1
        rw [List.getElem?_set_self (by rw [E.len]; exact hl)] at e2
        cases e1
        cases e2
        exact ⟨q.1, q.2.1, Ob.kid_no hk⟩
      · rw [List.getElem?_eq_none (by simp; omega)] at e1
        cases e1
    · rw [List.getElem?_set_ne hj] at e1 e2
      by_cases hk : s = j
      · subst hk
        rw [List.getElem?_set_self hsl] at e1
        cases e1
      · rw [List.getElem?_set_ne hk] at e1
        exact E.ownF j b ds m e1 e2
  · have key : ∀ (j : Nat) (b : Bool) (ds : Ob) (m : Addr), ((ρ.set s .no).set i (.own false o))[j]? = some (.own b ds) → (σ.set i (some (.ref lc)))[j]? = some (some (.ref m)) → (j = i ∧ m = lc ∧ ds = o) ∨ (j ≠ i ∧ j ≠ s ∧ ρ[j]? = some (.own b ds) ∧ σ[j]? = some (some (.ref m))) := by
      intro j b ds m e1 e2
      by_cases hj : i = j
      · subst hj
        by_cases hl : i < ρ.length
        · rw [List.getElem?_set_self (by simpa using hl)] at e1
          rw [List.getElem?_set_self (by rw [E.len]; exact hl)] at e2
          cases e1
          cases e2
          exact .inl ⟨rfl, rfl, rfl⟩
        · rw [List.getElem?_eq_none (by simp; omega)] at e1
          cases e1
      · rw [List.getElem?_set_ne hj] at e1 e2
        by_cases hk : s = j
        · subst hk
          rw [List.getElem?_set_self hsl] at e1
          cases e1
        · rw [List.getElem?_set_ne hk] at e1
          exact .inr ⟨Ne.symm hj, Ne.symm hk, e1, e2⟩
    rcases key j b ds m e1 e3 with ⟨rfl, rfl, rfl⟩ | ⟨a1, a2, a3, a4⟩
    · rcases key k c es m' e2 e4 with ⟨rfl, _⟩ | ⟨b1, b2, b3, b4⟩
      · rfl
      · exact absurd (E.apF s k false c ds es m m' hs b3 h1 b4 a ha ha') (Ne.symm b2)
    · rcases key k c es m' e2 e4 with ⟨rfl, rfl, rfl⟩ | ⟨b1, b2, b3, b4⟩
      · exact absurd (E.apF s j false b es ds m' m hs a3 h1 a4 a ha' ha) (Ne.symm a2)
      · exact E.apF j k b c ds es m m' a3 b3 a4 b4 a ha ha'
/-- x, y = z, e: z's own object is x's from then on -/
theorem nx_parMv {o : Ob} (hs : ρ[s]? = some (.own false o)) (hij : i ≠ j) (his : i ≠ s) (hjs : j ≠ s) (h : Wp te ρ fun k ρ1 => ρ1 = ρ ∧ ∃ d, soft k = .da d ∧ Nx F (((ρ.set s .no).set i (.own false o)).set j (.is d)) D.nx) (hk0 : o.at_ = none := by rfl) :
    Nx F ρ (tPar i j (tCons (tVar s) (tCons te tNil)) D) := fun n σ H E => by
  obtain ⟨u, h1, lc, e1, e2⟩ := E.sl s _ hs
  subst e1
  refine ⟨_, h1, h F n σ H E _ fun v H1 k ρ1 f E1 x1 r1 => ?_⟩
  obtain ⟨rfl, d, hk, q⟩ := f
  have r2 := r1.soft E
  rw [hk] at r2
  refine ⟨_, _, rfl, ?_⟩
  obtain ⟨lc', h2, E3⟩ := E1.mvO hs his hk0
  rw [h1] at h2
  cases h2
  exact q _ _ _ (E3.set r2)
def frzO (o : Obj) (P : Program) (w : World) : DicK := fun a es => .frz o (dicO P w a es)
/-- for x in d: d is locked from then on -/
theorem nx_forD (hs : ρ[i]? = some (.own false (.dic (dicO P w) kvs))) (h : ∀ o, ForK F g t D (kvs.map (·.1)) (ρ.set i (.is (.dic (frzO o P w) kvs)))) : Nx F ρ (tFor (iDic P w (tVar i)) g t D) := fun n σ H E => by
  obtain ⟨u, h1, lc, e1, es, e2, e3⟩ := E.sl i _ hs
  subst e1
  have q1 := E.own i false _ lc hs h1
  refine ⟨_, h1, lc, es, rfl, e2, fun o => ?_⟩
  have x : Ext n H (upd H lc (.frz o (dicO P w lc es))) := fun a u e k => by
    rw [upd_ne (fun z => k (by rw [z]; exact q1.1))]
    exact e
  have E1 := E.mut (u := .frz o (dicO P w lc es)) (es := .dic (frzO o P w) kvs) hs h1 ⟨es, upd_same, DnE.ext x _ _ e3⟩
  have hil : i < ρ.length := (List.getElem?_eq_some_iff.mp hs).1
  obtain ⟨n', hsub, hn', E2⟩ := E1.freezeX (i := i) (ds := .dic (frzO o P w) kvs) (by rw [List.getElem?_set_self hil])
  rw [List.set_set] at E2
  have hnl : ¬ n' lc := hn' lc h1
  have hE : DnE n' (upd H lc (.frz o (dicO P w lc es))) es kvs := DnE.re (fun a _ _ z q => z (hsub a q)) _ _ (DnE.ext x _ _ e3)
  obtain ⟨Z, z0, zs, zd⟩ := h o
  have E3 := E2.wrap (a := lc) (o := .frz o (dicO P w lc es)) (vs := es.map fun q => V.ref q.2.1) (ds := kvs.map (·.1)) upd_same hnl hE.keys.1
  refine ⟨fun m k σ' H' => k = es.length - m ∧ m ≤ es.length ∧ At (F.w lc (.frz o (dicO P w lc es)) (es.map fun q => V.ref q.2.1) (kvs.map (·.1))) (Z m) σ' H', ⟨es.length, by simp, Nat.zero_le _, n', _, z0, E3⟩, ?_⟩
  rintro m k σ' H' ⟨rfl, hm, n1, ρ', z, E'⟩
  have hg := E'.gh _ List.mem_cons_self
  by_cases hlt : m < es.length
  · refine .inr ⟨⟨hg.1, hlt⟩, At (F.w lc (.frz o (dicO P w lc es)) (es.map fun q => V.ref q.2.1) (kvs.map (·.1))) (Z (m + 1)), fun σ2 H2 p => ⟨es.length - (m + 1), by omega, rfl, hlt, p⟩, ?_⟩
    rintro x H2 ⟨rfl, kk, b, v, he, rfl⟩
    obtain ⟨d, g1, g2⟩ := hg.2.2.getV m (.ref b) (by simp [he])
    obtain ⟨ρ1, hgt, hb⟩ := zs _ m d ρ' (.w lc _ _ _ .refl) g1 z
    exact hgt _ n1 σ' _ _ E' g2 _ fun σ2 E2 => hb n1 σ2 _ E2
  · have hl := hE.len
    refine .inl ⟨⟨hg.1, by omega⟩, ?_⟩
    have e : m = (kvs.map (·.1)).length := by rw [List.length_map]; omega
    rw [e] at z
    exact zd ρ' z n1 σ' H' E'.unwrap
end
end Dd
namespace Dd
open PySem PySem.Spec PyProof.Rows L2
section
variable {K : PySem.W.Frag} {P : Program} {w : World} {F G : Fx} {n : Ns} {ρ ρ' ρ0 ρ1 ρ2 ρ3 : List Sl} {te ta tb tc tk tv ty : TE} {tx tr : TA} {d e : Da} {k k1 k2 : Rk} {ds es : List Da} {i j l s : Nat} {H H0 : Hp} {σ : L2.St} {Φ : Rw → List Sl → Prop} {D : Ends} {t u : TS} {g : TG} {kvs : List (Da × Da)} {D0 : DicK}
/-- d[k] = v -/
theorem nx_putD (h : Wp tv ρ fun kv ρ1 => ∃ d b o, soft kv = .da d ∧ ρ1[i]? = some (.own b o) ∧ Wp ty ρ1 fun k2 ρ3 => ∃ ds kvs, soft k2 = .da (.tup ds) ∧ KyDa (.tup ds) ∧ ρ3[i]? = some (.own b (.dic (dicO P w) kvs)) ∧ (∀ p ∈ kvs, KyDa p.1) ∧ kvs.length < sizeLine ∧
      Nx F (ρ3.set i (.own b (.dic (dicO P w) (dputD kvs (.tup ds) d)))) D.nx) : Nx F ρ (sPutD P w K (tVar i) ty tv D) := fun n σ H E => h F n σ H E _ fun v H1 kv ρ1 f E1 x1 r1 => by
  obtain ⟨d, b, ob, hk, so, ho⟩ := f
  have r1 := r1.soft E
  rw [hk] at r1
  obtain ⟨u, h1, lc, e1, _⟩ := E1.sl i _ so
  subst e1
  refine ⟨_, h1, ho F n σ H1 E1 _ fun y H2 k2 ρ3 f2 E2 x2 r2 => ?_⟩
  obtain ⟨ds, kvs, hk2, kd, s, hky, hl, q⟩ := f2
  have r2 := r2.soft E1
  rw [hk2] at r2
  obtain ⟨u2, g1, lc2, e2, es, g2, g3⟩ := E2.sl i _ s
  subst e2
  rw [h1] at g1
  cases g1
  have r2' : Dn n H2 y (.tup ds) := r2
  obtain ⟨bb, hb⟩ : ∃ bb, y = .ref bb := by
    cases r2' with
    | tup _ _ _ => exact ⟨_, rfl⟩
  subst hb
  refine ⟨lc, bb, toPy (.tup ds), es, rfl, rfl, g2, g3.ky hky, by rw [g3.len]; exact hl, ⟨kd.ky, kd.dp, Dn.dp _ _ kd.pl r2'⟩, ?_⟩
  have q1 := E2.own i b _ lc s h1
  have x : Ext n H2 (upd H2 lc (dicO P w lc (putE es (toPy (.tup ds)) bb v))) := fun a u e k => by
    rw [upd_ne (fun z => k (by rw [z]; exact q1.1))]
    exact e
  exact q n _ _ (E2.mut s h1 ⟨_, upd_same, DnE.ext x _ _ (g3.put r2' (Dn.ext x2 _ _ r1))⟩)
theorem DnL.perm {vs vs' : List V} (p : vs'.Perm vs) : ∀ {ds : List Da}, DnL n H vs ds → ∃ ds', ds'.Perm ds ∧ DnL n H vs' ds' := by
  induction p with
  | nil => exact fun {ds} h => ⟨ds, .refl _, h⟩
  | @cons x l1 l2 _ ih =>
    intro ds h
    cases h with
    | @cons _ _ d ds' a b =>
      obtain ⟨es, p1, p2⟩ := ih b
      exact ⟨d :: es, p1.cons d, .cons a p2⟩
  | swap x y l =>
    intro ds h
    cases h with
    | cons a b =>
      cases b with
      | cons b c => exact ⟨_, .swap _ _ _, .cons b (.cons a c)⟩
  | trans _ _ ih1 ih2 =>
    intro ds h
    obtain ⟨es, p1, q1⟩ := ih2 h
    obtain ⟨fs, p2, q2⟩ := ih1 q1
    exact ⟨fs, p2.trans p1, q2⟩
/-- sorted(d): its keys in some order -/
theorem wp_srtDic (h : WpA tx ρ fun ks ρ1 => ∃ i b kvs, ks = [.sl i] ∧ ρ1[i]? = some (.own b (.dic (dicO P w) kvs)) ∧ (∀ p ∈ kvs, KyDa p.1) ∧ PySem.W.AllAlike (kvs.map fun p => toPy p.1) ∧ (kvs.length ≤ 1 ∨ ∀ p ∈ kvs, ∃ x r, toPy p.1 = .tuple (x :: r)) ∧
    ∀ ds : List Da, ds.Perm (kvs.map (·.1)) → Φ (.nw ds) ρ1) : Wp (tCB (rSortDic K P w) tx) ρ Φ := fun F n σ H E Q g =>
  h F n σ H E _ fun vs H1 ks ρ1 f E1 x1 r1 => by
    obtain ⟨i, b, kvs, rfl, s, hk, hal, hso, q⟩ := f
    obtain ⟨v, rfl, r⟩ := rk1 r1
    obtain ⟨u, h1, lc, e1, es, e2, e3⟩ := E1.sl i _ s
    subst e1
    have r' : σ[i]? = some (some v) := r
    rw [h1] at r'
    cases r'
    refine ⟨lc, es, rfl, e2, e3.ky hk, ?_, ?_, fun bs p pb hp => ?_⟩
    · rw [e3.keys.2]; exact hal
    · rcases hso with z | z
      · exact .inl (by rw [e3.len]; exact z)
      · refine .inr fun q hq => ?_
        have : q.1 ∈ es.map (·.1) := List.mem_map_of_mem hq
        rw [e3.keys.2] at this
        obtain ⟨p, hp, e⟩ := List.mem_map.mp this
        rw [← e]
        exact z p hp
    · have hd := e3.keys.1
      have hm : (bs.map V.ref).Perm (es.map fun q => V.ref q.2.1) := by
        have := pb.map V.ref
        rw [List.map_map] at this
        exact this
      obtain ⟨ds, p1, p2⟩ := DnL.perm hm hd
      exact mk_o E1 p2 (fun v H' E' x' r' => g v H' _ ρ1 (q ds p1) E' (x1.trans x') (r'.pre E1 x1)) p hp
/-- list(d): its keys in their order -/
theorem wp_listDic (h : WpA tx ρ fun ks ρ1 => ∃ i b kvs, ks = [.sl i] ∧ ρ1[i]? = some (.own b (.dic (dicO P w) kvs)) ∧ (∀ p ∈ kvs, KyDa p.1) ∧ Φ (.nw (kvs.map (·.1))) ρ1) : Wp (tCB (rListDic K P w) tx) ρ Φ := fun F n σ H E Q g =>
  h F n σ H E _ fun vs H1 ks ρ1 f E1 x1 r1 => by
    obtain ⟨i, b, kvs, rfl, s, hk, q⟩ := f
    obtain ⟨v, rfl, r⟩ := rk1 r1
    obtain ⟨u, h1, lc, e1, es, e2, e3⟩ := E1.sl i _ s
    subst e1
    have r' : σ[i]? = some (some v) := r
    rw [h1] at r'
    cases r'
    refine ⟨lc, es, rfl, e2, e3.ky hk, fun p hp => ?_⟩
    have hd := e3.keys.1
    rw [show es.map (fun q => V.ref q.2.1) = (es.map (·.2.1)).map V.ref by rw [List.map_map]; rfl] at hd
    exact mk_o E1 hd (fun v H' E' x' r' => g v H' _ ρ1 q E' (x1.trans x') (r'.pre E1 x1)) p hp
end
/-! ## a whole number not in a list or a tuple -/
def rNinU (K : PySem.W.Frag) : R2 := fun x y H Q => rNotInD K x y H Q ∨ rIn K true x y H Q
section
variable {X : Cx} {K : PySem.W.Frag}
theorem op_ninU {k : Nat} (hr : Room k X.A) : OpR X (compareOp .NotIn) (rNinU X.K) := OpR.or (op_ninR hr) op_notIn_seq
theorem op_ninUK (m : KIs K) (h : X.K = K) {k : Nat} (hr : Room k X.A) : OpR X (compareOp .NotIn) (rNinU K) := h ▸ op_ninU hr
end
section
variable {K : PySem.W.Frag} {F : Fx} {n : Ns} {ρ : List Sl} {d e : Da} {k k1 k2 : Rk} {ds es : List Da} {i : Int}
theorem op_nin'' (s1 : see ρ k1 = some d) (s2 : see ρ k2 = some (.lst es)) (f1 : Fit d) (f2 : Fit (.lst es)) : Op (rNinU K) ρ k1 k2 (.da (.bl (!es.any fun e => eqD e d))) := fun F n σ H x y Q E r1 r2 q => .inl (op_nin' (K := K) s1 s2 f1 f2 F n σ H x y Q E r1 r2 q)
theorem op_ninz {ns : List Int} (s1 : see ρ k1 = some (.int i)) (s2 : see ρ k2 = some d) (q2 : Sq d (inz ns)) : Op (rNinU K) ρ k1 k2 (.da (.bl (!decide (i ∈ ns)))) := fun F n σ H x y Q E r1 r2 q => by
  obtain ⟨a, us, rfl, h1, _, h2⟩ := peekSq (K := K) E r2 s2 q2
  rw [h2.inz] at h1
  refine .inr ⟨a, _, rfl, h1, ?_, ?_, ?_⟩
  · rw [peekI E r1 s1]; rfl
  · rw [List.all_map]
    exact List.all_eq_true.mpr fun _ _ => rfl
  · rw [peekI E r1 s1, inV_ints]
    exact q _ _ E .refl (.bl _)
end
/-! ## sets of rows of whole numbers: dicts with True -/
abbrev keyZ (xs : List Int) : Da := .tup (inz xs)
def keysD (L : List (List Int)) : List (Da × Da) := L.map fun xs => (keyZ xs, .bl true)
theorem toPys_inzI : ∀ xs : List Int, toPys (inz xs) = xs.map .int
  | [] => rfl
  | x :: xs => by
    show toPys (.int x :: inz xs) = _
    rw [toPys, toPys_inzI xs]
    rfl
theorem toPy_keyZ (xs : List Int) : toPy (keyZ xs) = .tuple (xs.map .int) := by
  unfold keyZ
  rw [toPy, toPys_inzI]
theorem keyZ_inj {xs ys : List Int} (h : toPy (keyZ xs) = toPy (keyZ ys)) : xs = ys := by
  rw [toPy_keyZ, toPy_keyZ] at h
  injection h with h
  exact (List.map_inj_right (fun x y z => by injection z)).mp h
theorem kyDs_ints : ∀ xs : List Int, kyDs (xs.map .int) = true
  | [] => rfl
  | x :: xs => by rw [List.map_cons, kyDs, kyDs_ints xs, kyD]; rfl
theorem plains_inz : ∀ xs : List Int, plains (inz xs) = true
  | [] => rfl
  | x :: xs => by
    show plains (.int x :: inz xs) = true
    rw [plains, plains_inz xs]
    rfl
theorem KyDa.keyZ (xs : List Int) : KyDa (keyZ xs) := by
  refine ⟨by unfold Dd.keyZ; rw [plain]; exact plains_inz xs, by rw [toPy_keyZ, kyD]; exact kyDs_ints xs, ?_⟩
  rw [toPy_keyZ, PyData.depth, PySem.W.depth_ints]
  omega
theorem dputD_keysD (L : List (List Int)) (x : List Int) : dputD (keysD L) (keyZ x) (.bl true) = keysD (if x ∈ L then L else L ++ [x]) := by
  have h1 : ((keysD L).any fun p => decide (toPy p.1 = toPy (keyZ x))) = decide (x ∈ L) := by
    unfold keysD
    rw [List.any_map]
    rw [Bool.eq_iff_iff, List.any_eq_true, decide_eq_true_iff]
    constructor
    · rintro ⟨y, hy, e⟩
      have e := of_decide_eq_true e
      rw [← keyZ_inj e]
      exact hy
    · intro h
      exact ⟨x, h, decide_eq_true rfl⟩
  unfold dputD
  rw [h1]
  by_cases h : x ∈ L
  · rw [if_pos (decide_eq_true h), if_pos h]
    unfold keysD
    rw [List.map_map]
    refine List.map_congr_left fun y hy => ?_
    show (if toPy (keyZ y) = toPy (keyZ x) then (keyZ y, Da.bl true) else (keyZ y, .bl true)) = _
    split <;> rfl
  · rw [if_neg (by simpa using h), if_neg h]
    simp [keysD]
end Dd
namespace Dd
open PySem PySem.Spec PyProof.Rows L2
/-! ## the dicts' terms by their shape; what is local says which walks and calls speak of them -/
structure PwIs (P : Program) (w : World) : Prop where
  tt : True
section
variable {X : Cx} {P : Program} {w : World} {K : PySem.W.Frag} {o i e value kx vx tg : Expr} {pos pos' tpos : Pos} {td ty tv tk : TE} {k : Nat}
theorem units_of {A : Around} (hr : Room k A) : A.units ≤ 9700 := by
  have := hr.un
  unfold cLine at this
  omega
theorem pe_newDK (m : PwIs P w) (h1 : X.prog = P) (h2 : X.w = w) : PE X (.Dict [] [] pos) (tNewD P w) := by
  subst h1 h2
  exact pe_newD
theorem pe_dsp1K (m : PwIs P w) (m2 : KIs K) (h1 : X.prog = P) (h2 : X.w = w) (h3 : X.K = K) (hr : Room k X.A) (hk : PE X kx tk) (hv : PE X vx tv) : PE X (.Dict [some kx] [vx] pos) (tDsp1 P w K tk tv) := by
  subst h1 h2 h3
  exact pe_dsp1 (units_of hr) hk hv
theorem ps_putDK (m : PwIs P w) (m2 : KIs K) (h1 : X.prog = P) (h2 : X.w = w) (h3 : X.K = K) (hr : Room k X.A) (ho : PE X o td) (hi : PE X i ty) (hv : PE X value tv) (hs : swapsWith value (some (.Subscript o i pos')) pos.line X.env = pure false) :
    PS X (.Assign [.Subscript o i pos'] value pos) (sPutD P w K td ty tv) := by
  subst h1 h2 h3
  exact ps_putD (units_of hr) ho hi hv hs
theorem pi_dicK (m : PwIs P w) (h1 : X.prog = P) (h2 : X.w = w) (he : PE X e td) : PI X tg e (iDic P w td) := by
  subst h1 h2
  exact pi_dic he
theorem call_sortDicK (m : PwIs P w) (m2 : KIs K) (h1 : X.prog = P) (h2 : X.w = w) (h3 : X.K = K) (hc : X.calm = true) (hr : Room k X.A) : CallR X (.builtin "sorted") (rSortDic K P w) := by
  subst h1 h2 h3
  exact call_sortDic hc (units_of hr)
theorem call_listDicK (m : PwIs P w) (m2 : KIs K) (h1 : X.prog = P) (h2 : X.w = w) (h3 : X.K = K) (hc : X.calm = true) : CallR X (.type "list") (rListDic K P w) := by
  subst h1 h2 h3
  exact call_listDic hc
end
end Dd
namespace Dd
open PySem PySem.Spec PyProof.Rows L2
/-! ## xs.remove(x), x a datum of any depth -/
def rRemD (K : PySem.W.Frag) : V → List V → Hp → VK → Prop := fun x xs H Q => ∃ (l : Addr) (y : V) (vs : List V) (d : PyData) (ds : List PyData) (j : Nat) (z : PyData), x = V.ref l ∧ xs = [y] ∧ H l = some (.lst vs) ∧ DpAll K H vs ds ∧ Dp K H y d ∧
  SeqAt.shaped (.list ds) = true ∧ SeqAt.shaped d = true ∧ ds[j]? = some z ∧ PyData.eqv z d = true ∧ (∀ (m : Nat) (z' : PyData), m < j → ds[m]? = some z' → PyData.eqv z' d = false) ∧ Q .non (upd H l (.lst (vs.eraseIdx j)))
theorem eraseIdx_mapG {α β : Type} (f : α → β) : ∀ (l : List α) (j : Nat), (l.map f).eraseIdx j = (l.eraseIdx j).map f
  | [], j => by simp
  | a :: r, 0 => by simp
  | a :: r, j + 1 => by
    have ih := eraseIdx_mapG f r j
    simp [ih]
section
variable {X : Cx}
theorem mt_removeD (hu : X.A.units + 65 < cLine) : MtM X "list.remove" (rRemD X.K) := by
  intro pins s σ H x xs v us Q I rx rxs h
  obtain ⟨l, y, vs, d, ds, j, z, rfl, rfl, hH, ha, hy, sl, sd, hz, hzj, hno, q⟩ := h
  cases rx
  obtain ⟨uy, rfl, ry⟩ := rxs.one
  obtain ⟨bs, r1⟩ := Dp.reads I d y uy hy ry
  have hxs : PyData.canLayAll0 ds = true := SeqAt.canLay_of_shaped sl
  have hroom : X.A.units + 1 + min (PyData.depthAll ds) d.depth < cLine := room_in_shaped sd hu
  obtain ⟨zz, its, n, r, hl, e⟩ := I.lstM hH
  obtain ⟨as, h4⟩ := Dp.readsAll I ds _ its ha r
  have hn : its.length = ds.length := SeqAt.ReadsAll.length ds its as h4
  have hmap : its.map (SeqAt.readOf s.heap) = ds := SeqAt.readsAll_map ds its as hxs h4
  obtain ⟨hjd, _⟩ := List.getElem?_eq_some_iff.mp hz
  have hj : j < its.toArray.size := by rw [List.size_toArray]; omega
  have at_ : ∀ (m : Nat) (hm : m < its.toArray.size) (z' : PyData), ds[m]? = some z' → SeqAt.readOf s.heap its.toArray[m] = z' := by
    intro m hm z' hz'
    have hml : m < its.length := by simpa using hm
    rw [← hmap, List.getElem?_map, List.getElem?_eq_getElem hml] at hz'
    have e1 : SeqAt.readOf s.heap its[m] = z' := Option.some.inj (show some (SeqAt.readOf s.heap its[m]) = some z' from hz')
    simpa using e1
  refine call_meets PySem.F.slot_list_remove ⟨_, e, rfl⟩ PySem.F.entry_list_remove (PySem.F.args_list_remove_2 _ _)
    (SeqAt.list_removeAt l its.toArray n _ _ uy (fun u => PyData.eqv (SeqAt.readOf s.heap u) d) j hj ?_ ?_ (by rw [List.size_toArray]; omega)) ⟨e, SeqAt.items_eqAt (vs := its.toArray) (show ReadsAll s.heap its.toArray.toList ds as from h4) r1 hxs (SeqAt.canLay_of_shaped sd) hroom, ?_⟩
  · rw [at_ j hj z hz]; exact hzj
  · intro m hm hmj
    have hml : m < ds.length := by rw [List.size_toArray] at hm; omega
    rw [at_ m hm _ (List.getElem?_eq_getElem hml)]
    exact hno m _ hmj (List.getElem?_eq_getElem hml)
  · have rr := r.eraseIdx j
    refine ⟨.non, _, I.lset (its' := its.eraseIdx j) (t' := s.toks) hH e ?_ rr ?_, rfl, q⟩
    · show its.toArray.eraseIdxIfInBounds j = (its.eraseIdx j).toArray
      rw [List.eraseIdxIfInBounds_toArray]
    · rw [List.length_eraseIdx]
      split <;> omega
theorem mt_removeDK {K : PySem.W.Frag} (m : KIs K) (h : X.K = K) {k : Nat} (hr : Room k X.A) : MtM X "list.remove" (rRemD K) := h ▸ mt_removeD (by have := hr.un; omega)
end
section
variable {K : PySem.W.Frag} {F : Fx} {n : Ns} {ρ ρ' ρ0 ρ1 ρ2 : List Sl} {te ta tb : TE} {tx tr : TA} {d e : Da} {k k1 k2 : Rk} {ds es : List Da} {i j : Nat} {H H0 : Hp} {σ : L2.St} {Φ : Rw → List Sl → Prop}
/-- xs.remove(p), xs pairs of whole numbers -/
theorem wp_removeP {b : Bool} (s0 : ρ[i]? = some (.own b (.lst es))) (h : WpA tx ρ fun ks ρ1 => ∃ k p ps, ks = [k] ∧ see ρ1 k = some (.tup [.int p.1, .int p.2]) ∧ ρ1[i]? = some (.own b (.lst (prz ps))) ∧ p ∈ ps ∧ Φ (.da .non) (ρ1.set i (.own b (.lst (prz (ps.erase p)))))) : Wp (tBM K "list" (rRemD K) (tVar i) tx) ρ Φ := fun F n σ H E Q g => by
  obtain ⟨l, vs, h1, h2, h3, h4⟩ := own_at E s0
  refine ⟨_, h1, .inl ⟨rfl, vs, .inl (.inl h2)⟩, h F n σ H E _ fun us H1 ks ρ1 f E1 x1 r1 => ?_⟩
  obtain ⟨k, p, ps, rfl, s1, s, z, q⟩ := f
  obtain ⟨v, rfl, r⟩ := rk1 r1
  obtain ⟨l', ws, g1, g2, g3, g4⟩ := own_at E1 s
  rw [h1] at g1
  cases g1
  have z1 : ps.idxOf p < ps.length := List.idxOf_lt_length_of_mem z
  have e : ps.erase p = ps.eraseIdx (ps.idxOf p) := List.erase_eq_eraseIdx_of_idxOf rfl
  have hp := prz_fit ps
  have hpl : plains (prz ps) = true := hp.pl
  have hsh := hp.sh
  rw [toPy, toPys_prz] at hsh
  have hd := DnL.dp (K := K) (prz ps) ws hpl g3
  rw [toPys_prz] at hd
  have hy := peekE (K := K) E1 r s1 (pr_fit p).pl
  have hys := (pr_fit p).sh
  rw [toPy_pr] at hy hys
  have hdn : Dn n H1 v (.tup [.int p.1, .int p.2]) := peekD E1 r s1 (fun o e => by cases o <;> cases e)
  refine ⟨l, v, ws, _, _, ps.idxOf p, .tuple [.int p.1, .int p.2], rfl, rfl, g2, hd, hy, hsh, hys, ?_, ?_, fun m z' hm hz' => ?_, ?_⟩
  · rw [List.getElem?_map, List.getElem?_eq_getElem z1, List.getElem_idxOf z1]
    rfl
  · have := eqD_pr p p
    unfold eqD at this
    rw [toPy_pr] at this
    rw [this]
    exact decide_eq_true rfl
  · rw [List.getElem?_map] at hz'
    cases hm2 : ps[m]? with
    | none => rw [hm2] at hz'; cases hz'
    | some q' =>
      rw [hm2] at hz'
      cases hz'
      have := eqD_pr q' p
      unfold eqD at this
      rw [toPy_pr, toPy_pr] at this
      rw [this]
      refine decide_eq_false fun e2 => ?_
      have h5 := List.not_of_lt_findIdx (p := fun x => x == p) hm
      have h6 := (List.getElem?_eq_some_iff.mp hm2)
      obtain ⟨h7, h8⟩ := h6
      rw [h8, e2] at h5
      simp at h5
  · have er := g3.erase (ps.idxOf p)
    rw [show (prz ps).eraseIdx (ps.idxOf p) = prz (ps.erase p) by rw [e]; unfold prz; exact (eraseIdx_mapG _ ps _)] at er
    exact g _ _ _ _ q (mutL E1 s h1 g2 er) (x1.trans (ext_mut g4)) .non
end
end Dd
namespace Dd
open PySem PySem.Spec PyProof.Rows L2
/-! ## a, b = a list; sorted of a tuple of pairs; sorted of a list of lists of one kind -/
theorem tg_unl {K : PySem.W.Frag} {ρ ρ1 : List Sl} {ds : List Da} {gs : TGs} {m : Nat} (h : Tgs gs ρ ds ρ1) (hm : ds.length = m) : Tg (gUnl K m gs) ρ (.lst ds) ρ1 := fun F n σ H v E hd Q q => by
  cases hd with
  | lst a b c => exact ⟨_, _, rfl, .inl (.inl a), by rw [c.length]; exact hm, h F n σ H _ E c Q q⟩
section
variable {X : Cx} {K : PySem.W.Frag} {pos : Pos}
theorem pg_unlK {es : List Expr} {k : Nat} {t : TGs} {n : Nat} (m : KIs K) (h0 : X.K = K) (hc : X.calm = true) (h : PGs X es t)
    (hn : (assignEach es X.env).length = n := by rfl) (hst : (assignEach es X.env).findIdx? (·.1) = none := by rfl) : PG X (.Tuple es k pos) (gUnl K n t) := h0 ▸ pg_unl hc h hn hst
def rSortTP (K : PySem.W.Frag) : List V → Hp → VK → Prop := fun vs H Q => ∃ (a : Addr) (xs : List V) (k : V → Int × Int), vs = [V.ref a] ∧ SqT K H a xs ∧ (∀ x ∈ xs, ∃ t, x = V.ref t ∧ H t = some (.tup [.int (k x).1, .int (k x).2])) ∧
  ∀ ys p, SrtO.Srtd (ltP k) ys → ys.Perm xs → H p = none → Q (.ref p) (upd H p (.lst ys))
theorem cr_sortTP : CallR X (.builtin "sorted") (rSortTP X.K) := by
  intro pins s σ H vs us Q I r h
  obtain ⟨a, xs, k, rfl, hs, hx, q⟩ := h
  obtain ⟨its, rv, ht, hz⟩ := I.tuple hs
  rw [Vals.ref1 r]
  obtain ⟨f1, f2⟩ := refs_back rv fun x m => by
    obtain ⟨t, e, _⟩ := hx x m
    exact ⟨t, e⟩
  have hp : ∀ v ∈ its, Srt.IsPair s.heap v (k (backV v)).1 (k (backV v)).2 := fun v hv => by
    obtain ⟨t, rfl⟩ := f2 v hv
    obtain ⟨t', e, ht⟩ := hx (V.ref t) (by rw [f1]; exact List.mem_map.mpr ⟨_, hv, rfl⟩)
    cases e
    obtain ⟨_, its2, r2, o, ho, hc, n, hd⟩ := I.hok _ _ ht
    obtain ⟨u1, u2, rfl, ⟨t1, rfl⟩, ⟨t2, rfl⟩⟩ := vals2 r2
    exact ⟨t, o, t1, t2, n, rfl, ho, hc, hd⟩
  refine sort_tup (SrtO.swo_lex fun u => k (backV u)) ht (by rw [← rv.length]; exact hz) (fun h2 g a' hg old => ?_) fun out h1 h2 => ?_
  · exact SrtO.pairs_sortableO (by omega) (fun v hv => by
      obtain ⟨t, o, t1, t2, n, e, ho, hc, hd⟩ := hp v hv
      exact ⟨t, o, t1, t2, n, e, (old _ _ ho).2, hc, hd⟩) fun o e => by
      rw [hg] at e
      cases e
      exact fun z => by
        injection z with z3
        exact absurd z3 (by decide)
  · have pm : out.Perm its := h2.perm
    have rf : ∀ u ∈ out, ∃ b, u = Value.ref b := fun u hu => f2 u (pm.mem_iff.mp hu)
    have pb : (out.map backV).Perm xs := by
      rw [f1]
      exact pm.map backV
    obtain ⟨ep, he'⟩ := PyProof.Rows.sortedAll_at s.heap its out.toArray
    have hlen : (out.map backV).length ≤ sizeLine := by
      rw [pb.length_eq]
      exact hz
    exact ⟨.ref _, upd H (s.heap.objs.size + 1) (.lst (out.map backV)), I.laid (t' := s.toks) (fun _ _ => PyProof.Rows.sortedAll_old) (Nat.le_succ _) ⟨hlen, out, ep, vals_back rf, he'⟩, rfl, q _ _ (SrtO.srtd_map h1) pb (I.hok.fresh (Nat.le_succ _))⟩
def rSortDa (K : PySem.W.Frag) : List V → Hp → VK → Prop := fun vs H Q => ∃ (a : Addr) (xs : List V) (ds : List PyData), vs = [V.ref a] ∧ SqL K H a xs ∧ (∀ x ∈ xs, ∃ t, x = V.ref t) ∧ DpAll K H xs ds ∧ PySem.W.AllAlike ds ∧ PySem.W.Sortable ds ∧ (∀ d ∈ ds, d.depth ≤ 6) ∧
  ∀ ys p, ys.Perm xs → H p = none → Q (.ref p) (upd H p (.lst ys))
theorem cr_sortDa (hu : X.A.units ≤ 9700) : CallR X (.builtin "sorted") (rSortDa X.K) := by
  intro pins s σ H vs us Q I r h
  obtain ⟨a, xs, ds, rfl, hs, hx, hd, hal, hso, hdp, q⟩ := h
  obtain ⟨its, rv, hl, hz⟩ := I.list hs
  rw [Vals.ref1 r]
  obtain ⟨f1, f2⟩ := refs_back rv hx
  obtain ⟨as, hr⟩ := Dp.readsAll I ds _ its hd rv
  have hr2 : ReadsAll s.heap its (ds.map id) as := by rw [List.map_id]; exact hr
  have er := PySem.W.readsAll_each id hr2
  have hlen : its.length = ds.length := er.length
  have hal2 : PySem.W.AllAlike (ds.map id) := by rw [List.map_id]; exact hal
  have hso2 : PySem.W.Sortable (ds.map id) := by rw [List.map_id]; exact hso
  have er' : PySem.W.EachIs (fun v b => ∃ as, Reads (PySem.W.sortingHeap (PySem.W.copyHeap s.heap its) (s.heap.objs.size + 1) its) v (id b) as) its ds := er.mono fun _ _ ⟨as, r⟩ => ⟨as, PyProof.Rows.Reads.keeps (fun _ _ => PySem.W.sorting_copy_old) r⟩
  refine PySem.W.sorted_vals hl.isList (PySem.W.SortsAt.data (s := { s with heap := PySem.W.sortingHeap (PySem.W.copyHeap s.heap its) (s.heap.objs.size + 1) its }) (PySem.W.each_map (R := fun v d => ∃ as, Reads (PySem.W.sortingHeap (PySem.W.copyHeap s.heap its) (s.heap.objs.size + 1) its) v d as) id er') hal2 hso2 (PySem.W.bound_map fun d hd => ?_)) (by rw [← rv.length]; exact hz) ?_
  · have := hdp d hd
    show X.A.units + 1 + 1 + (id d).depth < cLine
    unfold cLine
    simp only [id]
    omega
  · generalize hκ : PySem.W.dataKind _ _ = κ
    have pm : (PySem.W.sortVals κ false its its).Perm its := sortVals_perm its
    have rf : ∀ u ∈ PySem.W.sortVals κ false its its, ∃ b, u = Value.ref b := fun u hu => f2 u (pm.mem_iff.mp hu)
    have pb : ((PySem.W.sortVals κ false its its).map backV).Perm xs := by
      rw [f1]
      exact pm.map backV
    obtain ⟨ep, he'⟩ := PyProof.Rows.sortedAll_at s.heap its (PySem.W.sortVals κ false its its).toArray
    have hlen2 : ((PySem.W.sortVals κ false its its).map backV).length ≤ sizeLine := by
      rw [pb.length_eq]
      exact hz
    exact ⟨.ref _, upd H (s.heap.objs.size + 1) (.lst ((PySem.W.sortVals κ false its its).map backV)), I.laid (t' := s.toks) (fun _ _ => PyProof.Rows.sortedAll_old) (Nat.le_succ _) ⟨hlen2, _, ep, vals_back rf, he'⟩, rfl, q _ _ pb (I.hok.fresh (Nat.le_succ _))⟩
theorem cr_sortTPK (m : KIs K) (h : X.K = K) : CallR X (.builtin "sorted") (rSortTP K) := h ▸ cr_sortTP
theorem cr_sortDaK {k : Nat} (m : KIs K) (h : X.K = K) (hr : Room k X.A) : CallR X (.builtin "sorted") (rSortDa K) := h ▸ cr_sortDa (units_of hr)
end
section
variable {K : PySem.W.Frag} {F : Fx} {n : Ns} {ρ ρ1 : List Sl} {tx : TA} {Φ : Rw → List Sl → Prop} {k : Rk}
theorem b_srtTP {ps : List (Int × Int)} (s : see ρ k = some (.tup (prz ps))) : Cb (rSortTP K) ρ [k] (.nw (prz (srtP ps))) := fun F n σ H vs Q E r1 q => by
  obtain ⟨v, rfl, r⟩ := rk1 r1
  obtain ⟨a, us, rfl, h1, _, h2⟩ := peekT E r s
  obtain ⟨e1, e2⟩ := prz_keys h2
  refine ⟨a, us, keyAt H, rfl, .inl (.inl h1), fun x hx => ?_, fun ys p hs hb hp => ?_⟩
  · obtain ⟨t, e, h3, _⟩ := e2 x hx
    exact ⟨t, e, h3⟩
  · have hm : ∀ x ∈ ys, x ∈ us := fun x hx => hb.mem_iff.mp hx
    have e3 : ys.map (keyAt H) = srtP ps := by
      refine srtP_uniq ?_ ?_ (srtP_sorted ps)
      · have := hb.map (keyAt H)
        rw [e1] at this
        exact this.trans (srtP_perm ps).symm
      · refine List.pairwise_map.mpr (hs.imp fun {x y} h => ?_)
        have h4 := SrtO.lexB_no.mp h
        unfold LexLe
        omega
    have h5 := dn_keys (n := n) (H := H) (ys := ys) fun x hx => e2 x (hm x hx)
    rw [e3] at h5
    exact mk_o E h5 q p hp
theorem dnl_refs {H : Hp} : ∀ {ds : List Da} {us : List V}, DnL n H us ds → (∀ d ∈ ds, ∃ es, d = Da.lst es) → ∀ x ∈ us, ∃ t, x = V.ref t
  | [], _, h, _, x, hx => by cases h; cases hx
  | d :: ds, _, h, hl, x, hx => by
    cases h with
    | cons h1 h2 =>
      rcases List.mem_cons.mp hx with e | e
      · obtain ⟨es, rfl⟩ := hl _ List.mem_cons_self
        cases h1 with
        | lst a b c => exact ⟨_, e⟩
      · exact dnl_refs h2 (fun d hd => hl d (List.mem_cons_of_mem _ hd)) x e
/-- sorted(a list of lists): they in some order -/
theorem wp_srtDa (h : WpA tx ρ fun ks ρ1 => ∃ k ds, ks = [k] ∧ see ρ1 k = some (.lst ds) ∧ (∀ d ∈ ds, ∃ es, d = Da.lst es) ∧ plains ds = true ∧ PySem.W.AllAlike (toPys ds) ∧ PySem.W.Sortable (toPys ds) ∧ (∀ d ∈ toPys ds, d.depth ≤ 6) ∧
    ∀ ds' : List Da, ds'.Perm ds → Φ (.nw ds') ρ1) : Wp (tCB (rSortDa K) tx) ρ Φ := fun F n σ H E Q g =>
  h F n σ H E _ fun vs H1 ks ρ1 f E1 x1 r1 => by
    obtain ⟨k, ds, rfl, s, hl, hp, ha, hs, hd, q⟩ := f
    obtain ⟨v, rfl, r⟩ := rk1 r1
    obtain ⟨a, us, rfl, h1, h2⟩ := peekL E1 r s
    refine ⟨a, us, toPys ds, rfl, .inl (.inl h1), fun x hx => ?_, DnL.dp ds us hp h2, ha, hs, hd, fun ys p pm hp => ?_⟩
    · exact dnl_refs h2 hl x hx
    · obtain ⟨ds', p1, p2⟩ := DnL.perm pm h2
      exact mk_o E1 p2 (fun v H' E' x' r' => g v H' _ ρ1 (q ds' p1) E' (x1.trans x') (r'.pre E1 x1)) p hp
end
end Dd
namespace Dd
open PySem PySem.Spec PyProof.Rows L2
theorem DnL.flat {n m : Ns} {H : Hp} : ∀ {us : List V} {r : List Da}, DnL n H us r → (∀ d ∈ r, Dd.flat d = true) → DnL m H us r
  | _, [], h, _ => by cases h; exact .nil
  | _, d :: r, h, hf => by
    cases h with
    | cons h1 h2 => exact .cons (h1.flat (hf d List.mem_cons_self)) (DnL.flat h2 fun d hd => hf d (List.mem_cons_of_mem _ hd))
section
variable {α : Type} {F : Fx} {ρ : List Sl} {tx : TA} {E : XK} {Φ : Rw → List Sl → Prop}
/-- an own object is an argument; the answer is a new list of plain values -/
theorem wp_callOS {enc : α → List Da} {pre : α → Prop} {post : α → List Da → Prop} (h : WpA tx ρ fun ks ρ1 => ∃ x, Sees ρ1 ks (enc x) ∧ pre x ∧ (∀ r, post x r → ∀ d ∈ r, flat d = true) ∧ ∀ r, post x r → Φ (.nw r) ρ1) : Wp (tCall (SpO enc pre post) [] E tx) ρ Φ := fun F n σ H E0 Q g =>
  h F n σ H E0 _ fun vs H1 ks ρ1 f E1 x1 r1 => by
    obtain ⟨x, hs, hp, hf, q⟩ := f
    rw [List.append_nil]
    exact ⟨letgoA n, x, fun a h => E1.al a h.1, sees_rel E1 hs r1, hp, fun p us H' r hr hp' gr h1 h2 => g _ H' _ ρ1 (q r hr) (E1.grow gr) (x1.trans gr.ext) ⟨p, us, rfl, fresh_pre E1 x1 hp', E1.more hp' gr (by rw [h1]; simp), h1, h2.flat (hf r hr)⟩⟩
end
end Dd
namespace Dd
open PySem PySem.Spec PyProof.Rows L2
/-! ## min of three, a slice whose step is reckoned -/
def rMin3 : List V → Hp → VK → Prop := fun xs H Q => ∃ i j l, xs = [.int i, .int j, .int l] ∧ Q (.int (min (min i j) l)) H
def tStp (K : PySem.W.Frag) (te ts : TE) : TE := fun σ H Q => te σ H fun x H1 => ts σ H1 fun y H2 => ∃ st : Int, y = .int st ∧ ∃ a xs, x = .ref a ∧ SqL K H2 a xs ∧ (st = 1 ∨ st = -1) ∧ ∀ p, H2 p = none → Q (.ref p) (upd H2 p (.lst (if st = 1 then xs else xs.reverse)))
def stpR (K : PySem.W.Frag) (x : V) (Q : VK) : Option Int → Hp → Prop
  | some st, H2 => ∃ a xs, x = .ref a ∧ SqL K H2 a xs ∧ (st = 1 ∨ st = -1) ∧ ∀ p, H2 p = none → Q (.ref p) (upd H2 p (.lst (if st = 1 then xs else xs.reverse)))
  | none, _ => False
theorem pick_one (items : Array Value) : slicePick items none none (some 1) = items := by
  have e : slicePick items none none (some 1) = slicePick items none none none := rfl
  rw [e, PySem.W.kmk_pick_nat (a := 0) (b := items.size) items rfl, List.drop_zero, Nat.sub_zero, List.take_of_length_le (by simp)]
section
variable {X : Cx} {K : PySem.W.Frag}
theorem cb_min3 (hc : X.calm = true) : CallR X (.builtin "min") rMin3 := by
  intro pins s σ H xs us Q I r h
  obtain ⟨i, j, l, rfl, q⟩ := h
  obtain ⟨u1, u2, u3, rfl, ⟨t, rfl⟩, ⟨t', rfl⟩, ⟨t'', rfl⟩⟩ := L2.vals3 r
  refine min_three_ints (I.ok.hd hc) fun h' tk k => ⟨_, H, I.kept k, ?_, q⟩
  by_cases h1 : j < i
  · rw [if_pos h1]
    by_cases h2 : l < j
    · rw [if_pos h2, show min (min i j) l = l by omega]
      exact ⟨_, rfl⟩
    · rw [if_neg h2, show min (min i j) l = j by omega]
      exact ⟨_, rfl⟩
  · rw [if_neg h1]
    by_cases h2 : l < i
    · rw [if_pos h2, show min (min i j) l = l by omega]
      exact ⟨_, rfl⟩
    · rw [if_neg h2, show min (min i j) l = i by omega]
      exact ⟨_, rfl⟩
theorem pe_stp {e es : Expr} {te ts : TE} {p3 pos : Pos} (he : PE X e te) (hes : PE X es ts) : PE X (.Subscript e (.Slice none none (some es) p3) pos) (tStp X.K te ts) := by
  refine ⟨fun pins s σ H Q I h => ?_⟩
  refine Subscript_ (thn (he.run pins s σ H _ I h) fun v s1 ⟨x, H1, I1, r1, q1⟩ => ?_)
  have hst : PO X (some es) (tPart ts) := po_some hes
  refine wpAny_Slice (thn (po_none.run pins s1 σ H1 (fun o H2 => o = none ∧ H2 = H1) I1 ⟨rfl, rfl⟩) fun vl s2 ⟨l, H2, I2, pl, el, e2⟩ => ?_)
  subst el e2
  refine thn (po_none.run pins s2 σ H2 (fun o H3 => o = none ∧ H3 = H2) I2 ⟨rfl, rfl⟩) fun vu s3 ⟨u, H3, I3, pu, eu, e3⟩ => ?_
  subst eu e3
  refine thn (hst.run pins s3 σ H3 (fun o H4 => stpR X.K x Q o H4) I3 q1) fun vs s4 ⟨o, H4, I4, ps, ho⟩ => ?_
  cases o with
  | none => exact ho.elim
  | some st =>
  obtain ⟨a, xs, ex, hx, hst2, q⟩ := ho
  subst ex
  cases r1
  have I5 : Inv X pins σ H4 { s4 with heap := s4.heap.push { cls := .type "slice", data := .fields #[vl, vu, vs] } } := I4.kept (t' := s4.toks) fun b ob q => Heap.get?_push_of_some _ q
  obtain ⟨its, r, ht, hz⟩ := I5.list hx
  have hlen := r.length
  show wpAny (model X.prog X.w) X.A (subscriptTail e (.Slice none none (some es) p3) (.ref a) (.ref s4.heap.objs.size)) (EP X pins σ Q) X.xe { s4 with heap := s4.heap.push { cls := .type "slice", data := .fields #[vl, vu, vs] } }
  refine tail_any (ops := [.ref a, .ref s4.heap.objs.size]) ht.isList.typeIs (PySem.slot_list_getitem.lookup) ?_ (by with_unfolding_all rfl)
  refine wpAny_getItem_list_slice ht.isList (Heap.IsSliceOf.new _ vl vu vs) pl pu ps (by rcases hst2 with rfl | rfl <;> decide) ?_ (by rw [List.size_toArray]; omega)
  rcases hst2 with rfl | rfl
  · rw [pick_one]
    refine ⟨.ref _, _, I5.laid (t' := s4.toks) (o := .lst xs) (fun b ob q => Heap.get?_push_of_some _ q) (Nat.le_refl _) ?_, rfl, q _ (I5.hok.fresh (Nat.le_refl _))⟩
    exact ⟨hz, _, 0, r, Heap.get?_push_size _ rfl⟩
  · rw [PySem.W.krv_pick]
    refine ⟨.ref _, _, I5.laid (t' := s4.toks) (o := .lst xs.reverse) (fun b ob q => Heap.get?_push_of_some _ q) (Nat.le_refl _) ?_, rfl, q _ (I5.hok.fresh (Nat.le_refl _))⟩
    exact ⟨by rw [List.length_reverse]; exact hz, _, 0, r.reverse, Heap.get?_push_size _ rfl⟩
theorem pe_stpK (m : KIs K) (h : X.K = K) {e es : Expr} {te ts : TE} {p3 pos : Pos} (he : PE X e te) (hes : PE X es ts) : PE X (.Subscript e (.Slice none none (some es) p3) pos) (tStp K te ts) := h ▸ pe_stp he hes
end
section
variable {K : PySem.W.Frag} {F : Fx} {n : Ns} {ρ ρ1 : List Sl} {te ts : TE} {Φ : Rw → List Sl → Prop} {k1 k2 k3 : Rk} {i j l : Int}
theorem b_min3 (s1 : see ρ k1 = some (.int i)) (s2 : see ρ k2 = some (.int j)) (s3 : see ρ k3 = some (.int l)) : Cb rMin3 ρ [k1, k2, k3] (.da (.int (min (min i j) l))) := fun F n σ H vs Q E r1 q => by
  cases r1 with
  | @cons v vs _ _ r r' =>
  obtain ⟨u, u', rfl, r2, r3⟩ := rk2 r'
  rw [peekI E r s1, peekI E r2 s2, peekI E r3 s3]
  exact ⟨i, j, l, rfl, q _ H E .refl (.int _)⟩
theorem wp_stp (h : Wp te ρ fun k ρ0 => Wp ts ρ0 fun k2 ρ2 => ∃ st ds, soft k2 = .da (.int st) ∧ see ρ2 (soft k) = some (.lst ds) ∧ (st = 1 ∨ st = -1) ∧ Φ (.nw (if st = 1 then ds else ds.reverse)) ρ2) : Wp (tStp K te ts) ρ Φ := fun F n σ H E Q g =>
  h F n σ H E _ fun v H0 k ρ0 f0 E0 x0 r0 => f0 F n σ H0 E0 _ fun y H2 k2 ρ2 f2 E2 x2 r2 => by
    obtain ⟨st, ds, e, s, hst, f⟩ := f2
    have hy := r2.soft E0
    rw [e] at hy
    have hy : Dn n H2 y (.int st) := hy
    cases hy
    obtain ⟨a, us, rfl, h1, h2⟩ := peekL E2 ((r0.soft E).ext x2) s
    refine ⟨st, rfl, a, us, rfl, .inl (.inl h1), hst, ?_⟩
    have h3 : DnL n H2 (if st = 1 then us else us.reverse) (if st = 1 then ds else ds.reverse) := by
      split
      · exact h2
      · exact h2.rev
    exact mk_o E2 h3 fun v H' E' x' r' => g v H' _ ρ2 f E' ((x0.trans x2).trans x') (r'.pre E2 (x0.trans x2))
end
end Dd
namespace Dd
open PySem PySem.Spec PyProof.Rows L2
/-! ## two except clauses, n in slot i for both -/
def wKeep2 (K : PySem.W.Frag) (c1 c2 : Value) (i : Nat) (ts1 ts2 : Addr → Value → Option Addr → TS) (D : Ends) : WX := fun cls d σ H =>
  (PySem.W.exmOne K cls c1 = some true ∧ ∀ a, H a = none → ts1 a cls d { nx := fun σ1 H1 => H1 a = none → D.nx (σ1.set i none) (upd H1 a (CaO cls d a)), rt := fun _ _ => False } (σ.set i (some (.ref a))) H) ∨
  (PySem.W.exmOne K cls c1 = some false ∧ PySem.W.exmOne K cls c2 = some true ∧ ∀ a, H a = none → ts2 a cls d { nx := fun σ1 H1 => H1 a = none → D.nx (σ1.set i none) (upd H1 a (CaO cls d a)), rt := fun _ _ => False } (σ.set i (some (.ref a))) H)
section
variable {X : Cx} {x1 x2 n : Str} {c1 c2 : Value} {i : Nat} {body more1 more2 : List Stmt} {st1 st2 : Stmt} {px1 px2 ph1 ph2 pt : Pos} {tb : WX → TS} {ts1 ts2 : Addr → Value → Option Addr → TS}
theorem ps_try_kept2 (hst : X.stack = X.env :: X.outer) (hfm : X.env.frame = some X.env.locals) (hex : X.ex = []) (nd : X.N.Nodup) (hni : X.N[i]? = some n) (hk : X.env.kindOf n = some .local) (hcn1 : Names X x1 c1) (hcn2 : Names X x2 c2)
    (hbody : ∀ (W : WX) (pn : List (Addr × Obj)) (xe : Value → Shared → Prop), Takes (X.tr pn xe) W → PassesOwn (model X.prog X.w) X.A X.env xe → PSs (X.tr pn xe) body (tb W))
    (hclause1 : ∀ (a : Addr) (oe : Obj) (cls : Value) (d : Option Addr) (pn : List (Addr × Obj)), Zc cls d oe → (∃ us, oe.data = .fields us) → PSs (X.suite a ((a, oe) :: pn)) (st1 :: more1) (ts1 a cls d))
    (hclause2 : ∀ (a : Addr) (oe : Obj) (cls : Value) (d : Option Addr) (pn : List (Addr × Obj)), Zc cls d oe → (∃ us, oe.data = .fields us) → PSs (X.suite a ((a, oe) :: pn)) (st2 :: more2) (ts2 a cls d)) :
    PS X (.Try body [.ExceptHandler (some (.Name x1 px1)) (some n) (st1 :: more1) ph1, .ExceptHandler (some (.Name x2 px2)) (some n) (st2 :: more2) ph2] [] [] pt) (fun D σ H => tb (wKeep2 X.K c1 c2 i ts1 ts2 D) D σ H) := by
  refine ⟨fun ps s0 σ0 H0 D I0 told => ?_⟩
  have okX := I0.ok
  have fr : X.A.frames = some (X.env :: X.outer) := okX.frames.trans (congrArg some hst)
  refine wpAny_Try_except ?_
  refine wpAny_mono ((hbody (wKeep2 X.K c1 c2 i ts1 ts2 D) (X.pn ++ ps) _ (fun u s1 air => ?caught) PassesOwn.looking).run [] s0 σ0 H0 D (I0.toTry _) told) (fun fl s1 done => ?ended) (fun _ _ z => z)
  case ended =>
    cases fl with
    | next => obtain ⟨σ1, H1, I1, q⟩ := done; exact wpAny_execs_nil ⟨σ1, H1, I1.ofTry okX, q⟩
    | brk => obtain ⟨σ1, H1, I1, q⟩ := done; exact ⟨σ1, H1, I1.ofTry okX, q⟩
    | cont => obtain ⟨σ1, H1, I1, q⟩ := done; exact ⟨σ1, H1, I1.ofTry okX, q⟩
    | ret v => obtain ⟨w1, σ1, H1, I1, r, q⟩ := done; exact ⟨w1, σ1, H1, I1.ofTry okX, r, q⟩
  case caught =>
    obtain ⟨a, B, sg, ps1, σ1, H1, cls, d, rfl, I1', ground, slots1, sky, a0, osE, gensE, told1⟩ := air
    have I1 := I1'.ofTry okX
    rw [show (X.tr (X.pn ++ ps) _).stack = X.env :: X.outer from hst] at sky
    refine Sky.land (E₁ := X.xe) Zc.steady fr hfm sky fun hA flA slotsA => ?_
    obtain ⟨oA, uA, getA, zA, dataA⟩ := flA.there
    have notF : a ∉ frs (X.env :: X.outer) := fun hm => by
      obtain ⟨_, o, e, k⟩ := flA.2.2.1.mem hm
      rw [getA] at e
      cases e
      exact k _ dataA
    have notL : a ≠ X.env.locals := fun z => notF (List.mem_filterMap.mpr ⟨X.env, List.mem_cons_self, hfm.trans (congrArg some z.symm)⟩)
    have notO : a ∉ X.fs := fun hm => by
      obtain ⟨e, he, q⟩ := List.mem_filterMap.mp hm
      exact notF (List.mem_filterMap.mpr ⟨e, List.mem_cons_of_mem _ he, q⟩)
    obtain ⟨newE, newP⟩ := new_err I1 hex ground flA.2.1 (by rw [hst]; exact notF)
    have IA := I1.landed (s' := { s1 with heap := hA }) ground flA.1 (slots1.trans slotsA) osE gensE
    have SA := IA.suite getA dataA a0 notL notO
    have ofC : PySem.W.Looks (model X.prog X.w) hA (typeOf (.ref a)) cls := fun _ _ _ _ k q => wpAny_typeOf_ref (k _ _ getA) (by rw [zA.1]; exact q)
    have named : ∀ {x : Str} {px : Pos} {c : Value}, Names X x c → ∀ {Q E : Value → Shared → Prop}, Q c { s1 with heap := hA } → wpAny (model X.prog X.w) (X.A.mark (some (.ref a))) (eval (.Name x px) X.env) Q E { s1 with heap := hA } := fun hcn => fun q => by
      rcases hcn with ⟨g, nodbg, own | ⟨own, boot, nn⟩⟩
      · exact ld_glob (X := X.suite a ((a, oA) :: (X.pn ++ ps))) SA g own q nodbg
      · exact ld_blt (X := X.suite a ((a, oA) :: (X.pn ++ ps))) SA g own boot q nn nodbg
    rcases told1 with ⟨isC, told1⟩ | ⟨noC, isC, told1⟩
    · refine wpAny_handleBy_cons (codeAny_handlers_test ?_) (fun z => by cases z)
      have clause := PySem.W.exm_one (M := model X.prog X.w) IA.kIn ofC isC
      refine named hcn1 (clause.here (codeAny_handlers_suite_as ?_))
      refine HandSPX.lands_againZ flA fun hB flB slotsB => ?_
      obtain ⟨oB, uB, getB, zB, dataB⟩ := flB.there
      have IB := I1.landed (s' := { s1 with heap := hB }) ground flB.1 ((slots1.trans slotsA).trans slotsB) osE gensE
      have SB := IB.suite getB dataB a0 notL notO
      refine store_ok (X := X.suite a ((a, oB) :: (X.pn ++ ps))) (v := .ref a) SB nd hni (.inl hk) rfl (fun sC SC => ?_) (.inr hk)
      refine wpAny_mono ((hclause1 a oB cls d (X.pn ++ ps) zB ⟨uB, dataB⟩).run [] sC _ H1 _ SC (told1 a a0)) (fun fl sD done => ?_) (fun _ _ z => False.elim z)
      cases fl with
      | next =>
        obtain ⟨σD, HD, SD, q⟩ := done
        refine gone_ok (X := X.suite a ((a, oB) :: (X.pn ++ ps))) SD nd hni hk fun sE SE => ?_
        obtain ⟨getE, aE, _⟩ := SE.pin (a, oB) (List.mem_append_left _ List.mem_cons_self)
        have IE := tracked (SE.unsuite okX) getE dataB aE notL newE newP
        rw [zB.1, zB.2] at IE
        exact ⟨_, _, IE, q aE⟩
      | brk => obtain ⟨_, _, _, q⟩ := done; exact q.elim
      | cont => obtain ⟨_, _, _, q⟩ := done; exact q.elim
      | ret v => obtain ⟨_, _, _, _, _, q⟩ := done; exact q.elim
    · refine wpAny_handleBy_cons (codeAny_handlers_test ?_) (fun z => by cases z)
      have no := PySem.W.exm_one (M := model X.prog X.w) IA.kIn ofC noC
      refine named hcn1 (no.here ?_)
      show wpAny _ _ (handleBy _ _ _) _ _ _
      refine wpAny_handleBy_cons (codeAny_handlers_test ?_) (fun z => by cases z)
      have clause := PySem.W.exm_one (M := model X.prog X.w) IA.kIn ofC isC
      refine named hcn2 (clause.here (codeAny_handlers_suite_as ?_))
      refine HandSPX.lands_againZ flA fun hB flB slotsB => ?_
      obtain ⟨oB, uB, getB, zB, dataB⟩ := flB.there
      have IB := I1.landed (s' := { s1 with heap := hB }) ground flB.1 ((slots1.trans slotsA).trans slotsB) osE gensE
      have SB := IB.suite getB dataB a0 notL notO
      refine store_ok (X := X.suite a ((a, oB) :: (X.pn ++ ps))) (v := .ref a) SB nd hni (.inl hk) rfl (fun sC SC => ?_) (.inr hk)
      refine wpAny_mono ((hclause2 a oB cls d (X.pn ++ ps) zB ⟨uB, dataB⟩).run [] sC _ H1 _ SC (told1 a a0)) (fun fl sD done => ?_) (fun _ _ z => False.elim z)
      cases fl with
      | next =>
        obtain ⟨σD, HD, SD, q⟩ := done
        refine gone_ok (X := X.suite a ((a, oB) :: (X.pn ++ ps))) SD nd hni hk fun sE SE => ?_
        obtain ⟨getE, aE, _⟩ := SE.pin (a, oB) (List.mem_append_left _ List.mem_cons_self)
        have IE := tracked (SE.unsuite okX) getE dataB aE notL newE newP
        rw [zB.1, zB.2] at IE
        exact ⟨_, _, IE, q aE⟩
      | brk => obtain ⟨_, _, _, q⟩ := done; exact q.elim
      | cont => obtain ⟨_, _, _, q⟩ := done; exact q.elim
      | ret v => obtain ⟨_, _, _, _, _, q⟩ := done; exact q.elim
end
end Dd
namespace Dd
open PySem PySem.Spec PyProof.Rows L2
/-! ## a tuple unpacked while an error is handled whose own context is None -/
section
variable {prog : Program} {w : World} {A : Around} {E : Value → Shared → Prop} {s : Shared}
theorem next_tuple_endH {it t : Addr} {i : Nat} {items} {a : Addr} {oa : Obj} {va : Array Value} {Q : Option Value → Shared → Prop} (hh : A.handled = some (.ref a)) (hoa : s.heap.get? a = some oa) (hda : oa.data = .fields va) (h2a : va[2]? = some .none) (hai : a ≠ it)
    (hit : IsTupIter s.heap it t i) (ht : IsTup s.heap t items) (hx : items[i]? = none)
    (hQ : ∀ h', Heap.ExtBut it s.heap h' → Q none { s with heap := h' }) : wpAny (model prog w) A (pyNext (.ref it)) Q E s := by
  obtain ⟨o, ho, hc, hd⟩ := id hit
  obtain ⟨ol, hol, _, nl, hdl⟩ := ht
  unfold pyNext
  refine wpAny_bind (wpAny_attempt (wpAny_callSpecial?_slot (name := Str.ofString "__next__") hit.typeIs slot_tupleiter_next
    (wpAny_call_entry slot_tupleiter_next hit.typeIs entry_tupleiter_next ?_ (args_tupleiter_next _))))
  show wpAny _ _ (field (.ref it) 0 >>= _) _ _ s
  refine wpAny_bind (wpAny_field ho hd (x := .ref t) rfl ?_)
  show wpAny _ _ (if (Value.ref t == Value.none) = true then _ else _) _ _ s
  rw [if_neg (show ¬ ((Value.ref t == Value.none) = true) from Bool.false_ne_true)]
  show wpAny _ _ (field (.ref it) 1 >>= _) _ _ s
  refine wpAny_bind (wpAny_field ho hd (x := .int i 0) rfl ?_)
  show wpAny _ _ (seqItems? (.ref t) >>= _) _ _ s
  refine wpAny_bind (wpAny_seqItems hol hdl ?_)
  simp only [Int.toNat_natCast, hx]
  refine wpAny_bind (wpAny_rule (wpAny_bind (wpAny_setField ho hd (by simp) ?_)))
  show wpAny _ _ (newExc (.type "StopIteration") [] >>= _) _ _ _
  refine wpAny_bind ?_
  simp only [newExc, newTuple]
  refine wpAny_bind (wpAny_newObj_type ?_ (by size_fits))
  refine wpAny_bind (m := firstArgMember _ _) (wpAny_of_eq (a := Value.none) (by first | rfl | (simp only [firstArgMember]; rfl)) ?_)
  refine wpAny_newObj_type ?_ (by size_fits)
  have old : ∀ (b : Addr) (o2 : Obj), b ≠ it → s.heap.get? b = some o2 → ((s.heap.update it (Obj.mapFields fun x => x.setIfInBounds 0 Value.none)).push { cls := .type "tuple", data := .seq #[] }).get? b = some o2 := fun b o2 hb e =>
    Heap.get?_push_of_some _ (by rw [Heap.get?_update_ne _ _ _ _ hb]; exact e)
  have lts : ∀ (b : Addr) (o2 : Obj), b ≠ it → s.heap.get? b = some o2 → b ≠ ((s.heap.update it (Obj.mapFields fun x => x.setIfInBounds 0 Value.none)).push { cls := .type "tuple", data := .seq #[] }).objs.size := fun b o2 hb e => Nat.ne_of_lt (Heap.lt_size (old b o2 hb e))
  refine wpAny_raiseNew_in (show A.in1.handled = some (.ref a) from hh) (lts a oa hai hoa) (Heap.get?_push_of_some _ (old a oa hai hoa)) hda h2a (Heap.get?_push_size _ rfl) rfl (by simp; omega) ?_
  refine wpAny_bind (wpAny_isInstance (T := "StopIteration") (b := true) ⟨_, Heap.get?_update_self _ (Heap.get?_push_size _ rfl) rfl, rfl⟩ isSubtype_stop ?_)
  refine wpAny_pure (hQ _ fun b o2 hb e => ?_)
  show ((((s.heap.update it (Obj.mapFields fun x => x.setIfInBounds 0 Value.none)).push { cls := .type "tuple", data := .seq #[] }).push _).update _ _).get? b = some o2
  rw [Heap.get?_update_ne _ _ _ _ (lts b o2 hb e)]
  exact Heap.get?_push_of_some _ (old b o2 hb e)
theorem unpackItems_tupleH {t : Addr} {items : Array Value} {a : Addr} {oa : Obj} {va : Array Value} {Q : List Value → Shared → Prop} (hh : A.handled = some (.ref a)) (hoa : s.heap.get? a = some oa) (hda : oa.data = .fields va) (h2a : va[2]? = some .none) (ht : IsTup s.heap t items)
    (hQ : ∀ h', Heap.ExtBut s.heap.objs.size s.heap h' → Q items.toList { s with heap := h' }) : wpAny (model prog w) A (unpackItems (.ref t) items.size none) Q E s := by
  have hlt : t ≠ s.heap.objs.size := by obtain ⟨o, ho, _⟩ := ht; exact Nat.ne_of_lt (Heap.lt_size ho)
  have hla : a ≠ s.heap.objs.size := Nat.ne_of_lt (Heap.lt_size hoa)
  unfold unpackItems
  refine wpAny_bind ?_
  · unfold notIterableAtAll
    refine wpAny_bind (wpAny_specialOf ht.typeIs slot_tuple_iter.lookup ?_)
    refine wpAny_pure ?_
    simp only [Bool.false_eq_true, if_false]
    refine wpAny_bind (wpAny_holding (iter_tuple ht ?_))
    refine wpAny_bind (wpAny_holding (draw_tuple hlt items.size 0 _ _ ⟨_, Heap.get?_push_size _ rfl, rfl, rfl⟩ (ht.push _) (by omega) fun h₁ hit₁ hs₁ => ?_))
    have hall : List.take items.size (List.drop 0 items.toList) = items.toList := by
      rw [List.drop_zero]; exact List.take_of_length_le (by simp)
    rw [hall]
    rw [if_neg (by simp)]
    have ht₁ : IsTup h₁ t items := (ht.push _).extBut hs₁.extBut hlt
    have ha1 : h₁.get? a = some oa := hs₁.extBut a oa hla (Heap.get?_push_of_some _ hoa)
    refine wpAny_bind (wpAny_holding (next_tuple_endH hh ha1 hda h2a hla hit₁ ht₁ (by simp) fun h₂ he₂ => ?_))
    simp only [Option.isSome_none, Bool.false_eq_true, if_false]
    refine wpAny_pure (hQ h₂ fun b o hb e => he₂ b o hb (hs₁.extBut b o hb (Heap.get?_push_of_some _ e)))
end
section
variable {X : Cx} {pos : Pos}
/-- x, y = c, e in an except suite -/
theorem ps_parH {i j : Nat} {x y : Str} {a b : Expr} {ta : TA} {px py pt : Pos} {kt k2 pt2} {er : Addr} {oe : Obj} {pn : List (Addr × Obj)} {va : Array Value} (hda : oe.data = .fields va) (h2a : va[2]? = some .none) (hN : X.N.Nodup) (hi : X.N[i]? = some x) (hj : X.N[j]? = some y) (hij : i ≠ j)
    (hx : X.env.scope.names.lookup x = some .local) (hy : X.env.scope.names.lookup y = some .local) (ha : PA (X.suite er ((er, oe) :: pn)) [a, b] ta)
    (hw : swappedStores [.Tuple [.Name x px, .Name y py] kt pt] (.Tuple [a, b] k2 pt2) X.env = pure (some [x, y]))
    (hs : swapsWithSole [.Tuple [.Name x px, .Name y py] kt pt] (.Tuple [a, b] k2 pt2) pos.line X.env = pure false := by rfl) :
    PS (X.suite er ((er, oe) :: pn)) (.Assign [.Tuple [.Name x px, .Name y py] kt pt] (.Tuple [a, b] k2 pt2) pos) (tPar i j ta) := by
  refine ⟨fun pins s σ H D I h => ?_⟩
  rw [exec_Assign_arm]
  refine wpAny_bind (wpAny_standAt ?_)
  rw [hs]
  refine wpAny_bind (wpAny_pure ?_)
  rw [if_neg (by decide)]
  refine wpAny_bind (Tuple_ (thn (ha.run _ pins s σ H _ I h) fun us s1 ⟨vs, H1, I1, r1, q1⟩ => ?_))
  obtain ⟨v, w, e1, q1⟩ := q1
  subst e1
  obtain ⟨u1, u2, rfl, rv, rw'⟩ : ∃ u1 u2, us = [u1, u2] ∧ RelV v u1 ∧ RelV w u2 := by
    cases r1 with
    | cons p q =>
      cases q with
      | cons p' q' =>
        cases q'
        exact ⟨_, _, rfl, p, p'⟩
  refine wpAny_newObj_type ?_ (by show 2 ≤ sizeLine; decide)
  have I2 : Inv (X.suite er ((er, oe) :: pn)) pins σ H1 { s1 with heap := s1.heap.push { cls := .type "tuple", data := .seq [u1, u2].toArray } } := I1.kept (t' := s1.toks) fun b o e => Heap.get?_push_of_some _ e
  rw [hw]
  refine wpAny_bind (wpAny_pure ?_)
  obtain ⟨hoe, _⟩ := I2.pin (er, oe) (List.mem_append_left _ List.mem_cons_self)
  show wpAny (model X.prog X.w) (X.A.mark (some (.ref er))) (do rule "assign.swapped-stores"; let items ← unpackItems (.ref s1.heap.objs.size) 2 none; assignInOrder [fun v => bindName X.env y v, fun v => bindName X.env x v] items.reverse; pure Flow.next) _ _ _
  refine wpAny_bind (wpAny_rule (wpAny_bind (unpackItems_tupleH (items := #[u1, u2]) rfl hoe hda h2a (IsTup.new s1.heap _) fun h' hx' => ?_)))
  have I3 := I2.kept (h' := h') (t' := s1.toks) fun b o e => hx' b o (Nat.ne_of_lt (Heap.lt_size e)) e
  show wpAny _ _ (assignInOrder [fun v => bindName (X.suite er ((er, oe) :: pn)).env y v, fun v => bindName (X.suite er ((er, oe) :: pn)).env x v] [u2, u1] >>= fun _ => pure Flow.next) _ _ _
  refine wpAny_bind (assignInOrder_cons (wpAny_bindName (store_ok (X := X.suite er ((er, oe) :: pn)) I3 hN hj (.inl hy) rw' (fun s2 I4 => ?_) (.inr hy))))
  refine assignInOrder_cons (wpAny_bindName (store_ok (X := X.suite er ((er, oe) :: pn)) I4 hN hi (.inl hx) rv (fun s3 I5 => assignInOrder_nil (wpAny_pure ?_)) (.inr hx)))
  rw [List.set_comm _ _ (Ne.symm hij)] at I5
  exact ⟨_, H1, I5, q1⟩
end
end Dd
namespace Dd
open PySem PySem.Spec PyProof.Rows L2
/-! ## own errors whose own context is known to be None (L2N) -/
section
variable {X : Cx} {p p' p1 p2 pos : Pos} {e : Expr} {es : List Expr} {ta : TA}
theorem mk_endN {pins : List (Addr × Obj)} {σ : L2.St} {H1 H2 : Hp} {Q : XK} {hp hp2 h2 : Heap} {g1 g2 : Array GenState} {d1 d2 : Drawn} {t1 t2 : Nat} {os1 os2 : OsState} {a C d : Addr} {fs : List (Str × V)} (T : Raises X (.ref C)) (I1 : Inv X pins σ H1 ⟨hp, g1, d1, t1, os1⟩)
    (ha : hp.objs.size ≤ a) (k : ∀ b o, hp.get? b = some o → hp2.get? b = some o) (un : L2.Un (frs X.stack) [] (upd H1 a (exo a C none)) H2 hp2 h2) (hok : HOk X.prog X.w H2 h2) (ho : os2 = os1) (hb : AllBare g2)
    (ea : H2 a = some (exo a C (some d))) (ed : H2 d = some (exd d fs)) (hd1 : H1 d = none) (q : Q (.ref C) (some d) (upd (del H2 a) d (.xd fs))) : L2N.MkP X pins σ Q (.ref a) ⟨h2, g2, d2, t2, os2⟩ := by
  obtain ⟨t0, G, J, kG, ge, hoe, na⟩ := mk_end0 (d2 := d2) (t2 := t2) I1 ha k un hok ho hb ea ed hd1
  exact ⟨a, _, _, ⟨G, g2, d2, t2, os2⟩, _, .ref C, some d, rfl, J, kG, ge, hoe, ⟨rfl, rfl, fun vs e => by cases e; rfl⟩, rfl, rfl, na, rfl, hb, T, q⟩
theorem mk_endN0 {pins : List (Addr × Obj)} {σ : L2.St} {H1 H2 : Hp} {Q : XK} {hp hp2 h2 : Heap} {g1 g2 : Array GenState} {d1 d2 : Drawn} {t1 t2 : Nat} {os1 os2 : OsState} {a C : Addr} (T : Raises X (.ref C)) (I1 : Inv X pins σ H1 ⟨hp, g1, d1, t1, os1⟩)
    (ha : hp.objs.size ≤ a) (k : ∀ b o, hp.get? b = some o → hp2.get? b = some o) (un : L2.Un (frs X.stack) [] (upd H1 a (exo a C none)) H2 hp2 h2) (hok : HOk X.prog X.w H2 h2) (ho : os2 = os1) (hb : AllBare g2)
    (ea : H2 a = some (exo a C none)) (q : Q (.ref C) none (del H2 a)) : L2N.MkP X pins σ Q (.ref a) ⟨h2, g2, d2, t2, os2⟩ := by
  obtain ⟨t0, hoe⟩ := exo_at hok ea
  have hn : H1 a = none := I1.hok.fresh ha
  obtain ⟨G, g1', g2'⟩ := restrict h2 fun b => decide (b ≠ a)
  have gk : ∀ b, b ≠ a → G.get? b = h2.get? b := fun b hb => g1' b (decide_eq_true hb)
  have ge : G.get? a = none := g2' a (by simp)
  have nha : ∀ {b : Addr} {o : Obj}, hp.get? b = some o → b ≠ a := fun {b o} z => Nat.ne_of_lt (Nat.lt_of_lt_of_le (Heap.lt_size z) ha)
  have up : ∀ {b : Addr}, b ≠ a → H1 b = none → upd H1 a (exo a C none) b = none := fun {b} hb n => by rw [upd_ne hb]; exact n
  have U : L2.Un (frs X.stack) [] H1 (del H2 a) hp G := {
    keep := fun b o z n hf hx => by
      rw [gk b (nha z)]
      exact un.keep b o (k b o z) (up (nha z) n) hf hx
    slot := fun b o z n hf hx => by
      rw [gk b (nha z)]
      exact un.slot b o (k b o z) (up (nha z) n) hf hx
    free := fun b o z n hx => by
      rw [del_ne (nha z)]
      exact un.free b o (k b o z) (up (nha z) n) hx
    there := fun b o z hx => by
      rw [gk b (nha z)]
      exact un.there b o (k b o z) hx
    tups := fun b xs z => by
      rw [del_ne (ne_of_none z hn)]
      exact un.tups b xs (by rw [upd_ne (ne_of_none z hn)]; exact z)
    frzs := fun b o v z => by
      rw [del_ne (ne_of_none z hn)]
      exact un.frzs b o v (by rw [upd_ne (ne_of_none z hn)]; exact z)
    tbls := fun b ps z => by
      rw [del_ne (ne_of_none z hn)]
      exact un.tbls b ps (by rw [upd_ne (ne_of_none z hn)]; exact z) }
  have hok3 : HOk X.prog X.w (del H2 a) G := fun b o z => by
    have hba : b ≠ a := fun e => by
      rw [e, del_same] at z
      cases z
    rw [del_ne hba] at z
    have noa : ∀ {c : Addr}, H2 c = some (.own b) → c ≠ a := fun {c} hc => at_ne ea hc exo_own
    exact (hok b o z).stay (fun c v hc y => by
        have hca : c ≠ a := by
          rcases hc with hc | hc
          · rw [hc]
            exact hba
          · exact noa hc
        rw [gk c hca]
        exact y)
      (fun c hc => by rw [del_ne (noa hc)]; exact hc) (fun c xs hc => by rw [del_ne (at_ne ea hc exo_tup)]; exact hc)
  have J : Inv X pins σ (del H2 a) ⟨G, g2, d2, t2, os2⟩ := I1.call' (ch := []) ho U hok3 hb (fun b z => absurd z (by simp))
  refine ⟨a, _, _, ⟨G, g2, d2, t2, os2⟩, _, .ref C, none, rfl, J, fun b o z => ?_, ge, hoe, ⟨rfl, rfl, fun vs e => by cases e; rfl⟩, rfl, rfl, del_same, rfl, hb, T, q⟩
  by_cases hba : b = a
  · rw [hba, ge] at z
    cases z
  · exact (gk b hba).symm.trans z
/-- C(), C's own __init__ keeping sp and giving no attribute -/
def tMkO0 (C : Addr) (sp : Sp) : L2.St → Hp → XK → Prop := fun σ H Q => ∀ a, H a = none → sp [.ref a] (upd H a (exo a C none)) (fun v H2 => v = .non ∧ H2 a = some (exo a C none) ∧ Q (.ref C) none (del H2 a)) (fun _ _ _ => False)
theorem pmk_oexN {CX : CXT} {x : Str} {C fI : Addr} {k : Nat} {fd : FuncData} {ps : List Str} {sp : Sp} {ds : List Value} {dvs : List V} (T : OexC X.K C) (iC : PySem.W.findIn X.K (.ref C) "__init__" = some (some (.ref fI))) (tI : PySem.W.typeIn X.K (.ref fI) = some (.type "function"))
    (F1 : FnOk X.prog X.w X.K X.mg X.base CX k fI fd ps sp) (hr : Room (k + 1) X.A) (hb : Binds X.K fd ps ds) (hd : Vals dvs ds) (hx : Passes CX X (fun _ _ _ => False)) (hg : Gl X x) (hm : X.mg x = some (.ref C)) (ha : PA X (e :: es) ta)
    (hdb : (x == ("__debug__" : Str)) = false := by decide) (he : starEach (e :: es) X.env = (false, eval e X.env) :: starEach es X.env := by rfl) (hpl : (backTo pos (starEach es X.env)).any (·.1) = false := by rfl) :
    L2N.PMk X (.Call (.Name x p) (e :: es) [] pos) (tMkO C sp dvs ta) := by
  intro pins s σ H Q I h
  obtain ⟨nm, q, N, bs, bm, sn, sub, ab, col, dd, k0, k1, k2, k3, k5, hC, hbm⟩ := T.cls
  refine wpAny_Call_Name_kw (ld_glob I hg hm ?_ hdb)
  refine PySem.W.callWith_K (h₀ := X.base) I.ok.mod.kin T.kC (thn (ha.run pos pins s σ H _ I h) fun us s1 ⟨vs, H1, I1, r1, hz, q1⟩ => ⟨I1.kIn, ?_⟩) he hpl
  show wpAny _ _ (call (.ref C) us) _ _ _
  obtain ⟨hp, g, dr, tk, os⟩ := s1
  have hsz : hp.objs.size ≤ hp.objs.size + 1 := Nat.le_succ _
  have hn : H1 (hp.objs.size + 1) = none := I1.hok.fresh hsz
  have hq := q1 (hp.objs.size + 1) hn
  have kk : ∀ b o, hp.get? b = some o → ((hp.push (PySem.W.kdv_tup us)).push (PySem.HandSPX.excO C hp.objs.size)).get? b = some o := fun b o e => Heap.get?_push_of_some _ (Heap.get?_push_of_some _ e)
  have hget : ((hp.push (PySem.W.kdv_tup us)).push (PySem.HandSPX.excO C hp.objs.size)).get? (hp.objs.size + 1) = some (PySem.HandSPX.excO C hp.objs.size) := by heap_get
  have I2 : Inv X pins σ (upd H1 (hp.objs.size + 1) (exo (hp.objs.size + 1) C none)) ⟨(hp.push (PySem.W.kdv_tup us)).push (PySem.HandSPX.excO C hp.objs.size), g, dr, tk, os⟩ :=
    I1.laid (t' := tk) (a := hp.objs.size + 1) (o := exo (hp.objs.size + 1) C none) (h' := (hp.push (PySem.W.kdv_tup us)).push (PySem.HandSPX.excO C hp.objs.size)) kk hsz (exo_ok hget)
  have r2 : Vals (V.ref (hp.objs.size + 1) :: (vs ++ dvs)) (Value.ref (hp.objs.size + 1) :: (us ++ ds)) := .cons rfl (r1.append hd)
  have hl : (Value.ref (hp.objs.size + 1) :: us ++ ds).length = ps.length := by
    have e := r2.length
    rw [F1.len _ _ _ _ hq] at e
    exact e.symm
  have hus : us.length ≤ sizeLine := by
    rw [← Paired.length r1, sizeLine_eq]
    omega
  refine wpAny_call (PySem.HandSPX.call_own F.excBase_ValueError (fun Y => PySem.HandSPX.refsVE_contains Y bm hbm) (I1.kIn _ _ hC) (PySem.W.looks_findIn I1.kIn iC) (fun self => PySem.W.bind_fn I1.kIn self tI) hus
    (codeAny_mono (F1.run _ X.stack _ _ ⟨Value.ref (hp.objs.size + 1) :: us, []⟩ (Value.ref (hp.objs.size + 1) :: (us ++ ds)) _ _ (fun _ _ _ => False) (hr.make C us []) (I2.env0.make C us []) (hb _ (Value.ref (hp.objs.size + 1) :: us) I2.kIn hl) r2 hq) fun r s' hq' => ?_))
  cases r with
  | error er => exact hx pins σ _ _ er s' I2 hq'
  | ok fl =>
    cases fl with
    | ret u =>
      obtain ⟨v, H2, os2, bare2, un2, hok2, rv, ev, d, fs, ea, ed, hd1, q2⟩ := hq'
      subst ev
      obtain ⟨h2, g2, d2, t2, os'⟩ := s'
      exact ⟨rv, mk_endN (raises_own T.exC T.tyC) I1 hsz kk un2 hok2 os2 bare2 ea ed hd1 q2⟩
    | next => exact False.elim hq'
    | brk => exact False.elim hq'
    | cont => exact False.elim hq'
theorem pmk_oexN0 {CX : CXT} {x : Str} {C fI : Addr} {k : Nat} {fd : FuncData} {ps : List Str} {sp : Sp} (T : OexC X.K C) (iC : PySem.W.findIn X.K (.ref C) "__init__" = some (some (.ref fI))) (tI : PySem.W.typeIn X.K (.ref fI) = some (.type "function"))
    (F1 : FnOk X.prog X.w X.K X.mg X.base CX k fI fd ps sp) (hr : Room (k + 1) X.A) (hb : Binds X.K fd ps []) (hx : Passes CX X (fun _ _ _ => False)) (hg : Gl X x) (hm : X.mg x = some (.ref C))
    (hdb : (x == ("__debug__" : Str)) = false := by decide) :
    L2N.PMk X (.Call (.Name x p) [] [] pos) (tMkO0 C sp) := by
  intro pins s σ H Q I h
  obtain ⟨nm, q, N, bs, bm, sn, sub, ab, col, dd, k0, k1, k2, k3, k5, hC, hbm⟩ := T.cls
  refine wpAny_Call_Name_kw (ld_glob I hg hm ?_ hdb)
  refine PySem.W.callWith_K0 I.kIn T.kC ?_
  show wpAny _ _ (call (.ref C) []) _ _ _
  obtain ⟨hp, g, dr, tk, os⟩ := s
  have hsz : hp.objs.size ≤ hp.objs.size + 1 := Nat.le_succ _
  have hn : H (hp.objs.size + 1) = none := I.hok.fresh hsz
  have hq := h (hp.objs.size + 1) hn
  have kk : ∀ b o, hp.get? b = some o → ((hp.push (PySem.W.kdv_tup [])).push (PySem.HandSPX.excO C hp.objs.size)).get? b = some o := fun b o e => Heap.get?_push_of_some _ (Heap.get?_push_of_some _ e)
  have hget : ((hp.push (PySem.W.kdv_tup [])).push (PySem.HandSPX.excO C hp.objs.size)).get? (hp.objs.size + 1) = some (PySem.HandSPX.excO C hp.objs.size) := by heap_get
  have I2 : Inv X pins σ (upd H (hp.objs.size + 1) (exo (hp.objs.size + 1) C none)) ⟨(hp.push (PySem.W.kdv_tup [])).push (PySem.HandSPX.excO C hp.objs.size), g, dr, tk, os⟩ :=
    I.laid (t' := tk) (a := hp.objs.size + 1) (o := exo (hp.objs.size + 1) C none) (h' := (hp.push (PySem.W.kdv_tup [])).push (PySem.HandSPX.excO C hp.objs.size)) kk hsz (exo_ok hget)
  have r2 : Vals [V.ref (hp.objs.size + 1)] [Value.ref (hp.objs.size + 1)] := .cons rfl .nil
  have hl : [Value.ref (hp.objs.size + 1)].length = ps.length := by
    have e := r2.length
    rw [F1.len _ _ _ _ hq] at e
    exact e.symm
  refine wpAny_call (PySem.HandSPX.call_own F.excBase_ValueError (fun Y => PySem.HandSPX.refsVE_contains Y bm hbm) (I.kIn _ _ hC) (PySem.W.looks_findIn I.kIn iC) (fun self => PySem.W.bind_fn I.kIn self tI) (Nat.zero_le _)
    (codeAny_mono (F1.run _ X.stack _ _ ⟨[Value.ref (hp.objs.size + 1)], []⟩ [Value.ref (hp.objs.size + 1)] _ _ (fun _ _ _ => False) (hr.make C [] []) (I2.env0.make C [] []) (hb _ [Value.ref (hp.objs.size + 1)] I2.kIn hl) r2 hq) fun r s' hq' => ?_))
  cases r with
  | error er => exact hx pins σ _ _ er s' I2 hq'
  | ok fl =>
    cases fl with
    | ret u =>
      obtain ⟨v, H2, os2, bare2, un2, hok2, rv, ev, ea, q2⟩ := hq'
      subst ev
      obtain ⟨h2, g2, d2, t2, os'⟩ := s'
      exact ⟨rv, mk_endN0 (raises_own T.exC T.tyC) I hsz kk un2 hok2 os2 bare2 ea q2⟩
    | next => exact False.elim hq'
    | brk => exact False.elim hq'
    | cont => exact False.elim hq'
end
end Dd
namespace Dd
open PySem PySem.Spec PyProof.Rows L2
section
variable {P : Program} {w : World} {K : PySem.W.Frag} {mg : Str → Option Value} {base : Heap}
/-- as Fun.ok, for a def that may raise, what it raises has no context -/
theorem Fun_okN {x qual : Str} {st : Stmt} {f : Addr} {fd : FuncData} {N ps : List Str} {k : Nat} {sp : Sp} (F : Fun K x qual st f fd) (S : FnScope N ps (defScope st)) (len : ∀ vs H Q E, sp vs H Q E → vs.length = ps.length)
    (hbody : ∀ (cdv : Value) (A : Around) (outer : List Env) (s : Shared) (H : Hp) (vs : List V) (Q : VK) (E : XK), Room k (A.deeper (envOfC qual (defScope st) s.heap.objs.size f cdv)) → sp vs H Q E →
      ∃ t, PSs (cxOf (L2N.CX P w) P w K mg base N qual (defScope st) f cdv A outer s H E) (defBody st) t ∧ t { nx := fun _ H' => Q .non H', rt := Q } (start N vs) H) : FnOk P w K mg base (L2N.CX P w) (k + 1) f fd ps sp := by
  obtain ⟨oc, od, kV, doc, pm, an, cdv, ct, osl, rfl, lk, hcd⟩ := F.ex
  exact fn_of lk hcd S len fun A outer s H vs Q E hr hsp => hbody cdv A outer s H vs Q E hr hsp
/-- a def that may raise: a new list, or an error without a field, or one with a number -/
def SpZ {α : Type} (enc : α → List Da) (pre : α → Prop) (post : α → List Da → Prop) (ex0 : α → Addr → Prop) (exI : α → Addr → Str → Int → Prop) : Sp := fun vs H Q E => ∃ (n : Ns) (x : α), (∀ a, n a → H a ≠ none) ∧ DnL n H vs (enc x) ∧ pre x ∧
  (∀ p us H' r, post x r → H p = none → Grow H H' → H' p = some (.lst us) → DnL (add n p) H' us r → Q (.ref p) H') ∧ (∀ C H', ex0 x C → Grow H H' → E (.ref C) none H') ∧
  ∀ C f i d H', exI x C f i → Grow H H' → H d = none → H' d = some (.xd [(f, .int i)]) → E (.ref C) (some d) H'
structure CalZ (P : Program) (w : World) (K : PySem.W.Frag) (mg : Str → Option Value) (base : Heap) (k : Nat) (x : Str) (sp : Sp) : Prop where
  ex : ∃ (f : Addr) (fd : FuncData) (ps : List Str), FnOk P w K mg base (L2N.CX P w) k f fd ps sp ∧ mg x = some (.ref f) ∧ PySem.W.keepIn K (.ref f) = true ∧ Binds K fd ps []
/-- an __init__ that gives no attribute -/
def spErr0 (C : Addr) : Sp := fun vs H Q _ => ∃ (a : Addr), vs = [.ref a] ∧ H a = some (exo a C none) ∧ Q .non H
def tRaise0 (C : Addr) (E : XK) : TS := fun _ σ H => tMkO0 C (spErr0 C) σ H fun cls d H' => E cls d H'
structure Errb0 (P : Program) (w : World) (K : PySem.W.Frag) (mg : Str → Option Value) (base : Heap) (k : Nat) (x : Str) (C : Addr) : Prop where
  ex : ∃ (fI : Addr) (fd : FuncData) (ps : List Str), OexC K C ∧ PySem.W.findIn K (.ref C) "__init__" = some (some (.ref fI)) ∧ PySem.W.typeIn K (.ref fI) = some (.type "function") ∧ FnOk P w K mg base CX0 k fI fd ps (spErr0 C) ∧ Binds K fd ps [] ∧ mg x = some (.ref C)
end
section
variable {X : Cx}
theorem ps_raise0N {E : XK} {j k : Nat} {x : Str} {C : Addr} {p p2 pos : Pos} (hc : X.calm = true) (tk : L2N.Takes X (fun cls d _ H => E cls d H)) (c : Errb0 X.prog X.w X.K X.mg X.base k x C) (hr : Room j X.A) (hk : k + 1 ≤ j) (hg : Gl X x)
    (hdb : (x == ("__debug__" : Str)) = false := by decide) :
    PS X (.Raise (some (.Call (.Name x p) [] [] p2)) none pos) (tRaise0 C E) := by
  obtain ⟨fI, fd, ps, T, iC, tI, F, b, hm⟩ := c.ex
  exact L2N.ps_raise hc tk (pmk_oexN0 T iC tI F (hr.mono hk) b pass0 hg hm hdb)
theorem ps_raiseIN {E : XK} {j k : Nat} {x : Str} {C : Addr} {f : Str} {e : Expr} {te : TE} {p p2 pos : Pos} (hc : X.calm = true) (tk : L2N.Takes X (fun cls d _ H => E cls d H)) (c : Errb X.prog X.w X.K X.mg X.base k x C f) (hr : Room j X.A) (hk : k + 1 ≤ j) (hg : Gl X x) (he : PE X e te)
    (hdb : (x == ("__debug__" : Str)) = false := by decide) (hst : starEach [e] X.env = (false, eval e X.env) :: starEach [] X.env := by rfl) (hpl : (backTo p2 (starEach [] X.env)).any (·.1) = false := by rfl) :
    PS X (.Raise (some (.Call (.Name x p) [e] [] p2)) none pos) (tRaiseI C f E te) := by
  obtain ⟨fI, fd, ps, T, iC, tI, F, b, hm⟩ := c.ex
  exact L2N.ps_raise hc tk (pmk_oexN T iC tI F (hr.mono hk) b .nil pass0 hg hm (pa_cons he pa_nil hst) hdb hst hpl)
end
section
variable {K : PySem.W.Frag} {F G : Fx} {n n0 : Ns} {ρ ρ' ρ0 ρ1 ρ2 : List Sl} {te : TE} {H H0 : Hp} {σ : L2.St} {D : Ends} {E : XK} {C : Addr} {f : Str}
theorem nx_raise0 (w : Fw ⟨H0, fun _ => False, n0, []⟩ G) (h : ∀ H', Grow H0 H' → E (.ref C) none H') : Nx G ρ (tRaise0 C E D) := fun n σ H E0 a ha => by
  have E2 := w.un E0
  have gr : Grow H0 H := fun a o z => E2.kp a o z (fun z => z)
  refine ⟨a, rfl, upd_same, rfl, upd_same, h _ fun b o z => ?_⟩
  have na : b ≠ a := fun e => by rw [e] at z; rw [gr _ _ z] at ha; cases ha
  rw [del_ne na, upd_ne na]
  exact gr _ _ z
end
section
variable {X : Cx} {x1 x2 n : Str} {c1 c2 : Value} {i : Nat} {body more1 more2 : List Stmt} {st1 st2 : Stmt} {px1 px2 ph1 ph2 pt : Pos} {tb : WX → TS} {ts1 ts2 : Addr → Value → Option Addr → TS}
theorem ps_try_kept2N (hst : X.stack = X.env :: X.outer) (hfm : X.env.frame = some X.env.locals) (hex : X.ex = []) (nd : X.N.Nodup) (hni : X.N[i]? = some n) (hk : X.env.kindOf n = some .local) (hcn1 : Names X x1 c1) (hcn2 : Names X x2 c2)
    (hbody : ∀ (W : WX) (pn : List (Addr × Obj)) (xe : Value → Shared → Prop), L2N.Takes (X.tr pn xe) W → PassesOwn (model X.prog X.w) X.A X.env xe → PSs (X.tr pn xe) body (tb W))
    (hclause1 : ∀ (a : Addr) (oe : Obj) (cls : Value) (d : Option Addr) (pn : List (Addr × Obj)), L2N.Zn cls d oe → (∃ us, oe.data = .fields us) → PSs (X.suite a ((a, oe) :: pn)) (st1 :: more1) (ts1 a cls d))
    (hclause2 : ∀ (a : Addr) (oe : Obj) (cls : Value) (d : Option Addr) (pn : List (Addr × Obj)), L2N.Zn cls d oe → (∃ us, oe.data = .fields us) → PSs (X.suite a ((a, oe) :: pn)) (st2 :: more2) (ts2 a cls d)) :
    PS X (.Try body [.ExceptHandler (some (.Name x1 px1)) (some n) (st1 :: more1) ph1, .ExceptHandler (some (.Name x2 px2)) (some n) (st2 :: more2) ph2] [] [] pt) (fun D σ H => tb (wKeep2 X.K c1 c2 i ts1 ts2 D) D σ H) := by
  refine ⟨fun ps s0 σ0 H0 D I0 told => ?_⟩
  have okX := I0.ok
  have fr : X.A.frames = some (X.env :: X.outer) := okX.frames.trans (congrArg some hst)
  refine wpAny_Try_except ?_
  refine wpAny_mono ((hbody (wKeep2 X.K c1 c2 i ts1 ts2 D) (X.pn ++ ps) _ (fun u s1 air => ?caught) PassesOwn.looking).run [] s0 σ0 H0 D (I0.toTry _) told) (fun fl s1 done => ?ended) (fun _ _ z => z)
  case ended =>
    cases fl with
    | next => obtain ⟨σ1, H1, I1, q⟩ := done; exact wpAny_execs_nil ⟨σ1, H1, I1.ofTry okX, q⟩
    | brk => obtain ⟨σ1, H1, I1, q⟩ := done; exact ⟨σ1, H1, I1.ofTry okX, q⟩
    | cont => obtain ⟨σ1, H1, I1, q⟩ := done; exact ⟨σ1, H1, I1.ofTry okX, q⟩
    | ret v => obtain ⟨w1, σ1, H1, I1, r, q⟩ := done; exact ⟨w1, σ1, H1, I1.ofTry okX, r, q⟩
  case caught =>
    obtain ⟨a, B, sg, ps1, σ1, H1, cls, d, rfl, I1', ground, slots1, sky, a0, osE, gensE, told1⟩ := air
    have I1 := I1'.ofTry okX
    rw [show (X.tr (X.pn ++ ps) _).stack = X.env :: X.outer from hst] at sky
    refine L2N.Sky.land (E₁ := X.xe) L2N.Zn.steady fr hfm sky fun hA flA slotsA => ?_
    obtain ⟨oA, uA, getA, zA, dataA⟩ := flA.there
    have notF : a ∉ frs (X.env :: X.outer) := fun hm => by
      obtain ⟨_, o, e, k⟩ := flA.2.2.1.mem hm
      rw [getA] at e
      cases e
      exact k _ dataA
    have notL : a ≠ X.env.locals := fun z => notF (List.mem_filterMap.mpr ⟨X.env, List.mem_cons_self, hfm.trans (congrArg some z.symm)⟩)
    have notO : a ∉ X.fs := fun hm => by
      obtain ⟨e, he, q⟩ := List.mem_filterMap.mp hm
      exact notF (List.mem_filterMap.mpr ⟨e, List.mem_cons_of_mem _ he, q⟩)
    obtain ⟨newE, newP⟩ := new_err I1 hex ground flA.2.1 (by rw [hst]; exact notF)
    have IA := I1.landed (s' := { s1 with heap := hA }) ground flA.1 (slots1.trans slotsA) osE gensE
    have SA := IA.suite getA dataA a0 notL notO
    have ofC : PySem.W.Looks (model X.prog X.w) hA (typeOf (.ref a)) cls := fun _ _ _ _ k q => wpAny_typeOf_ref (k _ _ getA) (by rw [zA.1]; exact q)
    have named : ∀ {x : Str} {px : Pos} {c : Value}, Names X x c → ∀ {Q E : Value → Shared → Prop}, Q c { s1 with heap := hA } → wpAny (model X.prog X.w) (X.A.mark (some (.ref a))) (eval (.Name x px) X.env) Q E { s1 with heap := hA } := fun hcn => fun q => by
      rcases hcn with ⟨g, nodbg, own | ⟨own, boot, nn⟩⟩
      · exact ld_glob (X := X.suite a ((a, oA) :: (X.pn ++ ps))) SA g own q nodbg
      · exact ld_blt (X := X.suite a ((a, oA) :: (X.pn ++ ps))) SA g own boot q nn nodbg
    rcases told1 with ⟨isC, told1⟩ | ⟨noC, isC, told1⟩
    · refine wpAny_handleBy_cons (codeAny_handlers_test ?_) (fun z => by cases z)
      have clause := PySem.W.exm_one (M := model X.prog X.w) IA.kIn ofC isC
      refine named hcn1 (clause.here (codeAny_handlers_suite_as ?_))
      refine HandSPX.lands_againZ flA fun hB flB slotsB => ?_
      obtain ⟨oB, uB, getB, zB, dataB⟩ := flB.there
      have IB := I1.landed (s' := { s1 with heap := hB }) ground flB.1 ((slots1.trans slotsA).trans slotsB) osE gensE
      have SB := IB.suite getB dataB a0 notL notO
      refine store_ok (X := X.suite a ((a, oB) :: (X.pn ++ ps))) (v := .ref a) SB nd hni (.inl hk) rfl (fun sC SC => ?_) (.inr hk)
      refine wpAny_mono ((hclause1 a oB cls d (X.pn ++ ps) zB ⟨uB, dataB⟩).run [] sC _ H1 _ SC (told1 a a0)) (fun fl sD done => ?_) (fun _ _ z => False.elim z)
      cases fl with
      | next =>
        obtain ⟨σD, HD, SD, q⟩ := done
        refine gone_ok (X := X.suite a ((a, oB) :: (X.pn ++ ps))) SD nd hni hk fun sE SE => ?_
        obtain ⟨getE, aE, _⟩ := SE.pin (a, oB) (List.mem_append_left _ List.mem_cons_self)
        have IE := tracked (SE.unsuite okX) getE dataB aE notL newE newP
        rw [zB.1, zB.2.1] at IE
        exact ⟨_, _, IE, q aE⟩
      | brk => obtain ⟨_, _, _, q⟩ := done; exact q.elim
      | cont => obtain ⟨_, _, _, q⟩ := done; exact q.elim
      | ret v => obtain ⟨_, _, _, _, _, q⟩ := done; exact q.elim
    · refine wpAny_handleBy_cons (codeAny_handlers_test ?_) (fun z => by cases z)
      have no := PySem.W.exm_one (M := model X.prog X.w) IA.kIn ofC noC
      refine named hcn1 (no.here ?_)
      show wpAny _ _ (handleBy _ _ _) _ _ _
      refine wpAny_handleBy_cons (codeAny_handlers_test ?_) (fun z => by cases z)
      have clause := PySem.W.exm_one (M := model X.prog X.w) IA.kIn ofC isC
      refine named hcn2 (clause.here (codeAny_handlers_suite_as ?_))
      refine HandSPX.lands_againZ flA fun hB flB slotsB => ?_
      obtain ⟨oB, uB, getB, zB, dataB⟩ := flB.there
      have IB := I1.landed (s' := { s1 with heap := hB }) ground flB.1 ((slots1.trans slotsA).trans slotsB) osE gensE
      have SB := IB.suite getB dataB a0 notL notO
      refine store_ok (X := X.suite a ((a, oB) :: (X.pn ++ ps))) (v := .ref a) SB nd hni (.inl hk) rfl (fun sC SC => ?_) (.inr hk)
      refine wpAny_mono ((hclause2 a oB cls d (X.pn ++ ps) zB ⟨uB, dataB⟩).run [] sC _ H1 _ SC (told1 a a0)) (fun fl sD done => ?_) (fun _ _ z => False.elim z)
      cases fl with
      | next =>
        obtain ⟨σD, HD, SD, q⟩ := done
        refine gone_ok (X := X.suite a ((a, oB) :: (X.pn ++ ps))) SD nd hni hk fun sE SE => ?_
        obtain ⟨getE, aE, _⟩ := SE.pin (a, oB) (List.mem_append_left _ List.mem_cons_self)
        have IE := tracked (SE.unsuite okX) getE dataB aE notL newE newP
        rw [zB.1, zB.2.1] at IE
        exact ⟨_, _, IE, q aE⟩
      | brk => obtain ⟨_, _, _, q⟩ := done; exact q.elim
      | cont => obtain ⟨_, _, _, q⟩ := done; exact q.elim
      | ret v => obtain ⟨_, _, _, _, _, q⟩ := done; exact q.elim
end

/-- try: x = f(..) except C1 as n: k = c except C2 as n: k, l = c', n.f -/
def tTry2 (K : PySem.W.Frag) (S1 S2 : Addr) (i jx jk jl : Nat) (c1 c2 f : Str) (sp : Sp) (t : TA) : TS := fun D σ H => t σ H fun vs H1 => sp vs H1 (fun v H2 => D.nx (σ.set jx (some v)) H2) fun cls d H2 =>
  wKeep2 K (.ref S1) (.ref S2) i (fun _ _ _ => tAsg (tC (.str c1)) (gName jk)) (fun a cls d => tPar jk jl (tCons (tC (.str c2)) (tCons (tXf a cls d S2 f (tVar i)) tNil))) D cls d σ H2
section
variable {X : Cx}
theorem ps_try2 {j k i jx jk jl : Nat} {fx x kx lx n c1 c2 s1 s2 f : Str} {S1 S2 : Addr} {sp : Sp} {e : Expr} {es : List Expr} {t : TA} {p p1 p2 p3 p4 p5 p6 p7 p8 p9 q1 q2 q3 q4 q5 q6 q7 q8 q9 r9 : Pos} {kt k2 kk kk2 : Nat} (hst : X.stack = X.env :: X.outer) (hfm : X.env.frame = some X.env.locals) (hex : X.ex = []) (nd : X.N.Nodup)
    (cal : CalZ X.prog X.w X.K X.mg X.base k fx sp) (hr : Room j X.A) (hk : k ≤ j) (hg : Gl X fx) (hgc1 : Gl X c1) (hmc1 : X.mg c1 = some (.ref S1)) (hgc2 : Gl X c2) (hmc2 : X.mg c2 = some (.ref S2)) (T : XfC X.K S2) (hno : PySem.W.findIn X.K (.ref S2) f = some none)
    (hni : X.N[i]? = some n) (hnx : X.N[jx]? = some x) (hnk : X.N[jk]? = some kx) (hnl : X.N[jl]? = some lx) (hkl : jk ≠ jl) (lcx : Loc X.env.scope x) (lck : Loc X.env.scope kx) (lk : X.env.scope.names.lookup kx = some .local) (ll : X.env.scope.names.lookup lx = some .local) (hki : X.env.kindOf n = some .local) (vi : Vis X.env.scope n)
    (ha : ∀ (pn : List (Addr × Obj)) (xe : Value → Shared → Prop), PA (X.tr pn xe) (e :: es) t)
    (fx1 : X.fn x = true ∨ X.env.scope.names.lookup x = some .local)
    (hw : swappedStores [.Tuple [.Name kx q1, .Name lx q2] kt q3] (.Tuple [.Constant (.str s2) kk q4, .Attribute (.Name n q5) f q6] k2 q7) X.env = pure (some [kx, lx]))
    (hdb : (fx == ("__debug__" : Str)) = false := by decide) (hdc1 : (c1 == ("__debug__" : Str)) = false := by decide) (hdc2 : (c2 == ("__debug__" : Str)) = false := by decide) (hdn : (n == ("__debug__" : Str)) = false := by decide) (hcn : (n == ("__classdict__" : Str)) = false := by decide)
    (he : starEach (e :: es) X.env = (false, eval e X.env) :: starEach es X.env := by rfl) (hpl : (backTo p2 (starEach es X.env)).any (·.1) = false := by rfl)
    (hs1 : swapsWith (.Call (.Name fx p1) (e :: es) [] p2) (some (.Name x p3)) p4.line X.env = pure false := by rfl) (hs2 : swapsWith (.Constant (.str s1) kk2 p5) (some (.Name kx p6)) p7.line X.env = pure false := by rfl)
    (hs3 : swapsWithSole [.Tuple [.Name kx q1, .Name lx q2] kt q3] (.Tuple [.Constant (.str s2) kk q4, .Attribute (.Name n q5) f q6] k2 q7) q8.line X.env = pure false := by rfl)
    (hbs : attributeBase (.Name n q5) f X.env (eval (.Name n q5) X.env) = eval (.Name n q5) X.env := by rfl) :
    PS X (.Try [.Assign [.Name x p3] (.Call (.Name fx p1) (e :: es) [] p2) p4] [.ExceptHandler (some (.Name c1 p8)) (some n) [.Assign [.Name kx p6] (.Constant (.str s1) kk2 p5) p7] p9, .ExceptHandler (some (.Name c2 q9)) (some n) [.Assign [.Tuple [.Name kx q1, .Name lx q2] kt q3] (.Tuple [.Constant (.str s2) kk q4, .Attribute (.Name n q5) f q6] k2 q7) q8] r9] [] [] p) (tTry2 X.K S1 S2 i jx jk jl s1 s2 f sp t) := by
  obtain ⟨f0, fd, ps, FO, hm, kp, b⟩ := cal.ex
  have h := ps_try_kept2N (X := X) (tb := fun W => tAsg (tCallS sp (WE W) t) (gName jx)) (ts1 := fun _ _ _ => tAsg (tC (.str s1)) (gName jk)) (ts2 := fun a cls d => tPar jk jl (tCons (tC (.str s2)) (tCons (tXf a cls d S2 f (tVar i)) tNil))) (px1 := p8) (px2 := q9) (pt := p) (ph1 := p9) (ph2 := r9) hst hfm hex nd hni hki ⟨hgc1, hdc1, .inl hmc1⟩ ⟨hgc2, hdc2, .inl hmc2⟩
    (fun W pn xe tk pass => pss_one (ps_set (X := X.tr pn xe) nd hnx lcx (pe_callS (X := X.tr pn xe) FO (hr.mono hk) hg hm kp b (fun σ => L2N.passAt tk σ) (ha pn xe) hdb he hpl) hs1 fx1))
    (fun a oe cls d pn hz hf => pss_one (ps_set (X := X.suite a ((a, oe) :: pn)) nd hnk lck pe_str hs2 (.inr lk)))
    (fun a oe cls d pn hz hf => by
      obtain ⟨us, hus⟩ := hf
      exact pss_one (ps_parH (X := X) hus (hz.2.2 us hus) nd hnk hnl hkl lk ll (pa_cons pe_str (pa_cons (pe_xf T hno hz.zc ⟨us, hus⟩ (pe_var (X := X.suite a ((a, oe) :: pn)) hni vi hdn hcn) hbs) pa_nil)) hw hs3))
  exact h
end
end Dd
namespace Dd
open PySem PySem.Spec PyProof.Rows L2
section
variable {α : Type} {K : PySem.W.Frag} {F G : Fx} {n n0 : Ns} {ρ ρ' ρ0 ρ1 ρ2 : List Sl} {te : TE} {tx : TA} {H H0 : Hp} {σ : L2.St} {D : Ends} {enc : α → List Da} {pre : α → Prop} {post : α → List Da → Prop} {ex0 : α → Addr → Prop} {exI : α → Addr → Str → Int → Prop} {i jx jk jl : Nat} {S1 S2 : Addr} {c1 c2 f : Str}
theorem nx_try2 (hi : i < ρ.length) (hik : i ≠ jk) (hil : i ≠ jl) (h : WpA tx ρ fun ks ρ1 => ρ1 = ρ ∧ ∃ x, AllDa ks (enc x) ∧ pre x ∧ (∀ r, post x r → Nx F (ρ.set jx (.own false (.lst r))) D.nx) ∧
      (∀ C, ex0 x C → PySem.W.exmOne K (.ref C) (.ref S1) = some true ∧ Nx F ((ρ.set jk (.is (.str c1))).set i .no) D.nx) ∧
      ∀ C g v, exI x C g v → C = S2 ∧ g = f ∧ PySem.W.exmOne K (.ref C) (.ref S1) = some false ∧ PySem.W.exmOne K (.ref C) (.ref S2) = some true ∧ Nx F (((ρ.set jk (.is (.str c2))).set jl (.is (.int v))).set i .no) D.nx) :
    Nx F ρ (tTry2 K S1 S2 i jx jk jl c1 c2 f (SpZ enc pre post ex0 exI) tx D) := fun n σ H E0 =>
  h F n σ H E0 _ fun vs H1 ks ρ1 fc E1 x1 r1 => by
    obtain ⟨rfl, x, hs, hp, q, q0, qI⟩ := fc
    have hlen : i < σ.length := by rw [E1.len]; exact hi
    refine ⟨n, x, E1.al, hs.rel r1, hp, fun p us H' r hr hp' gr h1 h2 => ?_, fun C H' he gr => ?_, fun C g v d H' he gr hd hx => ?_⟩
    · have E2 : EnvOk F (add n p) ρ1 σ H' := E1.more hp' gr (by rw [h1]; simp)
      exact q r hr _ _ H' (E2.may.setO (fun j b es l e1 e2 ha => E1.not hp' (n.le p ((E1.ownF j b es l e1 e2).1 p ha).1)) (E1.h0 hp') ⟨us, h1, h2.less fun a z => z⟩)
    · obtain ⟨h1, h2⟩ := q0 C he
      refine .inl ⟨h1, fun a ha ha' => ?_⟩
      have E2 : EnvOk F n ρ1 σ (upd H' a (CaO (.ref C) none a)) := (E1.grow gr).updN ha
      have E3 := (E2.set (i := jk) (d := .str c1) (.str c1)).drop (i := i) none
      have e : ((σ.set i (some (V.ref a))).set jk (some (V.str c1))).set i none = (σ.set jk (some (V.str c1))).set i none := by
        rw [List.set_comm _ _ hik, List.set_set]
      rw [← e] at E3
      exact h2 n _ _ E3
    · obtain ⟨rfl, rfl, h1, h2, h3⟩ := qI C g v he
      refine .inr ⟨h1, h2, fun a ha => ?_⟩
      refine ⟨.ref a, by rw [List.getElem?_set_self hlen], rfl, rfl, d, _, .int v, rfl, hx, by simp [List.lookup], _, _, rfl, fun ha' => ?_⟩
      have E2 : EnvOk F n ρ1 σ (upd H' a (CaO (.ref C) (some d) a)) := (E1.grow gr).updN ha
      have E3 := ((E2.set (i := jk) (d := .str c2) (.str c2)).set (i := jl) (d := .int v) (.int v)).drop (i := i) none
      have e : (((σ.set i (some (V.ref a))).set jk (some (V.str c2))).set jl (some (V.int v))).set i none = ((σ.set jk (some (V.str c2))).set jl (some (V.int v))).set i none := by
        rw [List.set_comm _ _ hik, List.set_comm _ _ hil, List.set_set]
      rw [← e] at E3
      exact h3 n _ _ E3
theorem nx_raiseIN (w : Fw ⟨H0, fun _ => False, n0, []⟩ G) {E : XK} {C : Addr} (h : Wp te ρ fun k ρ1 => ∃ i, see ρ1 (soft k) = some (.int i) ∧ ∀ d H', Grow H0 H' → H0 d = none → H' d = some (.xd [(f, .int i)]) → E (.ref C) (some d) H') : Nx G ρ (tRaiseI C f E te D) := nx_raiseI w h
end
end Dd
namespace Dd
open PySem PySem.Spec PyProof.Rows L2
theorem passN {X : Cx} : Passes (L2N.CX X.prog X.w) X E0 := fun _ _ _ _ _ _ _ h => by
  obtain ⟨_, _, _, _, _, _, _, _, _, _, _, _, z⟩ := h
  exact z.elim
section
variable {X : Cx}
/-- a call of a def that may raise, where it doesn't -/
theorem pe_calZ0 {j k : Nat} {x : Str} {sp : Sp} {p pos : Pos} {e : Expr} {es : List Expr} {t : TA} (c : CalZ X.prog X.w X.K X.mg X.base k x sp) (hr : Room j X.A) (hk : k ≤ j) (hg : Gl X x) (ha : PA X (e :: es) t)
    (hdb : (x == ("__debug__" : Str)) = false := by decide) (he : starEach (e :: es) X.env = (false, eval e X.env) :: starEach es X.env := by rfl) (hpl : (backTo pos (starEach es X.env)).any (·.1) = false := by rfl) :
    PE X (.Call (.Name x p) (e :: es) [] pos) (tCall sp [] E0 t) := by
  obtain ⟨f, fd, ps, F, hm, kp, b⟩ := c.ex
  exact pe_call F (hr.mono hk) hg hm kp b .nil passN ha hdb he hpl
theorem ps_try2K {K : PySem.W.Frag} (m : KIs K) (h0 : X.K = K) {j k i jx jk jl : Nat} {fx x kx lx n c1 c2 s1 s2 f : Str} {S1 S2 : Addr} {sp : Sp} {e : Expr} {es : List Expr} {t : TA} {p p1 p2 p3 p4 p5 p6 p7 p8 p9 q1 q2 q3 q4 q5 q6 q7 q8 q9 r9 : Pos} {kt k2 kk kk2 : Nat} (hst : X.stack = X.env :: X.outer) (hfm : X.env.frame = some X.env.locals) (hex : X.ex = []) (nd : X.N.Nodup)
    (cal : CalZ X.prog X.w X.K X.mg X.base k fx sp) (hr : Room j X.A) (hk : k ≤ j) (hg : Gl X fx) (hgc1 : Gl X c1) (hmc1 : X.mg c1 = some (.ref S1)) (hgc2 : Gl X c2) (hmc2 : X.mg c2 = some (.ref S2)) (T : XfC X.K S2) (hno : PySem.W.findIn X.K (.ref S2) f = some none)
    (hni : X.N[i]? = some n) (hnx : X.N[jx]? = some x) (hnk : X.N[jk]? = some kx) (hnl : X.N[jl]? = some lx) (hkl : jk ≠ jl) (lcx : Loc X.env.scope x) (lck : Loc X.env.scope kx) (lk : X.env.scope.names.lookup kx = some .local) (ll : X.env.scope.names.lookup lx = some .local) (hki : X.env.kindOf n = some .local) (vi : Vis X.env.scope n)
    (ha : ∀ (pn : List (Addr × Obj)) (xe : Value → Shared → Prop), PA (X.tr pn xe) (e :: es) t)
    (fx1 : X.fn x = true ∨ X.env.scope.names.lookup x = some .local)
    (hw : swappedStores [.Tuple [.Name kx q1, .Name lx q2] kt q3] (.Tuple [.Constant (.str s2) kk q4, .Attribute (.Name n q5) f q6] k2 q7) X.env = pure (some [kx, lx]))
    (hdb : (fx == ("__debug__" : Str)) = false := by decide) (hdc1 : (c1 == ("__debug__" : Str)) = false := by decide) (hdc2 : (c2 == ("__debug__" : Str)) = false := by decide) (hdn : (n == ("__debug__" : Str)) = false := by decide) (hcn : (n == ("__classdict__" : Str)) = false := by decide)
    (he : starEach (e :: es) X.env = (false, eval e X.env) :: starEach es X.env := by rfl) (hpl : (backTo p2 (starEach es X.env)).any (·.1) = false := by rfl)
    (hs1 : swapsWith (.Call (.Name fx p1) (e :: es) [] p2) (some (.Name x p3)) p4.line X.env = pure false := by rfl) (hs2 : swapsWith (.Constant (.str s1) kk2 p5) (some (.Name kx p6)) p7.line X.env = pure false := by rfl)
    (hs3 : swapsWithSole [.Tuple [.Name kx q1, .Name lx q2] kt q3] (.Tuple [.Constant (.str s2) kk q4, .Attribute (.Name n q5) f q6] k2 q7) q8.line X.env = pure false := by rfl)
    (hbs : attributeBase (.Name n q5) f X.env (eval (.Name n q5) X.env) = eval (.Name n q5) X.env := by rfl) :
    PS X (.Try [.Assign [.Name x p3] (.Call (.Name fx p1) (e :: es) [] p2) p4] [.ExceptHandler (some (.Name c1 p8)) (some n) [.Assign [.Name kx p6] (.Constant (.str s1) kk2 p5) p7] p9, .ExceptHandler (some (.Name c2 q9)) (some n) [.Assign [.Tuple [.Name kx q1, .Name lx q2] kt q3] (.Tuple [.Constant (.str s2) kk q4, .Attribute (.Name n q5) f q6] k2 q7) q8] r9] [] [] p) (tTry2 K S1 S2 i jx jk jl s1 s2 f sp t) :=
  h0 ▸ ps_try2 hst hfm hex nd cal hr hk hg hgc1 hmc1 hgc2 hmc2 T hno hni hnx hnk hnl hkl lcx lck lk ll hki vi ha fx1 hw hdb hdc1 hdc2 hdn hcn he hpl hs1 hs2 hs3 hbs
end
section
variable {α : Type} {K : PySem.W.Frag} {F G : Fx} {n : Ns} {ρ ρ1 : List Sl} {tx : TA} {Φ : Rw → List Sl → Prop} {enc : α → List Da} {pre : α → Prop} {post : α → List Da → Prop} {ex0 : α → Addr → Prop} {exI : α → Addr → Str → Int → Prop} {E : XK} {k : Rk} {d : Da} {ns : List Int}
theorem wp_callZ (h : WpA tx ρ fun ks ρ1 => ∃ x, AllDa ks (enc x) ∧ pre x ∧ (∀ C, ¬ ex0 x C) ∧ (∀ C g v, ¬ exI x C g v) ∧ ∀ r, post x r → Φ (.nw r) ρ1) : Wp (tCall (SpZ enc pre post ex0 exI) [] E tx) ρ Φ := fun F n σ H E0 Q g =>
  h F n σ H E0 _ fun vs H1 ks ρ1 f E1 x1 r1 => by
    obtain ⟨x, hs, hp, n0, nI, q⟩ := f
    rw [List.append_nil]
    exact ⟨n, x, E1.al, hs.rel r1, hp, fun p us H' r hr hp' gr h1 h2 => g _ H' _ ρ1 (q r hr) (E1.grow gr) (x1.trans gr.ext) ⟨p, us, rfl, fresh_pre E1 x1 hp', E1.more hp' gr (by rw [h1]; simp), h1, h2⟩, fun C H' h => absurd h (n0 C), fun C g v d H' h => absurd h (nI C g v)⟩
/-- the same for own objects as arguments, the answer a list of such tuples and numbers as hold no list -/
theorem b_srtSq (s : see ρ k = some d) (q : Sq d (inz ns)) : Cb (rSortV K) ρ [k] (.nw (inz (srt ns))) := by
  cases q with
  | lst => exact b_srtV s
  | tup => exact b_srtT s
theorem b_sumSq (s : see ρ k = some d) (q : Sq d (inz ns)) : Cb (rSumU K) ρ [k] (.da (.int ns.sum)) := by
  cases q with
  | lst => exact b_sumL s
  | tup => exact b_sumT s
end
end Dd
namespace Dd
open PySem PySem.Spec PyProof.Rows L2
/-! ## a dict of four texts by texts, as data; d[text] -/
abbrev dkD (kvs : List (Key × V)) : Da := .dic (fun _ _ => HO.dK kvs) []
section
variable {X : Cx} {K : PySem.W.Frag} {F : Fx} {n : Ns} {ρ ρ1 : List Sl} {td ty : TE} {Φ : Rw → List Sl → Prop}
theorem wp_disp4 {a1 a2 a3 a4 b1 b2 b3 b4 : Str} (h : Φ (.da (dkD (mergeK [] [(.inr a1, .str b1), (.inr a2, .str b2), (.inr a3, .str b3), (.inr a4, .str b4)]))) ρ) :
    Wp (tDisp [(tC (.str a1), tC (.str b1)), (tC (.str a2), tC (.str b2)), (tC (.str a3), tC (.str b3)), (tC (.str a4), tC (.str b4))]) ρ Φ := fun F n σ H E Q g p hp => by
  have gr : Grow H (upd (upd H p (.dK [])) p (.dK (mergeK [] [(.inr a1, .str b1), (.inr a2, .str b2), (.inr a3, .str b3), (.inr a4, .str b4)]))) := fun a o e => by
    rw [upd_ne (ne_of_none e hp), upd_ne (ne_of_none e hp)]
    exact e
  exact ⟨upd_same, [(.inr a1, .str b1), (.inr a2, .str b2), (.inr a3, .str b3), (.inr a4, .str b4)], rfl, by simp, g _ _ _ _ h (E.grow gr) gr.ext (.dic (es := []) upd_same (E.not hp) .nil)⟩
theorem wp_dget (h : Wp td ρ fun k ρ1 => Wp ty ρ1 fun k2 ρ2 => ∃ kvs x v, see ρ2 (soft k) = some (dkD kvs) ∧ see ρ2 (soft k2) = some (.str x) ∧ valV kvs (.inr x) = some (.str v) ∧ Φ (.da (.str v)) ρ2) : Wp (tDGet td ty) ρ Φ := fun F n σ H E Q g =>
  h F n σ H E _ fun v H0 k ρ0 f0 E0 x0 r0 => f0 F n σ H0 E0 _ fun y H2 k2 ρ2 f2 E2 x2 r2 => by
    obtain ⟨kvs, x, u, s1, s2, hv, f⟩ := f2
    have h1 := peek E2 ((r0.soft E).ext x2) s1
    rw [peekS E2 (r2.soft E0) s2]
    have key : ∃ a, v = V.ref a ∧ H2 a = some (.dK kvs) := by
      rcases h1 with h1 | ⟨l, o, e1, e2, ho⟩
      · cases h1 with
        | @dic a _ es _ ha hn he => exact ⟨a, rfl, ha⟩
      · cases o <;> cases e2
        obtain ⟨es, q1, _⟩ := ho
        exact ⟨l, e1, q1⟩
    obtain ⟨a, rfl, ha⟩ := key
    exact ⟨a, .str u, rfl, hv ▸ DGet.k (k := .inr x) ha, g _ _ _ _ f E2 (x0.trans x2) (.str u)⟩
theorem pe_dgetK {j : Nat} {o i : Expr} {pos : Pos} (hr : Room j X.A) (ho : PE X o td) (hi : PE X i ty) (hs : NoSl i) : PE X (.Subscript o i pos) (tDGet td ty) := pe_dget (by have := units_of hr; unfold cLine; omega) ho hi hs
end
end Dd
namespace Dd
open PySem PySem.Spec PyProof.Rows L2
/-! ## {} as data; the kinds of data with it; the text of data with it -/
abbrev dk0 : Da := .dic (fun _ _ => HO.dK []) []
open Classical in
noncomputable def kindDk (D : DicK) : Option String := if D = (fun _ _ => HO.dK []) then some "dict" else none
noncomputable def kindX : Da → Option String
  | .dic D [] => kindDk D
  | d => kindD d
theorem kindX_dk0 : kindX dk0 = some "dict" := by
  show kindDk _ = _
  unfold kindDk
  rw [if_pos rfl]
theorem kindX_of {d : Da} {s : String} (h : kindD d = some s) : kindX d = some s := by
  cases d <;> first | exact h | cases h
section
variable {K : PySem.W.Frag} {F : Fx} {n : Ns} {ρ ρ0 ρ1 ρ2 : List Sl} {te ta tb : TE} {tx tr : TA} {d e : Da} {k k1 k2 : Rk} {ds es : List Da} {i j : Nat} {H : Hp} {σ : L2.St} {Φ : Rw → List Sl → Prop}
theorem dn_dk0 {v : V} (h : Dn n H v dk0) : ∃ a, v = .ref a ∧ H a = some (.dK []) := by
  cases h with
  | @dic a _ es _ ha hn he => exact ⟨a, rfl, ha⟩
theorem seen_dk0 {v : V} (h : Seen n H v dk0) : ∃ a, v = .ref a ∧ H a = some (.dK []) := by
  rcases h with h | ⟨l, o, e1, e2, ho⟩
  · exact dn_dk0 h
  · cases o <;> cases e2
    obtain ⟨es, q1, _⟩ := ho
    exact ⟨l, e1, q1⟩
theorem seen_tyX {v : V} {s : String} (h : Seen n H v d) (hk : kindX d = some s) : TyX K H v (.type s) := by
  by_cases hd : d = dk0
  · subst hd
    obtain ⟨a, rfl, ha⟩ := seen_dk0 h
    rw [kindX_dk0] at hk
    cases hk
    exact .base (.dK ha)
  · refine seen_ty h ?_
    cases d with
    | dic D kvs =>
      cases kvs with
      | nil =>
        by_cases z : D = (fun _ _ => HO.dK [])
        · subst z; exact absurd rfl hd
        · have : kindX (.dic D []) = none := by show kindDk _ = _; unfold kindDk; rw [if_neg z]
          rw [this] at hk; cases hk
      | cons _ _ => exact hk
    | _ => exact hk
theorem b_isiX {T s : String} {b : Bool} (s1 : see ρ k1 = some d) (s2 : see ρ k2 = some (.ty T)) (hk : kindX d = some s) (hb : PySem.W.kitOne K (.type s) (.type T) = some b) : Cb (rIsi K) ρ [k1, k2] (.da (.bl b)) := fun F n σ H vs Q E r1 q => by
  obtain ⟨v, u, rfl, r, r'⟩ := rk2 r1
  have h2 := peekD E r' s2 (fun o e => by cases o <;> cases e)
  cases h2
  exact ⟨v, _, _, _, b, rfl, .ty T, seen_tyX (peek E r s1) hk, hb, q _ H E .refl (.bl b)⟩
theorem wp_dk0 (q : Φ (.da dk0) ρ) : Wp tDNewK ρ Φ := fun F n σ H E Q g p hp => by
  have gr : Grow H (upd H p (.dK [])) := .upd hp
  exact g _ _ _ _ q (E.grow gr) gr.ext (.dic (es := []) upd_same (E.not hp) .nil)
/-! the text -/
mutual
def toPyX : Da → PyData
  | .non => .none | .bl b => .bool b | .int i => .int i | .str x => .str x
  | .lst ds => .list (toPyXs ds) | .tup ds => .tuple (toPyXs ds) | .ins _ _ => .none | .scr _ _ => .none | .ty _ => .none | .cl _ => .none | .exn _ _ => .none | .dic _ _ => .dict []
def toPyXs : List Da → List PyData
  | [] => [] | d :: ds => toPyX d :: toPyXs ds
end
/-- data, maybe with empty dicts in it -/
inductive PlX : Da → Prop
  | non : PlX .non
  | bl (b : Bool) : PlX (.bl b)
  | int (i : Int) : PlX (.int i)
  | str (x : Str) : PlX (.str x)
  | lst {ds : List Da} : (∀ d ∈ ds, PlX d) → PlX (.lst ds)
  | tup {ds : List Da} : (∀ d ∈ ds, PlX d) → PlX (.tup ds)
  | dk : PlX dk0
mutual
inductive Dq (K : PySem.W.Frag) (H : Hp) : V → PyData → Prop
  | non : Dq K H .non .none
  | bl (b : Bool) : Dq K H (.bl b) (.bool b)
  | int (i : Int) : Dq K H (.int i) (.int i)
  | str (x : Str) : Dq K H (.str x) (.str x)
  | lst {a : Addr} {xs : List V} {ds : List PyData} : SqL K H a xs → DqAll K H xs ds → Dq K H (.ref a) (.list ds)
  | tup {a : Addr} {xs : List V} {ds : List PyData} : SqT K H a xs → DqAll K H xs ds → Dq K H (.ref a) (.tuple ds)
  | dk {a : Addr} : H a = some (.dK []) → Dq K H (.ref a) (.dict [])
inductive DqAll (K : PySem.W.Frag) (H : Hp) : List V → List PyData → Prop
  | nil : DqAll K H [] []
  | cons {v : V} {vs : List V} {d : PyData} {ds : List PyData} : Dq K H v d → DqAll K H vs ds → DqAll K H (v :: vs) (d :: ds)
end
mutual
theorem Dn.dq {K : PySem.W.Frag} {n : Ns} {H : Hp} : ∀ (d : Da) (v : V), PlX d → Dn n H v d → Dq K H v (toPyX d)
  | .non, _, _, h => by cases h; rw [toPyX]; exact .non
  | .bl _, _, _, h => by cases h; rw [toPyX]; exact .bl _
  | .int _, _, _, h => by cases h; rw [toPyX]; exact .int _
  | .str _, _, _, h => by cases h; rw [toPyX]; exact .str _
  | .lst ds, _, p, h => by
    cases h with
    | lst h1 h2 h3 =>
      rw [toPyX]
      cases p with
      | lst p => exact .lst (.inl (.inl h1)) (DnL.dq ds _ p h3)
  | .tup ds, _, p, h => by
    cases h with
    | tup h1 h2 h3 =>
      rw [toPyX]
      cases p with
      | tup p => exact .tup (.inl (.inl h1)) (DnL.dq ds _ p h3)
  | .ins _ _, _, p, _ => nomatch p
  | .scr _ _, _, p, _ => nomatch p
  | .ty _, _, p, _ => nomatch p
  | .cl _, _, p, _ => nomatch p
  | .exn _ _, _, p, _ => nomatch p
  | .dic D kvs, _, p, h => by
    cases p
    obtain ⟨a, rfl, ha⟩ := dn_dk0 h
    rw [toPyX]
    exact .dk ha
theorem DnL.dq {K : PySem.W.Frag} {n : Ns} {H : Hp} : ∀ (ds : List Da) (vs : List V), (∀ d ∈ ds, PlX d) → DnL n H vs ds → DqAll K H vs (toPyXs ds)
  | [], _, _, h => by cases h; rw [toPyXs]; exact .nil
  | d :: ds, _, p, h => by
    cases h with
    | cons a b =>
      rw [toPyXs]
      exact .cons (Dn.dq d _ (p _ List.mem_cons_self) a) (DnL.dq ds _ (fun x hx => p x (List.mem_cons_of_mem _ hx)) b)
end
theorem peekQ (E : EnvOk F n ρ σ H) {v : V} (r : RelK n σ H v k) (s : see ρ k = some d) (p : PlX d) : Dq K H v (toPyX d) := by
  by_cases hd : ∃ ds, d = .lst ds
  · obtain ⟨ds, rfl⟩ := hd
    obtain ⟨a, vs, rfl, h1, h2⟩ := peekL E r s
    rw [toPyX]
    cases p with
    | lst p => exact .lst (.inl (.inl h1)) (DnL.dq ds _ p h2)
  · by_cases hk : d = dk0
    · subst hk
      obtain ⟨a, rfl, ha⟩ := seen_dk0 (peek E r s)
      rw [toPyX]
      exact .dk ha
    · refine Dn.dq d v p (peekD E r s fun o e => ?_)
      cases o with
      | lst ds => exact hd ⟨ds, e⟩
      | ins C fs => subst e; cases p
      | dic C fs => subst e; cases p; exact hk rfl
      | nst l0 u ks => subst e; cases p
end
/-! the library's reading -/
mutual
inductive Rq (h : Heap) : Value → PyData → Prop
  | none : Rq h .none .none
  | bool (b) : Rq h (.bool b) (.bool b)
  | int (i t) : Rq h (.int i t) (.int i)
  | str (x t) : Rq h (.str x t) (.str x)
  | list {a o vs n xs} : h.get? a = some o → o.cls = .type "list" → o.data = .seq vs n → RqAll h vs.toList xs → Rq h (.ref a) (.list xs)
  | tuple {a o vs n xs} : h.get? a = some o → o.cls = .type "tuple" → o.data = .seq vs n → RqAll h vs.toList xs → Rq h (.ref a) (.tuple xs)
  | dk {a o n} : h.get? a = some o → o.cls = .type "dict" → o.data = .dict #[] n → (a == sysModules) = false → Rq h (.ref a) (.dict [])
inductive RqAll (h : Heap) : List Value → List PyData → Prop
  | nil : RqAll h [] []
  | cons {v vs d ds} : Rq h v d → RqAll h vs ds → RqAll h (v :: vs) (d :: ds)
end
section
variable {X : Cx} {pins : List (Addr × Obj)} {σ : L2.St} {H : Hp} {s : Shared}
mutual
theorem Dq.rq (I : Inv X pins σ H s) : ∀ (d : PyData) (v : V) (u : Value), Dq X.K H v d → RelV v u → Rq s.heap u d
  | .none, _, _, h, r => by cases h; cases r; exact .none
  | .bool b, _, _, h, r => by cases h; cases r; exact .bool b
  | .int i, _, _, h, r => by cases h; obtain ⟨t, rfl⟩ := r; exact .int i t
  | .str x, _, _, h, r => by cases h; obtain ⟨t, rfl⟩ := r; exact .str x t
  | .list ds, _, _, h, r => by
    cases h with
    | lst hs ha =>
      cases r
      obtain ⟨its, rv, ⟨o, n, ho, hc, _, hd⟩, _⟩ := I.list hs
      exact .list ho hc hd (DqAll.rq I ds _ its ha rv)
  | .tuple ds, _, _, h, r => by
    cases h with
    | tup hs ha =>
      cases r
      obtain ⟨its, rv, ⟨o, ho, hc, n, hd⟩, _⟩ := I.tuple hs
      exact .tuple ho hc hd (DqAll.rq I ds _ its ha rv)
  | .dict _, _, _, h, r => by
    cases h with
    | dk ha =>
      cases r
      obtain ⟨_, hs, vs, kv, o, es, ep, h1, h2, h3, _, h5, _⟩ := I.hok _ _ ha
      cases kv
      have hes : es = #[] := by
        obtain ⟨l⟩ := es
        cases l with
        | nil => rfl
        | cons x l => cases h5
      subst hes
      exact .dk h1 h2.1 h3 hs
theorem DqAll.rq (I : Inv X pins σ H s) : ∀ (ds : List PyData) (vs : List V) (us : List Value), DqAll X.K H vs ds → Vals vs us → RqAll s.heap us ds
  | [], _, _, h, r => by cases h; cases r; exact .nil
  | d :: ds, _, _, h, r => by
    cases h with
    | cons h1 h2 =>
      cases r with
      | cons r1 r2 => exact .cons (Dq.rq I d _ _ h1 r1) (DqAll.rq I ds _ _ h2 r2)
end
end
section
variable {prog : Program} {w : World} {h₀ : Heap}
mutual
theorem Rq.reads : ∀ (d : PyData) (v : Value), Rq h₀ v d → ∃ as, Reads h₀ v d as
  | .none, _, h => by cases h; exact ⟨_, .none⟩
  | .bool b, _, h => by cases h; exact ⟨_, .bool b⟩
  | .int i, _, h => by cases h; exact ⟨_, .int i _⟩
  | .str x, _, h => by cases h; exact ⟨_, .str x _⟩
  | .list ds, _, h => by
    cases h with
    | list h1 h2 h3 h4 => obtain ⟨as, r⟩ := RqAll.reads ds _ h4; exact ⟨_, .list h1 h2 h3 r⟩
  | .tuple ds, _, h => by
    cases h with
    | tuple h1 h2 h3 h4 => obtain ⟨as, r⟩ := RqAll.reads ds _ h4; exact ⟨_, .tuple h1 h2 h3 r⟩
  | .dict _, _, h => by
    cases h with
    | dk h1 h2 h3 h4 => exact ⟨_, .dict h1 h2 h3 (as := []) (bs := []) .nil .nil⟩
theorem RqAll.reads : ∀ (ds : List PyData) (vs : List Value), RqAll h₀ vs ds → ∃ as, ReadsAll h₀ vs ds as
  | [], _, h => by cases h; exact ⟨_, .nil⟩
  | d :: ds, _, h => by
    cases h with
    | cons h1 h2 =>
      obtain ⟨as, r⟩ := Rq.reads d _ h1
      obtain ⟨bs, q⟩ := RqAll.reads ds _ h2
      exact ⟨_, .cons r q⟩
end
theorem dk_text : PyData.shown (.dict []) = dictText [] := by simp only [PyData.shown, PyData.shownKv]
mutual
theorem Rq.reprK : ∀ (d : PyData) (v : Value), Rq h₀ v d → d.showable = true → d.shown.length ≤ sizeLine → ∃ bs, ReadAtMost h₀ d.depth bs ∧ ReprK prog w bs h₀ d.depth v d.shown
  | .none, _, h, _, _ => by cases h; exact ⟨[], (fun _ h => nomatch h), by simp only [PyData.shown]; exact .of_is ReprIs.none _ _ _⟩
  | .bool b, _, h, _, _ => by cases h; exact ⟨[], (fun _ h => nomatch h), by simp only [PyData.shown]; exact .of_is (ReprIs.bool b) _ _ _⟩
  | .int i, _, h, hs, _ => by cases h; exact ⟨[], (fun _ h => nomatch h), by simp only [PyData.shown]; exact .of_is (ReprIs.int _ (by simpa [PyData.showable] using hs)) _ _ _⟩
  | .str x, _, h, _, hz => by cases h; exact ⟨[], (fun _ h => nomatch h), by simp only [PyData.shown]; exact .of_is (ReprIs.str x _ (by simpa only [PyData.shown] using hz)) _ _ _⟩
  | .list xs, _, h, hs, hz => by
    cases h with
    | @list a o vs n xs h1 h2 h3 h4 =>
      have hz' : (listText (PyData.shownAll xs)).length ≤ sizeLine := by simpa only [PyData.shown] using hz
      obtain ⟨bs, hb, hk⟩ := RqAll.reprK xs _ h4 (by simpa [PyData.showable] using hs) (fun t ht => Nat.le_trans (listText_mem_le ht) hz')
      obtain ⟨as, r4⟩ := RqAll.reads xs _ h4
      have r : Reads h₀ (.ref a) (.list xs) _ := .list h1 h2 h3 r4
      have hna : a ∉ bs := not_mem_of_deeper r (by simp only [PyData.depth]; omega) hb
      refine ⟨a :: bs, ReadAtMost.cons r (by simp only [PyData.depth]; omega) hb, ?_⟩
      simp only [PyData.depth, PyData.shown]
      obtain ⟨l⟩ := vs
      cases l with
      | nil =>
        have h4' : RqAll h₀ [] xs := h4
        cases h4'
        simp only [PyData.shownAll, listText_nil]
        exact ReprK.listEmpty h1 h2 h3
      | cons x l => exact ReprK.list h1 h2 h3 hna (by simpa using hk.length_eq) (fun i y e => hk.item i y (by simpa using e))
  | .tuple xs, _, h, hs, hz => by
    cases h with
    | @tuple a o vs n xs h1 h2 h3 h4 =>
      have hz' : (tupleText (PyData.shownAll xs)).length ≤ sizeLine := by simpa only [PyData.shown] using hz
      obtain ⟨bs, hb, hk⟩ := RqAll.reprK xs _ h4 (by simpa [PyData.showable] using hs) (fun t ht => Nat.le_trans (tupleText_mem_le ht) hz')
      obtain ⟨as, r4⟩ := RqAll.reads xs _ h4
      have r : Reads h₀ (.ref a) (.tuple xs) _ := .tuple h1 h2 h3 r4
      have hna : a ∉ bs := not_mem_of_deeper r (by simp only [PyData.depth]; omega) hb
      refine ⟨a :: bs, ReadAtMost.cons r (by simp only [PyData.depth]; omega) hb, ?_⟩
      simp only [PyData.depth, PyData.shown]
      exact ReprK.tuple h1 h2 h3 hna hk
  | .dict _, _, h, _, _ => by
    cases h with
    | @dk a o n h1 h2 h3 h4 =>
      have r : Reads h₀ (.ref a) (.dict []) _ := .dict h1 h2 h3 (as := []) (bs := []) .nil .nil
      have hna : a ∉ ([] : List Addr) := List.not_mem_nil
      refine ⟨[a], fun b hb => ?_, ?_⟩
      · rw [List.mem_singleton.mp hb]
        exact ⟨_, _, r, Nat.le_refl _⟩
      · rw [dk_text]
        simp only [PyData.depth]
        exact ReprK.dict h1 h2 h3 h4 hna .nil
theorem RqAll.reprK : ∀ (ds : List PyData) (vs : List Value), RqAll h₀ vs ds → PyData.showableAll ds = true → (∀ t ∈ PyData.shownAll ds, t.length ≤ sizeLine) →
    ∃ bs, ReadAtMost h₀ (PyData.depthAll ds) bs ∧ ReprAllK prog w bs h₀ (PyData.depthAll ds) vs (PyData.shownAll ds)
  | [], _, h, _, _ => by cases h; exact ⟨[], (fun _ h => nomatch h), by simp only [PyData.shownAll]; exact .nil⟩
  | d :: ds, _, h, hs, hz => by
    cases h with
    | cons r rs =>
      have hs' : d.showable = true ∧ PyData.showableAll ds = true := by simpa [PyData.showableAll] using hs
      obtain ⟨b1, hb1, k1⟩ := Rq.reprK d _ r hs'.1 (hz _ (by simp only [PyData.shownAll]; exact List.mem_cons_self ..))
      obtain ⟨b2, hb2, k2⟩ := RqAll.reprK ds _ rs hs'.2 (fun t ht => hz t (by simp only [PyData.shownAll]; exact List.mem_cons_of_mem _ ht))
      refine ⟨b1 ++ b2, ?_, ?_⟩
      · intro b hm
        simp only [PyData.depthAll]
        rcases List.mem_append.mp hm with hm | hm
        · obtain ⟨d', as', r', hd'⟩ := hb1 b hm
          exact ⟨d', as', r', Nat.le_trans hd' (Nat.le_max_left _ _)⟩
        · obtain ⟨d', as', r', hd'⟩ := hb2 b hm
          exact ⟨d', as', r', Nat.le_trans hd' (Nat.le_max_right _ _)⟩
      · simp only [PyData.depthAll, PyData.shownAll]
        exact .cons ((k1.more fun b hb => List.mem_append_left _ hb).level_le (Nat.le_max_left _ _)) (k2.more_le (fun b hb => List.mem_append_right _ hb) (Nat.le_max_right _ _))
end
theorem repr_of_rq {A : Around} {E : Value → Shared → Prop} {s : Shared} {Q : Value → Shared → Prop} {a : Addr} {d : PyData} (r : Rq h₀ (.ref a) d) (hs : d.showable = true) (hg : A.guards = some []) (hu : A.units + (d.depth + 1) < cLine) (hk0 : ∀ b o, h₀.get? b = some o → s.heap.get? b = some o)
    (hQ : ∀ h' u tk, (∀ b o, s.heap.get? b = some o → h'.get? b = some o) → Q (.str d.shown u) { s with heap := h', toks := tk })
    (hsz : d.shown.length ≤ sizeLine) : wpAny (model prog w) A (call (.builtin "repr") [.ref a]) Q E s := by
  have S : ∃ T idr, ShowsBy prog w h₀ a d T idr := by
    cases r with
    | @list _ o vs n xs h1 h2 h3 h4 =>
      have hz' : (listText (PyData.shownAll xs)).length ≤ sizeLine := by simpa only [PyData.shown] using hsz
      obtain ⟨bs, hb, hk⟩ := RqAll.reprK (prog := prog) (w := w) xs _ h4 (by simpa [PyData.showable] using hs) (fun t ht => Nat.le_trans (listText_mem_le ht) hz')
      obtain ⟨as, r4⟩ := RqAll.reads xs _ h4
      have hna : a ∉ bs := not_mem_of_deeper (.list h1 h2 h3 r4) (by simp only [PyData.depth]; omega) hb
      refine ⟨"list", "list.__repr__", F.slot_list_repr.toG, F.slot_list_str, F.slot_list_format, fun s hk0 => ⟨o, hk0 _ _ h1, h2⟩, fun A E s Q hg hu hk0 hQ => ?_⟩
      simp only [PyData.depth] at hu
      simp only [PyData.shown] at hQ
      obtain ⟨l⟩ := vs
      cases l with
      | nil =>
        have h4' : RqAll h₀ [] xs := h4
        cases h4'
        simp only [PyData.shownAll, listText_nil] at hQ
        exact call_list_repr_empty ⟨o, hk0 _ _ h1, h2⟩ (hk0 _ _ h1) h3 (hQ s.heap _ _ fun _ _ e => e)
      | cons x l =>
        exact call_list_reprK h1 h2 h3 hna (by simpa using hk.length_eq) (fun i y e => hk.item i y (by simpa using e)) hg (fun b _ => Clear.nil b) hu hk0 hQ hz'
    | @tuple _ o vs n xs h1 h2 h3 h4 =>
      have hz' : (tupleText (PyData.shownAll xs)).length ≤ sizeLine := by simpa only [PyData.shown] using hsz
      obtain ⟨bs, hb, hk⟩ := RqAll.reprK (prog := prog) (w := w) xs _ h4 (by simpa [PyData.showable] using hs) (fun t ht => Nat.le_trans (tupleText_mem_le ht) hz')
      obtain ⟨as, r4⟩ := RqAll.reads xs _ h4
      have hna : a ∉ bs := not_mem_of_deeper (.tuple h1 h2 h3 r4) (by simp only [PyData.depth]; omega) hb
      refine ⟨"tuple", "tuple.__repr__", F.slot_tuple_repr, F.slot_tuple_str, F.slot_tuple_format, fun s hk0 => ⟨o, hk0 _ _ h1, h2⟩, fun A E s Q hg hu hk0 hQ => ?_⟩
      simp only [PyData.depth] at hu
      simp only [PyData.shown] at hQ
      exact call_tuple_reprK h1 h2 h3 hna hk hg (fun b _ => Clear.nil b) hu hk0 hQ hz'
    | @dk _ o n h1 h2 h3 h4 =>
      refine ⟨"dict", "dict.__repr__", F.slot_dict_repr, F.slot_dict_str, F.slot_dict_format, fun s hk0 => ⟨o, hk0 _ _ h1, h2⟩, fun A E s Q hg hu hk0 hQ => ?_⟩
      rw [dk_text] at hQ
      exact call_dict_reprK (as := []) (d := 0) h1 h2 h3 h4 List.not_mem_nil .nil hg (fun b _ => Clear.nil b) (by simp only [PyData.depth] at hu; exact hu) hk0 hQ (by decide)
  obtain ⟨T, idr, S⟩ := S
  exact call_repr_slot (by omega) (S.typeIs s hk0) S.slotRepr (S.call A.in1 E s _ hg (by show A.units + 1 + d.depth < cLine; omega) hk0 fun h' u tk hk => ⟨_, _, rfl, hQ h' u tk hk⟩)
end
def rReprX (K : PySem.W.Frag) : List V → Hp → VK → Prop := fun xs H Q => ∃ v d, xs = [v] ∧ Dq K H v d ∧ (d.showable = true ∧ d.depth ≤ 60 ∧ d.shown.length ≤ sizeLine) ∧ Q (.str d.shown) H
theorem call_reprX {X : Cx} (hg : X.A.guards = some []) {k : Nat} (hr : Room k X.A) : CallR X (.builtin "repr") (rReprX X.K) := by
  intro pins s σ H xs us Q I r h
  obtain ⟨v, d, rfl, hd, ⟨h1, h3, h4⟩, q⟩ := h
  obtain ⟨u, rfl, hu⟩ := vals1 r
  have hun := hr.un
  have ref : ∀ a : Addr, v = .ref a → wpAny (model X.prog X.w) X.A (call (.builtin "repr") [u]) (EP X pins σ Q) X.xe s := fun a e => by
    subst e
    have rr := Dq.rq I d (.ref a) u hd hu
    cases hu
    exact repr_of_rq rr h1 hg (by omega) (fun _ _ e => e) (fun h' t tk hk => ⟨.str _, H, I.kept hk, ⟨_, rfl⟩, q⟩) h4
  cases hd with
  | non => cases hu; exact PySem.P.repr_of_none ⟨.str _, H, I.tok _, ⟨_, by rw [PyData.shown]⟩, q⟩
  | bl b => cases hu; exact PySem.P.repr_of_bool ⟨.str _, H, I.tok _, ⟨_, by rw [PyData.shown]⟩, q⟩
  | int i =>
    obtain ⟨t, rfl⟩ := hu
    refine PySem.P.repr_of_int ?_ ⟨.str _, H, I.tok _, ⟨_, by rw [PyData.shown]⟩, q⟩
    rw [PyData.showable] at h1
    exact of_decide_eq_true h1
  | str x =>
    obtain ⟨t, rfl⟩ := hu
    rw [PyData.shown] at h4 q
    exact PySem.P.repr_of_str ⟨.str _, H, I.tok _, ⟨_, rfl⟩, q⟩ h4
  | lst hs ha => exact ref _ rfl
  | tup hs ha => exact ref _ rfl
  | dk ha => exact ref _ rfl
theorem call_reprXK {X : Cx} {K : PySem.W.Frag} (m : KIs K) (h : X.K = K) (hg : X.A.guards = some []) {k : Nat} (hr : Room k X.A) : CallR X (.builtin "repr") (rReprX K) := h ▸ call_reprX hg hr
/-- data with a text that is short enough, by its weight and its depth -/
structure WrX (d : Da) (w k : Nat) : Prop where
  pl : PlX d
  sh : (toPyX d).showable = true
  lf : (toPyX d).leavesShort 13 = true
  wt : (toPyX d).weight ≤ w
  dp : (toPyX d).depth ≤ k
noncomputable def txtX (d : Da) : Str := (toPyX d).shown
theorem b_reprX {K : PySem.W.Frag} {ρ : List Sl} {k : Rk} {d : Da} {w kk : Nat} (s : see ρ k = some d) (z : WrX d w kk) (hw : w ≤ 2 ^ 20) (hk : kk ≤ 60) : Cb (rReprX K) ρ [k] (.da (.str (txtX d))) := fun F n σ H vs Q E r1 q => by
  obtain ⟨v, rfl, r⟩ := rk1 r1
  exact ⟨v, _, rfl, peekQ E r s z.pl, ⟨z.sh, Nat.le_trans z.dp hk, PyData.shown_fits (by decide) (by decide) z.lf (Nat.le_trans z.wt hw)⟩, q _ H E .refl (.str _)⟩
theorem WrX.mono {d : Da} {w k w' k' : Nat} (h : WrX d w k) (hw : w ≤ w') (hk : k ≤ k') : WrX d w' k' := ⟨h.pl, h.sh, h.lf, Nat.le_trans h.wt hw, Nat.le_trans h.dp hk⟩
theorem WrX.int {i : Int} (h : i.natAbs < 10 ^ 12) : WrX (.int i) 40 0 := by
  have hl := small_log h
  refine ⟨.int i, ?_, ?_, ?_, by rw [toPyX]; exact Nat.le_refl _⟩
  · rw [toPyX, PyData.showable]; exact decide_eq_true (by omega)
  · rw [toPyX, PyData.leavesShort]; exact decide_eq_true (PyData.shown_int_le h)
  · rw [toPyX, PyData.weight]
    split <;> omega
theorem WrX.bl {b : Bool} : WrX (.bl b) 40 0 := ⟨.bl b, by rw [toPyX]; rfl, by rw [toPyX]; rfl, by rw [toPyX]; exact Nat.zero_le _, by rw [toPyX]; exact Nat.le_refl _⟩
theorem WrX.non : WrX .non 40 0 := ⟨.non, by rw [toPyX]; rfl, by rw [toPyX]; rfl, by rw [toPyX]; exact Nat.zero_le _, by rw [toPyX]; exact Nat.le_refl _⟩
theorem WrX.dk : WrX dk0 40 1 := ⟨.dk, by rw [toPyX]; rfl, by rw [toPyX]; rfl, by rw [toPyX]; exact Nat.zero_le _, by rw [toPyX]; exact Nat.le_refl _⟩
theorem WrX.str {x : Str} {w : Nat} (h : x.cps.toList.all (fun c => decide (c < 16 ^ 8)) = true) (hw : x.cps.size ≤ w) : WrX (.str x) w 0 := ⟨.str x, by rw [toPyX]; rfl, by rw [toPyX]; exact h, by rw [toPyX]; exact hw, by rw [toPyX]; exact Nat.le_refl _⟩
theorem wrX_all {w k : Nat} : ∀ {ds : List Da}, (∀ d ∈ ds, WrX d w k) → PyData.showableAll (toPyXs ds) = true ∧ PyData.leavesShortAll 13 (toPyXs ds) = true ∧ PyData.weightAll (toPyXs ds) ≤ (w + 1) * ds.length ∧ PyData.depthAll (toPyXs ds) ≤ k
  | [], _ => ⟨by rw [toPyXs]; rfl, by rw [toPyXs]; rfl, by rw [toPyXs]; exact Nat.zero_le _, by rw [toPyXs]; exact Nat.zero_le _⟩
  | d :: ds, h => by
    obtain ⟨a2, a4, a5, a6⟩ := wrX_all fun x hx => h x (List.mem_cons_of_mem _ hx)
    have b := h d List.mem_cons_self
    refine ⟨by rw [toPyXs, PyData.showableAll, b.sh, a2]; rfl, by rw [toPyXs, PyData.leavesShortAll, b.lf, a4]; rfl, ?_, ?_⟩
    · rw [toPyXs, PyData.weightAll, List.length_cons, Nat.mul_add]
      have := b.wt
      omega
    · rw [toPyXs, PyData.depthAll]
      exact Nat.max_le.mpr ⟨b.dp, a6⟩
theorem WrX.lst {ds : List Da} {w k : Nat} (h : ∀ d ∈ ds, WrX d w k) : WrX (.lst ds) ((w + 1) * ds.length) (k + 1) := by
  obtain ⟨a2, a4, a5, a6⟩ := wrX_all h
  exact ⟨.lst fun d hd => (h d hd).pl, by rw [toPyX, PyData.showable]; exact a2, by rw [toPyX, PyData.leavesShort]; exact a4, by rw [toPyX, PyData.weight]; exact a5, by rw [toPyX, PyData.depth]; omega⟩
theorem WrX.tup {ds : List Da} {w k : Nat} (h : ∀ d ∈ ds, WrX d w k) : WrX (.tup ds) ((w + 1) * ds.length) (k + 1) := by
  obtain ⟨a2, a4, a5, a6⟩ := wrX_all h
  exact ⟨.tup fun d hd => (h d hd).pl, by rw [toPyX, PyData.showable]; exact a2, by rw [toPyX, PyData.leavesShort]; exact a4, by rw [toPyX, PyData.weight]; exact a5, by rw [toPyX, PyData.depth]; omega⟩
theorem WrX.inz {ns : List Int} (h : ∀ i ∈ ns, i.natAbs < 10 ^ 12) : WrX (.lst (Dd.inz ns)) (41 * ns.length) 1 := by
  have := WrX.lst (ds := Dd.inz ns) (w := 40) (k := 0) fun d hd => by
    obtain ⟨i, hi, rfl⟩ := List.mem_map.mp hd
    exact .int (h i hi)
  rw [show (Dd.inz ns).length = ns.length by simp [Dd.inz]] at this
  exact this
/-! ## is, is not, of truth values; int of a truth value; a new list as the answer of a def that changes its first argument -/
def rIsB2 (neg : Bool) : R2 := fun x y H Q => ∃ a b, x = .bl a ∧ y = .bl b ∧ Q (.bl (xor neg (decide (a = b)))) H
theorem op_isB2 {X : Cx} : OpR X (compareOp .Is) (rIsB2 false) := fun pins s σ H x y v u Q I rx ry h => by
  obtain ⟨a, b, e1, e2, q⟩ := h
  exact op_is_bl pins s σ H x y v u Q I rx ry ⟨a, b, e1, e2, by simpa using q⟩
theorem op_isNB2 {X : Cx} : OpR X (compareOp .IsNot) (rIsB2 true) := fun pins s σ H x y v u Q I rx ry h => by
  obtain ⟨a, b, e1, e2, q⟩ := h
  exact op_isnot_bl pins s σ H x y v u Q I rx ry ⟨a, b, e1, e2, by simpa using q⟩
section
variable {K : PySem.W.Frag} {F : Fx} {n : Ns} {ρ ρ0 ρ1 ρ2 : List Sl} {te ta tb : TE} {tx tr : TA} {d e : Da} {k k1 k2 : Rk} {ds es : List Da} {i j : Nat} {H : Hp} {σ : L2.St} {Φ : Rw → List Sl → Prop}
theorem op_isb {neg a b : Bool} (s1 : see ρ k1 = some (.bl a)) (s2 : see ρ k2 = some (.bl b)) : Op (rIsB2 neg) ρ k1 k2 (.da (.bl (xor neg (decide (a = b))))) :=
  op0 (fun _ _ => .bl _) fun F n σ H2 x y Q E2 r1 r2 q => by
    have h1 := peekD E2 r1 s1 (fun o e => by cases o <;> cases e)
    have h2 := peekD E2 r2 s2 (fun o e => by cases o <;> cases e)
    cases h1
    cases h2
    exact ⟨_, _, rfl, rfl, q⟩
def rIntB : List V → Hp → VK → Prop := fun xs H Q => ∃ k, xs = [.bl k] ∧ Q (.int (if k then 1 else 0)) H
theorem cb_intB {X : Cx} : CallR X (.type "int") rIntB := fun pins s σ H xs us Q I r h => call_int1 pins s σ H xs us Q I r (.inr h)
theorem b_intB {b : Bool} (s : see ρ k = some (.bl b)) : Cb rIntB ρ [k] (.da (.int (if b then 1 else 0))) := fun F n σ H vs Q E r1 q => by
  obtain ⟨v, rfl, r⟩ := rk1 r1
  have h1 := peekD E r s (fun o e => by cases o <;> cases e)
  cases h1
  exact ⟨b, rfl, q _ H E .refl (.int _)⟩
theorem rt_Fn {Q : VK} {n0 : Ns} {H0 : Hp} {f : Addr} {G : Fx} {P0 : List Da → Da → Prop} {l' : List Da} (q : ∀ v H' us' l' r, P0 l' r → (∀ a o, H0 a = some o → a ≠ f → H' a = some o) → H' f = some (.lst us') → DnL n0 H' us' l' → Dn n0 H' v r → Q v H') (w : Fw ⟨H0, fun a => a = f, n0, []⟩ G)
    (al : ∀ a, n0 a → H0 a ≠ none) (s : ρ[0]? = some (.own true (.lst l'))) (hl' : ∀ d ∈ l', flat d = true) (e : P0 l' (.lst ds)) : RtO G ρ ds Q := fun n σ H p us E h0 h1 h2 => by
  have E' := w.un E
  obtain ⟨l, ws, g1, g2, g3, _⟩ := own_at E' s
  have hl : l = f := (E'.own 0 true (.lst l') l s g1).2
  subst hl
  rw [w.H0] at h0
  exact q (.ref p) H ws l' (.lst ds) e (fun a o z k => E'.kp a o z k) g2 (g3.less E'.sub) (.lst h1 (fun z => al p z h0) (h2.less fun a z => .inl (E'.sub a z)))
end
/-! ## xs.extend(a list) -/
theorem list_extend_listO (l : Addr) (items : Array Value) (n : Nat) (b : Addr) (items2 : Array Value) (hs0 : ¬(!items.isEmpty && Builtin.List.listTooLong (items.size + items2.size)) = true) (hs1 : items.size ≤ sizeLine) (hs2 : (items ++ items2).size ≤ sizeLine + 1) :
    Meets (Builtin.«list.extend» ⟨[.ref l, .ref b], []⟩) (fun _ R s => s.heap.get? l = some { cls := .type "list", dict := none, data := .seq items n, slots := #[] } ∧ (∃ o n2, s.heap.get? b = some o ∧ o.cls = .type "list" ∧ o.data = .seq items2 n2) ∧ R (.ok (.ret Value.none)) { s with heap := s.heap.update l (Obj.mapSeq fun x => x ++ items2), toks := s.toks }) :=
  .of_wp fun prog w A R s h => by
    obtain ⟨hl, ⟨o, n2, hb, hc, hd⟩, h⟩ := h
    show wpAny _ _ (Builtin.List.listExtendWith (.ref l) (.ref b) .none) _ _ _
    unfold Builtin.List.listExtendWith
    refine wpAny_bind (wpAny_typeOf (T := "list") ⟨o, hb, hc⟩ ?_)
    have g3 : (Value.type "list" == Value.type "list") = true := by decide
    simp only [g3, Bool.or_true, Bool.true_or, if_true]
    unfold Builtin.List.listItems
    refine wpAny_bind (wpAny_bind (wpAny_seqItems hb hd (wpAny_pure ?_)))
    refine wpAny_bind (wpAny_bind (wpAny_seqItems hl rfl (wpAny_pure ?_)))
    rw [if_neg hs0]
    refine wpAny_bind ?_
    show wpAny _ _ (updateSeq l fun x => x ++ items2) _ _ _
    refine wpAny_updateSeq (hz := hs1) (_hz' := hs2) hl rfl ?_
    exact wpAny_pure ⟨_, rfl, h⟩
def rExtL (K : PySem.W.Frag) : V → List V → Hp → VK → Prop := fun x vs H Q => ∃ l b xs zs, x = .ref l ∧ vs = [.ref b] ∧ H l = some (.lst xs) ∧ SqL K H b zs ∧ xs.length + zs.length ≤ sizeLine ∧ Q .non (upd H l (.lst (xs ++ zs)))
theorem mt_extendL {X : Cx} : MtM X "list.extend" (rExtL X.K) := by
  intro pins s σ H x vs v us Q I rx rv h
  obtain ⟨l, b, xs, zs, rfl, rfl, hH, hB, hz, q⟩ := h
  cases rx
  obtain ⟨u, rfl, ru⟩ := rv.one
  cases ru
  obtain ⟨z, its, n, r, hl, e⟩ := I.lstM hH
  obtain ⟨its2, r2, ⟨o2, n2, ho2, hc2, _, hd2⟩, hl2⟩ := I.list hB
  have l2 := r2.length
  have hsz : its.toArray.size + its2.toArray.size ≤ sizeLine := by rw [List.size_toArray, List.size_toArray]; omega
  have hlong : ¬ (!its.toArray.isEmpty && Builtin.List.listTooLong (its.toArray.size + its2.toArray.size)) = true := by
    rw [notLongL hsz, Bool.and_false]
    exact Bool.false_ne_true
  refine call_meets PySem.F.slot_list_extend ⟨_, e, rfl⟩ PySem.F.entry_list_extend (PySem.F.args_list_extend_2 _ _)
    (list_extend_listO l its.toArray n b its2.toArray hlong (by rw [List.size_toArray]; omega) (by rw [Array.size_append]; omega)) ⟨e, ⟨o2, n2, ho2, hc2, hd2⟩, ?_⟩
  refine ⟨.non, _, I.lset (its' := its ++ its2) hH e (by simp) (r.append r2) ?_, rfl, q⟩
  rw [List.length_append]
  omega
section
variable {K : PySem.W.Frag} {F : Fx} {n : Ns} {ρ ρ' ρ0 ρ1 ρ2 : List Sl} {te ta tb : TE} {tx tr : TA} {d e : Da} {k k1 k2 : Rk} {ks : List Rk} {ds es : List Da} {i j : Nat} {H : Hp} {σ : L2.St} {Φ : Rw → List Sl → Prop}
theorem wp_extendL {b : Bool} (s0 : ρ[i]? = some (.own b (.lst es))) (h : WpA tx ρ fun ks ρ1 => ∃ k fs ds, ks = [.da k] ∧ k = .lst fs ∧ ρ1[i]? = some (.own b (.lst ds)) ∧ ds.length + fs.length ≤ sizeLine ∧ Φ (.da .non) (ρ1.set i (.own b (.lst (ds ++ fs))))) : Wp (tBM K "list" (rExtL K) (tVar i) tx) ρ Φ := fun F n σ H E Q g => by
  obtain ⟨l, vs, h1, h2, h3, h4⟩ := own_at E s0
  refine ⟨_, h1, .inl ⟨rfl, vs, .inl (.inl h2)⟩, h F n σ H E _ fun us H1 ks ρ1 f E1 x1 r1 => ?_⟩
  obtain ⟨k, fs, ds, rfl, rfl, s, z, q⟩ := f
  obtain ⟨v, rfl, r⟩ := rk1 r1
  obtain ⟨l', ws, g1, g2, g3, g4⟩ := own_at E1 s
  rw [h1] at g1
  cases g1
  obtain ⟨a, us, rfl, q1, q2⟩ := peekL E1 r (rfl : see ρ1 (.da (.lst fs)) = some (.lst fs))
  exact ⟨l, a, ws, us, rfl, rfl, g2, .of q1, by rw [g3.length, q2.length]; exact z, g _ _ _ _ q (mutL E1 s h1 g2 (g3.app q2)) (x1.trans (ext_mut g4)) .non⟩
theorem mt_extendLK {X : Cx} (m : KIs K) (h : X.K = K) : MtM X "list.extend" (rExtL K) := h ▸ mt_extendL
end
end Dd
namespace Dd
open PySem PySem.Spec PyProof.Rows L2
/-! ## xs == [] for a list of anything -/
def rEqNil (K : PySem.W.Frag) : R2 := fun x y H Q => ∃ a b xs, x = .ref a ∧ y = .ref b ∧ SqL K H a xs ∧ SqL K H b [] ∧ Q (.bl xs.isEmpty) H
theorem op_eqNil {X : Cx} (hu : X.A.units + 64 < cLine) : OpR X (compareOp .Eq) (rEqNil X.K) := by
  intro pins s σ H x y v u Q I rx ry h
  obtain ⟨a, b, xs, rfl, rfl, ha, hb, q⟩ := h
  cases rx
  cases ry
  obtain ⟨its, rv, ⟨o, n, ho, hc, _, hd⟩, _⟩ := I.list ha
  obtain ⟨its2, rv2, ⟨o2, n2, ho2, hc2, _, hd2⟩, _⟩ := I.list hb
  cases rv2
  have hl : s.heap.IsList a its.toArray := ⟨o, ho, hc, n, hd⟩
  have hl2 : s.heap.IsList b #[] := ⟨o2, ho2, hc2, n2, hd2⟩
  cases rv with
  | nil => exact SeqAt.eq_listAt (e := fun _ => true) hl hl2 rfl (by omega) (fun j h1 _ => absurd h1 (by simp)) ⟨.bl true, H, I, rfl, q⟩
  | cons r1 r2 => exact SeqAt.eq_list_lengthsAt hl hl2 (by simp) (by omega) ⟨.bl false, H, I, rfl, q⟩
section
variable {K : PySem.W.Frag} {F : Fx} {n : Ns} {ρ ρ0 ρ1 ρ2 : List Sl} {te ta tb : TE} {tx tr : TA} {d e : Da} {k k1 k2 : Rk} {ds es : List Da} {i j : Nat} {H : Hp} {σ : L2.St} {Φ : Rw → List Sl → Prop}
theorem op_eqNilK {X : Cx} (m : KIs K) (h : X.K = K) {k : Nat} (hr : Room k X.A) : OpR X (compareOp .Eq) (rEqNil K) := h ▸ op_eqNil hr.units
theorem op_eqnil (s1 : see ρ k1 = some (.lst ds)) (s2 : see ρ k2 = some (.lst [])) : Op (rEqNil K) ρ k1 k2 (.da (.bl ds.isEmpty)) :=
  op0 (fun _ _ => .bl _) fun F n σ H2 x y Q E2 r1 r2 q => by
    obtain ⟨a, vs, rfl, h1, h2⟩ := peekL E2 r1 s1
    obtain ⟨b, us, rfl, g1, g2⟩ := peekL E2 r2 s2
    cases g2
    refine ⟨a, b, vs, rfl, rfl, .inl (.inl h1), .inl (.inl g1), ?_⟩
    have e : vs.isEmpty = ds.isEmpty := by
      have := h2.length
      cases vs <;> cases ds <;> simp_all
    rw [e]
    exact q
end
/-! ## the weight of data, part by part -/
theorem WrX.tup2 {a b : Da} {w1 w2 k1 k2 : Nat} (ha : WrX a w1 k1) (hb : WrX b w2 k2) : WrX (.tup [a, b]) (w1 + w2 + 2) (max k1 k2 + 1) := by
  have h1 := ha.wt
  have h2 := hb.wt
  have d1 := ha.dp
  have d2 := hb.dp
  refine ⟨.tup fun d hd => ?_, ?_, ?_, ?_, ?_⟩
  · rcases (by simpa using hd : d = a ∨ d = b) with rfl | rfl
    · exact ha.pl
    · exact hb.pl
  · simp only [toPyX, toPyXs, PyData.showable, PyData.showableAll, ha.sh, hb.sh, Bool.and_self]
  · simp only [toPyX, toPyXs, PyData.leavesShort, PyData.leavesShortAll, ha.lf, hb.lf, Bool.and_self]
  · simp only [toPyX, toPyXs, PyData.weight, PyData.weightAll]
    omega
  · simp only [toPyX, toPyXs, PyData.depth, PyData.depthAll]
    omega
theorem WrX.lst1 {a : Da} {w1 k1 : Nat} (ha : WrX a w1 k1) : WrX (.lst [a]) (w1 + 1) (k1 + 1) := by
  have h1 := ha.wt
  have d1 := ha.dp
  refine ⟨.lst fun d hd => ?_, ?_, ?_, ?_, ?_⟩
  · rw [List.mem_singleton.mp hd]
    exact ha.pl
  · simp only [toPyX, toPyXs, PyData.showable, PyData.showableAll, ha.sh, Bool.and_self]
  · simp only [toPyX, toPyXs, PyData.leavesShort, PyData.leavesShortAll, ha.lf, Bool.and_self]
  · simp only [toPyX, toPyXs, PyData.weight, PyData.weightAll]
    omega
  · simp only [toPyX, toPyXs, PyData.depth, PyData.depthAll]
    omega
/-! ## where two branches meet -/
theorem nx_join {F : Fx} {ρ : List Sl} {α : Type} (Z : α → List Sl) (Good : α → Prop) {t : TS} {D : Ends} (hrest : ∀ x, Good x → Nx F (Z x) D.nx) (hfirst : (∀ x, Good x → Nx F (Z x) D.nx) → Nx F ρ (t D)) : Nx F ρ (t D) := hfirst hrest
end Dd
namespace Dd
open PySem PySem.Spec PyProof.Rows L2 PpSet
/-! ## a set of numbers, written as a comprehension -/
/-- the set object that is made first -/
abbrev emptySet (w : World) : Obj := ⟨.type "set", none, .set #[] 0 (.fresh 0 0 (!w.params.followText "set-order")), #[]⟩
/-- a number is put into the set at D -/
def AddI (w : World) (D : Addr) (N : Hp → Prop) : VK := fun y G =>
  ∃ (c : Int) (S : Int → Bool) (k : Nat), y = .int c ∧ G D = some (SetO w D S k) ∧ k + 1 < scanBound ∧
    N (upd G D (SetO w D (fun j => S j || decide (j = c)) (if S c = true then k else k + 1)))
/-- one turn -/
def TurnI (w : World) (J : It) (g : TG) (tt : TT) (te : TE) (vs : List Nat) (σ : L2.St) (D : Addr) (W : Nat → Nat → Hp → Prop) (i m : Nat) (G : Hp) : Prop :=
  J.go i G ∧ ∃ N : Hp → Prop, (∀ G', N G' → ∃ m', m' < m ∧ W (i + 1) m' G') ∧
    ∀ x G', J.yld i G x G' → g x (L2.wipe σ vs) G' fun σ2 G2 =>
      L2.wipe σ2 vs = L2.wipe σ vs ∧ tt σ2 G2 fun b G3 => (b = true → te σ2 G3 (AddI w D N)) ∧ (b = false → N G3)
def tSetI (w : World) (wi : TI) (g : TG) (tt : TT) (te : TE) (vs : List Nat) : TE := fun σ H Q =>
  wi σ H fun J G => ∀ D, G D = none → ∃ W : Nat → Nat → Hp → Prop, (∃ m, W 0 m (upd G D (SetO w D (fun _ => false) 0))) ∧
    ∀ i m G', W i m G' → (J.stop i G' ∧ Q (.ref D) G') ∨ TurnI w J g tt te vs σ D W i m G'
section
variable {X : Cx}
theorem add_num {pins : List (Addr × Obj)} {σ : L2.St} {G : Hp} {s : Shared} {E : Value → Shared → Prop} {D : Addr} {S : Int → Bool} {k : Nat} {c : Int} {t : Tok} {Q : Value → Shared → Prop}
    (I : Inv X pins σ G s) (hD : G D = some (SetO X.w D S k)) (room : k + 1 < scanBound)
    (h : ∀ s', Inv X pins σ (upd G D (SetO X.w D (fun j => S j || decide (j = c)) (if S c = true then k else k + 1))) s' → Q .none s') :
    wpAny (model X.prog X.w) X.A (call (.builtin "set.add") [.ref D, .int c t]) Q E s := by
  refine setR_add (setO_get I hD) room fun h' sb R => ?_
  have there : ∃ u, h'.get? D = some u := by
    obtain ⟨o, _, _, _, ho, _⟩ := id R
    exact ⟨o, ho⟩
  refine h _ (I.write (e := D) (t' := s.toks + 1) ?_ (.inl rfl) (fun b u hb hu => ?_) there (setO_new R))
  · rw [hD]; trivial
  · exact (sb.2 b hb).trans hu
theorem pe_setI {elt tg iter : Expr} {ifs : List Expr} {scope : Scope} {own : List (PySem.Str × Nat)} {pos : Pos} {wi : TI} {g : TG} {tt : TT} {te : TE}
    (hc : X.calm = true) (hN : X.N.Nodup) (hi : PI X tg iter wi) (ok : BlkOk X.N X.env.scope scope own)
    (hg : ∀ (s : Shared) (H : Hp) (C : Addr) (cl : List (PySem.Str × Addr)) (fp : List Addr), PG (X.blk s H scope (compEnvC scope cl C X.env) fp) tg g)
    (ht : ∀ (s : Shared) (H : Hp) (C : Addr) (cl : List (PySem.Str × Addr)) (fp : List Addr), PTs (X.blk s H scope (compEnvC scope cl C X.env) fp) ifs tt)
    (he : ∀ (s : Shared) (H : Hp) (C : Addr) (cl : List (PySem.Str × Addr)) (fp : List Addr), PE (X.blk s H scope (compEnvC scope cl C X.env) fp) elt te)
    (hs : ∀ x, foldedSetIterable iter X.env x = pure x := by intro _; rfl) :
    PE X (.SetComp elt [⟨tg, iter, ifs, 0⟩] scope pos) (tSetI X.w wi g tt te (own.map (·.2))) := by
  constructor
  intro pins s σ H Q I h
  rw [PpSet.eval_SetComp]
  have cells : ∀ y ∈ scope.names, y.2 = .free → ∃ c, X.env.cells.lookup y.1 = some c := by
    intro y hy e
    exact (ok.free y hy e).elim (fun k => I.ok.has _ (.inl k)) fun k => I.ok.has _ (.inr k)
  refine wpAny_comprehension_free (use := none) rfl hs (closure_ok cells) ok.kind (fun y hy e => by rw [ok.uniq y hy, e]) ?_
  refine thn (hi.run pins s σ H _ I h) fun _ s1 a1 => thn a1 fun _ s2 a2 => ?_
  obtain ⟨it, fp, tn, J, G, rfl, I2, T, st2, f2, q⟩ := a2
  refine PpSet.newSet_ok (newEnv_comp ?_)
  -- the set's place
  obtain ⟨D, hD⟩ : ∃ D, s2.heap.objs.size = D := ⟨_, rfl⟩
  have nD : G D = none := I2.hok.fresh (Nat.le_of_eq hD)
  obtain ⟨W, ⟨m0, w0⟩, steps⟩ := q D nD
  obtain ⟨s3, e3⟩ : ∃ s3 : Shared, s3 = { s2 with heap := s2.heap.push (emptySet X.w) } := ⟨_, rfl⟩
  obtain ⟨G3, eG3⟩ : ∃ G3, G3 = upd G D (SetO X.w D (fun _ => false) 0) := ⟨_, rfl⟩
  have hp3 : s3.heap = s2.heap.push (emptySet X.w) := by rw [e3]
  have I3 : Inv X pins σ G3 s3 := by
    rw [e3, eG3]
    refine I2.laid (t' := s2.toks) (fun b o e => Heap.get?_push_of_some _ e) (Nat.le_of_eq hD) ?_
    rw [← hD]
    exact setO_new (setR_fresh X.w)
  have small : ∀ b ∈ fp, b < s2.heap.objs.size := fun b hb => (T.obj _ _ st2 b hb).elim fun o e => Heap.lt_size e.1
  have f3 : ∀ b ∈ fp, FpOk X pins G3 b ∧ b < s3.heap.objs.size := by
    intro b hb
    have lt := small b hb
    refine ⟨⟨?_, (f2 b hb).2⟩, ?_⟩
    · rw [eG3, upd_ne (by rw [← hD]; exact Nat.ne_of_lt lt)]
      exact (f2 b hb).1
    · rw [hp3, Heap.size_push]
      exact Nat.lt_succ_of_lt lt
  have st3 : tn 0 s3.heap := T.keep _ _ _ st2 fun b _ o e => by rw [hp3]; exact Heap.get?_push_of_some _ e
  have I4 := block_start I3 ok hN f3
  rw [← eG3] at w0
  have off : ∀ b ∈ fp, G3 b = none := fun b hb => (f3 b hb).1.1
  show codeAny _ _ (.compStart (.SetComp elt [⟨tg, iter, ifs, 0⟩] scope pos) 0 (.ref it) (.ref s2.heap.objs.size) _) _ _
  rw [hD, ← e3]
  -- the block's frame
  obtain ⟨cl, ecl⟩ : ∃ cl, cl = cellsFrom (s3.heap.objs.size + 1) scope.names (cloFrom X.env.cells scope.names []) := ⟨_, rfl⟩
  rw [← ecl] at I4
  rw [← ecl]
  show codeAny _ _ (.compStart (.SetComp elt [⟨tg, iter, ifs, 0⟩] scope pos) 0 (.ref it) (.ref D) (compEnvC scope cl s3.heap.objs.size X.env)) (compPost (model X.prog X.w) X.A X.xe none (EP X pins σ Q) (.ref D) s3.heap.objs.size) _
  have pg := hg s3 G3 s3.heap.objs.size cl fp
  have pt := ht s3 G3 s3.heap.objs.size cl fp
  have px := he s3 G3 s3.heap.objs.size cl fp
  have cL : (compEnvC scope cl s3.heap.objs.size X.env).locals = s3.heap.objs.size := rfl
  generalize compEnvC scope cl s3.heap.objs.size X.env = ce at I4 pg pt px cL ⊢
  obtain ⟨s4, e4⟩ : ∃ s4 : Shared, s4 = { s3 with heap := pushCells (s3.heap.push { cls := .type "dict", data := .dict #[] }) scope.names } := ⟨_, rfl⟩
  rw [← e4] at I4
  have st4 : tn 0 s4.heap := T.keep _ _ _ st3 fun b _ o e => by rw [e4]; exact pushCells_keeps _ _ _ _ (Heap.get?_push_of_some _ e)
  have foot : ∀ {τ : L2.St} {G' : Hp} {s' : Shared}, Inv (X.blk s3 G3 scope ce fp) [] τ G' s' → (∀ b ∈ fp, G' b = none) → ∀ b ∈ fp, FpOk (X.blk s3 G3 scope ce fp) [] G' b := by
    intro τ G' s' J' z b hb
    refine ⟨z b hb, (J'.ok.exf b hb).1, J'.ok.exfs b hb, .inl hb, fun x c e => (J'.ok.exf b hb).2 x c e, fun p hp => ?_⟩
    have hp : p ∈ ([] : List (Addr × Obj)) ++ [] := hp
    simp at hp
  rw [← e4]
  have around : codeAny (model X.prog X.w) X.A (.compLoop (.SetComp elt [⟨tg, iter, ifs, 0⟩] scope pos) 0 (.ref it) (.ref D) ce) (compPost (model X.prog X.w) X.A X.xe none (EP X pins σ Q) (.ref D) s3.heap.objs.size) s4 := by
    refine PpSet.compLoopS_any (fun n s' => ∃ i G', Inv (X.blk s3 G3 scope ce fp) [] (L2.wipe σ (own.map (·.2))) G' s' ∧ tn i s'.heap ∧ (∀ b ∈ fp, G' b = none) ∧ W i n G') ?_ m0 ⟨0, G3, I4, st4, off, w0⟩
    rintro n s5 ⟨i, G5, I5, st5, n5, w5⟩
    rcases steps i n G5 w5 with ⟨stop, qq⟩ | ⟨go, N, hNx, one⟩
    · refine thnF (T.done (X.blk s3 G3 scope ce fp) rfl rfl rfl hc i [] s5 _ G5 (fun _ _ => False) I5 (foot I5 n5) st5 stop) fun r s6 z => ?_
      obtain ⟨rfl, I6⟩ := z
      have I7 : Inv X pins σ G5 s6 := by
        refine I3.call' (ch := fp) I6.os I6.base I6.hok I6.bare fun b hb => ?_
        have y := (f3 b hb).1.2
        exact ⟨y.2.2.1, y.1, y.2.2.2.1, y.2.2.2.2⟩
      have nC : G5 s3.heap.objs.size = none := by
        have y : G5 ce.locals = none := I6.free
        rwa [cL] at y
      obtain ⟨mm, hn, _⟩ := I6.loc
      replace hn : s6.heap.Ns ce.locals mm := hn
      rw [cL] at hn
      obtain ⟨y0, y1, y2, y3, y4, y5⟩ := I3.fpOk (H' := G5) (Nat.le_refl _) nC
      refine ⟨mm, hn, fun h'' sb => ⟨.ref D, G5, I7.turned (t' := s6.toks) (fun b o hb e => (sb.2 b hb).trans e) y0 y1 y3 y4 y5, rfl, qq⟩⟩
    · refine thnF (T.item (X.blk s3 G3 scope ce fp) rfl rfl rfl hc i [] s5 _ G5 (fun _ _ => False) I5 (foot I5 n5) st5 go) fun r s6 z => ?_
      obtain ⟨u, rfl, h6⟩ := z
      refine thnF h6 fun _ s7 z => ?_
      obtain ⟨x, G7, I7, r7, y7, st7, n7⟩ := z
      have P7 := I7.pinned (foot I7 n7) (T.obj _ _ st7)
      refine thnF (pg.run _ s7 _ G7 x u _ P7 r7 (one x G7 y7)) fun _ s8 z => ?_
      obtain ⟨σ8, G8, I8, hw8, q8⟩ := z
      refine thnF (pt.run _ s8 σ8 G8 _ I8 q8) fun b s9 z => ?_
      obtain ⟨G9, I9, q9⟩ := z
      -- the end of a turn
      have over : ∀ {s' : Shared} {G' : Hp}, Inv (X.blk s3 G3 scope ce fp) ([] ++ pinsAt fp s7.heap) σ8 G' s' → N G' →
          ∃ m, m < n ∧ ∃ i G', Inv (X.blk s3 G3 scope ce fp) [] (L2.wipe σ (own.map (·.2))) G' s' ∧ tn i s'.heap ∧ (∀ b ∈ fp, G' b = none) ∧ W i m G' := by
        intro s' G' J' nx
        obtain ⟨m', lt, w'⟩ := hNx G' nx
        have same : ∀ b ∈ fp, ∀ o, s7.heap.get? b = some o → s'.heap.get? b = some o ∧ G' b = none := by
          intro b hb o e
          have y := J'.pin (b, o) (List.mem_append_right _ (List.mem_append_right _ (mem_pinsAt hb e)))
          exact ⟨y.1, y.2.1⟩
        have len : (L2.wipe σ (own.map (·.2))).length = σ8.length := by rw [← hw8, wipe_length]
        refine ⟨m', lt, i + 1, G', (J'.unpinned (pins := [])).weak len (fun j v e => ?_), ?_, fun b hb => ?_, w'⟩
        · rw [← hw8] at e
          exact (wipe_some e).1
        · exact T.keep _ _ _ st7 fun b hb o e => (same b hb o e).1
        · obtain ⟨o, e, _⟩ := T.obj _ _ st7 b hb
          exact (same b hb o e).2
      cases b with
      | false =>
        rw [if_neg (by decide)]
        exact over I9 (q9.2 rfl)
      | true =>
        rw [if_pos rfl]
        refine thnF (px.run _ s9 σ8 G9 _ I9 (q9.1 rfl)) fun y s10 z => ?_
        obtain ⟨yv, G10, I10, r10, c, S, k, rfl, hD10, hk10, nx⟩ := z
        obtain ⟨tc, rfl⟩ := r10
        exact add_num (X := X.blk s3 G3 scope ce fp) I10 hD10 hk10 fun s11 I11 => over I11 nx
  exact PpSet.codeAny_compStart_set around (T.self X.A 0 _ _ _ st4 around)
end
end Dd
namespace Dd
open PySem PySem.Spec PyProof.Rows L2 PpSet
/-! ## sorted({e for x in xs if c}): the numbers that come up, each once, ascending -/
section
variable {K : PySem.W.Frag} {F : Fx} {ρ ρ' ρ0 ρ1 ρ2 : List Sl} {te tl : TE} {tt : TT} {g : TG} {vs : List Nat} {Φ : Rw → List Sl → Prop} {wi : TI} {w : World} {d : Da}
structure InS (w : World) (F : Fx) (n : Ns) (σ : L2.St) (vs : List Nat) (H1 : Hp) (D : Addr) (Z : List Int → List Sl → Prop) (H' : Hp) : Prop where
  ex : ∃ acc ρ' S k, Z acc (wipeS ρ' vs) ∧ EnvOk F (add n D) (wipeS ρ' vs) (L2.wipe σ vs) H' ∧ H' D = some (SetO w D S k) ∧ (∀ j : Int, S j = true ↔ j ∈ acc) ∧ k ≤ acc.length ∧ Ext n H1 H' ∧ ρ'.length = σ.length
theorem inS_turn {n : Ns} {σ : L2.St} {H1 H' : Hp} {D : Addr} {Z Z1 : List Int → List Sl → Prop} {v : V} (h1 : H1 D = none) (ho : ¬ n.ow D) (h0 : F.H0 D = none) (p : InS w F n σ vs H1 D Z H') (hv : ∀ ρ', EnvOk F (add n D) ρ' (L2.wipe σ vs) H' → Dn (add n D) H' v d)
    (hz : ∀ acc ρ', Z acc ρ' → acc.length < 64)
    (hs : ∀ acc ρ', Z acc (wipeS ρ' vs) → ∃ ρ1, TgC g vs (wipeS ρ' vs) d ρ1 ∧ WpB tt ρ1 fun b ρ2 => (b = true → Wp te ρ2 fun k ρ3 => ∃ e, soft k = .da (.int e) ∧ Z1 (acc ++ [e]) (wipeS ρ3 vs)) ∧ (b = false → Z1 acc (wipeS ρ2 vs))) :
    g v (L2.wipe σ vs) H' fun σ2 H2 => L2.wipe σ2 vs = L2.wipe σ vs ∧ tt σ2 H2 fun b H3 => (b = true → te σ2 H3 (AddI w D (InS w F n σ vs H1 D Z1))) ∧ (b = false → InS w F n σ vs H1 D Z1 H3) := by
  obtain ⟨acc, ρ', S, c, z, E', e1, e2, e3, x, len⟩ := p.ex
  obtain ⟨ρ1, hg, hb⟩ := hs acc ρ' z
  have ww : ∀ τ : L2.St, L2.wipe (L2.wipe τ vs) vs = L2.wipe τ vs := by
    intro τ
    have key : ∀ (a b : List Nat), (∀ y ∈ b, y ∈ a) → L2.wipe (L2.wipe τ a) b = L2.wipe τ a := by
      intro a b
      induction b with
      | nil => intro _; rfl
      | cons y b ih =>
        intro h
        rw [L2.wipe, ih fun w hw => h w (List.mem_cons_of_mem _ hw)]
        cases hy : (L2.wipe τ a)[y]? with
        | none => exact List.set_eq_of_length_le (List.getElem?_eq_none_iff.mp hy)
        | some o =>
          cases o with
          | none => exact list_set_self _ _ _ hy
          | some q => exact absurd (h y List.mem_cons_self) (wipe_some hy).2
    exact key vs vs fun _ h => h
  have el : ∀ τ : L2.St, L2.wipe τ vs = L2.wipe (L2.wipe σ vs) vs → τ.length = σ.length := fun τ e => by
    have := congrArg List.length e
    rw [wipe_length, wipe_length, wipe_length] at this
    exact this
  refine hg F _ _ H' v E' (hv _ E') _ fun σ2 w2 E2 => ⟨w2.trans (ww σ), hb F _ σ2 H' E2 _ fun H3 b ρ2 ⟨ht, hf⟩ E3 x3 => ?_⟩
  have dl : ∀ {G : Hp}, Ext (add n D) H' G → G D = some (SetO w D S c) := fun y => y _ _ e1 ho
  have ee : ∀ {G : Hp}, Ext (add n D) H' G → Ext n H1 G := fun y => x.trans y
  refine ⟨fun hbt => ?_, fun hbf => ?_⟩
  · subst hbt
    refine ht rfl F _ σ2 H3 E3 _ fun y H4 k ρ3 ⟨e, hk, z3⟩ E4 x4 r4 => ?_
    have r4 := r4.soft E3
    rw [hk] at r4
    have x5 := x3.trans x4
    have h5 := hz acc _ z
    cases r4 with
    | int =>
      refine ⟨e, S, c, rfl, dl x5, ?_, ⟨acc ++ [e], ρ3, _, _, z3, ?_, upd_same, fun j => ?_, ?_, ?_, ?_⟩⟩
      · have : scanBound = 4096 := rfl
        omega
      · have E5 := (E4.wipe vs).mutO (l := D) (o := SetO w D (fun j => S j || decide (j = e)) (if S e = true then c else c + 1)) (.inr rfl) ho h0
        rw [w2, ww σ] at E5
        exact E5
      · have := e2 j
        simp only [Bool.or_eq_true, decide_eq_true_eq, List.mem_append, List.mem_singleton, this]
      · rw [List.length_append, List.length_singleton]
        split <;> omega
      · intro a o q k
        rw [upd_ne (ne_of_none q h1)]
        exact ee x5 a o q k
      · rw [← E4.len]
        exact el σ2 (w2.trans rfl)
  · subst hbf
    refine ⟨acc, ρ2, S, c, hf rfl, ?_, dl x3, e2, e3, ee x3, ?_⟩
    · have E5 := E3.wipe vs
      rw [w2, ww σ] at E5
      exact E5
    · rw [← E3.len]
      exact el σ2 (w2.trans rfl)
theorem inS_grow {n : Ns} {σ : L2.St} {H1 H' H2 : Hp} {D : Addr} {Z : List Int → List Sl → Prop} (p : InS w F n σ vs H1 D Z H') (g : Grow H' H2) : InS w F n σ vs H1 D Z H2 := by
  obtain ⟨acc, ρ', S, c, z, E', e1, e2, e3, x, len⟩ := p.ex
  exact ⟨acc, ρ', S, c, z, E'.grow g, g _ _ e1, e2, e3, x.trans g.ext, len⟩
theorem inS_fw {G : Fx} {n : Ns} {σ : L2.St} {H1 H' : Hp} {D : Addr} {Z : List Int → List Sl → Prop} (f : Fw F G) (p : InS w G n σ vs H1 D Z H') : InS w F n σ vs H1 D Z H' := by
  obtain ⟨acc, ρ', S, c, z, E', r⟩ := p.ex
  exact ⟨acc, ρ', S, c, z, f.un E', r⟩
/-- what is to be shown of such a set: Z m acc: acc came up within the first m -/
def LsK (g : TG) (tt : TT) (te : TE) (vs : List Nat) (Φ : Rw → List Sl → Prop) (ds : List Da) (ρ0 : List Sl) : Prop := ∃ Z : Nat → List Int → List Sl → Prop, Z 0 [] (wipeS ρ0 vs) ∧ (∀ m acc ρ', m ≤ ds.length → Z m acc ρ' → acc.length < 64) ∧
  (∀ (m : Nat) (d : Da) (acc : List Int) (ρ' : List Sl), ds[m]? = some d → Z m acc (wipeS ρ' vs) → ∃ ρ1, TgC g vs (wipeS ρ' vs) d ρ1 ∧ WpB tt ρ1 fun b ρ2 => (b = true → Wp te ρ2 fun k ρ3 => ∃ e, soft k = .da (.int e) ∧ Z (m + 1) (acc ++ [e]) (wipeS ρ3 vs)) ∧ (b = false → Z (m + 1) acc (wipeS ρ2 vs))) ∧
  ∀ acc ρ', Z ds.length acc ρ' → ∀ ns : List Int, ns.Pairwise (· < ·) → (∀ k : Int, k ∈ ns ↔ k ∈ acc) → Φ (.nw (inz ns)) ρ'
theorem dnl_ints {n : Ns} {H : Hp} : ∀ ns : List Int, DnL n H (ns.map V.int) (inz ns)
  | [] => .nil
  | a :: ns => .cons (.int a) (dnl_ints ns)
theorem wp_sortSet (h : WpI wi ρ fun ds ρ0 => LsK g tt te vs Φ ds ρ0) : Wp (tCB (rSortedSet w) (tCons (tSetI w wi g tt te vs) tNil)) ρ Φ := fun F n σ H E Q q => h F n σ H E _ fun J H1 ds ρ0 G f w0 E1 x1 wk => by
  obtain ⟨Z, h0, hz, hs, hd⟩ := f
  intro D hD
  have gg := Grow.upd (o := SetO w D (fun _ => false) 0) hD
  have ho : ¬ n.ow D := fun z => E1.al D (n.le _ z) hD
  have G0 := E1.h0 hD
  have start : InS w G n σ vs H1 D (Z 0) (upd H1 D (SetO w D (fun _ => false) 0)) := by
    refine ⟨[], ρ0, _, _, h0, ?_, upd_same, fun j => by simp, Nat.zero_le _, gg.ext, by rw [E1.len]⟩
    exact (E1.more hD gg (by rw [upd_same]; simp)).wipe vs
  refine ⟨fun i m G' => m + i = ds.length ∧ InS w G n σ vs H1 D (Z i) G', ⟨ds.length, by omega, start⟩, ?_⟩
  rintro i m G' ⟨hm, p⟩
  have gd : ∃ n ρ σ, EnvOk G n ρ σ G' := by
    obtain ⟨acc, ρ', S, c, z, E', _⟩ := p.ex
    exact ⟨_, _, _, E'⟩
  by_cases hi : i < ds.length
  · refine .inr ⟨wk.goes i G' hi gd, InS w G n σ vs H1 D (Z (i + 1)), fun G2 p2 => ⟨m - 1, by omega, by omega, p2⟩, fun x G2 y => ?_⟩
    obtain ⟨gr, d, e1, e2⟩ := wk.yields i G' x G2 hi gd y
    refine inS_turn (F := G) hD ho G0 (inS_grow p gr) (d := d) (fun ρ' E' => ?_) (fun acc ρ' z => hz i acc ρ' (by omega) z) (fun acc ρ' z => hs i d acc ρ' e1 z)
    obtain ⟨acc, ρ2, S, c, z, E2, _⟩ := p.ex
    exact e2 _ _ _ E2
  · have hie : i = ds.length := by omega
    subst hie
    refine .inl ⟨wk.stops G' gd, ?_⟩
    obtain ⟨acc, ρ', S, c, z, E', e1, e2, e3, x, len⟩ := (inS_fw w0 p).ex
    have E2 : EnvOk F (add n D) (wipeS ρ' vs) σ G' := E'.unwipe len.symm
    have E1' := w0.un E1
    have E3 : EnvOk F n (wipeS ρ' vs) σ G' := by
      refine ⟨E2.len, fun i s e => ?_, E2.ownF, E2.apF, E1'.sub, E2.ion, E2.al0, fun a h => E2.al a (.inl h), E2.kp, fun p hp => ⟨(E2.gh p hp).1, fun w => (E2.gh p hp).2.1 (.inl w), (E2.gh p hp).2.2.less fun a w => .inl w⟩⟩
      obtain ⟨o, g1, g2⟩ := E2.sl i s e
      refine ⟨o, g1, ?_⟩
      cases s with
      | no => trivial
      | is d =>
        obtain ⟨v, f1, f2⟩ := g2
        exact ⟨v, f1, f2.less fun a w => .inl w⟩
      | own b ds =>
        obtain ⟨l, f1, f2⟩ := g2
        exact ⟨l, f1, f2.re (m := n) fun a _ _ z w => z (.inl w)⟩
    have ha : acc.length < 64 := hz _ _ _ (Nat.le_refl _) z
    refine ⟨D, S, c, rfl, e1, by omega, fun ns p hp1 hp2 _ hp => ?_⟩
    have g2 := Grow.upd (o := .lst (ns.map V.int)) hp
    refine q _ _ _ _ (hd acc _ z ns hp1 (fun k => (hp2 k).trans (e2 k))) (E3.grow g2) ((x1.trans x).trans g2.ext) ?_
    exact ⟨p, _, rfl, fresh_pre E3 (x1.trans x) hp, E3.more hp g2 (by rw [upd_same]; simp), upd_same, dnl_ints ns⟩
/-! the program's side -/
variable {X : Cx} {P : Program}
theorem pe_sset (m : PwIs P w) (h2 : X.w = w) (i : Nat) {p pos pos' : Pos} {elt tg iter : Expr} {ifs : List Expr} {scope : Scope}
    (hg : ∀ (s : Shared) (H : Hp) (C : Addr) (cl : List (Str × Addr)) (fp : List Addr), PG (X.blk s H scope (compEnvC scope cl C X.env) fp) tg (gName i)) (hc : X.calm = true) (hN : X.N.Nodup)
    (hS : Gl X "sorted") (hm : X.mg "sorted" = none)
    (ok : blkC X.N X.env.scope scope [(X.N.getD i "", i)] = true) (hi : PI X tg iter wi)
    (ht : ∀ (s : Shared) (H : Hp) (C : Addr) (cl : List (Str × Addr)) (fp : List Addr), PTs (X.blk s H scope (compEnvC scope cl C X.env) fp) ifs tt)
    (he : ∀ (s : Shared) (H : Hp) (C : Addr) (cl : List (Str × Addr)) (fp : List Addr), PE (X.blk s H scope (compEnvC scope cl C X.env) fp) elt te) (hs : ∀ x, foldedSetIterable iter X.env x = pure x := by intro _; rfl)
    (hs2 : starEach [.SetComp elt [⟨tg, iter, ifs, 0⟩] scope pos] X.env = (false, eval (.SetComp elt [⟨tg, iter, ifs, 0⟩] scope pos) X.env) :: starEach [] X.env := by rfl) :
    PE X (.Call (.Name "sorted" p) [.SetComp elt [⟨tg, iter, ifs, 0⟩] scope pos] [] pos') (tCB (rSortedSet w) (tCons (tSetI w wi (gName i) tt te [i]) tNil)) := by
  subst h2
  exact pe_callB (cr_sortedSet hc) hS hm boot_sorted (pa_cons (pe_setI (own := [(X.N.getD i "", i)]) (pos := pos) hc hN hi (blkOk_by ok) hg ht he hs) pa_nil hs2) (he := hs2)
end
end Dd
namespace Dd
open PySem PySem.Spec PyProof.Rows L2
/-! ## a def whose answer is a new list or else plain, as the arguments are -/
def SpE {α : Type} (enc : α → List Da) (pre : α → Prop) (c : α → Bool) (post1 : α → List Da → Prop) (post2 : α → Da → Prop) : Sp := fun vs H Q _ => ∃ (n : Ns) (x : α), (∀ a, n a → H a ≠ none) ∧ DnL n H vs (enc x) ∧ pre x ∧
  (c x = true → ∀ p us H' r, post1 x r → H p = none → Grow H H' → H' p = some (.lst us) → DnL (add n p) H' us r → Q (.ref p) H') ∧ (c x = false → ∀ v H' r, post2 x r → Grow H H' → Dn n H' v r → Q v H')
section
variable {α : Type} {K : PySem.W.Frag} {F : Fx} {ρ : List Sl} {tx : TA} {E : XK} {Φ : Rw → List Sl → Prop}
theorem wp_callE {enc : α → List Da} {pre : α → Prop} {c : α → Bool} {post1 : α → List Da → Prop} {post2 : α → Da → Prop} (h : WpA tx ρ fun ks ρ1 => ∃ x, AllDa ks (enc x) ∧ pre x ∧ (c x = true → ∀ r, post1 x r → Φ (.nw r) ρ1) ∧ (c x = false → ∀ r, post2 x r → Φ (.da r) ρ1)) : Wp (tCall (SpE enc pre c post1 post2) [] E tx) ρ Φ := fun F n σ H E0 Q g =>
  h F n σ H E0 _ fun vs H1 ks ρ1 f E1 x1 r1 => by
    obtain ⟨x, hs, hp, q1, q2⟩ := f
    rw [List.append_nil]
    refine ⟨n, x, E1.al, hs.rel r1, hp, fun hc p us H' r hr hp' gr h1 h2 => ?_, fun hc v H' r hr gr h => ?_⟩
    · exact g _ H' _ ρ1 (q1 hc r hr) (E1.grow gr) (x1.trans gr.ext) ⟨p, us, rfl, fresh_pre E1 x1 hp', E1.more hp' gr (by rw [h1]; simp), h1, h2⟩
    · exact g v H' _ ρ1 (q2 hc r hr) (E1.grow gr) (x1.trans gr.ext) h
end
end Dd
namespace Dd
open PySem PySem.Spec PyProof.Rows L2
/-! ## k in d; a dict that is locked, walked again and again -/
def rInDic (K : PySem.W.Frag) (P : Program) (w : World) : R2 := fun x y H Q => ∃ (a b : Addr) (k : PyData) (es : List (PyData × Addr × V)), x = .ref b ∧ y = .ref a ∧ (H a = some (dicO P w a es) ∨ ∃ o, H a = some (.frz o (dicO P w a es))) ∧
  (∀ q ∈ es, KyH K H q.1 q.2.1) ∧ KyH K H k b ∧ Q (.bl (es.any fun p => decide (p.1 = k))) H
section
variable {X : Cx} {K : PySem.W.Frag} {P : Program} {w : World}
theorem op_inDic {j : Nat} (hr : Room j X.A) : OpR X (compareOp .In) (rInDic X.K X.prog X.w) := by
  intro pins s σ H x y v u Q I rx ry h
  obtain ⟨a, b, k, es, rfl, rfl, e, hk, kk, q⟩ := h
  obtain rfl : v = Value.ref b := rx
  obtain rfl : u = Value.ref a := ry
  obtain ⟨z, hd, xs, rel, dd⟩ := dic_of I e hk
  refine wpAny_in_heap (knd := deepKind X.prog X.w) (show X.A.units + 1 ≤ 9850 by have := units_of hr; omega) (ky_is I kk) hd dd ?_
  rw [← any_rel rel k]
  exact ⟨.bl _, H, I.tok _, rfl, q⟩
theorem op_inDicK (m : PwIs P w) (m2 : KIs K) (h1 : X.prog = P) (h2 : X.w = w) (h3 : X.K = K) {j : Nat} (hr : Room j X.A) : OpR X (compareOp .In) (rInDic K P w) := by
  subst h1 h2 h3
  exact op_inDic hr
/-- the statement is run with the dict of slot i locked -/
def tLockD (P : Program) (w : World) (i : Nat) (t : TS) : TS := fun D σ H => ∃ (d : Addr) (es : List (PyData × Addr × V)), σ[i]? = some (some (.ref d)) ∧ H d = some (dicO P w d es) ∧ ∀ o, t D σ (upd H d (.frz o (dicO P w d es)))
theorem ps_lockDK (i : Nat) {st : Stmt} {t : TS} (m : PwIs P w) (h1 : X.prog = P) (h2 : X.w = w) (h : PS X st t) : PS X st (tLockD P w i t) := by
  subst h1 h2
  refine ⟨fun pins s σ H D I hq => ?_⟩
  obtain ⟨d, es, _, hd, q⟩ := hq
  obtain ⟨od, I2⟩ := I.lock hd trivial
  exact h.run pins s σ _ D I2 (q od)
def iDicF (P : Program) (w : World) (td : TE) : TI := fun σ H R => td σ H fun x H1 => ∃ (d : Addr) (es : List (PyData × Addr × V)) (o : Obj), x = .ref d ∧ H1 d = some (.frz o (dicO P w d es)) ∧ R (ItD d o (dicO P w d es) es) H1
theorem pi_dicF {tg e : Expr} {td : TE} (he : PE X e td) : PI X tg e (iDicF X.prog X.w td) := by
  refine ⟨fun pins s σ H R I h => ?_⟩
  refine thn (he.run pins s σ H _ I h) fun u s1 ⟨x, H1, I1, rx, d, es, od, ex, hd, q⟩ => ?_
  subst ex
  obtain rfl : u = Value.ref d := rx
  obtain ⟨hs, hgd, hx, ents, ep, hdt, hsz, ent⟩ := frzD I1 hd
  refine iter_keys hs hgd hx hdt (pi_one (tk := s1.toks) I1 _ (turn_dic _ hdt) ⟨_, Heap.get?_push_size _ rfl, rfl, ?_⟩ q)
  rw [hsz] <;> rfl
theorem pi_dicFK {tg e : Expr} {td : TE} (m : PwIs P w) (h1 : X.prog = P) (h2 : X.w = w) (he : PE X e td) : PI X tg e (iDicF P w td) := by
  subst h1 h2
  exact pi_dicF he
end
section
variable {K : PySem.W.Frag} {P : Program} {w : World} {F G : Fx} {n : Ns} {ρ ρ' ρ0 ρ1 ρ2 ρ3 : List Sl} {te : TE} {k k1 k2 : Rk} {ds es : List Da} {i : Nat} {H : Hp} {σ : L2.St} {t : TS} {D : Ends} {kvs : List (Da × Da)}
theorem op_indic {b : Bool} (s1 : see ρ k1 = some (.tup ds)) (kd : KyDa (.tup ds)) (s2 : ρ[i]? = some (.own b (.dic (dicO P w) kvs))) (hk : ∀ p ∈ kvs, KyDa p.1) : Op (rInDic K P w) ρ k1 (.sl i) (.da (.bl (kvs.any fun p => decide (toPy p.1 = toPy (.tup ds))))) := fun F n σ H x y Q E r1 r2 q => by
  have r := peekE (K := K) E r1 s1 kd.pl
  obtain ⟨a, us, rfl, _⟩ := peekT E r1 s1
  obtain ⟨u, h1, lc, e1, es, e2, e3⟩ := E.sl i _ s2
  subst e1
  have r' : σ[i]? = some (some y) := r2
  rw [h1] at r'
  cases r'
  refine ⟨lc, a, _, es, rfl, rfl, .inl e2, e3.ky hk, ⟨kd.ky, kd.dp, r⟩, ?_⟩
  rw [e3.anyP]
  exact q _ H E .refl (.bl _)
/-- a dict of its own is locked -/
theorem nx_lockD {t' : TS} (hs : ρ[i]? = some (.own false (.dic (dicO P w) kvs))) (h : ∀ o, Nx F (ρ.set i (.is (.dic (frzO o P w) kvs))) (t' D)) : Nx F ρ (tLockD P w i t' D) := fun n σ H E => by
  obtain ⟨u, h1, lc, e1, es, e2, e3⟩ := E.sl i _ hs
  subst e1
  have q1 := E.own i false _ lc hs h1
  refine ⟨lc, es, h1, e2, fun o => ?_⟩
  have x : Ext n H (upd H lc (.frz o (dicO P w lc es))) := fun a u e k => by
    rw [upd_ne (fun z => k (by rw [z]; exact q1.1))]
    exact e
  have E1 := E.mut (u := .frz o (dicO P w lc es)) (es := .dic (frzO o P w) kvs) hs h1 ⟨es, upd_same, DnE.ext x _ _ e3⟩
  have hil : i < ρ.length := (List.getElem?_eq_some_iff.mp hs).1
  obtain ⟨n', hsub, hn', E2⟩ := E1.freezeX (i := i) (ds := .dic (frzO o P w) kvs) (by rw [List.getElem?_set_self hil])
  rw [List.set_set] at E2
  exact h o n' σ _ E2
theorem wi_dicF {ΦI : List Da → List Sl → Prop} (h : Wp te ρ fun k ρ0 => ∃ o kvs, soft k = .da (.dic (frzO o P w) kvs) ∧ ΦI (kvs.map (·.1)) ρ0) : WpI (iDicF P w te) ρ ΦI := fun F n σ H E R g => h F n σ H E _ fun v H1 k ρ0 f E1 x1 r1 => by
  have r1 := r1.soft E
  obtain ⟨o, kvs, hk, q⟩ := f
  rw [hk] at r1
  have r2 : Dn n H1 v (.dic (frzO o P w) kvs) := r1
  cases r2 with
  | @dic a _ es _ ha hna he =>
    refine ⟨a, es, o, rfl, ha, ?_⟩
    refine g _ H1 _ ρ0 (F.w a (.frz o (dicO P w a es)) (es.map fun q => V.ref q.2.1) (kvs.map (·.1))) q (.w a _ _ _ .refl) (E1.wrap ha hna he.keys.1) x1 ?_
    have hl := he.len
    refine ⟨fun i H hi ⟨n', ρ', σ', E'⟩ => ⟨(E'.gh _ List.mem_cons_self).1, by rw [List.length_map] at hi; omega⟩, fun H ⟨n', ρ', σ', E'⟩ => ⟨(E'.gh _ List.mem_cons_self).1, by rw [List.length_map]; omega⟩, fun i H x H' hi ⟨n', ρ', σ', E'⟩ y => ?_⟩
    obtain ⟨rfl, kk, b, v, hes, rfl⟩ := y
    obtain ⟨d, g1, g2⟩ := (E'.gh _ List.mem_cons_self).2.2.getV i (.ref b) (by simp [hes])
    refine ⟨.refl, d, g1, fun n2 ρ2 σ2 E2 => ?_⟩
    obtain ⟨d2, e3, e4⟩ := (E2.gh _ List.mem_cons_self).2.2.getV i (.ref b) (by simp [hes])
    have : d2 = d := Option.some.inj (e3.symm.trans g1)
    exact this ▸ e4
end
end Dd
namespace Dd
open PySem PySem.Spec PyProof.Rows L2
/-! ## list(range(a, b)) -/
def rgI2 (a b : Int) : List Int := (List.range (b - a).toNat).map fun i : Nat => a + (i : Int)
theorem rgV_int2 (a b : Int) : rgV a b = (rgI2 a b).map V.int := by
  unfold rgV rgI2
  rw [List.map_map]
  rfl
section
variable {F : Fx} {ρ : List Sl} {ta tb : TE} {Φ : Rw → List Sl → Prop}
theorem wp_lrg2 (h : Wp ta ρ fun k1 ρ1 => ∃ a, soft k1 = .da (.int a) ∧ Wp tb ρ1 fun k2 ρ2 => ∃ b, soft k2 = .da (.int b) ∧ (-10000 ≤ a ∧ a ≤ 10000 ∧ -10000 ≤ b ∧ b ≤ 10000) ∧ Φ (.nw (inz (rgI2 a b))) ρ2) : Wp (tLstRg (tRg2 ta tb)) ρ Φ := fun F n σ H E Q g =>
  h F n σ H E _ fun v H1 k1 ρ1 f E1 x1 r1 => by
    obtain ⟨a, hk1, f⟩ := f
    have r1 := r1.soft E
    rw [hk1] at r1
    refine f F n σ H1 E1 _ fun u H2 k2 ρ2 f2 E2 x2 r2 => ?_
    obtain ⟨b, hk2, z, q⟩ := f2
    have r2 := r2.soft E1
    rw [hk2] at r2
    have r1' : Dn n H1 v (.int a) := r1
    have r2' : Dn n H2 u (.int b) := r2
    cases r1'
    cases r2'
    refine ⟨a, b, rfl, rfl, ⟨by omega, by omega, by omega, by omega, by omega⟩, ?_⟩
    rw [rgV_int2]
    exact mk_o E2 (DnL.ofInts _) fun v H' E' x' r' => g v H' _ ρ2 q E' ((x1.trans x2).trans x') (r'.pre E2 (x1.trans x2))
end
end Dd
namespace Dd
open PySem PySem.Spec PyProof.Rows L2 PpSet
/-! ## set(xs), xs a list of numbers -/
section
variable {P : Program} {w : World} {A : Around} {E : Value → Shared → Prop} {s : Shared}
/-- a type is called: its maker, then what begins the new object, each by its code -/
theorem call_two {T mk ini : String} {xs : List Value} {Q M : Value → Shared → Prop} (ft : TypeCalled T mk ini) (ck : checkTypeCall T ⟨xs, []⟩ = pure ())
    (first : codeAny (model P w) A.in1 (.call (.builtin mk) ⟨.type T :: xs, []⟩) (wants M E) s)
    (then_ : ∀ z t, M z t → t.TypeIs z T ∧ codeAny (model P w) A.in1 (.call (.builtin ini) ⟨z :: xs, []⟩) (wants (fun r u => r = .none ∧ Q z u) E) t) :
    wpAny (model P w) A (call (.type T) xs) Q E s := by
  obtain ⟨cc, rest, mro⟩ := ft.mro
  have made := ft.made
  have below := ft.sub
  have no := ft.notType
  have may := ft.canCreate
  apply wpAny_call
  apply codeAny_of_tree
  show wpAny _ _ (callAny (.type T) ⟨xs, []⟩) _ _ _
  apply wpAny_pure
  refine ⟨Code.quiet_builtin _ (by decide +kernel), ?_⟩
  apply codeAny_builtin F.entry_type_call
  rw [Around.under_plain (weight_type_call_type T xs []) rfl]
  repeat (any_goals (first | assumption | wp_step))
  refine codeAny_mono first ?_
  rintro (e | fl) t ht
  · exact ht
  cases fl with
  | ret z =>
    obtain ⟨ty, nx⟩ := then_ z t ht
    have lk := ft.init.lookup
    have bd := ft.init.bind z
    repeat (any_goals (first | assumption | wp_step))
    refine codeAny_mono nx ?_
    rintro (e | fl) u hu
    · exact hu
    cases fl with
    | ret r =>
      obtain ⟨rfl, q⟩ := hu
      repeat (any_goals (first | assumption | wp_step))
    | _ => exact hu.elim
  | _ => exact ht.elim
theorem call_setL {l : Addr} {items : Array Value} (ns : List Int) {Q : Value → Shared → Prop} (hh : A.handled = none)
    (hl : s.heap.IsList l items) (hi : IntsAre items.toList ns) (few : ns.length + 1 < scanBound)
    (q : ∀ (h' : Heap) (tk c : Nat), SetR w h' s.heap.objs.size (fun j => decide (j ∈ ns)) c → c ≤ ns.length →
      (∀ b o, s.heap.get? b = some o → h'.get? b = some o) → Q (.ref s.heap.objs.size) { s with heap := h', toks := tk }) :
    wpAny (model P w) A (call (.type "set") [.ref l]) Q E s := by
  have size : items.size = ns.length := by
    have := IntsAre.length hi
    rwa [Array.length_toList] at this
  refine call_two (M := fun z t => z = .ref s.heap.objs.size ∧ t = { s with heap := s.heap.push (emptySet w) })
    F.called_set (F.typeCall_set_1 (.ref l)) (code_set_led1 (.ref l) ⟨rfl, rfl⟩) ?_
  rintro _ _ ⟨rfl, rfl⟩
  have gS := Heap.get?_push_size s.heap (o := emptySet w) rfl
  have tS : Shared.TypeIs { s with heap := s.heap.push (emptySet w) } (.ref s.heap.objs.size) "set" := ⟨_, gS, rfl⟩
  refine ⟨tS, codeAny_call_builtin F.called_set.init.plain F.entry_set_init (check_set_init_1 tS ?_)⟩
  obtain ⟨o, ho, hc, n, hd⟩ := id hl
  have lL : l < s.heap.objs.size := Heap.lt_size ho
  have hl2 : (s.heap.push (emptySet w)).IsList l items := ⟨o, Heap.get?_push_of_some _ ho, hc, n, hd⟩
  obtain ⟨cls, dict, data, slots⟩ := o
  simp only at hc hd
  subst hc
  subst hd
  have ho2 : (s.heap.push (emptySet w)).get? l = some { cls := .type "list", dict := dict, data := .seq items n, slots := slots } := Heap.get?_push_of_some _ ho
  have z1 := F.sub_list_set
  have z2 := F.sub_list_frozenset
  have z3 : (Value.type "list" == Value.type "dict") = false := by decide
  have sz : (s.heap.push (emptySet w)).objs.size = s.heap.objs.size + 1 := Heap.size_push ..
  have ne : l ≠ (s.heap.push (emptySet w)).objs.size := by rw [sz]; exact Nat.ne_of_lt (Nat.lt_succ_of_lt lL)
  unfold Builtin.«set.__init__»
  unfold noKeywords Builtin.Frozenset.updateFrom
  generalize hit : pyIter = it
  wp_walk
  subst hit
  refine wpAny_pyIter_list hl2 ?_
  apply wpAny_bind
  apply wpAny_runValue
  have no : A.in1.in1.in1.handled = none := by simp [hh]
  refine set_update_ints ((Walks.list no _ l ne items).toS) s.heap.objs.size ?notIn ns size few ?vals items.size 0 _ (by omega) (Nat.zero_le _) ⟨⟨_, Heap.get?_push_size _ rfl, rfl, rfl⟩, hl2.push _⟩ ?start ?fin
  case notIn =>
    rw [sz]
    intro h
    rcases List.mem_cons.mp h with e | e
    · exact absurd e (Nat.ne_of_lt (Nat.lt_succ_self _))
    · exact absurd (List.mem_singleton.mp e) (Nat.ne_of_gt lL)
  case vals =>
    intro i v hv
    have hi2 : i < ns.length := by rw [← size]; exact (Array.getElem?_eq_some_iff.mp hv).1
    obtain ⟨t, e⟩ := PyProof.Rows.IntsAre.int_at hi i v (by rw [Array.getElem?_toList]; exact hv)
    have e2 : ns[i]? = some ns[i] := List.getElem?_eq_getElem hi2
    refine ⟨ns[i], t, e2, ?_⟩
    rw [e, List.getD_eq_getElem?_getD, e2]
    rfl
  case start => exact ⟨0, Nat.le_refl 0, setR_new_at (Heap.get?_push_of_some _ gS)⟩
  case fin =>
    rintro ⟨h', g2, d2, tk, o2⟩ c m hc hS
    obtain rfl : g2 = s.gens := m.gens
    obtain rfl : d2 = s.drawn := m.drawn
    obtain rfl : o2 = s.os := m.os
    rw [size] at hc
    apply wpAny_pure
    show wpAny _ _ (ret Value.none) _ _ _
    refine wpAny_pure ⟨rfl, q h' tk c hS hc fun b o e => ?_⟩
    have lb : b < s.heap.objs.size := Heap.lt_size e
    refine m.heap b o (fun h => ?_) (Heap.get?_push_of_some _ (Heap.get?_push_of_some _ e))
    rcases List.mem_cons.mp h with e | e
    · exact absurd e (Nat.ne_of_lt lb)
    · have e := List.mem_singleton.mp e
      rw [sz] at e
      exact absurd e (Nat.ne_of_lt (Nat.lt_succ_of_lt lb))
end
def rSetL (K : PySem.W.Frag) (w : World) : List V → Hp → VK → Prop := fun xs H Q => ∃ (l : Addr) (ns : List Int), xs = [V.ref l] ∧ SqL K H l (ns.map V.int) ∧ ns.length < 64 ∧
  ∀ (a : Addr) (c : Nat), H a = none → c ≤ ns.length → Q (.ref a) (upd H a (SetO w a (fun j => decide (j ∈ ns)) c))
section
variable {X : Cx} {P : Program} {w : World} {K : PySem.W.Frag}
theorem cr_setL (hc : X.calm = true) : CallR X (.type "set") (rSetL X.K X.w) := by
  intro pins s σ H vs us Q I r h
  obtain ⟨l, ns, rfl, hq, few, q⟩ := h
  rw [Vals.ref1 r]
  obtain ⟨its, rv, pl, hz⟩ := I.list hq
  have b : scanBound = 4096 := rfl
  refine call_setL ns (I.ok.hd hc) pl.isList (by simpa using ints_of_vals rv) (by omega) fun h' tk c R hle hk => ?_
  exact ⟨.ref _, _, I.laid (t' := tk) hk (Nat.le_refl _) (setO_new R), rfl, q _ c (I.hok.fresh (Nat.le_refl _)) hle⟩
theorem cr_setLK (m : KIs K) (m2 : PwIs P w) (h1 : X.K = K) (h2 : X.w = w) (hc : X.calm = true) : CallR X (.type "set") (rSetL K w) := by
  subst h1 h2
  exact cr_setL hc
theorem cr_sortedSetK (m2 : PwIs P w) (h2 : X.w = w) (hc : X.calm = true) : CallR X (.builtin "sorted") (rSortedSet w) := by
  subst h2
  exact cr_sortedSet hc
end
section
variable {K : PySem.W.Frag} {F : Fx} {ρ : List Sl} {te : TE} {Φ : Rw → List Sl → Prop} {w : World}
theorem wp_sortSetL (h : Wp te ρ fun k ρ0 => ∃ ns : List Int, soft k = .da (.lst (inz ns)) ∧ ns.length < 64 ∧ ∀ zs : List Int, zs.Pairwise (· < ·) → (∀ k : Int, k ∈ zs ↔ k ∈ ns) → Φ (.nw (inz zs)) ρ0) :
    Wp (tCB (rSortedSet w) (tCons (tCB (rSetL K w) (tCons te tNil)) tNil)) ρ Φ := fun F n σ H E Q q => h F n σ H E _ fun v H1 k ρ0 f E1 x1 r1 => by
  have r1 := r1.soft E
  obtain ⟨ns, hk, few, f⟩ := f
  rw [hk] at r1
  cases r1 with
  | @lst a us _ ha hna hds =>
    rw [hds.inz] at ha
    refine ⟨a, ns, rfl, .inl (.inl ha), few, fun D c hD hc => ⟨D, _, c, rfl, upd_same, by omega, fun zs p h1 h2 _ hp => ?_⟩⟩
    have gg := Grow.upd (o := SetO w D (fun j => decide (j ∈ ns)) c) hD
    have E2 := E1.grow gg
    have g2 := Grow.upd (o := .lst (zs.map V.int)) hp
    refine q _ _ _ _ (f zs h1 fun k => (h2 k).trans decide_eq_true_iff) (E2.grow g2) ((x1.trans gg.ext).trans g2.ext) ?_
    exact ⟨p, _, rfl, fresh_pre E2 (x1.trans gg.ext) hp, E2.more hp g2 (by rw [upd_same]; simp), upd_same, dnl_ints zs⟩
end
end Dd
namespace Dd
open PySem PySem.Spec PyProof.Rows L2
/-! ## a <= b <= c and a <= b <= c <= d of whole numbers, as a test -/
def tLe2 (ta tb tc : TE) : TT := fun σ H Q => ta σ H fun x H1 => tb σ H1 fun y H2 => ∃ i j, x = .int i ∧ y = .int j ∧ (i ≤ j → tc σ H2 fun z H3 => ∃ k, z = .int k ∧ Q (decide (j ≤ k)) H3) ∧ (¬ i ≤ j → Q false H2)
def tLe3 (ta tb tc td : TE) : TT := fun σ H Q => ta σ H fun x H1 => tb σ H1 fun y H2 => ∃ i j, x = .int i ∧ y = .int j ∧ (i ≤ j → tc σ H2 fun z H3 => ∃ k, z = .int k ∧ (j ≤ k → td σ H3 fun w H4 => ∃ l, w = .int l ∧ Q (decide (k ≤ l)) H4) ∧ (¬ j ≤ k → Q false H3)) ∧ (¬ i ≤ j → Q false H2)
section
variable {X : Cx} {a b c d : Expr} {ta tb tc td : TE} {pos : Pos}
theorem pt_le2 (ha : PE X a ta) (hb : PE X b tb) (hc : PE X c tc) (hm : lastMarks [.LtE, .LtE] [b, c] = false := by with_unfolding_all rfl) : PT X (.Compare a [.LtE, .LtE] [b, c] pos) (tLe2 ta tb tc) := by
  refine ⟨fun pins s σ H Q I h => ?_⟩
  refine isTrue_chain (thn (ha.run pins s σ H _ I h) fun v s1 ⟨x, H1, I1, r1, q1⟩ => test_link (thn (hb.run pins s1 σ H1 _ I1 q1) fun u s2 ⟨y, H2, I2, r2, i, j, ex, ey, q2, q3⟩ =>
    thn (op_le pins s2 σ H2 x y v u (fun z G => z = .bl (decide (i ≤ j)) ∧ G = H2) I2 r1 r2 ⟨i, j, ex, ey, rfl, rfl⟩) fun e s3 ⟨z, H3, I3, r3, ez, eH⟩ => ?_)) hm
  subst ez eH
  cases r3
  refine wpAny_truthy_bool ?_
  by_cases g : i ≤ j
  · rw [decide_eq_true g]
    refine ite_tt (test_last (thn (hc.run pins s3 σ H3 _ I3 (q2 g)) fun w s4 ⟨z, H4, I4, r4, k, ez, q4⟩ =>
      thn (op_le pins s4 σ H4 y z u w (fun z G => z = .bl (decide (j ≤ k)) ∧ G = H4) I4 r2 r4 ⟨j, k, ey, ez, rfl, rfl⟩) fun e s5 ⟨z2, H5, I5, r5, ez2, eH2⟩ => ?_))
    subst ez2 eH2
    cases r5
    exact wpAny_truthy_bool ⟨H5, I5, q4⟩
  · rw [decide_eq_false g]
    exact ite_ff ⟨H3, I3, q3 g⟩
theorem pt_le3 (ha : PE X a ta) (hb : PE X b tb) (hc : PE X c tc) (hd : PE X d td) (hm : lastMarks [.LtE, .LtE, .LtE] [b, c, d] = false := by with_unfolding_all rfl) : PT X (.Compare a [.LtE, .LtE, .LtE] [b, c, d] pos) (tLe3 ta tb tc td) := by
  refine ⟨fun pins s σ H Q I h => ?_⟩
  refine isTrue_chain (thn (ha.run pins s σ H _ I h) fun v s1 ⟨x, H1, I1, r1, q1⟩ => test_link (thn (hb.run pins s1 σ H1 _ I1 q1) fun u s2 ⟨y, H2, I2, r2, i, j, ex, ey, q2, q3⟩ =>
    thn (op_le pins s2 σ H2 x y v u (fun z G => z = .bl (decide (i ≤ j)) ∧ G = H2) I2 r1 r2 ⟨i, j, ex, ey, rfl, rfl⟩) fun e s3 ⟨z, H3, I3, r3, ez, eH⟩ => ?_)) hm
  subst ez eH
  cases r3
  refine wpAny_truthy_bool ?_
  by_cases g : i ≤ j
  · rw [decide_eq_true g]
    refine ite_tt (test_link (thn (hc.run pins s3 σ H3 _ I3 (q2 g)) fun w s4 ⟨z, H4, I4, r4, k, ez, q4, q5⟩ =>
      thn (op_le pins s4 σ H4 y z u w (fun z G => z = .bl (decide (j ≤ k)) ∧ G = H4) I4 r2 r4 ⟨j, k, ey, ez, rfl, rfl⟩) fun e s5 ⟨z2, H5, I5, r5, ez2, eH2⟩ => ?_))
    subst ez2 eH2
    cases r5
    refine wpAny_truthy_bool ?_
    by_cases g2 : j ≤ k
    · rw [decide_eq_true g2]
      refine ite_tt (test_last (thn (hd.run pins s5 σ H5 _ I5 (q4 g2)) fun w' s6 ⟨z', H6, I6, r6, l, ez', q6⟩ =>
        thn (op_le pins s6 σ H6 z z' w w' (fun z G => z = .bl (decide (k ≤ l)) ∧ G = H6) I6 r4 r6 ⟨k, l, ez, ez', rfl, rfl⟩) fun e s7 ⟨z3, H7, I7, r7, ez3, eH3⟩ => ?_))
      subst ez3 eH3
      cases r7
      exact wpAny_truthy_bool ⟨H7, I7, q6⟩
    · rw [decide_eq_false g2]
      exact ite_ff ⟨H5, I5, q5 g2⟩
  · rw [decide_eq_false g]
    exact ite_ff ⟨H3, I3, q3 g⟩
end
section
variable {ρ : List Sl} {ta tb tc td : TE} {ΦB : Bool → List Sl → Prop}
theorem wb_le2 (h : Wp ta ρ fun k1 ρ1 => ∃ i, soft k1 = .da (.int i) ∧ Wp tb ρ1 fun k2 ρ2 => ∃ j, soft k2 = .da (.int j) ∧ (i ≤ j → Wp tc ρ2 fun k3 ρ3 => ∃ k, soft k3 = .da (.int k) ∧ ΦB (decide (j ≤ k)) ρ3) ∧ (¬ i ≤ j → ΦB false ρ2)) : WpB (tLe2 ta tb tc) ρ ΦB := fun F n σ H E Q q =>
  h F n σ H E _ fun v H1 k1 ρ1 f E1 x1 r1 => by
    obtain ⟨i, e1, f⟩ := f
    have r1 := r1.soft E
    rw [e1] at r1
    refine f F n σ H1 E1 _ fun u H2 k2 ρ2 f E2 x2 r2 => ?_
    obtain ⟨j, e2, f, g⟩ := f
    have r2 := r2.soft E1
    rw [e2] at r2
    have r1' : Dn n H1 v (.int i) := r1
    have r2' : Dn n H2 u (.int j) := r2
    cases r1'
    cases r2'
    refine ⟨i, j, rfl, rfl, fun hle => ?_, fun hle => q H2 false ρ2 (g hle) E2 (x1.trans x2)⟩
    refine f hle F n σ H2 E2 _ fun z H3 k3 ρ3 f E3 x3 r3 => ?_
    obtain ⟨k, e3, f⟩ := f
    have r3 := r3.soft E2
    rw [e3] at r3
    have r3' : Dn n H3 z (.int k) := r3
    cases r3'
    exact ⟨k, rfl, q H3 _ ρ3 f E3 ((x1.trans x2).trans x3)⟩
theorem wb_le3 (h : Wp ta ρ fun k1 ρ1 => ∃ i, soft k1 = .da (.int i) ∧ Wp tb ρ1 fun k2 ρ2 => ∃ j, soft k2 = .da (.int j) ∧ (i ≤ j → Wp tc ρ2 fun k3 ρ3 => ∃ k, soft k3 = .da (.int k) ∧ (j ≤ k → Wp td ρ3 fun k4 ρ4 => ∃ l, soft k4 = .da (.int l) ∧ ΦB (decide (k ≤ l)) ρ4) ∧ (¬ j ≤ k → ΦB false ρ3)) ∧ (¬ i ≤ j → ΦB false ρ2)) : WpB (tLe3 ta tb tc td) ρ ΦB := fun F n σ H E Q q =>
  h F n σ H E _ fun v H1 k1 ρ1 f E1 x1 r1 => by
    obtain ⟨i, e1, f⟩ := f
    have r1 := r1.soft E
    rw [e1] at r1
    refine f F n σ H1 E1 _ fun u H2 k2 ρ2 f E2 x2 r2 => ?_
    obtain ⟨j, e2, f, g⟩ := f
    have r2 := r2.soft E1
    rw [e2] at r2
    have r1' : Dn n H1 v (.int i) := r1
    have r2' : Dn n H2 u (.int j) := r2
    cases r1'
    cases r2'
    refine ⟨i, j, rfl, rfl, fun hle => ?_, fun hle => q H2 false ρ2 (g hle) E2 (x1.trans x2)⟩
    refine f hle F n σ H2 E2 _ fun z H3 k3 ρ3 f E3 x3 r3 => ?_
    obtain ⟨k, e3, f, g3⟩ := f
    have r3 := r3.soft E2
    rw [e3] at r3
    have r3' : Dn n H3 z (.int k) := r3
    cases r3'
    refine ⟨k, rfl, fun hle2 => ?_, fun hle2 => q H3 false ρ3 (g3 hle2) E3 ((x1.trans x2).trans x3)⟩
    refine f hle2 F n σ H3 E3 _ fun z4 H4 k4 ρ4 f E4 x4 r4 => ?_
    obtain ⟨l, e4, f⟩ := f
    have r4 := r4.soft E3
    rw [e4] at r4
    have r4' : Dn n H4 z4 (.int l) := r4
    cases r4'
    exact ⟨l, rfl, q H4 _ ρ4 f E4 (((x1.trans x2).trans x3).trans x4)⟩
end
/-! ## a text in a pair of texts -/
section
variable {K : PySem.W.Frag} {ρ : List Sl}
theorem op_in2S {x a b : Str} {k1 k2 : Rk} (s1 : see ρ k1 = some (.str x)) (s2 : see ρ k2 = some (.tup [.str a, .str b])) (h : x = a ∨ x = b) : Op (rInU K) ρ k1 k2 (.da (.bl true)) := fun F n σ H u v Q E r1 r2 q => by
  obtain ⟨p, us, rfl, g1, gn, g2⟩ := peekT E r2 s2
  rw [peekS E r1 s1]
  have e : us = [V.str a, V.str b] := by
    cases g2 with
    | cons h1 h2 =>
      cases h1
      cases h2 with
      | cons h3 h4 =>
        cases h3
        cases h4
        rfl
  subst e
  refine .inr ⟨p, _, rfl, .inr (.inl (.inl g1)), rfl, rfl, ?_⟩
  have hb : inV (V.str x) [V.str a, V.str b] = true := by
    unfold inV
    rcases h with rfl | rfl <;> simp [eqV]
  show Q (.bl (if false = true then _ else inV (V.str x) [V.str a, V.str b])) H
  rw [hb]
  exact q _ H E .refl (.bl true)
end
/-! ## f(x).append(None): a new list is written to and dropped -/
section
variable {K : PySem.W.Frag} {F : Fx} {ρ : List Sl} {te : TE} {D : Ends}
theorem nx_dropApp (h : Wp te ρ fun k ρ1 => ∃ es, k = .nw es ∧ es.length < 10000000 ∧ Nx F ρ1 D.nx) : Nx F ρ (tDrop (tBM K "list" rAppend te (tCons (tC .non) tNil)) D) := fun n σ H E => h F n σ H E _ fun v H1 k ρ1 f E1 x1 r1 => by
  obtain ⟨es, rfl, hl, q⟩ := f
  obtain ⟨p, us, rfl, hp, E2, e1, e2⟩ := r1
  refine ⟨.inl ⟨rfl, us, .inl (.inl e1)⟩, p, us, .non, rfl, rfl, e1, ?_, ?_⟩
  · rw [e2.length]
    exact Nat.lt_of_lt_of_le hl (by decide)
  · exact q (add n p) σ _ (E2.mutO (.inr rfl) (fun z => E.al p (n.le p z) hp) (E.h0 hp))
end
end Dd
namespace Dd
open PySem PySem.Spec PyProof.Rows L2
/-! ## objects of its own that are put together of own lists: their lists read and changed -/
def Obs.setN : Obs → Nat → Ob → Obs
  | .nil, _, _ => .nil
  | .cons a _ ks, 0, k' => .cons a k' ks
  | .cons a k ks, j + 1, k' => .cons a k (ks.setN j k')
theorem addrs_setN : ∀ (ks : Obs) (j : Nat) (k' : Ob), (ks.setN j k').addrs = ks.addrs
  | .nil, _, _ => rfl
  | .cons a _ ks, 0, k' => rfl
  | .cons a k ks, j + 1, k' => by
    show a :: (ks.setN j k').addrs = a :: ks.addrs
    rw [addrs_setN ks j k']
theorem foot_setN : ∀ (ks : Obs) (j : Nat) (k k' : Ob), ks.nth j = some k → k.foot = [] → k'.foot = [] → (ks.setN j k').foot = ks.foot
  | .nil, _, _, _, e, _, _ => by cases e
  | .cons a o ks, 0, k, k', e, h, h' => by
    cases e
    show a :: (k'.foot ++ ks.foot) = a :: (o.foot ++ ks.foot)
    rw [h, h']
  | .cons a o ks, j + 1, k, k', e, h, h' => by
    show a :: (o.foot ++ (ks.setN j k').foot) = a :: (o.foot ++ ks.foot)
    rw [foot_setN ks j k k' e h h']
theorem nth_addr : ∀ {ks : Obs} {j : Nat} {k : Ob}, ks.nth j = some k → ∃ a, ks.addrs[j]? = some a
  | .nil, _, _, e => by cases e
  | .cons a o ks, 0, _, _ => ⟨a, rfl⟩
  | .cons a o ks, j + 1, _, e => nth_addr (ks := ks) (j := j) e
theorem addr_foot : ∀ {ks : Obs} {j : Nat} {a : Addr}, ks.addrs[j]? = some a → a ∈ ks.foot
  | .nil, _, _, e => by simp [Obs.addrs] at e
  | .cons b o ks, 0, a, e => by cases e; exact List.mem_cons_self
  | .cons b o ks, j + 1, a, e => List.mem_cons_of_mem _ (List.mem_append_right _ (addr_foot (ks := ks) (j := j) (by simpa [Obs.addrs] using e)))
theorem obsOk_setN {n : Ns} {H H' : Hp} {a : Addr} {k' : Ob} (x : Keep n H H') (xa : ∀ b u, b ≠ a → H b = some u → H' b = some u) (h' : ObOk n H' a k') : ∀ (ks : Obs) (j : Nat), ks.foot.Nodup → ks.addrs[j]? = some a → ObsOk n H ks → ObsOk n H' (ks.setN j k')
  | .nil, _, _, e, _ => trivial
  | .cons b o ks, 0, nd, e, h => by
    cases e
    refine ⟨h', ObsOk.keep x ks h.2 fun c hc u hu => xa c u (fun z => ?_) hu⟩
    subst z
    exact (List.nodup_cons.mp nd).1 (List.mem_append_right _ hc)
  | .cons b o ks, j + 1, nd, e, h => by
    have e : ks.addrs[j]? = some a := by simpa [Obs.addrs] using e
    have nd' := List.nodup_cons.mp nd
    have nd2 := List.nodup_append.mp nd'.2
    have ha := addr_foot e
    refine ⟨ObOk.keep x o b h.1 fun c hc u hu => xa c u (fun z => ?_) hu, obsOk_setN x xa h' ks j nd2.2.1 e h.2⟩
    subst z
    rcases hc with hc | hc
    · rw [← hc] at nd'
      exact nd'.1 (List.mem_append_right _ ha)
    · exact nd2.2.2 c hc c ha rfl
section
variable {F : Fx} {n : Ns} {ρ ρ' ρ0 ρ1 ρ2 ρ3 : List Sl} {σ : L2.St} {H H' : Hp} {i j : Nat} {b : Bool} {l0 a : Addr} {o : HO} {ks : Obs} {ds es : List Da}
/-- what is there -/
theorem kid_at (E : EnvOk F n ρ σ H) (s : ρ[i]? = some (.own b (.nst l0 o ks))) (hk : ks.nth j = some (.lst ds)) :
    ∃ a vs, σ[i]? = some (some (.ref l0)) ∧ ks.addrs[j]? = some a ∧ (n.kid i)[j]? = some a ∧ H a = some (.lst vs) ∧ DnL n H vs ds ∧ n.ow a ∧ H l0 = some o ∧ a ≠ l0 := by
  obtain ⟨u, h1, l, e1, e2⟩ := E.sl i _ s
  subst e1
  obtain ⟨g1, g2, g3, g4⟩ := e2
  subst g1
  obtain ⟨q1, q2, q3⟩ := E.ownF i b _ l s h1
  obtain ⟨a, ha⟩ := nth_addr hk
  obtain ⟨vs, w1, w2⟩ := ObsOk.nth g3 hk ha
  have hf := addr_foot ha
  refine ⟨a, vs, h1, ha, ?_, w1, w2, (q1 a (.inr hf)).1, g2, fun z => q2.1 (by rw [← z]; exact hf)⟩
  have q3 : n.kid i = ks.addrs := q3
  rw [q3]
  exact ha
/-- a list inside is changed -/
theorem EnvOk.mutK (E : EnvOk F n ρ σ H) {us : List V} (s : ρ[i]? = some (.own b (.nst l0 o ks))) (hk : ks.nth j = some (.lst ds)) (ha : ks.addrs[j]? = some a) (h : DnL n H us es) :
    EnvOk F n (ρ.set i (.own b (.nst l0 o (ks.setN j (.lst es))))) σ (upd H a (.lst us)) := by
  obtain ⟨u, h1, l, e1, e2⟩ := E.sl i _ s
  subst e1
  obtain ⟨g1, g2, g3, g4⟩ := e2
  subst g1
  obtain ⟨q1, q2, q3⟩ := E.ownF i b _ l s h1
  have hf := addr_foot ha
  have how := (q1 a (.inr hf)).1
  have x : Ext n H (upd H a (.lst us)) := fun c u e k => by
    rw [upd_ne (fun z => k (by rw [z]; exact how))]
    exact e
  have ne : l ≠ a := fun z => q2.1 (by rw [z]; exact hf)
  have ef : (Ob.nst l o (ks.setN j (.lst es))).foot = (Ob.nst l o ks).foot := foot_setN ks j _ _ hk rfl rfl
  have hob : ObOk n (upd H a (.lst us)) l (.nst l o (ks.setN j (.lst es))) := by
    refine ⟨rfl, by rw [upd_ne ne]; exact g2, ?_, by rw [addrs_setN]; exact g4⟩
    exact obsOk_setN (a := a) (k' := .lst es) x.keep (fun c u hc e => by rw [upd_ne hc]; exact e) ⟨us, upd_same, DnL.ext x _ _ h⟩ ks j q2.2 ha g3
  refine E.mutN (p := a) (es := .nst l o (ks.setN j (.lst es))) s h1 (.inr hf) hob (fun c hc => by rw [ef] at hc; exact hc) (by rw [ef]; exact q2.2) (fun as z => ?_)
  · show as = (ks.setN j (.lst es)).addrs
    rw [addrs_setN]
    exact z
end
section
variable {K : PySem.W.Frag} {F : Fx} {ρ ρ' ρ0 ρ1 ρ2 ρ3 : List Sl} {te tl ta tb tc : TE} {tt tu : TT} {tx tr : TA} {d e : Da} {k k1 k2 : Rk} {ds es : List Da} {i j : Nat} {D : Ends} {b : Bool} {l0 dx C : Addr} {fs : List (Str × V)} {ks : Obs} {f : Str} {o : HO} {Φ Ψ : Rw → List Sl → Prop} {ΦB : Bool → List Sl → Prop}
/-- o.f, the list inside -/
theorem wp_fldN (s : ρ[i]? = some (.own b (.nst l0 (.ins C dx fs) ks))) {a : Addr} (hc : Cls K C ∧ NoAttr K C f) (hf : fs.lookup f = some (.ref a)) (ha : ks.addrs[j]? = some a) (q : Φ (.kd i j) ρ) : Wp (tFld K (tVar i) f) ρ Φ := fun F n σ H E Q g => by
  obtain ⟨u, h1, l, e1, e2⟩ := E.sl i _ s
  subst e1
  obtain ⟨g1, g2, g3, g4⟩ := e2
  subst g1
  have q3 : n.kid i = ks.addrs := (E.ownF i b _ l s h1).2.2
  exact ⟨_, h1, l, C, dx, fs, .ref a, rfl, g2, hc.1, hc.2, hf, g _ H _ ρ q E .refl ⟨a, by rw [q3]; exact ha, rfl⟩⟩
theorem wp_insN {m : Str} (s : ρ[i]? = some (.own b (.nst l0 (.ins C dx fs) ks))) (hf : fs.lookup m = none) (q : Φ (.sl i) ρ) : Wp (tIns C m (tVar i)) ρ Φ := fun F n σ H E Q g => by
  obtain ⟨u, h1, l, e1, e2⟩ := E.sl i _ s
  subst e1
  obtain ⟨g1, g2, g3, g4⟩ := e2
  subst g1
  exact ⟨_, h1, ⟨l, dx, fs, rfl, g2, hf⟩, g _ H _ ρ q E .refl h1⟩
/-- the list j of what slot i owns -/
def Kid (ρ : List Sl) (i j : Nat) (b : Bool) (l0 : Addr) (o : HO) (ks : Obs) (ds : List Da) : Prop := ρ[i]? = some (.own b (.nst l0 o ks)) ∧ ks.nth j = some (.lst ds)
theorem kid_rel {F : Fx} {n : Ns} {σ : L2.St} {H : Hp} {v : V} (E : EnvOk F n ρ σ H) (s : Kid ρ i j b l0 o ks ds) (r : ∃ a, (n.kid i)[j]? = some a ∧ v = .ref a) :
    ∃ a vs, v = .ref a ∧ ks.addrs[j]? = some a ∧ H a = some (.lst vs) ∧ DnL n H vs ds ∧ n.ow a := by
  obtain ⟨a, vs, h1, h2, h3, h4, h5, h6, h7, _⟩ := kid_at E s.1 s.2
  obtain ⟨a', g1, rfl⟩ := r
  rw [h3] at g1
  cases g1
  exact ⟨a, vs, rfl, h2, h4, h5, h6⟩
theorem wp_appendK (h : Wp te ρ fun k ρ0 => ∃ i j b l0 o ks es, k = .kd i j ∧ Kid ρ0 i j b l0 o ks es ∧ WpA tx ρ0 fun qs ρ1 => ∃ d ks1 ds, qs = [.da d] ∧ Kid ρ1 i j b l0 o ks1 ds ∧ ds.length < sizeLine ∧ Φ (.da .non) (ρ1.set i (.own b (.nst l0 o (ks1.setN j (.lst (ds ++ [d]))))))) :
    Wp (tBM K "list" rAppend te tx) ρ Φ := fun F n σ H E Q g => h F n σ H E _ fun v H0 k ρ0 f0 E0 x0 r0 => by
  obtain ⟨i, j, b, l0, o, ks, es, rfl, s, f⟩ := f0
  have r0' : ∃ a, (n.kid i)[j]? = some a ∧ v = .ref a := r0
  obtain ⟨a, vs, rfl, h2, h4, h5, h6⟩ := kid_rel E0 s r0'
  refine ⟨.inl ⟨rfl, vs, .inl (.inl h4)⟩, f F n σ H0 E0 _ fun us H1 qs ρ1 f1 E1 x1 r1 => ?_⟩
  obtain ⟨d, ks1, ds, rfl, s1, z, q⟩ := f1
  obtain ⟨w, rfl, r⟩ := rk1 r1
  obtain ⟨a', vs', e1, h2', h4', h5', h6'⟩ := kid_rel E1 s1 r0'
  cases e1
  exact ⟨a, vs', w, rfl, rfl, h4', by rw [h5'.length]; exact z, g _ _ _ _ q (E1.mutK s1.1 s1.2 h2' (h5'.app (.cons r .nil))) ((x0.trans x1).trans (ext_mut h6)) .non⟩
theorem wp_extendK (h : Wp te ρ fun k ρ0 => ∃ i j b l0 o ks es, k = .kd i j ∧ Kid ρ0 i j b l0 o ks es ∧ WpA tx ρ0 fun qs ρ1 => ∃ d gs ks1 ds, qs = [d] ∧ see ρ1 d = some (.lst gs) ∧ Kid ρ1 i j b l0 o ks1 ds ∧ ds.length + gs.length ≤ sizeLine ∧ Φ (.da .non) (ρ1.set i (.own b (.nst l0 o (ks1.setN j (.lst (ds ++ gs))))))) :
    Wp (tBM K "list" rExtend te tx) ρ Φ := fun F n σ H E Q g => h F n σ H E _ fun v H0 k ρ0 f0 E0 x0 r0 => by
  obtain ⟨i, j, b, l0, o, ks, es, rfl, s, f⟩ := f0
  have r0' : ∃ a, (n.kid i)[j]? = some a ∧ v = .ref a := r0
  obtain ⟨a, vs, rfl, h2, h4, h5, h6⟩ := kid_rel E0 s r0'
  refine ⟨.inl ⟨rfl, vs, .inl (.inl h4)⟩, f F n σ H0 E0 _ fun us H1 qs ρ1 f1 E1 x1 r1 => ?_⟩
  obtain ⟨d, gs, ks1, ds, rfl, s2, s1, z, q⟩ := f1
  obtain ⟨w, rfl, r⟩ := rk1 r1
  obtain ⟨a', vs', e1, h2', h4', h5', h6'⟩ := kid_rel E1 s1 r0'
  cases e1
  obtain ⟨p, us, rfl, q1, q2⟩ := peekL E1 r s2
  exact ⟨a, p, vs', us, rfl, rfl, h4', q1, by rw [h5'.length, q2.length]; exact z, g _ _ _ _ q (E1.mutK s1.1 s1.2 h2' (h5'.app q2)) ((x0.trans x1).trans (ext_mut h6)) .non⟩
theorem wp_removeK (h : Wp te ρ fun k ρ0 => ∃ i j b l0 o ks es, k = .kd i j ∧ Kid ρ0 i j b l0 o ks es ∧ WpA tx ρ0 fun qs ρ1 => ∃ d x ks1 ns, qs = [d] ∧ see ρ1 d = some (.int x) ∧ Kid ρ1 i j b l0 o ks1 (inz ns) ∧ x ∈ ns ∧ Φ (.da .non) (ρ1.set i (.own b (.nst l0 o (ks1.setN j (.lst (inz (ns.erase x)))))))) :
    Wp (tBM K "list" rRemI te tx) ρ Φ := fun F n σ H E Q g => h F n σ H E _ fun v H0 k ρ0 f0 E0 x0 r0 => by
  obtain ⟨i, j, b, l0, o, ks, es, rfl, s, f⟩ := f0
  have r0' : ∃ a, (n.kid i)[j]? = some a ∧ v = .ref a := r0
  obtain ⟨a, vs, rfl, h2, h4, h5, h6⟩ := kid_rel E0 s r0'
  refine ⟨.inl ⟨rfl, vs, .inl (.inl h4)⟩, f F n σ H0 E0 _ fun us H1 qs ρ1 f1 E1 x1 r1 => ?_⟩
  obtain ⟨d, x, ks1, ns, rfl, s2, s1, z, q⟩ := f1
  obtain ⟨w, rfl, r⟩ := rk1 r1
  obtain ⟨a', vs', e1, h2', h4', h5', h6'⟩ := kid_rel E1 s1 r0'
  cases e1
  rw [peekI E1 r s2]
  rw [h5'.inz] at h4'
  have z1 : ns.idxOf x < ns.length := List.idxOf_lt_length_of_mem z
  have e : ns.erase x = ns.eraseIdx (ns.idxOf x) := List.erase_eq_eraseIdx_of_idxOf rfl
  rw [e] at q
  exact ⟨a, ns, x, ns.idxOf x, rfl, rfl, h4', by rw [List.getElem?_eq_getElem z1, List.getElem_idxOf z1], fun m hm e => by
    obtain ⟨hl, e⟩ := List.getElem?_eq_some_iff.mp e
    have := List.not_of_lt_findIdx (p := fun x' => x' == x) hm
    rw [e] at this
    simp at this, g _ _ _ _ q (E1.mutK s1.1 s1.2 h2' (DnL.ofInts _)) ((x0.trans x1).trans (ext_mut h6)) .non⟩
/-- o.f[e] = e2 -/
theorem nx_setixK (h : Wp te ρ fun k ρ1 => ∃ d, soft k = .da d ∧ Wp ta ρ1 fun k1 ρ2 => ∃ i j b l0 o ks es, k1 = .kd i j ∧ Kid ρ2 i j b l0 o ks es ∧ Wp tb ρ2 fun k2 ρ3 => ∃ x ks1 ds m, see ρ3 (soft k2) = some (.int x) ∧ Kid ρ3 i j b l0 o ks1 ds ∧ ixN ds.length x = some m ∧ Nx F (ρ3.set i (.own b (.nst l0 o (ks1.setN j (.lst (ds.set m d)))))) D.nx) :
    Nx F ρ (tAsg te (gSub ta tb L2.rSetL) D) := fun n σ H E => h F n σ H E _ fun v H1 k ρ1 f E1 x1 r1 => by
  obtain ⟨d, hk, f⟩ := f
  have r1 := r1.soft E
  rw [hk] at r1
  refine f F n σ H1 E1 _ fun u H2 k1 ρ2 f2 E2 x2 r2 => ?_
  obtain ⟨i, j, b, l0, o, ks, es, rfl, s, f3⟩ := f2
  have r2' : ∃ a, (n.kid i)[j]? = some a ∧ u = .ref a := r2
  refine f3 F n σ H2 E2 _ fun w H3 k2 ρ3 f4 E3 x3 r3 => ?_
  obtain ⟨x, ks1, ds, m, s2, s1, hm, q⟩ := f4
  obtain ⟨a, vs, rfl, h2, h4, h5, h6⟩ := kid_rel E3 s1 r2'
  rw [peekI E3 (r3.soft E2) s2]
  exact ⟨a, vs, x, m, rfl, rfl, h4, by rw [h5.length]; exact hm, q n σ _ (E3.mutK s1.1 s1.2 h2 (h5.set m (Dn.ext x3 _ _ (Dn.ext x2 _ _ r1))))⟩
/-- o.f, a property of an object of its own that is put together -/
theorem wp_propN {α : Type} {enc1 enc2 : α → List Da} {pre : Ob → α → Prop} {post : Ob → α → Ob → Da → Prop} {E0 : XK} (s : ρ[i]? = some (.own b (.nst l0 (.ins C dx fs) ks))) (x : α) (e1 : enc1 x = []) (e2 : enc2 x = []) (hp : pre (.nst l0 (.ins C dx fs) ks) x)
    (q : ∀ o' r, post (.nst l0 (.ins C dx fs) ks) x o' r → Φ (.da r) (ρ.set i (.own b o'))) : Wp (tProp C (SpG enc1 enc2 pre post) [] E0 (tVar i)) ρ Φ := fun F n σ H E Q g => by
  obtain ⟨u, h1, l, g1, g2⟩ := E.sl i _ s
  subst g1
  have w := E.ownF i b _ l s h1
  have g2' := g2
  obtain ⟨g3, g4, g5, g6⟩ := g2
  subst g3
  refine ⟨_, h1, l, dx, fs, rfl, g4, n, l, [], [], _, x, rfl, ⟨fun a ha => (w.1 a ha).1, w.2.1⟩, E.al, g2', by rw [e1]; exact .nil, by rw [e2]; exact .nil, hp, fun v H' o' r hr y h3 => ?_⟩
  obtain ⟨E2, xx⟩ := mut_toN (m := n) (fun _ h => h) (fun _ => Iff.rfl) (fun _ h => .inl h) (fun _ h => .inl h) E s h1 y.fr y.th y.sub y.ka y.ok
  exact g v H' _ _ (q o' r hr) E2 xx h3
end
/-! ### data without lists -/
mutual
def noL : Da → Bool
  | .non => true | .bl _ => true | .int _ => true | .str _ => true | .ty _ => true | .tup ds => noLs ds
  | _ => false
def noLs : List Da → Bool
  | [] => true
  | d :: ds => noL d && noLs ds
end
mutual
theorem Dn.addL {n m : Ns} {H : Hp} (km : ∀ a vs, H a = some (.tup vs) → ¬ n a → ¬ m a) : ∀ (d : Da) (v : V), noL d = true → Dn n H v d → Dn m H v d
  | .non, _, _, h => by cases h; exact .non
  | .bl _, _, _, h => by cases h; exact .bl _
  | .int _, _, _, h => by cases h; exact .int _
  | .str _, _, _, h => by cases h; exact .str _
  | .ty _, _, _, h => by cases h; exact .ty _
  | .tup ds, _, p, h => by
    cases h with
    | tup h1 h2 h3 => exact .tup h1 (km _ _ h1 h2) (DnL.addL km ds _ (by rw [noL] at p; exact p) h3)
  | .lst _, _, p, _ => by rw [noL] at p; cases p; all_goals (intros; simp_all)
  | .ins _ _, _, p, _ => by rw [noL] at p; cases p; all_goals (intros; simp_all)
  | .scr _ _, _, p, _ => by rw [noL] at p; cases p; all_goals (intros; simp_all)
  | .cl _, _, p, _ => by rw [noL] at p; cases p; all_goals (intros; simp_all)
  | .exn _ _, _, p, _ => by rw [noL] at p; cases p; all_goals (intros; simp_all)
  | .dic _ _, _, p, _ => by rw [noL] at p; cases p; all_goals (intros; simp_all)
theorem DnL.addL {n m : Ns} {H : Hp} (km : ∀ a vs, H a = some (.tup vs) → ¬ n a → ¬ m a) : ∀ (ds : List Da) (vs : List V), noLs ds = true → DnL n H vs ds → DnL m H vs ds
  | [], _, _, h => by cases h; exact .nil
  | d :: ds, _, p, h => by
    rw [noLs, Bool.and_eq_true] at p
    cases h with
    | cons h1 h2 => exact .cons (Dn.addL km d _ p.1 h1) (DnL.addL km ds _ p.2 h2)
end
mutual
def obNoL : Ob → Bool
  | .lst ds => noLs ds
  | .nst _ _ ks => obsNoL ks
  | _ => false
def obsNoL : Obs → Bool
  | .nil => true
  | .cons _ k ks => obNoL k && obsNoL ks
end
mutual
theorem ObOk.reL {n m : Ns} {H : Hp} (km : ∀ a vs, H a = some (.tup vs) → ¬ n a → ¬ m a) : ∀ (o : Ob) (l : Addr), ObOk n H l o → obNoL o = true → ObOk m H l o
  | .lst ds, l, h, p => by
    obtain ⟨vs, e2, e3⟩ := h
    exact ⟨vs, e2, DnL.addL km ds vs p e3⟩
  | .ins C fs, l, h, p => by cases p
  | .dic D kvs, l, h, p => by cases p
  | .nst l0 o ks, l, h, p => by
    obtain ⟨e1, e2, e3, e4⟩ := h
    exact ⟨e1, e2, ObsOk.reL km ks e3 p, e4⟩
theorem ObsOk.reL {n m : Ns} {H : Hp} (km : ∀ a vs, H a = some (.tup vs) → ¬ n a → ¬ m a) : ∀ ks : Obs, ObsOk n H ks → obsNoL ks = true → ObsOk m H ks
  | .nil, _, _ => trivial
  | .cons a o ks, h, p => by
    have p : (obNoL o && obsNoL ks) = true := p
    rw [Bool.and_eq_true] at p
    exact ⟨ObOk.reL km o a h.1 p.1, ObsOk.reL km ks h.2 p.2⟩
end
theorem obOk_addL {n : Ns} {H : Hp} {p : Addr} {us : List V} (hp : H p = some (.lst us)) (o : Ob) (l : Addr) (h : ObOk n H l o) (k : obNoL o = true) : ObOk (add n p) H l o :=
  ObOk.reL (m := add n p) (fun a vs e z w => Or.elim w z fun w => by rw [w, hp] at e; cases e) o l h k
/-! ### an answer that is a new list of plain values -/
def SpGL {α : Type} (enc1 enc2 : α → List Da) (pre : Ob → α → Prop) (post : Ob → α → Ob → List Da → Prop) : Sp := fun vs H Q _ => ∃ (n : Ns) (f : Addr) (vs1 vs2 : List V) (o : Ob) (x : α), vs = vs1 ++ .ref f :: vs2 ∧ FtOw n.ow f o ∧ (∀ a, n a → H a ≠ none) ∧
  ObOk n H f o ∧ DnL n H vs1 (enc1 x) ∧ DnL n H vs2 (enc2 x) ∧ pre o x ∧ ∀ p us H' o' r, post o x o' r → H p = none → GoOn n H H' f o o' → H' p = some (.lst us) → DnL n H' us r → Q (.ref p) H'
section
variable {α : Type} {K : PySem.W.Frag} {F : Fx} {n : Ns} {ρ ρ' ρ0 ρ1 ρ2 ρ3 : List Sl} {te tl ta tb tc : TE} {tt tu : TT} {tx tr : TA} {d e : Da} {k k1 k2 : Rk} {ks : List Rk} {ds es ds1 ds2 : List Da} {i j : Nat} {E : XK} {H : Hp} {σ : L2.St} {Φ : Rw → List Sl → Prop}
theorem wp_callGL {enc1 enc2 : α → List Da} {pre : Ob → α → Prop} {post : Ob → α → Ob → List Da → Prop} (h : WpA tx ρ fun ks ρ1 => ∃ i ks1 ks2 b o x, ks = ks1 ++ .sl i :: ks2 ∧ ρ1[i]? = some (.own b o) ∧ AllDa ks1 (enc1 x) ∧ AllDa ks2 (enc2 x) ∧ pre o x ∧ ∀ o' r, post o x o' r → obNoL o' = true ∧ (∀ d ∈ r, flat d = true) ∧ Φ (.nw r) (ρ1.set i (.own b o'))) :
    Wp (tCall (SpGL enc1 enc2 pre post) [] E tx) ρ Φ := fun F n σ H E0 Q g =>
  h F n σ H E0 _ fun vs H1 ks ρ1 f E1 x1 r1 => by
    obtain ⟨i, ks1, ks2, b, o, x, rfl, s, hs1, hs2, hp, q⟩ := f
    rw [List.append_nil]
    obtain ⟨v1, v2, rfl, q1, q2⟩ := r1.split
    cases q2 with
    | cons a c =>
      obtain ⟨l, g1, g3, g4⟩ := own_ob E1 s
      have a' : σ[i]? = some (some _) := a
      rw [g1] at a'
      cases a'
      have w := E1.ownF i b o l s g1
      refine ⟨n, l, v1, _, o, x, rfl, ⟨fun a ha => (w.1 a ha).1, w.2.1⟩, E1.al, g3, hs1.rel q1, hs2.rel c, hp, fun p us H' o' r hr hp' y h3 h4 => ?_⟩
      obtain ⟨E2, xx⟩ := mut_toN (m := n) (fun _ h => h) (fun _ => Iff.rfl) (fun _ h => .inl h) (fun _ h => .inl h) E1 s g1 y.fr y.th y.sub y.ka y.ok
      obtain ⟨hno, hfl, q⟩ := q o' r hr
      have ok2 : ObOk (add n p) H' l o' := obOk_addL h3 o' l y.ok hno
      obtain ⟨E3, _⟩ := mut_toN (m := add n p) (fun _ h => .inl h) (fun _ => Iff.rfl) (fun a h => h.imp id fun w => by rw [w]; exact hp') (fun a h => h.imp id fun w => by rw [w, h3]; simp) E1 s g1 y.fr y.th y.sub y.ka ok2
      exact g _ H' _ _ q E2 (x1.trans xx) ⟨p, us, rfl, fresh_pre E1 x1 hp', E3, h3, h4.flat hfl⟩
end
end Dd
namespace Dd
open PySem PySem.Spec PyProof.Rows L2
/-! ## objects that are put together: made, handed out -/
def addF (n : Ns) (p : Addr) (o : Ob) : Ns := ⟨fun a => n a ∨ Ft p o a, fun a => n.ow a ∨ Ft p o a, fun a h => h.imp (n.le a) id, n.kid⟩
def setKid (n : Ns) (i : Nat) (as : List Addr) : Ns := ⟨n.av, n.ow, n.le, fun j => if j = i then as else n.kid j⟩
theorem kidOk_addrs (o : Ob) : o.kidOk o.addrs := by cases o <;> first | exact trivial | rfl
section
variable {F : Fx} {n : Ns} {ρ ρ' ρ0 ρ1 ρ2 ρ3 : List Sl} {σ : L2.St} {H H' : Hp} {i j : Nat} {b : Bool} {l0 a p : Addr} {o : Ob} {ds es : List Da}
/-- a slot is given a new object -/
theorem EnvOk.setN (E : EnvOk F n ρ σ H) (gr : Grow H H') (fr : ∀ a, Ft p o a → H a = none) (nd : Nd p o) (th : ∀ a, Ft p o a → H' a ≠ none) (h : ObOk (addF n p o) H' p o) :
    EnvOk F (setKid (addF n p o) i o.addrs) (ρ.set i (.own false o)) (σ.set i (some (.ref p))) H' := by
  have k : ∀ a u, H a = some u → ¬ n a → ¬ (addF n p o) a := fun a u e z w => w.elim z fun w => by rw [fr a w] at e; cases e
  let m : Ns := setKid (addF n p o) i o.addrs
  have km : ∀ a u, H a = some u → ¬ n a → ¬ m a := k
  have nw : ∀ a, Ft p o a → ¬ n a := fun a ha z => E.al a z (fr a ha)
  refine ⟨by rw [List.length_set, List.length_set, E.len], fun j s e => ?_, fun j c fs l e1 e2 => ?_, fun j q c c' fs gs l1 l2 e1 e2 e3 e4 a ha ha' => ?_, fun a h => .inl (E.sub a h), E.ion, E.al0, fun a h => ?_, fun a u e q => gr _ _ (E.kp a u e q), fun q hq => ⟨gr _ _ (E.gh q hq).1, km _ _ (E.gh q hq).1 (E.gh q hq).2.1, DnL.ext (n := m) gr.ext _ _ (DnL.re km _ _ (E.gh q hq).2.2)⟩⟩
  · by_cases hj : i = j
    · subst hj
      rw [List.getElem?_set, if_pos rfl] at e
      by_cases hl : i < ρ.length
      · rw [if_pos hl] at e; cases e
        exact ⟨_, by rw [List.getElem?_set, if_pos rfl, if_pos (by rw [E.len]; exact hl)], p, rfl, h.re (m := m) fun a _ _ z => z⟩
      · rw [if_neg hl] at e; cases e
    · rw [List.getElem?_set, if_neg hj] at e
      obtain ⟨u, h1, h2⟩ := E.sl j s e
      refine ⟨u, by rw [List.getElem?_set, if_neg hj]; exact h1, ?_⟩
      cases s with
      | no => trivial
      | is d =>
        obtain ⟨v, e1, e2⟩ := h2
        exact ⟨v, e1, Dn.ext (n := m) gr.ext _ _ (Dn.re km d v e2)⟩
      | own c fs =>
        obtain ⟨l, e1, e2⟩ := h2
        exact ⟨l, e1, ObOk.keep (n := m) (Grow.ext gr).keep _ _ (e2.re (m := m) km) fun a _ u e => gr a u e⟩
  · by_cases hj : i = j
    · subst hj
      rw [List.getElem?_set, if_pos rfl] at e1 e2
      by_cases hl : i < ρ.length
      · rw [if_pos hl] at e1
        rw [if_pos (by rw [E.len]; exact hl)] at e2
        cases e1; cases e2
        refine ⟨fun a ha => ⟨.inr ha, E.h0 (fr a ha)⟩, nd, ?_⟩
        show Ob.kidOk (if i = i then o.addrs else n.kid i) o
        rw [if_pos rfl]
        exact kidOk_addrs o
      · rw [if_neg hl] at e1; cases e1
    · rw [List.getElem?_set, if_neg hj] at e1 e2
      obtain ⟨w1, w2, w3⟩ := E.ownF j c fs l e1 e2
      refine ⟨fun a ha => ⟨.inl (w1 a ha).1, (w1 a ha).2⟩, w2, ?_⟩
      show Ob.kidOk (if j = i then o.addrs else n.kid j) fs
      rw [if_neg (Ne.symm hj)]
      exact w3
  · have key : ∀ (j : Nat) (b : Bool) (ds : Ob) (m : Addr), (ρ.set i (.own false o))[j]? = some (.own b ds) → (σ.set i (some (.ref p)))[j]? = some (some (.ref m)) → (j = i ∧ m = p ∧ ds = o) ∨ (j ≠ i ∧ ρ[j]? = some (.own b ds) ∧ σ[j]? = some (some (.ref m))) := by
      intro j b ds m e1 e2
      by_cases hj : i = j
      · subst hj
        rw [List.getElem?_set, if_pos rfl] at e1 e2
        by_cases hl : i < ρ.length
        · rw [if_pos hl] at e1
          rw [if_pos (by rw [E.len]; exact hl)] at e2
          cases e1; cases e2
          exact .inl ⟨rfl, rfl, rfl⟩
        · rw [if_neg hl] at e1; cases e1
      · rw [List.getElem?_set, if_neg hj] at e1 e2
        exact .inr ⟨Ne.symm hj, e1, e2⟩
    rcases key j c fs l1 e1 e3 with ⟨rfl, rfl, rfl⟩ | ⟨a1, a2, a3⟩
    · rcases key q c' gs l2 e2 e4 with ⟨rfl, _⟩ | ⟨b1, b2, b3⟩
      · rfl
      · exact absurd (n.le a ((E.ownF q c' gs l2 b2 b3).1 a ha').1) (nw a ha)
    · rcases key q c' gs l2 e2 e4 with ⟨rfl, rfl, rfl⟩ | ⟨b1, b2, b3⟩
      · exact absurd (n.le a ((E.ownF j c fs l1 a2 a3).1 a ha).1) (nw a ha')
      · exact E.apF j q c c' fs gs l1 l2 a2 b2 a3 b3 a ha ha'
  · rcases h with h | h
    · cases e : H a with
      | none => exact absurd e (E.al a h)
      | some u => rw [gr _ _ e]; simp
    · exact th a h
end
section
variable {F : Fx} {n : Ns} {ρ ρ' ρ0 ρ1 ρ2 ρ3 : List Sl} {σ : L2.St} {H H' : Hp} {i j : Nat} {b : Bool} {l0 a p : Addr} {o : Ob} {ds es : List Da}
/-- .. that stands already, owned by no slot -/
theorem EnvOk.ownN (E : EnvOk F n ρ σ H) (hin : ∀ a, Ft p o a → n a) (hno : ∀ a, Ft p o a → ¬ n.ow a) (h0 : ∀ a, Ft p o a → F.H0 a = none) (nd : Nd p o) (h : ObOk n H p o) :
    EnvOk F (setKid (addF n p o) i o.addrs) (ρ.set i (.own false o)) (σ.set i (some (.ref p))) H := by
  let m : Ns := setKid (addF n p o) i o.addrs
  have km : ∀ a u, H a = some u → ¬ n a → ¬ m a := fun a u e z w => w.elim z fun w => z (hin a w)
  refine ⟨by rw [List.length_set, List.length_set, E.len], fun j s e => ?_, fun j c fs l e1 e2 => ?_, fun j q c c' fs gs l1 l2 e1 e2 e3 e4 a ha ha' => ?_, fun a h => .inl (E.sub a h), E.ion, E.al0, fun a h => h.elim (E.al a) fun w => E.al a (hin a w), E.kp, fun q hq => ⟨(E.gh q hq).1, km _ _ (E.gh q hq).1 (E.gh q hq).2.1, DnL.re (n' := m) km _ _ (E.gh q hq).2.2⟩⟩
  · by_cases hj : i = j
    · subst hj
      rw [List.getElem?_set, if_pos rfl] at e
      by_cases hl : i < ρ.length
      · rw [if_pos hl] at e; cases e
        exact ⟨_, by rw [List.getElem?_set, if_pos rfl, if_pos (by rw [E.len]; exact hl)], p, rfl, h.re (m := m) km⟩
      · rw [if_neg hl] at e; cases e
    · rw [List.getElem?_set, if_neg hj] at e
      obtain ⟨u, h1, h2⟩ := E.sl j s e
      refine ⟨u, by rw [List.getElem?_set, if_neg hj]; exact h1, ?_⟩
      cases s with
      | no => trivial
      | is d =>
        obtain ⟨v, e1, e2⟩ := h2
        exact ⟨v, e1, Dn.re (n' := m) km d v e2⟩
      | own c fs =>
        obtain ⟨l, e1, e2⟩ := h2
        exact ⟨l, e1, e2.re (m := m) km⟩
  · by_cases hj : i = j
    · subst hj
      rw [List.getElem?_set, if_pos rfl] at e1 e2
      by_cases hl : i < ρ.length
      · rw [if_pos hl] at e1
        rw [if_pos (by rw [E.len]; exact hl)] at e2
        cases e1; cases e2
        refine ⟨fun a ha => ⟨.inr ha, h0 a ha⟩, nd, ?_⟩
        show Ob.kidOk (if i = i then o.addrs else n.kid i) o
        rw [if_pos rfl]
        exact kidOk_addrs o
      · rw [if_neg hl] at e1; cases e1
    · rw [List.getElem?_set, if_neg hj] at e1 e2
      obtain ⟨w1, w2, w3⟩ := E.ownF j c fs l e1 e2
      refine ⟨fun a ha => ⟨.inl (w1 a ha).1, (w1 a ha).2⟩, w2, ?_⟩
      show Ob.kidOk (if j = i then o.addrs else n.kid j) fs
      rw [if_neg (Ne.symm hj)]
      exact w3
  · have key : ∀ (j : Nat) (b : Bool) (ds : Ob) (m : Addr), (ρ.set i (.own false o))[j]? = some (.own b ds) → (σ.set i (some (.ref p)))[j]? = some (some (.ref m)) → (j = i ∧ m = p ∧ ds = o) ∨ (j ≠ i ∧ ρ[j]? = some (.own b ds) ∧ σ[j]? = some (some (.ref m))) := by
      intro j b ds m e1 e2
      by_cases hj : i = j
      · subst hj
        rw [List.getElem?_set, if_pos rfl] at e1 e2
        by_cases hl : i < ρ.length
        · rw [if_pos hl] at e1
          rw [if_pos (by rw [E.len]; exact hl)] at e2
          cases e1; cases e2
          exact .inl ⟨rfl, rfl, rfl⟩
        · rw [if_neg hl] at e1; cases e1
      · rw [List.getElem?_set, if_neg hj] at e1 e2
        exact .inr ⟨Ne.symm hj, e1, e2⟩
    rcases key j c fs l1 e1 e3 with ⟨rfl, rfl, rfl⟩ | ⟨a1, a2, a3⟩
    · rcases key q c' gs l2 e2 e4 with ⟨rfl, _⟩ | ⟨b1, b2, b3⟩
      · rfl
      · exact absurd ((E.ownF q c' gs l2 b2 b3).1 a ha').1 (hno a ha)
    · rcases key q c' gs l2 e2 e4 with ⟨rfl, rfl, rfl⟩ | ⟨b1, b2, b3⟩
      · exact absurd ((E.ownF j c fs l1 a2 a3).1 a ha).1 (hno a ha')
      · exact E.apF j q c c' fs gs l1 l2 a2 b2 a3 b3 a ha ha'
end
/-! ### __init__: the new object is seen as if it had been made within -/
def SpNew {α : Type} (C : Addr) (enc : α → List Da) (pre : α → Prop) (post : α → Ob → Prop) : Sp := fun vs H Q _ => ∃ (n : Ns) (f dx : Addr) (ws : List V) (x : α), vs = .ref f :: ws ∧ ¬ n f ∧ (∀ a, n a → H a ≠ none) ∧ H f = some (.ins C dx []) ∧ DnL (addO n f) H ws (enc x) ∧ pre x ∧
  ∀ H' o', post x o' → o'.at_ = some f → (∀ a u, H a = some u → a ≠ f → H' a = some u) → (∀ a, Ft f o' a → a = f ∨ H a = none) → Nd f o' → (∀ a, Ft f o' a → H' a ≠ none) → ObOk (addF n f o') H' f o' → Q .non H'
section
variable {F : Fx} {n : Ns} {ρ ρ' ρ0 ρ1 ρ2 ρ3 : List Sl} {σ : L2.St} {H H' : Hp} {i j : Nat} {b : Bool} {l0 a p : Addr} {o : Ob} {ds es : List Da}
theorem in_N {N : List Str} {f dx C : Addr} {ws : List V} {P : L2.St → Hp → Prop} (hf : ¬ n f) (al : ∀ a, n a → H a ≠ none) (h1 : H f = some (.ins C dx [])) (h : DnL (addO n f) H ws ds)
    (hρ : ρ = Sl.own false (.nst f (.ins C dx []) .nil) :: (ds.map Sl.is ++ List.replicate (N.length - (ds.length + 1)) .no)) (g : Nx ⟨fun a => if a = f then none else H a, fun _ => False, n, []⟩ ρ P) : P (L2.start N (.ref f :: ws)) H := by
  have hst : L2.start N (.ref f :: ws) = some (.ref f) :: (ws.map some ++ List.replicate (N.length - (ds.length + 1)) none) := by
    unfold L2.start
    rw [List.map_cons, List.length_cons, h.length]
    rfl
  rw [hst]
  let n2 : Ns := setKid (addO n f) 0 []
  have FF : F2 n2 H ρ (some (.ref f) :: (ws.map some ++ List.replicate (N.length - (ds.length + 1)) none)) := by
    rw [hρ]
    exact .cons ⟨f, rfl, rfl, h1, trivial, rfl⟩ ((F2.da (n := n2) (h.less fun a z => z)).app (F2.no _))
  have zero : ∀ (i : Nat) (b : Bool) (o : Ob), ρ[i]? = some (.own b o) → i = 0 ∧ b = false ∧ o = .nst f (.ins C dx []) .nil := fun i b o e => by
    rw [hρ] at e
    cases i with
    | zero => cases e; exact ⟨rfl, rfl, rfl⟩
    | succ i => exact absurd e (no_own ds _ i b o)
  refine g n2 _ H ⟨FF.len, FF.get, fun i b fs m e1 e2 => ?_, fun i j b c fs gs l1 l2 e1 e2 e3 e4 a ha ha' => ?_, fun a h => .inl h, fun a h => h.elim, fun a h => ?_, fun a h => ?_, fun a o e _ => ?_, fun p hp => by cases hp⟩
  · obtain ⟨rfl, rfl, rfl⟩ := zero i b fs e1
    cases e2
    refine ⟨fun a ha => ?_, Nd.no rfl, rfl⟩
    rw [ha.no rfl]
    refine ⟨.inr rfl, ?_⟩
    show (if f = f then none else H f) = none
    rw [if_pos rfl]
  · rw [(zero i b fs e1).1, (zero j c gs e2).1]
  · show (if a = f then none else H a) ≠ none
    rw [if_neg (fun z => hf (by rw [← z]; exact h))]
    exact al a h
  · rcases h with h | h
    · exact al a h
    · rw [h, h1]; simp
  · have e : (if a = f then none else H a) = some o := e
    by_cases z : a = f
    · rw [if_pos z] at e; cases e
    · rw [if_neg z] at e; exact e
theorem rt_N {Q : VK} {H0 : Hp} {n0 : Ns} {f : Addr} {G : Fx} {P0 : Ob → Prop} {o' : Ob} (q : ∀ H' o', P0 o' → o'.at_ = some f → (∀ a u, H0 a = some u → a ≠ f → H' a = some u) → (∀ a, Ft f o' a → a = f ∨ H0 a = none) → Nd f o' → (∀ a, Ft f o' a → H' a ≠ none) → ObOk (addF n0 f o') H' f o' → Q .non H')
    (w : Fw ⟨fun a => if a = f then none else H0 a, fun _ => False, n0, []⟩ G) (s : ρ[0]? = some (.own false o')) (hb : o'.at_ = some f) (e : P0 o') : RtD G ρ .non Q := fun n σ H v E h => by
  cases h
  have E' := w.un E
  obtain ⟨l, g1, g2, _⟩ := own_ob E' s
  obtain ⟨w1, w2, _⟩ := E'.ownF 0 false o' l s g1
  have hl : l = f := by
    cases o' with
    | lst ds => cases hb
    | ins C fs => cases hb
    | dic D kvs => cases hb
    | nst l0 u ks => cases hb; exact g2.1
  subst hl
  refine q H o' e hb (fun a u z k => E'.kp a u (by show (if a = l then none else H0 a) = _; rw [if_neg k]; exact z) (fun z => z)) (fun a ha => ?_) w2 (fun a ha => E'.al a (n.le a (w1 a ha).1)) (g2.re fun a _ _ z w => z (w.elim (E'.sub a) fun w => n.le a (w1 a w).1))
  have h1 : (if a = l then none else H0 a) = none := (w1 a ha).2
  by_cases z : a = l
  · exact .inl z
  · rw [if_neg z] at h1; exact .inr h1
/-- the object of slot i takes in a new one, at p -/
theorem EnvOk.growK (E : EnvOk F n ρ σ H) {u : HO} {l : Addr} {os : Ob} (hp : n.ow p) (hp0 : F.H0 p = none) (hpn : ∀ (j : Nat) (c : Bool) (fs : Ob) (m : Addr), ρ[j]? = some (.own c fs) → σ[j]? = some (some (.ref m)) → ¬ Ft m fs p)
    (hi : ρ[i]? = some (.own false o)) (hs : σ[i]? = some (some (.ref l))) (h : ObOk n (upd H l u) l os) (hf : ∀ a ∈ os.foot, a ∈ o.foot ∨ a = p) (hn : Nd l os) :
    EnvOk F (setKid n i os.addrs) (ρ.set i (.own false os)) σ (upd H l u) := by
  obtain ⟨q0, q3, q4⟩ := E.ownF i false o l hi hs
  obtain ⟨q1, q2⟩ := q0 l (.inl rfl)
  have q2 : F.H0 l = none := q2
  let m : Ns := setKid n i os.addrs
  have x : Ext n H (upd H l u) := fun a o e k => by
    rw [upd_ne (fun z => k (by rw [z]; exact q1))]
    exact e
  have xm : Ext m H (upd H l u) := x
  have sm : ∀ a u, H a = some u → ¬ n a → ¬ m a := fun a u e z => z
  have hil : i < ρ.length := (List.getElem?_eq_some_iff.mp hi).1
  refine ⟨by rw [List.length_set, E.len], fun j s e => ?_, fun j c fs k e1 e2 => ?_, fun j k c c' fs gs l1 l2 e1 e2 e3 e4 a ha ha' => ?_, E.sub, E.ion, E.al0, fun a h => ?_, fun a o e k => ?_, fun p hp => ⟨x _ _ (E.gh p hp).1 fun z => (E.gh p hp).2.1 (n.le _ z), (E.gh p hp).2.1, DnL.ext (n := m) xm _ _ (DnL.re sm _ _ (E.gh p hp).2.2)⟩⟩
  · by_cases hj : i = j
    · subst hj
      rw [List.getElem?_set, if_pos rfl, if_pos hil] at e
      cases e
      exact ⟨_, hs, l, rfl, h.re (m := m) fun a _ _ z => z⟩
    · rw [List.getElem?_set, if_neg hj] at e
      obtain ⟨o2, h1, h2⟩ := E.sl j s e
      refine ⟨o2, h1, ?_⟩
      cases s with
      | no => trivial
      | is d =>
        obtain ⟨v, e1, e2⟩ := h2
        exact ⟨v, e1, Dn.ext (n := m) xm _ _ (Dn.re sm _ _ e2)⟩
      | own c fs =>
        obtain ⟨k, e1, e2⟩ := h2
        subst e1
        refine ⟨k, rfl, ObOk.keep (n := m) xm.keep _ _ (e2.re sm) fun a ha v hv => ?_⟩
        rw [upd_ne]
        · exact hv
        · intro z
          subst z
          exact hj (E.apF i j false c o fs a k hi e hs h1 a (.inl rfl) ha)
  · by_cases hj : i = j
    · subst hj
      rw [List.getElem?_set, if_pos rfl, if_pos hil] at e1
      cases e1
      rw [hs] at e2
      cases e2
      refine ⟨fun a ha => ?_, hn, ?_⟩
      · rcases ha with ha | ha
        · rw [ha]; exact ⟨q1, q2⟩
        · rcases hf a ha with z | z
          · exact q0 a (.inr z)
          · rw [z]; exact ⟨hp, hp0⟩
      · show Ob.kidOk (if i = i then os.addrs else n.kid i) os
        rw [if_pos rfl]
        exact kidOk_addrs os
    · rw [List.getElem?_set, if_neg hj] at e1
      obtain ⟨w1, w2, w3⟩ := E.ownF j c fs k e1 e2
      refine ⟨w1, w2, ?_⟩
      show Ob.kidOk (if j = i then os.addrs else n.kid j) fs
      rw [if_neg (Ne.symm hj)]
      exact w3
  · have key : ∀ (j : Nat) (b : Bool) (ds : Ob) (k : Addr), (ρ.set i (.own false os))[j]? = some (.own b ds) → σ[j]? = some (some (.ref k)) → Ft k ds a → (j = i ∧ a = p) ∨ ∃ b' ds', ρ[j]? = some (.own b' ds') ∧ Ft k ds' a := by
      intro j b ds k e1 e2 ha
      by_cases hj : i = j
      · subst hj
        rw [List.getElem?_set, if_pos rfl, if_pos hil] at e1
        cases e1
        rw [hs] at e2
        cases e2
        rcases ha with ha | ha
        · exact .inr ⟨_, _, hi, .inl ha⟩
        · rcases hf a ha with z | z
          · exact .inr ⟨_, _, hi, .inr z⟩
          · exact .inl ⟨rfl, z⟩
      · rw [List.getElem?_set, if_neg hj] at e1
        exact .inr ⟨_, _, e1, ha⟩
    rcases key j c fs l1 e1 e3 ha with ⟨g1, g2⟩ | ⟨b1, d1, g1, g2⟩
    · rcases key k c' gs l2 e2 e4 ha' with ⟨w1, w2⟩ | ⟨b2, d2, w1, w2⟩
      · rw [g1, w1]
      · rw [g2] at w2
        exact absurd w2 (hpn k b2 d2 l2 w1 e4)
    · rcases key k c' gs l2 e2 e4 ha' with ⟨w1, w2⟩ | ⟨b2, d2, w1, w2⟩
      · rw [w2] at g2
        exact absurd g2 (hpn j b1 d1 l1 g1 e3)
      · exact E.apF j k b1 b2 d1 d2 l1 l2 g1 w1 e3 e4 a g2 w2
  · by_cases ha : a = l
    · rw [ha, upd_same]; simp
    · rw [upd_ne ha]; exact E.al a h
  · by_cases ha : a = l
    · subst ha
      rw [q2] at e; cases e
    · rw [upd_ne ha]; exact E.kp a o e k
/-- self.f = a new list: the first of them .. -/
theorem nx_fldN0 {K : PySem.W.Frag} {C : Addr} {f : Str} {tv : TE} {D : Ends} (h : Wp tv ρ fun k ρ1 => ∃ ds, k = .nw ds ∧ ρ1[i]? = some (.own false (.ins C [])) ∧ (Cls K C ∧ NoAttr K C f) ∧ ∀ l dx a, Nx F (ρ1.set i (.own false (.nst l (.ins C dx [(f, .ref a)]) (.cons a (.lst ds) .nil)))) D.nx) : Nx F ρ (sFld K (tVar i) tv f D) := fun n σ H E =>
  h F n σ H E _ fun v H1 k ρ1 fc E1 x1 r1 => by
    obtain ⟨ds, rfl, s, c, q⟩ := fc
    obtain ⟨p, us, rfl, hp, E2, h2, h3⟩ := r1
    obtain ⟨l, e1, ⟨dx, vs, e2, e3⟩, e4⟩ := own_ob E2.may s
    cases e3
    refine ⟨.ref l, e1, l, C, dx, [], rfl, e2, c.1, c.2, by decide, ?_⟩
    have hlp : l ≠ p := fun z => by rw [z, h2] at e2; cases e2
    have nop : ∀ (j : Nat) (c : Bool) (fs : Ob) (m : Addr), ρ1[j]? = some (.own c fs) → σ[j]? = some (some (.ref m)) → ¬ Ft m fs p := fun j c fs m g1 g2 z => E.not hp (n.le p ((E2.ownF j c fs m g1 g2).1 p z).1)
    have x : Ext (addO n p) H1 (upd H1 l (.ins C dx (putF f (.ref p) []))) := ext_mut e4
    have E3 := E2.may.growK (i := i) (o := .ins C []) (os := .nst l (.ins C dx [(f, .ref p)]) (.cons p (.lst ds) .nil)) (p := p) (u := .ins C dx (putF f (.ref p) [])) (.inr rfl) (E.h0 hp) nop s e1
      ⟨rfl, by rw [upd_same]; rfl, ⟨⟨us, by rw [upd_ne (Ne.symm hlp)]; exact h2, DnL.extA (n := addO n p) x.keep _ _ (DnL.re (n := add n p) (n' := addO n p) (fun a _ _ z => z) _ _ h3)⟩, trivial⟩, rfl⟩
      (fun a ha => .inr (by simpa [Ob.foot, Obs.foot] using ha)) ⟨by simpa [Ob.foot, Obs.foot] using hlp, by simp [Ob.foot, Obs.foot]⟩
    exact q l dx p _ σ _ E3
/-- .. one more -/
def Obs.snoc : Obs → Addr → Ob → Obs
  | .nil, p, k => .cons p k .nil
  | .cons a o ks, p, k => .cons a o (ks.snoc p k)
theorem addrs_snoc : ∀ (ks : Obs) (p : Addr) (k : Ob), (ks.snoc p k).addrs = ks.addrs ++ [p]
  | .nil, _, _ => rfl
  | .cons a o ks, p, k => by
    show a :: (ks.snoc p k).addrs = a :: (ks.addrs ++ [p])
    rw [addrs_snoc ks p k]
theorem foot_snoc : ∀ (ks : Obs) (p : Addr) (k : Ob), k.foot = [] → (ks.snoc p k).foot = ks.foot ++ [p]
  | .nil, p, k, h => by
    show p :: (k.foot ++ []) = _
    rw [h]
    rfl
  | .cons a o ks, p, k, h => by
    show a :: (o.foot ++ (ks.snoc p k).foot) = a :: (o.foot ++ ks.foot) ++ [p]
    rw [foot_snoc ks p k h]
    simp
theorem obsOk_snoc {k : Ob} (h' : ObOk n H p k) : ∀ ks : Obs, ObsOk n H ks → ObsOk n H (ks.snoc p k)
  | .nil, _ => ⟨h', trivial⟩
  | .cons a o ks, h => ⟨h.1, obsOk_snoc h' ks h.2⟩
theorem putF_new {f : Str} {v : V} : ∀ {fs : List (Str × V)}, fs.lookup f = none → putF f v fs = fs ++ [(f, v)]
  | [], _ => rfl
  | (g, x) :: fs, e => by
    rw [List.lookup_cons] at e
    have hg : ¬ g = f := fun z => by
      subst z
      simp at e
    unfold putF
    rw [if_neg hg, putF_new (fs := fs) (by
      split at e
      · cases e
      · exact e)]
    rfl
theorem nx_fldN1 {K : PySem.W.Frag} {C dx0 l0 : Addr} {f : Str} {tv : TE} {D : Ends} {fs : List (Str × V)} {ks : Obs} (h : Wp tv ρ fun k ρ1 => ∃ ds, k = .nw ds ∧ ρ1[i]? = some (.own false (.nst l0 (.ins C dx0 fs) ks)) ∧ (Cls K C ∧ NoAttr K C f) ∧ fs.length < 1000 ∧ fs.lookup f = none ∧ ∀ a, Nx F (ρ1.set i (.own false (.nst l0 (.ins C dx0 (fs ++ [(f, .ref a)])) (ks.snoc a (.lst ds))))) D.nx) : Nx F ρ (sFld K (tVar i) tv f D) := fun n σ H E =>
  h F n σ H E _ fun v H1 k ρ1 fc E1 x1 r1 => by
    obtain ⟨ds, rfl, s, c, hlen, hlk, q⟩ := fc
    obtain ⟨p, us, rfl, hp, E2, h2, h3⟩ := r1
    obtain ⟨l, e1, e2, e4⟩ := own_ob E2.may s
    obtain ⟨g1, g2, g3, g4⟩ := e2
    subst g1
    refine ⟨.ref l, e1, l, C, dx0, fs, rfl, g2, c.1, c.2, hlen, ?_⟩
    rw [putF_new hlk]
    have hlp : l ≠ p := fun z => by rw [z, h2] at g2; cases g2
    have nop : ∀ (j : Nat) (c : Bool) (fs : Ob) (m : Addr), ρ1[j]? = some (.own c fs) → σ[j]? = some (some (.ref m)) → ¬ Ft m fs p := fun j c fs m g1 g2 z => E.not hp (n.le p ((E2.ownF j c fs m g1 g2).1 p z).1)
    have x : Ext (addO n p) H1 (upd H1 l (.ins C dx0 (fs ++ [(f, .ref p)]))) := ext_mut e4
    have q0 := E2.may.ownF i false _ l s e1
    have hkp : p ∉ ks.foot := fun z => nop i false _ l s e1 (.inr z)
    have ef : (Ob.nst l (.ins C dx0 (fs ++ [(f, .ref p)])) (ks.snoc p (.lst ds))).foot = ks.foot ++ [p] := foot_snoc ks p _ rfl
    have hob : ObOk (addO n p) (upd H1 l (.ins C dx0 (fs ++ [(f, .ref p)]))) l (.nst l (.ins C dx0 (fs ++ [(f, .ref p)])) (ks.snoc p (.lst ds))) := by
      refine ⟨rfl, by rw [upd_same], obsOk_snoc (k := .lst ds) ⟨us, by rw [upd_ne (Ne.symm hlp)]; exact h2, DnL.extA (n := addO n p) x.keep _ _ (DnL.re (n := add n p) (n' := addO n p) (fun a _ _ z => z) _ _ h3)⟩ ks ?_, ?_⟩
      · exact ObsOk.keep (n := addO n p) x.keep ks g3 fun a ha u hu => by
          rw [upd_ne (fun z => q0.2.1.1 (by rw [← z]; exact ha))]
          exact hu
      · rw [addrs_snoc]
        have g4 : fs.map (·.2) = ks.addrs.map V.ref := g4
        show (fs ++ [(f, V.ref p)]).map (·.2) = _
        rw [List.map_append, g4, List.map_append]
        rfl
    have E3 := E2.may.growK (i := i) (o := .nst l (.ins C dx0 fs) ks) (os := .nst l (.ins C dx0 (fs ++ [(f, .ref p)])) (ks.snoc p (.lst ds))) (p := p) (u := .ins C dx0 (fs ++ [(f, .ref p)])) (.inr rfl) (E.h0 hp) nop s e1 hob
      (fun a ha => by
        rw [ef] at ha
        rcases List.mem_append.mp ha with z | z
        · exact .inl z
        · exact .inr (List.mem_singleton.mp z)) (by
        unfold Nd
        rw [ef]
        refine ⟨fun z => ?_, ?_⟩
        · rcases List.mem_append.mp z with z | z
          · exact q0.2.1.1 z
          · exact hlp (List.mem_singleton.mp z)
        · rw [List.nodup_append]
          exact ⟨q0.2.1.2, by simp, fun a ha b hb => by
            rw [List.mem_singleton.mp hb]
            intro z
            exact hkp (by rw [← z]; exact ha)⟩)
    exact q p _ σ _ E3
end
/-! ### a new object stored, with data beside it; a pair of an object and data handed out -/
section
variable {α : Type} {K : PySem.W.Frag} {F : Fx} {n : Ns} {ρ ρ' ρ0 ρ1 ρ2 ρ3 : List Sl} {te tl ta tb tc : TE} {tt tu : TT} {tx tr : TA} {d e : Da} {k k1 k2 : Rk} {ks : List Rk} {ds es ds1 ds2 : List Da} {i j : Nat} {E : XK} {H : Hp} {σ : L2.St} {D : Ends} {C : Addr}
theorem mk_new {enc : α → List Da} {pre : α → Prop} {post : α → Ob → Prop} (E0 : EnvOk F n ρ σ H) (x : α) (he : enc x = []) (hp : pre x) {p dx : Addr} (hp0 : H p = none) (hd0 : H dx = none) (hne : dx ≠ p) {Q : VK} (i : Nat)
    (h : ∀ H' o' n', post x o' → o'.at_ = some p → Grow H H' → (∀ a, n a → n' a) → EnvOk F n' (ρ.set i (.own false o')) (σ.set i (some (.ref p))) H' → Q .non H') : SpNew C enc pre post [.ref p] (upd (upd H dx (.own p)) p (.ins C dx [])) Q E := by
  have gr : Grow H (upd (upd H dx (.own p)) p (.ins C dx [])) := Grow.trans (.upd hd0) (.upd (by rw [upd_ne (fun z => hne z.symm)]; exact hp0))
  refine ⟨n, p, dx, [], x, rfl, E0.not hp0, fun a ha z => ?_, upd_same, by rw [he]; exact .nil, hp, fun H' o' hr hat fr ft nd th ok => ?_⟩
  · cases e : H a with
    | none => exact E0.al a ha e
    | some o => rw [gr a o e] at z; cases z
  · have gr2 : Grow H H' := fun a u e => fr a u (gr a u e) (ne_of_none e hp0)
    have fresh : ∀ a, Ft p o' a → H a = none := fun a ha => by
      rcases ft a ha with z | z
      · rw [z]; exact hp0
      · cases e : H a with
        | none => rfl
        | some o => rw [gr a o e] at z; cases z
    exact h H' o' (setKid (addF n p o') i o'.addrs) hr hat gr2 (fun a z => .inl z) (E0.setN (i := i) gr2 fresh nd th ok)
/-- x, y = C(), e : y a new list, e a text without names -/
theorem nx_par2Mk {enc : α → List Da} {pre : α → Prop} {post : α → Ob → Prop} (x : α) (he : enc x = []) (hp : pre x) (hc : ∀ σ1 σ2 H Q, te σ1 H Q = te σ2 H Q)
    (h : ∀ o', post x o' → Wp te (ρ.set i (.own false o')) fun k ρ1 => ∃ ds, k = .nw ds ∧ Nx F (ρ1.set j (.own false (.lst ds))) D.nx) : Nx F ρ (tPar i j (tCons (tMake C (SpNew C enc pre post) [] E tNil) (tCons te tNil)) D) := fun n σ H E0 => by
  rintro p dx hp0 hd0 hne
  refine mk_new E0 x he hp hp0 hd0 hne i fun H' o' n' hr hat gr hn E1 => ⟨rfl, ?_⟩
  show te σ H' _
  rw [hc σ (σ.set i (some (.ref p)))]
  refine h o' hr F n' _ H' E1 _ fun v H2 k ρ1 f E2 x2 r2 => ?_
  obtain ⟨ds, rfl, q⟩ := f
  obtain ⟨q0, us, rfl, hq, E3, h1, h2⟩ := r2
  exact ⟨_, _, rfl, q _ _ _ (E3.may.setO (i := j) (ds := .lst ds) (fun j b es l e1 e2 ha => E1.not hq (n'.le q0 ((E2.ownF j b es l e1 e2).1 q0 ha).1)) (E1.h0 hq) ⟨us, h1, DnL.re (n := add n' q0) (n' := addO n' q0) (fun a _ _ z => z) _ _ h2⟩)⟩
/-- the answer is a new tuple, of a new object and of data; the first argument is a list that is changed -/
def SpF2 {α : Type} (enc : α → List Da) (pre : List Da → α → Prop) (post : List Da → α → List Da → Ob → Da → Prop) : Sp := fun vs H Q _ => ∃ (n : Ns) (f : Addr) (ws : List V) (us : List V) (l : List Da) (x : α), vs = .ref f :: ws ∧ n.ow f ∧ (∀ a, n a → H a ≠ none) ∧
  H f = some (.lst us) ∧ DnL n H us l ∧ DnL n H ws (enc x) ∧ pre l x ∧ ∀ t p v H' us' l' o1 d2, post l x l' o1 d2 → (∀ a o, H a = some o → a ≠ f → H' a = some o) → H' f = some (.lst us') → DnL (addF n p o1) H' us' l' → H t = none → H' t = some (.tup [.ref p, v]) →
    (∀ a, Ft p o1 a → H a = none) → Nd p o1 → (∀ a, Ft p o1 a → H' a ≠ none) → ObOk (addF n p o1) H' p o1 → Dn (addF n p o1) H' v d2 → Q (.ref t) H'
/-- x, y = f(..) -/
theorem nx_call2 {i1 i2 : Nat} {enc : α → List Da} {pre : List Da → α → Prop} {post : List Da → α → List Da → Ob → Da → Prop} (h : WpA tx ρ fun ks ρ1 => ∃ i ks' b ds x, ks = .sl i :: ks' ∧ ρ1[i]? = some (.own b (.lst ds)) ∧ AllDa ks' (enc x) ∧ pre ds x ∧
      ∀ l' o1 d2, post ds x l' o1 d2 → Nx F (((ρ1.set i (.own b (.lst l'))).set i1 (.own false o1)).set i2 (.is d2)) D.nx) :
    Nx F ρ (tAsg (tCall (SpF2 enc pre post) [] E tx) (gTup K 2 (gCons (gName i1) (gCons (gName i2) gNil))) D) := fun n σ H E0 =>
  h F n σ H E0 _ fun vs H1 ks ρ1 f E1 x1 r1 => by
    obtain ⟨i, ks', b, ds, x, rfl, s, hs, hp, q⟩ := f
    rw [List.append_nil]
    cases r1 with
    | cons a c =>
      obtain ⟨l, us, g1, g2, g3, g4⟩ := own_at E1 s
      have a' : σ[i]? = some (some _) := a
      rw [g1] at a'
      cases a'
      refine ⟨n, l, _, us, ds, x, rfl, (E1.own i b (.lst ds) l s g1).1, E1.al, g2, g3, hs.rel c, hp, fun t p v H' us' l' o1 d2 hr y h1 h2 ht0 ht fr nd th ok hd => ?_⟩
      let m : Ns := ⟨fun a => n a ∨ Ft p o1 a, n.ow, fun a h => .inl (n.le a h), n.kid⟩
      have ms : ∀ a, m a → (addF n p o1) a := fun a h => h
      obtain ⟨E2, xx⟩ := mut_to (m := m) (fun _ h => .inl h) (fun _ => Iff.rfl) (fun a h => h.imp id (fr a)) (fun a h => h.imp id (th a)) E1 s g1 y (o' := .lst l') ⟨us', h1, h2.less ms⟩
      have E3 := E2.ownN (i := i1) (o := o1) (p := p) (fun a h => .inr h) (fun a h z => absurd (fr a h) (E1.al a (n.le a z))) (fun a h => E1.h0 (fr a h)) nd (ok.re (m := m) fun a _ _ z => z)
      have hd' : Dn (setKid (addF m p o1) i1 o1.addrs) H' v d2 := Dn.re (n := addF n p o1) (n' := setKid (addF m p o1) i1 o1.addrs) (fun a _ _ z w => z (w.elim id .inr)) _ _ hd
      exact ⟨t, _, rfl, .inl (.inl ht), rfl, _, _, rfl, _, _, rfl, rfl, q l' o1 d2 hr _ _ _ (E3.set hd')⟩
/-- return x, y -/
theorem nx_ret2 {i1 i2 : Nat} {enc : α → List Da} {f : Addr} {n0 : Ns} {H0 : Hp} {G : Fx} {l' : List Da} {o1 : Ob} {d2 : Da} {P0 : List Da → Ob → Da → Prop}
    (q : ∀ t p v H' us' l' o1 d2, P0 l' o1 d2 → (∀ a o, H0 a = some o → a ≠ f → H' a = some o) → H' f = some (.lst us') → DnL (addF n0 p o1) H' us' l' → H0 t = none → H' t = some (.tup [.ref p, v]) →
      (∀ a, Ft p o1 a → H0 a = none) → Nd p o1 → (∀ a, Ft p o1 a → H' a ≠ none) → ObOk (addF n0 p o1) H' p o1 → Dn (addF n0 p o1) H' v d2 → D.rt (.ref t) H')
    (w : Fw ⟨H0, fun a => a = f, n0, []⟩ G) (s0 : ρ[0]? = some (.own true (.lst l'))) (s1 : ρ[i1]? = some (.own false o1)) (s2 : ρ[i2]? = some (.is d2)) (e : P0 l' o1 d2) : Nx G ρ (tRet (tTup (tCons (tVar i1) (tCons (tVar i2) tNil))) D) := fun n σ H E => by
  have E' := w.un E
  obtain ⟨p, g1, g2, _⟩ := own_ob E' s1
  obtain ⟨w1, w2, _⟩ := E'.ownF i1 false o1 p s1 g1
  obtain ⟨u, k1, v, rfl, k2⟩ := E'.sl i2 _ s2
  obtain ⟨l, us, h1, h2, h3, h4⟩ := own_at E' s0
  have hl : l = f := (E'.own 0 true (.lst l') l s0 h1).2
  subst hl
  refine ⟨_, g1, _, k1, (by show 2 ≤ sizeLine; decide), fun t ht => ?_⟩
  have gr := Grow.upd (o := .tup [.ref p, v]) ht
  have less : ∀ a, (addF n0 p o1) a → n a := fun a h => h.elim (E'.sub a) fun z => n.le a (w1 a z).1
  refine q t p v _ us l' o1 d2 e (fun a o z k => gr _ _ (E'.kp a o z k)) (gr _ _ h2) (DnL.ext (n := addF n0 p o1) gr.ext _ _ (h3.less less)) (E'.h0 ht) upd_same (fun a ha => (w1 a ha).2) w2 (fun a ha => ?_) ?_ (Dn.ext (n := addF n0 p o1) gr.ext _ _ (k2.less less))
  · cases z : H a with
    | none => exact absurd z (E'.al a (n.le a (w1 a ha).1))
    | some o => rw [gr _ _ z]; simp
  · exact ObOk.keep (n := addF n0 p o1) (Grow.ext gr).keep _ _ (g2.re (m := addF n0 p o1) fun a _ _ z k => z (less a k)) fun a _ u z => gr a u z
/-- a return of a new list, where the receiver is an object of its own -/
theorem rt_GL {Q : VK} {n0 : Ns} {H0 : Hp} {f : Addr} {o : Ob} {G : Fx} {P0 : Ob → List Da → Prop} {o' : Ob} (q : ∀ p us H' o' r, P0 o' r → H0 p = none → GoOn n0 H0 H' f o o' → H' p = some (.lst us) → DnL n0 H' us r → Q (.ref p) H') (w : Fw ⟨H0, Ft f o, n0, []⟩ G) (j : Nat)
    (s : ρ[j]? = some (.own true o')) (e : P0 o' ds) (hb : o.at_ = none ∨ o'.at_ = some f := by first | exact .inl rfl | exact .inr rfl) (hk : ∀ as, o.kidOk as → o'.kidOk as := by first | exact fun _ _ => trivial | exact fun _ h => h) : RtO G ρ ds Q := fun n σ H p us E h0 h1 h2 => by
  have E' := w.un E
  rw [w.H0] at h0
  obtain ⟨l, g1, g2, _⟩ := own_ob E' s
  obtain ⟨w1, w2⟩ := E'.ownF j true o' l s g1
  have hl : l = f := by
    rcases hb with hb | hb
    · exact (show Ft f o l from (w1 l (.inl rfl)).2).no (Ob.foot_no hb)
    · cases o' with
      | lst ds => cases hb
      | ins C fs => cases hb
      | dic D kvs => cases hb
      | nst l0 u ks => cases hb; exact g2.1
  subst hl
  have al : ∀ a, Ft l o a → H a ≠ none := fun a ha => E'.al a (E'.sub a (E'.ion a ha))
  refine q p us H o' ds e h0 ⟨fun a o z k => E'.kp a o z k, al, ⟨fun a ha => ?_, w2.1.2⟩, g2.re fun a _ _ z w => z (E'.sub a w), hk⟩ h1 (h2.less fun a z => .inl (E'.sub a z))
  rcases (show Ft l o a from (w1 a (.inr ha)).2) with z | z
  · subst z
    exact absurd ha w2.1.1
  · exact z
/-- C() -/
theorem pe_mk0 {X : Cx} {j k : Nat} {x : Str} {C : Addr} {sp : Sp} {p pos : Pos} (c : Makb X.prog X.w X.K X.mg X.base k x C sp) (hr : Room j X.A) (hk : k + 1 ≤ j) (hg : Gl X x)
    (hdb : (x == ("__debug__" : Str)) = false := by decide) : PE X (.Call (.Name x p) [] [] pos) (tMake C sp [] E0 tNil) := by
  obtain ⟨f, fd, ps, M, F, hm, b⟩ := c.ex
  exact pe_make0 M F (hr.mono hk) hg hm b .nil pass0 hdb
end
end Dd
namespace Dd
open PySem PySem.Spec PyProof.Rows L2
/-! ## an object of data that is made of a list of its own -/
def noLF : List (Str × Da) → Bool
  | [] => true
  | (_, d) :: fs => noL d && noLF fs
theorem DnF.addL {n m : Ns} {H : Hp} (km : ∀ a vs, H a = some (.tup vs) → ¬ n a → ¬ m a) : ∀ (fs : List (Str × Da)) (vs : List (Str × V)), noLF fs = true → DnF n H vs fs → DnF m H vs fs
  | [], _, _, h => by cases h; exact .nil
  | (f, d) :: fs, _, p, h => by
    rw [noLF, Bool.and_eq_true] at p
    cases h with
    | cons h1 h2 => exact .cons (Dn.addL km d _ p.1 h1) (DnF.addL km fs _ p.2 h2)
section
variable {α : Type} {K : PySem.W.Frag} {F : Fx} {n : Ns} {ρ ρ' ρ0 ρ1 : List Sl} {te tl ta tv : TE} {tx tr : TA} {d e : Da} {k : Rk} {ks : List Rk} {ds es : List Da} {i j : Nat} {E : XK} {H : Hp} {σ : L2.St} {Φ : Rw → List Sl → Prop} {D : Ends} {C : Addr} {f : Str}
theorem wp_makeK {enc : α → List Da} {pre : Ob → α → Prop} {post : Ob → α → Ob → Da → Prop} (hp : ∀ x o' r, post (.ins C []) x o' r → r = .non ∧ ∃ fs, o' = .ins C fs)
    (h : Wp te ρ fun k ρ1 => ∃ x ds, see ρ1 (soft k) = some (.lst ds) ∧ enc x = [.lst ds] ∧ pre (.ins C []) x ∧ ∀ fs, post (.ins C []) x (.ins C fs) .non → noLF fs = true ∧ Φ (.da (.ins C fs)) ρ1) : Wp (tMake C (SpG (fun _ => []) enc pre post) [] E (tCons te tNil)) ρ Φ := fun F n σ H E0 Q g =>
  h F n σ H E0 _ fun v H1 k ρ1 fc E1 x1 r1 => by
    obtain ⟨x, ds, s, he, hpre, q⟩ := fc
    obtain ⟨a, vs, rfl, ha, hds⟩ := peekL E1 (r1.soft E0) s
    rintro p dx hp0 hd0 hne
    have gr : Grow H1 (upd (upd H1 dx (.own p)) p (.ins C dx [])) := Grow.trans (.upd hd0) (.upd (by rw [upd_ne (fun z => hne z.symm)]; exact hp0))
    have hpH : (upd (upd H1 dx (.own p)) p (.ins C dx [])) p = some (.ins C dx []) := by simp [upd]
    let n1 : Ns := ⟨fun b => n b ∧ b ≠ a, fun b => n.ow b ∧ b ≠ a, fun b h => ⟨n.le b h.1, h.2⟩, n.kid⟩
    have ha1 : ¬ n1 a := fun z => z.2 rfl
    have arg : Dn n1 H1 (.ref a) (.lst ds) := .lst ha ha1 (hds.less fun b z => z.1)
    have ds1 : DnL (addO n1 p) (upd (upd H1 dx (.own p)) p (.ins C dx [])) [.ref a] (enc x) := by
      rw [he]
      exact DnL.ext (gr.ext) _ _ (DnL.re (n := n1) (n' := addO n1 p) (fun a o e z w => w.elim z fun w => by rw [w, hp0] at e; cases e) _ _ (.cons arg .nil))
    refine ⟨addO n1 p, p, [], [.ref a], .ins C [], x, rfl, ⟨fun a ha => by rw [ha.no rfl]; exact .inr rfl, Nd.no rfl⟩, fun b hb => ?_, ⟨dx, [], hpH, .nil⟩, .nil, ds1, hpre, fun v H' o' r hr y h3 => ?_⟩
    · rcases hb with hb | hb
      · intro z
        cases e : H1 b with
        | none => exact E1.al b hb.1 e
        | some o => rw [gr b o e] at z; cases z
      · rw [hb, hpH]
        intro z
        cases z
    · obtain ⟨rfl, fs, rfl⟩ := hp _ _ _ hr
      cases h3
      have gr2 : Grow H1 H' := fun b u e => y.fr b u (gr b u e) fun z => ne_of_none e hp0 (z.no rfl)
      obtain ⟨hno, q⟩ := q fs hr
      refine ⟨rfl, g _ H' (.da (.ins C fs)) _ q (E1.grow gr2) (x1.trans gr2.ext) ?_⟩
      obtain ⟨dx', ws, w1, w2⟩ := y.ok
      refine .ins w1 (E1.not hp0) (DnF.addL (n := addO n1 p) (fun b us e z w => z (.inl ⟨w, fun w2 => ?_⟩)) fs ws hno w2)
      rw [w2, gr2 a _ ha] at e
      cases e
end
end Dd
namespace Dd
open PySem PySem.Spec PyProof.Rows L2
/-! ## a list of its own, looked at as data for the time of one expression -/
section
variable {K : PySem.W.Frag} {F : Fx} {n n' : Ns} {ρ ρ1 : List Sl} {te : TE} {ds es : List Da} {i : Nat} {H H1 : Hp} {σ : L2.St} {Φ : Rw → List Sl → Prop} {vs : List Nat}
theorem wipeS_len (ρ : List Sl) : ∀ vs : List Nat, (wipeS ρ vs).length = ρ.length
  | [] => rfl
  | v :: vs => by rw [wipeS, List.length_set, wipeS_len ρ vs]
theorem EnvOk.wipeF (E : EnvOk F n ρ σ H) : ∀ vs : List Nat, EnvOk F n (wipeS ρ vs) σ H
  | [] => E
  | v :: vs => (EnvOk.wipeF E vs).forget v
theorem thaw (E : EnvOk F n ρ σ H) {l : Addr} {vs0 : List V} (s : ρ[i]? = some (.own false (.lst ds))) (hs : σ[i]? = some (some (.ref l))) (hl : H l = some (.lst vs0)) (hd : DnL n H vs0 ds) (hno : ∀ (j : Nat) (c : Bool) (o : Ob), ρ[j]? = some (.own c o) → obNoL o = true)
    {m : Ns} (m1 : ∀ a, n a → m a) (m2 : ∀ a, m.ow a ↔ n.ow a) (m3 : m.kid = n.kid) (m4 : ∀ a u, H a = some u → ¬ n a → ¬ m a) (n1 : ∀ a, n' a ↔ m a ∧ a ≠ l) (n2 : ∀ a, n'.ow a ↔ n.ow a ∧ a ≠ l) (iv : i ∉ vs) (E1 : EnvOk F n' (wipeS (ρ.set i (.is (.lst ds))) vs) σ H1) (x : Ext n' H H1) : EnvOk F m (wipeS ρ vs) σ H1 := by
  have hl1 : H1 l = some (.lst vs0) := x l _ hl fun z => ((n2 l).mp z).2 rfl
  have xn : Ext n H H1 := fun a o e k => x a o e fun z => k ((n2 a).mp z).1
  have xm : Ext m H H1 := fun a o e k => xn a o e fun z => k ((m2 a).mpr z)
  have Ew := E.wipeF vs
  have hil : i < ρ.length := (List.getElem?_eq_some_iff.mp s).1
  have same : ∀ j, j ≠ i → (wipeS (ρ.set i (.is (.lst ds))) vs)[j]? = (wipeS ρ vs)[j]? := fun j hj => by
    rw [wipeS_get, wipeS_get, List.getElem?_set_ne (Ne.symm hj)]
  refine ⟨by rw [wipeS_len]; exact E.len, fun j t e => ?_, fun j b o k e1 e2 => ?_, Ew.apF, fun a ha => m1 a (E.sub a ha), E.ion, E.al0, fun a ha => ?_, E1.kp, fun q hq => ?_⟩
  · by_cases hj : j = i
    · subst hj
      rw [wipeS_get, if_neg iv, s] at e
      cases e
      exact ⟨_, hs, l, rfl, vs0, hl1, DnL.ext (n := m) xm _ _ (DnL.re m4 _ _ hd)⟩
    · cases t with
      | no =>
        obtain ⟨o, g1, g2⟩ := Ew.sl j _ e
        exact ⟨o, g1, trivial⟩
      | is d =>
        obtain ⟨o, g1, v, g2, g3⟩ := Ew.sl j _ e
        exact ⟨o, g1, v, g2, Dn.ext (n := m) xm _ _ (Dn.re m4 _ _ g3)⟩
      | own c o =>
        have e' := e
        rw [← same j hj] at e'
        obtain ⟨u, g1, k, g2, g3⟩ := E1.sl j _ e'
        refine ⟨u, g1, k, g2, ObOk.reL (m := m) (fun a us z w w2 => ?_) o k g3 ?_⟩
        · by_cases ha : a = l
          · rw [ha, hl1] at z; cases z
          · exact w ((n1 a).mpr ⟨w2, ha⟩)
        · refine hno j c o ?_
          rw [wipeS_get] at e
          split at e
          · cases h : ρ[j]? with
            | none => rw [h] at e; cases e
            | some z => rw [h] at e; cases e
          · exact e
  · obtain ⟨w1, w2, w3⟩ := Ew.ownF j b o k e1 e2
    exact ⟨fun a ha => ⟨(m2 a).mpr (w1 a ha).1, (w1 a ha).2⟩, w2, by rw [m3]; exact w3⟩
  · by_cases h : a = l
    · rw [h, hl1]; simp
    · exact E1.al a ((n1 a).mpr ⟨ha, h⟩)
  · obtain ⟨g1, g2, g3⟩ := E.gh q hq
    exact ⟨(E1.gh q hq).1, m4 _ _ g1 g2, DnL.ext (n := m) xm _ _ (DnL.re m4 _ _ g3)⟩
/-- .. a comprehension over it, of plain values -/
theorem wp_thaw (s : ρ[i]? = some (.own false (.lst ds))) (hno : ∀ (j : Nat) (c : Bool) (o : Ob), ρ[j]? = some (.own c o) → obNoL o = true) (iv : i ∉ vs)
    (h : Wp te (ρ.set i (.is (.lst ds))) fun k ρ1 => ∃ es, k = .nw es ∧ (∀ d ∈ es, flat d = true) ∧ ρ1 = wipeS (ρ.set i (.is (.lst ds))) vs ∧ Φ (.nw es) (wipeS ρ vs)) : Wp te ρ Φ := fun F n σ H E Q g => by
  obtain ⟨l, vs0, h1, h2, h3, h4⟩ := own_at E s
  let n' : Ns := ⟨fun a => n a ∧ a ≠ l, fun a => n.ow a ∧ a ≠ l, fun a h => ⟨n.le a h.1, h.2⟩, n.kid⟩
  have Ef : EnvOk F n' (ρ.set i (.is (.lst ds))) σ H := by
    obtain ⟨q0, q3⟩ := E.ownF i false _ l s h1
    have q2 : F.H0 l = none := (q0 l (.inl rfl)).2
    have hil : i < ρ.length := (List.getElem?_eq_some_iff.mp s).1
    have lss : ∀ a, n' a → n a := fun a h => h.1
    refine ⟨by rw [List.length_set, E.len], fun j t e => ?_, fun j c fs k e1 e2 => ?_, fun j k c c' fs gs l1 l2 e1 e2 e3 e4 => ?_, fun a h => ⟨E.sub a h, fun z => E.al0 a h (by rw [z]; exact q2)⟩, E.ion, E.al0, fun a h => E.al a h.1, E.kp, fun p hp => ⟨(E.gh p hp).1, fun z => (E.gh p hp).2.1 z.1, (E.gh p hp).2.2.less lss⟩⟩
    · by_cases hj : i = j
      · subst hj
        rw [List.getElem?_set, if_pos rfl, if_pos hil] at e
        cases e
        exact ⟨_, h1, _, rfl, .lst h2 (fun z => z.2 rfl) (h3.less lss)⟩
      · rw [List.getElem?_set, if_neg hj] at e
        obtain ⟨o, g1, g2⟩ := E.sl j t e
        refine ⟨o, g1, ?_⟩
        cases t with
        | no => trivial
        | is d =>
          obtain ⟨v, e1, e2⟩ := g2
          exact ⟨v, e1, e2.less lss⟩
        | own c fs =>
          obtain ⟨k, e1, e2⟩ := g2
          exact ⟨k, e1, e2.re (m := n') fun a _ _ z q => z (lss a q)⟩
    · by_cases hj : i = j
      · subst hj
        rw [List.getElem?_set, if_pos rfl, if_pos hil] at e1
        cases e1
      · rw [List.getElem?_set, if_neg hj] at e1
        obtain ⟨z1, z2⟩ := E.ownF j c fs k e1 e2
        exact ⟨fun a ha => ⟨⟨(z1 a ha).1, fun z => hj (E.apF i j false c _ fs l k s e1 h1 e2 a (.inl z) ha)⟩, (z1 a ha).2⟩, z2⟩
    · by_cases hj : i = j
      · subst hj
        rw [List.getElem?_set, if_pos rfl, if_pos hil] at e1
        cases e1
      · by_cases hk : i = k
        · subst hk
          rw [List.getElem?_set, if_pos rfl, if_pos hil] at e2
          cases e2
        · rw [List.getElem?_set, if_neg hj] at e1
          rw [List.getElem?_set, if_neg hk] at e2
          exact E.apF j k c c' fs gs l1 l2 e1 e2 e3 e4
  refine h F n' σ H Ef Q fun v H1 k ρ1 f E1 x1 r1 => ?_
  obtain ⟨es, rfl, hfl, rfl, q⟩ := f
  have E2 := thaw (n' := n') (m := n) (vs := vs) E s h1 h2 h3 hno (fun _ h => h) (fun _ => Iff.rfl) rfl (fun _ _ _ h => h) (fun a => Iff.rfl) (fun a => Iff.rfl) iv E1 x1
  have xn : Ext n H H1 := fun a o e k => x1 a o e fun z => k z.1
  obtain ⟨p, us, rfl, hp, E3, g1, g2⟩ := r1
  refine g _ H1 (.nw es) _ q E2 xn ⟨p, us, rfl, hp, ?_, g1, g2.flat hfl⟩
  have hpl : p ≠ l := fun z => by rw [z, h2] at hp; cases hp
  refine thaw (n' := add n' p) (m := add n p) (vs := vs) E s h1 h2 h3 hno (fun _ h => .inl h) (fun _ => Iff.rfl) rfl (fun a u e z w => Or.elim w z fun w => by rw [w, hp] at e; cases e) (fun a => ?_) (fun a => Iff.rfl) iv E3 x1
  constructor
  · rintro (⟨z1, z2⟩ | z)
    · exact ⟨.inl z1, z2⟩
    · exact ⟨.inr z, by rw [z]; exact hpl⟩
  · rintro ⟨z | z, z2⟩
    · exact .inl ⟨z, z2⟩
    · exact .inr z
end
end Dd
namespace Dd
open PySem PySem.Spec PyProof.Rows L2
/-! ## f(x).append(7), f(x).clear(): a new list is written to and dropped -/
section
variable {K : PySem.W.Frag} {F : Fx} {ρ : List Sl} {te : TE} {D : Ends}
theorem nx_dropAppI {i : Int} (h : Wp te ρ fun k ρ1 => ∃ es, k = .nw es ∧ es.length < 10000000 ∧ Nx F ρ1 D.nx) : Nx F ρ (tDrop (tBM K "list" rAppend te (tCons (tC (.int i)) tNil)) D) := fun n σ H E => h F n σ H E _ fun v H1 k ρ1 f E1 x1 r1 => by
  obtain ⟨es, rfl, hl, q⟩ := f
  obtain ⟨p, us, rfl, hp, E2, e1, e2⟩ := r1
  refine ⟨.inl ⟨rfl, us, .inl (.inl e1)⟩, p, us, .int i, rfl, rfl, e1, ?_, ?_⟩
  · rw [e2.length]
    exact Nat.lt_of_lt_of_le hl (by decide)
  · exact q (add n p) σ _ (E2.mutO (.inr rfl) (fun z => E.al p (n.le p z) hp) (E.h0 hp))
theorem nx_dropClr (h : Wp te ρ fun k ρ1 => ∃ es, k = .nw es ∧ Nx F ρ1 D.nx) : Nx F ρ (tDrop (tBM0 K "list" rClear te) D) := fun n σ H E => h F n σ H E _ fun v H1 k ρ1 f E1 x1 r1 => by
  obtain ⟨es, rfl, q⟩ := f
  obtain ⟨p, us, rfl, hp, E2, e1, e2⟩ := r1
  refine ⟨.inl ⟨rfl, us, .inl (.inl e1)⟩, p, us, rfl, rfl, e1, ?_⟩
  exact q (add n p) σ _ (E2.mutO (.inr rfl) (fun z => E.al p (n.le p z) hp) (E.h0 hp))
end
end Dd
namespace DdW
open PySem PySem.Calls PyProof.Rows PySem.W
section
variable {prog : Program} {w : World} {A : Around} {E : Value → Shared → Prop} {s : Shared} {K : Frag} {x y C f L : Addr} {h₀ : Heap} {m : Str → Option Value} {ox oy : Obj} {od od' : Option Obj} {name : Str}
theorem ifBound_B {M : Model} {id : String} {args : List Value} {Q : Option Value → Shared → Prop} (X : K.In s.heap) (I : InstAt s.heap x ox C od) (hs : findIn K (.ref C) name = some (some (.builtin id))) (hb : ∀ self, bindSpecial (.builtin id) self = pure (.builtin id, [self]))
    (h : wpAny M A (call (.builtin id) (.ref x :: args)) (fun v => Q (some v)) E s) : wpAny M A (callSpecialIfBound? (.ref x) name args) Q E s := by
  simp only [callSpecialIfBound?, bindSpecialIfBound?]
  refine wpAny_holding (wpAny_bind (wpAny_bind (wpAny_bind (I.type.here ((looks_findIn X hs).here ?_)))))
  simp only [hb]
  refine wpAny_bind (wpAny_askSetting (wpAny_ite ?_))
  have fin : wpAny M A (call (.builtin id) ([.ref x] ++ args) >>= fun v => pure (some v)) Q E s := wpAny_bind (wpAny_mono h (fun v s' h' => wpAny_pure h') fun _ _ h' => h')
  split
  · exact wpAny_bind (wpAny_pure (wpAny_pure fin))
  · exact wpAny_tryCatch (wpAny_bind (wpAny_pure (wpAny_pure fin)))
theorem objNe_K {z : Value} {Q : Fin → Shared → Prop} (hu : A.units < cLine) (X : K.In s.heap) (I : InstAt s.heap x ox C od) (hs : findIn K (.ref C) "__eq__" = some (some (.ref f))) (hf : isFn K (.ref f) = true)
    (hcall : wpAny (model prog w) A (call (.ref f) [.ref x, z]) (fun v s' => ∃ b, v = .bool b ∧ Q (.done (.ret (.bool (!b)))) s') E s) :
    wpAny (model prog w) A (Builtin.«object.__ne__» ⟨[.ref x, z], []⟩) Q E s := by
  unfold Builtin.«object.__ne__»
  repeat (first
    | with_reducible refine wpAny_cRoomFor hu ?_
    | (refine wpAny_bind (m := callSpecialIfBound? (.ref x) (Str.ofString "__eq__") [z])
        (ifBound_K X I hs hf (wpAny_mono hcall (fun r s' hr => by
          obtain ⟨b, rfl, hq⟩ := hr
          repeat (first | exact hq | exact wpAny_pure hq | exact wpAny_truthy_bool hq | (refine wpAny_bind (m := truthy (.bool _)) (wpAny_truthy_bool ?_)) | wp_step)) fun _ _ e => e)))
    | wp_step)
theorem ne_K {z tz : Value} {Q : Value → Shared → Prop} (hu : A.units + 1 < cLine) (F : Fr h₀ L s.heap m) (X₀ : K.In h₀) (I : InstAt s.heap x ox C od) (J : Looks (model prog w) s.heap (typeOf z) tz) (hnf : notFirst K C tz = true)
    (hs : findIn K (.ref C) "__eq__" = some (some (.ref f))) (hf : isFn K (.ref f) = true) (hn : findIn K (.ref C) "__ne__" = some (some (.builtin "object.__ne__"))) (ho : subIn K (.ref C) (.type "object") = some true)
    (h : wpAny (model prog w) A.in1 (call (.ref f) [.ref x, z]) (fun v s' => ∃ b, v = .bool b ∧ Q (.bool (!b)) s') E s) : wpAny (model prog w) A (richCompare .NotEq (.ref x) z) Q E s := by
  have X := X₀.keeps F.keep
  have one : wpAny (model prog w) A (tryCompare (.ref x) "__ne__" z) (fun r s' => ∃ v, r = some v ∧ Q v s') E s := by
    unfold tryCompare
    refine wpAny_bind (ifBound_B X I hn PySem.F.cmp_object.ne.bind (wpAny_call (codeAny_call_builtin PySem.F.cmp_object.ne.plain PySem.F.cmpEntry_ne (check_slot PySem.F.cmpKind_ne PySem.F.cmpSplit_ne ?_ (PySem.F.cmpArgs_ne _ _) (objNe_K (A := A.in1) hu X I hs hf (wpAny_mono h (fun v s' hv => ?_) fun _ _ e => e))))))
    · exact I.type.andThen (looks_subIn X ho)
    · obtain ⟨b, rfl, hq⟩ := hv
      first | exact ⟨b, rfl, wpAny_pure ⟨_, rfl, hq⟩⟩ | exact ⟨b, rfl, wpAny_pure (wpAny_pure ⟨_, rfl, hq⟩)⟩ | exact ⟨b, rfl, ⟨_, rfl, hq⟩⟩
  unfold richCompare
  simp only [oneThing_ref]
  refine wpAny_holding (wpAny_bind (wpAny_cRoomFor (Nat.lt_of_succ_lt hu) ?_))
  rw [cmpInfo_NotEq]
  dsimp only
  refine wpAny_bind (I.type.here (wpAny_bind (J.here ?_)))
  split
  · rename_i q
    have e : subIn K tz (.ref C) = some false := by
      rcases Bool.or_eq_true_iff.mp hnf with e | e
      · rw [beq_iff_eq.mp e] at q; simp at q
      · exact beq_iff_eq.mp e
    refine wpAny_bind ((looks_subIn X e).here ?_)
    simp only [Bool.false_eq_true, if_false]
    refine wpAny_bind (wpAny_mono one (fun r s' z => ?_) fun _ _ e => e)
    obtain ⟨v, rfl, hq⟩ := z
    exact wpAny_pure hq
  · refine wpAny_bind (wpAny_pure ?_)
    simp only [Bool.false_eq_true, if_false]
    refine wpAny_bind (wpAny_mono one (fun r s' z => ?_) fun _ _ e => e)
    obtain ⟨v, rfl, hq⟩ := z
    exact wpAny_pure hq
end
end DdW
namespace Dd
open PySem PySem.Spec PyProof.Rows L2
/-! ## x == y for two instances of a class with the text's own == -/
def rEqO (C : Addr) (sp : Sp) (E : XK) : R2 := fun x y H Q => ∃ a b dx dy fs gs, x = .ref a ∧ y = .ref b ∧ H a = some (.ins C dx fs) ∧ H b = some (.ins C dy gs) ∧ sp [.ref a, .ref b] H (fun v H' => (∃ r, v = .bl r) ∧ Q v H') E
theorem op_eqO {X : Cx} {n : Nat} {CX : CXT} {C f : Addr} {fd : FuncData} {ps : List Str} {sp : Sp} {E : XK} (F : FnOk X.prog X.w X.K X.mg X.base CX n f fd ps sp)
    (hs : PySem.W.findIn X.K (.ref C) "__eq__" = some (some (.ref f))) (hf : PySem.W.isFn X.K (.ref f) = true) (hb : Binds X.K fd ps []) (hx : Passes CX X E) (hr : Room n X.A) : OpR X (compareOp .Eq) (rEqO C sp E) := by
  intro pins s σ H x y v u Q I rx ry hq
  obtain ⟨a, b, dx, dy, fs, gs, rfl, rfl, ha, hb', hsp⟩ := hq
  cases rx
  cases ry
  obtain ⟨mA, J, _⟩ := ins_get I.hok ha
  obtain ⟨mB, J', _⟩ := ins_get I.hok hb'
  obtain ⟨od, J, _⟩ := J.look
  obtain ⟨od', J', _⟩ := J'.look
  obtain ⟨m, hF⟩ := I.fr
  show wpAny (model X.prog X.w) X.A (richCompare .Eq (.ref a) (.ref b)) (EP X pins σ Q) X.xe s
  refine PySem.W.cmp_K (op := .Eq) (tb := .ref C) hr.units0 hF I.ok.mod.kin J J'.type (by simp [PySem.W.notFirst]) hs hf ?_
  have e0 : Env0 X.prog X.w X.K X.mg X.base X.A X.stack s H := I.env0
  have hl := F.len _ _ _ _ hsp
  have r2 : Vals [V.ref a, V.ref b] [Value.ref a, Value.ref b] := .cons rfl (.cons rfl .nil)
  refine wpAny_call (codeAny_mono (F.run X.A X.stack s H ⟨[.ref a, .ref b], []⟩ [.ref a, .ref b] [.ref a, .ref b] _ E hr e0 (by
    have := hb s [.ref a, .ref b] I.kIn (by simpa using hl)
    simpa using this) r2 hsp) fun r s' hq => ?_)
  cases r with
  | error e => exact hx pins σ H s e s' I hq
  | ok fl =>
    cases fl with
    | ret w =>
      obtain ⟨z, H', I', rz, ⟨r, ez⟩, q⟩ := I.after hq
      subst ez
      cases rz
      exact ⟨.bl r, H', I', rfl, q⟩
    | next => exact False.elim hq
    | brk => exact False.elim hq
    | cont => exact False.elim hq
/-! x != y for two instances of a class with the text's own == and object's != -/
def rNeO (C : Addr) (sp : Sp) (E : XK) : R2 := fun x y H Q => ∃ a b dx dy fs gs, x = .ref a ∧ y = .ref b ∧ H a = some (.ins C dx fs) ∧ H b = some (.ins C dy gs) ∧ sp [.ref a, .ref b] H (fun v H' => ∃ r, v = .bl r ∧ Q (.bl (!r)) H') E
theorem op_neO {X : Cx} {n : Nat} {CX : CXT} {C f : Addr} {fd : FuncData} {ps : List Str} {sp : Sp} {E : XK} (F : FnOk X.prog X.w X.K X.mg X.base CX n f fd ps sp)
    (hs : PySem.W.findIn X.K (.ref C) "__eq__" = some (some (.ref f))) (hf : PySem.W.isFn X.K (.ref f) = true) (hn : PySem.W.findIn X.K (.ref C) "__ne__" = some (some (.builtin "object.__ne__"))) (ho : PySem.W.subIn X.K (.ref C) (.type "object") = some true)
    (hb : Binds X.K fd ps []) (hx : Passes CX X E) (hr : Room (n + 1) X.A) : OpR X (compareOp .NotEq) (rNeO C sp E) := by
  intro pins s σ H x y v u Q I rx ry hq
  obtain ⟨a, b, dx, dy, fs, gs, rfl, rfl, ha, hb', hsp⟩ := hq
  cases rx
  cases ry
  obtain ⟨mA, J, _⟩ := ins_get I.hok ha
  obtain ⟨mB, J', _⟩ := ins_get I.hok hb'
  obtain ⟨od, J, _⟩ := J.look
  obtain ⟨od', J', _⟩ := J'.look
  obtain ⟨m, hF⟩ := I.fr
  show wpAny (model X.prog X.w) X.A (richCompare .NotEq (.ref a) (.ref b)) (EP X pins σ Q) X.xe s
  refine DdW.ne_K (tz := .ref C) hr.in1.units0 hF I.ok.mod.kin J J'.type (by simp [PySem.W.notFirst]) hs hf hn ho ?_
  have e0 : Env0 X.prog X.w X.K X.mg X.base X.A.in1 X.stack s H := by
    have e := I.env0
    exact ⟨e.frames, e.mod, e.bs, e.bsz, e.funs, e.frf, e.hok, e.bare⟩
  have hl := F.len _ _ _ _ hsp
  have r2 : Vals [V.ref a, V.ref b] [Value.ref a, Value.ref b] := .cons rfl (.cons rfl .nil)
  refine wpAny_call (codeAny_mono (F.run X.A.in1 X.stack s H ⟨[.ref a, .ref b], []⟩ [.ref a, .ref b] [.ref a, .ref b] _ E hr.in1 e0 (by
    have := hb s [.ref a, .ref b] I.kIn (by simpa using hl)
    simpa using this) r2 hsp) fun r s' hq => ?_)
  cases r with
  | error e => exact hx pins σ H s e s' I hq
  | ok fl =>
    cases fl with
    | ret w =>
      obtain ⟨z, H', I', rz, r, ez, q⟩ := I.after hq
      subst ez
      cases rz
      exact ⟨r, rfl, .bl (!r), H', I', rfl, q⟩
    | next => exact False.elim hq
    | brk => exact False.elim hq
    | cont => exact False.elim hq
section
variable {ρ : List Sl} {k1 k2 : Rk} {α : Type} {enc : α → List Da} {pre : α → Prop} {post : α → Da → Prop} {C : Addr} {fs gs : List (Str × Da)} {b : Bool} {E : XK}
theorem op_eqown (hs : Sees ρ [k1, k2] [.ins C fs, .ins C gs]) (x : α) (he : enc x = [.ins C fs, .ins C gs]) (hp : pre x) (hq : ∀ r, post x r → r = .bl b) : Op (rEqO C (SpT enc pre post) E) ρ k1 k2 (.da (.bl b)) := fun F n σ H u v Q E1 r1 r2 q => by
  have D := sees_rel E1 hs (.cons r1 (.cons r2 .nil))
  have D' := D
  cases D' with
  | cons h1 t =>
    cases t with
    | cons h2 t2 =>
      cases h1 with
      | ins e1 n1 f1 =>
        cases h2 with
        | ins e2 n2 f2 =>
          refine ⟨_, _, _, _, _, _, rfl, rfl, e1, e2, letgoA n, x, fun a h => E1.al a h.1, he ▸ D, hp, fun w H' r hr gr h => ?_⟩
          cases hq r hr
          cases h
          exact ⟨⟨b, rfl⟩, q _ _ (E1.grow gr) gr.ext (.bl b)⟩
theorem op_neown (hs : Sees ρ [k1, k2] [.ins C fs, .ins C gs]) (x : α) (he : enc x = [.ins C fs, .ins C gs]) (hp : pre x) (hq : ∀ r, post x r → r = .bl b) : Op (rNeO C (SpT enc pre post) E) ρ k1 k2 (.da (.bl (!b))) := fun F n σ H u v Q E1 r1 r2 q => by
  have D := sees_rel E1 hs (.cons r1 (.cons r2 .nil))
  have D' := D
  cases D' with
  | cons h1 t =>
    cases t with
    | cons h2 t2 =>
      cases h1 with
      | ins e1 n1 f1 =>
        cases h2 with
        | ins e2 n2 f2 =>
          refine ⟨_, _, _, _, _, _, rfl, rfl, e1, e2, letgoA n, x, fun a h => E1.al a h.1, he ▸ D, hp, fun w H' r hr gr h => ?_⟩
          cases hq r hr
          cases h
          exact ⟨b, rfl, q _ _ (E1.grow gr) gr.ext (.bl (!b))⟩
end
theorem pass0 {X : Cx} : Passes CX0 X E0 := fun _ _ _ _ _ _ _ h => by
  first | exact h.elim | cases h
section
variable {X : Cx} {j k : Nat} {C : Addr} {sp : Sp}
theorem op_eqOw (o : Own X.prog X.w X.K X.mg X.base k C "__eq__" sp) (hr : Room j X.A) (hk : k ≤ j) : OpR X (compareOp .Eq) (rEqO C sp E0) := by
  obtain ⟨f, fd, ps, F, h1, h2, hb⟩ := o.ex
  exact op_eqO F h1 h2 hb pass0 (hr.mono hk)
theorem op_neOw (o : Own X.prog X.w X.K X.mg X.base k C "__eq__" sp) (hn : PySem.W.findIn X.K (.ref C) "__ne__" = some (some (.builtin "object.__ne__"))) (ho : PySem.W.subIn X.K (.ref C) (.type "object") = some true) (hr : Room j X.A) (hk : k + 1 ≤ j) : OpR X (compareOp .NotEq) (rNeO C sp E0) := by
  obtain ⟨f, fd, ps, F, h1, h2, hb⟩ := o.ex
  exact op_neO F h1 h2 hn ho hb pass0 (hr.mono hk)
end
/-! an own object against anything whose type is known: the own == decides -/
def rEqA (K : PySem.W.Frag) (C : Addr) (sp : Sp) : R2 := fun x y H Q => ∃ a dx fs t, x = .ref a ∧ H a = some (.ins C dx fs) ∧ TyX K H y t ∧ PySem.W.notFirst K C t = true ∧ sp [.ref a, y] H (fun v H' => ∃ r, v = .bl r ∧ Q (.bl r) H') E0
def rNeA (K : PySem.W.Frag) (C : Addr) (sp : Sp) : R2 := fun x y H Q => ∃ a dx fs t, x = .ref a ∧ H a = some (.ins C dx fs) ∧ TyX K H y t ∧ PySem.W.notFirst K C t = true ∧ sp [.ref a, y] H (fun v H' => ∃ r, v = .bl r ∧ Q (.bl (!r)) H') E0
theorem op_eqA {X : Cx} {j k : Nat} {C : Addr} {sp : Sp} (o : Own X.prog X.w X.K X.mg X.base k C "__eq__" sp) (hr : Room j X.A) (hk : k ≤ j) : OpR X (compareOp .Eq) (rEqA X.K C sp) := by
  intro pins s σ H x y v u Q I rx ry hq
  obtain ⟨a, dx, fs, t, rfl, ha, ty, hnf, hsp⟩ := hq
  obtain ⟨f, fd, ps, F, hs, hf, hb⟩ := o.ex
  obtain ⟨P, Z, p, _⟩ := kit_of I ry ty
  cases rx
  obtain ⟨mA, J, _⟩ := ins_get I.hok ha
  obtain ⟨od, J, _⟩ := J.look
  obtain ⟨m, hF⟩ := I.fr
  have hr := hr.mono hk
  show wpAny (model X.prog X.w) X.A (richCompare .Eq (.ref a) u) (EP X pins σ Q) X.xe s
  refine PySem.W.cmp_K (op := .Eq) (tb := t) hr.units0 hF I.ok.mod.kin J (Z.ty _ _ I.kIn p) hnf hs hf ?_
  have rr : Vals [V.ref a, y] [Value.ref a, u] := .cons rfl (.cons ry .nil)
  refine wpAny_mono (run_own (A := X.A) F hb hr rfl I rr hsp) (fun v' s2 z => ?_) fun _ _ x => x
  obtain ⟨w, H', I', rw', r, e, q⟩ := z
  subst e
  cases rw'
  exact ⟨.bl r, H', I', rfl, q⟩
theorem op_neA {X : Cx} {j k : Nat} {C : Addr} {sp : Sp} (o : Own X.prog X.w X.K X.mg X.base k C "__eq__" sp) (hn : PySem.W.findIn X.K (.ref C) "__ne__" = some (some (.builtin "object.__ne__"))) (ho : PySem.W.subIn X.K (.ref C) (.type "object") = some true) (hr : Room j X.A) (hk : k + 1 ≤ j) : OpR X (compareOp .NotEq) (rNeA X.K C sp) := by
  intro pins s σ H x y v u Q I rx ry hq
  obtain ⟨a, dx, fs, t, rfl, ha, ty, hnf, hsp⟩ := hq
  obtain ⟨f, fd, ps, F, hs, hf, hb⟩ := o.ex
  obtain ⟨P, Z, p, _⟩ := kit_of I ry ty
  cases rx
  obtain ⟨mA, J, _⟩ := ins_get I.hok ha
  obtain ⟨od, J, _⟩ := J.look
  obtain ⟨m, hF⟩ := I.fr
  have hr := hr.mono hk
  show wpAny (model X.prog X.w) X.A (richCompare .NotEq (.ref a) u) (EP X pins σ Q) X.xe s
  refine DdW.ne_K (tz := t) hr.in1.units0 hF I.ok.mod.kin J (Z.ty _ _ I.kIn p) hnf hs hf hn ho ?_
  have rr : Vals [V.ref a, y] [Value.ref a, u] := .cons rfl (.cons ry .nil)
  refine wpAny_mono (run_own (A := X.A.in1) F hb hr.in1 rfl I rr hsp) (fun v' s2 z => ?_) fun _ _ x => x
  obtain ⟨w, H', I', rw', r, e, q⟩ := z
  subst e
  cases rw'
  exact ⟨r, rfl, .bl (!r), H', I', rfl, q⟩
section
variable {ρ : List Sl} {K : PySem.W.Frag} {k1 k2 : Rk} {α : Type} {enc : α → List Da} {pre : α → Prop} {post : α → Da → Prop} {C : Addr} {fs : List (Str × Da)} {e : Da} {ty : String} {b : Bool}
theorem op_eqany (hs : Sees ρ [k1, k2] [.ins C fs, e]) (hk : kindX e = some ty) (hn : PySem.W.notFirst K C (.type ty) = true) (x : α) (he : enc x = [.ins C fs, e]) (hp : pre x) (hq : ∀ r, post x r → r = .bl b) : Op (rEqA K C (SpT enc pre post)) ρ k1 k2 (.da (.bl b)) := fun F n σ H u v Q E1 r1 r2 q => by
  have D := sees_rel E1 hs (.cons r1 (.cons r2 .nil))
  have D' := D
  cases D' with
  | cons h1 t =>
    cases t with
    | cons h2 t2 =>
      cases t2
      cases h1 with
      | ins e1 n1 f1 =>
        refine ⟨_, _, _, _, rfl, e1, seen_tyX (.inl h2) hk, hn, letgoA n, x, fun a h => E1.al a h.1, he ▸ D, hp, fun w H' r hr gr h => ?_⟩
        cases hq r hr
        cases h
        exact ⟨b, rfl, q _ _ (E1.grow gr) gr.ext (.bl b)⟩
theorem op_neany (hs : Sees ρ [k1, k2] [.ins C fs, e]) (hk : kindX e = some ty) (hn : PySem.W.notFirst K C (.type ty) = true) (x : α) (he : enc x = [.ins C fs, e]) (hp : pre x) (hq : ∀ r, post x r → r = .bl b) : Op (rNeA K C (SpT enc pre post)) ρ k1 k2 (.da (.bl (!b))) := fun F n σ H u v Q E1 r1 r2 q => by
  have D := sees_rel E1 hs (.cons r1 (.cons r2 .nil))
  have D' := D
  cases D' with
  | cons h1 t =>
    cases t with
    | cons h2 t2 =>
      cases t2
      cases h1 with
      | ins e1 n1 f1 =>
        refine ⟨_, _, _, _, rfl, e1, seen_tyX (.inl h2) hk, hn, letgoA n, x, fun a h => E1.al a h.1, he ▸ D, hp, fun w H' r hr gr h => ?_⟩
        cases hq r hr
        cases h
        exact ⟨b, rfl, q _ _ (E1.grow gr) gr.ext (.bl (!b))⟩
end
end Dd
namespace Dd
open PySem PySem.Spec PyProof.Rows L2
/-! ## isinstance(x, C), C a class of the program -/
/-- what isinstance asks of a class of the program -/
structure IsiC (K : PySem.W.Frag) (C : Addr) : Prop where
  cl : Cls K C
  ha : PySem.W.findIn K (.ref C) "__class__" = some (some (.builtin "object.__class__"))
  hn : PySem.W.specialIn K (.builtin "object.__class__") "__get__" = some (some (.builtin "getset_descriptor.__get__"))
  htk : PySem.W.takesIn K (.builtin "object.__class__") = some true
  hm : PySem.W.mroIn K C (.type "object") = some true
section
variable {X : Cx} {K : PySem.W.Frag} {ρ : List Sl} {k1 k2 : Rk} {C D : Addr} {fs : List (Str × Da)} {d : Da} {b : Bool} {s : String} {Φ : Rw → List Sl → Prop}
theorem pe_clo {x : Str} {pos : Pos} (hg : Gl X x) (hm : X.mg x = some (.ref C)) (hd : (x == ("__debug__" : Str)) = false := by decide) : PE X (.Name x pos) (tC (.ref C)) := pe_glob hg hm rfl hd
theorem wp_clo (q : Φ (.da (.cl C)) ρ) : Wp (tC (.ref C)) ρ Φ := fun F n σ H E Q g => g _ H _ ρ q E .refl (.cl C)
theorem b_isiO (s1 : see ρ k1 = some (.ins C fs)) (s2 : see ρ k2 = some (.cl D)) (I : IsiC K C) (hb : PySem.W.kitOne K (.ref C) (.ref D) = some b) : Cb (rIsi K) ρ [k1, k2] (.da (.bl b)) := fun F n σ H vs Q E r1 q => by
  obtain ⟨v, u, rfl, r, r'⟩ := rk2 r1
  obtain rfl := peekC E r' s2
  obtain ⟨a, dx, us, rfl, h1, h2⟩ := peekN E r s1
  exact ⟨_, _, _, _, b, rfl, .own D, .base (.ins h1 I.cl I.ha I.hn I.htk I.hm), hb, q _ H E .refl (.bl b)⟩
theorem b_isiCl (s1 : see ρ k1 = some d) (s2 : see ρ k2 = some (.cl D)) (hk : kindX d = some s) (hb : PySem.W.kitOne K (.type s) (.ref D) = some b) : Cb (rIsi K) ρ [k1, k2] (.da (.bl b)) := fun F n σ H vs Q E r1 q => by
  obtain ⟨v, u, rfl, r, r'⟩ := rk2 r1
  obtain rfl := peekC E r' s2
  exact ⟨v, _, _, _, b, rfl, .own D, seen_tyX (peek E r s1) hk, hb, q _ H E .refl (.bl b)⟩
end
end Dd
namespace Dd
open PySem PySem.Spec PyProof.Rows L2
/-! ## objects whose making may let an own error with one number out -/
def SpGX {α : Type} (enc1 enc2 : α → List Da) (pre : Ob → α → Prop) (post : Ob → α → Ob → Da → Prop) (exc : α → Addr → Str → Int → Prop) : Sp := fun vs H Q E => ∃ (n : Ns) (f : Addr) (vs1 vs2 : List V) (o : Ob) (x : α), vs = vs1 ++ .ref f :: vs2 ∧ FtOw n.ow f o ∧ (∀ a, n a → H a ≠ none) ∧
  ObOk n H f o ∧ DnL n H vs1 (enc1 x) ∧ DnL n H vs2 (enc2 x) ∧ pre o x ∧ (∀ v H' o' r, post o x o' r → GoOn n H H' f o o' → Dn n H' v r → Q v H') ∧
  ∀ (C' : Addr) (f' : Str) (i : Int) (d : Addr) (H' : Hp), exc x C' f' i → (∀ a u, H a = some u → ¬ Ft f o a → H' a = some u) → H d = none → H' d = some (.xd [(f', .int i)]) → E (.ref C') (some d) H'
structure MakX (P : Program) (w : World) (K : PySem.W.Frag) (mg : Str → Option Value) (base : Heap) (k : Nat) (x : Str) (C : Addr) (sp : Sp) : Prop where
  ex : ∃ (f : Addr) (fd : FuncData) (ps : List Str), Mk K C f ∧ FnOk P w K mg base (L2.CX P w) k f fd ps sp ∧ mg x = some (.ref C) ∧ Binds K fd ps []
/-- .. what it lets out asked for each state -/
def tMakeS (C : Addr) (sp : Sp) (E : L2.St → XK) (t : TA) : TE := fun σ H Q => tMake C sp [] (E σ) t σ H Q
section
variable {X : Cx}
theorem pe_mkx {W : WX} {E : XK} {j k : Nat} {x : Str} {C : Addr} {sp : Sp} {p pos : Pos} {e : Expr} {es : List Expr} {t : TA} (c : MakX X.prog X.w X.K X.mg X.base k x C sp) (hr : Room j X.A) (hk : k + 1 ≤ j) (hg : Gl X x) (tk : Takes X W) (hW : ∀ cls d σ H, E cls d H → W cls d σ H) (ha : PA X (e :: es) t)
    (hdb : (x == ("__debug__" : Str)) = false := by decide) (he : starEach (e :: es) X.env = (false, eval e X.env) :: starEach es X.env := by rfl) (hpl : (backTo pos (starEach es X.env)).any (·.1) = false := by rfl) :
    PE X (.Call (.Name x p) (e :: es) [] pos) (tMake C sp [] E t) := by
  obtain ⟨f, fd, ps, M, F, hm, b⟩ := c.ex
  exact pe_make M F (hr.mono hk) hg hm b .nil (passes_call tk hW) ha hdb he hpl
theorem run_makeS {pins : List (Addr × Obj)} {σ : L2.St} {H : Hp} {s : Shared} {Q : VK} {us : List Value} {vs : List V} {CX : CXT} {k : Nat} {f C : Addr} {fd : FuncData} {ps : List Str} {sp : Sp} {E : XK} {dvs : List V} {ds : List Value} (M : Mk X.K C f) (F : FnOk X.prog X.w X.K X.mg X.base CX k f fd ps sp) (hr : Room (k + 1) X.A) (hb : Binds X.K fd ps ds) (hd : Vals dvs ds)
    (hx : PassesAt CX X σ E) (I : Inv X pins σ H s) (r : Vals vs us)
    (h : ∀ x dx, H x = none → H dx = none → dx ≠ x → sp (.ref x :: (vs ++ dvs)) (upd (upd H dx (.own x)) x (.ins C dx [])) (fun v H2 => v = .non ∧ Q (.ref x) H2) E) :
    wpAny (model X.prog X.w) X.A (call (.ref C) us) (EP X pins σ Q) X.xe s := by
  have hq := h (s.heap.objs.size + 1) s.heap.objs.size (I.hok.fresh (Nat.le_succ _)) (I.hok.fresh (Nat.le_refl _)) (Nat.ne_of_lt (Nat.lt_succ_self _))
  have I2 := Inv.made (C := C) I
  have r2 : Vals (V.ref (s.heap.objs.size + 1) :: (vs ++ dvs)) (Value.ref (s.heap.objs.size + 1) :: (us ++ ds)) := .cons rfl (r.append hd)
  have hl : (Value.ref (s.heap.objs.size + 1) :: us ++ ds).length = ps.length := by
    have e := r2.length
    rw [F.len _ _ _ _ hq] at e
    exact e.symm
  refine wpAny_call (make_map (f := f) I.kIn M.makes M.init (beq_iff_eq.mp M.fn) (codeAny_mono (F.run _ X.stack _ _ ⟨Value.ref (s.heap.objs.size + 1) :: us, []⟩ (Value.ref (s.heap.objs.size + 1) :: (us ++ ds)) _ _ E (hr.make C us [])
    (I2.env0.make C us []) (hb _ (Value.ref (s.heap.objs.size + 1) :: us) I2.kIn hl) r2 hq) fun r s' hq' => ?_))
  cases r with
  | error e => exact hx pins _ _ e s' I2 hq'
  | ok fl =>
    cases fl with
    | ret u =>
      obtain ⟨v, H', I3, rv, ev, q3⟩ := I2.after hq'
      subst ev
      exact ⟨rv, ⟨V.ref (s.heap.objs.size + 1), H', I3, rfl, q3⟩⟩
    | next => exact False.elim hq'
    | brk => exact False.elim hq'
    | cont => exact False.elim hq'
theorem pe_makeS {CX : CXT} {k : Nat} {f C : Addr} {fd : FuncData} {ps : List Str} {sp : Sp} {E : L2.St → XK} {x : Str} {p pos : Pos} {e : Expr} {es : List Expr} {t : TA} (M : Mk X.K C f) (F : FnOk X.prog X.w X.K X.mg X.base CX k f fd ps sp) (hr : Room (k + 1) X.A) (hg : Gl X x) (hm : X.mg x = some (.ref C)) (hb : Binds X.K fd ps [])
    (hx : ∀ σ, PassesAt CX X σ (E σ)) (ha : PA X (e :: es) t) (hdb : (x == ("__debug__" : Str)) = false := by decide) (he : starEach (e :: es) X.env = (false, eval e X.env) :: starEach es X.env := by rfl) (hpl : (backTo pos (starEach es X.env)).any (·.1) = false := by rfl) :
    PE X (.Call (.Name x p) (e :: es) [] pos) (tMakeS C sp E t) := by
  refine ⟨fun pins s σ H Q I h => ?_⟩
  refine wpAny_Call_Name_kw (ld_glob I hg hm ?_ hdb)
  refine PySem.W.callWith_K (h₀ := X.base) I.ok.mod.kin M.kp (thn (ha.run pos pins s σ H _ I h) fun us s1 ⟨vs, H1, I1, r, q⟩ => ⟨I1.kIn, ?_⟩) he hpl
  exact run_makeS M F hr hb .nil (hx σ) I1 r q
/-- try: C(..) except S as n: k = n.f -/
def tTryMk (K : PySem.W.Frag) (C S : Addr) (i jk : Nat) (f : Str) (sp : Sp) (t : TA) : TS := fun D σ H => tMakeS C sp (WE (wKeep K (.ref S) i (fun a cls d => tAsg (tXf a cls d S f (tVar i)) (gName jk)) D)) t σ H fun _ H2 => D.nx σ H2
theorem ps_tryMk {K : PySem.W.Frag} (m : KIs K) (h0 : X.K = K) {j k i jk : Nat} {fx kx n c f : Str} {C S : Addr} {sp : Sp} {e : Expr} {es : List Expr} {t : TA} {p p1 p2 p3 p4 p5 p6 p7 p8 p9 : Pos} (hst : X.stack = X.env :: X.outer) (hfm : X.env.frame = some X.env.locals) (hex : X.ex = []) (nd : X.N.Nodup)
    (cal : MakX X.prog X.w X.K X.mg X.base k fx C sp) (hr : Room j X.A) (hk : k + 1 ≤ j) (hg : Gl X fx) (hgc : Gl X c) (hmc : X.mg c = some (.ref S)) (T : XfC X.K S) (hno : PySem.W.findIn X.K (.ref S) f = some none)
    (hni : X.N[i]? = some n) (hnk : X.N[jk]? = some kx) (lck : Loc X.env.scope kx) (fk : X.fn kx = true ∨ X.env.scope.names.lookup kx = some .local) (hki : X.env.kindOf n = some .local) (vi : Vis X.env.scope n)
    (ha : ∀ (pn : List (Addr × Obj)) (xe : Value → Shared → Prop), PA (X.tr pn xe) (e :: es) t)
    (hdb : (fx == ("__debug__" : Str)) = false := by decide) (hdc : (c == ("__debug__" : Str)) = false := by decide) (hdn : (n == ("__debug__" : Str)) = false := by decide) (hcn : (n == ("__classdict__" : Str)) = false := by decide)
    (he : starEach (e :: es) X.env = (false, eval e X.env) :: starEach es X.env := by rfl) (hpl : (backTo p2 (starEach es X.env)).any (·.1) = false := by rfl)
    (hs1 : swapsWith (.Call (.Name fx p1) (e :: es) [] p2) none p3.line X.env = pure false := by rfl) (hs2 : swapsWith (.Attribute (.Name n p5) f p6) (some (.Name kx p4)) p7.line X.env = pure false := by rfl)
    (hbs : attributeBase (.Name n p5) f X.env (eval (.Name n p5) X.env) = eval (.Name n p5) X.env := by rfl) :
    PS X (.Try [.Expr (.Call (.Name fx p1) (e :: es) [] p2) p3] [.ExceptHandler (some (.Name c p8)) (some n) [.Assign [.Name kx p4] (.Attribute (.Name n p5) f p6) p7] p9] [] [] p) (tTryMk K C S i jk f sp t) := by
  subst h0
  obtain ⟨f0, fd, ps, M, FO, hm, b⟩ := cal.ex
  have h := ps_try_kept (X := X) (tb := fun W => tDrop (tMakeS C sp (WE W) t)) (ts := fun a cls d => tAsg (tXf a cls d S f (tVar i)) (gName jk)) (px := p8) (pt := p) (ph := p9) hst hfm hex nd hni hki ⟨hgc, hdc, .inl hmc⟩
    (fun W pn xe tk pass => pss_one (ps_expr (X := X.tr pn xe) (pe_makeS (X := X.tr pn xe) M FO (hr.mono hk) hg hm b (fun σ => passAt tk σ) (ha pn xe) hdb he hpl) hs1))
    (fun a oe cls d pn hz hf => pss_one (ps_set (X := X.suite a ((a, oe) :: pn)) nd hnk lck (pe_xf T hno hz hf (pe_var (X := X.suite a ((a, oe) :: pn)) hni vi hdn hcn) hbs) hs2 fk))
  exact h
end
section
variable {α : Type} {K : PySem.W.Frag} {F G : Fx} {n n0 : Ns} {io : Addr → Prop} {ρ ρ' ρ0 ρ1 ρ2 : List Sl} {tx : TA} {H H0 : Hp} {σ : L2.St} {D : Ends} {E : XK} {enc : α → List Da} {pre : Ob → α → Prop} {post : Ob → α → Ob → Da → Prop} {exc : α → Addr → Str → Int → Prop} {i j jk : Nat} {C C0 S : Addr} {f : Str} {b : Bool} {fs : List (Str × Da)}
/-- what is asked of a maker at an address p that is new -/
theorem make_go (hs : ∀ x o' r, post (.ins C []) x o' r → r = .non ∧ ∃ fs, o' = .ins C fs) (E1 : EnvOk F n ρ1 σ H) {vs : List V} {ks : List Rk} (r1 : RelKs n σ H vs ks) {x : α} (ha : AllDa ks (enc x)) (hpre : pre (.ins C []) x) {Q : VK} {EE : XK}
    (q : ∀ p H' gs, post (.ins C []) x (.ins C gs) .non → Grow H H' → H p = none → Dn n H' (.ref p) (.ins C gs) → Q (.ref p) H')
    (qx : ∀ C' g v d H', exc x C' g v → Grow H H' → H d = none → H' d = some (.xd [(g, .int v)]) → EE (.ref C') (some d) H') :
    ∀ p dx, H p = none → H dx = none → dx ≠ p → SpGX (fun _ => []) enc pre post exc (V.ref p :: (vs ++ [])) (upd (upd H dx (.own p)) p (.ins C dx [])) (fun v H2 => v = .non ∧ Q (.ref p) H2) EE := by
  rintro p dx hp0 hd0 hne
  have gr : Grow H (upd (upd H dx (.own p)) p (.ins C dx [])) := Grow.trans (.upd hd0) (.upd (by rw [upd_ne (fun z => hne z.symm)]; exact hp0))
  have hpH : (upd (upd H dx (.own p)) p (.ins C dx [])) p = some (.ins C dx []) := by simp [upd]
  have ds1 : DnL (addO n p) (upd (upd H dx (.own p)) p (.ins C dx [])) vs (enc x) := DnL.ext (gr.ext) _ _ (DnL.re (n' := addO n p) (fun a o e z w => w.elim z fun w => by rw [w, hp0] at e; cases e) _ _ (ha.rel r1))
  rw [List.append_nil]
  refine ⟨addO n p, p, [], vs, .ins C [], x, rfl, ⟨fun a ha => by rw [ha.no rfl]; exact .inr rfl, Nd.no rfl⟩, fun a ha => ?_, ⟨dx, [], hpH, .nil⟩, .nil, ds1, hpre, fun v H' o' r hr y h3 => ?_, fun C' g v d H' he gr2 hd hx => ?_⟩
  · rcases ha with ha | ha
    · intro z
      cases e : H a with
      | none => exact E1.al a ha e
      | some o => rw [gr a o e] at z; cases z
    · rw [ha, hpH]
      intro z
      cases z
  · obtain ⟨rfl, gs, rfl⟩ := hs _ _ _ hr
    cases h3
    have gr2 : Grow H H' := fun a u e => y.fr a u (gr a u e) fun z => ne_of_none e hp0 (z.no rfl)
    exact ⟨rfl, q p H' gs hr gr2 hp0 (y.ok.dn (m := n) (fun a z => .inl z) (E1.not hp0))⟩
  · refine qx C' g v d H' he (fun a u e => gr2 a u (gr a u e) fun z => ne_of_none e hp0 (z.no rfl)) ?_ hx
    cases e : H d with
    | none => rfl
    | some o => rw [gr d o e] at hd; cases hd
/-- o.f = C(..), in a def that lets the error out -/
theorem nx_fldX (hs : ∀ x o' r, post (.ins C []) x o' r → r = .non ∧ ∃ fs, o' = .ins C fs) (w : Fw ⟨H0, io, n0, []⟩ G) (h : WpA tx ρ fun ks ρ1 => ∃ x b C0 fs, AllDa ks (enc x) ∧ pre (.ins C []) x ∧ ρ1[j]? = some (.own b (.ins C0 fs)) ∧ (Cls K C0 ∧ NoAttr K C0 f) ∧ fs.length < 1000 ∧
      (∀ gs, post (.ins C []) x (.ins C gs) .non → Nx G (ρ1.set j (.own b (.ins C0 (putD f (.ins C gs) fs)))) D.nx) ∧ ∀ C' g v d H', exc x C' g v → (∀ b o, H0 b = some o → ¬ io b → H' b = some o) → H0 d = none → H' d = some (.xd [(g, .int v)]) → E (.ref C') (some d) H') :
    Nx G ρ (sFld K (tVar j) (tMake C (SpGX (fun _ => []) enc pre post exc) [] E tx) f D) := fun n σ H E0 =>
  h G n σ H E0 _ fun vs H1 ks ρ1 fc E1 x1 r1 => by
    obtain ⟨x, b, C0, fs, ha, hpre, s, c, hl, q, qx⟩ := fc
    refine make_go (Q := fun y H1 => tVar j σ H1 fun x H2 => ∃ a C dx fs, x = V.ref a ∧ H2 a = some (HO.ins C dx fs) ∧ Cls K C ∧ NoAttr K C f ∧ fs.length < 1000 ∧ D.nx σ (upd H2 a (HO.ins C dx (putF f y fs)))) hs E1 r1 ha hpre (fun p H' gs hr gr hp0 hv => ?_) (fun C' g v d H' he gr hd hx => qx C' g v d H' he (fun b o z nio => gr _ _ ((w.un E1).kp b o z nio)) (new_in w E1 hd) hx)
    have E2 := E1.grow gr
    obtain ⟨l, e1, ⟨dx, us, e2, e3⟩, e4⟩ := own_ob E2 s
    refine ⟨.ref l, e1, l, C0, dx, us, rfl, e2, c.1, c.2, by rw [e3.len]; exact hl, ?_⟩
    have xt : Ext n H' (upd H' l (.ins C0 dx (putF f (.ref p) us))) := ext_mut e4
    exact q gs hr n σ _ (E2.mut s e1 ⟨dx, putF f (.ref p) us, by simp [upd], DnF.extA xt.keep _ _ (e3.put hv)⟩)
/-- try: C(..) except S as n: k = n.f -/
theorem nx_tryMk (hs : ∀ x o' r, post (.ins C []) x o' r → r = .non ∧ ∃ fs, o' = .ins C fs) (hi : i < ρ.length) (hik : i ≠ jk) (h : WpA tx ρ fun ks ρ1 => ρ1 = ρ ∧ ∃ x, AllDa ks (enc x) ∧ pre (.ins C []) x ∧ (∀ gs, post (.ins C []) x (.ins C gs) .non → Nx F ρ D.nx) ∧
      ∀ C' g v, exc x C' g v → C' = S ∧ g = f ∧ PySem.W.exmOne K (.ref C') (.ref S) = some true ∧ Nx F ((ρ.set jk (.is (.int v))).set i .no) D.nx) : Nx F ρ (tTryMk K C S i jk f (SpGX (fun _ => []) enc pre post exc) tx D) := fun n σ H E0 =>
  h F n σ H E0 _ fun vs H1 ks ρ1 fc E1 x1 r1 => by
    obtain ⟨rfl, x, ha, hpre, q, qI⟩ := fc
    have hlen : i < σ.length := by rw [E1.len]; exact hi
    refine make_go (Q := fun _ H2 => D.nx σ H2) hs E1 r1 ha hpre (fun p H' gs hr gr hp0 hv => q gs hr n σ H' (E1.grow gr)) (fun C' g v d H' he gr hd hx => ?_)
    obtain ⟨rfl, rfl, h2, h3⟩ := qI C' g v he
    refine ⟨h2, fun a hna => ?_⟩
    refine ⟨.ref a, by rw [List.getElem?_set_self hlen], rfl, rfl, d, _, .int v, rfl, hx, by simp [List.lookup], fun ha' => ?_⟩
    have E2 : EnvOk F n ρ1 σ (upd H' a (CaO (.ref C') (some d) a)) := (E1.grow gr).updN hna
    have E3 := (E2.set (i := jk) (d := .int v) (.int v)).drop (i := i) none
    have e : ((σ.set i (some (V.ref a))).set jk (some (V.int v))).set i none = (σ.set jk (some (V.int v))).set i none := by
      rw [List.set_comm _ _ hik, List.set_set]
    rw [← e] at E3
    exact h3 n _ _ E3
end
end Dd
namespace Dd
open PySem PySem.Spec PyProof.Rows L2
/-! ## a list that stands in two other lists and is changed -/
/-- data without lists, among its fields at most objects of such data -/
def noI : Da → Bool
  | .ins _ fs => noLF fs
  | d => noL d
def noIF : List (Str × Da) → Bool
  | [] => true
  | (_, d) :: fs => noI d && noIF fs
/-- data that a change of a list of numbers does not reach -/
def safe : Da → Bool
  | .lst (.tup xs :: ds) => noLs (.tup xs :: ds)
  | .ins _ fs => noIF fs
  | d => noL d
theorem Dn.addI {n m : Ns} {H : Hp} (km : ∀ a o, H a = some o → (∀ vs, o ≠ HO.lst vs) → ¬ n a → ¬ m a) (d : Da) (v : V) (p : noI d = true) (h : Dn n H v d) : Dn m H v d := by
  have kt : ∀ a vs, H a = some (.tup vs) → ¬ n a → ¬ m a := fun a vs e => km a _ e (fun _ z => by cases z)
  cases d with
  | ins C fs =>
    cases h with
    | ins h1 h2 h3 => exact .ins h1 (km _ _ h1 (fun _ z => by cases z) h2) (DnF.addL kt _ _ p h3)
  | _ => exact Dn.addL kt _ v p h
theorem DnF.addI {n m : Ns} {H : Hp} (km : ∀ a o, H a = some o → (∀ vs, o ≠ HO.lst vs) → ¬ n a → ¬ m a) : ∀ (fs : List (Str × Da)) (vs : List (Str × V)), noIF fs = true → DnF n H vs fs → DnF m H vs fs
  | [], _, _, h => by cases h; exact .nil
  | (f, d) :: fs, _, p, h => by
    rw [noIF, Bool.and_eq_true] at p
    cases h with
    | cons h1 h2 => exact .cons (Dn.addI km d _ p.1 h1) (DnF.addI km fs _ p.2 h2)
theorem inz_noL : ∀ w : List Int, noLs (inz w) = true
  | [] => rfl
  | x :: w => by
    show (true && noLs (inz w)) = true
    rw [inz_noL w]
    rfl
section
variable {n m : Ns} {H : Hp} {a0 : Addr} {us0 : List V} {w0 : List Int} {o : HO}
theorem off_keep : Keep (add n a0) H (upd H a0 o) := fun a u e k => by
  rw [upd_ne (fun w => k (.inr w))]
  exact e
theorem off_km (h0 : H a0 = some (.lst us0)) : ∀ a vs, H a = some (.tup vs) → ¬ n a → ¬ (add n a0) a := fun a vs e k z => z.elim k fun w => by rw [w, h0] at e; cases e
theorem off_noL (h0 : H a0 = some (.lst us0)) {d : Da} {v : V} (p : noL d = true) (h : Dn n H v d) : Dn n (upd H a0 o) v d := (Dn.extA off_keep d v (Dn.addL (off_km h0) d v p h)).less fun _ z => .inl z
theorem off_noLs (h0 : H a0 = some (.lst us0)) {d : List Da} {v : List V} (p : noLs d = true) (h : DnL n H v d) : DnL n (upd H a0 o) v d := (DnL.extA off_keep d v (DnL.addL (off_km h0) d v p h)).less fun _ z => .inl z
theorem off_noLF (h0 : H a0 = some (.lst us0)) {d : List (Str × Da)} {v : List (Str × V)} (p : noIF d = true) (h : DnF n H v d) : DnF n (upd H a0 o) v d := DnF.re (n := add n a0) (fun _ _ _ k z => k (.inl z)) d v (DnF.extA off_keep d v (DnF.addI (m := add n a0) (fun a o e k1 k z => z.elim k fun w => by rw [w, h0] at e; cases e; exact k1 _ rfl) d v p h))
theorem ints_of : ∀ {w : List Int} {us : List V}, DnL n H us (inz w) → ∀ u ∈ us, ∃ i, u = .int i
  | [], _, h, u, hu => by cases h; cases hu
  | x :: w, _, h, u, hu => by
    cases h with
    | cons p q =>
      rcases List.mem_cons.mp hu with z | z
      · cases p
        exact ⟨_, z⟩
      · exact ints_of q u z
theorem off_safe (h0 : H a0 = some (.lst us0)) (hu : ∀ u ∈ us0, ∃ i, u = .int i) {d : Da} {v : V} (p : safe d = true) (h : Dn n H v d) : Dn n (upd H a0 o) v d := by
  cases d with
  | lst ds =>
    cases ds with
    | nil => cases p
    | cons e ds =>
      cases e with
      | tup xs =>
        cases h with
        | @lst a vs _ h1 h2 h3 =>
          have hne : a ≠ a0 := fun e => by
            rw [e, h0] at h1
            cases h1
            cases h3 with
            | cons y _ =>
              cases y with
              | tup _ _ _ =>
                obtain ⟨i, z⟩ := hu _ List.mem_cons_self
                cases z
          exact .lst (by rw [upd_ne hne]; exact h1) h2 (off_noLs h0 p h3)
      | _ => cases p
  | ins C fs =>
    cases h with
    | @ins a _ dx vs _ h1 h2 h3 =>
      exact .ins (by rw [upd_ne (fun e => by rw [e, h0] at h1; cases h1)]; exact h1) h2 (off_noLF h0 p h3)
  | _ => exact off_noL h0 p h
theorem off_lst (h0 : H a0 = some (.lst us0)) (hd : DnL n H us0 (inz w0)) (x : Int) {w : List Int} {v : V} (h : Dn n H v (.lst (inz w))) : ∃ w', Dn n (upd H a0 (.lst (us0 ++ [.int x]))) v (.lst (inz w')) := by
  cases h with
  | @lst a vs _ h1 h2 h3 =>
    by_cases e : a = a0
    · subst e
      refine ⟨w0 ++ [x], .lst upd_same h2 ?_⟩
      rw [show inz (w0 ++ [x]) = inz w0 ++ [.int x] by simp [inz]]
      exact (off_noLs h0 (inz_noL _) hd).app (.cons (.int x) .nil)
    · exact ⟨w, .lst (by rw [upd_ne e]; exact h1) h2 (off_noLs h0 (inz_noL _) h3)⟩
def gvd (x : List Int × Int) : Da := .tup [.lst (inz x.1), .int x.2]
theorem off_gv (h0 : H a0 = some (.lst us0)) (hd : DnL n H us0 (inz w0)) (x : Int) {g : List Int × Int} {v : V} (h : Dn n H v (gvd g)) : ∃ g', Dn n (upd H a0 (.lst (us0 ++ [.int x]))) v (gvd g') := by
  cases h with
  | @tup a vs _ h1 h2 h3 =>
    cases h3 with
    | cons p q =>
      cases q with
      | cons r t =>
        cases t
        obtain ⟨w', hw⟩ := off_lst h0 hd x p
        exact ⟨(w', g.2), .tup (by rw [upd_ne (fun e => by rw [e, h0] at h1; cases h1)]; exact h1) h2 (.cons hw (.cons (off_noL h0 rfl r) .nil))⟩
theorem off_gvs (h0 : H a0 = some (.lst us0)) (hd : DnL n H us0 (inz w0)) (x : Int) : ∀ {gs : List (List Int × Int)} {vs : List V}, DnL n H vs (gs.map gvd) → ∃ gs' : List (List Int × Int), gs'.length = gs.length ∧ DnL n (upd H a0 (.lst (us0 ++ [.int x]))) vs (gs'.map gvd)
  | [], _, h => by cases h; exact ⟨[], rfl, .nil⟩
  | g :: gs, _, h => by
    cases h with
    | cons p q =>
      obtain ⟨g', h1⟩ := off_gv h0 hd x p
      obtain ⟨gs', h2, h3⟩ := off_gvs h0 hd x q
      exact ⟨g' :: gs', by simp [h2], .cons h1 h3⟩
def lsd (w : List Int) : Da := .lst (inz w)
theorem off_lsts (h0 : H a0 = some (.lst us0)) (hd : DnL n H us0 (inz w0)) (x : Int) : ∀ {ws : List (List Int)} {vs : List V}, DnL n H vs (ws.map lsd) → ∃ ws' : List (List Int), DnL n (upd H a0 (.lst (us0 ++ [.int x]))) vs (ws'.map lsd)
  | [], _, h => by cases h; exact ⟨[], .nil⟩
  | g :: gs, _, h => by
    cases h with
    | cons p q =>
      obtain ⟨g', h1⟩ := off_lst h0 hd x p
      obtain ⟨gs', h3⟩ := off_lsts h0 hd x q
      exact ⟨g' :: gs', .cons h1 h3⟩
end
section
variable {K : PySem.W.Frag} {F F' G : Fx} {n m n' : Ns} {ρ ρ' ρ0 ρ1 : List Sl} {te : TE} {tx : TA} {d e : Da} {k : Rk} {ds es : List Da} {i j : Nat} {H H0 H1 : Hp} {σ : L2.St} {Φ : Rw → List Sl → Prop} {D : Ends}
theorem EnvOk.shrink (E : EnvOk F m ρ σ H) (k : ∀ a, n a → m a) (ow : ∀ a, m.ow a ↔ n.ow a) (kd : m.kid = n.kid) (sub : ∀ a, F.n0 a → n a) (al : ∀ a, n a → H a ≠ none) : EnvOk F n ρ σ H := by
  refine ⟨E.len, fun i s e => ?_, fun i b ds l x y => ?_, E.apF, sub, E.ion, E.al0, al, E.kp, fun p hp => ⟨(E.gh p hp).1, fun z => (E.gh p hp).2.1 (k _ z), (E.gh p hp).2.2.less k⟩⟩
  · obtain ⟨o, g1, g2⟩ := E.sl i s e
    refine ⟨o, g1, ?_⟩
    cases s with
    | no => trivial
    | is d =>
      obtain ⟨v, f1, f2⟩ := g2
      exact ⟨v, f1, f2.less k⟩
    | own b ds =>
      obtain ⟨l, f1, f2⟩ := g2
      exact ⟨l, f1, f2.re (m := n) fun a _ _ z w => z (k a w)⟩
  · obtain ⟨w1, w2, w3⟩ := E.ownF i b ds l x y
    exact ⟨fun a ha => ⟨(ow a).mp (w1 a ha).1, (w1 a ha).2⟩, w2, by rw [← kd]; exact w3⟩
theorem EnvOk.put (E : EnvOk F n ρ σ H) {v : V} (s : σ[i]? = some (some v)) (h : Dn n H v d) : EnvOk F n (ρ.set i (.is d)) σ H := by
  have := E.set (i := i) h
  rwa [list_set_self σ i _ s] at this
theorem nx_fgt {P : L2.St → Hp → Prop} (i : Nat) (h : Nx F (ρ.set i .no) P) : Nx F ρ P := fun n σ H E => h n σ H (E.forget i)
def allSl (p : Sl → Prop) : List Sl → Prop
  | [] => True
  | t :: r => p t ∧ allSl p r
theorem allSl.get {p : Sl → Prop} : ∀ {ρ : List Sl} (_ : allSl p ρ) {k : Nat} {t : Sl}, ρ[k]? = some t → p t
  | [], _, k, t, e => by simp at e
  | a :: r, h, 0, t, e => by simp at e; subst e; exact h.1
  | a :: r, h, k + 1, t, e => allSl.get h.2 (by simpa using e)
def okP : Sl → Prop
  | .no => True
  | .is d => noL d = true
  | .own _ o => obNoL o = true
def okS : Sl → Prop
  | .no => True
  | .is d => safe d = true
  | .own _ o => obNoL o = true
/-- a statement that is to be read by hand -/
def Stp (p : Prop) : Prop := p
theorem nx_stop {i : Nat} (h : Stp (Nx F ρ (tAsg te (gName i) D))) : Nx F ρ (tAsg te (gName i) D) := h
theorem nx_stopA {r : V → List V → Hp → VK → Prop} {ta tb : TE} {ro : R2} {tx : TA} {T : String} (h : Stp (Nx F ρ (tDrop (tBM K T r (tOp ro ta tb) tx) D))) : Nx F ρ (tDrop (tBM K T r (tOp ro ta tb) tx) D) := h
/-- C(x), x a list of its own; the object's fields are objects and data without lists -/
theorem wp_makeI {α : Type} {C : Addr} {E : XK} {enc : α → List Da} {pre : Ob → α → Prop} {post : Ob → α → Ob → Da → Prop} (hp : ∀ x o' r, post (.ins C []) x o' r → r = .non ∧ ∃ fs, o' = .ins C fs)
    (h : Wp te ρ fun k ρ1 => ∃ x ds, see ρ1 (soft k) = some (.lst ds) ∧ enc x = [.lst ds] ∧ pre (.ins C []) x ∧ ∀ fs, post (.ins C []) x (.ins C fs) .non → noIF fs = true ∧ Φ (.da (.ins C fs)) ρ1) : Wp (tMake C (SpG (fun _ => []) enc pre post) [] E (tCons te tNil)) ρ Φ := fun F n σ H E0 Q g =>
  h F n σ H E0 _ fun v H1 k ρ1 fc E1 x1 r1 => by
    obtain ⟨x, ds, s, he, hpre, q⟩ := fc
    obtain ⟨a, vs, rfl, ha, hds⟩ := peekL E1 (r1.soft E0) s
    rintro p dx hp0 hd0 hne
    have gr : Grow H1 (upd (upd H1 dx (.own p)) p (.ins C dx [])) := Grow.trans (.upd hd0) (.upd (by rw [upd_ne (fun z => hne z.symm)]; exact hp0))
    have hpH : (upd (upd H1 dx (.own p)) p (.ins C dx [])) p = some (.ins C dx []) := by simp [upd]
    let n1 : Ns := ⟨fun b => n b ∧ b ≠ a, fun b => n.ow b ∧ b ≠ a, fun b h => ⟨n.le b h.1, h.2⟩, n.kid⟩
    have ha1 : ¬ n1 a := fun z => z.2 rfl
    have arg : Dn n1 H1 (.ref a) (.lst ds) := .lst ha ha1 (hds.less fun b z => z.1)
    have ds1 : DnL (addO n1 p) (upd (upd H1 dx (.own p)) p (.ins C dx [])) [.ref a] (enc x) := by
      rw [he]
      exact DnL.ext (gr.ext) _ _ (DnL.re (n := n1) (n' := addO n1 p) (fun a o e z w => w.elim z fun w => by rw [w, hp0] at e; cases e) _ _ (.cons arg .nil))
    refine ⟨addO n1 p, p, [], [.ref a], .ins C [], x, rfl, ⟨fun a ha => by rw [ha.no rfl]; exact .inr rfl, Nd.no rfl⟩, fun b hb => ?_, ⟨dx, [], hpH, .nil⟩, .nil, ds1, hpre, fun v H' o' r hr y h3 => ?_⟩
    · rcases hb with hb | hb
      · intro z
        cases e : H1 b with
        | none => exact E1.al b hb.1 e
        | some o => rw [gr b o e] at z; cases z
      · rw [hb, hpH]
        intro z
        cases z
    · obtain ⟨rfl, fs, rfl⟩ := hp _ _ _ hr
      cases h3
      have gr2 : Grow H1 H' := fun b u e => y.fr b u (gr b u e) fun z => ne_of_none e hp0 (z.no rfl)
      obtain ⟨hno, q⟩ := q fs hr
      refine ⟨rfl, g _ H' (.da (.ins C fs)) _ q (E1.grow gr2) (x1.trans gr2.ext) ?_⟩
      obtain ⟨dx', ws, w1, w2⟩ := y.ok
      refine .ins w1 (E1.not hp0) (DnF.addI (n := addO n1 p) (fun b o e k1 z w => z (.inl ⟨w, fun w2 => ?_⟩)) fs ws hno w2)
      rw [w2, gr2 a _ ha] at e
      cases e
      exact k1 _ rfl
/-- repr((x, y)), of lists, own ones too -/
theorem wp_repr2 {d1 d2 : Da} (s1 : see ρ (.sl i) = some d1) (s2 : see ρ (.sl j) = some d2) (z : Shw (.tup [d1, d2])) (q : Φ (.da (.str (txtD (.tup [d1, d2])))) ρ) : Wp (tCB (rRepr K) (tCons (tTup (tCons (tVar i) (tCons (tVar j) tNil))) tNil)) ρ Φ := fun F n σ H E Q g => by
  have look : ∀ {i : Nat} {d : Da}, see ρ (.sl i) = some d → ∃ v, σ[i]? = some (some v) ∧ RelK n σ H v (.sl i) := fun {i d} s => by
    replace s : (match ρ[i]? with | some (.own _ o) => some (obD o) | some (.is d) => some d | _ => none) = some d := s
    cases h : ρ[i]? with
    | none => rw [h] at s; cases s
    | some t =>
      obtain ⟨o, g1, g2⟩ := E.sl i t h
      cases t with
      | no => rw [h] at s; cases s
      | is d =>
        obtain ⟨v, rfl, _⟩ := g2
        exact ⟨v, g1, g1⟩
      | own b ob =>
        obtain ⟨l, rfl, _⟩ := g2
        exact ⟨_, g1, g1⟩
  obtain ⟨v1, e1, r1⟩ := look s1
  obtain ⟨v2, e2, r2⟩ := look s2
  refine ⟨v1, e1, v2, e2, Nat.le_of_ble_eq_true rfl, fun p hp => ?_⟩
  have gr : Grow H (upd H p (.tup [v1, v2])) := .upd hp
  have E2 := E.grow gr
  have hpl := z.pl
  rw [plain, plains, plains, plains, Bool.and_eq_true, Bool.and_eq_true] at hpl
  have p1 := peekE (K := K) E2 (v := v1) (k := .sl i) e1 s1 hpl.1
  have p2 := peekE (K := K) E2 (v := v2) (k := .sl j) e2 s2 hpl.2.1
  refine ⟨_, toPy (.tup [d1, d2]), rfl, ?_, ⟨z.sh, z.nd, z.dp, z.ln⟩, g _ _ (.da (.str (txtD (.tup [d1, d2])))) _ q E2 gr.ext (.str _)⟩
  rw [toPy, toPys, toPys, toPys]
  exact .tup (.inl (.inl upd_same)) (.cons p1 (.cons p2 .nil))
/-- what is held in mind of a list of lists at l, of its first one at a0, and of the script at as -/
structure Pins (F F' : Fx) (K : PySem.W.Frag) (ns : List Int) (l a0 as : Addr) (us us0 : List V) (w0 : List Int) (ws : List (List Int)) : Prop where
  w : Fw F F'
  pl : (l, HO.lst (.ref a0 :: us), V.ref a0 :: us, (w0 :: ws).map lsd) ∈ F'.gh
  p0 : (a0, HO.lst us0, us0, inz w0) ∈ F'.gh
  ps : (∃ o, (as, o, [], []) ∈ F'.gh ∧ (∀ H : Hp, H as = some o → Rd H as (.lst (ns.map V.int))) ∧ as ≠ a0) ∨ ∀ G, SqL K G as (ns.map V.int)
  fr : F.H0 a0 = none
/-- x = a new list of new lists: its address is told -/
theorem nx_pinL {ns : List Int} {xs : List Da} {w0 : List Int} {ws : List (List Int)} (hgh : F.gh = []) (i0 : i ≠ 0) (s0 : ρ[0]? = some (.is (.scr K ns))) {dj : List Da} {wl : List (List Int)} (j0 : j ≠ 0) (sj : ρ[j]? = some (.is (.lst dj))) (ej : dj = .tup xs :: ds) (nj : noLs dj = true) (el : wl = w0 :: ws)
    (oth0 : allSl okP ((ρ.set 0 .no).set j .no))
    (h : Wp te (ρ.set 0 .no) fun k ρ1 => k = .nw (wl.map lsd) ∧ ρ1 = ρ.set 0 .no)
    (q : ∀ F' l a0 as us us0, Pins F F' K ns l a0 as us us0 w0 ws → Nx F' ((ρ.set 0 (.is (.cl as))).set i (.is (.cl l))) D.nx) : Nx F ρ (tAsg te (gName i) D) := fun n σ H E => by
  subst ej
  subst el
  have oth : ∀ (k : Nat) (t : Sl), ρ[k]? = some t → k ≠ 0 → k ≠ j → okP t := fun k t e k0 kj => oth0.get (k := k) (by rw [List.getElem?_set_ne (Ne.symm kj), List.getElem?_set_ne (Ne.symm k0)]; exact e)
  obtain ⟨oj, hjs, vj, rfl, hj⟩ := E.sl j _ sj
  cases hj with
  | @lst lj uj _ hl1 hl2 hl3 =>
  obtain ⟨osc, vs0, vsc, rfl, hsc⟩ := E.sl 0 _ s0
  let np : Ns := ⟨fun a => n a ∨ ((∃ us, H a = some (.lst us)) ∧ a ≠ lj), n.ow, fun a h => .inl (n.le a h), n.kid⟩
  have km : ∀ a vs, H a = some (.tup vs) → ¬ n a → ¬ np a := fun a vs e k z => z.elim k fun ⟨⟨us, w⟩, _⟩ => by rw [w] at e; cases e
  have Ep : EnvOk F np (ρ.set 0 .no) σ H := by
    have E0 := E.forget 0
    refine ⟨E0.len, fun k t e => ?_, E0.ownF, E0.apF, fun a ha => .inl (E.sub a ha), E.ion, E.al0, fun a ha => ?_, E.kp, fun p hp => by rw [hgh] at hp; cases hp⟩
    · by_cases k0 : k = 0
      · subst k0
        rw [List.getElem?_set] at e
        split at e
        · split at e
          · cases e
            exact ⟨_, vs0, trivial⟩
          · cases e
        · exact absurd rfl ‹_›
      · rw [List.getElem?_set_ne (Ne.symm k0)] at e
        obtain ⟨o, g1, g2⟩ := E.sl k t e
        refine ⟨o, g1, ?_⟩
        by_cases kj : k = j
        · subst kj
          rw [sj] at e
          cases e
          rw [hjs] at g1
          cases g1
          exact ⟨_, rfl, .lst hl1 (fun z => z.elim hl2 fun w => w.2 rfl) (DnL.addL km _ _ nj hl3)⟩
        · have ot := oth k t e k0 kj
          cases t with
          | no => trivial
          | is d =>
            obtain ⟨v, f1, f2⟩ := g2
            exact ⟨v, f1, Dn.addL km _ _ ot f2⟩
          | own b ob =>
            obtain ⟨l, f1, f2⟩ := g2
            exact ⟨l, f1, ObOk.reL km _ _ f2 ot⟩
    · rcases ha with ha | ⟨⟨us, ha⟩, _⟩
      · exact E.al a ha
      · rw [ha]; simp
  refine h F np σ H Ep _ fun v H1 k ρ1 f E1 x1 r1 => ?_
  obtain ⟨rfl, rfl⟩ := f
  obtain ⟨p, us1, rfl, hp, E3, g1, g2⟩ := r1
  rw [List.map_cons] at g2
  cases g2 with
  | @cons u0 us _ _ y1 y2 =>
  cases y1 with
  | @lst a0 us0 _ z1 z2 z3 =>
  have hints := ints_of z3
  have hna : ¬ n a0 := fun z => z2 (.inl (.inl z))
  have hfr : H a0 = none := by
    cases e : H a0 with
    | none => rfl
    | some o =>
      exfalso
      have e1 := x1 a0 o e (fun z => z2 (.inl (.inl (n.le _ z))))
      rw [z1] at e1
      cases e1
      by_cases c : a0 = lj
      · rw [c, hl1] at e
        cases e
        cases hl3 with
        | cons y _ =>
          cases y with
          | tup _ _ _ =>
            obtain ⟨i, z⟩ := hints _ List.mem_cons_self
            cases z
      · exact z2 (.inl (.inr ⟨⟨_, e⟩, c⟩))
  have hF : F.H0 a0 = none := by
    cases e : F.H0 a0 with
    | none => rfl
    | some o =>
      exfalso
      by_cases c : F.io a0
      · exact E.al a0 (E.sub a0 (E.ion a0 c)) hfr
      · rw [E.kp a0 o e c] at hfr
        cases hfr
  have xn : Ext n H H1 := fun a o e k => x1 a o e k
  have E2 : EnvOk F n (ρ.set 0 .no) σ H1 := E1.shrink (fun a z => .inl z) (fun _ => Iff.rfl) rfl E.sub fun a z => E1.al a (.inl z)
  have hsc1 : ∃ as, vsc = .ref as := by cases hsc; exact ⟨_, rfl⟩
  obtain ⟨as, rfl⟩ := hsc1
  have E4 : EnvOk F n (ρ.set 0 (.is (.cl as))) σ H1 := by
    have := E2.put (i := 0) vs0 (Dn.cl (n := n) (H := H1) as)
    rwa [List.set_set] at this
  have E5 := E4.set (i := i) (Dn.cl (n := n) (H := H1) p)
  have hnp : ¬ n p := fun z => E.al p z hp
  have E6 := (E5.wrap (a := a0) z1 hna (z3.less (n' := n) fun a z => .inl (.inl z))).wrap (a := p) g1 hnp ((DnL.cons (Dn.lst z1 z2 z3) y2).less (n' := n) (d := (w0 :: ws).map lsd) fun a z => .inl (.inl z))
  cases hsc with
  | scr hs =>
    rcases hs with ⟨hrd, hns⟩ | hs
    · have hso : ∃ o, H as = some o ∧ ∀ G : Hp, G as = some o → Rd G as (.lst (ns.map V.int)) := by
        rcases hrd with e | ⟨o, e⟩
        · exact ⟨_, e, fun G z => .inl z⟩
        · exact ⟨_, e, fun G z => .inr ⟨o, z⟩⟩
      obtain ⟨o, ho, hrd⟩ := hso
      have ho1 : H1 as = some o := xn as o ho fun z => hns (n.le _ z)
      refine q _ p a0 as us us0 ⟨.w _ _ _ _ (.w _ _ _ _ (.w _ _ _ _ .refl)), List.mem_cons_of_mem _ List.mem_cons_self, List.mem_cons_of_mem _ (List.mem_cons_of_mem _ List.mem_cons_self), .inl ⟨o, List.mem_cons_self, hrd, fun z => by rw [z, hfr] at ho; cases ho⟩, hF⟩ n _ H1 (E6.wrap (a := as) ho1 hns .nil)
    · exact q _ p a0 as us us0 ⟨.w _ _ _ _ (.w _ _ _ _ .refl), List.mem_cons_self, List.mem_cons_of_mem _ List.mem_cons_self, .inr hs, hF⟩ n _ H1 E6
/-- y = a new list made with the list of lists at hand -/
theorem nx_asgPin {ns : List Int} {l a0 as : Addr} {us us0 : List V} {w0 : List Int} {ws : List (List Int)} (P : Pins F F' K ns l a0 as us us0 w0 ws) (s : ρ[i]? = some (.is (.cl l))) (hij : i ≠ j)
    (h : Wp te (ρ.set i (.is (.lst ((w0 :: ws).map lsd)))) fun k ρ1 => ∃ es, k = .nw es ∧ ρ1 = ρ.set i (.is (.lst ((w0 :: ws).map lsd))) ∧ Nx F' (ρ.set j (.own false (.lst es))) D.nx) : Nx F' ρ (tAsg te (gName j) D) := fun n σ H E => by
  obtain ⟨o, hs, v, e, hv⟩ := E.sl i _ s
  cases hv
  subst e
  obtain ⟨g1, g2, g3⟩ := E.gh _ P.pl
  have E1 := E.put (i := i) hs (Dn.lst g1 g2 g3)
  refine h F' n σ H E1 _ fun v H1 k ρ1 f E2 x1 r1 => ?_
  obtain ⟨es, rfl, rfl, q⟩ := f
  obtain ⟨p, us1, rfl, hp, E3, y1, y2⟩ := r1
  have back : ∀ {m : Ns}, EnvOk F' m (ρ.set i (.is (.lst ((w0 :: ws).map lsd)))) σ H1 → EnvOk F' m ρ σ H1 := fun {m} E => by
    have := E.put (i := i) hs (Dn.cl (n := m) (H := H1) l)
    rw [List.set_set] at this
    rwa [list_set_self ρ i _ s] at this
  have E4 := back E3
  exact q _ _ _ (E4.may.setO (i := j) (ds := .lst es) (fun j b es l e1 e2 ha => E.al p (n.le p ((E4.ownF j b es l e1 e2).1 p ha).1) hp) (E.h0 hp) ⟨us1, y1, DnL.re (n := add n p) (n' := addO n p) (fun a _ _ z => z) _ _ y2⟩)
/-- xs[0].append(c), xs the list of lists -/
theorem nx_appPin {ns : List Int} {l a0 as : Addr} {us us0 : List V} {w0 : List Int} {ws : List (List Int)} {gs : List (List Int × Int)} {c : Int} (P : Pins F F' K ns l a0 as us us0 w0 ws) (hgh : F.gh = []) (h0i : i ≠ 0) (h0j : j ≠ 0) (hij : i ≠ j)
    (s0 : ρ[0]? = some (.is (.cl as))) (s : ρ[i]? = some (.is (.cl l))) (sj : ρ[j]? = some (.own false (.lst (gs.map gvd)))) (hw : w0.length ≤ 10000000)
    (oth0 : allSl okS (((ρ.set 0 .no).set i .no).set j .no))
    (q : ∀ (ws' : List (List Int)) (gs' : List (List Int × Int)), gs'.length = gs.length → Nx F (((ρ.set i (.is (.lst (((w0 ++ [c]) :: ws').map lsd)))).set j (.own false (.lst (gs'.map gvd)))).set 0 (.is (.scr K ns))) D.nx) :
    Nx F' ρ (tDrop (tBM K "list" rAppend (tOp (rIx K) (tVar i) (tC (.int 0))) (tCons (tC (.int c)) tNil)) D) := fun n σ H E => by
  have oth : ∀ (k : Nat) (t : Sl), ρ[k]? = some t → k ≠ 0 → k ≠ i → k ≠ j → okS t := fun k t e k0 ki kj => oth0.get (k := k) (by rw [List.getElem?_set_ne (Ne.symm kj), List.getElem?_set_ne (Ne.symm ki), List.getElem?_set_ne (Ne.symm k0)]; exact e)
  obtain ⟨o, hs, v, e, hv⟩ := E.sl i _ s
  cases hv
  subst e
  obtain ⟨o, hs0, v, e, hv⟩ := E.sl 0 _ s0
  cases hv
  subst e
  obtain ⟨lj, usj, hsj, hlj, hdj, hnj⟩ := own_at E sj
  obtain ⟨g1, g2, g3⟩ := E.gh _ P.pl
  obtain ⟨k1, k2, k3⟩ := E.gh _ P.p0
  replace g1 : H l = some (.lst (.ref a0 :: us)) := g1
  replace g2 : ¬ n l := g2
  replace g3 : DnL n H (.ref a0 :: us) ((w0 :: ws).map lsd) := g3
  replace k1 : H a0 = some (.lst us0) := k1
  replace k2 : ¬ n a0 := k2
  replace k3 : DnL n H us0 (inz w0) := k3
  have hla : l ≠ a0 := fun z => by
    rw [z, k1] at g1
    cases g1
    obtain ⟨i, z⟩ := ints_of k3 _ List.mem_cons_self
    cases z
  refine ⟨_, hs, .inl ⟨l, .ref a0 :: us, 0, .ref a0, rfl, rfl, .inl (.inl g1), (show atI (V.ref a0 :: us) ((0 : Nat) : Int) = some (V.ref a0) from atI_nat rfl), .inl ⟨rfl, us0, .inl (.inl k1)⟩, a0, us0, .int c, rfl, rfl, k1, ?_, ?_⟩⟩
  · rw [k3.length]
    show (w0.map Da.int).length < sizeLine
    rw [List.length_map]
    exact lt_line hw
  have E0 := P.w.un E
  have hal : ∀ b : Addr, H b ≠ none → (upd H a0 (.lst (us0 ++ [.int c]))) b ≠ none := fun b z => by
    by_cases e : b = a0
    · rw [e, upd_same]; simp
    · rw [upd_ne e]; exact z
  cases g3 with
  | cons y1 y2 =>
  obtain ⟨ws', hws⟩ := off_lsts k1 k3 c y2
  obtain ⟨gs', hgl, hgs⟩ := off_gvs k1 k3 c hdj
  have hmine : DnL n (upd H a0 (.lst (us0 ++ [.int c]))) (.ref a0 :: us) (((w0 ++ [c]) :: ws').map lsd) := by
    refine .cons (.lst upd_same k2 ?_) hws
    rw [show inz (w0 ++ [c]) = inz w0 ++ [.int c] by simp [inz]]
    exact (off_noLs k1 (inz_noL _) k3).app (.cons (.int c) .nil)
  have hj0 : (upd H a0 (.lst (us0 ++ [.int c]))) lj = some (.lst usj) := by
    rw [upd_ne (fun z => k2 (n.le _ (by rw [← z]; exact hnj)))]
    exact hlj
  have tr : ∀ (k : Nat) (b : Bool) (o : Ob), ((ρ.set j (.own false (.lst (gs'.map gvd)))).set 0 .no)[k]? = some (.own b o) → ∃ o', ρ[k]? = some (.own b o') ∧ (∀ l a, Ft l o a = Ft l o' a) ∧ (∀ l, Nd l o = Nd l o') ∧ ∀ as, o'.kidOk as → o.kidOk as := fun k b o e => by
    by_cases c0 : k = 0
    · subst c0
      rw [List.getElem?_set] at e
      split at e
      · split at e <;> cases e
      · exact absurd rfl ‹_›
    rw [List.getElem?_set_ne (Ne.symm c0)] at e
    by_cases cj : k = j
    · subst cj
      rw [List.getElem?_set] at e
      split at e
      · split at e
        · cases e
          exact ⟨_, sj, fun _ _ => rfl, fun _ => rfl, fun _ _ => trivial⟩
        · cases e
      · exact absurd rfl ‹_›
    rw [List.getElem?_set_ne (Ne.symm cj)] at e
    exact ⟨o, e, fun _ _ => rfl, fun _ => rfl, fun _ z => z⟩
  have E1 : EnvOk F n ((ρ.set j (.own false (.lst (gs'.map gvd)))).set 0 .no) σ (upd H a0 (.lst (us0 ++ [.int c]))) := by
    refine ⟨by rw [List.length_set, List.length_set]; exact E0.len, fun k t e => ?_, fun k b o l' e1 e2 => ?_, fun k k' b b' o o' l1 l2 e1 e2 e3 e4 a f1 f2 => ?_, E0.sub, E0.ion, E0.al0, fun a ha => hal a (E0.al a ha), fun a o e1 e2 => ?_, fun p hp => by rw [hgh] at hp; cases hp⟩
    · by_cases c0 : k = 0
      · subst c0
        rw [List.getElem?_set] at e
        split at e
        · split at e
          · cases e
            exact ⟨_, hs0, trivial⟩
          · cases e
        · exact absurd rfl ‹_›
      rw [List.getElem?_set_ne (Ne.symm c0)] at e
      by_cases cj : k = j
      · subst cj
        rw [List.getElem?_set] at e
        split at e
        · split at e
          · cases e
            exact ⟨_, hsj, lj, rfl, usj, hj0, hgs⟩
          · cases e
        · exact absurd rfl ‹_›
      rw [List.getElem?_set_ne (Ne.symm cj)] at e
      obtain ⟨o, z1, z2⟩ := E0.sl k t e
      refine ⟨o, z1, ?_⟩
      by_cases ci : k = i
      · subst ci
        rw [s] at e
        cases e
        obtain ⟨v, f1, f2⟩ := z2
        cases f2
        exact ⟨_, f1, .cl _⟩
      have ot := oth k t e c0 ci cj
      cases t with
      | no => trivial
      | is d =>
        obtain ⟨v, f1, f2⟩ := z2
        exact ⟨v, f1, off_safe k1 (ints_of k3) ot f2⟩
      | own b ob =>
        obtain ⟨l2, f1, f2⟩ := z2
        refine ⟨l2, f1, ?_⟩
        have f3 : ObOk (add n a0) H l2 ob := ObOk.reL (off_km k1) ob l2 f2 ot
        have hown := E0.ownF k b ob l2 e (by rw [z1, f1])
        refine (ObOk.keep off_keep ob l2 f3 fun a ha u hu => ?_).re (m := n) fun a _ _ z w => z (.inl w)
        rw [upd_ne (fun z => k2 (n.le _ (by rw [← z]; exact (hown.1 a ha).1)))]
        exact hu
    · obtain ⟨o', t1, t2, t3, t4⟩ := tr k b o e1
      obtain ⟨w1, w2, w3⟩ := E0.ownF k b o' l' t1 e2
      exact ⟨fun a ha => w1 a (by rw [← t2]; exact ha), by rw [t3]; exact w2, t4 _ w3⟩
    · obtain ⟨u, t1, t2, _⟩ := tr k b o e1
      obtain ⟨u', t1', t2', _⟩ := tr k' b' o' e2
      exact E0.apF k k' b b' u u' l1 l2 t1 t1' e3 e4 a (by rw [← t2]; exact f1) (by rw [← t2']; exact f2)
    · rw [upd_ne (fun z => by rw [z, P.fr] at e1; cases e1)]
      exact E0.kp a o e1 e2
  have E2 := E1.put (i := i) hs (Dn.lst (n := n) (a := l) (by rw [upd_ne hla]; exact g1) g2 hmine)
  have hscr : Dn n (upd H a0 (.lst (us0 ++ [.int c]))) (.ref as) (.scr K ns) := by
    rcases P.ps with ⟨o, z1, z2, z3⟩ | z
    · obtain ⟨y1, y2, _⟩ := E.gh _ z1
      exact .scr (.inl ⟨z2 _ (by rw [upd_ne z3]; exact y1), y2⟩)
    · exact .scr (.inr z)
  have E3 := E2.put (i := 0) hs0 hscr
  have e3 : (((ρ.set j (.own false (.lst (gs'.map gvd)))).set 0 .no).set i (.is (.lst (((w0 ++ [c]) :: ws').map lsd)))).set 0 (.is (.scr K ns)) = ((ρ.set i (.is (.lst (((w0 ++ [c]) :: ws').map lsd)))).set j (.own false (.lst (gs'.map gvd)))).set 0 (.is (.scr K ns)) := by
    rw [List.set_comm _ _ (Ne.symm h0i), List.set_set, List.set_comm _ _ hij]
  rw [e3] at E3
  exact q ws' gs' hgl n σ _ E3
end
end Dd
namespace Dd
open PySem PySem.Spec PyProof.Rows L2 ClX
/-! ## texts: cut, asked, read as numbers -/
def rSplitD : V → List V → Hp → VK → Prop := fun x xs H Q => ∃ a b, x = .str a ∧ xs = [.str b] ∧ (b.length == 0) = false ∧ a.length + 2 ≤ sizeLine ∧ rNewStrs (Txt.split a b) H Q
def rM0 (g : Str → Bool) : V → List V → Hp → VK → Prop := fun x xs H Q => ∃ a, x = .str a ∧ xs = [] ∧ True ∧ Q (.bl (g a)) H
def rM1 (g : Str → Str → Bool) : V → List V → Hp → VK → Prop := fun x xs H Q => ∃ a b, x = .str a ∧ xs = [.str b] ∧ Q (.bl (g a b)) H
def rIntT : List V → Hp → VK → Prop := fun xs H Q => ∃ a n, xs = [.str a] ∧ PySem.intText? a = some n ∧ a.length ≤ 640 ∧ Q (.int n) H
section
variable {X : Cx} {o e : Expr} {to te : TE} {apos pos : Pos}
theorem pe_splitD (ho : PE X o to) (he : PE X e te) (hs : starEach [e] X.env = [(false, eval e X.env)] := by rfl) (hbase : attributeBase o "split" X.env (eval o X.env) = eval o X.env := by rfl) (hline : (apos.endLine == pos.line) = true := by rfl) :
    PE X (.Call (.Attribute o "split" apos) [e] [] pos) (tM1 rSplitD to te) := pe_split ho he hs hbase hline
theorem pe_startswithD (ho : PE X o to) (he : PE X e te) (hs : starEach [e] X.env = [(false, eval e X.env)] := by rfl) (hbase : attributeBase o "startswith" X.env (eval o X.env) = eval o X.env := by rfl) (hline : (apos.endLine == pos.line) = true := by rfl) :
    PE X (.Call (.Attribute o "startswith" apos) [e] [] pos) (tM1 (rM1 Txt.startswith) to te) := pe_m1 F.slot_str_startswith F.type_str_startswith mt_startswith ho he hs hbase hline
theorem pe_isdigitD (ho : PE X o to) (hbase : attributeBase o "isdigit" X.env (eval o X.env) = eval o X.env := by rfl) (hline : (apos.endLine == pos.line) = true := by rfl) :
    PE X (.Call (.Attribute o "isdigit" apos) [] [] pos) (tM0 (rM0 Txt.isdigit) to) := pe_m0 F.slot_str_isdigit F.type_str_isdigit mt_isdigit ho hbase hline
theorem pe_isasciiD (ho : PE X o to) (hbase : attributeBase o "isascii" X.env (eval o X.env) = eval o X.env := by rfl) (hline : (apos.endLine == pos.line) = true := by rfl) :
    PE X (.Call (.Attribute o "isascii" apos) [] [] pos) (tM0 (rM0 Txt.isascii) to) := pe_m0 F.slot_str_isascii F.type_str_isascii mt_isascii ho hbase hline
theorem cb_intT : CallR X (.type "int") rIntT := call_int_str
end
section
variable {K : PySem.W.Frag} {F : Fx} {n : Ns} {ρ ρ0 ρ1 ρ2 : List Sl} {te to ta tb : TE} {tx tr : TA} {d e : Da} {k k1 k2 : Rk} {ds es : List Da} {i j : Nat} {H : Hp} {σ : L2.St} {Φ : Rw → List Sl → Prop}
theorem dnl_strz : ∀ ys : List Str, DnL n H (ys.map V.str) (strz ys)
  | [] => .nil
  | y :: ys => .cons (.str y) (dnl_strz ys)
theorem wp_split (h : Wp to ρ fun k ρ1 => ∃ a, see ρ1 (soft k) = some (.str a) ∧ Wp te ρ1 fun k2 ρ2 => ∃ b, see ρ2 (soft k2) = some (.str b) ∧ (b.length == 0) = false ∧ a.length + 2 ≤ sizeLine ∧ Φ (.nw (strz (Txt.split a b))) ρ2) : Wp (tM1 rSplitD to te) ρ Φ := fun F n σ H E Q g =>
  h F n σ H E _ fun v H1 k ρ1 f1 E1 x1 r1 => by
    obtain ⟨a, s1, f1⟩ := f1
    have e1 := peekS E1 (r1.soft E) s1
    refine ⟨⟨a, e1⟩, f1 F n σ H1 E1 _ fun u H2 k2 ρ2 f2 E2 x2 r2 => ?_⟩
    obtain ⟨b, s2, z1, z2, f⟩ := f2
    have e2 := peekS E2 (r2.soft E1) s2
    refine ⟨a, b, e1, by rw [e2], z1, z2, fun p hp => ?_⟩
    have gr := Grow.upd (o := .lst ((Txt.split a b).map V.str)) hp
    exact g _ _ (.nw (strz (Txt.split a b))) ρ2 f (E2.grow gr) ((x1.trans x2).trans gr.ext) ⟨p, _, rfl, fresh_pre E2 (x1.trans x2) hp, E2.more hp gr (by rw [upd_same]; simp), upd_same, dnl_strz _⟩
theorem wp_m0B {g0 : Str → Bool} (h : Wp to ρ fun k ρ1 => ∃ a, see ρ1 (soft k) = some (.str a) ∧ Φ (.da (.bl (g0 a))) ρ1) : Wp (tM0 (rM0 g0) to) ρ Φ := fun F n σ H E Q g =>
  h F n σ H E _ fun v H1 k ρ1 f1 E1 x1 r1 => by
    obtain ⟨a, s1, f⟩ := f1
    have e1 := peekS E1 (r1.soft E) s1
    exact ⟨⟨a, e1⟩, a, e1, rfl, trivial, g _ H1 _ ρ1 f E1 x1 (.bl _)⟩
theorem wp_m1B {g0 : Str → Str → Bool} (h : Wp to ρ fun k ρ1 => ∃ a, see ρ1 (soft k) = some (.str a) ∧ Wp te ρ1 fun k2 ρ2 => ∃ b, see ρ2 (soft k2) = some (.str b) ∧ Φ (.da (.bl (g0 a b))) ρ2) : Wp (tM1 (rM1 g0) to te) ρ Φ := fun F n σ H E Q g =>
  h F n σ H E _ fun v H1 k ρ1 f1 E1 x1 r1 => by
    obtain ⟨a, s1, f1⟩ := f1
    have e1 := peekS E1 (r1.soft E) s1
    refine ⟨⟨a, e1⟩, f1 F n σ H1 E1 _ fun u H2 k2 ρ2 f2 E2 x2 r2 => ?_⟩
    obtain ⟨b, s2, f⟩ := f2
    have e2 := peekS E2 (r2.soft E1) s2
    exact ⟨a, b, e1, by rw [e2], g _ H2 _ ρ2 f E2 (x1.trans x2) (.bl _)⟩
theorem b_intT {a : Str} {m : Int} (s : see ρ k = some (.str a)) (h : PySem.intText? a = some m) (hl : a.length ≤ 640) : Cb rIntT ρ [k] (.da (.int m)) := fun F n σ H vs Q E r1 q => by
  obtain ⟨v, rfl, r⟩ := rk1 r1
  rw [peekS E r s]
  exact ⟨a, m, rfl, h, hl, q _ H E .refl (.int _)⟩
end
/-! ## x(..), x a local name that holds a class -/
def tMakeL (i : Nat) (C : Addr) (sp : Sp) (E : XK) (t : TA) : TE := fun σ H Q => σ[i]? = some (some (.ref C)) ∧ tMake C sp [] E t σ H Q
section
variable {X : Cx}
theorem pe_makeL {CX : CXT} {k i : Nat} {f C : Addr} {fd : FuncData} {ps : List Str} {sp : Sp} {E : XK} {x : Str} {p pos : Pos} {e : Expr} {es : List Expr} {t : TA} (M : Mk X.K C f) (F : FnOk X.prog X.w X.K X.mg X.base CX k f fd ps sp) (hr : Room (k + 1) X.A) (hN : X.N[i]? = some x) (hv : Vis X.env.scope x) (hb : Binds X.K fd ps []) (hx : Passes CX X E) (ha : PA X (e :: es) t)
    (hdb : (x == ("__debug__" : Str)) = false := by decide) (hcd : (x == ("__classdict__" : Str)) = false := by decide)
    (he : starEach (e :: es) X.env = (false, eval e X.env) :: starEach es X.env := by rfl) (hpl : (backTo pos (starEach es X.env)).any (·.1) = false := by rfl) : PE X (.Call (.Name x p) (e :: es) [] pos) (tMakeL i C sp E t) := by
  refine ⟨fun pins s σ H Q I h => ?_⟩
  obtain ⟨hs, ht⟩ := h
  refine wpAny_Call_Name_kw (thn ((pe_var (pos := p) hN hv hdb hcd).run pins s σ H (fun v H1 => v = .ref C ∧ H1 = H) I ⟨.ref C, hs, rfl, rfl⟩) fun u s1 ⟨v, H1, I1, r1, q1⟩ => ?_)
  obtain ⟨rfl, rfl⟩ := q1
  cases r1
  refine PySem.W.callWith_K (h₀ := X.base) I.ok.mod.kin M.kp (thn (ha.run pos pins s1 σ _ _ I1 ht) fun us s2 ⟨vs, H2, I2, r, q⟩ => ⟨I2.kIn, ?_⟩) he hpl
  exact run_make M F hr hb .nil hx I2 r q
theorem pe_mkbL {j k i : Nat} {x y : Str} {C : Addr} {sp : Sp} {p pos : Pos} {e : Expr} {es : List Expr} {t : TA} (c : Makb X.prog X.w X.K X.mg X.base k y C sp) (hr : Room j X.A) (hk : k + 1 ≤ j) (hN : X.N[i]? = some x) (hv : Vis X.env.scope x) (ha : PA X (e :: es) t)
    (hdb : (x == ("__debug__" : Str)) = false := by decide) (hcd : (x == ("__classdict__" : Str)) = false := by decide)
    (he : starEach (e :: es) X.env = (false, eval e X.env) :: starEach es X.env := by rfl) (hpl : (backTo pos (starEach es X.env)).any (·.1) = false := by rfl) : PE X (.Call (.Name x p) (e :: es) [] pos) (tMakeL i C sp E0 t) := by
  obtain ⟨f, fd, ps, M, F, hm, b⟩ := c.ex
  exact pe_makeL M F (hr.mono hk) hN hv b pass0 ha hdb hcd he hpl
/-- a classmethod of the text -/
structure Cmb (P : Program) (w : World) (K : PySem.W.Frag) (mg : Str → Option Value) (base : Heap) (k : Nat) (C : Addr) (m : Str) (sp : Sp) : Prop where
  ex : ∃ (mc : Value) (p g : Addr) (fd : FuncData) (ps : List Str), CRead K C mc ∧ CMet K C mc m p g ∧ FnOk P w K mg base CX0 k g fd ps sp ∧ Binds K fd ps []
theorem pe_cmb {j k : Nat} {C : Addr} {m : Str} {sp : Sp} {o e : Expr} {es : List Expr} {ta : TE} {t : TA} {apos pos : Pos} {pl : Sem Bool} (c : Cmb X.prog X.w X.K X.mg X.base k C m sp) (hr : Room j X.A) (hk : k ≤ j) (he : PE X o ta) (ha : PA X (e :: es) t)
    (hst : starEach (e :: es) X.env = (false, eval e X.env) :: starEach es X.env := by rfl) (hpl : (backTo pos (starEach es X.env)).any (·.1) = false := by rfl)
    (ht : eval (.Call (.Attribute o m apos) (e :: es) [] pos) X.env = (do
      let ov ← eval o X.env
      standAt apos.atName
      let (f, first) ← holding [ov] (getMethod ov m pl)
      callWith pos f first (backTo pos (starEach (e :: es) X.env)) (backToKw pos (keywordEach [] X.env))) := by rfl) :
    PE X (.Call (.Attribute o m apos) (e :: es) [] pos) (tCMeth C (fun vs H Q E => sp (vs ++ []) H Q E) E0 ta t) := by
  obtain ⟨mc, p, g, fd, ps, r, cm, F, b⟩ := c.ex
  exact pe_cmeth (pl := pl) he r cm (F.raw b .nil) (hr.mono hk) pass0 ha hst hpl ht
end
section
variable {ρ : List Sl} {tx : TA} {i : Nat} {C : Addr} {sp : Sp} {E : XK} {Φ : Rw → List Sl → Prop}
theorem wp_makeL (s : ρ[i]? = some (.is (.cl C))) (h : Wp (tMake C sp [] E tx) ρ Φ) : Wp (tMakeL i C sp E tx) ρ Φ := fun F n σ H E0 Q g => by
  obtain ⟨o, e, v, rfl, hv⟩ := E0.sl i _ s
  cases hv
  exact ⟨e, h F n σ H E0 Q g⟩
theorem wp_cmeth (h : Wp (tCall sp [] E (tCons (tC (.ref C)) tx)) ρ Φ) : Wp (tCMeth C (fun vs H Q E => sp (vs ++ []) H Q E) E (tC (.ref C)) tx) ρ Φ := fun F n σ H E0 Q g => ⟨rfl, h F n σ H E0 Q g⟩
end
end Dd
namespace Dd
open PySem PySem.Spec PyProof.Rows L2
/-! ## try: C(..) except S as n: k = n -/
def tTryMkK (K : PySem.W.Frag) (C S : Addr) (i jk : Nat) (sp : Sp) (t : TA) : TS := fun D σ H => tMakeS C sp (WE (wKeep K (.ref S) i (fun _ _ _ => tAsg (tVar i) (gName jk)) D)) t σ H fun _ H2 => D.nx σ H2
section
variable {X : Cx}
theorem ps_tryMkK {K : PySem.W.Frag} (m : KIs K) (h0 : X.K = K) {j k i jk : Nat} {fx kx n c : Str} {C S : Addr} {sp : Sp} {e : Expr} {es : List Expr} {t : TA} {p p1 p2 p3 p4 p5 p7 p8 p9 : Pos} (hst : X.stack = X.env :: X.outer) (hfm : X.env.frame = some X.env.locals) (hex : X.ex = []) (nd : X.N.Nodup)
    (cal : MakX X.prog X.w X.K X.mg X.base k fx C sp) (hr : Room j X.A) (hk : k + 1 ≤ j) (hg : Gl X fx) (hgc : Gl X c) (hmc : X.mg c = some (.ref S))
    (hni : X.N[i]? = some n) (hnk : X.N[jk]? = some kx) (lck : Loc X.env.scope kx) (fk : X.fn kx = true ∨ X.env.scope.names.lookup kx = some .local) (hki : X.env.kindOf n = some .local) (vi : Vis X.env.scope n)
    (ha : ∀ (pn : List (Addr × Obj)) (xe : Value → Shared → Prop), PA (X.tr pn xe) (e :: es) t)
    (hdb : (fx == ("__debug__" : Str)) = false := by decide) (hdc : (c == ("__debug__" : Str)) = false := by decide) (hdn : (n == ("__debug__" : Str)) = false := by decide) (hcn : (n == ("__classdict__" : Str)) = false := by decide)
    (he : starEach (e :: es) X.env = (false, eval e X.env) :: starEach es X.env := by rfl) (hpl : (backTo p2 (starEach es X.env)).any (·.1) = false := by rfl)
    (hs1 : swapsWith (.Call (.Name fx p1) (e :: es) [] p2) none p3.line X.env = pure false := by rfl) (hs2 : swapsWith (.Name n p5) (some (.Name kx p4)) p7.line X.env = pure false := by rfl) :
    PS X (.Try [.Expr (.Call (.Name fx p1) (e :: es) [] p2) p3] [.ExceptHandler (some (.Name c p8)) (some n) [.Assign [.Name kx p4] (.Name n p5) p7] p9] [] [] p) (tTryMkK K C S i jk sp t) := by
  subst h0
  obtain ⟨f0, fd, ps, M, FO, hm, b⟩ := cal.ex
  have h := ps_try_kept (X := X) (tb := fun W => tDrop (tMakeS C sp (WE W) t)) (ts := fun a _ _ => tAsg (tVar i) (gName jk)) (px := p8) (pt := p) (ph := p9) hst hfm hex nd hni hki ⟨hgc, hdc, .inl hmc⟩
    (fun W pn xe tk pass => pss_one (ps_expr (X := X.tr pn xe) (pe_makeS (X := X.tr pn xe) M FO (hr.mono hk) hg hm b (fun σ => passAt tk σ) (ha pn xe) hdb he hpl) hs1))
    (fun a oe cls d pn hz hf => pss_one (ps_set (X := X.suite a ((a, oe) :: pn)) nd hnk lck (pe_var (X := X.suite a ((a, oe) :: pn)) hni vi hdn hcn) hs2 fk))
  exact h
end
section
variable {α : Type} {K : PySem.W.Frag} {F : Fx} {ρ : List Sl} {tx : TA} {D : Ends} {enc : α → List Da} {pre : Ob → α → Prop} {post : Ob → α → Ob → Da → Prop} {exc : α → Addr → Str → Int → Prop} {i jk : Nat} {C S : Addr}
theorem nx_tryMkK (hs : ∀ x o' r, post (.ins C []) x o' r → r = .non ∧ ∃ fs, o' = .ins C fs) (hi : i < ρ.length) (hik : i ≠ jk) (h : WpA tx ρ fun ks ρ1 => ρ1 = ρ ∧ ∃ x, AllDa ks (enc x) ∧ pre (.ins C []) x ∧ (∀ gs, post (.ins C []) x (.ins C gs) .non → Nx F ρ D.nx) ∧
      ∀ C' g v, exc x C' g v → PySem.W.exmOne K (.ref C') (.ref S) = some true ∧ Nx F ((ρ.set jk (.is (.exn C' [(g, .int v)]))).set i .no) D.nx) : Nx F ρ (tTryMkK K C S i jk (SpGX (fun _ => []) enc pre post exc) tx D) := fun n σ H E0 =>
  h F n σ H E0 _ fun vs H1 ks ρ1 fc E1 x1 r1 => by
    obtain ⟨rfl, x, ha, hpre, q, qI⟩ := fc
    have hlen : i < σ.length := by rw [E1.len]; exact hi
    refine make_go (Q := fun _ H2 => D.nx σ H2) hs E1 r1 ha hpre (fun p H' gs hr gr hp0 hv => q gs hr n σ H' (E1.grow gr)) (fun C' g v d H' he gr hd hx => ?_)
    obtain ⟨h2, h3⟩ := qI C' g v he
    refine ⟨h2, fun a hna => ?_⟩
    refine ⟨.ref a, by rw [List.getElem?_set_self hlen], fun ha' => ?_⟩
    have hup : (upd H' a (CaO (.ref C') (some d) a)) d = some (.xd [(g, .int v)]) := by rw [upd_ne (ne_of_none hx hna)]; exact hx
    have E2 : EnvOk F n ρ1 σ (upd H' a (CaO (.ref C') (some d) a)) := (E1.grow gr).updN hna
    have hv : Dn n (upd H' a (CaO (.ref C') (some d) a)) (.ref a) (.exn C' [(g, .int v)]) := .exn upd_same hup ((E1.grow gr).not hna) (E1.not hd) (.cons (.int v) .nil)
    have e : ((σ.set i (some (V.ref a))).set jk (some (V.ref a))).set i none = (σ.set jk (some (V.ref a))).set i none := by
      rw [List.set_comm _ _ hik, List.set_set]
    have E3 := (E2.set (i := jk) hv).drop (i := i) none
    rw [← e] at E3
    exact h3 n _ _ E3
end
/-! isinstance of a kept error, the class a built-in one -/
def rIsOT (K : PySem.W.Frag) (T : String) : List V → Hp → VK → Prop := fun xs H Q => ∃ (a C dx : Addr) (fs : List (Str × V)) (b : Bool), xs = [.ref a, .ty T] ∧ H a = some (CaO (.ref C) (some dx) a) ∧ H dx = some (.xd fs) ∧ ExcC K C ∧ PySem.W.kitOne K (.ref C) (.type T) = some b ∧ Q (.bl b) H
theorem call_isOT {X : Cx} {T : String} : CallR X (.builtin "isinstance") (rIsOT X.K T) := by
  intro pins s σ H xs us Q I r h
  obtain ⟨a, C, dx, fs, b, rfl, ha, hd, E, hb, q⟩ := h
  obtain ⟨u1, u2, rfl, r1, r2⟩ := vals2 r
  obtain rfl : u1 = Value.ref a := r1
  obtain rfl : u2 = Value.type T := r2
  obtain ⟨ob, od, mA, J, _, _⟩ := kept_at I ha hd
  have hcl : (PySem.W.clsIn X.K C).isSome = true := by
    obtain ⟨cd, hc, _⟩ := PySem.W.any_some E.hd
    rw [hc]
    rfl
  exact PySem.W.kia_one (PySem.W.kitx_exc hcl E.hg E.hk E.hs E.ha E.hn E.ht E.hm) I.kIn J hb (fun z => nomatch z) fun tk => ⟨.bl b, H, I.tok tk, rfl, q⟩
theorem call_isOTK {X : Cx} {K : PySem.W.Frag} {T : String} (m : KIs K) (h : X.K = K) : CallR X (.builtin "isinstance") (rIsOT K T) := h ▸ call_isOT
theorem wp_isOT {K : PySem.W.Frag} {T : String} {te : TE} {ρ : List Sl} {Φ : Rw → List Sl → Prop} (h : Wp te ρ fun k ρ1 => ∃ C fs b, see ρ1 (soft k) = some (.exn C fs) ∧ ExcC K C ∧ PySem.W.kitOne K (.ref C) (.type T) = some b ∧ Φ (.da (.bl b)) ρ1) : Wp (tCB (rIsOT K T) (tCons te (tCons (tC (.ty T)) tNil))) ρ Φ := fun F n σ H E Q g =>
  h F n σ H E _ fun v H1 k ρ1 fc E1 x1 r1 => by
    obtain ⟨C, fs, b, s, T, hb, q⟩ := fc
    obtain ⟨a, dx, vs, rfl, h1, h2, h3⟩ := peekX E1 (r1.soft E) s
    exact ⟨a, C, dx, vs, b, rfl, h1, h2, T, hb, g _ H1 _ ρ1 q E1 x1 (.bl b)⟩
end Dd
section
open PySem PySem.Spec PyProof.Rows L2 Dd
local macro_rules | `(tactic| walk_at "side") => `(tactic| first
 | (first
  | assumption
  | exact Nat.le_of_ble_eq_true rfl
  | decide
  | omega
  | (constructor <;> first | assumption | decide | omega)
  | exact ⟨by omega, by omega⟩
  | exact Or.inl ⟨by omega, by omega⟩ | exact Or.inr ⟨by decide, by decide⟩ | exact Or.inr ⟨by omega, by omega⟩
  | exact ⟨by decide, by decide⟩
  | exact le_line (by omega))
 | fail)
local macro_rules | `(tactic| walk_at "fit") => `(tactic| first
 | (first | exact fit_int | exact fit_bl | exact fit_non | exact fit_nil | assumption)
 | fail)
local macro_rules | `(tactic| walk_at "op") => `(tactic| first
 | (first
  | (refine' op_addI' ?a ?b; (case a => exact rfl); (case b => exact rfl))
  | (refine' op_subI' ?a ?b; (case a => exact rfl); (case b => exact rfl))
  | (refine' op_cmpI' (g := ?g) ?a ?b; (case a => exact rfl); (case b => exact rfl))
  | (refine' op_mulI' ?a ?b ?c; (case a => exact rfl); (case b => exact rfl); (case c => walk_at "side"))
  | (refine' op_rI' ?a ?b ?c; (case a => exact rfl); (case b => exact rfl); (case c => walk_at "side"))
  | (refine' op_ixL ?a ?b ?c; (case a => exact rfl); (case b => exact rfl); (case c => first | rfl | walk_at "side"))
  | (refine' op_ixT ?a ?b ?c; (case a => exact rfl); (case b => exact rfl); (case c => first | rfl | walk_at "side"))
  | (refine' op_ixC ?a ?b ?c; (case a => exact rfl); (case b => exact rfl); (case c => first | rfl | walk_at "side"))
  | (refine' oq_ii ?a ?b; (case a => exact rfl); (case b => exact rfl)) | (refine' oq_ss ?a ?b; (case a => exact rfl); (case b => exact rfl))
  | (refine' on_ii ?a ?b; (case a => exact rfl); (case b => exact rfl)) | (refine' on_ss ?a ?b; (case a => exact rfl); (case b => exact rfl))
  | (refine' oq_d ?a ?b ?c ?d; (case a => exact rfl); (case b => exact rfl); (case c => walk_at "fit"); (case d => walk_at "fit"))
  | (refine' on_d ?a ?b ?c ?d; (case a => exact rfl); (case b => exact rfl); (case c => walk_at "fit"); (case d => walk_at "fit"))
  | (refine' op_in' ?a ?b ?c ?d; (case a => exact rfl); (case b => exact rfl); (case c => walk_at "fit"); (case d => walk_at "fit"))
  | (refine' op_nin' ?a ?b ?c ?d; (case a => exact rfl); (case b => exact rfl); (case c => walk_at "fit"); (case d => walk_at "fit"))
  | (refine' op_plusL ?a ?b ?c; (case a => exact rfl); (case b => exact rfl); (case c => walk_at "side"))
  | (refine' op_plusS ?a ?b ?c; (case a => exact rfl); (case b => exact rfl); (case c => walk_at "side"))
  | (refine' op_timesL ?a ?b ?c; (case a => exact rfl); (case b => exact rfl); (case c => walk_at "side")))
 | fail)
local macro_rules | `(tactic| walk_at "op") => `(tactic| first
 | ((refine' ole_ii ?a ?b; (case a => exact rfl); (case b => exact rfl)))
 | fail)
local macro_rules | `(tactic| walk_at "cb") => `(tactic| first
 | (first
  | (refine' b_lenL ?a; (case a => exact rfl)) | (refine' b_lenT ?a; (case a => exact rfl)) | (refine' b_lenC ?a; (case a => exact rfl)) | (refine' b_lenS ?a ?c; (case a => exact rfl); (case c => walk_at "side"))
  | (refine' b_abs ?a; (case a => exact rfl)) | (refine' b_max2 ?a ?b; (case a => exact rfl); (case b => exact rfl)) | (refine' b_min2 ?a ?b; (case a => exact rfl); (case b => exact rfl)) | (refine' b_sum ?a; (case a => exact rfl))
  | (refine' b_list ?a; (case a => exact rfl)) | (refine' b_listT ?a; (case a => exact rfl)) | (refine' b_tuple ?a; (case a => exact rfl)) | (refine' b_tupleT ?a; (case a => exact rfl)))
 | fail)
local macro_rules | `(tactic| walk_at "cb") => `(tactic| first
 | (first
  | (refine' b_strI ?a ?c; (case a => exact rfl); (case c => walk_at "side"))
  | (refine' b_all ?a; (case a => exact rfl)) | (refine' b_srtU ?a; (case a => exact rfl)) | (refine' b_srtPU ?a; (case a => exact rfl))
  | (refine' b_isi ?a ?b ?c ?d; (case a => exact rfl); (case b => exact rfl); (case c => exact rfl); (case d => exact rfl)))
 | fail)
local macro_rules | `(tactic| walk_at "allda") => `(tactic| first
 | (first | exact AllDa.nil | (refine' AllDa.cons ?a; (case a => walk_at "allda")))
 | fail)
local macro_rules | `(tactic| walk_at "sees") => `(tactic| first
 | (first | exact Sees.nil | (refine' Sees.cons rfl ?a; (case a => walk_at "sees")))
 | fail)
local macro_rules | `(tactic| walk_at "slc") => `(tactic| first
 | (first | (refine' slc_L ?a; (case a => exact rfl)) | (refine' slc_S ?a ?c; (case a => exact rfl); (case c => walk_at "side")) | (refine' slc_T ?a ?c; (case a => exact rfl); (case c => walk_at "side")))
 | fail)
local macro_rules | `(tactic| walk_at "tg") => `(tactic| first
 | (first | exact tg_name | (refine' tg_tup ?a rfl; (case a => walk_at "tgs")))
 | fail)
local macro_rules | `(tactic| walk_at "tgs") => `(tactic| first
 | (first | exact tgs_nil | (refine' tgs_cons ?a ?b; (case a => walk_at "tg"); (case b => walk_at "tgs")))
 | fail)
local macro_rules | `(tactic| walk_at "tgc") => `(tactic| first
 | (first | exact tgc_name (by decide) | (refine' tgc_tup ?a rfl; (case a => walk_at "tgcs")))
 | fail)
local macro_rules | `(tactic| walk_at "tgcs") => `(tactic| first
 | (first | exact tgsc_nil | (refine' tgsc_cons ?a ?b; (case a => walk_at "tgc"); (case b => walk_at "tgcs")))
 | fail)
local macro_rules | `(tactic| walk_at "st") => `(tactic| first
 | (first
  | with_reducible refine' nx_seq ?_
  | with_reducible refine' nx_set ?_
  | with_reducible refine' sk_da ?_
  | with_reducible refine' sk_nw ?_
  | with_reducible refine' wp_int ?_
  | ((with_reducible refine' wp_var ?h ?_); (case h => exact rfl))
  | ((with_reducible refine' wp_varO ?h ?_); (case h => exact rfl))
  | with_reducible refine' wp2 ?_
  | ((with_reducible refine' Exists.intro _ (And.intro (a := Op _ _ _ _ _) ?o ?_)); (case o => walk_at "op"))
  | with_reducible refine' wp_cb ?_
  | ((with_reducible refine' Exists.intro _ (And.intro (a := Cb _ _ _ _) ?o ?_)); (case o => walk_at "cb"))
  | with_reducible refine' wa_cons ?_
  | with_reducible refine' wa_nil ?_
  | with_reducible refine' wp_lst ?_
  | with_reducible refine' wp_tup ?_
  | ((with_reducible refine' Exists.intro _ (And.intro (a := AllDa _ _) ?o (And.intro ?z ?_))); (case o => walk_at "allda"); (case z => walk_at "side"))
  | with_reducible refine' wp_non ?_
  | with_reducible refine' wp_bl ?_
  | with_reducible refine' wp_str ?_
  | with_reducible refine' wp1 ?_
  | ((with_reducible refine' Exists.intro _ (And.intro (a := Un _ _ _ _) ?o ?_)); (case o => exact un_negI rfl))
  | with_reducible refine' wb_test ?_
  | with_reducible refine' wb_B ?_
  | with_reducible refine' wb_tru ?_
  | with_reducible refine' wb_not ?_
  | with_reducible refine' wb_and ?_
  | with_reducible refine' wb_or ?_
  | with_reducible refine' wb_yes ?_
  | with_reducible refine' wp_and ?_
  | with_reducible refine' wp_or ?_
  | with_reducible refine' wp_not ?_
  | with_reducible refine' wp_if ?_
  | with_reducible refine' nx_if ?_
  | with_reducible refine' nx_next ?_
  | with_reducible refine' nx_drop ?_
  | with_reducible refine' nx_ret ?_
  | with_reducible refine' rk_da ?_
  | with_reducible refine' rk_nw ?_
  | ((with_reducible refine' rk_sl ?h ?_); (case h => exact rfl))
  | with_reducible refine' wp_sl ?_
  | ((with_reducible refine' Exists.intro _ (And.intro (a := Slc _ _ _ _ _ _) ?o ?_)); (case o => walk_at "slc"))
  | with_reducible refine' wo_none ?_
  | with_reducible refine' wo_some ?_
  | with_reducible refine' nx_setix ?_
  | ((with_reducible refine' nx_aug ?h ?_); (case h => exact rfl))
  | ((with_reducible refine' Exists.intro _ (And.intro (a := see _ _ = some _) ?e ?_)); (case e => exact rfl))
  | ((with_reducible refine' wp_append ?h ?_); (case h => exact rfl))
  | ((with_reducible refine' Exists.intro _ (Exists.intro _ (And.intro (a := _ = [Rk.da _]) ?p (And.intro ?q (And.intro ?z ?_))))); (case p => exact rfl); (case q => exact rfl); (case z => walk_at "side"))
  | ((with_reducible refine' Exists.intro _ (Exists.intro _ (Exists.intro _ (And.intro (a := soft _ = Rk.da _) ?p (And.intro (a := _ = some (Sl.own _ _)) ?q ?_))))); (case p => exact rfl); (case q => exact rfl))
  | ((with_reducible refine' Exists.intro _ (Exists.intro _ (Exists.intro _ (And.intro (a := see _ _ = some _) ?p (And.intro (a := _ = some (Sl.own _ _)) ?q (And.intro ?z ?_)))))); (case p => exact rfl); (case q => exact rfl); (case z => first | exact rfl | walk_at "side"))
  | with_reducible refine' nx_asg ?_
  | ((with_reducible refine' Exists.intro _ (Exists.intro _ (And.intro (a := soft _ = Rk.da _) ?p (And.intro (a := Tg _ _ _ _) ?q ?_)))); (case p => exact rfl); (case q => walk_at "tg")))
 | fail)
local macro_rules | `(tactic| walk_at "st") => `(tactic| first
 | (first
  | with_reducible refine' wp_tyc ?_
  | with_reducible refine' wp_rev ?_
  | with_reducible refine' wp_join ?_
  | with_reducible refine' wp_joined ?_
  | with_reducible refine' wp_fmtI ?_
  | with_reducible refine' wj_cons ?_
  | with_reducible refine' wj_nil ?_
  | with_reducible refine' nx_par2 (by decide) ?_
  | with_reducible refine' nx_par3 (by decide) (by decide) (by decide) ?_
  | with_reducible refine' wm_cons ?_
  | with_reducible refine' wm_nil ?_
  | ((with_reducible refine' And.intro (a := okW _) ?o ?_); (case o => trivial))
  | ((with_reducible refine' Exists.intro _ (Exists.intro _ (And.intro (a := _ = [_, _]) ?o ?_))); (case o => exact rfl))
  | ((with_reducible refine' Exists.intro _ (Exists.intro _ (Exists.intro _ (And.intro (a := _ = [_, _, _]) ?o ?_)))); (case o => exact rfl))
  | ((with_reducible refine' wp_popAt ?h ?_); (case h => exact rfl)))
 | fail)
local macro_rules | `(tactic| walk_at "go") => `(tactic| repeat walk_at "st")
local macro_rules | `(tactic| walk_at "st") => `(tactic| first
 | (first
  | with_reducible refine' wp_fld ?_
  | with_reducible refine' nx_fld ?_
  | with_reducible refine' nx_asgXs ?_)
 | fail)
local macro_rules | `(tactic| walk_at "fit") => `(tactic| first
 | (first | exact prz_fit _ | exact pr_fit _ | exact inz_fitL _ | exact inz_fitT _)
 | fail)
local macro_rules | `(tactic| walk_at "cb") => `(tactic| first
 | (first
  | (refine' b_lz ?a (.tup _) ?b (.tup _) ?z; (case a => exact rfl); (case b => exact rfl); (case z => walk_at "side"))
  | (refine' b_lz ?a (.lst _) ?b (.lst _) ?z; (case a => exact rfl); (case b => exact rfl); (case z => walk_at "side")))
 | fail)
local macro_rules | `(tactic| walk_at "st") => `(tactic| first
 | (with_reducible refine' nx_no ?_)
 | fail)
local macro_rules | `(tactic| walk_at "st") => `(tactic| first
 | ((with_reducible refine' Exists.intro _ (Exists.intro _ (Exists.intro _ (And.intro (a := see _ _ = some _) ?p (And.intro (a := And (Cls _ _) _) (And.intro ?c ?n) (And.intro (a := List.lookup _ _ = some _) ?l ?_)))))); (case p => exact rfl); (case c => assumption); (case n => assumption); (case l => exact rfl))
 | ((with_reducible refine' Exists.intro _ (Exists.intro _ (Exists.intro _ (Exists.intro _ (And.intro (a := soft _ = Rk.da _) ?p (And.intro (a := _ = some (Sl.own _ _)) ?o (And.intro (a := And (Cls _ _) _) (And.intro ?c ?n) (And.intro ?z ?_)))))))); (case p => exact rfl); (case o => exact rfl); (case c => assumption); (case n => assumption); (case z => walk_at "side"))
 | fail)
local macro_rules | `(tactic| walk_at "ix") => `(tactic| first
 | exact at_ 0 rfl | exact at_ 1 rfl | exact at_ 2 rfl | exact at_ 3 rfl | exact at_ 4 rfl | exact at_ 5 rfl | exact at_ 6 rfl | exact at_ 7 rfl | exact at_ 8 rfl | exact at_ 9 rfl | exact at_ 10 rfl | exact at_ 11 rfl | exact at_ 12 rfl | exact at_ 13 rfl | exact at_ 14 rfl | exact at_ 15 rfl | exact at_ 16 rfl | exact at_ 17 rfl | exact at_ 18 rfl | exact at_ 19 rfl | exact at_ 20 rfl | exact at_ 21 rfl | exact at_ 22 rfl
 | fail)
local macro_rules | `(tactic| walk_at "vis") => `(tactic| first
 | exact Or.inl rfl | exact Or.inr (Or.inl rfl) | exact Or.inr (Or.inr rfl)
 | fail)
local macro_rules | `(tactic| walk_at "loc") => `(tactic| first
 | exact Or.inl rfl | exact Or.inr rfl
 | fail)
local macro_rules | `(tactic| walk_at "mk") => `(tactic| ((case m => assumption); (case h => exact rfl)))
local macro_rules | `(tactic| walk_at "pa") => `(tactic| first
 | ((with_reducible show PA _ [] _); exact pa_nil)
 | (refine' pa_cons ?e ?r; (case e => walk_at "pe"); (case r => walk_at "pa"))
 | fail)
local macro_rules | `(tactic| walk_at "opc") => `(tactic| first
 | ((with_reducible show OpR _ (compareOp .Eq) _); refine' op_eqK ?m ?h ?r; (case m => assumption); (case h => exact rfl); (case r => assumption))
 | ((with_reducible show OpR _ (compareOp .NotEq) _); refine' op_neK ?m ?h ?r; (case m => assumption); (case h => exact rfl); (case r => assumption))
 | exact op_lt
 | ((with_reducible show OpR _ (compareOp .LtE) _); refine' op_leK ?m ?h ?r; (case m => assumption); (case h => exact rfl); (case r => assumption))
 | exact op_gt | exact op_ge
 | fail)
local macro_rules | `(tactic| walk_at "opin") => `(tactic| first
 | ((with_reducible show OpR _ (compareOp .In) _); refine' op_inK ?m ?h ?r; (case m => assumption); (case h => exact rfl); (case r => assumption))
 | ((with_reducible show OpR _ (compareOp .NotIn) _); refine' op_ninK ?m ?h ?r; (case m => assumption); (case h => exact rfl); (case r => assumption))
 | fail)
local macro_rules | `(tactic| walk_at "opb") => `(tactic| first
 | ((with_reducible show OpR _ (binaryOp .Add) _); refine' op_plusK ?m ?h; (case m => assumption); (case h => exact rfl))
 | ((with_reducible show OpR _ (binaryOp .Sub) _); exact op_sub)
 | ((with_reducible show OpR _ (binaryOp .Mult) _); refine' op_timesK ?m ?h; (case m => assumption); (case h => exact rfl))
 | exact op_fdivN | exact op_modN | exact op_pow
 | fail)
local macro_rules | `(tactic| walk_at "po") => `(tactic| first
 | exact po_none | (refine' po_some ?e; (case e => walk_at "pe"))
 | fail)
local macro_rules | `(tactic| walk_at "pgn") => `(tactic| first
 | ((with_reducible show PG _ (.Name _ _) _); refine' pg_name ?n ?a ?b; (case n => assumption); (case a => walk_at "ix"); (case b => walk_at "loc"))
 | fail)
local macro_rules | `(tactic| walk_at "pg") => `(tactic| first
 | walk_at "pgn"
 | ((with_reducible show PG _ (.Tuple _ _ _) _); refine' pg_tupK ?m ?h (by rfl) ?gs; (case m => assumption); (case h => exact rfl); (case gs => walk_at "pgs"))
 | ((with_reducible show PG _ (.Subscript _ _ _) _); refine' pg_sub ?o ?i set_list; (case o => walk_at "pe"); (case i => walk_at "pe"))
 | fail)
local macro_rules | `(tactic| walk_at "pgs") => `(tactic| first
 | exact pgs_nil | (refine' pgs_cons ?g ?gs; (case g => walk_at "pg"); (case gs => walk_at "pgs"))
 | fail)
local macro_rules | `(tactic| walk_at "pi") => `(tactic| first
 | ((with_reducible show PI _ _ (.Call (.Name (Str.ofString "range") _) [_] _ _) _); refine' pi_range1 (by rfl) (by assumption) ?a; (case a => walk_at "pa"))
 | ((with_reducible show PI _ _ (.Call (.Name (Str.ofString "enumerate") _) _ _ _) _); refine' pi_enumAK ?m ?h (by rfl) (by assumption) ?a; (case m => assumption); (case h => exact rfl); (case a => walk_at "pa"))
 | (refine' pi_seqK ?m ?h ?e; (case m => assumption); (case h => exact rfl); (case e => walk_at "pe"))
 | fail)
local macro_rules | `(tactic| walk_at "lc") => `(tactic| first
 | ((with_reducible show PE _ (.ListComp _ [⟨.Name _ _, _, _, _⟩] _ _) _); refine' pe_lc1 ?i ?hg rfl ?n ?ok ?hi ?ht ?he; (case hg => intro _ _ _ _ _; walk_at "pgn"); (case n => assumption); (case ok => first | kernel_rfl | rfl); (case hi => walk_at "pi"); (case ht => intro _ _ _ _ _; walk_at "pts"); (case he => intro _ _ _ _ _; walk_at "pe"))
 | ((with_reducible show PE _ (.ListComp _ [⟨.Tuple [.Name _ _, .Name _ _] _ _, _, _, _⟩] _ _) _); refine' pe_lc2g ?m ?h ?hg rfl ?n ?ok ?hi ?ht ?he; (case m => assumption); (case h => exact rfl); (case hg => intro _ _ _ _ _; walk_at "pg"); (case n => assumption); (case ok => first | kernel_rfl | rfl); (case hi => walk_at "pi"); (case ht => intro _ _ _ _ _; walk_at "pts"); (case he => intro _ _ _ _ _; walk_at "pe"))
 | fail)
local macro_rules | `(tactic| walk_at "pts") => `(tactic| first
 | exact pts_nil | (refine' pts_one ?e; (case e => walk_at "pt"))
 | fail)
local macro_rules | `(tactic| walk_at "pj") => `(tactic| first
 | exact PJ.nil
 | (refine' PJ.cons ?e ?r; (case e => first | exact pe_str | (refine' pe_fmt ?x; (case x => walk_at "pe"))); (case r => walk_at "pj"))
 | fail)
local macro_rules | `(tactic| walk_at "pm") => `(tactic| first
 | ((with_reducible show PE _ (.Call (.Attribute _ (Str.ofString "append") _) _ _ _) _); refine' pe_bmK ?m ?h (pe_bm PySem.F.plainAttrs_list PySem.F.slot_list_append PySem.F.type_list_append mt_append ?o ?a); (case m => assumption); (case h => exact rfl); (case o => walk_at "pe"); (case a => walk_at "pa"))
 | ((with_reducible show PE _ (.Call (.Attribute _ (Str.ofString "extend") _) _ _ _) _); refine' pe_bmK ?m ?h (pe_bm PySem.F.plainAttrs_list PySem.F.slot_list_extend PySem.F.type_list_extend mt_extend ?o ?a); (case m => assumption); (case h => exact rfl); (case o => walk_at "pe"); (case a => walk_at "pa"))
 | ((with_reducible show PE _ (.Call (.Attribute _ (Str.ofString "pop") _) [] _ _) _); refine' pe_bm0K ?m ?h (pe_bm0 PySem.F.plainAttrs_list PySem.F.slot_list_pop PySem.F.type_list_pop mt_pop ?o); (case m => assumption); (case h => exact rfl); (case o => walk_at "pe"))
 | ((with_reducible show PE _ (.Call (.Attribute _ (Str.ofString "pop") _) [_] _ _) _); refine' pe_bmK ?m ?h (pe_bm PySem.F.plainAttrs_list PySem.F.slot_list_pop PySem.F.type_list_pop mt_popAt ?o ?a); (case m => assumption); (case h => exact rfl); (case o => walk_at "pe"); (case a => walk_at "pa"))
 | ((with_reducible show PE _ (.Call (.Attribute _ (Str.ofString "clear") _) _ _ _) _); refine' pe_bm0K ?m ?h (pe_bm0 PySem.F.plainAttrs_list PySem.F.slot_list_clear PySem.F.type_list_clear mt_clear ?o); (case m => assumption); (case h => exact rfl); (case o => walk_at "pe"))
 | ((with_reducible show PE _ (.Call (.Attribute _ (Str.ofString "join") _) _ _ _) _); refine' pe_joinK ?m ?h ?o ?a; (case m => assumption); (case h => exact rfl); (case o => walk_at "pe"); (case a => walk_at "pe"))
 | fail)
local macro_rules | `(tactic| walk_at "pcall") => `(tactic| first
 | ((with_reducible show PE _ (.Call (.Name (Str.ofString "len") _) _ _ _) _); refine' pe_callB (cb_lenK ?m ?h) (by rfl) (by assumption) PySem.boot_len ?a; (case m => assumption); (case h => exact rfl); (case a => walk_at "pa"))
 | ((with_reducible show PE _ (.Call (.Name (Str.ofString "abs") _) _ _ _) _); refine' pe_callB cb_abs (by rfl) (by assumption) boot_abs ?a; (case a => walk_at "pa"))
 | ((with_reducible show PE _ (.Call (.Name (Str.ofString "max") _) [_, _] _ _) _); refine' pe_callB (cb_max2 rfl) (by rfl) (by assumption) boot_max ?a; (case a => walk_at "pa"))
 | ((with_reducible show PE _ (.Call (.Name (Str.ofString "min") _) [_, _] _ _) _); refine' pe_callB (cb_min2 rfl) (by rfl) (by assumption) boot_min ?a; (case a => walk_at "pa"))
 | ((with_reducible show PE _ (.Call (.Name (Str.ofString "sum") _) _ _ _) _); refine' pe_callB (cr_sumK ?m ?h rfl) (by rfl) (by assumption) boot_sum ?a; (case m => assumption); (case h => exact rfl); (case a => walk_at "pa"))
 | ((with_reducible show PE _ (.Call (.Name (Str.ofString "all") _) _ _ _) _); refine' pe_callB (cr_allK ?m ?h rfl) (by rfl) (by assumption) boot_all ?a; (case m => assumption); (case h => exact rfl); (case a => walk_at "pa"))
 | ((with_reducible show PE _ (.Call (.Name (Str.ofString "sorted") _) _ _ _) _); refine' pe_callB (cr_sortK ?m ?h) (by rfl) (by assumption) boot_sorted ?a; (case m => assumption); (case h => exact rfl); (case a => walk_at "pa"))
 | ((with_reducible show PE _ (.Call (.Name (Str.ofString "isinstance") _) _ _ _) _); refine' pe_callB (call_isiK' ?m ?h) (by rfl) (by assumption) boot_isinstance ?a; (case m => assumption); (case h => exact rfl); (case a => walk_at "pa"))
 | ((with_reducible show PE _ (.Call (.Name (Str.ofString "list") _) [.Call (.Name (Str.ofString "zip") _) _ _ _] _ _) _); refine' pe_listzipK ?m ?h rfl (by rfl) (by assumption) (by rfl) (by assumption) ?a; (case m => assumption); (case h => exact rfl); (case a => walk_at "pa"))
 | ((with_reducible show PE _ (.Call (.Name (Str.ofString "list") _) _ _ _) _); refine' pe_callTy (cb_listK ?m ?h) (by rfl) (by assumption) boot_list ?a; (case m => assumption); (case h => exact rfl); (case a => walk_at "pa"))
 | ((with_reducible show PE _ (.Call (.Name (Str.ofString "tuple") _) _ _ _) _); refine' pe_callTy (cb_tupK ?m ?h) (by rfl) (by assumption) boot_tuple ?a; (case m => assumption); (case h => exact rfl); (case a => walk_at "pa"))
 | ((with_reducible show PE _ (.Call (.Name (Str.ofString "str") _) _ _ _) _); first
   | (refine' pe_callTy (call_strO ?o ?r ?k) (by rfl) (by assumption) boot_str ?a; (case o => assumption); (case r => assumption); (case k => decide); (case a => walk_at "pa"))
   | (refine' pe_callTy cb_strI (by rfl) (by assumption) boot_str ?a; (case a => walk_at "pa"))
   | fail)
 | ((with_reducible show PE _ (.Call (.Name (Str.ofString "repr") _) _ _ _) _); refine' pe_callB (call_reprK ?m ?h ?g ?r) (by rfl) (by assumption) boot_repr ?a; (case m => assumption); (case h => exact rfl); (case g => assumption); (case r => assumption); (case a => walk_at "pa"))
 | (refine' pe_cal ?c ?r ?k (by rfl) ?a; (case c => assumption); (case r => assumption); (case k => decide); (case a => walk_at "pa"))
 | (refine' pe_cal0 ?c ?r ?k (by rfl); (case c => assumption); (case r => assumption); (case k => decide))
 | (refine' pe_mkb ?c ?r ?k (by rfl) ?a; (case c => assumption); (case r => assumption); (case k => decide); (case a => walk_at "pa"))
 | (refine' pe_calG ?c ?g ?r ?k (by rfl) ?a; (case c => assumption); (case g => assumption); (case r => assumption); (case k => decide); (case a => walk_at "pa"))
 | fail)
local macro_rules | `(tactic| walk_at "pe") => `(tactic| first
 | ((with_reducible show PE _ (.Name _ _) _); first
   | (refine' pe_var ?a ?b; (case a => walk_at "ix"); (case b => walk_at "vis"))
   | exact pe_bltn (v := .ty "int") (by rfl) (by assumption) boot_int rfl | exact pe_bltn (v := .ty "list") (by rfl) (by assumption) boot_list rfl
   | exact pe_bltn (v := .ty "tuple") (by rfl) (by assumption) boot_tuple rfl | exact pe_bltn (v := .ty "bool") (by rfl) (by assumption) boot_bool rfl
   | fail)
 | ((with_reducible show PE _ (.Constant _ _ _) _); first | exact pe_int | exact pe_bl | exact pe_non | exact pe_str | fail)
 | ((with_reducible show PE _ (.BinOp _ _ _ _) _); refine' pe_op (by walk_at "opb") ?a ?b; (case a => walk_at "pe"); (case b => walk_at "pe"))
 | ((with_reducible show PE _ (.UnaryOp .USub _ _) _); refine' pe_un un_neg ?a; (case a => walk_at "pe"))
 | ((with_reducible show PE _ (.UnaryOp _ _ _) _); refine' pe_not ?a; (case a => walk_at "pe"))
 | ((with_reducible show PE _ (.Compare _ _ _ _) _); first
   | (refine' pe_cmpR (by walk_at "opc") ?a ?b (nomark _); (case a => walk_at "pe"); (case b => walk_at "pe"))
   | (refine' pe_cmpR (by walk_at "opin") ?a ?b (by rfl); (case a => walk_at "pe"); (case b => walk_at "pe"))
   | fail)
 | ((with_reducible show PE _ (.BoolOp _ _ _) _); first
   | (refine' pe_and ?a ?b; (case a => walk_at "pe"); (case b => walk_at "pe"))
   | (refine' pe_or ?a ?b; (case a => walk_at "pe"); (case b => walk_at "pe"))
   | (refine' pe_one ?a; (case a => walk_at "pe"))
   | fail)
 | ((with_reducible show PE _ (.IfExp _ _ _ _) _); refine' pe_ifExp ?c ?a ?b; (case c => walk_at "pt"); (case a => walk_at "pe"); (case b => walk_at "pe"))
 | ((with_reducible show PE _ (.Tuple _ _ _) _); refine' pe_tup ?a; (case a => walk_at "pa"))
 | ((with_reducible show PE _ (.List _ _) _); refine' pe_lst ?a; (case a => walk_at "pa"))
 | ((with_reducible show PE _ (.Subscript _ (.Slice _ _ _ _) _) _); first
   | (refine' pe_revK ?m ?h ?e; (case m => assumption); (case h => exact rfl); (case e => walk_at "pe"))
   | (refine' pe_slice (sl_anyK ?m ?h) ?e ?a ?b; (case m => assumption); (case h => exact rfl); (case e => walk_at "pe"); (case a => walk_at "po"); (case b => walk_at "po"))
   | fail)
 | ((with_reducible show PE _ (.Subscript _ _ _) _); refine' pe_ix (ix_seqK ?m ?h) ?a ?b (fun _ _ => rfl); (case m => assumption); (case h => exact rfl); (case a => walk_at "pe"); (case b => walk_at "pe"))
 | ((with_reducible show PE _ (.Attribute _ _ _) _); refine' pe_fldK ?m ?h ?e; (case m => assumption); (case h => exact rfl); (case e => walk_at "pe"))
 | ((with_reducible show PE _ (.Call (.Name _ _) _ _ _) _); walk_at "pcall")
 | ((with_reducible show PE _ (.Call (.Attribute _ _ _) _ _ _) _); walk_at "pm")
 | ((with_reducible show PE _ (.ListComp _ _ _ _) _); walk_at "lc")
 | ((with_reducible show PE _ (.JoinedStr _ _) _); refine' pe_fs ?j; (case j => walk_at "pj"))
 | fail)
local macro_rules | `(tactic| walk_at "pw") => `(tactic| first
 | (refine' pw_and ?a ?b; (case a => walk_at "pt"); (case b => walk_at "pw")) | (refine' pw_and1 ?a; (case a => walk_at "pt"))
 | (refine' pw_or ?a ?b; (case a => walk_at "pt"); (case b => walk_at "pw")) | (refine' pw_or1 ?a; (case a => walk_at "pt"))
 | fail)
local macro_rules | `(tactic| walk_at "pt") => `(tactic| first
 | ((with_reducible show PT _ (.Compare _ _ _ _) _); first
   | (refine' pt_cmpR (by walk_at "opc") ?a ?b (nomark _); (case a => walk_at "pe"); (case b => walk_at "pe"))
   | (refine' pt_cmpR (by walk_at "opin") ?a ?b (by rfl); (case a => walk_at "pe"); (case b => walk_at "pe"))
   | fail)
 | ((with_reducible show PT _ (.BoolOp _ _ _) _); refine' PW.pt ?w; (case w => walk_at "pw"))
 | ((with_reducible show PT _ (.UnaryOp .Not _ _) _); refine' pt_not ?a; (case a => walk_at "pt"))
 | (refine' pt_truK ?m ?h ?a (by intro _; rfl); (case m => assumption); (case h => exact rfl); (case a => walk_at "pe"))
 | fail)
local macro_rules | `(tactic| walk_at "pss") => `(tactic| first
 | exact pss_nil
 | (refine' pss_one ?s; (case s => walk_at "ps"))
 | (refine' pss_cons ?s ?r; (case s => walk_at "ps"); (case r => walk_at "pss"))
 | fail)
local macro_rules | `(tactic| walk_at "ps") => `(tactic| first
 | ((with_reducible show PS _ (.Return none _) _); exact ps_retN)
 | ((with_reducible show PS _ (.Return _ _) _); refine' ps_ret ?e; (case e => walk_at "pe"))
 | ((with_reducible show PS _ (.Assign [.Name _ _] (.ListComp _ [⟨.Name _ _, _, _, _⟩] _ _) _) _); refine' ps_setLc1 ?i ?hg rfl ?n ?a rfl rfl rfl ?w ?ok ?hi ?ht ?he; (case a => walk_at "ix"); (case hg => intro _ _ _ _ _; walk_at "pgn"); (case n => assumption); (case w => rfl); (case ok => first | kernel_rfl | rfl); (case hi => walk_at "pi"); (case ht => intro _ _ _ _ _; walk_at "pts"); (case he => intro _ _ _ _ _; walk_at "pe"))
 | ((with_reducible show PS _ (.Assign [.Name _ _] (.ListComp _ [⟨.Tuple [.Name _ _, .Name _ _] _ _, _, _, _⟩] _ _) _) _); refine' ps_setLc2g ?m ?h ?hg rfl ?n ?a rfl rfl rfl ?w ?ok ?hi ?ht ?he; (case m => assumption); (case h => exact rfl); (case a => walk_at "ix"); (case hg => intro _ _ _ _ _; walk_at "pg"); (case n => assumption); (case w => rfl); (case ok => first | kernel_rfl | rfl); (case hi => walk_at "pi"); (case ht => intro _ _ _ _ _; walk_at "pts"); (case he => intro _ _ _ _ _; walk_at "pe"))
 | ((with_reducible show PS _ (.Assign [.Name _ _] _ _) _); refine' ps_set ?n ?a ?b ?e; (case n => assumption); (case a => walk_at "ix"); (case b => walk_at "loc"); (case e => walk_at "pe"))
 | ((with_reducible show PS _ (.Assign [.Attribute _ _ _] _ _) _); refine' ps_fldK ?m ?h ?o ?e; (case m => assumption); (case h => exact rfl); (case o => walk_at "pe"); (case e => walk_at "pe"))
 | ((with_reducible show PS _ (.Assign [.Subscript _ _ _] _ _) _); refine' ps_asg ?e (pg_sub ?o ?i set_list); (case o => walk_at "pe"); (case i => walk_at "pe"); (case e => walk_at "pe"))
 | ((with_reducible show PS _ (.Assign [.Tuple _ _ _] (.Tuple _ _ _) _) _); first
   | (refine' ps_par rfl ?n ?a ?b ?p rfl rfl ?e ?w; (case n => assumption); (case a => walk_at "ix"); (case b => walk_at "ix"); (case p => decide); (case w => rfl); (case e => walk_at "pa"))
   | (refine' ps_par3 rfl ?n ?a ?b ?c ?p ?q ?r rfl rfl rfl ?e ?w; (case n => assumption); (case a => walk_at "ix"); (case b => walk_at "ix"); (case c => walk_at "ix"); (case p => decide); (case q => decide); (case r => decide); (case w => rfl); (case e => walk_at "pa"))
   | (refine' ps_asg ?e ?g; (case g => walk_at "pg"); (case e => walk_at "pe"))
   | fail)
 | ((with_reducible show PS _ (.Assign _ _ _) _); refine' ps_asg ?e ?g; (case g => walk_at "pg"); (case e => walk_at "pe"))
 | ((with_reducible show PS _ (.AugAssign _ _ _ _) _); first
   | (refine' ps_aug ?n ?a ?b ?e ip_add; (case n => assumption); (case a => walk_at "ix"); (case b => walk_at "loc"); (case e => walk_at "pe"))
   | (refine' ps_aug ?n ?a ?b ?e ip_sub; (case n => assumption); (case a => walk_at "ix"); (case b => walk_at "loc"); (case e => walk_at "pe"))
   | fail)
 | ((with_reducible show PS _ (.Expr _ _) _); refine' ps_expr ?e; (case e => walk_at "pe"))
 | ((with_reducible show PS _ (.If _ _ _ _) _); refine' ps_if ?c ?a ?b; (case c => walk_at "pt"); (case a => walk_at "pss"); (case b => walk_at "pss"))
 | ((with_reducible show PS _ (.For _ _ _ _ _) _); refine' ps_for PassesOwn.never rfl ?i ?g ?b; (case i => walk_at "pi"); (case g => walk_at "pg"); (case b => walk_at "pss"))
 | ((with_reducible show PS _ (.While _ _ _ _) _); refine' ps_while PassesOwn.never ?c ?b; (case c => walk_at "pt"); (case b => walk_at "pss"))
 | exact ps_pass | exact ps_break | exact ps_continue
 | fail)
local macro_rules | `(tactic| walk_at "pm") => `(tactic| first
 | ((with_reducible show PE _ (.Call (.Attribute _ (Str.ofString "remove") _) _ _ _) _); refine' pe_bmK ?m ?h (pe_bm PySem.F.plainAttrs_list PySem.F.slot_list_remove PySem.F.type_list_remove mt_remove ?o ?a); (case m => assumption); (case h => exact rfl); (case o => walk_at "pe"); (case a => walk_at "pa"))
 | ((with_reducible show PE _ (.Call (.Attribute _ _ _) [] [] _) _); refine' pe_met0 ?c ?r ?k ?o; (case c => assumption); (case r => assumption); (case k => decide); (case o => walk_at "pe"))
 | ((with_reducible show PE _ (.Call (.Attribute _ _ _) [_] [_] _) _); refine' pe_metK ?c ?r ?k ?o ?a ?z; (case c => assumption); (case r => assumption); (case k => decide); (case o => walk_at "pe"); (case a => walk_at "pe"); (case z => walk_at "pe"))
 | ((with_reducible show PE _ (.Call (.Attribute _ _ _) [_] [] _) _); refine' pe_metD ?c ?r ?k ?o ?a; (case c => assumption); (case r => assumption); (case k => decide); (case o => walk_at "pe"); (case a => walk_at "pe"))
 | ((with_reducible show PE _ (.Call (.Attribute _ _ _) (_ :: _) [] _) _); refine' pe_met ?c ?r ?k ?o ?a; (case c => assumption); (case r => assumption); (case k => decide); (case o => walk_at "pe"); (case a => walk_at "pa"))
 | fail)
local macro_rules | `(tactic| walk_at "pcall") => `(tactic| first
 | ((with_reducible show PE _ (.Call (.Name (Str.ofString "max") _) [_] [] _) _); refine' pe_callB (cr_maxK ?m ?h rfl) (by rfl) (by assumption) boot_max ?a; (case m => assumption); (case h => exact rfl); (case a => walk_at "pa"))
 | ((with_reducible show PE _ (.Call (.Name (Str.ofString "min") _) [_] [] _) _); refine' pe_callB (cr_minK ?m ?h rfl) (by rfl) (by assumption) boot_min ?a; (case m => assumption); (case h => exact rfl); (case a => walk_at "pa"))
 | ((with_reducible show PE _ (.Call (.Name (Str.ofString "sorted") _) _ [_] _) _); refine' pe_callBK (cr_sortedRevK ?m ?h) (by rfl) (by assumption) boot_sorted ?a (pk_cons pe_bl pk_nil); (case m => assumption); (case h => exact rfl); (case a => walk_at "pa"))
 | fail)
local macro_rules | `(tactic| walk_at "st") => `(tactic| first
 | (with_reducible refine' wp_ins ?_)
 | ((with_reducible refine' And.intro (a := List.lookup _ _ = none) ?o ?_); (case o => exact rfl))
 | (with_reducible refine' wp_sortR ?_)
 | ((with_reducible refine' wp_remove ?h ?_); (case h => exact rfl))
 | ((with_reducible refine' wp_extendT ?h ?_); (case h => exact rfl))
 | fail)
local macro_rules | `(tactic| walk_at "fit") => `(tactic| first
 | exact LL_fit _ _
 | fail)
local macro_rules | `(tactic| walk_at "ps") => `(tactic| first
 | ((with_reducible show PS _ (.AugAssign (.Subscript _ _ _) .Add _ _) _); refine' ps_augI ?o ?i ?e ip_add; (case o => walk_at "pe"); (case i => walk_at "pe"); (case e => walk_at "pe"))
 | ((with_reducible show PS _ (.AugAssign (.Subscript _ _ _) .Sub _ _) _); refine' ps_augI ?o ?i ?e ip_sub; (case o => walk_at "pe"); (case i => walk_at "pe"); (case e => walk_at "pe"))
 | fail)
local macro_rules | `(tactic| walk_at "ps") => `(tactic| first
 | ((with_reducible show PS _ (.Raise _ _ _) _); refine' ps_raiseI rfl (takes_of rfl rfl rfl rfl) ?c ?r ?k (by rfl) ?e; (case c => assumption); (case r => assumption); (case k => decide); (case e => walk_at "pe"))
 | ((with_reducible show PS _ (.For _ _ _ _ _) _); refine' ps_for (passes_of rfl) rfl ?i ?g ?b; (case i => walk_at "pi"); (case g => walk_at "pg"); (case b => walk_at "pss"))
 | ((with_reducible show PS _ (.While _ _ _ _) _); refine' ps_while (passes_of rfl) ?c ?b; (case c => walk_at "pt"); (case b => walk_at "pss"))
 | fail)
local macro_rules | `(tactic| walk_at "st") => `(tactic| first
 | (with_reducible refine' nx_augI ?_ ⟨_, _, rfl⟩)
 | fail)
local macro_rules | `(tactic| walk_at "pcall") => `(tactic| first
 | (refine' pe_calX ?c ?r ?k (by rfl) (takes_of rfl rfl rfl rfl) (fun _ _ _ _ h => h) ?a; (case c => assumption); (case r => assumption); (case k => decide); (case a => walk_at "pa"))
 | fail)
local macro_rules | `(tactic| walk_at "pcall") => `(tactic| first
 | ((with_reducible show PE _ (.Call (.Name (Str.ofString "sum") _) _ _ _) _); refine' pe_callB (cr_sumUK ?m ?h rfl) (by rfl) (by assumption) boot_sum ?a; (case m => assumption); (case h => exact rfl); (case a => walk_at "pa"))
 | ((with_reducible show PE _ (.Call (.Name (Str.ofString "list") _) [.Call (.Name (Str.ofString "range") _) [_] _ _] _ _) _); refine' pe_listRg rfl (by rfl) (by assumption) (prg_1 (by rfl) (by assumption) ?a); (case a => walk_at "pe"))
 | fail)
local macro_rules | `(tactic| walk_at "pe") => `(tactic| first
 | ((with_reducible show PE _ (.Subscript _ (.Slice _ _ none _) _) _); refine' pe_slice (sl_anyVK ?m ?h) ?e ?a ?b; (case m => assumption); (case h => exact rfl); (case e => walk_at "pe"); (case a => walk_at "po"); (case b => walk_at "po"))
 | fail)
local macro_rules | `(tactic| walk_at "cb") => `(tactic| first
 | (refine' b_sumL ?a; (case a => exact rfl)) | (refine' b_sumT ?a; (case a => exact rfl))
 | fail)
local macro_rules | `(tactic| walk_at "slcV") => `(tactic| first
 | (first | (refine' slv_L ?a; (case a => exact rfl)) | (refine' slv_T ?a; (case a => exact rfl)) | (refine' slv_S ?a ?c; (case a => exact rfl); (case c => walk_at "side")))
 | fail)
local macro_rules | `(tactic| walk_at "st") => `(tactic| first
 | (with_reducible refine' wp_slV ?_)
 | (with_reducible refine' wp_lrg ?_)
 | ((with_reducible refine' Exists.intro _ (And.intro (a := SlcV _ _ _ _ _ _) ?o ?_)); (case o => walk_at "slcV"))
 | fail)
local macro_rules | `(tactic| walk_at "opin") => `(tactic| first
 | ((with_reducible show OpR _ (compareOp .In) _); refine' op_inUK ?m ?h ?r; (case m => assumption); (case h => exact rfl); (case r => assumption))
 | fail)
local macro_rules | `(tactic| walk_at "op") => `(tactic| first
 | (refine' op_inz ?a ?b ?c; (case a => exact rfl); (case b => exact rfl); (case c => first | assumption | exact .lst _ | exact .tup _))
 | (refine' op_in'' ?a ?b ?c ?d; (case a => exact rfl); (case b => exact rfl); (case c => walk_at "fit"); (case d => walk_at "fit"))
 | fail)
local macro_rules | `(tactic| walk_at "pi") => `(tactic| first
 | ((with_reducible show PI _ _ (.Call (.Name (Str.ofString "range") _) [_, _] _ _) _); refine' pi_range2 (by rfl) (by assumption) ?a; (case a => walk_at "pa"))
 | fail)
local macro_rules | `(tactic| walk_at "pcall") => `(tactic| first
 | ((with_reducible show PE _ (.Call (.Name (Str.ofString "sorted") _) [_] [] _) _); refine' pe_callB (cr_sortVK ?m ?h) (by rfl) (by assumption) boot_sorted ?a; (case m => assumption); (case h => exact rfl); (case a => walk_at "pa"))
 | ((with_reducible show PE _ (.Call (.Name _ _) _ [_] _) _); refine' pe_mkK ?c ?r ?k (by rfl) ?a ?z; (case c => assumption); (case r => assumption); (case k => decide); (case a => walk_at "pa"); (case z => walk_at "pe"))
 | (refine' pe_mkD ?c ?r ?k (by rfl) ?a; (case c => assumption); (case r => assumption); (case k => decide); (case a => walk_at "pa"))
 | fail)
local macro_rules | `(tactic| walk_at "pe") => `(tactic| first
 | ((with_reducible show PE _ (.Attribute _ _ _) _); refine' pe_prob ?c ?r ?k ?e; (case c => assumption); (case r => assumption); (case k => decide); (case e => walk_at "pe"))
 | fail)
local macro_rules | `(tactic| walk_at "ps") => `(tactic| first
 | ((with_reducible show PS _ (.AugAssign (.Attribute _ _ _) .Add _ _) _); refine' ps_fldaugK ?m ?h ?o ?e; (case m => assumption); (case h => exact rfl); (case o => walk_at "pe"); (case e => walk_at "pe"))
 | fail)
local macro_rules | `(tactic| walk_at "cb") => `(tactic| first
 | (refine' b_srtV ?a; (case a => exact rfl)) | (refine' b_srtVP ?a; (case a => exact rfl)) | (refine' b_srtT ?a; (case a => exact rfl))
 | fail)
local macro_rules | `(tactic| walk_at "pcall") => `(tactic| first
 | ((with_reducible show PE _ (.Call (.Name (Str.ofString "tuple") _) [.Call (.Name (Str.ofString "range") _) [_, _] _ _] _ _) _); refine' pe_tupRg rfl (by rfl) (by assumption) (prg_2 (by rfl) (by assumption) ?a ?b); (case a => walk_at "pe"); (case b => walk_at "pe"))
 | fail)
local macro_rules | `(tactic| walk_at "st") => `(tactic| first
 | (with_reducible refine' wp_trg2 ?_)
 | fail)
local macro_rules | `(tactic| walk_at "opc") => `(tactic| first
 | ((with_reducible show OpR _ (compareOp .Is) _); exact op_isN')
 | fail)
local macro_rules | `(tactic| walk_at "op") => `(tactic| first
 | (refine' op_isn ?a ?b; (case a => exact rfl); (case b => exact rfl))
 | fail)
local macro_rules | `(tactic| walk_at "pcall") => `(tactic| first
 | ((with_reducible show PE _ (.Call (.Name (Str.ofString "sorted") _) _ [_] _) _); refine' pe_callBK (cr_sortRVK ?m ?h) (by rfl) (by assumption) boot_sorted ?a (pk_cons pe_bl pk_nil); (case m => assumption); (case h => exact rfl); (case a => walk_at "pa"))
 | fail)
local macro_rules | `(tactic| walk_at "st") => `(tactic| first
 | (with_reducible refine' wp_sortRV ?_)
 | fail)
local macro_rules | `(tactic| walk_at "opc") => `(tactic| first
 | ((with_reducible show OpR _ (compareOp .IsNot) _); exact op_isNN')
 | fail)
local macro_rules | `(tactic| walk_at "op") => `(tactic| first
 | (refine' op_isnn ?a ?b; (case a => exact rfl); (case b => exact rfl))
 | fail)
local macro_rules | `(tactic| walk_at "pi") => `(tactic| first
 | ((with_reducible show PI _ _ (.Call (.Name (Str.ofString "zip") _) _ _ _) _); refine' pi_zipAK ?m ?h (by rfl) (by assumption) ?a; (case m => assumption); (case h => exact rfl); (case a => walk_at "pa"))
 | fail)
local macro_rules | `(tactic| walk_at "ps") => `(tactic| first
 | ((with_reducible show PS _ (.Raise _ _ _) _); refine' ps_raiseL rfl (takes_of rfl rfl rfl rfl) ?c ?r ?k (by rfl) ?e; (case c => assumption); (case r => assumption); (case k => decide); (case e => walk_at "pe"))
 | fail)
local macro_rules | `(tactic| walk_at "pcall") => `(tactic| first
 | ((with_reducible show PE _ (.Call (.Name (Str.ofString "len") _) [.Call (.Name (Str.ofString "set") _) [_] [] _] [] _) _); refine' pe_lenSetK ?m ?h (by rfl) (by assumption) (by rfl) (by assumption) rfl ?a; (case m => assumption); (case h => exact rfl); (case a => walk_at "pe"))
 | fail)
local macro_rules | `(tactic| walk_at "st") => `(tactic| first
 | (with_reducible refine' wp_lenSet ?_)
 | (with_reducible refine' wp_xfO ?_)
 | (with_reducible refine' wp_isO ?_)
 | fail)
local macro_rules | `(tactic| walk_at "opin") => `(tactic| first
 | ((with_reducible show OpR _ (compareOp .NotIn) _); refine' op_ninUK ?m ?h ?r; (case m => assumption); (case h => exact rfl); (case r => assumption))
 | fail)
local macro_rules | `(tactic| walk_at "op") => `(tactic| first
 | (refine' op_ninz ?a ?b ?c; (case a => exact rfl); (case b => exact rfl); (case c => first | assumption | exact .lst _ | exact .tup _))
 | (refine' op_nin'' ?a ?b ?c ?d; (case a => exact rfl); (case b => exact rfl); (case c => walk_at "fit"); (case d => walk_at "fit"))
 | fail)
local macro_rules | `(tactic| walk_at "pe") => `(tactic| first
 | ((with_reducible show PE _ (.Dict [] [] _) _); refine' pe_newDK ?m ?h ?h2; (case m => assumption); (case h => exact rfl); (case h2 => exact rfl))
 | ((with_reducible show PE _ (.Dict [some _] [_] _) _); refine' pe_dsp1K ?m ?m2 ?h ?h2 ?h3 ?r ?a ?b; (case m => assumption); (case m2 => assumption); (case h => exact rfl); (case h2 => exact rfl); (case h3 => exact rfl); (case r => assumption); (case a => walk_at "pe"); (case b => walk_at "pe"))
 | fail)
local macro_rules | `(tactic| walk_at "st") => `(tactic| first
 | with_reducible refine' nx_newD ?_
 | with_reducible refine' nx_par3D (by decide) (by decide) (by decide) ?_
 | with_reducible refine' nx_putD ?_
 | ((with_reducible refine' Exists.intro _ (Exists.intro _ (Exists.intro _ (And.intro (a := soft _ = Rk.da _) ?p (And.intro (a := _ = some (Sl.own _ _)) ?q ?_))))); (case p => exact rfl); (case q => exact rfl))
 | fail)
local macro_rules | `(tactic| walk_at "pcall") => `(tactic| first
 | ((with_reducible show PE _ (.Call (.Name (Str.ofString "sorted") _) [.SetComp _ [⟨.Name _ _, _, _, _⟩] _ _] _ _) _); refine' pe_sset ?m ?w ?i ?hg rfl ?n (by rfl) (by assumption) ?ok ?hi ?ht ?he; (case m => assumption); (case w => exact rfl); (case hg => intro _ _ _ _ _; walk_at "pgn"); (case n => assumption); (case ok => first | kernel_rfl | rfl); (case hi => walk_at "pi"); (case ht => intro _ _ _ _ _; walk_at "pts"); (case he => intro _ _ _ _ _; walk_at "pe"))
 | fail)
local macro_rules | `(tactic| walk_at "st") => `(tactic| first
 | (with_reducible refine' wp_sortSet ?_)
 | fail)
local macro_rules | `(tactic| walk_at "pcall") => `(tactic| first
 | ((with_reducible show PE _ (.Call (.Name (Str.ofString "list") _) [.Call (.Name (Str.ofString "range") _) [_, _] _ _] _ _) _); refine' pe_listRg rfl (by rfl) (by assumption) (prg_2 (by rfl) (by assumption) ?a ?b); (case a => walk_at "pe"); (case b => walk_at "pe"))
 | fail)
local macro_rules | `(tactic| walk_at "st") => `(tactic| first
 | (with_reducible refine' wp_lrg2 ?_)
 | fail)
local macro_rules | `(tactic| walk_at "pcall") => `(tactic| first
 | ((with_reducible show PE _ (.Call (.Name (Str.ofString "sorted") _) [.Call (.Name (Str.ofString "set") _) [_] [] _] [] _) _); refine' pe_callB (cr_sortedSetK ?m2 ?h2 rfl) (by rfl) (by assumption) boot_sorted (pa_cons ?a pa_nil); (case m2 => assumption); (case h2 => exact rfl); (case a => refine' pe_callTy (cr_setLK ?m ?m2 ?h1 ?h2 rfl) (by rfl) (by assumption) boot_set (pa_cons ?b pa_nil); (case m => assumption); (case m2 => assumption); (case h1 => exact rfl); (case h2 => exact rfl); (case b => walk_at "pe")))
 | fail)
local macro_rules | `(tactic| walk_at "st") => `(tactic| first
 | (with_reducible refine' wp_sortSetL ?_)
 | fail)
local macro_rules | `(tactic| walk_at "pt") => `(tactic| first
 | ((with_reducible show PT _ (.Compare _ [.LtE, .LtE] [_, _] _) _); refine' pt_le2 ?a ?b ?c; (case a => walk_at "pe"); (case b => walk_at "pe"); (case c => walk_at "pe"))
 | ((with_reducible show PT _ (.Compare _ [.LtE, .LtE, .LtE] [_, _, _] _) _); refine' pt_le3 ?a ?b ?c ?d; (case a => walk_at "pe"); (case b => walk_at "pe"); (case c => walk_at "pe"); (case d => walk_at "pe"))
 | fail)
local macro_rules | `(tactic| walk_at "st") => `(tactic| first
 | (with_reducible refine' wb_le2 ?_)
 | (with_reducible refine' wb_le3 ?_)
 | fail)
local macro_rules | `(tactic| walk_at "pcall") => `(tactic| first
 | (refine' pe_mk0 ?c ?r ?k (by rfl); (case c => assumption); (case r => assumption); (case k => decide))
 | fail)
local macro_rules | `(tactic| walk_at "pcall") => `(tactic| first
 | (refine' pe_mkx ?c ?r ?k (by rfl) (takes_of rfl rfl rfl rfl) (fun _ _ _ _ h => h) ?a; (case c => assumption); (case r => assumption); (case k => decide); (case a => walk_at "pa"))
 | fail)
local macro_rules | `(tactic| walk_at "pm") => `(tactic| first
 | ((with_reducible show PE _ (.Call (.Attribute _ (Str.ofString "split") _) _ _ _) _); refine' pe_splitD ?o ?a; (case o => walk_at "pe"); (case a => walk_at "pe"))
 | ((with_reducible show PE _ (.Call (.Attribute _ (Str.ofString "startswith") _) _ _ _) _); refine' pe_startswithD ?o ?a; (case o => walk_at "pe"); (case a => walk_at "pe"))
 | ((with_reducible show PE _ (.Call (.Attribute _ (Str.ofString "isdigit") _) _ _ _) _); refine' pe_isdigitD ?o; (case o => walk_at "pe"))
 | ((with_reducible show PE _ (.Call (.Attribute _ (Str.ofString "isascii") _) _ _ _) _); refine' pe_isasciiD ?o; (case o => walk_at "pe"))
 | fail)
local macro_rules | `(tactic| walk_at "st") => `(tactic| first
 | with_reducible refine' wp_split ?_
 | with_reducible refine' wp_m0B ?_
 | with_reducible refine' wp_m1B ?_
 | fail)
local macro_rules | `(tactic| walk_at "st") => `(tactic| first
 | with_reducible refine' wp_isOT ?_
 | fail)
namespace Law
open PySem PySem.Spec PyProof.Rows L2 Dd
def topS (i : Nat) : Stmt := PySem.Challenge.pw_soldages_k01_logs.main.body.getD i (.Pass ⟨0, 0, 0, 0⟩)
theorem sc_law_feed : FnScope ["script", "k", "cell", "digits", "state"] ["script", "k"] (defScope (topS 17)) := ⟨rfl, rfl, rfl, by decide +kernel, rfl, by decide +kernel, by decide +kernel⟩
theorem sc_law_take : FnScope ["feed", "many", "digit"] ["feed", "many"] (defScope (topS 18)) := ⟨rfl, rfl, rfl, by decide +kernel, rfl, by decide +kernel, by decide +kernel⟩
section
variable {P : Program} {w : World} {K : PySem.W.Frag} {mg : Str → Option Value} {base : Heap}
/-- a feed: two numbers, not below nought -/
def Feed (l : List Da) : Prop := ∃ d s : Int, 0 ≤ d ∧ 0 ≤ s ∧ l = [.int d, .int s]
def spTake : Sp := SpF (fun m : Int => [.int m]) (fun l m => Feed l ∧ 0 < m ∧ m < 1000000000) (fun _ m l' r => Feed l' ∧ ∃ i : Int, r = .int i ∧ 0 ≤ i ∧ i < m)
theorem ok_take {f : Addr} {fd : FuncData} {k : Nat} (F : Fun K "_law_take" "_law_take" (topS 18) f fd) : FnOk P w K mg base CX0 (k + 1) f fd ["feed", "many"] spTake := by
  refine F.ok sc_law_take (fun vs H Q E h => ?_) (fun cdv A outer s H vs Q E hr h => ?_)
  · obtain ⟨n, f, ws, us, l, x, rfl, _, _, _, _, h, _⟩ := h
    simp [h.length]
  · obtain ⟨n, f, ws, us, l, x, rfl, hf, al, h1, h2, h3, ⟨⟨d, s', hd, hs, rfl⟩, hx1, hx2⟩, q⟩ := h
    have nd := sc_law_take.nd
    have hKI : KIs K := trivial
    refine' ⟨?t, ?pp, ?rd⟩
    case pp => walk_at "pss"
    case rd =>
      refine in_F hf al h1 h2 h3 rfl ?_
      show Nx _ [Sl.own true (.lst [.int d, .int s']), .is (.int x), .no] _
      repeat walk_at "st"
      refine ⟨fun hb => ?_, fun hb => ?_⟩
      · have hb := of_decide_eq_true hb
        have : x ≠ 0 := by omega
        have : CDivN d x := ⟨by omega, by omega⟩
        walk_at "go"
        refine rt_F q .refl (by rfl) ⟨⟨_, _, ?_, hs, rfl⟩, _, rfl, ?_, ?_⟩
        · rw [Int.fdiv_eq_ediv_of_nonneg _ (by omega)]
          exact Int.ediv_nonneg hd (by omega)
        · exact Int.fmod_nonneg_of_pos _ hx1
        · exact Int.fmod_lt_of_pos _ hx1
      · have : x ≠ 0 := by omega
        have : CDivN ((s' * 6364136223846793005 + 1442695040888963407).fmod 2305843009213693951) 65536 := ⟨by decide, by decide⟩
        walk_at "go"
        refine rt_F q .refl (by rfl) ⟨⟨_, _, hd, ?_, rfl⟩, _, rfl, ?_, ?_⟩
        · exact Int.fmod_nonneg_of_pos _ (by decide)
        · exact Int.fmod_nonneg_of_pos _ hx1
        · exact Int.fmod_lt_of_pos _ hx1
end
end Law
namespace Law
open PySem PySem.Spec PyProof.Rows L2 Dd
theorem sc_law_pick : FnScope ["feed", "some"] ["feed", "some"] (defScope (topS 19)) := ⟨rfl, rfl, rfl, by decide +kernel, rfl, by decide +kernel, by decide +kernel⟩
theorem sc_law_days : FnScope ["feed", "days", "units", "found", "stock", "total", "busy", "day", "arrived", "left"] ["feed", "days", "units"] (defScope (topS 20)) := ⟨rfl, rfl, rfl, by decide +kernel, rfl, by decide +kernel, by decide +kernel⟩
section
variable {P : Program} {w : World} {K : PySem.W.Frag} {mg : Str → Option Value} {base : Heap}
def spPick : Sp := SpF (fun ds : List Da => [.lst ds]) (fun l ds => Feed l ∧ 0 < ds.length ∧ ds.length < 1000000) (fun _ ds l' r => Feed l' ∧ r ∈ ds)
theorem ok_pick {f : Addr} {fd : FuncData} {k : Nat} (F : Fun K "_law_pick" "_law_pick" (topS 19) f fd) (ct : Calb P w K mg base 1 "_law_take" spTake) (ml : mg "len" = none) : FnOk P w K mg base CX0 2 f fd ["feed", "some"] spPick := by
  refine F.ok sc_law_pick (fun vs H Q E h => ?_) (fun cdv A outer s H vs Q E hr h => ?_)
  · obtain ⟨n, f, ws, us, l, x, rfl, _, _, _, _, h, _⟩ := h
    simp [h.length]
  · obtain ⟨n, f, ws, us, l, x, rfl, hf, al, h1, h2, h3, ⟨hl, hx1, hx2⟩, q⟩ := h
    have nd := sc_law_pick.nd
    have hKI : KIs K := trivial
    refine' ⟨?t, ?pp, ?rd⟩
    case pp => walk_at "pss"
    case rd =>
      refine in_F hf al h1 h2 h3 rfl ?_
      show Nx _ [Sl.own true (.lst l), .is (.lst x)] _
      walk_at "go"
      refine wp_callF ?_
      walk_at "go"
      refine ⟨0, _, _, _, _, rfl, rfl, by walk_at "allda", ⟨hl, by omega, by omega⟩, fun l' r hr => ?_⟩
      obtain ⟨hl', i, rfl, hi0, hi1⟩ := hr
      obtain ⟨j, rfl⟩ : ∃ j : Nat, i = (j : Int) := ⟨i.toNat, by omega⟩
      have hj : j < x.length := by omega
      have hd : atI x ((j : Nat) : Int) = some x[j] := atI_nat (List.getElem?_eq_getElem hj)
      refine ⟨_, op_ixL (d := x[j]) rfl rfl hd, ?_⟩
      refine rk_da ?_
      refine rt_F q .refl (by rfl) ⟨hl', List.getElem_mem hj⟩
end
end Law
namespace Law
open PySem PySem.Spec PyProof.Rows L2 Dd
def prs (ps : List (Int × Int)) : List Da := ps.map fun p => .tup [.int p.1, .int p.2]
/-- days of a log, with at most u units -/
structure Lawf (u : Int) (ps : List (Int × Int)) : Prop where
  pos : ∀ p ∈ ps, 0 ≤ p.1 ∧ 0 ≤ p.2
  sum : (ps.map (·.1)).sum ≤ u
  stk : ∀ m, 0 ≤ ((ps.take m).map fun p => p.1 - p.2).sum
theorem Lawf.nil {u : Int} (h : 0 ≤ u) : Lawf u [] := ⟨(fun _ h => by cases h), h, (fun m => by rw [List.take_nil]; exact Int.le_refl 0)⟩
theorem Lawf.snoc {u : Int} {ps : List (Int × Int)} (h : Lawf u ps) {a l : Int} (ha : 0 ≤ a) (hl : 0 ≤ l) (hs : (ps.map (·.1)).sum + a ≤ u) (hk : l ≤ (ps.map fun p => p.1 - p.2).sum + a) : Lawf u (ps ++ [(a, l)]) := by
  refine ⟨fun p hp => ?_, ?_, fun m => ?_⟩
  · rcases List.mem_append.mp hp with h1 | h1
    · exact h.pos p h1
    · simp at h1; subst h1; exact ⟨ha, hl⟩
  · rw [List.map_append, List.sum_append]
    simpa using hs
  · by_cases hm : m ≤ ps.length
    · rw [List.take_append_of_le_length hm]
      exact h.stk m
    · rw [List.take_of_length_le (by simp; omega), List.map_append, List.sum_append]
      simp
      omega
theorem prs_snoc (ps : List (Int × Int)) (a l : Int) : prs (ps ++ [(a, l)]) = prs ps ++ [.tup [.int a, .int l]] := by simp [prs]
theorem prs_len (ps : List (Int × Int)) : (prs ps).length = ps.length := by simp [prs]
section
variable {P : Program} {w : World} {K : PySem.W.Frag} {mg : Str → Option Value} {base : Heap}
def spDays : Sp := SpF (fun x : Int × Int => [.int x.1, .int x.2]) (fun l x => Feed l ∧ 0 ≤ x.1 ∧ x.1 ≤ 1000 ∧ 0 ≤ x.2 ∧ x.2 ≤ 1000) (fun _ x l' r => Feed l' ∧ ∃ ps, r = .lst (prs ps) ∧ (ps.length : Int) = x.1 ∧ Lawf x.2 ps)
theorem ok_days {f : Addr} {fd : FuncData} (F : Fun K "_law_days" "_law_days" (topS 20) f fd) (ct : Calb P w K mg base 1 "_law_take" spTake) (cp : Calb P w K mg base 2 "_law_pick" spPick) (ml : mg "min" = none) (mr : mg "range" = none) : FnOk P w K mg base CX0 3 f fd ["feed", "days", "units"] spDays := by
  refine F.ok sc_law_days (fun vs H Q E h => ?_) (fun cdv A outer s H vs Q E hr h => ?_)
  · obtain ⟨n, f, ws, us, l, x, rfl, _, _, _, _, h, _⟩ := h
    simp [h.length]
  · obtain ⟨n, f, ws, us, l, ⟨dn, un⟩, rfl, hf, al, h1, h2, h3, ⟨hl, hx1, hx2, hx3, hx4⟩, q⟩ := h
    have nd := sc_law_days.nd
    have hKI : KIs K := trivial
    refine' ⟨?t, ?pp, ?rd⟩
    case pp => walk_at "pss"
    case rd =>
      refine in_F hf al h1 h2 h3 rfl ?_
      show Nx _ [Sl.own true (.lst l), .is (.int dn), .is (.int un), .no, .no, .no, .no, .no, .no, .no] _
      walk_at "go"
      refine wp_callF ?_
      walk_at "go"
      refine ⟨0, _, _, _, _, rfl, rfl, by walk_at "allda", ⟨hl, by simp, by simp⟩, fun l1 r1 hr1 => ?_⟩
      obtain ⟨hl1, hr1⟩ := hr1
      have hb : ∃ b : Int, r1 = .int b ∧ 1 ≤ b ∧ b ≤ 8 := by
        simp at hr1
        rcases hr1 with e | e | e | e <;> exact ⟨_, e, by omega, by omega⟩
      obtain ⟨b, rfl, hb1, hb2⟩ := hb
      walk_at "go"
      refine nx_forR ?_
      walk_at "go"
      refine ⟨_, _, rfl, rfl, ⟨by omega, by omega⟩, fun m ρ' => ∃ l ps st tot s7 s8 s9, Feed l ∧ ps.length = m ∧ Lawf un ps ∧ st = (ps.map fun p => p.1 - p.2).sum ∧ tot = (ps.map (·.1)).sum ∧ (0 ≤ st ∧ st ≤ tot ∧ tot ≤ un) ∧ ρ' = [Sl.own true (.lst l), .is (.int dn), .is (.int un), .own false (.lst (prs ps)), .is (.int st), .is (.int tot), .is (.int b), s7, s8, s9], ?_, ?_, ?_⟩
      · exact ⟨l1, [], 0, 0, _, _, _, hl1, rfl, Lawf.nil hx3, rfl, rfl, ⟨by omega, by omega, hx3⟩, rfl⟩
      · rintro m _ hm ⟨l, ps, st, tot, s7, s8, s9, hl, hlen, hL, hst, htot, ⟨hb3, hb4, hb5⟩, rfl⟩
        have hun : un ≤ 1000 := hx4
        have hdn : dn ≤ 1000 := hx2
        refine ⟨_, tg_name, ?_⟩
        walk_at "go"
        -- arrived
        refine wp_callF ?_
        walk_at "go"
        refine wp_callF ?_
        walk_at "go"
        refine ⟨0, _, _, _, _, rfl, rfl, by walk_at "allda", ⟨hl, by omega, by omega⟩, fun l2 r2 hr2 => ?_⟩
        obtain ⟨hl2, i2, rfl, hi2, hi2'⟩ := hr2
        walk_at "go"
        refine ⟨0, _, _, _, _, rfl, rfl, by walk_at "allda", ⟨hl2, by simp, by simp⟩, fun l3 r3 hr3 => ?_⟩
        obtain ⟨hl3, hr3⟩ := hr3
        have ha : ∃ a : Int, r3 = .int a ∧ 0 ≤ a := by
          simp at hr3
          rcases hr3 with e | e | e <;> exact ⟨_, e, by omega⟩
        obtain ⟨a, rfl, ha⟩ := ha
        walk_at "go"
        -- left
        refine wp_callF ?_
        walk_at "go"
        refine wp_callF ?_
        walk_at "go"
        have hnew : 0 ≤ (if a < un - tot then a else un - tot) ∧ (if a < un - tot then a else un - tot) ≤ un - tot := by split <;> omega
        generalize (if a < un - tot then a else un - tot) = ar at hnew ⊢
        refine ⟨0, _, _, _, _, rfl, rfl, by walk_at "allda", ⟨hl3, by omega, by omega⟩, fun l4 r4 hr4 => ?_⟩
        obtain ⟨hl4, i4, rfl, hi4, hi4'⟩ := hr4
        walk_at "go"
        refine ⟨0, _, _, _, _, rfl, rfl, by walk_at "allda", ⟨hl4, by simp, by simp⟩, fun l5 r5 hr5 => ?_⟩
        obtain ⟨hl5, hr5⟩ := hr5
        have hc : ∃ c : Int, r5 = .int c ∧ 0 ≤ c ∧ (c ≤ st + ar ∨ c = 1) := by
          simp at hr5
          rcases hr5 with e | e | e | e <;> exact ⟨_, e, by omega, by omega⟩
        obtain ⟨c, rfl, hc0, hc1⟩ := hc
        walk_at "go"
        have hnl : 0 ≤ (if c < st + ar then c else st + ar) ∧ (if c < st + ar then c else st + ar) ≤ st + ar := by split <;> omega
        generalize (if c < st + ar then c else st + ar) = le at hnl ⊢
        walk_at "go"
        refine ⟨_, _, rfl, rfl, lt_line (by rw [prs_len]; omega), ?_⟩
        have e1 : ((ps ++ [(ar, le)]).map fun p => p.1 - p.2).sum = st + ar - le := by simp [← hst]; omega
        have e2 : ((ps ++ [(ar, le)]).map (·.1)).sum = tot + ar := by simp [← htot]
        refine nx_at ⟨l5, ps ++ [(ar, le)], st + ar - le, tot + ar, .is (.int m), .is (.int ar), .is (.int le), hl5, by simp [hlen], hL.snoc hnew.1 hnl.1 (by omega) (by omega), e1.symm, e2.symm, ⟨by omega, by omega, by omega⟩, ?_⟩
        rw [prs_snoc]
        rfl
      · rintro _ ⟨l, ps, st, tot, s7, s8, s9, hl, hlen, hL, hst, htot, _, rfl⟩
        refine nx_freeze 3 rfl ?_
        walk_at "go"
        refine rt_F q .refl (by rfl) ⟨hl, ps, rfl, by omega, hL⟩
end
end Law
namespace Law
open PySem PySem.Spec PyProof.Rows L2 Dd
theorem sc_law_feed' : FnScope ["script", "k", "cell", "digits", "state"] ["script", "k"] (defScope (topS 17)) := ⟨rfl, rfl, rfl, by decide +kernel, rfl, by decide +kernel, by decide +kernel⟩
theorem sc_law_ins : FnScope ["days", "found", "day"] ["days"] (defScope (topS 21)) := ⟨rfl, rfl, rfl, by decide +kernel, rfl, by decide +kernel, by decide +kernel⟩
theorem sc_law_outs : FnScope ["days", "found", "day"] ["days"] (defScope (topS 22)) := ⟨rfl, rfl, rfl, by decide +kernel, rfl, by decide +kernel, by decide +kernel⟩
/-- each place as often as its number says -/
def sprd : Nat → List Int → List Int
  | _, [] => []
  | i, c :: cs => List.replicate c.toNat (i : Int) ++ sprd (i + 1) cs
theorem sprd_snoc : ∀ (cs : List Int) (i : Nat) (c : Int), sprd i (cs ++ [c]) = sprd i cs ++ List.replicate c.toNat ((i + cs.length : Nat) : Int)
  | [], i, c => by simp [sprd]
  | d :: cs, i, c => by
    have h := sprd_snoc cs (i + 1) c
    simp only [List.cons_append, sprd, h, List.append_assoc, List.length_cons]
    have e : i + 1 + cs.length = i + (cs.length + 1) := by omega
    rw [e]
theorem sprd_len : ∀ (cs : List Int) (i : Nat), (∀ c ∈ cs, 0 ≤ c) → ((sprd i cs).length : Int) = cs.sum
  | [], i, _ => by simp [sprd]
  | d :: cs, i, h => by
    have h1 := sprd_len cs (i + 1) fun c hc => h c (List.mem_cons_of_mem _ hc)
    have h2 := h d List.mem_cons_self
    simp only [sprd, List.length_append, List.length_replicate, List.sum_cons]
    omega
def insF (ps : List (Int × Int)) : List Int := sprd 0 (ps.map (·.1))
def outsA (ps : List (Int × Int)) : List Int := sprd 0 (ps.map (·.2))
def outsF (ps : List (Int × Int)) : List Int := outsA ps ++ List.replicate ((insF ps).length - (outsA ps).length) ((ps.length : Int) - 1)
theorem inz_rep (k : Nat) (x : Int) : (List.replicate k [Da.int x]).flatten = inz (List.replicate k x) := by
  induction k with
  | zero => rfl
  | succ k ih => rw [List.replicate_succ, List.flatten_cons, ih]; rfl
theorem inz_app (a b : List Int) : inz (a ++ b) = inz a ++ inz b := by simp [inz]
theorem inz_len (a : List Int) : (inz a).length = a.length := by simp [inz]
theorem prs_get {ps : List (Int × Int)} {m : Nat} {p : Int × Int} (h : ps[m]? = some p) : (prs ps)[m]? = some (.tup [.int p.1, .int p.2]) := by
  rw [prs, List.getElem?_map, h]
  rfl
theorem sum_le_of_take : ∀ (cs : List Int) (m : Nat), (∀ c ∈ cs, 0 ≤ c) → (cs.take m).sum ≤ cs.sum
  | [], m, _ => by simp
  | c :: cs, 0, h => by
    have h1 := sum_le_of_take cs 0 fun d hd => h d (List.mem_cons_of_mem _ hd)
    have h2 := h c List.mem_cons_self
    simp at *
    omega
  | c :: cs, m + 1, h => by
    have h1 := sum_le_of_take cs m fun d hd => h d (List.mem_cons_of_mem _ hd)
    simp only [List.take_succ_cons, List.sum_cons]
    omega
theorem Lawf.size {u : Int} {ps : List (Int × Int)} (h : Lawf u ps) (m : Nat) : ((sprd 0 ((ps.take m).map (·.1))).length : Int) ≤ u := by
  have h0 : ∀ c ∈ ps.map (·.1), 0 ≤ c := fun c hc => by
    obtain ⟨p, hp, rfl⟩ := List.mem_map.mp hc
    exact (h.pos p hp).1
  rw [sprd_len]
  · have := sum_le_of_take (ps.map (·.1)) m h0
    rw [← List.map_take] at this
    have := h.sum
    omega
  · intro c hc
    rw [List.map_take] at hc
    exact h0 c (List.mem_of_mem_take hc)
section
variable {P : Program} {w : World} {K : PySem.W.Frag} {mg : Str → Option Value} {base : Heap}
def spFeed (K : PySem.W.Frag) : Sp := SpO (fun x : List Int × Int => [.scr K x.1, .int x.2]) (fun x => 0 ≤ x.2) (fun _ r => Feed r)
theorem ok_feed {f : Addr} {fd : FuncData} (F : Fun K "_law_feed" "_law_feed" (topS 17) f fd) (ml : mg "len" = none) (mm : mg "max" = none) (ma : mg "abs" = none) : FnOk P w K mg base CX0 1 f fd ["script", "k"] (spFeed K) := by
  refine F.ok sc_law_feed' (fun vs H Q E h => ?_) (fun cdv A outer s H vs Q E hr h => ?_)
  · obtain ⟨n, x, _, h, _⟩ := h
    simp [h.length]
  · obtain ⟨n, ⟨ns, k⟩, al, h3, hk, q⟩ := h
    have nd := sc_law_feed'.nd
    have hKI : KIs K := trivial
    have hk : 0 ≤ k := hk
    refine' ⟨?t, ?pp, ?rd⟩
    case pp => walk_at "pss"
    case rd =>
      refine in_T al h3 rfl ?_
      show Nx _ [.is (.scr K ns), .is (.int k), .no, .no, .no] _
      refine nx_seq (nx_set (Wp.imp (Φ := fun k' ρ' => ρ' = [.is (.scr K ns), .is (.int k), .no, .no, .no] ∧ ∃ c : Int, k' = .da (.int c)) ?_ ?_))
      · walk_at "go"
        refine ⟨fun hb => ?_, fun hb => ?_⟩
        · have hb := of_decide_eq_true hb
          obtain ⟨j, rfl⟩ : ∃ j : Nat, k = (j : Int) := ⟨k.toNat, by omega⟩
          have hj : j < ns.length := by omega
          walk_at "go"
          exact ⟨_, op_ixC (i := ((j : Nat) : Int)) (j := ns[j]) rfl rfl (atI_nat (List.getElem?_eq_getElem hj)), rfl, _, rfl⟩
        · walk_at "go"
          exact ⟨rfl, _, rfl⟩
      · rintro _ _ ⟨rfl, c, rfl⟩
        walk_at "go"
        refine rt_O q .refl ⟨_, _, ?_, Int.fmod_nonneg_of_pos _ (by decide), rfl⟩
        split <;> omega
def spIns : Sp := SpO (fun ps : List (Int × Int) => [.lst (prs ps)]) (fun ps => ps.length ≤ 1000 ∧ Lawf 1000 ps) (fun ps r => r = inz (insF ps))
theorem ok_ins {f : Addr} {fd : FuncData} (F : Fun K "_law_ins" "_law_ins" (topS 21) f fd) (ml : mg "len" = none) (mr : mg "range" = none) : FnOk P w K mg base CX0 1 f fd ["days"] spIns := by
  refine F.ok sc_law_ins (fun vs H Q E h => ?_) (fun cdv A outer s H vs Q E hr h => ?_)
  · obtain ⟨n, x, _, h, _⟩ := h
    simp [h.length]
  · obtain ⟨n, ps, al, h3, ⟨hlen, hL⟩, q⟩ := h
    have nd := sc_law_ins.nd
    have hKI : KIs K := trivial
    refine' ⟨?t, ?pp, ?rd⟩
    case pp => walk_at "pss"
    case rd =>
      refine in_T al h3 rfl ?_
      show Nx _ [.is (.lst (prs ps)), .no, .no] _
      walk_at "go"
      refine nx_forR ?_
      walk_at "go"
      refine ⟨_, _, rfl, rfl, ⟨by rw [prs_len]; omega, by omega⟩, fun m ρ' => ∃ s2, m ≤ ps.length ∧ ρ' = [.is (.lst (prs ps)), .own false (.lst (inz (sprd 0 ((ps.take m).map (·.1))))), s2], ?_, ?_, ?_⟩
      · exact ⟨.no, Nat.zero_le _, rfl⟩
      · rintro m _ hm ⟨s2, hm0, rfl⟩
        rw [prs_len] at hm
        have hm1 : m < ps.length := by omega
        refine ⟨_, tg_name, ?_⟩
        obtain ⟨p, hp⟩ : ∃ p, ps[m]? = some p := ⟨_, List.getElem?_eq_getElem hm1⟩
        have hp1 := hL.pos p (List.mem_of_getElem? hp)
        have hsz := hL.size m
        have hsz1 := hL.size (m + 1)
        have he : sprd 0 ((ps.take (m + 1)).map (·.1)) = sprd 0 ((ps.take m).map (·.1)) ++ List.replicate p.1.toNat (m : Int) := by
          rw [List.take_add_one, hp, List.map_append]
          have := sprd_snoc ((ps.take m).map (·.1)) 0 p.1
          simpa [hm0] using this
        rw [he, List.length_append, List.length_replicate] at hsz1
        have hi : atI (prs ps) ((m : Nat) : Int) = some (.tup [.int p.1, .int p.2]) := atI_nat (prs_get hp)
        walk_at "go"
        refine ⟨_, op_timesL rfl rfl ⟨by omega, by omega, le_line (by simp; omega)⟩, ?_⟩
        refine ⟨_, op_plusL rfl rfl (le_line (by rw [inz_len, inz_rep, inz_len, List.length_replicate]; omega)), ?_⟩
        refine sk_nw (nx_at ⟨.is (.int m), hm1, ?_⟩)
        rw [he, inz_app, ← inz_rep]
        rfl
      · rintro _ ⟨s2, hm0, rfl⟩
        walk_at "go"
        refine rt_O q .refl ?_
        rw [prs_len, Int.toNat_natCast, List.take_length]
        rfl
end
end Law
namespace Law
open PySem PySem.Spec PyProof.Rows L2 Dd
theorem sc_law_text : FnScope ["days", "arrived", "left"] ["days"] (defScope (topS 24)) := ⟨rfl, rfl, rfl, by decide +kernel, rfl, by decide +kernel, by decide +kernel⟩
/-- no more has left than has come -/
theorem Lawf.outs {u : Int} {ps : List (Int × Int)} (h : Lawf u ps) (m : Nat) : ((sprd 0 ((ps.take m).map (·.2))).length : Int) ≤ (sprd 0 ((ps.take m).map (·.1))).length := by
  have h1 : ∀ c ∈ (ps.take m).map (·.1), 0 ≤ c := fun c hc => by
    obtain ⟨p, hp, rfl⟩ := List.mem_map.mp hc
    exact (h.pos p (List.mem_of_mem_take hp)).1
  have h2 : ∀ c ∈ (ps.take m).map (·.2), 0 ≤ c := fun c hc => by
    obtain ⟨p, hp, rfl⟩ := List.mem_map.mp hc
    exact (h.pos p (List.mem_of_mem_take hp)).2
  rw [sprd_len _ _ h1, sprd_len _ _ h2]
  have h3 := h.stk m
  have h4 : ∀ qs : List (Int × Int), (qs.map fun p => p.1 - p.2).sum = (qs.map (·.1)).sum - (qs.map (·.2)).sum := by
    intro qs
    induction qs with
    | nil => simp
    | cons q qs ih => simp only [List.map_cons, List.sum_cons, ih]; omega
  rw [h4] at h3
  omega
theorem Lawf.bnd {u : Int} {ps : List (Int × Int)} (h : Lawf u ps) : ∀ p ∈ ps, p.1 ≤ u ∧ p.2 ≤ u := by
  intro p hp
  obtain ⟨m, hm, e⟩ := List.getElem_of_mem hp
  have h1 := h.size (m + 1)
  have h2 := h.outs (m + 1)
  have hg : ps[m]? = some p := by rw [List.getElem?_eq_getElem hm, e]
  have hp1 := h.pos p hp
  have he : ∀ f : Int × Int → Int, (sprd 0 ((ps.take (m + 1)).map f)).length = (sprd 0 ((ps.take m).map f)).length + (f p).toNat := fun f => by
    rw [List.take_add_one, hg, List.map_append]
    show (sprd 0 ((ps.take m).map f ++ [f p])).length = _
    rw [sprd_snoc, List.length_append, List.length_replicate]
  rw [he (·.1)] at h1 h2
  rw [he (·.2)] at h2
  constructor <;> omega
section
variable {P : Program} {w : World} {K : PySem.W.Frag} {mg : Str → Option Value} {base : Heap}
def spOuts : Sp := SpO (fun ps : List (Int × Int) => [.lst (prs ps)]) (fun ps => ps.length ≤ 1000 ∧ Lawf 1000 ps) (fun ps r => r = inz (outsF ps))
theorem ok_outs {f : Addr} {fd : FuncData} (F : Fun K "_law_outs" "_law_outs" (topS 22) f fd) (ci : Calb P w K mg base 1 "_law_ins" spIns) (ml : mg "len" = none) (mr : mg "range" = none) : FnOk P w K mg base CX0 2 f fd ["days"] spOuts := by
  refine F.ok sc_law_outs (fun vs H Q E h => ?_) (fun cdv A outer s H vs Q E hr h => ?_)
  · obtain ⟨n, x, _, h, _⟩ := h
    simp [h.length]
  · obtain ⟨n, ps, al, h3, ⟨hlen, hL⟩, q⟩ := h
    have nd := sc_law_outs.nd
    have hKI : KIs K := trivial
    refine' ⟨?t, ?pp, ?rd⟩
    case pp => walk_at "pss"
    case rd =>
      refine in_T al h3 rfl ?_
      show Nx _ [.is (.lst (prs ps)), .no, .no] _
      walk_at "go"
      refine nx_forR ?_
      walk_at "go"
      refine ⟨_, _, rfl, rfl, ⟨by rw [prs_len]; omega, by omega⟩, fun m ρ' => ∃ s2, m ≤ ps.length ∧ ρ' = [.is (.lst (prs ps)), .own false (.lst (inz (sprd 0 ((ps.take m).map (·.2))))), s2], ?_, ?_, ?_⟩
      · exact ⟨.no, Nat.zero_le _, rfl⟩
      · rintro m _ hm ⟨s2, hm0, rfl⟩
        rw [prs_len] at hm
        have hm1 : m < ps.length := by omega
        refine ⟨_, tg_name, ?_⟩
        obtain ⟨p, hp⟩ : ∃ p, ps[m]? = some p := ⟨_, List.getElem?_eq_getElem hm1⟩
        have hp1 := hL.pos p (List.mem_of_getElem? hp)
        have hsz := hL.size m
        have hsz1 := hL.size (m + 1)
        have ho := hL.outs m
        have ho1 := hL.outs (m + 1)
        have he : sprd 0 ((ps.take (m + 1)).map (·.2)) = sprd 0 ((ps.take m).map (·.2)) ++ List.replicate p.2.toNat (m : Int) := by
          rw [List.take_add_one, hp, List.map_append]
          have := sprd_snoc ((ps.take m).map (·.2)) 0 p.2
          simpa [hm0] using this
        rw [he, List.length_append, List.length_replicate] at ho1
        have hi : atI (prs ps) ((m : Nat) : Int) = some (.tup [.int p.1, .int p.2]) := atI_nat (prs_get hp)
        walk_at "go"
        refine ⟨_, op_timesL rfl rfl ⟨by omega, by omega, le_line (by simp; omega)⟩, ?_⟩
        refine ⟨_, op_plusL rfl rfl (le_line (by rw [inz_len, inz_rep, inz_len, List.length_replicate]; omega)), ?_⟩
        refine sk_nw (nx_at ⟨.is (.int m), hm1, ?_⟩)
        rw [he, inz_app, ← inz_rep]
        rfl
      · rintro _ ⟨s2, hm0, rfl⟩
        have e0 : ((prs ps).length : Int).toNat = ps.length := by rw [prs_len]; omega
        rw [e0, List.take_length]
        have hsz := hL.size ps.length
        have ho := hL.outs ps.length
        rw [List.take_length] at hsz ho
        walk_at "go"
        refine wp_callO ?_
        walk_at "go"
        rintro _ rfl
        walk_at "go"
        have hi0 : insF ps = sprd 0 (ps.map (·.1)) := rfl
        rw [← hi0] at hsz ho
        have e1 : (((inz (insF ps)).length : Int) - ((inz (sprd 0 (ps.map fun x => x.2))).length : Int)).toNat = (insF ps).length - (outsA ps).length := by
          rw [inz_len, inz_len]
          show (((insF ps).length : Int) - ((outsA ps).length : Int)).toNat = _
          omega
        have e2 : (((prs ps).length : Int) - 1) = (ps.length : Int) - 1 := by rw [prs_len]
        refine ⟨_, op_timesL rfl rfl ⟨by rw [inz_len, inz_len]; omega, by rw [inz_len, inz_len]; omega, le_line (by rw [e1]; simp; omega)⟩, ?_⟩
        refine ⟨_, op_plusL rfl rfl (le_line (by rw [e1, inz_rep, inz_len, inz_len, List.length_replicate]; show (outsA ps).length + _ ≤ _; have : ((outsA ps).length : Int) ≤ (insF ps).length := ho; omega)), ?_⟩
        refine rk_nw ?_
        refine rt_O q .refl ?_
        rw [e1, e2, inz_rep, ← inz_app]
        rfl
theorem str_len {a : Int} (h0 : 0 ≤ a) (h1 : a < 10 ^ 10) : (Str.ofString (toString a)).length ≤ 10 := by
  obtain ⟨n, rfl⟩ : ∃ n : Nat, a = (n : Int) := ⟨a.toNat, by omega⟩
  have hlt : n < 10 ^ 10 := by omega
  have e := (Nat.length_repr_le_iff (n := n) (by decide : 0 < 10)).mpr hlt
  have e2 : toString ((n : Nat) : Int) = n.repr := rfl
  rw [e2, PySem.ofString_length]
  exact e
theorem log_small {a : Int} (h0 : 0 ≤ a) (h1 : a < 10 ^ 10) : a.natAbs.log2 < 1920 := by
  have h2 : a.natAbs < 2 ^ 64 := by omega
  have h3 : a.natAbs.log2 < 64 ∨ a.natAbs = 0 := by
    by_cases h : a.natAbs = 0
    · exact .inr h
    · exact .inl ((Nat.log2_lt h).mpr h2)
  rcases h3 with h3 | h3
  · omega
  · rw [h3]; decide
theorem strLen_app (a b : Str) : (a ++ b).length = a.length + b.length := PySem.strLen_append a b
def nlS : Str := "\n"
def rowS (p : Int × Int) : Str := (toString p.1 : Str) ++ (" " : Str) ++ (toString p.2 : Str)
def textF (ps : List (Int × Int)) : Str := Txt.join nlS (ps.map rowS)
def spText : Sp := SpT (fun ps : List (Int × Int) => [.lst (prs ps)]) (fun ps => ps.length ≤ 1000 ∧ Lawf 1000 ps) (fun ps r => r = .str (textF ps))
theorem ok_text {f : Addr} {fd : FuncData} (F : Fun K "_law_text" "_law_text" (topS 24) f fd) (ms : mg "str" = none) : FnOk P w K mg base CX0 1 f fd ["days"] spText := by
  refine F.ok sc_law_text (fun vs H Q E h => ?_) (fun cdv A outer s H vs Q E hr h => ?_)
  · obtain ⟨n, x, _, h, _⟩ := h
    simp [h.length]
  · obtain ⟨n, ps, al, h3, ⟨hlen, hL⟩, q⟩ := h
    have nd := sc_law_text.nd
    have hKI : KIs K := trivial
    refine' ⟨?t, ?pp, ?rd⟩
    case pp => walk_at "pss"
    case rd =>
      refine in_T al h3 rfl ?_
      show Nx _ [.is (.lst (prs ps)), .no, .no] _
      walk_at "go"
      refine wp_lc ?_
      walk_at "go"
      have hrow : ∀ p ∈ ps, (Str.ofString (toString p.1)).length ≤ 10 ∧ (Str.ofString (toString p.2)).length ≤ 10 ∧ p.1.natAbs.log2 < 1920 ∧ p.2.natAbs.log2 < 1920 := fun p hp => by
        obtain ⟨b1, b2⟩ := hL.bnd p hp
        have h3 := hL.pos p hp
        exact ⟨str_len h3.1 (by omega), str_len h3.2 (by omega), log_small h3.1 (by omega), log_small h3.2 (by omega)⟩
      refine ⟨_, rfl, lc_map (enc := fun p : Int × Int => Da.tup [.int p.1, .int p.2]) (xs := ps) (fun p => .str (rowS p)) (by omega) (fun p hp => ?_) ?_⟩
      · obtain ⟨b1, b2, b3, b4⟩ := hrow p hp
        refine ⟨_, by walk_at "tgc", ?_⟩
        walk_at "go"
        refine ⟨_, op_plusS rfl rfl (le_line (by have : (Str.ofString " ").length = 1 := rfl; omega)), ?_⟩
        walk_at "go"
        refine ⟨_, op_plusS rfl rfl (le_line (by rw [strLen_app]; have : (Str.ofString " ").length = 1 := rfl; omega)), ?_⟩
        exact ⟨rfl, rfl⟩
      · refine ⟨ps.map rowS, by simp [strz, see, soft, Function.comp_def], ?_, ?_⟩
        · have h1 : ∀ qs : List (Int × Int), (∀ p ∈ qs, p ∈ ps) → ((qs.map rowS).map fun x => x.length).sum ≤ 21 * qs.length := by
            intro qs
            induction qs with
            | nil => intro _; simp
            | cons q qs ih =>
              intro hq
              have h2 := ih fun p hp => hq p (List.mem_cons_of_mem _ hp)
              obtain ⟨b1, b2, _⟩ := hrow q (hq q List.mem_cons_self)
              have h3 : (rowS q).length ≤ 21 := by
                unfold rowS
                rw [strLen_app, strLen_app]
                have : (Str.ofString " ").length = 1 := rfl
                omega
              simp only [List.map_cons, List.sum_cons, List.length_cons]
              omega
          have h4 := h1 ps fun _ h => h
          have h5 : (Str.ofString "\n").length = 1 := rfl
          rw [h5, List.length_map]
          omega
        · refine rk_da ?_
          exact rt_T q .refl rfl
end
end Law
namespace Law
open PySem PySem.Spec PyProof.Rows L2 Dd
/-! ## what stands where -/
theorem sprd_ge : ∀ (cs : List Int) (i : Nat), ∀ x ∈ sprd i cs, (i : Int) ≤ x
  | [], i, x, h => by cases h
  | c :: cs, i, x, h => by
    rcases List.mem_append.mp h with h | h
    · rw [(List.mem_replicate.mp h).2]
      omega
    · have := sprd_ge cs (i + 1) x h
      omega
theorem sprd_lt : ∀ (cs : List Int) (i : Nat), ∀ x ∈ sprd i cs, x < (i : Int) + cs.length
  | [], i, x, h => by cases h
  | c :: cs, i, x, h => by
    rw [List.length_cons]
    rcases List.mem_append.mp h with h | h
    · rw [(List.mem_replicate.mp h).2]
      omega
    · have := sprd_lt cs (i + 1) x h
      omega
theorem sprd_app : ∀ (as bs : List Int) (i : Nat), sprd i (as ++ bs) = sprd i as ++ sprd (i + as.length) bs
  | [], bs, i => rfl
  | a :: as, bs, i => by
    have h := sprd_app as bs (i + 1)
    simp only [List.cons_append, sprd, h, List.append_assoc, List.length_cons]
    have e : i + 1 + as.length = i + (as.length + 1) := by omega
    rw [e]
theorem sprd_at : ∀ (cs : List Int) (i m : Nat) (d : Int), (sprd i cs)[m]? = some d → ∃ q : Nat, d = ((i + q : Nat) : Int) ∧ q < cs.length ∧ m < (sprd i (cs.take (q + 1))).length
  | [], i, m, d, h => by cases h
  | c :: cs, i, m, d, h => by
    have h : (List.replicate c.toNat (i : Int) ++ sprd (i + 1) cs)[m]? = some d := h
    by_cases hm : m < c.toNat
    · rw [List.getElem?_append_left (by rw [List.length_replicate]; exact hm)] at h
      have hd := (List.mem_replicate.mp (List.mem_of_getElem? h)).2
      refine ⟨0, by rw [hd]; rfl, by simp, ?_⟩
      show m < (List.replicate c.toNat (i : Int) ++ sprd (i + 1) []).length
      simp [sprd, hm]
    · rw [List.getElem?_append_right (by rw [List.length_replicate]; omega), List.length_replicate] at h
      obtain ⟨q, h1, h2, h3⟩ := sprd_at cs (i + 1) _ d h
      refine ⟨q + 1, by rw [h1]; congr 1; omega, by rw [List.length_cons]; omega, ?_⟩
      show m < (List.replicate c.toNat (i : Int) ++ sprd (i + 1) (cs.take (q + 1))).length
      rw [List.length_append, List.length_replicate]
      omega
/-- as many have come up to a day as are sent up to it -/
theorem sprd_cnt (cs : List Int) (q : Nat) : (sprd 0 (cs.take (q + 1))).length ≤ ((sprd 0 cs).filter fun d => decide (d ≤ (q : Int))).length := by
  have h : sprd 0 cs = sprd 0 (cs.take (q + 1)) ++ sprd (0 + (cs.take (q + 1)).length) (cs.drop (q + 1)) := by
    rw [← sprd_app, List.take_append_drop]
  rw [h, List.filter_append, List.length_append]
  have h1 : (sprd 0 (cs.take (q + 1))).filter (fun d => decide (d ≤ (q : Int))) = sprd 0 (cs.take (q + 1)) := by
    refine List.filter_eq_self.mpr fun x hx => ?_
    have h2 := sprd_lt _ _ x hx
    have h3 : (cs.take (q + 1)).length ≤ q + 1 := by rw [List.length_take]; omega
    exact decide_eq_true (by omega)
  rw [h1]
  omega
theorem outsA_len {u : Int} {ps : List (Int × Int)} (h : Lawf u ps) : (outsA ps).length ≤ (insF ps).length := by
  have := h.outs ps.length
  rw [List.take_length] at this
  unfold outsA insF
  omega
theorem outsF_len {u : Int} {ps : List (Int × Int)} (h : Lawf u ps) : (outsF ps).length = (insF ps).length := by
  have := outsA_len h
  unfold outsF
  rw [List.length_append, List.length_replicate]
  omega
theorem insF_len {u : Int} {ps : List (Int × Int)} (h : Lawf u ps) : ((insF ps).length : Int) ≤ u := by
  have := h.size ps.length
  rw [List.take_length] at this
  exact this
/-- at each leaving there have come more than left before -/
theorem outsF_cnt {u : Int} {ps : List (Int × Int)} (h : Lawf u ps) {m : Nat} {d : Int} (hm : (outsF ps)[m]? = some d) : m < ((insF ps).filter fun x => decide (x ≤ d)).length := by
  unfold outsF at hm
  by_cases hl : m < (outsA ps).length
  · rw [List.getElem?_append_left hl] at hm
    obtain ⟨q, h1, h2, h3⟩ := sprd_at _ _ _ _ hm
    have h4 := h.outs (q + 1)
    rw [List.map_take, List.map_take] at h4
    have h5 := sprd_cnt (ps.map (·.1)) q
    have e : d = (q : Int) := by omega
    subst e
    unfold insF
    omega
  · rw [List.getElem?_append_right (by omega)] at hm
    have hd := (List.mem_replicate.mp (List.mem_of_getElem? hm)).2
    have hml : m - (outsA ps).length < (insF ps).length - (outsA ps).length := by
      have := (List.getElem?_eq_some_iff.mp hm).1
      rwa [List.length_replicate] at this
    have e : (insF ps).filter (fun x => decide (x ≤ d)) = insF ps := by
      refine List.filter_eq_self.mpr fun x hx => ?_
      have := sprd_lt _ _ x hx
      rw [List.length_map] at this
      exact decide_eq_true (by omega)
    rw [e]
    omega
/-- one unit leaves -/
def stepC (o : Bool) (s : List Int × List Int × List (Int × Int)) (out : Int) : List Int × List Int × List (Int × Int) :=
  ((s.1 ++ s.2.1.filter fun d => decide (d ≤ out)).eraseIdx (if o then 0 else (s.1 ++ s.2.1.filter fun d => decide (d ≤ out)).length - 1),
   s.2.1.filter fun d => decide (out < d),
   s.2.2 ++ [((s.1 ++ s.2.1.filter fun d => decide (d ≤ out)).getD (if o then 0 else (s.1 ++ s.2.1.filter fun d => decide (d ≤ out)).length - 1) 0, out)])
def stC (o : Bool) (ps : List (Int × Int)) (m : Nat) : List Int × List Int × List (Int × Int) := ((outsF ps).take m).foldl (stepC o) ([], insF ps, [])
theorem stC_succ {o : Bool} {ps : List (Int × Int)} {m : Nat} {d : Int} (h : (outsF ps)[m]? = some d) : stC o ps (m + 1) = stepC o (stC o ps m) d := by
  unfold stC
  rw [List.take_add_one, h, List.foldl_append]
  rfl
theorem flt_two (l : List Int) (d : Int) : (l.filter fun x => decide (x ≤ d)).length + (l.filter fun x => decide (d < x)).length = l.length := by
  induction l with
  | nil => rfl
  | cons a l ih =>
    by_cases h : a ≤ d
    · have h2 : ¬ d < a := by omega
      simp only [List.filter_cons, h, h2, decide_true, decide_false, if_true, if_false, List.length_cons, Bool.false_eq_true]
      omega
    · have h2 : d < a := by omega
      simp only [List.filter_cons, h, h2, decide_true, decide_false, if_true, if_false, List.length_cons, Bool.false_eq_true]
      omega
theorem er_len (o : Bool) (t : List Int) (h : 0 < t.length) : (t.eraseIdx (if o then 0 else t.length - 1)).length + 1 = t.length := by
  rw [List.length_eraseIdx]
  cases o
  · rw [if_pos (by simp; omega)]
    omega
  · rw [if_pos (by simpa using h)]
    omega
theorem stC_ok {u : Int} {o : Bool} {ps : List (Int × Int)} (h : Lawf u ps) : ∀ m, m ≤ (outsF ps).length → (stC o ps m).2.1.Sublist (insF ps) ∧ (stC o ps m).1.length + (stC o ps m).2.1.length + m = (insF ps).length ∧ (stC o ps m).2.2.length = m
  | 0, _ => ⟨List.Sublist.refl _, by simp [stC], rfl⟩
  | m + 1, hm => by
    obtain ⟨i1, i2, i3⟩ := stC_ok (o := o) h m (by omega)
    obtain ⟨d, hd⟩ : ∃ d, (outsF ps)[m]? = some d := ⟨_, List.getElem?_eq_getElem (by omega)⟩
    have hc := outsF_cnt h hd
    rw [stC_succ hd]
    generalize stC o ps m = s at i1 i2 i3
    have h1 := flt_two s.2.1 d
    have h2 : (s.2.1.filter fun x => decide (d < x)).length ≤ ((insF ps).filter fun x => decide (d < x)).length := (i1.filter _).length_le
    have h3 := flt_two (insF ps) d
    refine ⟨(List.filter_sublist).trans i1, ?_, ?_⟩
    · have h4 := er_len o (s.1 ++ s.2.1.filter fun d' => decide (d' ≤ d)) (by rw [List.length_append]; omega)
      show (((s.1 ++ s.2.1.filter fun d' => decide (d' ≤ d)).eraseIdx _).length) + (s.2.1.filter fun x => decide (d < x)).length + (m + 1) = _
      rw [List.length_append] at h4
      rw [List.length_append]
      omega
    · show (s.2.2 ++ [_]).length = m + 1
      rw [List.length_append, i3]
      rfl
/-- .. so there is one -/
theorem stC_some {u : Int} {o : Bool} {ps : List (Int × Int)} (h : Lawf u ps) {m : Nat} {d : Int} (hd : (outsF ps)[m]? = some d) : 0 < ((stC o ps m).1 ++ (stC o ps m).2.1.filter fun x => decide (x ≤ d)).length := by
  have hm : m < (outsF ps).length := (List.getElem?_eq_some_iff.mp hd).1
  have h1 := (stC_ok (o := o) h (m + 1) hm).2.1
  have h2 := (stC_ok (o := o) h m (by omega)).2.1
  have h3 := outsF_cnt h hd
  have h4 := (stC_ok (o := o) h m (by omega)).1
  rw [List.length_append]
  have h5 : ((stC o ps m).2.1.filter fun x => decide (d < x)).length ≤ ((insF ps).filter fun x => decide (d < x)).length := (h4.filter _).length_le
  have h6 := flt_two (insF ps) d
  have h7 := flt_two (stC o ps m).2.1 d
  omega
theorem inz_er : ∀ (T : List Int) (i : Nat), (inz T).eraseIdx i = inz (T.eraseIdx i)
  | [], _ => rfl
  | _ :: _, 0 => rfl
  | t :: T, i + 1 => by
    show Da.int t :: (inz T).eraseIdx i = Da.int t :: inz (T.eraseIdx i)
    rw [inz_er T i]
theorem inz_getD {T : List Int} {i : Nat} (h : i < T.length) : (inz T)[i]? = some (.int (T.getD i 0)) := by
  rw [inz, List.getElem?_map, List.getD_eq_getElem?_getD, List.getElem?_eq_getElem h]
  rfl
theorem seqI {i n : Nat} (h : i < n) : seqIndex? (i : Int) n = some i := by
  unfold seqIndex?
  have h1 : ¬ ((i : Int) < 0) := by omega
  have h2 : (0 ≤ (i : Int) && (i : Int) < (n : Int)) = true := by simp; omega
  simp only [h1, if_false]
  rw [if_pos h2]
  rfl
section
variable {P : Program} {w : World} {K : PySem.W.Frag} {mg : Str → Option Value} {base : Heap}
def ruleS (o : Bool) : Str := if o then "oldest" else "newest"
def spChoice : Sp := SpFO (fun x : List (Int × Int) × Bool => [.lst (prs x.1), .str (ruleS x.2)]) (fun l x => Feed l ∧ x.1.length ≤ 1000 ∧ Lawf 1000 x.1) (fun l x l' r => l' = l ∧ r = prz (srtP (stC x.2 x.1 (outsF x.1).length).2.2))
end
end Law
namespace Law
open PySem PySem.Spec PyProof.Rows L2 Dd
/-- what is a choice of a log -/
def isChB (ps v : List (Int × Int)) : Bool := decide (v = srtP v) && (v.all fun p => decide (p.1 ≤ p.2)) && decide (v.map (·.1) = insF ps) && decide (srt (v.map (·.2)) = outsF ps)
/-- a log -/
def logF (ps : List (Int × Int)) : List (Str × Da) := [("days", .tup (prs ps)), ("days_in", .tup (inz (insF ps))), ("days_out", .tup (inz (outsF ps)))]
theorem isChB_iff {ps v : List (Int × Int)} : isChB ps v = true ↔ v = srtP v ∧ (∀ p ∈ v, p.1 ≤ p.2) ∧ v.map (·.1) = insF ps ∧ srt (v.map (·.2)) = outsF ps := by
  unfold isChB
  simp only [Bool.and_eq_true, decide_eq_true_eq, List.all_eq_true, and_assoc]
theorem sprd_shift : ∀ (cs : List Int) (i : Nat), sprd (i + 1) cs = (sprd i cs).map (· + 1)
  | [], _ => rfl
  | c :: cs, i => by
    rw [sprd, sprd, List.map_append, sprd_shift cs (i + 1), List.map_replicate]
    rfl
theorem isChB_more {ps c : List (Int × Int)} (h : isChB ps c = true) : isChB ((0, 0) :: ps) c = decide (c = []) := by
  obtain ⟨h1, h2, h3, h4⟩ := isChB_iff.mp h
  have e1 : insF ((0, 0) :: ps) = (insF ps).map (· + 1) := by
    show List.replicate 0 _ ++ sprd (0 + 1) (ps.map (·.1)) = _
    rw [sprd_shift]
    rfl
  by_cases hc : c = []
  · subst hc
    rw [decide_eq_true rfl, isChB_iff]
    have e0 : insF ps = [] := h3.symm
    have e2 : insF ((0, 0) :: ps) = [] := by rw [e1, e0]; rfl
    have e3 : outsA ps = [] := by
      have h5 : srt [] = outsF ps := h4
      have h6 : outsF ps = [] := by rw [← h5]; simp [srt]
      unfold outsF at h6
      exact (List.append_eq_nil_iff.mp h6).1
    have e4 : outsA ((0, 0) :: ps) = [] := by
      show List.replicate 0 _ ++ sprd (0 + 1) (ps.map (·.2)) = _
      rw [sprd_shift]
      show (outsA ps).map _ = []
      rw [e3]
      rfl
    refine ⟨by simp [srtP], (fun p hp => absurd hp (List.not_mem_nil)), e2.symm, ?_⟩
    unfold outsF
    rw [e2, e4]
    simp [srt]
  · rw [decide_eq_false hc]
    cases hb : isChB ((0, 0) :: ps) c with
    | false => rfl
    | true =>
      exfalso
      obtain ⟨_, _, g3, _⟩ := isChB_iff.mp hb
      rw [e1, ← h3] at g3
      cases c with
      | nil => exact hc rfl
      | cons p c =>
        simp only [List.map_cons, List.cons.injEq] at g3
        omega
theorem isChB_long {ps c : List (Int × Int)} (h : isChB ps c = true) (p : Int × Int) : isChB ps (c ++ [p]) = false := by
  obtain ⟨h1, h2, h3, h4⟩ := isChB_iff.mp h
  cases hb : isChB ps (c ++ [p]) with
  | false => rfl
  | true =>
    exfalso
    obtain ⟨_, _, g3, _⟩ := isChB_iff.mp hb
    have := congrArg List.length (g3.trans h3.symm)
    simp at this
theorem isChB_rev {ps c : List (Int × Int)} (h : isChB ps c = true) : isChB ps c.reverse = decide (c.reverse = c) := by
  by_cases hc : c.reverse = c
  · rw [hc, h, decide_eq_true rfl]
  · rw [decide_eq_false hc]
    cases hb : isChB ps c.reverse with
    | false => rfl
    | true =>
      exfalso
      obtain ⟨h1, _⟩ := isChB_iff.mp h
      obtain ⟨g1, _⟩ := isChB_iff.mp hb
      refine hc (srtP_uniq (List.reverse_perm c) ?_ ?_)
      · rw [g1]; exact srtP_sorted _
      · rw [h1]; exact srtP_sorted _
/-- the ends exchanged -/
def swp (c : List (Int × Int)) : List (Int × Int) := (c.set 0 (c.getD (c.length - 1) (0, 0))).set (c.length - 1) (c.getD 0 (0, 0))
theorem swp_len (c : List (Int × Int)) : (swp c).length = c.length := by simp [swp]
theorem swp_get {c : List (Int × Int)} (h : 1 < c.length) : (swp c).getD 0 (0, 0) = c.getD (c.length - 1) (0, 0) ∧ (swp c).getD (c.length - 1) (0, 0) = c.getD 0 (0, 0) := by
  unfold swp
  constructor
  · simp only [List.getD_eq_getElem?_getD, List.getElem?_set, List.length_set]
    rw [if_neg (by omega), if_pos trivial, if_pos (by omega)]
    rfl
  · simp only [List.getD_eq_getElem?_getD, List.getElem?_set, List.length_set]
    rw [if_pos trivial, if_pos (by omega)]
    rfl
theorem swp_swp {c : List (Int × Int)} (h : 1 < c.length) : swp (swp c) = c := by
  obtain ⟨e1, e2⟩ := swp_get h
  refine List.ext_getElem? fun i => ?_
  show (((swp c).set 0 ((swp c).getD ((swp c).length - 1) (0, 0))).set ((swp c).length - 1) ((swp c).getD 0 (0, 0)))[i]? = _
  rw [swp_len, e1, e2]
  unfold swp
  simp only [List.getElem?_set, List.length_set]
  by_cases h1 : c.length - 1 = i
  · rw [if_pos h1, if_pos (by omega), ← h1, List.getD_eq_getElem?_getD, List.getElem?_eq_getElem (by omega)]
    rfl
  · rw [if_neg h1]
    by_cases h2 : 0 = i
    · rw [if_pos h2, if_pos (by omega), ← h2, List.getD_eq_getElem?_getD, List.getElem?_eq_getElem (by omega)]
      rfl
    · rw [if_neg h2, if_neg h1, if_neg h2]
theorem isChB_swp {ps c : List (Int × Int)} (h : isChB ps c = true) (hl : 1 < c.length) (hd : c.getD 0 (0, 0) ≠ c.getD (c.length - 1) (0, 0)) : isChB ps (swp c) = false := by
  cases hb : isChB ps (swp c) with
  | false => rfl
  | true =>
    exfalso
    obtain ⟨h1, _⟩ := isChB_iff.mp h
    obtain ⟨g1, _⟩ := isChB_iff.mp hb
    have ord : ∀ v : List (Int × Int), v = srtP v → 1 < v.length → LexLe (v.getD 0 (0, 0)) (v.getD (v.length - 1) (0, 0)) := fun v e hv => by
      have hp : v.Pairwise LexLe := by rw [e]; exact srtP_sorted _
      have := List.pairwise_iff_getElem.mp hp 0 (v.length - 1) (by omega) (by omega) (by omega)
      simpa [List.getD_eq_getElem?_getD, List.getElem?_eq_getElem (show 0 < v.length by omega), List.getElem?_eq_getElem (show v.length - 1 < v.length by omega)] using this
    have o1 := ord c h1 hl
    have o2 := ord (swp c) g1 (by rw [swp_len]; exact hl)
    rw [swp_len, (swp_get hl).1, (swp_get hl).2] at o2
    unfold LexLe at o1 o2
    exact hd (Prod.ext (by omega) (by omega))
theorem eqD_bl (a b : Bool) : eqD (.bl a) (.bl b) = decide (a = b) := by
  unfold eqD
  rw [toPy, toPy, PyData.eqv]
  cases a <;> cases b <;> rfl
def pr (p : Int × Int) : Da := .tup [.int p.1, .int p.2]
theorem prz_at0 {c : List (Int × Int)} (h : 0 < c.length) : atI (prz c) 0 = some (pr (c.getD 0 (0, 0))) := by
  refine atI_nat (j := 0) ?_
  rw [prz, List.getElem?_map, List.getD_eq_getElem?_getD, List.getElem?_eq_getElem h]
  rfl
theorem ixN_e {n : Nat} (h : 0 < n) : ixN n (-1) = some (n - 1) := by
  unfold ixN
  rw [if_neg (by omega), if_pos (by omega)]
  congr 1
  omega
theorem ixN_0 {n : Nat} (h : 0 < n) : ixN n 0 = some 0 := by
  unfold ixN
  rw [if_pos (by omega), if_pos (by omega)]
  rfl
theorem prz_atE {c : List (Int × Int)} (h : 0 < c.length) : atI (prz c) (-1) = some (pr (c.getD (c.length - 1) (0, 0))) := by
  have hz : (prz c).length = c.length := by simp [prz]
  unfold atI
  rw [hz, ixN_e h]
  show (prz c)[c.length - 1]? = _
  rw [prz, List.getElem?_map, List.getD_eq_getElem?_getD, List.getElem?_eq_getElem (by omega)]
  rfl
theorem prz_set (c : List (Int × Int)) (i : Nat) (p : Int × Int) : (prz c).set i (pr p) = prz (c.set i p) := by
  rw [prz, prz, List.map_set]
  rfl
theorem prz_swp (c : List (Int × Int)) : ((prz c).set 0 (pr (c.getD (c.length - 1) (0, 0)))).set (((prz c).set 0 (pr (c.getD (c.length - 1) (0, 0)))).length - 1) (pr (c.getD 0 (0, 0))) = prz (swp c) := by
  rw [List.length_set, prz_set, prz_set]
  have hz : (prz c).length = c.length := by simp [prz]
  rw [hz]
  rfl
theorem Lawf.zero {u : Int} {ps : List (Int × Int)} (h : Lawf u ps) : Lawf u ((0, 0) :: ps) := by
  refine ⟨fun p hp => ?_, ?_, fun m => ?_⟩
  · rcases List.mem_cons.mp hp with e | e
    · subst e; exact ⟨Int.le_refl _, Int.le_refl _⟩
    · exact h.pos p e
  · have := h.sum
    simpa using this
  · cases m with
    | zero => simp
    | succ m =>
      have := h.stk m
      simpa using this
def logD (C : Addr) (ps : List (Int × Int)) : Da := .ins C (logF ps)
def spIsC (C : Addr) : Sp := SpT (fun x : List (Int × Int) × List (Int × Int) => [logD C x.1, .lst (prz x.2)]) (fun x => x.1.length ≤ 2000 ∧ Lawf 1000 x.1 ∧ x.2.length ≤ 2000) (fun x r => r = .bl (isChB x.1 x.2))
def spLog (C : Addr) : Sp := SpG (fun _ => []) (fun ps : List (Int × Int) => [.lst (prs ps)]) (fun o ps => o = .ins C [] ∧ ps.length ≤ 2000 ∧ Lawf 1000 ps) (fun _ ps o' r => o' = .ins C (logF ps) ∧ r = .non)
def spChd (C : Addr) : Sp := SpG (fun x : List (Int × Int) × List (Int × Int) => [logD C x.1, .lst (prs x.1)]) (fun _ => []) (fun o x => o = .lst (prz x.2) ∧ x.1.length ≤ 1000 ∧ Lawf 1000 x.1 ∧ isChB x.1 x.2 = true) (fun o x o' r => o' = o ∧ r = .bl true)
section
variable {P : Program} {w : World} {K : PySem.W.Frag} {mg : Str → Option Value} {base : Heap} {C : Addr}
theorem nx_tail {F : Fx} {ρ : List Sl} {D : Ends} {ps c : List (Int × Int)} (e0 : ρ[0]? = some (.is (logD C ps))) (e2 : ρ[2]? = some (.own true (.lst (prz c)))) (h1 : ps.length ≤ 2000) (hL : Lawf 1000 ps) (h2 : c.length ≤ 2000) (hc : isChB ps c = true) (q : RtD F ρ (.bl true) D.rt) :
    Nx F ρ (tRet (tCall (spIsC C) [] E0 (tCons (tVar 0) (tCons (tVar 2) tNil))) D) := by
  refine nx_ret (wp_call (wa_cons (wp_var e0 (wa_cons (wp_varO e2 (wa_nil ⟨(ps, c), ?_, ⟨h1, hL, h2⟩, .inr (fun r hr => by rw [hr]; rfl), fun r hr => ?_⟩))))))
  · refine .cons rfl (.cons ?_ .nil)
    have e : see ρ (.sl 2) = some (.lst (prz c)) := by
      simp only [see, e2]
      rfl
    exact seeX_of e (fun C z => by cases z)
  · obtain rfl := hr
    rw [hc]
    exact rk_da q
end
end Law
namespace Law
open PySem PySem.Spec PyProof.Rows L2 Dd
def Asc (l : List Int) : Prop := l.Pairwise (· ≤ ·)
theorem sprd_asc : ∀ (cs : List Int) (i : Nat), Asc (sprd i cs)
  | [], _ => .nil
  | c :: cs, i => by
    refine List.pairwise_append.mpr ⟨?_, sprd_asc cs (i + 1), fun a ha b hb => ?_⟩
    · exact List.pairwise_replicate.mpr (.inr (Int.le_refl _))
    · rw [(List.mem_replicate.mp ha).2]
      have := sprd_ge cs (i + 1) b hb
      omega
theorem outsF_asc (ps : List (Int × Int)) : Asc (outsF ps) := by
  refine List.pairwise_append.mpr ⟨sprd_asc _ _, List.pairwise_replicate.mpr (.inr (Int.le_refl _)), fun a ha b hb => ?_⟩
  rw [(List.mem_replicate.mp hb).2]
  have := sprd_lt _ _ a ha
  rw [List.length_map] at this
  omega
/-- of an ascending list the small ones stand first -/
theorem asc_split : ∀ {l : List Int} (d : Int), Asc l → (l.filter fun x => decide (x ≤ d)) ++ (l.filter fun x => decide (d < x)) = l
  | [], _, _ => rfl
  | a :: l, d, h => by
    have h1 := asc_split d (List.Pairwise.of_cons h)
    have h2 : ∀ x ∈ l, a ≤ x := fun x hx => List.rel_of_pairwise_cons h hx
    by_cases ha : a ≤ d
    · have hb : ¬ d < a := by omega
      simp only [List.filter_cons, ha, hb, decide_true, decide_false, if_true, Bool.false_eq_true, if_false, List.cons_append]
      rw [h1]
    · have hb : d < a := by omega
      have e1 : (l.filter fun x => decide (x ≤ d)) = [] := List.filter_eq_nil_iff.mpr fun x hx hq => by
        have := h2 x hx
        have := of_decide_eq_true hq
        omega
      have e2 : (l.filter fun x => decide (d < x)) = l := List.filter_eq_self.mpr fun x hx => decide_eq_true (by have := h2 x hx; omega)
      simp only [List.filter_cons, ha, hb, decide_true, decide_false, if_true, Bool.false_eq_true, if_false, e1, e2, List.nil_append]
theorem erase_perm : ∀ (l : List Int) (k : Nat) (h : k < l.length), (l[k] :: l.eraseIdx k).Perm l
  | [], _, h => absurd h (Nat.not_lt_zero _)
  | a :: l, 0, _ => List.Perm.refl _
  | a :: l, k + 1, h => by
    have h1 := erase_perm l k (Nat.lt_of_succ_lt_succ h)
    exact (List.Perm.swap _ _ _).trans (List.Perm.cons a h1)
theorem stC_perm {u : Int} {o : Bool} {ps : List (Int × Int)} (h : Lawf u ps) : ∀ m, m ≤ (outsF ps).length → ((stC o ps m).2.2.map (·.1) ++ ((stC o ps m).1 ++ (stC o ps m).2.1)).Perm (insF ps) ∧ (stC o ps m).2.2.map (·.2) = (outsF ps).take m ∧ Asc (stC o ps m).2.1 ∧
    (∀ p ∈ (stC o ps m).2.2, p.1 ≤ p.2) ∧ ∀ x ∈ (stC o ps m).1, ∀ d ∈ (outsF ps).drop m, x ≤ d
  | 0, _ => ⟨List.Perm.refl _, rfl, sprd_asc _ _, fun p hp => absurd hp (List.not_mem_nil), fun x hx => absurd hx (List.not_mem_nil)⟩
  | m + 1, hm => by
    obtain ⟨i1, i2, i3, i4, i5⟩ := stC_perm (o := o) h m (by omega)
    obtain ⟨d, hd⟩ : ∃ d, (outsF ps)[m]? = some d := ⟨_, List.getElem?_eq_getElem (by omega)⟩
    have hs := stC_some (o := o) h hd
    rw [stC_succ hd]
    generalize stC o ps m = s at i1 i2 i3 i4 i5 hs
    unfold stepC
    generalize hT : s.1 ++ s.2.1.filter (fun d' => decide (d' ≤ d)) = T at hs ⊢
    generalize hk : (if o then 0 else T.length - 1) = k
    have hkl : k < T.length := by
      rw [← hk]
      split <;> omega
    have hdrop : (outsF ps).drop m = d :: (outsF ps).drop (m + 1) := by
      have hm' : m < (outsF ps).length := by omega
      rw [List.drop_eq_getElem_cons hm']
      congr 1
      rw [List.getElem?_eq_getElem hm'] at hd
      exact Option.some.inj hd
    have hTd : ∀ x ∈ T, x ≤ d := fun x hx => by
      rw [← hT] at hx
      rcases List.mem_append.mp hx with hx | hx
      · exact i5 x hx d (by rw [hdrop]; exact List.mem_cons_self)
      · exact of_decide_eq_true (List.mem_filter.mp hx).2
    have hgd : T.getD k 0 = T[k] := by rw [List.getD_eq_getElem?_getD, List.getElem?_eq_getElem hkl]; rfl
    have hmem : T.getD k 0 ∈ T := by rw [hgd]; exact List.getElem_mem hkl
    have hper : (T[k] :: T.eraseIdx k).Perm T := erase_perm T k hkl
    have hda : ∀ x ∈ (outsF ps).drop (m + 1), d ≤ x := by
      have h1 := (outsF_asc ps)
      have h2 : Asc ((outsF ps).drop m) := h1.sublist (List.drop_sublist _ _)
      rw [hdrop] at h2
      exact fun x hx => List.rel_of_pairwise_cons h2 hx
    refine ⟨?_, ?_, i3.sublist List.filter_sublist, fun p hp => ?_, fun x hx e he => ?_⟩
    · refine List.Perm.trans ?_ i1
      show ((s.2.2 ++ [(T.getD k 0, d)]).map (·.1) ++ (T.eraseIdx k ++ s.2.1.filter fun x => decide (d < x))).Perm _
      rw [List.map_append, List.append_assoc]
      refine List.Perm.append_left _ ?_
      show (T.getD k 0 :: (T.eraseIdx k ++ s.2.1.filter fun x => decide (d < x))).Perm _
      rw [hgd]
      refine (List.Perm.append_right _ hper).trans ?_
      rw [← hT, List.append_assoc, asc_split d i3]
    · show (s.2.2 ++ [(T.getD k 0, d)]).map (·.2) = _
      rw [List.map_append, i2, List.take_add_one, hd]
      rfl
    · rcases List.mem_append.mp hp with hp | hp
      · exact i4 p hp
      · rw [List.mem_singleton.mp hp]
        exact hTd _ hmem
    · have hx : x ∈ T := List.mem_of_mem_eraseIdx hx
      have h1 := hTd x hx
      have h2 := hda e he
      omega
def choF (o : Bool) (ps : List (Int × Int)) : List (Int × Int) := srtP (stC o ps (outsF ps).length).2.2
theorem asc_uniq {a b : List Int} (p : a.Perm b) (h1 : Asc a) (h2 : Asc b) : a = b := p.eq_of_pairwise (fun x y _ _ h3 h4 => Int.le_antisymm h3 h4) h1 h2
theorem stC_end {u : Int} {o : Bool} {ps : List (Int × Int)} (h : Lawf u ps) : (stC o ps (outsF ps).length).1 = [] ∧ (stC o ps (outsF ps).length).2.1 = [] := by
  have h1 := (stC_ok (o := o) h (outsF ps).length (Nat.le_refl _)).2.1
  rw [outsF_len h] at h1
  rw [outsF_len h]
  constructor
  · exact List.eq_nil_of_length_eq_zero (by omega)
  · exact List.eq_nil_of_length_eq_zero (by omega)
theorem choF_ok {u : Int} {o : Bool} {ps : List (Int × Int)} (h : Lawf u ps) : isChB ps (choF o ps) = true := by
  obtain ⟨i1, i2, _, i4, _⟩ := stC_perm (o := o) h (outsF ps).length (Nat.le_refl _)
  obtain ⟨e1, e2⟩ := stC_end (o := o) h
  rw [e1, e2, List.append_nil, List.append_nil] at i1
  rw [List.take_length] at i2
  have hp : (choF o ps).Perm (stC o ps (outsF ps).length).2.2 := srtP_perm _
  have hs : (choF o ps).Pairwise LexLe := srtP_sorted _
  refine isChB_iff.mpr ⟨srtP_uniq (srtP_perm _).symm hs (srtP_sorted _), fun p hq => i4 p (hp.mem_iff.mp hq), ?_, ?_⟩
  · refine asc_uniq ((hp.map _).trans i1) ?_ (sprd_asc _ _)
    refine List.pairwise_map.mpr (hs.imp fun {a b} hab => ?_)
    unfold LexLe at hab
    omega
  · refine asc_uniq ((srt_perm _).trans ((hp.map _).trans ?_)) (srt_sorted _) (outsF_asc ps)
    rw [i2]
/-- the oldest first: the days in beside the days out -/
theorem stC_old {u : Int} {ps : List (Int × Int)} (h : Lawf u ps) : ∀ m, m ≤ (outsF ps).length → (stC true ps m).1 ++ (stC true ps m).2.1 = (insF ps).drop m ∧ (stC true ps m).2.2 = ((insF ps).zip (outsF ps)).take m
  | 0, _ => ⟨rfl, rfl⟩
  | m + 1, hm => by
    obtain ⟨i1, i2⟩ := stC_old h m (by omega)
    obtain ⟨_, _, i3, _, _⟩ := stC_perm (o := true) h m (by omega)
    obtain ⟨d, hd⟩ : ∃ d, (outsF ps)[m]? = some d := ⟨_, List.getElem?_eq_getElem (by omega)⟩
    have hs := stC_some (o := true) h hd
    rw [stC_succ hd]
    generalize stC true ps m = s at i1 i2 i3 hs
    unfold stepC
    have hmi : m < (insF ps).length := by rw [← outsF_len h]; omega
    have hT : (s.1 ++ s.2.1.filter (fun d' => decide (d' ≤ d))) ++ s.2.1.filter (fun x => decide (d < x)) = (insF ps)[m] :: (insF ps).drop (m + 1) := by
      rw [List.append_assoc, asc_split d i3, i1, List.drop_eq_getElem_cons hmi]
    generalize s.1 ++ s.2.1.filter (fun d' => decide (d' ≤ d)) = T at hs hT ⊢
    cases T with
    | nil => exact absurd hs (by simp)
    | cons t T =>
      rw [List.cons_append] at hT
      injection hT with h1 h2
      refine ⟨h2, ?_⟩
      show s.2.2 ++ [(t, d)] = _
      have hz : ((insF ps).zip (outsF ps))[m]? = some ((insF ps)[m], d) := List.getElem?_zip_eq_some.mpr ⟨List.getElem?_eq_getElem hmi, hd⟩
      rw [List.take_add_one, i2, hz, h1]
      rfl
theorem choF_old {u : Int} {ps : List (Int × Int)} (h : Lawf u ps) : choF true ps = (insF ps).zip (outsF ps) := by
  have h1 := (stC_old h (outsF ps).length (Nat.le_refl _)).2
  rw [List.take_of_length_le (by rw [List.length_zip]; exact Nat.min_le_right _ _)] at h1
  unfold choF
  rw [h1]
  refine srtP_uniq (srtP_perm _) (srtP_sorted _) ?_
  refine List.pairwise_iff_getElem.mpr fun i j hi hj hij => ?_
  rw [List.getElem_zip, List.getElem_zip]
  have hi1 : i < (insF ps).length := Nat.lt_of_lt_of_le hi (by rw [List.length_zip]; exact Nat.min_le_left _ _)
  have hj1 : j < (insF ps).length := Nat.lt_of_lt_of_le hj (by rw [List.length_zip]; exact Nat.min_le_left _ _)
  have hi2 : i < (outsF ps).length := Nat.lt_of_lt_of_le hi (by rw [List.length_zip]; exact Nat.min_le_right _ _)
  have hj2 : j < (outsF ps).length := Nat.lt_of_lt_of_le hj (by rw [List.length_zip]; exact Nat.min_le_right _ _)
  have a : (insF ps)[i] ≤ (insF ps)[j] := List.pairwise_iff_getElem.mp (show Asc (insF ps) from sprd_asc _ _) i j hi1 hj1 hij
  have b : (outsF ps)[i] ≤ (outsF ps)[j] := List.pairwise_iff_getElem.mp (outsF_asc ps) i j hi2 hj2 hij
  show (insF ps)[i] < (insF ps)[j] ∨ ((insF ps)[i] = (insF ps)[j] ∧ (outsF ps)[i] ≤ (outsF ps)[j])
  omega
end Law
namespace Law
open PySem PySem.Spec PyProof.Rows L2 Dd
theorem new_step {I l a : List Int} {j : Nat} {e : Int} (h : Asc l) (ha : l = a ++ I.drop j) (hae : ∀ x ∈ a, x ≤ e) (hex : I.drop j = [] ∨ ∃ y r, I.drop j = y :: r ∧ e < y) : (l.filter fun x => decide (x ≤ e)) = a ∧ (l.filter fun x => decide (e < x)) = I.drop j := by
  subst ha
  have h1 : Asc (I.drop j) := (List.pairwise_append.mp h).2.1
  have hb : ∀ x ∈ I.drop j, e < x := by
    rcases hex with e0 | ⟨y, r, e0, hy⟩
    · rw [e0]; exact fun x hx => absurd hx (List.not_mem_nil)
    · rw [e0] at h1 ⊢
      intro x hx
      rcases List.mem_cons.mp hx with z | z
      · rw [z]; exact hy
      · have h5 : y ≤ x := List.rel_of_pairwise_cons h1 z
        omega
  constructor
  · rw [List.filter_append, List.filter_eq_self.mpr fun x hx => decide_eq_true (hae x hx), List.filter_eq_nil_iff.mpr fun x hx q => by
      have := hb x hx
      have := of_decide_eq_true q
      omega, List.append_nil]
  · rw [List.filter_append, List.filter_eq_self.mpr fun x hx => decide_eq_true (hb x hx), List.filter_eq_nil_iff.mpr fun x hx q => by
      have := hae x hx
      have := of_decide_eq_true q
      omega, List.nil_append]
theorem inz_last (T : List Int) : (inz T).dropLast = inz (T.eraseIdx (T.length - 1)) := by
  rw [List.eraseIdx_length_sub_one, inz, inz, List.map_dropLast]
theorem stC_new {ps : List (Int × Int)} {m : Nat} {e : Int} {a b : List Int} (hd : (outsF ps)[m]? = some e) (h1 : ((stC false ps m).2.1.filter fun x => decide (x ≤ e)) = a) (h2 : ((stC false ps m).2.1.filter fun x => decide (e < x)) = b) :
    stC false ps (m + 1) = (((stC false ps m).1 ++ a).eraseIdx (((stC false ps m).1 ++ a).length - 1), b, (stC false ps m).2.2 ++ [(((stC false ps m).1 ++ a).getD (((stC false ps m).1 ++ a).length - 1) 0, e)]) := by
  rw [stC_succ hd]
  unfold stepC
  rw [h1, h2]
  rfl
section
variable {P : Program} {w : World} {K : PySem.W.Frag} {mg : Str → Option Value} {base : Heap} {C : Addr}
def spNew : Sp := SpO (fun ps : List (Int × Int) => [.tup (inz (insF ps)), .tup (inz (outsF ps))]) (fun ps => ps.length ≤ 2000 ∧ Lawf 1000 ps) (fun ps r => r = prz (choF false ps))
end
end Law
namespace Law
open PySem PySem.Spec PyProof.Rows L2 Dd
section
variable {P : Program} {w : World} {K : PySem.W.Frag} {mg : Str → Option Value} {base : Heap} {C : Addr}
def isWh : Da → Bool
  | .int _ => true
  | _ => false
def spWh : Sp := SpT (fun d : Da => [d]) (fun d => (kindD d).isSome = true) (fun d r => r = .bl (isWh d))
/-- a pair of whole numbers, asked by its form -/
def spWhP : Sp := SpT (fun x : List Da × Int => [.tup x.1, .int x.2]) (fun x => (∀ d ∈ x.1, (kindD d).isSome = true) ∧ x.1.length ≤ 100000) (fun x r => r = .bl (decide ((x.1.length : Int) = x.2) && x.1.all isWh))
end
end Law
namespace Law
open PySem PySem.Spec PyProof.Rows L2 Dd
theorem sc_each : FnScope ["numbers", "found", "day", "number"] ["numbers"] (defScope (topS 12)) := ⟨rfl, rfl, rfl, by decide +kernel, rfl, by decide +kernel, by decide +kernel⟩
theorem sc_check : FnScope ["days", "stock", "day", "arrived", "left"] ["days"] (defScope (topS 11)) := ⟨rfl, rfl, rfl, by decide +kernel, rfl, by decide +kernel, by decide +kernel⟩
theorem inz_get {cs : List Int} {m : Nat} {c : Int} (h : cs[m]? = some c) : (inz cs)[m]? = some (.int c) := by
  rw [inz, List.getElem?_map, h]
  rfl
theorem sprd_take {cs : List Int} {m : Nat} {c : Int} (h : cs[m]? = some c) : sprd 0 (cs.take (m + 1)) = sprd 0 (cs.take m) ++ List.replicate c.toNat (m : Int) := by
  have hm := (List.getElem?_eq_some_iff.mp h).1
  rw [List.take_add_one, h]
  have := sprd_snoc (cs.take m) 0 c
  rw [List.length_take, Nat.min_eq_left (Nat.le_of_lt hm), Nat.zero_add] at this
  exact this
theorem sprd_takeLe (cs : List Int) (m : Nat) (h : ∀ c ∈ cs, 0 ≤ c) : ((sprd 0 (cs.take m)).length : Int) ≤ cs.sum := by
  rw [sprd_len _ _ fun c hc => h c (List.mem_of_mem_take hc)]
  exact sum_le_of_take cs m h
section
variable {P : Program} {w : World} {K : PySem.W.Frag} {mg : Str → Option Value} {base : Heap}
def spEach : Sp := SpT (fun cs : List Int => [.lst (inz cs)]) (fun cs => (∀ c ∈ cs, 0 ≤ c) ∧ cs.sum ≤ 5000) (fun cs r => r = .tup (inz (sprd 0 cs)))
theorem ok_each {f : Addr} {fd : FuncData} (F : Fun K "_each_day" "_each_day" (topS 12) f fd) (me : mg "enumerate" = none) (mt : mg "tuple" = none) : FnOk P w K mg base CX0 1 f fd ["numbers"] spEach := by
  refine F.ok sc_each (fun vs H Q E h => ?_) (fun cdv A outer s H vs Q E hr h => ?_)
  · obtain ⟨n, x, _, h, _⟩ := h
    simp [h.length]
  · obtain ⟨n, cs, al, h3, ⟨hpos, hsum⟩, q⟩ := h
    have nd := sc_each.nd
    have hKI : KIs K := trivial
    refine' ⟨?t, ?pp, ?rd⟩
    case pp => walk_at "pss"
    case rd =>
      refine in_T al h3 rfl ?_
      show Nx _ [.is (.lst (inz cs)), .no, .no, .no] _
      walk_at "go"
      refine nx_forI (wi_enum ?_)
      walk_at "go"
      refine ⟨_, _, rfl, .lst _, fun m ρ' => ∃ s2 s3, m ≤ cs.length ∧ ρ' = [.is (.lst (inz cs)), .own false (.lst (inz (sprd 0 (cs.take m)))), s2, s3], ?_, ?_, ?_⟩
      · exact ⟨.no, .no, Nat.zero_le _, rfl⟩
      · rintro G m d ρ' hw hd ⟨s2, s3, hm, rfl⟩
        rw [enumD_get] at hd
        cases hc : cs[m]? with
        | none => rw [inz, List.getElem?_map, hc] at hd; cases hd
        | some c =>
          rw [inz_get hc] at hd
          obtain rfl := (Option.some.inj hd).symm
          have hm1 := (List.getElem?_eq_some_iff.mp hc).1
          have hc0 := hpos c (List.mem_of_getElem? hc)
          have hz := sprd_takeLe cs m hpos
          have hz1 := sprd_takeLe cs (m + 1) hpos
          rw [sprd_take hc, List.length_append, List.length_replicate] at hz1
          refine ⟨_, tg_tup (tgs_cons tg_name (tgs_cons tg_name tgs_nil)) rfl, ?_⟩
          walk_at "go"
          refine wp_extend rfl ?_
          walk_at "go"
          refine ⟨_, op_timesL rfl rfl ⟨by omega, by omega, le_line (by simp; omega)⟩, ?_⟩
          walk_at "go"
          refine ⟨_, _, _, rfl, rfl, rfl, le_line (by rw [inz_len, inz_rep, inz_len, List.length_replicate]; omega), ?_⟩
          walk_at "go"
          refine nx_at ⟨.is (.int (m : Nat)), .is (.int c), hm1, ?_⟩
          rw [sprd_take hc, inz_app, ← inz_rep]
          rfl
      · rintro ρ' ⟨s2, s3, hm, rfl⟩
        rw [enumD_len, inz_len, List.take_length]
        walk_at "go"
        exact rt_T q .refl rfl
def spChk : Sp := SpT (fun ps : List (Int × Int) => [.tup (prs ps)]) (fun ps => Lawf 1000 ps) (fun ps r => r = .non)
theorem take_sum {ps : List (Int × Int)} {m : Nat} {p : Int × Int} (h : ps[m]? = some p) : ((ps.take (m + 1)).map fun p => p.1 - p.2).sum = ((ps.take m).map fun p => p.1 - p.2).sum + p.1 - p.2 := by
  rw [List.take_add_one, h, List.map_append, List.sum_append]
  simp
  omega
theorem ok_check {f : Addr} {fd : FuncData} (F : Fun K "_check_lawful" "_check_lawful" (topS 11) f fd) (me : mg "enumerate" = none) : FnOk P w K mg base CX0 1 f fd ["days"] spChk := by
  refine F.ok sc_check (fun vs H Q E h => ?_) (fun cdv A outer s H vs Q E hr h => ?_)
  · obtain ⟨n, x, _, h, _⟩ := h
    simp [h.length]
  · obtain ⟨n, ps, al, h3, hL, q⟩ := h
    have nd := sc_check.nd
    have hKI : KIs K := trivial
    replace hL : Lawf 1000 ps := hL
    refine' ⟨?t, ?pp, ?rd⟩
    case pp =>
      refine' pss_cons ?a (pss_one ?b)
      case a => walk_at "ps"
      case b =>
        refine' ps_for PassesOwn.never rfl ?i ?g ?b
        case i => walk_at "pi"
        case g => walk_at "pg"
        case b =>
          refine' pss_cons ?s1 (pss_one ?s2)
          case s1 => walk_at "ps"
          case s2 =>
            refine' ps_if ?c (pss_one ps_no) ?e
            case c => walk_at "pt"
            case e => walk_at "pss"
    case rd =>
      refine in_T al h3 rfl ?_
      show Nx _ [.is (.tup (prs ps)), .no, .no, .no, .no] _
      walk_at "go"
      dsimp only
      refine nx_forI (wi_enum ?_)
      walk_at "go"
      refine ⟨_, _, rfl, .tup _, fun m ρ' => ∃ s2 s3 s4, m ≤ ps.length ∧ ρ' = [.is (.tup (prs ps)), .is (.int ((ps.take m).map fun p => p.1 - p.2).sum), s2, s3, s4], ?_, ?_, ?_⟩
      · exact ⟨.no, .no, .no, Nat.zero_le _, rfl⟩
      · rintro G m d ρ' hw hd ⟨s2, s3, s4, hm, rfl⟩
        rw [enumD_get] at hd
        cases hc : ps[m]? with
        | none => rw [prs, List.getElem?_map, hc] at hd; cases hd
        | some p =>
          rw [prs_get hc] at hd
          obtain rfl := (Option.some.inj hd).symm
          have hm1 := (List.getElem?_eq_some_iff.mp hc).1
          have hs := hL.stk (m + 1)
          rw [take_sum hc] at hs
          refine ⟨_, tg_tup (tgs_cons tg_name (tgs_cons (tg_tup (tgs_cons tg_name (tgs_cons tg_name tgs_nil)) rfl) tgs_nil)) rfl, ?_⟩
          walk_at "go"
          refine ⟨fun hb => absurd (of_decide_eq_true hb) (by omega), fun _ => ?_⟩
          walk_at "go"
          refine nx_at ⟨.is (.int (m : Nat)), .is (.int p.1), .is (.int p.2), hm1, ?_⟩
          rw [take_sum hc]
          rfl
      · rintro ρ' ⟨s2, s3, s4, hm, rfl⟩
        intro n' σ' H' E'
        exact rt_T (ρ := _) q .refl rfl n' σ' H' _ E' .non
end
end Law
namespace Law
open PySem PySem.Spec PyProof.Rows L2 Dd
theorem sc_log : FnScope ["self", "days", "arrived", "left", "_", "leaving", "closing"] ["self", "days"] (defScope (inClass (topS 10) 0)) := ⟨rfl, rfl, rfl, by decide +kernel, rfl, by decide +kernel, by decide +kernel⟩
/-- what is asked of the class Log -/
structure LogC (K : PySem.W.Frag) (C : Addr) : Prop where
  cl : Cls K C
  nd : NoAttr K C "days"
  ni : NoAttr K C "days_in"
  no : NoAttr K C "days_out"
theorem prs_fst (ps : List (Int × Int)) : ps.map (fun p : Int × Int => Da.int p.1) = inz (ps.map (·.1)) := by rw [inz, List.map_map]; rfl
theorem prs_snd (ps : List (Int × Int)) : ps.map (fun p : Int × Int => Da.int p.2) = inz (ps.map (·.2)) := by rw [inz, List.map_map]; rfl
theorem Lawf.ins {u : Int} {ps : List (Int × Int)} (h : Lawf u ps) : ∀ c ∈ ps.map (·.1), 0 ≤ c := fun c hc => by
  obtain ⟨p, hp, rfl⟩ := List.mem_map.mp hc
  exact (h.pos p hp).1
theorem Lawf.outs0 {u : Int} {ps : List (Int × Int)} (h : Lawf u ps) : ∀ c ∈ ps.map (·.2), 0 ≤ c := fun c hc => by
  obtain ⟨p, hp, rfl⟩ := List.mem_map.mp hc
  exact (h.pos p hp).2
theorem Lawf.sum2 {u : Int} {ps : List (Int × Int)} (h : Lawf u ps) : (ps.map (·.2)).sum ≤ u := by
  have h1 := sprd_len (ps.map (·.2)) 0 h.outs0
  have h2 := outsA_len h
  have h3 := insF_len h
  unfold outsA at h2
  omega
section
local macro_rules | `(tactic| walk_at "opb") => `(tactic| first | (refine' op_plus2K ?m ?h; (case m => assumption); (case h => exact rfl)) | (refine' op_times2K ?m ?h; (case m => assumption); (case h => exact rfl)) | exact op_sub)
variable {P : Program} {w : World} {K : PySem.W.Frag} {mg : Str → Option Value} {base : Heap} {C : Addr}
/-- days as a list or as a tuple -/
def spLogA (C : Addr) : Sp := SpG (fun _ => []) (fun x : Da × List (Int × Int) => [x.1]) (fun o x => o = .ins C [] ∧ Sq x.1 (prs x.2) ∧ x.2.length ≤ 2000 ∧ Lawf 1000 x.2) (fun _ x o' r => o' = .ins C (logF x.2) ∧ r = .non)
theorem ok_log {f : Addr} {fd : FuncData} (F : Fun K "__init__" "Log.__init__" (inClass (topS 10) 0) f fd) (L : LogC K C) (cc : Calb P w K mg base 1 "_check_lawful" spChk) (ce : Calb P w K mg base 1 "_each_day" spEach) (mt : mg "tuple" = none) (ml : mg "len" = none) :
    FnOk P w K mg base CX0 3 f fd ["self", "days"] (spLogA C) := by
  refine F.ok sc_log (fun vs H Q E h => ?_) (fun cdv A outer s H vs Q E hr h => ?_)
  · obtain ⟨n, f, vs1, vs2, o, x, rfl, _, _, _, h1, h2, _⟩ := h
    simp [h1.length, h2.length]
  · obtain ⟨n, f, vs1, vs2, o, ⟨dd, ps⟩, rfl, hf, al, ho, h1, h2, ⟨rfl, hsq, hlen, hL⟩, q⟩ := h
    have nd := sc_log.nd
    have hKI : KIs K := trivial
    replace hlen : ps.length ≤ 2000 := hlen
    replace hL : Lawf 1000 ps := hL
    replace hsq : Sq dd (prs ps) := hsq
    refine' ⟨?t, ?pp, ?rd⟩
    case pp => walk_at "pss"
    case rd =>
      refine in_G hf al ho h1 h2 rfl ?_
      show Nx _ [.own true (.ins C []), .is dd, .no, .no, .no, .no, .no] _
      have hN1 := L.nd
      have hcl := L.cl
      have e0 : ps.map (fun p : Int × Int => Da.tup [.int p.1, .int p.2]) = prs ps := rfl
      walk_at "go"
      refine Wp.imp (Φ := fun k ρ' => k = .nw (prs ps) ∧ ρ' = [.own true (.ins C []), .is dd, .no, .no, .no, .no, .no]) ?_ ?_
      · have hbody : LcK (gTup K 2 (gCons (gName 2) (gCons (gName 3) gNil))) tYes (tTup (tCons (tVar 2) (tCons (tVar 3) tNil))) [2, 3] (fun k ρ' => k = .nw (prs ps) ∧ ρ' = [.own true (.ins C []), .is dd, .no, .no, .no, .no, .no]) (prs ps) [.own true (.ins C []), .is dd, .no, .no, .no, .no, .no] := by
          refine lc_map (enc := fun p : Int × Int => Da.tup [.int p.1, .int p.2]) (xs := ps) (fun p => .tup [.int p.1, .int p.2]) (by omega) (fun p hp => ?_) ?_
          · refine ⟨_, by walk_at "tgc", ?_⟩
            walk_at "go"
            exact ⟨rfl, rfl⟩
          · exact ⟨rfl, rfl⟩
        cases hsq with
        | lst =>
          refine wp_lcI (wi_lst ?_)
          walk_at "go"
          exact ⟨_, rfl, hbody⟩
        | tup =>
          refine wp_lcI (wi_tup ?_)
          walk_at "go"
          exact ⟨_, rfl, hbody⟩
      rintro _ _ ⟨rfl, rfl⟩
      walk_at "go"
      refine wp_call ?_
      walk_at "go"
      refine ⟨ps, by walk_at "sees", hL, .inl (by walk_at "allda"), fun r hr => ?_⟩
      obtain rfl := hr
      walk_at "go"
      refine wp_call ?_
      walk_at "go"
      refine wp_lcI (wi_tup ?_)
      walk_at "go"
      have hI := L.ni
      have hO := L.no
      refine ⟨_, rfl, lc_map (enc := fun p : Int × Int => Da.tup [.int p.1, .int p.2]) (xs := ps) (fun p => .int p.1) (by omega) (fun p hp => ?_) ?_⟩
      · refine ⟨_, by walk_at "tgc", ?_⟩
        walk_at "go"
        exact ⟨rfl, rfl⟩
      rw [prs_fst]
      walk_at "go"
      refine ⟨ps.map (·.1), by walk_at "sees", ⟨hL.ins, by have := hL.sum; omega⟩, .inl (by walk_at "allda"), fun r hr => ?_⟩
      obtain rfl := hr
      walk_at "go"
      refine wp_call ?_
      walk_at "go"
      refine wp_lcI (wi_tup ?_)
      walk_at "go"
      refine ⟨_, rfl, lc_map (enc := fun p : Int × Int => Da.tup [.int p.1, .int p.2]) (xs := ps) (fun p => .int p.2) (by omega) (fun p hp => ?_) ?_⟩
      · refine ⟨_, by walk_at "tgc", ?_⟩
        walk_at "go"
        exact ⟨rfl, rfl⟩
      rw [prs_snd]
      walk_at "go"
      refine ⟨ps.map (·.2), by walk_at "sees", ⟨hL.outs0, by have := hL.sum2; omega⟩, .inl (by walk_at "allda"), fun r hr => ?_⟩
      obtain rfl := hr
      walk_at "go"
      have hil := insF_len hL
      have hol := outsA_len hL
      have li : (inz (sprd 0 (ps.map fun x => x.1))).length = (insF ps).length := inz_len _
      have lo : (inz (sprd 0 (ps.map fun x => x.2))).length = (outsA ps).length := inz_len _
      have en : (((inz (sprd 0 (ps.map fun x => x.1))).length : Int) - ((inz (sprd 0 (ps.map fun x => x.2))).length : Int)).toNat = (insF ps).length - (outsA ps).length := by rw [li, lo]; omega
      refine ⟨_, op_timesT rfl rfl ⟨by rw [li, lo]; omega, by rw [li, lo]; omega⟩, _, op_plusT rfl rfl (le_line (by rw [en, lo, List.length_replicate]; omega)), ?_⟩
      walk_at "go"
      have eo : inz (sprd 0 (ps.map fun x => x.2)) ++ List.replicate (((inz (sprd 0 (ps.map fun x => x.1))).length : Int) - ((inz (sprd 0 (ps.map fun x => x.2))).length : Int)).toNat (.int ((prs ps).length - 1)) = inz (outsF ps) := by
        rw [en, prs_len]
        unfold outsF
        rw [inz_app]
        congr 1
        rw [inz, List.map_replicate]
      rw [eo]
      intro n' σ' H' E'
      exact (rt_G q .refl 0 rfl ⟨rfl, rfl⟩) n' σ' H' _ E' .non
/-- days as a list -/
theorem FnOk_logL {f : Addr} {fd : FuncData} {k : Nat} {ps' : List Str} (F : FnOk P w K mg base CX0 k f fd ps' (spLogA C)) : FnOk P w K mg base CX0 k f fd ps' (spLog C) := F.imp fun vs H Q E h => by
  obtain ⟨n, f, v1, v2, o, x, e, h1, h2, h3, h4, h5, ⟨h6, h7, h8⟩, q⟩ := h
  exact ⟨n, f, v1, v2, o, (.lst (prs x), x), e, h1, h2, h3, h4, h5, ⟨h6, .lst _, h7, h8⟩, q⟩
end
end Law
namespace Law
open PySem PySem.Spec PyProof.Rows L2 Dd
theorem sc_str : FnScope ["self", "arrived", "left"] ["self"] (defScope (inClass (topS 10) 4)) := ⟨rfl, rfl, rfl, by decide +kernel, rfl, by decide +kernel, by decide +kernel⟩
theorem row_bnd {ps : List (Int × Int)} (hL : Lawf 1000 ps) : ∀ p ∈ ps, (Str.ofString (toString p.1)).length ≤ 10 ∧ (Str.ofString (toString p.2)).length ≤ 10 ∧ p.1.natAbs.log2 < 1920 ∧ p.2.natAbs.log2 < 1920 := fun p hp => by
  obtain ⟨b1, b2⟩ := hL.bnd p hp
  have h3 := hL.pos p hp
  exact ⟨str_len h3.1 (by omega), str_len h3.2 (by omega), log_small h3.1 (by omega), log_small h3.2 (by omega)⟩
theorem rows_len {ps : List (Int × Int)} (hL : Lawf 1000 ps) : ((ps.map rowS).map fun x => x.length).sum ≤ 21 * ps.length := by
  have h1 : ∀ qs : List (Int × Int), (∀ p ∈ qs, p ∈ ps) → ((qs.map rowS).map fun x => x.length).sum ≤ 21 * qs.length := by
    intro qs
    induction qs with
    | nil => intro _; simp
    | cons q qs ih =>
      intro hq
      have h2 := ih fun p hp => hq p (List.mem_cons_of_mem _ hp)
      obtain ⟨b1, b2, _⟩ := row_bnd hL q (hq q List.mem_cons_self)
      have h3 : (rowS q).length ≤ 21 := by
        unfold rowS
        rw [strLen_app, strLen_app]
        have : (Str.ofString " ").length = 1 := rfl
        omega
      simp only [List.map_cons, List.sum_cons, List.length_cons]
      omega
  exact h1 ps fun _ h => h
section
variable {P : Program} {w : World} {K : PySem.W.Frag} {mg : Str → Option Value} {base : Heap} {C : Addr}
def spStr (C : Addr) : Sp := SpT (fun ps : List (Int × Int) => [logD C ps]) (fun ps => ps.length ≤ 2000 ∧ Lawf 1000 ps) (fun ps r => r = .str (textF ps))
theorem ok_str {f : Addr} {fd : FuncData} (F : Fun K "__str__" "Log.__str__" (inClass (topS 10) 4) f fd) (L : LogC K C) : FnOk P w K mg base CX0 1 f fd ["self"] (spStr C) := by
  refine F.ok sc_str (fun vs H Q E h => ?_) (fun cdv A outer s H vs Q E hr h => ?_)
  · obtain ⟨n, x, _, h, _⟩ := h
    simp [h.length]
  · obtain ⟨n, ps, al, h3, ⟨hlen, hL⟩, q⟩ := h
    have nd := sc_str.nd
    have hKI : KIs K := trivial
    have hcl := L.cl
    have hN1 := L.nd
    refine' ⟨?t, ?pp, ?rd⟩
    case pp => walk_at "pss"
    case rd =>
      refine in_T al h3 rfl ?_
      show Nx _ [.is (logD C ps), .no, .no] _
      walk_at "go"
      refine wp_lcI (wi_tup ?_)
      walk_at "go"
      refine ⟨_, rfl, lc_map (enc := fun p : Int × Int => Da.tup [.int p.1, .int p.2]) (xs := ps) (fun p => .str (rowS p)) (by omega) (fun p hp => ?_) ?_⟩
      · obtain ⟨b1, b2, b3, b4⟩ := row_bnd hL p hp
        refine ⟨_, by walk_at "tgc", ?_⟩
        walk_at "go"
        have l1 : (Str.ofString " ").length = 1 := rfl
        have e1 : ∀ x : Str, Str.empty ++ x = x := fun x => PySem.Str.empty_append x
        refine ⟨b3, _, rfl, le_line (by rw [e1]; omega), ?_⟩
        walk_at "go"
        refine ⟨le_line (by rw [e1, strLen_app]; omega), ?_⟩
        walk_at "go"
        refine ⟨b4, _, rfl, le_line (by rw [e1, strLen_app, strLen_app]; omega), ?_⟩
        walk_at "go"
        refine ⟨?_, rfl⟩
        rw [e1]
        rfl
      · refine ⟨ps.map rowS, by simp [strz, see, soft, Function.comp_def], ?_, ?_⟩
        · have h4 := rows_len hL
          have h5 : (Str.ofString "\n").length = 1 := rfl
          rw [h5, List.length_map]
          omega
        · refine rk_da ?_
          exact rt_T q .refl rfl
/-- the choice by a rule -/
def spBy (C : Addr) : Sp := SpO (fun x : List (Int × Int) × Bool => [logD C x.1, .str (ruleS x.2)]) (fun x => x.1.length ≤ 2000 ∧ Lawf 1000 x.1) (fun x r => r = prz (choF x.2 x.1))
theorem zip_prz (a b : List Int) : zipD (inz a) (inz b) = prz (a.zip b) := by
  unfold zipD prz inz
  rw [List.zip_map, List.map_map]
  rfl
end
end Law
namespace Law
open PySem PySem.Spec PyProof.Rows L2 Dd
theorem sc_isnum : FnScope ["word"] ["word"] (defScope (topS 1)) := ⟨rfl, rfl, rfl, by decide +kernel, rfl, by decide +kernel, by decide +kernel⟩
theorem sc_isrow : FnScope ["row", "words", "word"] ["row"] (defScope (topS 14)) := ⟨rfl, rfl, rfl, by decide +kernel, rfl, by decide +kernel, by decide +kernel⟩
theorem sc_numof : FnScope ["word"] ["word"] (defScope (topS 15)) := ⟨rfl, rfl, rfl, by decide +kernel, rfl, by decide +kernel, by decide +kernel⟩
theorem sc_daysof : FnScope ["text", "days", "units", "number", "row", "arrived", "left", "word"] ["text"] (defScope (topS 13)) := ⟨rfl, rfl, rfl, by decide +kernel, rfl, by decide +kernel, by decide +kernel⟩
theorem sc_parse : FnScope ["cls", "text"] ["cls", "text"] (defScope (inClass (topS 10) 1)) := ⟨rfl, rfl, rfl, by decide +kernel, rfl, by decide +kernel, by decide +kernel⟩
/-! words of small numbers -/
def nS (n : Nat) : Str := Str.ofString (toString (n : Int))
def okW (n : Nat) : Bool := Txt.isascii (nS n) && Txt.isdigit (nS n) && (nS n == ("0" : Str) || !Txt.startswith (nS n) ("0" : Str)) && decide (cutS (nS n) none (some 3) = nS n) && decide (PySem.intText? (nS n) = some (n : Int)) && decide ((nS n).length ≤ 3)
theorem okW_all : ∀ n : Fin 100, okW n.1 = true := by decide +kernel
structure Wd (x : Str) (n : Int) : Prop where
  asc : Txt.isascii x = true
  dig : Txt.isdigit x = true
  zer : (decide (x = ("0" : Str)) || !Txt.startswith x ("0" : Str)) = true
  cut : cutS x none (some 3) = x
  val : PySem.intText? x = some n
  len : x.length ≤ 3
theorem wd_of {n : Int} (h0 : 0 ≤ n) (h : n < 100) : Wd (Str.ofString (toString n)) n := by
  obtain ⟨m, rfl⟩ : ∃ m : Nat, n = m := ⟨n.toNat, by omega⟩
  have h := okW_all ⟨m, by omega⟩
  unfold okW at h
  simp only [Bool.and_eq_true, decide_eq_true_eq] at h
  obtain ⟨⟨⟨⟨⟨a, b⟩, c⟩, d⟩, e⟩, f⟩ := h
  refine ⟨a, b, ?_, d, e, f⟩
  have hb : (nS m == ("0" : Str)) = decide (nS m = ("0" : Str)) := by
    by_cases z : nS m = ("0" : Str)
    · rw [decide_eq_true z, z]
      exact beq_self_eq_true _
    · rw [decide_eq_false z]
      exact beq_eq_false_iff_ne.mpr z
  rw [hb] at c
  exact c
/-! a row, cut; a text, cut -/
theorem tl_nS {n : Int} (h0 : 0 ≤ n) : TL.tl (Str.ofString (toString n)) = TL.numL n.toNat := by
  obtain ⟨m, rfl⟩ : ∃ m : Nat, n = m := ⟨n.toNat, by omega⟩
  exact TL.tl_num m
theorem free_nS {n : Int} (h0 : 0 ≤ n) {s : Nat} (h : s < 48 ∨ 57 < s) : s ∉ TL.tl (Str.ofString (toString n)) := by
  rw [tl_nS h0]
  exact TL.numL_free h
theorem join_two (y a b : Str) : Txt.join y [a, b] = a ++ y ++ b := by
  rw [TL.join_eq]
  rfl
theorem split_row {p : Int × Int} (h1 : 0 ≤ p.1) (h2 : 0 ≤ p.2) : Txt.split (rowS p) (" " : Str) = [Str.ofString (toString p.1), Str.ofString (toString p.2)] := by
  have e : rowS p = Txt.join (" " : Str) [Str.ofString (toString p.1), Str.ofString (toString p.2)] := by
    rw [join_two]
    rfl
  rw [e]
  refine TL.split_join (s := 32) (S := []) (by rfl) (by decide +kernel) (by simp) fun q hq => ?_
  rcases List.mem_cons.mp hq with rfl | hq
  · exact free_nS h1 (by omega)
  · rw [List.mem_singleton.mp hq]
    exact free_nS h2 (by omega)
theorem free_row {p : Int × Int} (h1 : 0 ≤ p.1) (h2 : 0 ≤ p.2) : 10 ∉ TL.tl (rowS p) := by
  have e : TL.tl (rowS p) = TL.tl (Str.ofString (toString p.1)) ++ [32] ++ TL.tl (Str.ofString (toString p.2)) := by
    show TL.tl (Str.ofString (toString p.1) ++ (" " : Str) ++ Str.ofString (toString p.2)) = _
    rw [TL.tl_append, TL.tl_append]
    rfl
  rw [e]
  intro h
  rcases List.mem_append.mp h with h | h
  · rcases List.mem_append.mp h with h | h
    · exact free_nS h1 (by omega) h
    · simp at h
  · exact free_nS h2 (by omega) h
theorem split_text {ps : List (Int × Int)} (hne : ps ≠ []) (h : ∀ p ∈ ps, 0 ≤ p.1 ∧ 0 ≤ p.2) : Txt.split (textF ps) nlS = ps.map rowS := by
  refine TL.split_join (s := 10) (S := []) (by rfl) (by decide +kernel) (fun e => hne (List.map_eq_nil_iff.mp e)) fun q hq => ?_
  obtain ⟨p, hp, rfl⟩ := List.mem_map.mp hq
  exact free_row (h p hp).1 (h p hp).2
/-- texts of different days differ -/
theorem row_inj {p q : Int × Int} (h1 : 0 ≤ p.1 ∧ 0 ≤ p.2) (h2 : 0 ≤ q.1 ∧ 0 ≤ q.2) (h : rowS p = rowS q) : p = q := by
  have e := congrArg (fun x => Txt.split x (" " : Str)) h
  simp only [split_row h1.1 h1.2, split_row h2.1 h2.2] at e
  have inj : ∀ {a b : Int}, 0 ≤ a → 0 ≤ b → Str.ofString (toString a) = Str.ofString (toString b) → a = b := fun {a b} ha hb z => by
    have y := congrArg TL.tl z
    rw [tl_nS ha, tl_nS hb] at y
    have := TL.numL_inj y
    omega
  injection e with e1 e2
  injection e2 with e2 _
  exact Prod.ext (inj h1.1 h2.1 e1) (inj h1.2 h2.2 e2)
theorem text_inj {ps qs : List (Int × Int)} (n1 : ps ≠ []) (n2 : qs ≠ []) (h1 : ∀ p ∈ ps, 0 ≤ p.1 ∧ 0 ≤ p.2) (h2 : ∀ p ∈ qs, 0 ≤ p.1 ∧ 0 ≤ p.2) (h : textF ps = textF qs) : ps = qs := by
  have e := congrArg (fun x => Txt.split x nlS) h
  simp only [split_text n1 h1, split_text n2 h2] at e
  clear h n1 n2
  induction ps generalizing qs with
  | nil =>
    cases qs with
    | nil => rfl
    | cons q qs => cases e
  | cons p ps ih =>
    cases qs with
    | nil => cases e
    | cons q qs =>
      rw [List.map_cons, List.map_cons] at e
      injection e with e1 e2
      rw [row_inj (h1 p List.mem_cons_self) (h2 q List.mem_cons_self) e1, ih (fun x hx => h1 x (List.mem_cons_of_mem _ hx)) (fun x hx => h2 x (List.mem_cons_of_mem _ hx)) e2]
end Law
namespace Law
open PySem PySem.Spec PyProof.Rows L2 Dd
section
variable {P : Program} {w : World} {K : PySem.W.Frag} {mg : Str → Option Value} {base : Heap} {C : Addr}
def spIsNum : Sp := SpT (fun x : Str × Int => [.str x.1]) (fun x => Wd x.1 x.2) (fun _ r => r = .bl true)
theorem ok_isnum {f : Addr} {fd : FuncData} (F : Fun K "is_number" "is_number" (topS 1) f fd) : FnOk P w K mg base CX0 1 f fd ["word"] spIsNum := by
  refine F.ok sc_isnum (fun vs H Q E h => ?_) (fun cdv A outer s H vs Q E hr h => ?_)
  · obtain ⟨n, x, _, h, _⟩ := h
    simp [h.length]
  · obtain ⟨n, ⟨x, v⟩, al, h3, hW, q⟩ := h
    have nd := sc_isnum.nd
    have hKI : KIs K := trivial
    replace hW : Wd x v := hW
    refine' ⟨?t, ?pp, ?rd⟩
    case pp => walk_at "pss"
    case rd =>
      refine in_T al h3 rfl ?_
      show Nx _ [.is (.str x)] _
      walk_at "go"
      refine ⟨fun _ => ?_, fun h => absurd (hW.asc.symm.trans h) (by decide)⟩
      walk_at "go"
      refine ⟨fun _ => ?_, fun h => absurd (hW.dig.symm.trans h) (by decide)⟩
      walk_at "go"
      have hz := hW.zer
      refine ⟨fun _ => rt_T q .refl rfl, fun h => ?_⟩
      have hz2 : Txt.startswith x ("0" : Str) = false := by
        rw [show decide (x = ("0" : Str)) = false from h, Bool.false_or] at hz
        simpa using hz
      walk_at "go"
      exact rt_T q .refl (congrArg Da.bl (by rw [hz2]; rfl))
local macro_rules | `(tactic| walk_at "pcall") => `(tactic| first
 | ((with_reducible show PE _ (.Call (.Name (Str.ofString "int") _) _ _ _) _); refine' pe_callTy cb_intT (by rfl) (by assumption) boot_int ?a; (case a => walk_at "pa"))
 | fail)
def spNumOf : Sp := SpT (fun x : Str × Int => [.str x.1]) (fun x => Wd x.1 x.2) (fun x r => r = .int x.2)
theorem ok_numof {f : Addr} {fd : FuncData} (F : Fun K "_number_of" "_number_of" (topS 15) f fd) (mi : mg "int" = none) : FnOk P w K mg base CX0 1 f fd ["word"] spNumOf := by
  refine F.ok sc_numof (fun vs H Q E h => ?_) (fun cdv A outer s H vs Q E hr h => ?_)
  · obtain ⟨n, x, _, h, _⟩ := h
    simp [h.length]
  · obtain ⟨n, ⟨x, v⟩, al, h3, hW, q⟩ := h
    have nd := sc_numof.nd
    have hKI : KIs K := trivial
    replace hW : Wd x v := hW
    refine' ⟨?t, ?pp, ?rd⟩
    case pp => walk_at "pss"
    case rd =>
      refine in_T al h3 rfl ?_
      show Nx _ [.is (.str x)] _
      walk_at "go"
      refine ⟨_, slv_S rfl (le_line (by have := hW.len; omega)), ?_⟩
      rw [hW.cut]
      walk_at "go"
      refine ⟨_, b_intT rfl hW.val (by have := hW.len; omega), ?_⟩
      exact rt_T q .refl rfl
def Sml (p : Int × Int) : Prop := (0 ≤ p.1 ∧ p.1 < 100) ∧ 0 ≤ p.2 ∧ p.2 < 100
theorem sml_len {p : Int × Int} (h : Sml p) : (rowS p).length ≤ 7 := by
  obtain ⟨⟨h1, h1'⟩, h2, h2'⟩ := h
  have a := (wd_of h1 h1').len
  have b := (wd_of h2 h2').len
  unfold rowS
  rw [strLen_app, strLen_app]
  have : (Str.ofString " ").length = 1 := rfl
  omega
def spIsRow : Sp := SpT (fun p : Int × Int => [.str (rowS p)]) (fun p => Sml p) (fun _ r => r = .bl true)
theorem ok_isrow {f : Addr} {fd : FuncData} (F : Fun K "_is_row" "_is_row" (topS 14) f fd) (cn : Calb P w K mg base 1 "is_number" spIsNum) (m1 : mg "len" = none) (m2 : mg "all" = none) : FnOk P w K mg base CX0 2 f fd ["row"] spIsRow := by
  refine F.ok sc_isrow (fun vs H Q E h => ?_) (fun cdv A outer s H vs Q E hr h => ?_)
  · obtain ⟨n, x, _, h, _⟩ := h
    simp [h.length]
  · obtain ⟨n, p, al, h3, ⟨⟨h1, h1'⟩, h2, h2'⟩, q⟩ := h
    have nd := sc_isrow.nd
    have hKI : KIs K := trivial
    refine' ⟨?t, ?pp, ?rd⟩
    case pp => walk_at "pss"
    case rd =>
      refine in_T al h3 rfl ?_
      show Nx _ [.is (.str (rowS p)), .no, .no] _
      walk_at "go"
      have hl := sml_len (p := p) ⟨⟨h1, h1'⟩, h2, h2'⟩
      refine ⟨rfl, le_line (by omega), ?_⟩
      rw [show (Str.ofString " " : Str) = (" " : Str) from rfl, split_row h1 h2]
      refine sk_nw (nx_freeze 1 rfl ?_)
      show Nx _ [.is (.str (rowS p)), .is (.lst (strz [Str.ofString (toString p.1), Str.ofString (toString p.2)])), .no] _
      walk_at "go"
      refine ⟨fun _ => ?_, fun h => absurd h (by show ¬ decide ((2 : Int) = 2) = false; decide)⟩
      walk_at "go"
      refine wp_lcI (wi_lst ?_)
      walk_at "go"
      refine ⟨_, rfl, lc_map (enc := fun x : Str × Int => Da.str x.1) (xs := [(Str.ofString (toString p.1), p.1), (Str.ofString (toString p.2), p.2)]) (fun _ => .bl true) (by show 2 < 10000000; decide) (fun x hx => ?_) ?_⟩
      · have hW : Wd x.1 x.2 := by
          rcases List.mem_cons.mp hx with rfl | hx
          · exact wd_of h1 h1'
          · rw [List.mem_singleton.mp hx]
            exact wd_of h2 h2'
        refine ⟨_, by walk_at "tgc", ?_⟩
        walk_at "go"
        refine wp_call ?_
        walk_at "go"
        refine ⟨x, by walk_at "sees", hW, .inr (fun r hr => by rw [hr]; rfl), fun r hr => ?_⟩
        obtain rfl := hr
        exact ⟨rfl, rfl⟩
      · walk_at "go"
        refine ⟨_, b_all (bs := [true, true]) rfl, ?_⟩
        exact rt_T q .refl rfl
theorem pe_gint {X : Cx} {x : Str} {pos : Pos} {i : Int} {t : Nat} (hg : Gl X x) (hm : X.mg x = some (.int i t)) (hd : (x == ("__debug__" : Str)) = false := by decide) : PE X (.Name x pos) (tC (.int i)) := pe_glob hg hm ⟨t, rfl⟩ hd
local macro_rules | `(tactic| walk_at "ps") => `(tactic| first
 | ((with_reducible show PS _ (.Raise _ _ _) _); exact ps_never)
 | ((with_reducible show PS _ (.Assign [.Tuple _ _ _] (.ListComp _ _ _ _) _) _); refine' ps_asg ?e (pg_unlK ?m ?h (by rfl) ?gs); (case m => assumption); (case h => exact rfl); (case gs => walk_at "pgs"); (case e => walk_at "pe"))
 | fail)
local macro_rules | `(tactic| walk_at "pe") => `(tactic| ((with_reducible show PE _ (.Name _ _) _); exact pe_gint (by rfl) (by assumption)))
theorem joinL_len (S : List Nat) : ∀ L : List (List Nat), (TL.joinL S L).length ≤ (L.map List.length).sum + L.length * S.length
  | [] => Nat.zero_le _
  | [p] => by
    show p.length ≤ _
    simp
  | p :: q :: r => by
    have ih := joinL_len S (q :: r)
    show (p ++ (S ++ TL.joinL S (q :: r))).length ≤ _
    rw [List.length_append, List.length_append, List.map_cons, List.sum_cons, List.length_cons, Nat.succ_mul]
    omega
theorem text_len {ps : List (Int × Int)} (h : ∀ p ∈ ps, Sml p) : (textF ps).length ≤ 8 * ps.length := by
  have e : (textF ps).length = (TL.joinL (TL.tl nlS) ((ps.map rowS).map TL.tl)).length := by
    rw [TL.len_tl]
    unfold textF
    rw [TL.join_eq, TL.tl_join]
  have h1 := joinL_len (TL.tl nlS) ((ps.map rowS).map TL.tl)
  have h2 : (TL.tl nlS).length = 1 := by rfl
  have h3 : ∀ qs : List (Int × Int), (∀ p ∈ qs, Sml p) → (((qs.map rowS).map TL.tl).map List.length).sum ≤ 7 * qs.length := by
    intro qs
    induction qs with
    | nil => intro _; exact Nat.le_refl _
    | cons q qs ih =>
      intro hq
      have a := ih fun p hp => hq p (List.mem_cons_of_mem _ hp)
      have b := sml_len (hq q List.mem_cons_self)
      rw [TL.len_tl] at b
      simp only [List.map_cons, List.sum_cons, List.length_cons]
      omega
  have h4 := h3 ps h
  rw [h2, List.length_map, List.length_map] at h1
  omega
theorem pre_le : ∀ {ps : List (Int × Int)} (_ : ∀ p ∈ ps, 0 ≤ p.1) (m : Nat), ((ps.take m).map (·.1)).sum ≤ (ps.map (·.1)).sum
  | [], _, m => by simp
  | p :: ps, h, 0 => by
    have := pre_le (ps := ps) (fun q hq => h q (List.mem_cons_of_mem _ hq)) 0
    have := h p List.mem_cons_self
    simp only [List.take_zero, List.map_nil, List.sum_nil, List.map_cons, List.sum_cons] at *
    omega
  | p :: ps, h, m + 1 => by
    have := pre_le (ps := ps) (fun q hq => h q (List.mem_cons_of_mem _ hq)) m
    simp only [List.take_succ_cons, List.map_cons, List.sum_cons]
    omega
def spDaysOf : Sp := SpO (fun ps : List (Int × Int) => [.str (textF ps)]) (fun ps => (ps ≠ [] ∧ ps.length ≤ 60) ∧ (∀ p ∈ ps, Sml p) ∧ (ps.map (·.1)).sum ≤ 40) (fun ps r => r = prs ps)
theorem ok_daysof {f : Addr} {fd : FuncData} (F : Fun K "_days_of" "_days_of" (topS 13) f fd) (ci : Calb P w K mg base 2 "_is_row" spIsRow) (cn : Calb P w K mg base 1 "_number_of" spNumOf) {t1 t2 : Nat} (md : mg "MOST_DAYS" = some (.int 60 t1)) (mu : mg "MOST_UNITS" = some (.int 40 t2)) (me : mg "enumerate" = none) : FnOk P w K mg base CX0 3 f fd ["text"] spDaysOf := by
  refine F.ok sc_daysof (fun vs H Q E h => ?_) (fun cdv A outer s H vs Q E hr h => ?_)
  · obtain ⟨n, x, _, h, _⟩ := h
    simp [h.length]
  · obtain ⟨n, ps, al, h3, ⟨⟨hne, hlen⟩, hsm, hsum⟩, q⟩ := h
    have nd := sc_daysof.nd
    have hKI : KIs K := trivial
    replace hlen : ps.length ≤ 60 := hlen
    refine' ⟨?t, ?pp, ?rd⟩
    case pp => walk_at "pss"
    case rd =>
      refine in_T al h3 rfl ?_
      show Nx _ [.is (.str (textF ps)), .no, .no, .no, .no, .no, .no, .no] _
      walk_at "go"
      have hpos : ∀ p ∈ ps, 0 ≤ p.1 ∧ 0 ≤ p.2 := fun p hp => ⟨(hsm p hp).1.1, (hsm p hp).2.1⟩
      have htl := text_len hsm
      dsimp only
      refine nx_forI (wi_enum ?_)
      walk_at "go"
      refine ⟨rfl, le_line (by omega), ?_⟩
      rw [show (Str.ofString "\n" : Str) = nlS from rfl, split_text hne hpos]
      refine ⟨_, _, rfl, .lst _, fun m ρ' => ∃ s3 s4 s5 s6, m ≤ ps.length ∧ ρ' = [.is (.str (textF ps)), .own false (.lst (prs (ps.take m))), .is (.int ((ps.take m).map (·.1)).sum), s3, s4, s5, s6, .no], ?_, ?_, ?_⟩
      · exact ⟨_, _, _, _, Nat.zero_le _, rfl⟩
      · rintro G m d ρ' hw hd ⟨s3, s4, s5, s6, hm, rfl⟩
        rw [enumD_get] at hd
        cases hc : ps[m]? with
        | none => rw [strz, List.getElem?_map, List.getElem?_map, hc] at hd; cases hd
        | some p =>
          rw [strz, List.getElem?_map, List.getElem?_map, hc] at hd
          obtain rfl := (Option.some.inj hd).symm
          have hm1 := (List.getElem?_eq_some_iff.mp hc).1
          have hp := List.mem_of_getElem? hc
          have hsp := hsm p hp
          refine ⟨_, tg_tup (tgs_cons tg_name (tgs_cons tg_name tgs_nil)) rfl, ?_⟩
          walk_at "go"
          refine ⟨fun h => absurd (of_decide_eq_true h) (by omega), fun _ => ?_⟩
          walk_at "go"
          refine wp_call ?_
          walk_at "go"
          refine ⟨p, by walk_at "sees", hsp, .inr (fun r hr => by rw [hr]; rfl), fun r hr => ?_⟩
          obtain rfl := hr
          walk_at "go"
          refine ⟨_, _, rfl, rfl, (fun h => by simp at h), fun _ => ?_⟩
          walk_at "go"
          refine wp_lcI (wi_lst ?_)
          walk_at "go"
          refine ⟨rfl, le_line (by have := sml_len hsp; omega), ?_⟩
          rw [show (Str.ofString " " : Str) = (" " : Str) from rfl, split_row hsp.1.1 hsp.2.1]
          refine ⟨_, rfl, lc_map (enc := fun x : Str × Int => Da.str x.1) (xs := [(Str.ofString (toString p.1), p.1), (Str.ofString (toString p.2), p.2)]) (fun x => .int x.2) (by show 2 < 10000000; decide) (fun x hx => ?_) ?_⟩
          · have hW : Wd x.1 x.2 := by
              rcases List.mem_cons.mp hx with rfl | hx
              · exact wd_of hsp.1.1 hsp.1.2
              · rw [List.mem_singleton.mp hx]
                exact wd_of hsp.2.1 hsp.2.2
            refine ⟨_, by walk_at "tgc", ?_⟩
            walk_at "go"
            refine wp_call ?_
            walk_at "go"
            refine ⟨x, by walk_at "sees", hW, .inr (fun r hr => by rw [hr]; rfl), fun r hr => ?_⟩
            obtain rfl := hr
            exact ⟨rfl, rfl⟩
          refine ⟨_, _, rfl, tg_unl (tgs_cons tg_name (tgs_cons tg_name tgs_nil)) rfl, ?_⟩
          have hsu := pre_le (ps := ps) (fun p hp => (hpos p hp).1) (m + 1)
          have hts : ps.take (m + 1) = ps.take m ++ [p] := by rw [List.take_add_one, hc]; rfl
          have hss : ((ps.take (m + 1)).map (·.1)).sum = ((ps.take m).map (·.1)).sum + p.1 := by rw [hts, List.map_append, List.sum_append]; simp
          have hsum' : (ps.map (·.1)).sum ≤ 40 := hsum
          walk_at "go"
          refine ⟨fun h => absurd (of_decide_eq_true h) (by omega), fun _ => ?_⟩
          have hl1 : (prs (ps.take m)).length ≤ 60 := by rw [prs_len, List.length_take]; omega
          walk_at "go"
          have ep : prs (ps.take m) ++ [Da.tup [.int p.1, .int p.2]] = prs (ps.take (m + 1)) := by
            rw [hts]
            show _ = (ps.take m ++ [p]).map _
            rw [List.map_append]
            rfl
          refine nx_at ⟨.is (.int (m : Nat)), .is (.str (rowS p)), .is (.int p.1), .is (.int p.2), hm1, ?_⟩
          rw [← ep, hss]
          rfl
      · rintro ρ' ⟨s3, s4, s5, s6, hm, rfl⟩
        rw [show (enumD (strz (ps.map rowS))).length = ps.length by simp [enumD, strz], List.take_length]
        walk_at "go"
        exact rt_O q .refl rfl
local macro_rules | `(tactic| walk_at "pcall") => `(tactic| first
 | ((with_reducible show PE _ (.Call (.Name (Str.ofString "cls") _) _ _ _) _); refine' pe_mkbL (i := 0) ?c ?r ?k rfl (.inl rfl) ?a; (case c => assumption); (case r => assumption); (case k => decide); (case a => walk_at "pa"))
 | fail)
def Prs (ps : List (Int × Int)) : Prop := ((ps ≠ [] ∧ ps.length ≤ 60) ∧ (∀ p ∈ ps, Sml p) ∧ (ps.map (·.1)).sum ≤ 40) ∧ Lawf 1000 ps
def spParse (CL : Addr) : Sp := SpT (fun ps : List (Int × Int) => [.cl CL, .str (textF ps)]) (fun ps => Prs ps) (fun ps r => r = logD CL ps)
theorem ok_parse {f : Addr} {fd : FuncData} {CL : Addr} (F : Fun K "parse" "Log.parse" (inClass (topS 10) 1) f fd) (cd : Calb P w K mg base 3 "_days_of" spDaysOf) (mkL : Makb P w K mg base 4 "Log" CL (spLog CL)) : FnOk P w K mg base CX0 6 f fd ["cls", "text"] (spParse CL) := by
  refine F.ok sc_parse (fun vs H Q E h => ?_) (fun cdv A outer s H vs Q E hr h => ?_)
  · obtain ⟨n, x, _, h, _⟩ := h
    simp [h.length]
  · obtain ⟨n, ps, al, h3, ⟨hpd, hL⟩, q⟩ := h
    have nd := sc_parse.nd
    have hKI : KIs K := trivial
    refine' ⟨?t, ?pp, ?rd⟩
    case pp => walk_at "pss"
    case rd =>
      refine in_T al h3 rfl ?_
      show Nx _ [.is (.cl CL), .is (.str (textF ps))] _
      walk_at "go"
      refine wp_makeL rfl ?_
      refine wp_make (fun x o' r h => ⟨h.2, _, h.1⟩) ?_
      walk_at "go"
      refine wp_callO ?_
      walk_at "go"
      rintro _ rfl
      walk_at "go"
      refine ⟨ps, by walk_at "allda", ⟨rfl, by have := hpd.1.2; omega, hL⟩, fun fs hfs => ?_⟩
      obtain rfl : fs = logF ps := by
        have := hfs.1
        injection this
      exact rt_T q .refl rfl
end
end Law
namespace Law
open PySem PySem.Spec PyProof.Rows L2 Dd
theorem sc_copied : FnScope ["value", "part", "key"] ["value"] (defScope (topS 2)) := ⟨rfl, rfl, rfl, by decide +kernel, rfl, by decide +kernel, by decide +kernel⟩
section
variable {P : Program} {w : World} {K : PySem.W.Frag} {mg : Str → Option Value} {base : Heap} {C : Addr}
/-- copied, of a number -/
def spCop : Sp := SpT (fun i : Int => [.int i]) (fun _ => True) (fun i r => r = .int i)
theorem ok_copied {f : Addr} {fd : FuncData} (F : Fun K "copied" "copied" (topS 2) f fd) (m1 : mg "isinstance" = none) (m2 : mg "list" = none) (m3 : mg "tuple" = none) (m4 : mg "dict" = none) : FnOk P w K mg base CX0 1 f fd ["value"] spCop := by
  refine F.ok sc_copied (fun vs H Q E h => ?_) (fun cdv A outer s H vs Q E hr h => ?_)
  · obtain ⟨n, x, _, h, _⟩ := h
    simp [h.length]
  · obtain ⟨n, i, al, h3, hk, q⟩ := h
    have nd := sc_copied.nd
    have hKI : KIs K := trivial
    refine' ⟨?t, ?pp, ?rd⟩
    case pp =>
      refine' pss_cons ?s1 (pss_cons ?s2 (pss_cons ?s3 (pss_one ?s4)))
      case s1 =>
        refine' ps_if ?c1 (pss_one ps_no) ?e1
        case c1 => walk_at "pt"
        case e1 => walk_at "pss"
      case s2 =>
        refine' ps_if ?c2 (pss_one ps_no) ?e2
        case c2 => walk_at "pt"
        case e2 => walk_at "pss"
      case s3 =>
        refine' ps_if ?c3 (pss_one ps_no) ?e3
        case c3 =>
          refine' pt_truK hKI rfl (pe_callB (call_isiK' hKI rfl) (by rfl) (by assumption) boot_isinstance (pa_cons (by walk_at "pe") (pa_cons (pe_bltn (v := .ty "dict") (by rfl) (by assumption) boot_dict rfl) pa_nil))) (by intro _; rfl)
        case e3 => walk_at "pss"
      case s4 => walk_at "ps"
    case rd =>
      refine in_T al h3 rfl ?_
      show Nx _ [.is (.int i), .no, .no] _
      walk_at "go"
      refine ⟨_, _, rfl, rfl, (fun hb => absurd hb (by decide +kernel)), fun _ => nx_next ?_⟩
      walk_at "go"
      refine ⟨_, _, rfl, rfl, (fun hb => absurd hb (by decide +kernel)), fun _ => nx_next ?_⟩
      walk_at "go"
      refine ⟨_, _, rfl, rfl, (fun hb => absurd hb (by decide +kernel)), fun _ => nx_next ?_⟩
      walk_at "go"
      exact rt_T q .refl rfl
end
end Law
namespace Law
open PySem PySem.Spec PyProof.Rows L2 Dd
/-- what the top says of an error class whose __init__ takes one number -/
structure ErrC (K : PySem.W.Frag) (mg : Str → Option Value) (C S : Addr) (mc : Value) (f : Str) : Prop where
  cl : OexC K C
  no : PySem.W.findIn K (.ref C) f = some none
  gs : mg "StoreError" = some (.ref S)
  bi : BaseI K S mc
theorem sc_err : FnScope ["self", "day"] ["self", "day"] (defScope (inClass (topS 6) 0)) := ⟨rfl, rfl, rfl, by decide +kernel, rfl, by decide +kernel, by decide +kernel⟩
section
variable {P : Program} {w : World} {K : PySem.W.Frag} {mg : Str → Option Value} {base : Heap} {C S : Addr} {mc : Value}
theorem ok_err {f : Addr} {fd : FuncData} (F : Fun K "__init__" "NotLawful.__init__" (inClass (topS 6) 0) f fd) (T : ErrC K mg C S mc "day") (cc : Calb P w K mg base 1 "copied" spCop) : FnOk P w K mg base CX0 2 f fd ["self", "day"] (spErr C "day") := by
  refine F.ok sc_err (fun vs H Q E h => ?_) (fun cdv A outer s H vs Q E hr h => ?_)
  · obtain ⟨a, i, rfl, _⟩ := h
    rfl
  · obtain ⟨a, i, rfl, ha, k⟩ := h
    refine ⟨_, pss_cons (ps_expr (pe_baseinit (by rfl) T.gs T.bi (pa_cons (pv 0) (pa_cons pe_str pa_nil)))) (pss_one (ps_ost (pv 0) (pe_cal cc hr (by decide) (by rfl) (pa_cons (pv 1) pa_nil)))), ?_⟩
    refine ⟨_, rfl, a, C, _, rfl, by decide, T.cl, ha, _, rfl, ⟨fun _ => False, fun _ => False, fun _ h => h, fun _ => []⟩, i, (fun _ h => absurd h id), .cons (.int i) .nil, trivial, ?_⟩
    rintro v H1 _ rfl gr h
    cases h
    refine ⟨_, rfl, a, C, rfl, T.cl, T.no, .inl ⟨gr _ _ ha, fun d hd hda => ?_⟩⟩
    have hd0 : H d = none := by
      cases e : H d with
      | none => rfl
      | some o => rw [gr _ _ e] at hd; cases hd
    refine k d _ hd0 hda upd_same (by rw [upd_ne hda, upd_same]) fun b o e hb => ?_
    rw [upd_ne hb, upd_ne (fun z => by rw [z] at e; rw [e] at hd0; cases hd0)]
    exact gr _ _ e
end
end Law
namespace Law
open PySem PySem.Spec PyProof.Rows L2 Dd
/-- the first day on which more have left than have come -/
def badF (ps : List (Int × Int)) : Option Nat := (List.range ps.length).find? fun m => decide (((ps.take (m + 1)).map fun p => p.1 - p.2).sum < 0)
section
variable {P : Program} {w : World} {K : PySem.W.Frag} {mg : Str → Option Value} {base : Heap} {C S : Addr}
def spChkX (C : Addr) : Sp := SpX (fun ps : List (Int × Int) => [.tup (prs ps)]) (fun _ => True) (fun ps r => badF ps = none ∧ r = .non) (fun ps C' f i => C' = C ∧ f = "day" ∧ ∃ m : Nat, badF ps = some m ∧ i = (m : Int))
theorem ok_checkX {f : Addr} {fd : FuncData} (F : Fun K "_check_lawful" "_check_lawful" (topS 11) f fd) (me : mg "enumerate" = none) (er : Errb P w K mg base 2 "NotLawful" C "day") : FnOk P w K mg base (L2.CX P w) 4 f fd ["days"] (spChkX C) := by
  refine F.okX sc_check (fun vs H Q E h => ?_) (fun cdv A outer s H vs Q E hr h => ?_)
  · obtain ⟨n, x, _, h, _⟩ := h
    simp [h.length]
  · obtain ⟨n, ps, al, h3, _, q1, q2⟩ := h
    have nd := sc_check.nd
    have hKI : KIs K := trivial
    refine' ⟨?t, ?pp, ?rd⟩
    case pp => walk_at "pss"
    case rd =>
      refine in_T al h3 rfl ?_
      show Nx _ [.is (.tup (prs ps)), .no, .no, .no, .no] _
      walk_at "go"
      dsimp only
      refine nx_forI (wi_enum ?_)
      walk_at "go"
      refine ⟨_, _, rfl, .tup _, fun m ρ' => ∃ s2 s3 s4, m ≤ ps.length ∧ (∀ j < m, 0 ≤ ((ps.take (j + 1)).map fun p => p.1 - p.2).sum) ∧ ρ' = [.is (.tup (prs ps)), .is (.int ((ps.take m).map fun p => p.1 - p.2).sum), s2, s3, s4], ?_, ?_, ?_⟩
      · exact ⟨.no, .no, .no, Nat.zero_le _, (fun j h => by omega), rfl⟩
      · rintro G m d ρ' hw hd ⟨s2, s3, s4, hm, hb, rfl⟩
        rw [enumD_get] at hd
        cases hc : ps[m]? with
        | none => rw [prs, List.getElem?_map, hc] at hd; cases hd
        | some p =>
          rw [prs_get hc] at hd
          obtain rfl := (Option.some.inj hd).symm
          have hm1 := (List.getElem?_eq_some_iff.mp hc).1
          have hs : ((ps.take (m + 1)).map fun p => p.1 - p.2).sum = _ := take_sum hc
          refine ⟨_, tg_tup (tgs_cons tg_name (tgs_cons (tg_tup (tgs_cons tg_name (tgs_cons tg_name tgs_nil)) rfl) tgs_nil)) rfl, ?_⟩
          walk_at "go"
          refine ⟨fun hn => ?_, fun hn => ?_⟩
          · refine nx_raiseI hw ?_
            walk_at "go"
            have hn := of_decide_eq_true hn
            refine fun d H' gr h0 hd => q2 C _ _ d H' ⟨rfl, rfl, m, ?_, rfl⟩ gr h0 hd
            unfold badF
            rw [List.find?_range_eq_some]
            refine ⟨by rw [decide_eq_true_eq]; omega, by rw [List.mem_range]; omega, fun j hj => ?_⟩
            have := hb j hj
            rw [Bool.not_eq_true', decide_eq_false_iff_not]
            omega
          · have hn := of_decide_eq_false hn
            walk_at "go"
            refine nx_at ⟨.is (.int (m : Nat)), .is (.int p.1), .is (.int p.2), hm1, fun j hj => ?_, ?_⟩
            · by_cases c : j = m
              · subst c
                omega
              · exact hb j (by omega)
            · rw [take_sum hc]
              rfl
      · rintro ρ' ⟨s2, s3, s4, hm, hb, rfl⟩
        intro n' σ' H' E'
        have e : badF ps = none := by
          unfold badF
          rw [List.find?_range_eq_none]
          intro j hj
          have h1 : (enumD (prs ps)).length = ps.length := by rw [enumD_len, prs_len]
          have h2 := hb j (by omega)
          rw [Bool.not_eq_true', decide_eq_false_iff_not]
          omega
        exact q1 _ _ _ ⟨e, rfl⟩ (fun a o z => E'.kp a o z (fun z => z)) .non
end
end Law
namespace Law
open PySem PySem.Spec PyProof.Rows L2 Dd
theorem lawf_bad {ps : List (Int × Int)} (h1 : ∀ p ∈ ps, 0 ≤ p.1 ∧ 0 ≤ p.2) (h2 : (ps.map (·.1)).sum ≤ 1000) (h : badF ps = none) : Lawf 1000 ps := by
  have h3 : ∀ m, m ≤ ps.length → 0 ≤ ((ps.take m).map fun p => p.1 - p.2).sum := fun m hm => by
    cases m with
    | zero => exact Int.le_refl 0
    | succ m =>
      have := List.find?_range_eq_none.mp h m (by omega)
      rw [Bool.not_eq_true', decide_eq_false_iff_not] at this
      omega
  refine ⟨h1, h2, fun m => ?_⟩
  rcases Nat.le_total m ps.length with c | c
  · exact h3 m c
  · have := h3 ps.length (Nat.le_refl _)
    rw [List.take_of_length_le c]
    rw [List.take_length] at this
    exact this
section
local macro_rules | `(tactic| walk_at "opb") => `(tactic| first | (refine' op_plus2K ?m ?h; (case m => assumption); (case h => exact rfl)) | (refine' op_times2K ?m ?h; (case m => assumption); (case h => exact rfl)) | exact op_sub)
local macro_rules | `(tactic| walk_at "st") => `(tactic| first | (refine' nx_dropX Fw.refl ?_) | fail)
variable {P : Program} {w : World} {K : PySem.W.Frag} {mg : Str → Option Value} {base : Heap} {C CN : Addr}
/-- a log, or the error of its first bad day -/
def spLogX (C CN : Addr) : Sp := fun vs H Q E => ∃ (n : Ns) (f : Addr) (vs1 vs2 : List V) (o : Ob) (x : Da × List (Int × Int)), vs = vs1 ++ .ref f :: vs2 ∧ FtOw n.ow f o ∧ (∀ a, n a → H a ≠ none) ∧
  ObOk n H f o ∧ DnL n H vs1 [] ∧ DnL n H vs2 [x.1] ∧ (o = .ins C [] ∧ Sq x.1 (prs x.2) ∧ x.2.length ≤ 2000 ∧ (∀ p ∈ x.2, 0 ≤ p.1 ∧ 0 ≤ p.2) ∧ (x.2.map (·.1)).sum ≤ 1000) ∧
  (∀ v H' o' r, (badF x.2 = none ∧ o' = .ins C (logF x.2) ∧ r = Da.non) → GoOn n H H' f o o' → Dn n H' v r → Q v H') ∧
  ∀ (C' : Addr) (f' : Str) (i : Int) (d : Addr) (H' : Hp), (C' = CN ∧ f' = "day" ∧ ∃ m : Nat, badF x.2 = some m ∧ i = (m : Int)) → (∀ a u, H a = some u → ¬ Ft f o a → H' a = some u) → H d = none → H' d = some (.xd [(f', .int i)]) → E (.ref C') (some d) H'
theorem ok_logX {f : Addr} {fd : FuncData} (F : Fun K "__init__" "Log.__init__" (inClass (topS 10) 0) f fd) (L : LogC K C) (cc : CalX P w K mg base 4 "_check_lawful" (spChkX CN)) (ce : Calb P w K mg base 1 "_each_day" spEach) (mt : mg "tuple" = none) (ml : mg "len" = none) :
    FnOk P w K mg base (L2.CX P w) 5 f fd ["self", "days"] (spLogX C CN) := by
  refine F.okX sc_log (fun vs H Q E h => ?_) (fun cdv A outer s H vs Q E hr h => ?_)
  · obtain ⟨n, f, vs1, vs2, o, x, rfl, _, _, _, h1, h2, _⟩ := h
    simp [h1.length, h2.length]
  · obtain ⟨n, f, vs1, vs2, o, ⟨dd, ps⟩, rfl, hf, al, ho, h1, h2, ⟨rfl, hsq, hlen, hpos, hsum⟩, q, qx⟩ := h
    have nd := sc_log.nd
    have hKI : KIs K := trivial
    replace hlen : ps.length ≤ 2000 := hlen
    replace hpos : ∀ p ∈ ps, 0 ≤ p.1 ∧ 0 ≤ p.2 := hpos
    replace hsum : (ps.map (·.1)).sum ≤ 1000 := hsum
    replace hsq : Sq dd (prs ps) := hsq
    refine' ⟨?t, ?pp, ?rd⟩
    case pp => walk_at "pss"
    case rd =>
      refine in_G hf al ho h1 h2 rfl ?_
      show Nx _ [.own true (.ins C []), .is dd, .no, .no, .no, .no, .no] _
      have hN1 := L.nd
      have hcl := L.cl
      have e0 : ps.map (fun p : Int × Int => Da.tup [.int p.1, .int p.2]) = prs ps := rfl
      walk_at "go"
      refine Wp.imp (Φ := fun k ρ' => k = .nw (prs ps) ∧ ρ' = [.own true (.ins C []), .is dd, .no, .no, .no, .no, .no]) ?_ ?_
      · have hbody : LcK (gTup K 2 (gCons (gName 2) (gCons (gName 3) gNil))) tYes (tTup (tCons (tVar 2) (tCons (tVar 3) tNil))) [2, 3] (fun k ρ' => k = .nw (prs ps) ∧ ρ' = [.own true (.ins C []), .is dd, .no, .no, .no, .no, .no]) (prs ps) [.own true (.ins C []), .is dd, .no, .no, .no, .no, .no] := by
          refine lc_map (enc := fun p : Int × Int => Da.tup [.int p.1, .int p.2]) (xs := ps) (fun p => .tup [.int p.1, .int p.2]) (by omega) (fun p hp => ?_) ?_
          · refine ⟨_, by walk_at "tgc", ?_⟩
            walk_at "go"
            exact ⟨rfl, rfl⟩
          · exact ⟨rfl, rfl⟩
        cases hsq with
        | lst =>
          refine wp_lcI (wi_lst ?_)
          walk_at "go"
          exact ⟨_, rfl, hbody⟩
        | tup =>
          refine wp_lcI (wi_tup ?_)
          walk_at "go"
          exact ⟨_, rfl, hbody⟩
      rintro _ _ ⟨rfl, rfl⟩
      walk_at "go"
      refine ⟨?_, fun C' f' i d H' he gr hd hx => qx C' f' i d H' he gr hd hx⟩
      rintro _ ⟨hbad, rfl⟩
      have hL := lawf_bad hpos hsum hbad
      walk_at "go"
      refine wp_call ?_
      walk_at "go"
      refine wp_lcI (wi_tup ?_)
      walk_at "go"
      have hI := L.ni
      have hO := L.no
      refine ⟨_, rfl, lc_map (enc := fun p : Int × Int => Da.tup [.int p.1, .int p.2]) (xs := ps) (fun p => .int p.1) (by omega) (fun p hp => ?_) ?_⟩
      · refine ⟨_, by walk_at "tgc", ?_⟩
        walk_at "go"
        exact ⟨rfl, rfl⟩
      rw [prs_fst]
      walk_at "go"
      refine ⟨ps.map (·.1), by walk_at "sees", ⟨hL.ins, by have := hL.sum; omega⟩, .inl (by walk_at "allda"), fun r hr => ?_⟩
      obtain rfl := hr
      walk_at "go"
      refine wp_call ?_
      walk_at "go"
      refine wp_lcI (wi_tup ?_)
      walk_at "go"
      refine ⟨_, rfl, lc_map (enc := fun p : Int × Int => Da.tup [.int p.1, .int p.2]) (xs := ps) (fun p => .int p.2) (by omega) (fun p hp => ?_) ?_⟩
      · refine ⟨_, by walk_at "tgc", ?_⟩
        walk_at "go"
        exact ⟨rfl, rfl⟩
      rw [prs_snd]
      walk_at "go"
      refine ⟨ps.map (·.2), by walk_at "sees", ⟨hL.outs0, by have := hL.sum2; omega⟩, .inl (by walk_at "allda"), fun r hr => ?_⟩
      obtain rfl := hr
      walk_at "go"
      have hil := insF_len hL
      have hol := outsA_len hL
      have li : (inz (sprd 0 (ps.map fun x => x.1))).length = (insF ps).length := inz_len _
      have lo : (inz (sprd 0 (ps.map fun x => x.2))).length = (outsA ps).length := inz_len _
      have en : (((inz (sprd 0 (ps.map fun x => x.1))).length : Int) - ((inz (sprd 0 (ps.map fun x => x.2))).length : Int)).toNat = (insF ps).length - (outsA ps).length := by rw [li, lo]; omega
      refine ⟨_, op_timesT rfl rfl ⟨by rw [li, lo]; omega, by rw [li, lo]; omega⟩, _, op_plusT rfl rfl (le_line (by rw [en, lo, List.length_replicate]; omega)), ?_⟩
      walk_at "go"
      have eo : inz (sprd 0 (ps.map fun x => x.2)) ++ List.replicate (((inz (sprd 0 (ps.map fun x => x.1))).length : Int) - ((inz (sprd 0 (ps.map fun x => x.2))).length : Int)).toNat (.int ((prs ps).length - 1)) = inz (outsF ps) := by
        rw [en, prs_len]
        unfold outsF
        rw [inz_app]
        congr 1
        rw [inz, List.map_replicate]
      rw [eo]
      intro n' σ' H' E'
      exact (rt_G q .refl 0 rfl ⟨hbad, rfl, rfl⟩) n' σ' H' _ E' .non
end
end Law
namespace Law
open PySem PySem.Spec PyProof.Rows L2 Dd
theorem sc_stk1 : FnScope ["self", "day", "arrived", "left"] ["self", "day"] (defScope (inClass (topS 10) 2)) := ⟨rfl, rfl, rfl, by decide +kernel, rfl, by decide +kernel, by decide +kernel⟩
theorem sc_lstk : FnScope ["days", "day", "arrived", "left"] ["days", "day"] (defScope (topS 23)) := ⟨rfl, rfl, rfl, by decide +kernel, rfl, by decide +kernel, by decide +kernel⟩
theorem sc_right01 : FnScope ["log", "days", "bad", "day"] ["log", "days"] (defScope (topS 25)) := ⟨rfl, rfl, rfl, by decide +kernel, rfl, by decide +kernel, by decide +kernel⟩
theorem sc_logeq : FnScope ["self", "other"] ["self", "other"] (defScope (inClass (topS 10) 3)) := ⟨rfl, rfl, rfl, by decide +kernel, rfl, by decide +kernel, by decide +kernel⟩
def stk1 (ps : List (Int × Int)) (m : Nat) : Int := ((ps.take (m + 1)).map fun p => p.1 - p.2).sum
theorem prL_fit (ps : List (Int × Int)) : Fit (.tup (prs ps)) := ⟨by rw [Dd.plain]; exact plains_map _ (fun _ => rfl) ps, by
  obtain ⟨h1, h2⟩ := lay_prz ps
  have e : toPys (prs ps) = ps.map fun p => PyData.tuple [.int p.1, .int p.2] := toPys_prz ps
  rw [toPy, e]
  unfold SeqAt.shaped
  rw [PyData.canLay0, PyData.depth, h1]
  simp
  omega⟩
theorem eqD_prL2 (ps qs : List (Int × Int)) : eqD (.tup (prs ps)) (.tup (prs qs)) = decide (ps = qs) := by
  have e : toPys (prs ps) = ps.map fun p => PyData.tuple [.int p.1, .int p.2] := toPys_prz ps
  have e' : toPys (prs qs) = qs.map fun p => PyData.tuple [.int p.1, .int p.2] := toPys_prz qs
  unfold eqD
  rw [toPy, toPy, e, e', PyData.eqv, eqv_prs]
theorem cut_tk1 (ps : List (Int × Int)) (n : Nat) : Dd.cutD (prs ps) none (some (((n : Nat) : Int) + 1)) = prs (ps.take (n + 1)) := by
  unfold Dd.cutD
  have e1 : HT.sIx (prs ps).length 0 none = 0 := rfl
  rw [e1]
  have e2 : HT.sIx (prs ps).length (prs ps).length (some (((n : Nat) : Int) + 1)) = min (n + 1) ps.length := by
    rw [prs_len]
    simp only [HT.sIx]
    split <;> omega
  rw [e2, List.drop_zero, Nat.sub_zero]
  unfold prs
  rw [← List.map_take]
  congr 1
  by_cases h : n + 1 ≤ ps.length
  · rw [Nat.min_eq_left h]
  · rw [Nat.min_eq_right (by omega), List.take_length, List.take_of_length_le (by omega)]
section
variable {P : Program} {w : World} {K : PySem.W.Frag} {mg : Str → Option Value} {base : Heap} {C : Addr}
def spStk1 (C : Addr) : Sp := SpT (fun x : List (Int × Int) × Nat => [logD C x.1, .int x.2]) (fun x => x.1.length ≤ 2000 ∧ Lawf 1000 x.1) (fun x r => r = .int (stk1 x.1 x.2))
theorem ok_stk1 {f : Addr} {fd : FuncData} (F : Fun K "stock" "Log.stock" (inClass (topS 10) 2) f fd) (L : LogC K C) (m1 : mg "sum" = none) (m2 : mg "max" = none) : FnOk P w K mg base CX0 1 f fd ["self", "day"] (spStk1 C) := by
  refine F.ok sc_stk1 (fun vs H Q E h => ?_) (fun cdv A outer s H vs Q E hr h => ?_)
  · obtain ⟨n, x, _, h, _⟩ := h
    simp [h.length]
  · obtain ⟨n, ⟨ps, dy⟩, al, h3, ⟨hlen, hL⟩, q⟩ := h
    have nd := sc_stk1.nd
    have hKI : KIs K := trivial
    have hcl := L.cl
    have hN1 := L.nd
    replace hlen : ps.length ≤ 2000 := hlen
    replace hL : Lawf 1000 ps := hL
    refine' ⟨?t, ?pp, ?rd⟩
    case pp => walk_at "pss"
    case rd =>
      refine in_T al h3 rfl ?_
      show Nx _ [.is (logD C ps), .is (.int dy), .no, .no] _
      walk_at "go"
      refine wp_lcI (wi_tup ?_)
      walk_at "go"
      have em : (if (dy : Int) + 1 > 0 then (dy : Int) + 1 else 0) = (dy : Int) + 1 := if_pos (by omega)
      rw [em, cut_tk1]
      refine ⟨_, rfl, lc_map (enc := fun p : Int × Int => Da.tup [.int p.1, .int p.2]) (xs := ps.take (dy + 1)) (fun p => .int (p.1 - p.2)) (by rw [List.length_take]; omega) (fun p hp => ?_) ?_⟩
      · refine ⟨_, by walk_at "tgc", ?_⟩
        walk_at "go"
        exact ⟨rfl, rfl⟩
      have e2 : (ps.take (dy + 1)).map (fun p : Int × Int => Da.int (p.1 - p.2)) = inz ((ps.take (dy + 1)).map fun p => p.1 - p.2) := by rw [inz, List.map_map]; rfl
      rw [e2]
      walk_at "go"
      exact rt_T q .refl rfl
def spLStk : Sp := SpT (fun x : List (Int × Int) × Nat => [.lst (prs x.1), .int x.2]) (fun x => x.1.length ≤ 2000) (fun x r => r = .int (stk1 x.1 x.2))
theorem ok_lstk {f : Addr} {fd : FuncData} (F : Fun K "_law_stock" "_law_stock" (topS 23) f fd) (m1 : mg "sum" = none) : FnOk P w K mg base CX0 1 f fd ["days", "day"] spLStk := by
  refine F.ok sc_lstk (fun vs H Q E h => ?_) (fun cdv A outer s H vs Q E hr h => ?_)
  · obtain ⟨n, x, _, h, _⟩ := h
    simp [h.length]
  · obtain ⟨n, ⟨ps, dy⟩, al, h3, hlen, q⟩ := h
    have nd := sc_lstk.nd
    have hKI : KIs K := trivial
    replace hlen : ps.length ≤ 2000 := hlen
    refine' ⟨?t, ?pp, ?rd⟩
    case pp => walk_at "pss"
    case rd =>
      refine in_T al h3 rfl ?_
      show Nx _ [.is (.lst (prs ps)), .is (.int dy), .no, .no] _
      walk_at "go"
      refine wp_lcI (wi_lst ?_)
      walk_at "go"
      rw [cut_tk1]
      refine ⟨_, rfl, lc_map (enc := fun p : Int × Int => Da.tup [.int p.1, .int p.2]) (xs := ps.take (dy + 1)) (fun p => .int (p.1 - p.2)) (by rw [List.length_take]; omega) (fun p hp => ?_) ?_⟩
      · refine ⟨_, by walk_at "tgc", ?_⟩
        walk_at "go"
        exact ⟨rfl, rfl⟩
      have e2 : (ps.take (dy + 1)).map (fun p : Int × Int => Da.int (p.1 - p.2)) = inz ((ps.take (dy + 1)).map fun p => p.1 - p.2) := by rw [inz, List.map_map]; rfl
      rw [e2]
      walk_at "go"
      exact rt_T q .refl rfl
end
section
variable {P : Program} {w : World} {K : PySem.W.Frag} {mg : Str → Option Value} {base : Heap} {C : Addr}
local macro_rules | `(tactic| walk_at "pe") => `(tactic| ((with_reducible show PE _ (.Name _ _) _); exact pe_clo (by rfl) (by assumption)))
local macro_rules | `(tactic| walk_at "st") => `(tactic| (with_reducible refine' wp_clo ?_))
/-- self.days == other.days, of another log -/
def spLogE (C : Addr) : Sp := SpT (fun x : List (Int × Int) × List (Int × Int) => [logD C x.1, logD C x.2]) (fun x => x.1.length ≤ 2000 ∧ x.2.length ≤ 2000) (fun x r => r = .bl (decide (x.1 = x.2)))
theorem ok_logeq {f : Addr} {fd : FuncData} (F : Fun K "__eq__" "Log.__eq__" (inClass (topS 10) 3) f fd) (L : LogC K C) (I : IsiC K C) (hki : PySem.W.kitOne K (.ref C) (.ref C) = some true) (mi : mg "isinstance" = none) (mt : mg "Log" = some (.ref C)) :
    FnOk P w K mg base CX0 1 f fd ["self", "other"] (spLogE C) := by
  refine F.ok sc_logeq (fun vs H Q E h => ?_) (fun cdv A outer s H vs Q E hr h => ?_)
  · obtain ⟨n, x, _, h, _⟩ := h
    simp [h.length]
  · obtain ⟨n, ⟨ps, qs⟩, al, h3, ⟨hl1, hl2⟩, q⟩ := h
    have nd := sc_logeq.nd
    have hKI : KIs K := trivial
    replace hl1 : ps.length ≤ 2000 := hl1
    replace hl2 : qs.length ≤ 2000 := hl2
    refine' ⟨?t, ?pp, ?rd⟩
    case pp => walk_at "pss"
    case rd =>
      refine in_T al h3 rfl ?_
      show Nx _ [.is (logD C ps), .is (logD C qs)] _
      have hN1 := L.nd
      have hcl := L.cl
      walk_at "go"
      refine ⟨_, b_isiO rfl rfl I hki, true, rfl, fun _ => ?_, fun h => Bool.noConfusion h⟩
      walk_at "go"
      refine ⟨_, oq_d rfl rfl (prL_fit ps) (prL_fit qs), ?_⟩
      rw [eqD_prL2]
      exact rt_T q .refl rfl
/-- .. of anything else -/
def spLogO (K : PySem.W.Frag) (C : Addr) : Sp := SpT (fun x : List (Int × Int) × Da => [logD C x.1, x.2]) (fun x => ∃ s, kindX x.2 = some s ∧ PySem.W.kitOne K (.type s) (.ref C) = some false) (fun _ r => r = .bl false)
theorem ok_logeqO {f : Addr} {fd : FuncData} (F : Fun K "__eq__" "Log.__eq__" (inClass (topS 10) 3) f fd) (mi : mg "isinstance" = none) (mt : mg "Log" = some (.ref C)) : FnOk P w K mg base CX0 1 f fd ["self", "other"] (spLogO K C) := by
  refine F.ok sc_logeq (fun vs H Q E h => ?_) (fun cdv A outer s H vs Q E hr h => ?_)
  · obtain ⟨n, x, _, h, _⟩ := h
    simp [h.length]
  · obtain ⟨n, ⟨ps, d⟩, al, h3, ⟨ty, hk, hki⟩, q⟩ := h
    have nd := sc_logeq.nd
    have hKI : KIs K := trivial
    replace hk : kindX d = some ty := hk
    refine' ⟨?t, ?pp, ?rd⟩
    case pp => walk_at "pss"
    case rd =>
      refine in_T al h3 rfl ?_
      show Nx _ [.is (logD C ps), .is d] _
      walk_at "go"
      refine ⟨_, b_isiCl rfl rfl hk hki, false, rfl, fun h => Bool.noConfusion h, fun _ => ?_⟩
      walk_at "go"
      exact rt_T q .refl rfl
local macro_rules | `(tactic| walk_at "cb") => `(tactic| first
 | (refine' b_repr ?a ?z; (case a => exact rfl); (case z => assumption))
 | fail)
theorem ins_rng {u : Int} {ps : List (Int × Int)} (h : Lawf u ps) : ∀ x ∈ insF ps, 0 ≤ x ∧ x < ps.length := fun x hx => by
  have a := sprd_ge _ _ _ hx
  have b := sprd_lt _ _ _ hx
  rw [List.length_map] at b
  omega
theorem outs_rng {u : Int} {ps : List (Int × Int)} (h : Lawf u ps) : ∀ x ∈ outsF ps, -1 ≤ x ∧ x < ps.length + 1 := fun x hx => by
  rcases List.mem_append.mp hx with hx | hx
  · have a := sprd_ge _ _ _ hx
    have b := sprd_lt _ _ _ hx
    rw [List.length_map] at b
    omega
  · have := List.eq_of_mem_replicate hx
    omega
theorem stk1_rng {ps : List (Int × Int)} (h : Lawf 40 ps) (m : Nat) : (stk1 ps m).natAbs < 10 ^ 12 := by
  have h0 := h.stk (m + 1)
  have h1 : ∀ qs : List (Int × Int), (∀ p ∈ qs, 0 ≤ p.2) → (qs.map fun p => p.1 - p.2).sum ≤ (qs.map (·.1)).sum := by
    intro qs
    induction qs with
    | nil => intro _; exact Int.le_refl _
    | cons q qs ih =>
      intro hq
      have a := ih fun p hp => hq p (List.mem_cons_of_mem _ hp)
      have b := hq q List.mem_cons_self
      rw [List.map_cons, List.sum_cons, List.map_cons, List.sum_cons]
      omega
  have h2 := h1 (ps.take (m + 1)) fun p hp => (h.pos p (List.mem_of_mem_take hp)).2
  have h3 := pre_le (fun p hp => (h.pos p hp).1) (m + 1)
  have h4 := h.sum
  unfold stk1
  omega
theorem shw_log {ps : List (Int × Int)} (hlen : ps.length ≤ 60) (h : Lawf 40 ps) : Shw (.tup (prs ps)) ∧ Shw (.tup [.tup (inz (insF ps)), .tup (inz (outsF ps))]) := by
  have l1 := insF_len h
  have l2 := outsF_len h
  constructor
  · refine (Wr.tup (ds := prs ps) (w := 82) (k := 1) fun d hd => ?_).shw (by rw [prs_len]; omega) (by omega)
    obtain ⟨p, hp, rfl⟩ := List.mem_map.mp hd
    have a := h.bnd p hp
    have b := h.pos p hp
    exact .pr (by omega) (by omega)
  · refine (Wr.tup (ds := [.tup (inz (insF ps)), .tup (inz (outsF ps))]) (w := 41 * 40) (k := 1) fun d hd => ?_).shw (by show (41 * 40 + 1) * 2 ≤ 2 ^ 20; decide) (by omega)
    rcases List.mem_cons.mp hd with rfl | hd
    · refine (Wr.tup (ds := inz (insF ps)) (w := 40) (k := 0) fun d hd => ?_).mono (by rw [inz_len]; omega) (Nat.le_refl _)
      obtain ⟨i, hi, rfl⟩ := List.mem_map.mp hd
      have := ins_rng h i hi
      exact .int (by omega)
    · rw [List.mem_singleton.mp hd]
      refine (Wr.tup (ds := inz (outsF ps)) (w := 40) (k := 0) fun d hd => ?_).mono (by rw [inz_len]; omega) (Nat.le_refl _)
      obtain ⟨i, hi, rfl⟩ := List.mem_map.mp hd
      have := outs_rng h i hi
      exact .int (by omega)
def spRight01 (C : Addr) : Sp := SpT (fun ps : List (Int × Int) => [logD C ps, .lst (prs ps)]) (fun ps => ps.length ≤ 60 ∧ Lawf 40 ps) (fun _ r => r = .bl true)
theorem ok_right01 {f : Addr} {fd : FuncData} (F : Fun K "_law_right" "_law_right" (topS 25) f fd) (L : LogC K C) (I : IsiC K C) (hki : PySem.W.kitOne K (.ref C) (.ref C) = some true) (mt : mg "Log" = some (.ref C)) (ms : Metb P w K mg base 1 C "stock" (spStk1 C)) (os : Own P w K mg base 1 C "__str__" (spStr C)) (ci : Calb P w K mg base 1 "_law_ins" spIns) (co : Calb P w K mg base 2 "_law_outs" spOuts) (cx : Calb P w K mg base 1 "_law_text" spText) (ck : Calb P w K mg base 1 "_law_stock" spLStk)
    (m1 : mg "isinstance" = none) (m2 : mg "repr" = none) (m3 : mg "tuple" = none) (m4 : mg "str" = none) (m5 : mg "range" = none) (m6 : mg "len" = none) : FnG P w K mg base 5 f fd ["log", "days"] (spRight01 C) := by
  refine okG F sc_right01 (fun vs H Q E h => ?_) (fun cdv A outer s H vs Q E hg hr h => ?_)
  · obtain ⟨n, x, _, h, _⟩ := h
    simp [h.length]
  · obtain ⟨n, ps, al, h3, ⟨hlen, hL4⟩, q⟩ := h
    have nd := sc_right01.nd
    have hKI : KIs K := trivial
    have hcl := L.cl
    have hN1 := L.nd
    have hN2 := L.ni
    have hN3 := L.no
    have hG : (A.deeper (envOfC "_law_right" (defScope (topS 25)) s.heap.objs.size f cdv)).guards = some [] := hg
    replace hlen : ps.length ≤ 60 := hlen
    have hL : Lawf 1000 ps := ⟨hL4.1, Int.le_trans hL4.2 (by omega), hL4.3⟩
    refine' ⟨?t, ?pp, ?rd⟩
    case pp => walk_at "pss"
    case rd =>
      refine in_T al h3 rfl ?_
      show Nx _ [.is (logD C ps), .is (.lst (prs ps)), .no, .no] _
      walk_at "go"
      obtain ⟨hS1, hS2⟩ := shw_log hlen hL4
      refine ⟨_, b_isiO rfl rfl I hki, _, _, rfl, rfl, (fun h => by simp at h), fun _ => ?_⟩
      walk_at "go"
      refine ⟨fun h => absurd h (by simp), fun _ => ?_⟩
      walk_at "go"
      refine ⟨_, b_strO rfl ps rfl ⟨by omega, hL⟩ (fun r hr => hr), ?_⟩
      walk_at "go"
      refine wp_call ?_
      walk_at "go"
      refine ⟨ps, by walk_at "sees", ⟨by omega, hL⟩, .inr (fun r hr => by rw [hr]; rfl), fun r hr => ?_⟩
      obtain rfl := hr
      walk_at "go"
      refine ⟨fun h => absurd h (by simp), fun _ => ?_⟩
      walk_at "go"
      refine wp_callO ?_
      walk_at "go"
      rintro _ rfl
      walk_at "go"
      refine wp_callO ?_
      walk_at "go"
      rintro _ rfl
      walk_at "go"
      refine ⟨fun h => absurd h (by simp), fun _ => ?_⟩
      walk_at "go"
      refine wp_lcR ?_
      walk_at "go"
      rw [prs_len]
      refine ⟨_, _, rfl, rfl, lcr_typed (fun m => .int (m : Int)) (fun _ => false) ps.length (by omega) (fun j hj => ?_) ?_⟩
      · have hSj : Shw (.int (stk1 ps j)) := (Wr.int (stk1_rng hL4 j)).shw (by omega) (by omega)
        refine ⟨_, by walk_at "tgc", ?_⟩
        walk_at "go"
        refine wp_call ?_
        walk_at "go"
        refine ⟨(ps, j), by walk_at "sees", ⟨by show ps.length ≤ 2000; omega, hL⟩, .inr (fun r hr => by rw [hr]; rfl), fun r hr => ?_⟩
        obtain rfl := hr
        walk_at "go"
        refine wp_call ?_
        walk_at "go"
        refine ⟨(ps, j), by walk_at "sees", by show ps.length ≤ 2000; omega, .inr (fun r hr => by rw [hr]; rfl), fun r hr => ?_⟩
        obtain rfl := hr
        walk_at "go"
        exact ⟨by simp, (fun h => by cases h), fun _ => rfl⟩
      · rw [show (List.map (fun m : Nat => Da.int (m : Int)) (List.filter (fun _ => false) (List.range ps.length))) = [] by simp]
        refine sk_nw (nx_freeze 2 rfl ?_)
        show Nx _ [.is (logD C ps), .is (.lst (prs ps)), .is (.lst []), .no] _
        walk_at "go"
        exact rt_T q .refl (congrArg Da.bl (by
          have h : eqD (Da.lst (inz [])) (Da.lst (inz [])) = true := by rw [eqD_inzL]; rfl
          exact h))
end
end Law
namespace Law
open PySem PySem.Spec PyProof.Rows L2 Dd
theorem sc_unl1 : FnScope ["days", "caught", "error"] ["days"] (defScope (topS 26)) := ⟨rfl, rfl, rfl, by decide +kernel, rfl, by decide +kernel, by decide +kernel⟩
theorem boot_VE : bootBuiltins "ValueError" = some (.type "ValueError") := by decide +kernel
section
variable {P : Program} {w : World} {K : PySem.W.Frag} {mg : Str → Option Value} {base : Heap} {CL CN CS : Addr}
theorem nx_tryLog {F : Fx} {ρ : List Sl} {tx : TA} {D : Ends} {i jk : Nat} (hi : i < ρ.length) (hik : i ≠ jk) (h : WpA tx ρ fun ks ρ1 => ρ1 = ρ ∧ ∃ x : Da × List (Int × Int), AllDa ks [x.1] ∧ (Ob.ins CL [] = .ins CL [] ∧ Sq x.1 (prs x.2) ∧ x.2.length ≤ 2000 ∧ (∀ p ∈ x.2, 0 ≤ p.1 ∧ 0 ≤ p.2) ∧ (x.2.map (·.1)).sum ≤ 1000) ∧
      (∀ gs, (badF x.2 = none ∧ Ob.ins CL gs = .ins CL (logF x.2) ∧ Da.non = Da.non) → Nx F ρ D.nx) ∧ ∀ (C' : Addr) (g : Str) (v : Int), (C' = CN ∧ g = "day" ∧ ∃ m : Nat, badF x.2 = some m ∧ v = (m : Int)) → PySem.W.exmOne K (.ref C') (.ref CS) = some true ∧ Nx F ((ρ.set jk (.is (.exn C' [(g, .int v)]))).set i .no) D.nx) :
    Nx F ρ (tTryMkK K CL CS i jk (spLogX CL CN) tx D) :=
  nx_tryMkK (enc := fun x : Da × List (Int × Int) => [x.1]) (pre := fun o x => o = .ins CL [] ∧ Sq x.1 (prs x.2) ∧ x.2.length ≤ 2000 ∧ (∀ p ∈ x.2, 0 ≤ p.1 ∧ 0 ≤ p.2) ∧ (x.2.map (·.1)).sum ≤ 1000) (post := fun _ x o' r => badF x.2 = none ∧ o' = .ins CL (logF x.2) ∧ r = Da.non) (exc := fun x C' f' i => C' = CN ∧ f' = "day" ∧ ∃ m : Nat, badF x.2 = some m ∧ i = (m : Int)) (fun x o' r h => ⟨h.2.2, _, h.2.1⟩) hi hik h
local macro_rules | `(tactic| walk_at "ps") => `(tactic| first
 | ((with_reducible show PS _ (.Try _ _ _ _ _) _); refine' ps_tryMkK ?m ?h (i := 2) (jk := 1) rfl rfl rfl ?n ?c ?r ?k (by rfl) (by rfl) ?g1 rfl rfl (by first | exact .inl rfl | exact .inr rfl) (by first | exact .inl rfl | exact .inr rfl) rfl (.inl rfl) (fun pn xe => ?a); (case m => assumption); (case h => exact rfl); (case n => assumption); (case c => assumption); (case r => assumption); (case k => decide); (case g1 => assumption); (case a => walk_at "pa"))
 | fail)
local macro_rules | `(tactic| walk_at "pcall") => `(tactic| first
 | ((with_reducible show PE _ (.Call (.Name (Str.ofString "isinstance") _) [_, .Name (Str.ofString "NotLawful") _] [] _) _); refine' pe_callB (call_isOK ?m ?h) (by rfl) (by assumption) boot_isinstance (pa_cons ?e (pa_cons (pe_glob (v := .ref CN) (u := .ref CN) (by rfl) ?g rfl) pa_nil)); (case m => assumption); (case h => exact rfl); (case e => walk_at "pe"); (case g => assumption))
 | ((with_reducible show PE _ (.Call (.Name (Str.ofString "isinstance") _) [_, .Name (Str.ofString "ValueError") _] [] _) _); refine' pe_callB (call_isOTK (T := "ValueError") ?m ?h) (by rfl) (by assumption) boot_isinstance (pa_cons ?e (pa_cons (pe_bltn (v := .ty "ValueError") (by rfl) ?g boot_VE rfl) pa_nil)); (case m => assumption); (case h => exact rfl); (case e => walk_at "pe"); (case g => assumption))
 | fail)
local macro_rules | `(tactic| walk_at "pe") => `(tactic| first
 | ((with_reducible show PE _ (.Attribute _ (Str.ofString "day") _) _); refine' pe_xfOK ?m ?h ?e; (case m => assumption); (case h => exact rfl); (case e => walk_at "pe"))
 | fail)
/-- the first bad day, or None -/
def spUnl1 : Sp := SpT (fun x : Da × List (Int × Int) => [x.1]) (fun x => Sq x.1 (prs x.2) ∧ x.2.length ≤ 2000 ∧ (∀ p ∈ x.2, 0 ≤ p.1 ∧ 0 ≤ p.2) ∧ (x.2.map (·.1)).sum ≤ 1000) (fun x r => r = match badF x.2 with | none => .non | some m => .int (m : Nat))
theorem ok_unl1 {f : Addr} {fd : FuncData} (F : Fun K "_law_unlawful" "_law_unlawful" (topS 26) f fd) (mkL : MakX P w K mg base 5 "Log" CL (spLogX CL CN)) (hmS : mg "StoreError" = some (.ref CS)) (hmN : mg "NotLawful" = some (.ref CN)) (hVE : mg "ValueError" = none) (KN : KeptC K CN "day")
    (x1 : PySem.W.exmOne K (.ref CN) (.ref CS) = some true) (k1 : PySem.W.kitOne K (.ref CN) (.ref CN) = some true) (k2 : PySem.W.kitOne K (.ref CN) (.type "ValueError") = some true) (m1 : mg "isinstance" = none) : FnOk P w K mg base CX0 7 f fd ["days"] spUnl1 := by
  refine F.ok sc_unl1 (fun vs H Q E h => ?_) (fun cdv A outer s H vs Q E hr h => ?_)
  · obtain ⟨n, x, _, h, _⟩ := h
    simp [h.length]
  · obtain ⟨n, ⟨d, ps⟩, al, h3, ⟨hsq, hlen, hpos, hsum⟩, q⟩ := h
    have nd := sc_unl1.nd
    have hKI : KIs K := trivial
    replace hsq : Sq d (prs ps) := hsq
    replace hlen : ps.length ≤ 2000 := hlen
    refine' ⟨?t, ?pp, ?rd⟩
    case pp => walk_at "pss"
    case rd =>
      refine in_T al h3 rfl ?_
      show Nx _ [.is d, .no, .no] _
      walk_at "go"
      refine nx_tryLog (by simp) (by decide) ?_
      walk_at "go"
      refine ⟨rfl, (d, ps), by walk_at "allda", ⟨rfl, hsq, hlen, hpos, hsum⟩, fun fs hfs => ?_, fun C' g v he => ?_⟩
      · have hb := hfs.1
        walk_at "go"
        refine ⟨fun _ => ?_, fun h => by simp [isNonD] at h⟩
        walk_at "go"
        refine rt_T q .refl ?_
        show Da.non = _
        rw [hb]
      · obtain ⟨rfl, rfl, m, hb, rfl⟩ := he
        refine ⟨x1, ?_⟩
        show Nx _ [.is d, .is (.exn C' [("day", .int (m : Nat))]), .no] _
        walk_at "go"
        refine ⟨fun h => by simp [isNonD] at h, fun _ => ?_⟩
        walk_at "go"
        refine ⟨_, _, _, rfl, KN.ex, k1, _, _, rfl, rfl, fun _ => ?_, fun hh => absurd hh (by decide)⟩
        walk_at "go"
        refine ⟨_, _, _, rfl, KN.ex, k2, _, _, rfl, rfl, fun _ => ?_, fun hh => absurd hh (by decide)⟩
        walk_at "go"
        refine ⟨_, _, _, rfl, KN, rfl, ?_⟩
        walk_at "go"
        refine rt_T q .refl ?_
        show Da.int (m : Nat) = _
        rw [hb]
end
end Law
namespace Law
open PySem PySem.Spec PyProof.Rows L2 Dd
theorem sc_ref1 : FnScope ["feed", "days", "at", "stock", "bad"] ["feed", "days"] (defScope (topS 27)) := ⟨rfl, rfl, rfl, by decide +kernel, rfl, by decide +kernel, by decide +kernel⟩
theorem cut_to1 {ds : List Da} {j : Nat} (h : j ≤ ds.length) : Dd.cutD ds none (some (j : Int)) = ds.take j := by
  unfold Dd.cutD
  rw [HT.sIx_none, HT.sIx_nat, List.drop_zero, Nat.sub_zero, Nat.min_eq_left h]
theorem cut_from1 {ds : List Da} {j : Nat} (h : j ≤ ds.length) : Dd.cutD ds (some (j : Int)) none = ds.drop j := by
  unfold Dd.cutD
  rw [HT.sIx_none, HT.sIx_nat, Nat.min_eq_left h]
  exact List.take_of_length_le (by rw [List.length_drop]; omega)
theorem bad_none {ps : List (Int × Int)} {u : Int} (h : Lawf u ps) : badF ps = none := by
  refine List.find?_range_eq_none.mpr fun m _ => ?_
  have := h.stk (m + 1)
  rw [Bool.not_eq_true', decide_eq_false_iff_not]
  omega
/-- the day at which too many are sold is the first bad one -/
theorem bad_at {ps : List (Int × Int)} {u : Int} (h : Lawf u ps) {m : Nat} {p : Int × Int} (hp : ps[m]? = some p) {t : Int} (ht : 0 ≤ t) :
    badF (ps.take m ++ [(p.1, p.2 + ((ps.take (m + 1)).map fun p => p.1 - p.2).sum + 1 + t)] ++ ps.drop (m + 1)) = some m := by
  have hm : m < ps.length := (List.getElem?_eq_some_iff.mp hp).1
  have e1 : ps.take (m + 1) = ps.take m ++ [p] := by rw [List.take_add_one, hp]; rfl
  generalize hS : ((ps.take (m + 1)).map fun p => p.1 - p.2).sum = S
  rw [e1, List.map_append, List.sum_append] at hS
  have hS' : ((ps.take m).map fun p => p.1 - p.2).sum + (p.1 - p.2) = S := by simpa using hS
  have hlt : (ps.take m).length = m := by rw [List.length_take]; omega
  unfold badF
  refine List.find?_range_eq_some.mpr ⟨?_, ?_, fun j hj => ?_⟩
  · rw [List.append_assoc, List.take_append, hlt, List.take_of_length_le (by omega), Nat.add_sub_cancel_left]
    show decide (((ps.take m ++ [(p.1, p.2 + S + 1 + t)]).map fun p => p.1 - p.2).sum < 0) = true
    rw [List.map_append, List.sum_append]
    refine decide_eq_true ?_
    show ((ps.take m).map fun p => p.1 - p.2).sum + ((p.1 - (p.2 + S + 1 + t)) + 0) < 0
    omega
  · rw [List.mem_range]
    simp
    omega
  · have := h.stk (j + 1)
    rw [List.append_assoc, List.take_append_of_le_length (by omega), List.take_take, Nat.min_eq_left (by omega), Bool.not_eq_true', decide_eq_false_iff_not]
    omega
/-- what follows the first bad day does not matter -/
theorem bad_ext {ps qs : List (Int × Int)} {m : Nat} (h : badF ps = some m) (e : ∀ j, j ≤ m → ps[j]? = qs[j]? ∨ j = m ∧ ∃ p q, ps[m]? = some p ∧ qs[m]? = some q ∧ q.1 = p.1 ∧ p.2 ≤ q.2) : badF qs = some m := by
  have hh := List.find?_range_eq_some.mp h
  obtain ⟨h1, h2, h3⟩ := hh
  have tk : ∀ j, j ≤ m → ps.take j = qs.take j := fun j hj => by
    refine List.ext_getElem? fun i => ?_
    rw [List.getElem?_take, List.getElem?_take]
    split
    · rcases e i (by omega) with z | ⟨z, _⟩
      · exact z
      · omega
    · rfl
  have hm : m < ps.length := List.mem_range.mp h2
  have hq : ∃ q, qs[m]? = some q := by
    rcases e m (Nat.le_refl _) with z | ⟨_, p, q, _, z, _⟩
    · exact ⟨ps[m], by rw [← z, List.getElem?_eq_getElem hm]⟩
    · exact ⟨q, z⟩
  obtain ⟨q, hq⟩ := hq
  have hmq : m < qs.length := (List.getElem?_eq_some_iff.mp hq).1
  refine List.find?_range_eq_some.mpr ⟨?_, List.mem_range.mpr hmq, fun j hj => ?_⟩
  · have h1 := of_decide_eq_true h1
    refine decide_eq_true ?_
    rw [List.take_add_one, hq, List.map_append, List.sum_append, ← tk m (Nat.le_refl _)]
    rw [List.take_add_one, List.getElem?_eq_getElem hm, List.map_append, List.sum_append] at h1
    rcases e m (Nat.le_refl _) with z | ⟨_, p, q', z1, z2, z3, z4⟩
    · rw [hq, List.getElem?_eq_getElem hm] at z
      rw [← Option.some.inj z]
      exact h1
    · rw [hq] at z2
      rw [List.getElem?_eq_getElem hm] at z1
      obtain rfl := Option.some.inj z2
      obtain rfl := Option.some.inj z1
      simp at h1 ⊢
      omega
  · have := h3 j hj
    rwa [tk (j + 1) (by omega)] at this
end Law
namespace Law
open PySem PySem.Spec PyProof.Rows L2 Dd
section
variable {P : Program} {w : World} {K : PySem.W.Frag} {mg : Str → Option Value} {base : Heap} {CL CN CS : Addr}
def spRef1 : Sp := SpF (fun ps : List (Int × Int) => [.lst (prs ps)]) (fun l ps => Feed l ∧ (ps ≠ [] ∧ ps.length ≤ 60) ∧ Lawf 40 ps) (fun _ _ l' r => Feed l' ∧ r = .bl true)
theorem ok_ref1 {f : Addr} {fd : FuncData} (F : Fun K "_law_refused_right" "_law_refused_right" (topS 27) f fd) (ct : Calb P w K mg base 1 "_law_take" spTake) (ck : Calb P w K mg base 1 "_law_stock" spLStk) (cu : Calb P w K mg base 7 "_law_unlawful" spUnl1) (m1 : mg "len" = none) (m2 : mg "tuple" = none) : FnOk P w K mg base CX0 8 f fd ["feed", "days"] spRef1 := by
  refine F.ok sc_ref1 (fun vs H Q E h => ?_) (fun cdv A outer s H vs Q E hr h => ?_)
  · obtain ⟨n, f, ws, us, l, x, rfl, _, _, _, _, h, _⟩ := h
    simp [h.length]
  · obtain ⟨n, f, ws, us, l, ps, rfl, hf, al, h1, h2, h3, ⟨hl, ⟨hne, hlen⟩, hL4⟩, q⟩ := h
    have nd := sc_ref1.nd
    have hKI : KIs K := trivial
    replace hlen : ps.length ≤ 60 := hlen
    have hpl : 0 < ps.length := List.length_pos_iff.mpr hne
    refine' ⟨?t, ?pp, ?rd⟩
    case pp => walk_at "pss"
    case rd =>
      refine in_F hf al h1 h2 h3 rfl ?_
      show Nx _ [Sl.own true (.lst l), .is (.lst (prs ps)), .no, .no, .no] _
      walk_at "go"
      refine wp_callF ?_
      walk_at "go"
      refine ⟨0, _, _, _, _, rfl, rfl, by walk_at "allda", ⟨hl, by rw [prs_len]; omega, by rw [prs_len]; omega⟩, fun l1 r1 hr1 => ?_⟩
      obtain ⟨hl1, c, rfl, hc1, hc2⟩ := hr1
      obtain ⟨c, rfl⟩ : ∃ c' : Nat, c = c' := ⟨c.toNat, by omega⟩
      replace hc2 : (c : Int) < ps.length := by rw [← prs_len ps]; exact hc2
      obtain ⟨p, hcp⟩ : ∃ p, ps[c]? = some p := ⟨_, List.getElem?_eq_getElem (by omega)⟩
      have ap : atI (prs ps) (c : Int) = some (.tup [.int p.1, .int p.2]) := atI_nat (prs_get hcp)
      walk_at "go"
      refine wp_call ?_
      walk_at "go"
      refine ⟨(ps, c), by walk_at "sees", by show ps.length ≤ 2000; omega, .inr (fun r hr => by rw [hr]; rfl), fun r hr => ?_⟩
      obtain rfl := hr
      walk_at "go"
      refine wp_callF ?_
      walk_at "go"
      refine ⟨0, _, _, _, 9, rfl, rfl, by walk_at "allda", ⟨hl1, by decide, by decide⟩, fun l2 r2 hr2 => ?_⟩
      obtain ⟨hl2, tt, rfl, ht1, ht2⟩ := hr2
      walk_at "go"
      have hc0 : Dd.cutD (prs ps) none (some (c : Int)) = prs (ps.take c) := by
        rw [cut_to1 (by rw [prs_len]; omega)]
        exact (List.map_take ..).symm
      have hcd : Dd.cutD (prs ps) (some ((c : Int) + 1)) none = prs (ps.drop (c + 1)) := by
        rw [show ((c : Nat) : Int) + 1 = ((c + 1 : Nat) : Int) from rfl, cut_from1 (by rw [prs_len]; omega)]
        exact (List.map_drop ..).symm
      have lt1 : (prs (ps.take c)).length = c := by rw [prs_len, List.length_take]; omega
      have lt2 : (prs (ps.drop (c + 1))).length ≤ 60 := by rw [prs_len, List.length_drop]; omega
      rw [hc0]
      refine ⟨_, op_plusL rfl rfl (le_line (by rw [lt1]; show c + 1 ≤ _; omega)), ?_⟩
      walk_at "go"
      rw [hcd]
      refine ⟨_, op_plusL rfl rfl (le_line (by rw [List.length_append, lt1]; show c + 1 + _ ≤ _; omega)), ?_⟩
      generalize hbd : ps.take c ++ [(p.1, stk1 ps c + p.2 + 1 + tt)] ++ ps.drop (c + 1) = bd
      have ew : prs (ps.take c) ++ [Da.tup [.int p.1, .int (stk1 ps c + p.2 + 1 + tt)]] ++ prs (ps.drop (c + 1)) = prs bd := by
        rw [← hbd]
        unfold prs
        rw [List.map_append, List.map_append]
        rfl
      rw [ew]
      have hbad : badF bd = some c := by
        have := bad_at hL4 hcp ht1
        rw [show p.2 + ((ps.take (c + 1)).map fun p => p.1 - p.2).sum + 1 + tt = stk1 ps c + p.2 + 1 + tt by unfold stk1; omega, hbd] at this
        exact this
      have hS0 : 0 ≤ stk1 ps c := hL4.stk (c + 1)
      have hpm : p ∈ ps := List.mem_of_getElem? hcp
      have hpb : ∀ x ∈ bd, 0 ≤ x.1 ∧ 0 ≤ x.2 := fun x hx => by
        rw [← hbd] at hx
        rcases List.mem_append.mp hx with hx | hx
        · rcases List.mem_append.mp hx with hx | hx
          · exact hL4.pos x (List.mem_of_mem_take hx)
          · obtain rfl := List.mem_singleton.mp hx
            have := hL4.pos p hpm
            exact ⟨this.1, by show 0 ≤ stk1 ps c + p.2 + 1 + tt; omega⟩
        · exact hL4.pos x (List.mem_of_mem_drop hx)
      have hlb : bd.length = ps.length := by
        rw [← hbd, List.length_append, List.length_append, List.length_take, List.length_drop]
        show min c _ + 1 + _ = _
        omega
      have hsb : (bd.map (·.1)).sum ≤ 1000 := by
        have e : bd.map (·.1) = ps.map (·.1) := by
          rw [← hbd, List.map_append, List.map_append]
          conv => rhs; rw [← List.take_append_drop (c + 1) ps]
          rw [List.map_append, List.take_add_one, hcp, List.map_append]
          rfl
        rw [e]
        have := hL4.sum
        omega
      refine sk_nw ?_
      show Nx _ [Sl.own true (.lst l2), .is (.lst (prs ps)), .is (.int (c : Nat)), .is (.int (stk1 ps c + p.2)), .own false (.lst (prs bd))] _
      dsimp only
      refine nx_seq ?_
      refine nx_join (fun x : List Da × List (Int × Int) => [Sl.own true (.lst x.1), .is (.lst (prs ps)), .is (.int (c : Nat)), .is (.int (stk1 ps c + p.2)), .own false (.lst (prs x.2))]) (fun x => Feed x.1 ∧ badF x.2 = some c ∧ x.2.length ≤ 60 ∧ (∀ y ∈ x.2, 0 ≤ y.1 ∧ 0 ≤ y.2) ∧ (x.2.map (·.1)).sum ≤ 1000) ?b (fun key => ?a)
      case a =>
        walk_at "go"
        refine wp_callF ?_
        walk_at "go"
        refine ⟨0, _, _, _, 2, rfl, rfl, by walk_at "allda", ⟨hl2, by decide, by decide⟩, fun l3 r3 hr3 => ?_⟩
        obtain ⟨hl3, n3, rfl, hn1, hn2⟩ := hr3
        walk_at "go"
        refine ⟨fun hb => ?_, fun hb => ?_⟩
        · have hbl : 0 < bd.length := by omega
          obtain ⟨z, hz⟩ : ∃ z, bd[bd.length - 1]? = some z := ⟨_, List.getElem?_eq_getElem (by omega)⟩
          have az : atI (prs bd) (-1) = some (.tup [.int z.1, .int z.2]) := by
            unfold atI
            rw [ixN_e (by rw [prs_len]; omega)]
            show (prs bd)[(prs bd).length - 1]? = _
            rw [prs_len]
            exact prs_get hz
          walk_at "go"
          refine ⟨_, un_negI rfl, ?_⟩
          walk_at "go"
          refine ⟨_, un_negI rfl, ?_⟩
          walk_at "go"
          have hix : ixN (prs bd).length (((prs bd).length : Int) - 1) = some (bd.length - 1) := by
            rw [prs_len, show ((bd.length : Nat) : Int) - 1 = ((bd.length - 1 : Nat) : Int) by omega]
            exact ixN_nat (by omega)
          refine ⟨_, _, _, rfl, rfl, hix, ?_⟩
          have es : (prs bd).set (bd.length - 1) (.tup [.int z.1, .int (z.2 + 50)]) = prs (bd.set (bd.length - 1) (z.1, z.2 + 50)) := by
            unfold prs
            rw [List.map_set]
          rw [es]
          have hzp := hpb z (List.mem_of_getElem? hz)
          refine key (l3, bd.set (bd.length - 1) (z.1, z.2 + 50)) ⟨hl3, bad_ext hbad (fun j hj => ?_), by show (bd.set _ _).length ≤ 60; rw [List.length_set]; omega, fun y hy => ?_, ?_⟩
          · by_cases cj : j = bd.length - 1
            · have hm := (List.mem_range.mp (List.find?_range_eq_some.mp hbad).2.1)
              have jm : j = c := by omega
              refine .inr ⟨jm, z, (z.1, z.2 + 50), by rw [← jm, cj]; exact hz, ?_, rfl, by show z.2 ≤ z.2 + 50; omega⟩
              rw [← jm, cj]
              exact List.getElem?_set_self (by omega)
            · exact .inl (List.getElem?_set_ne (Ne.symm cj)).symm
          · rcases List.mem_or_eq_of_mem_set hy with hy | rfl
            · exact hpb y hy
            · exact ⟨hzp.1, by show 0 ≤ z.2 + 50; omega⟩
          · have e : (bd.set (bd.length - 1) (z.1, z.2 + 50)).map (·.1) = bd.map (·.1) := by
              refine List.ext_getElem? fun j => ?_
              rw [List.getElem?_map, List.getElem?_map]
              by_cases cj : j = bd.length - 1
              · rw [cj, List.getElem?_set_self (by omega), hz]
                rfl
              · rw [List.getElem?_set_ne (Ne.symm cj)]
            show ((bd.set (bd.length - 1) (z.1, z.2 + 50)).map (·.1)).sum ≤ 1000
            rw [e]
            exact hsb
        · exact nx_next (key (l3, bd) ⟨hl3, hbad, by show bd.length ≤ 60; omega, hpb, hsb⟩)
      case b =>
        rintro ⟨l3, bq⟩ ⟨hl3, hbq, hbl, hbp, hbs⟩
        show Nx _ [Sl.own true (.lst l3), .is (.lst (prs ps)), .is (.int (c : Nat)), .is (.int (stk1 ps c + p.2)), .own false (.lst (prs bq))] _
        dsimp only
        walk_at "go"
        replace hbq : badF bq = some c := hbq
        replace hbl : bq.length ≤ 60 := hbl
        refine wp_call ?_
        walk_at "go"
        refine ⟨(.lst (prs bq), bq), by walk_at "sees", ⟨.lst _, by show bq.length ≤ 2000; omega, hbp, hbs⟩, .inr (fun r hr => by rw [hr]; show flat (match badF bq with | none => Da.non | some m => .int (m : Nat)) = true; rw [hbq]; rfl), fun r hr => ?_⟩
        replace hr : r = match badF bq with | none => Da.non | some m => .int (m : Nat) := hr
        rw [hbq] at hr
        obtain rfl : r = .int (c : Nat) := hr
        walk_at "go"
        refine ⟨fun _ => ?_, fun h => absurd h (by simp)⟩
        walk_at "go"
        refine wp_call ?_
        walk_at "go"
        refine ⟨(.tup (prs bq), bq), by walk_at "sees", ⟨.tup _, by show bq.length ≤ 2000; omega, hbp, hbs⟩, .inr (fun r hr => by rw [hr]; show flat (match badF bq with | none => Da.non | some m => .int (m : Nat)) = true; rw [hbq]; rfl), fun r hr => ?_⟩
        replace hr : r = match badF bq with | none => Da.non | some m => .int (m : Nat) := hr
        rw [hbq] at hr
        obtain rfl : r = .int (c : Nat) := hr
        walk_at "go"
        refine ⟨fun _ => ?_, fun h => absurd h (by simp)⟩
        walk_at "go"
        refine wp_call ?_
        walk_at "go"
        have hbn := bad_none hL4
        have hsp := hL4.sum
        refine ⟨(.lst (prs ps), ps), by walk_at "sees", ⟨.lst _, by show ps.length ≤ 2000; omega, fun y hy => hL4.pos y hy, by show (ps.map (·.1)).sum ≤ 1000; omega⟩, .inr (fun r hr => by rw [hr]; show flat (match badF ps with | none => Da.non | some m => .int (m : Nat)) = true; rw [hbn]; rfl), fun r hr => ?_⟩
        replace hr : r = match badF ps with | none => Da.non | some m => .int (m : Nat) := hr
        rw [hbn] at hr
        obtain rfl : r = .non := hr
        walk_at "go"
        exact rt_F q .refl (by rfl) ⟨hl3, rfl⟩
end
end Law
namespace Law
open PySem PySem.Spec PyProof.Rows L2 Dd
theorem sc_law01 : FnScope ["script", "k", "feed", "made", "turn", "days", "mine", "logs", "log", "one", "other", "same", "thing"] ["script"] (defScope (topS 28)) := ⟨rfl, rfl, rfl, by decide +kernel, rfl, by decide +kernel, by decide +kernel⟩
theorem prs_noL1 : ∀ ps : List (Int × Int), noLs (prs ps) = true
  | [] => rfl
  | p :: ps => by
    show (true && noLs (prs ps)) = true
    rw [prs_noL1 ps]
    rfl
theorem logF_noL1 (ps : List (Int × Int)) : noLF (logF ps) = true := by
  show (noLs (prs ps) && (noLs (inz (insF ps)) && (noLs (inz (outsF ps)) && true))) = true
  rw [prs_noL1, inz_noL, inz_noL]
  rfl
theorem eqD_prLL (ps qs : List (Int × Int)) : eqD (.lst (prs ps)) (.lst (prs qs)) = decide (ps = qs) := by
  have e : toPys (prs ps) = ps.map fun p => PyData.tuple [.int p.1, .int p.2] := toPys_prz ps
  have e' : toPys (prs qs) = qs.map fun p => PyData.tuple [.int p.1, .int p.2] := toPys_prz qs
  unfold eqD
  rw [toPy, toPy, e, e', PyData.eqv, eqv_prs]
structure Gdl (q : List (Int × Int)) : Prop where
  ne : q ≠ []
  len : q.length ≤ 60
  law : Lawf 40 q
theorem Gdl.l1 {q : List (Int × Int)} (h : Gdl q) : Lawf 1000 q := ⟨h.law.1, Int.le_trans h.law.2 (by omega), h.law.3⟩
theorem Gdl.prs {q : List (Int × Int)} (h : Gdl q) : Prs q := ⟨⟨⟨h.ne, h.len⟩, fun p hp => by
  have a := h.law.bnd p hp
  have b := h.law.pos p hp
  exact ⟨⟨b.1, by omega⟩, b.2, by omega⟩, h.law.sum⟩, h.l1⟩
theorem Gdl.take {q : List (Int × Int)} (h : Gdl q) : Gdl (q.take 59 ++ [(0, 0)]) := by
  have ht : Lawf 40 (q.take 59) := ⟨fun p hp => h.law.pos p (List.mem_of_mem_take hp), Int.le_trans (pre_le (fun p hp => (h.law.pos p hp).1) 59) h.law.sum, fun m => by rw [List.take_take]; exact h.law.stk _⟩
  refine ⟨by simp, by rw [List.length_append, List.length_take]; show min 59 _ + 1 ≤ 60; omega, ht.snoc (by decide) (by decide) (by have := ht.sum; omega) ?_⟩
  have := ht.stk (q.take 59).length
  rw [List.take_length] at this
  omega
theorem Gdl.less {p : Int × Int} {r : List (Int × Int)} (h : Gdl (p :: r)) : Gdl ((p.1, 0) :: r) := by
  have hp := h.law.pos p List.mem_cons_self
  refine ⟨by simp, h.len, ⟨fun x hx => ?_, h.law.sum, fun m => ?_⟩⟩
  · rcases List.mem_cons.mp hx with rfl | hx
    · exact ⟨hp.1, Int.le_refl 0⟩
    · exact h.law.pos x (List.mem_cons_of_mem _ hx)
  · cases m with
    | zero => simp
    | succ m =>
      have := h.law.stk (m + 1)
      rw [List.take_succ_cons, List.map_cons, List.sum_cons] at this ⊢
      show 0 ≤ (p.1 - 0) + _
      omega
section
variable {P : Program} {w : World} {K : PySem.W.Frag} {mg : Str → Option Value} {base : Heap} {CL : Addr}
local macro_rules | `(tactic| walk_at "pm") => `(tactic| first
 | ((with_reducible show PE _ (.Call (.Attribute (.Name (Str.ofString "Log") _) (Str.ofString "parse") _) _ _ _) _); refine' pe_cmb ?c ?r ?k (pe_clo (by rfl) ?g) ?a; (case c => assumption); (case r => assumption); (case k => decide); (case g => assumption); (case a => walk_at "pa"))
 | fail)
local macro_rules | `(tactic| walk_at "pt") => `(tactic| first
 | ((with_reducible show PT _ (.Compare (.Name (Str.ofString "log") _) [.NotEq] _ _) _); refine' pt_cmpR (op_neOw (sp := spLogE CL) ?o ?n ?s ?r ?k) ?a ?b (nomark _); (case o => assumption); (case n => assumption); (case s => assumption); (case r => assumption); (case k => decide); (case a => walk_at "pe"); (case b => walk_at "pe"))
 | ((with_reducible show PT _ (.Compare (.Name (Str.ofString "one") _) [.Eq] [.Name (Str.ofString "thing") _] _) _); refine' pt_cmpR (op_eqA (sp := spLogO K CL) ?o ?r ?k) ?a ?b (nomark _); (case o => assumption); (case r => assumption); (case k => decide); (case a => walk_at "pe"); (case b => walk_at "pe"))
 | ((with_reducible show PT _ (.Compare (.Name (Str.ofString "one") _) [.NotEq] [.Name (Str.ofString "thing") _] _) _); refine' pt_cmpR (op_neA (sp := spLogO K CL) ?o ?n ?s ?r ?k) ?a ?b (nomark _); (case o => assumption); (case n => assumption); (case s => assumption); (case r => assumption); (case k => decide); (case a => walk_at "pe"); (case b => walk_at "pe"))
 | fail)
local macro_rules | `(tactic| walk_at "pe") => `(tactic| first
 | ((with_reducible show PE _ (.Compare (.Name (Str.ofString "one") _) [.Eq] [.Name (Str.ofString "other") _] _) _); refine' pe_cmpR (op_eqOw (sp := spLogE CL) ?o ?r ?k) ?a ?b (nomark _); (case o => assumption); (case r => assumption); (case k => decide); (case a => walk_at "pe"); (case b => walk_at "pe"))
 | ((with_reducible show PE _ (.Compare (.Name (Str.ofString "one") _) [.NotEq] [.Name (Str.ofString "other") _] _) _); refine' pe_cmpR (op_neOw (sp := spLogE CL) ?o ?n ?s ?r ?k) ?a ?b (nomark _); (case o => assumption); (case n => assumption); (case s => assumption); (case r => assumption); (case k => decide); (case a => walk_at "pe"); (case b => walk_at "pe"))
 | fail)
local macro_rules | `(tactic| walk_at "st") => `(tactic| first
 | (with_reducible refine' wp_clo ?_)
 | (with_reducible refine' wp_cmeth ?_)
 | ((with_reducible show SetK _ 7 _ (.nw _) _); refine' sk_nw (nx_freeze 7 rfl ?_))
 | fail)
def spLaw (K : PySem.W.Frag) : Sp := SpT (fun ns : List Int => [.scr K ns]) (fun ns => ns.length ≤ 63) (fun _ r => r = .bl true)
theorem ok_law01 {f : Addr} {fd : FuncData} (F : Fun K "law" "law" (topS 28) f fd) (LC : LogC K CL) (hmL : mg "Log" = some (.ref CL)) (cf : Calb P w K mg base 1 "_law_feed" (spFeed K)) (ct : Calb P w K mg base 1 "_law_take" spTake) (cp : Calb P w K mg base 2 "_law_pick" spPick) (cd : Calb P w K mg base 3 "_law_days" spDays) (cx : Calb P w K mg base 1 "_law_text" spText)
    (mkL : Makb P w K mg base 4 "Log" CL (spLogA CL)) (cpa : Cmb P w K mg base 6 CL "parse" (spParse CL)) (cr : CalG P w K mg base 5 "_law_right" (spRight01 CL)) (cu : Calb P w K mg base 8 "_law_refused_right" spRef1)
    (oA : Own P w K mg base 1 CL "__eq__" (spLogO K CL)) (oq : Own P w K mg base 1 CL "__eq__" (spLogE CL)) (on : PySem.W.findIn K (.ref CL) "__ne__" = some (some (.builtin "object.__ne__"))) (os : PySem.W.subIn K (.ref CL) (.type "object") = some true) (ost : Own P w K mg base 1 CL "__str__" (spStr CL))
    (kt : ∀ s ∈ (["tuple", "str", "NoneType", "int", "list"] : List String), PySem.W.kitOne K (.type s) (.ref CL) = some false ∧ PySem.W.notFirst K CL (.type s) = true)
    (m1 : mg "range" = none) (m2 : mg "max" = none) (m3 : mg "min" = none) (m4 : mg "len" = none) (m5 : mg "list" = none) (m6 : mg "tuple" = none) (m7 : mg "str" = none) :
    FnG P w K mg base 10 f fd ["script"] (spLaw K) := by
  refine okG F sc_law01 (fun vs H Q E h => ?_) (fun cdv A outer s H vs Q E hg hr h => ?_)
  · obtain ⟨n, x, _, h, _⟩ := h
    simp [h.length]
  · obtain ⟨n, ns, al, h3, hlen, q⟩ := h
    have nd := sc_law01.nd
    have hKI : KIs K := trivial
    have hcl := LC.cl
    have hN1 := LC.nd
    have hG : (A.deeper (envOfC "law" (defScope (topS 28)) s.heap.objs.size f cdv)).guards = some [] := hg
    refine' ⟨?t, ?pp, ?rd⟩
    case pp => walk_at "pss"
    case rd =>
      refine in_T al h3 rfl ?_
      show Nx _ [.is (.scr K ns), .no, .no, .no, .no, .no, .no, .no, .no, .no, .no, .no, .no] _
      walk_at "go"
      refine nx_forR ?_
      walk_at "go"
      refine ⟨_, _, rfl, rfl, ⟨by split <;> (try split) <;> omega, by split <;> (try split) <;> omega⟩, fun m ρ' => ∃ s1 s2 s3 s4 s5 s6 s7 s8 s9 s10 s11 s12, ρ' = [.is (.scr K ns), s1, s2, s3, s4, s5, s6, s7, s8, s9, s10, s11, s12], ?_, ?_, ?_⟩
      · exact ⟨_, _, _, _, _, _, _, _, _, _, _, _, rfl⟩
      · rintro m _ hm ⟨s1, s2, s3, s4, s5, s6, s7, s8, s9, s10, s11, s12, rfl⟩
        refine ⟨_, tg_name, ?_⟩
        walk_at "go"
        refine wp_callO ?_
        walk_at "go"
        refine ⟨(ns, (m : Int)), by walk_at "allda", by show (0 : Int) ≤ m; omega, fun r hr => ?_⟩
        walk_at "go"
        dsimp only
        refine nx_forR ?_
        walk_at "go"
        refine ⟨_, _, rfl, rfl, ⟨by omega, by omega⟩, fun t ρ' => ∃ (l : List Da) (Qs : List (List (Int × Int))) (s4 s5 s6 s7 s8 s9 s10 s11 s12 : Sl), Feed l ∧ (∀ q ∈ Qs, Gdl q) ∧ Qs.length ≤ 4 * t ∧ ρ' = [.is (.scr K ns), .is (.int (m : Nat)), .own false (.lst l), .own false (.lst (Qs.map (logD CL))), s4, s5, s6, s7, s8, s9, s10, s11, s12], ?_, ?_, ?_⟩
        · exact ⟨r, [], _, _, _, _, _, _, _, _, _, hr, (fun q hq => by cases hq), Nat.le_refl _, rfl⟩
        · rintro t _ ht ⟨l, Qs, s4, s5, s6, s7, s8, s9, s10, s11, s12, hl, hQs, hQl, rfl⟩
          refine ⟨_, tg_name, ?_⟩
          walk_at "go"
          refine wp_callF ?_
          walk_at "go"
          refine wp_callF ?_
          walk_at "go"
          refine ⟨2, _, _, _, _, rfl, rfl, by walk_at "allda", ⟨hl, by simp, by simp⟩, fun l1 r1 hr1 => ?_⟩
          obtain ⟨hl1, hr1⟩ := hr1
          have hr1 : ∃ b : Int, r1 = .int b ∧ 1 ≤ b ∧ b ≤ 60 := by
            rcases (by simpa using hr1 : r1 = .int 1 ∨ r1 = .int 2 ∨ r1 = .int 5 ∨ r1 = .int 12 ∨ r1 = .int 60) with e | e | e | e | e <;> exact ⟨_, e, by omega, by omega⟩
          obtain ⟨dn, rfl, hd1, hd2⟩ := hr1
          walk_at "go"
          refine wp_callF ?_
          walk_at "go"
          refine ⟨2, _, _, _, _, rfl, rfl, by walk_at "allda", ⟨hl1, by simp, by simp⟩, fun l2 r2 hr2 => ?_⟩
          obtain ⟨hl2, hr2⟩ := hr2
          have hr2 : ∃ b : Int, r2 = .int b ∧ 0 ≤ b ∧ b ≤ 40 := by
            rcases (by simpa using hr2 : r2 = .int 0 ∨ r2 = .int 1 ∨ r2 = .int 6 ∨ r2 = .int 40) with e | e | e | e <;> exact ⟨_, e, by omega, by omega⟩
          obtain ⟨un, rfl, hu1, hu2⟩ := hr2
          walk_at "go"
          refine ⟨2, _, _, _, (dn, un), rfl, rfl, by walk_at "allda", ⟨hl2, by show 0 ≤ dn; omega, by show dn ≤ 1000; omega, hu1, by show un ≤ 1000; omega⟩, fun l3 r3 hr3 => ?_⟩
          obtain ⟨hl3, ps, rfl, hpl, hL⟩ := hr3
          replace hpl : (ps.length : Int) = dn := hpl
          replace hL : Lawf un ps := hL
          have hGd : Gdl ps := ⟨fun e => by rw [e] at hpl; simp at hpl; omega, by omega, ⟨hL.1, Int.le_trans hL.2 hu2, hL.3⟩⟩
          have hl60 := hGd.len
          obtain ⟨p0, pr, hps⟩ : ∃ p r, ps = p :: r := by
            cases ps with
            | nil => exact absurd rfl hGd.ne
            | cons p r => exact ⟨p, r, rfl⟩
          walk_at "go"
          refine wp_makeK (fun x o' r h => ⟨h.2, _, h.1⟩) ?_
          walk_at "go"
          refine ⟨(.lst (prs ps), ps), prs ps, rfl, rfl, ⟨rfl, .lst _, by show ps.length ≤ 2000; omega, hGd.l1⟩, fun fs hfs => ?_⟩
          obtain rfl : fs = logF ps := by
            have := hfs.1
            injection this
          refine ⟨logF_noL1 ps, ?_⟩
          walk_at "go"
          refine wp_make (fun x o' r h => ⟨h.2, _, h.1⟩) ?_
          walk_at "go"
          refine ⟨(.tup (prs ps), ps), by walk_at "allda", ⟨rfl, .tup _, by show ps.length ≤ 2000; omega, hGd.l1⟩, fun fs hfs => ?_⟩
          obtain rfl : fs = logF ps := by
            have := hfs.1
            injection this
          walk_at "go"
          refine wp_call ?_
          walk_at "go"
          refine wp_call ?_
          walk_at "go"
          refine ⟨ps, by walk_at "sees", ⟨by omega, hGd.l1⟩, .inr (fun r hr => by rw [hr]; rfl), fun r hr => ?_⟩
          obtain rfl := hr
          walk_at "go"
          refine ⟨ps, by walk_at "sees", hGd.prs, .inl (by walk_at "allda"), fun r hr => ?_⟩
          obtain rfl := hr
          have lps : (prs ps).length = ps.length := prs_len ps
          walk_at "go"
          have hix : ixN (prs ps ++ [Da.tup [.int 5, .int 0]]).length 0 = some 0 := ixN_0 (by rw [List.length_append]; show 0 < _ + 1; omega)
          refine ⟨_, _, _, rfl, rfl, hix, ?_⟩
          have em : (prs ps ++ [Da.tup [.int 5, .int 0]]).set 0 (.tup [.int 9, .int 0]) = prs ((9, 0) :: pr ++ [(5, 0)]) := by rw [hps]; simp [prs]
          rw [em]
          show Nx _ [.is (.scr K ns), .is (.int (m : Nat)), .own false (.lst l3), .own false (.lst (Qs.map (logD CL))), .is (.int (t : Nat)), .is (.lst (prs ps)), .own false (.lst (prs ((9, 0) :: pr ++ [(5, 0)]))), .is (.lst [logD CL ps, logD CL ps, logD CL ps]), s8, s9, s10, s11, s12] _
          dsimp only
          refine nx_seq ?_
          refine nx_for ?_
          walk_at "go"
          refine .inl ⟨_, rfl, fun _ ρ' => ∃ s8, ρ' = [.is (.scr K ns), .is (.int (m : Nat)), .own false (.lst l3), .own false (.lst (Qs.map (logD CL))), .is (.int (t : Nat)), .is (.lst (prs ps)), .own false (.lst (prs ((9, 0) :: pr ++ [(5, 0)]))), .is (.lst [logD CL ps, logD CL ps, logD CL ps]), s8, s9, s10, s11, s12], ?_, ?_, ?_⟩
          · exact ⟨_, rfl⟩
          · rintro G i d _ wG hd ⟨s8', rfl⟩
            obtain rfl : d = logD CL ps := by
              have := List.mem_of_getElem? hd
              simpa [logD] using this
            refine ⟨_, tg_name, ?_⟩
            have hR : ps.length ≤ 60 ∧ Lawf 40 ps := ⟨hl60, hGd.law⟩
            have al0 : atI [logD CL ps, logD CL ps, logD CL ps] 0 = some (logD CL ps) := (show atI _ ((0 : Nat) : Int) = _ from atI_nat rfl)
            walk_at "go"
            refine wp_call ?_
            walk_at "go"
            refine ⟨ps, by walk_at "sees", hR, .inr (fun r hr => by rw [hr]; rfl), ?_⟩
            rintro _ rfl
            walk_at "go"
            refine ⟨_, _, rfl, rfl, (fun h => by simp at h), fun _ => ?_⟩
            walk_at "go"
            refine ⟨_, op_neown (by walk_at "sees") (ps, ps) rfl ⟨by show ps.length ≤ 2000; omega, by show ps.length ≤ 2000; omega⟩ (fun r hr => hr), ?_⟩
            walk_at "go"
            refine ⟨fun h => absurd h (by simp), fun _ => ?_⟩
            walk_at "go"
            refine wp_call ?_
            walk_at "go"
            refine ⟨ps, by walk_at "sees", hR, .inr (fun r hr => by rw [hr]; rfl), ?_⟩
            rintro _ rfl
            walk_at "go"
            refine ⟨_, _, rfl, rfl, (fun h => by simp at h), fun _ => ?_⟩
            walk_at "go"
            exact nx_at ⟨_, rfl⟩
          · rintro _ ⟨s8', rfl⟩
            walk_at "go"
            have hc1 : Dd.cutD (prs ps) (some 1) none = prs pr := by
              rw [show (1 : Int) = ((1 : Nat) : Int) from rfl, cut_from1 (by rw [lps]; rw [hps]; simp), hps]
              rfl
            have lpr : (prs pr).length ≤ 60 := by rw [prs_len]; rw [hps] at hl60; simp at hl60; omega
            rw [hc1]
            refine ⟨_, op_plusL rfl rfl (le_line (by show 1 + _ ≤ _; omega)), ?_⟩
            walk_at "go"
            refine ⟨_, op_plusL rfl rfl (le_line (by rw [List.length_append]; show 1 + _ + 1 ≤ _; omega)), ?_⟩
            rw [show [Da.tup [.int 9, .int 0]] ++ prs pr ++ [Da.tup [.int 5, .int 0]] = prs ((9, 0) :: pr ++ [(5, 0)]) by simp [prs]]
            walk_at "go"
            refine ⟨fun h => absurd h (by show ¬ (!eqD (.lst (prs _)) (.lst (prs _))) = true; rw [eqD_prLL]; simp), fun _ => ?_⟩
            walk_at "go"
            refine wp_callF ?_
            walk_at "go"
            refine ⟨2, _, _, _, ps, rfl, rfl, by walk_at "allda", ⟨hl3, ⟨hGd.ne, hl60⟩, hGd.law⟩, fun l4 r4 hr4 => ?_⟩
            obtain ⟨hl4, rfl⟩ := hr4
            walk_at "go"
            refine ⟨_, _, rfl, rfl, (fun h => by simp at h), fun _ => ?_⟩
            have hc2 : Dd.cutD [logD CL ps, logD CL ps, logD CL ps] none (some 2) = [logD CL ps, logD CL ps] := by
              rw [show (2 : Int) = ((2 : Nat) : Int) from rfl, cut_to1 (by show 2 ≤ 3; omega)]
              rfl
            have hc59 : Dd.cutD (prs ps) none (some 59) = prs (ps.take 59) := cut_tk1 ps 58
            have lQs : (Qs.map (logD CL)).length = Qs.length := List.length_map ..
            have a0 : atI (prs ps) 0 = some (.tup [.int p0.1, .int p0.2]) := (show atI _ ((0 : Nat) : Int) = _ from atI_nat (by rw [hps]; rfl))
            walk_at "go"
            rw [hc2]
            refine ⟨_, op_plusL rfl rfl (le_line (by rw [lQs]; show _ + 2 ≤ _; omega)), ?_⟩
            walk_at "go"
            refine wp_make (fun x o' r h => ⟨h.2, _, h.1⟩) ?_
            walk_at "go"
            rw [hc59]
            refine ⟨_, op_plusL rfl rfl (le_line (by rw [prs_len, List.length_take]; show _ + 1 ≤ _; omega)), ?_⟩
            rw [show prs (ps.take 59) ++ [Da.tup [.int 0, .int 0]] = prs (ps.take 59 ++ [(0, 0)]) by simp [prs]]
            walk_at "go"
            have g1 := hGd.take
            have g1l := g1.len
            refine ⟨(.lst (prs (ps.take 59 ++ [(0, 0)])), ps.take 59 ++ [(0, 0)]), by walk_at "allda", ⟨rfl, .lst _, by show (ps.take 59 ++ [(0, 0)]).length ≤ 2000; omega, g1.l1⟩, fun fs hfs => ?_⟩
            obtain rfl : fs = logF (ps.take 59 ++ [(0, 0)]) := by
              have := hfs.1
              injection this
            walk_at "go"
            refine wp_make (fun x o' r h => ⟨h.2, _, h.1⟩) ?_
            walk_at "go"
            rw [hc1]
            refine ⟨_, op_plusL rfl rfl (le_line (by show 1 + _ ≤ _; omega)), ?_⟩
            rw [show [Da.tup [.int p0.1, .int 0]] ++ prs pr = prs ((p0.1, 0) :: pr) from rfl]
            walk_at "go"
            have g2 : Gdl ((p0.1, 0) :: pr) := Gdl.less (by rw [← hps]; exact hGd)
            have g2l := g2.len
            refine ⟨(.lst (prs ((p0.1, 0) :: pr)), (p0.1, 0) :: pr), by walk_at "allda", ⟨rfl, .lst _, by show ((p0.1, 0) :: pr).length ≤ 2000; omega, g2.l1⟩, fun fs hfs => ?_⟩
            obtain rfl : fs = logF ((p0.1, 0) :: pr) := by
              have := hfs.1
              injection this
            walk_at "go"
            refine ⟨_, op_plusL rfl rfl (le_line (by rw [List.length_append, lQs]; show _ + 2 + 2 ≤ _; omega)), ?_⟩
            have eQ : Qs.map (logD CL) ++ [logD CL ps, logD CL ps] ++ [Da.ins CL (logF (ps.take 59 ++ [(0, 0)])), Da.ins CL (logF ((p0.1, 0) :: pr))] = (Qs ++ [ps, ps, ps.take 59 ++ [(0, 0)], (p0.1, 0) :: pr]).map (logD CL) := by
              rw [List.map_append, List.append_assoc]
              rfl
            rw [eQ]
            walk_at "go"
            refine nx_at ⟨l4, Qs ++ [ps, ps, ps.take 59 ++ [(0, 0)], (p0.1, 0) :: pr], _, _, _, _, _, _, _, _, _, hl4, fun q hq => ?_, ?_, rfl⟩
            · rcases List.mem_append.mp hq with hq | hq
              · exact hQs q hq
              · rcases (by simpa using hq : q = ps ∨ q = ps.take 59 ++ [(0, 0)] ∨ q = (p0.1, 0) :: pr) with rfl | rfl | rfl
                · exact hGd
                · exact g1
                · exact g2
            · rw [List.length_append]
              show _ + 4 ≤ 4 * (t + 1)
              omega
        · rintro _ ⟨l, Qs, s4, s5, s6, s7, s8, s9, s10, s11, s12, hl, hQs, hQl, rfl⟩
          refine nx_freeze 3 rfl ?_
          show Nx _ [.is (.scr K ns), .is (.int (m : Nat)), .own false (.lst l), .is (.lst (Qs.map (logD CL))), s4, s5, s6, s7, s8, s9, s10, s11, s12] _
          dsimp only
          refine nx_for ?_
          walk_at "go"
          refine .inl ⟨_, rfl, fun _ ρ' => ∃ s9 s10 s11 s12, ρ' = [.is (.scr K ns), .is (.int (m : Nat)), .own false (.lst l), .is (.lst (Qs.map (logD CL))), s4, s5, s6, s7, s8, s9, s10, s11, s12], ?_, ?_, ?_⟩
          · exact ⟨_, _, _, _, rfl⟩
          · rintro G i d _ wG hd ⟨s9', s10', s11', s12', rfl⟩
            obtain ⟨q1, hq1, rfl⟩ : ∃ q ∈ Qs, d = logD CL q := by
              obtain ⟨q, hq, e⟩ := List.mem_map.mp (List.mem_of_getElem? hd)
              exact ⟨q, hq, e.symm⟩
            have G1 := hQs q1 hq1
            have G1l := G1.len
            refine ⟨_, tg_name, ?_⟩
            show Nx _ [.is (.scr K ns), .is (.int (m : Nat)), .own false (.lst l), .is (.lst (Qs.map (logD CL))), s4, s5, s6, s7, s8, .is (logD CL q1), s10', s11', s12'] _
            refine nx_seq ?_
            refine nx_for ?_
            walk_at "go"
            refine .inl ⟨_, rfl, fun _ ρ' => ∃ s10 s11, ρ' = [.is (.scr K ns), .is (.int (m : Nat)), .own false (.lst l), .is (.lst (Qs.map (logD CL))), s4, s5, s6, s7, s8, .is (logD CL q1), s10, s11, s12'], ?_, ?_, ?_⟩
            · exact ⟨_, _, rfl⟩
            · rintro G2 i2 d2 _ wG2 hd2 ⟨s10, s11, rfl⟩
              obtain ⟨q2, hq2, rfl⟩ : ∃ q ∈ Qs, d2 = logD CL q := by
                obtain ⟨q, hq, e⟩ := List.mem_map.mp (List.mem_of_getElem? hd2)
                exact ⟨q, hq, e.symm⟩
              have G2' := hQs q2 hq2
              have G2l := G2'.len
              have tx : decide (textF q1 = textF q2) = decide (q1 = q2) := decide_eq_decide.mpr ⟨fun e => text_inj G1.ne G2'.ne (fun p hp => G1.law.pos p hp) (fun p hp => G2'.law.pos p hp) e, fun e => by rw [e]⟩
              refine ⟨_, tg_name, ?_⟩
              walk_at "go"
              refine ⟨_, b_strO rfl q1 rfl ⟨by omega, G1.l1⟩ (fun r hr => hr), ?_⟩
              walk_at "go"
              refine ⟨_, b_strO rfl q2 rfl ⟨by omega, G2'.l1⟩ (fun r hr => hr), ?_⟩
              walk_at "go"
              rw [tx]
              refine ⟨_, op_eqown (by walk_at "sees") (q1, q2) rfl ⟨by show q1.length ≤ 2000; omega, by show q2.length ≤ 2000; omega⟩ (fun r hr => hr), ?_⟩
              walk_at "go"
              refine ⟨fun h => absurd h (by rw [eqD_bl]; cases decide (q1 = q2) <;> simp), fun _ => ?_⟩
              walk_at "go"
              refine ⟨_, op_neown (by walk_at "sees") (q1, q2) rfl ⟨by show q1.length ≤ 2000; omega, by show q2.length ≤ 2000; omega⟩ (fun r hr => hr), ?_⟩
              walk_at "go"
              refine ⟨fun h => absurd h (by rw [eqD_bl]; cases decide (q1 = q2) <;> simp), fun _ => ?_⟩
              walk_at "go"
              exact nx_at ⟨_, _, rfl⟩
            · rintro _ ⟨s10, s11, rfl⟩
              dsimp only
              refine nx_for ?_
              walk_at "go"
              refine ⟨_, b_strO rfl q1 rfl ⟨by omega, G1.l1⟩ (fun r hr => hr), ?_⟩
              walk_at "go"
              refine .inl ⟨_, rfl, fun _ ρ' => ∃ s12, ρ' = [.is (.scr K ns), .is (.int (m : Nat)), .own false (.lst l), .is (.lst (Qs.map (logD CL))), s4, s5, s6, s7, s8, .is (logD CL q1), s10, s11, s12], ?_, ?_, ?_⟩
              · exact ⟨_, rfl⟩
              · rintro G2 i2 d2 _ wG2 hd2 ⟨s12, rfl⟩
                obtain ⟨ty, hty, hk⟩ : ∃ ty ∈ (["tuple", "str", "NoneType", "int", "list"] : List String), kindX d2 = some ty := by
                  rcases (by simpa using List.mem_of_getElem? hd2 : d2 = .tup (prs q1) ∨ d2 = .str (textF q1) ∨ d2 = .non ∨ d2 = .int 0 ∨ d2 = .lst (prs q1)) with rfl | rfl | rfl | rfl | rfl
                  · exact ⟨"tuple", by simp, rfl⟩
                  · exact ⟨"str", by simp, rfl⟩
                  · exact ⟨"NoneType", by simp, rfl⟩
                  · exact ⟨"int", by simp, rfl⟩
                  · exact ⟨"list", by simp, rfl⟩
                obtain ⟨hki, hnf⟩ := kt ty hty
                refine ⟨_, tg_name, ?_⟩
                walk_at "go"
                refine ⟨_, op_eqany (by walk_at "sees") hk hnf (q1, d2) rfl ⟨ty, hk, hki⟩ (fun r hr => hr), ?_⟩
                walk_at "go"
                refine ⟨fun h => absurd h (by simp), fun _ => ?_⟩
                walk_at "go"
                refine ⟨_, op_neany (by walk_at "sees") hk hnf (q1, d2) rfl ⟨ty, hk, hki⟩ (fun r hr => hr), ?_⟩
                walk_at "go"
                refine ⟨fun h => absurd h (by simp), fun _ => ?_⟩
                walk_at "go"
                exact nx_at ⟨_, rfl⟩
              · rintro _ ⟨s12, rfl⟩
                walk_at "go"
                exact nx_at ⟨_, _, _, _, rfl⟩
          · rintro _ ⟨s9, s10, s11, s12, rfl⟩
            walk_at "go"
            exact nx_at ⟨_, _, _, _, _, _, _, _, _, _, _, _, rfl⟩
      · rintro _ ⟨s1, s2, s3, s4, s5, s6, s7, s8, s9, s10, s11, s12, rfl⟩
        walk_at "go"
        exact rt_T q .refl rfl
end
end Law
namespace Law
open PySem PySem.Spec PyProof.Rows L2 Dd
theorem kit_of {K : PySem.W.Frag} {C : Addr} {s : String} (h1 : PySem.W.isClsIn K C = true) (h2 : PySem.W.typeIn K (.ref C) = some (.type "type")) (h3 : PySem.W.subIn K (.type s) (.ref C) = some false) : PySem.W.kitOne K (.type s) (.ref C) = some false ∧ PySem.W.notFirst K C (.type s) = true := by
  constructor
  · have e1 : ((PySem.W.clsIn K C).isSome && PySem.W.typeIn K (.ref C) == some (.type "type")) = true := by
      have h1' : (PySem.W.clsIn K C).isSome = true := h1
      rw [h1', h2] <;> rfl
    unfold PySem.W.kitOne
    rw [if_neg (by intro h; cases (beq_iff_eq.mp h))]
    show (if ((PySem.W.clsIn K C).isSome && PySem.W.typeIn K (.ref C) == some (.type "type")) = true then PySem.W.subIn K (.type s) (.ref C) else none) = some false
    rw [if_pos e1]
    exact h3
  · unfold PySem.W.notFirst
    rw [h3]
    simp
theorem kit_VE {K : PySem.W.Frag} {C : Addr} (h : PySem.W.subIn K (.ref C) (.type "ValueError") = some true) : PySem.W.kitOne K (.ref C) (.type "ValueError") = some true := by
  unfold PySem.W.kitOne
  rw [if_neg (by intro h; cases (beq_iff_eq.mp h))]
  show (if PySem.W.kitMeta "ValueError" = true then PySem.W.subIn K (.ref C) (.type "ValueError") else none) = some true
  rw [if_pos (by decide +kernel)]
  exact h
end Law
namespace Law
open PySem PySem.Spec PyProof.Rows L2 Dd
theorem exm_of {K : PySem.W.Frag} {C S : Addr} (h1 : PySem.W.subIn K (.ref S) (.type "BaseException") = some true) (h2 : PySem.W.isClsIn K S = true) (h3 : PySem.W.typeIn K (.ref S) = some (.type "type")) (h4 : PySem.W.subIn K (.ref C) (.ref S) = some true) :
    PySem.W.exmOne K (.ref C) (.ref S) = some true := by
  have e1 : (PySem.W.subIn K (.ref S) (.type "BaseException") == some true) = true := by rw [h1] <;> rfl
  have e2 : ((PySem.W.clsIn K S).isSome && PySem.W.typeIn K (.ref S) == some (.type "type")) = true := by
    have h2' : (PySem.W.clsIn K S).isSome = true := h2
    rw [h2', h3] <;> rfl
  show (if (PySem.W.subIn K (.ref S) (.type "BaseException") == some true) = true then (if ((PySem.W.clsIn K S).isSome && PySem.W.typeIn K (.ref S) == some (.type "type")) = true then PySem.W.subIn K (.ref C) (.ref S) else none) else none) = some true
  rw [if_pos e1, if_pos e2]
  exact h4
theorem all_mk {l : PySem.W.OpenLaw} {w : World} {K : PySem.W.Frag} {h : Heap} {mg : Str → Option Value} {fa : Addr} (X : K.In h) (G : h.Ns mainGlobals mg) (hfa : mg "law" = some (.ref fa))
    {CStoreError : Addr}
    {CNotLawful : Addr}
    {CLog : Addr}
    {f0 : Addr} {od0 an0 : Option Addr} {sl0 : Array (Option Value)} {oc0 kV0 dc0 pm0 cd0 ct0 : Value}
    {f1 : Addr} {od1 an1 : Option Addr} {sl1 : Array (Option Value)} {oc1 kV1 dc1 pm1 cd1 ct1 : Value}
    {f2 : Addr} {od2 an2 : Option Addr} {sl2 : Array (Option Value)} {oc2 kV2 dc2 pm2 cd2 ct2 : Value}
    {f3 : Addr} {od3 an3 : Option Addr} {sl3 : Array (Option Value)} {oc3 kV3 dc3 pm3 cd3 ct3 : Value}
    {f4 : Addr} {od4 an4 : Option Addr} {sl4 : Array (Option Value)} {oc4 kV4 dc4 pm4 cd4 ct4 : Value}
    {f5 : Addr} {od5 an5 : Option Addr} {sl5 : Array (Option Value)} {oc5 kV5 dc5 pm5 cd5 ct5 : Value}
    {f6 : Addr} {od6 an6 : Option Addr} {sl6 : Array (Option Value)} {oc6 kV6 dc6 pm6 cd6 ct6 : Value}
    {f7 : Addr} {od7 an7 : Option Addr} {sl7 : Array (Option Value)} {oc7 kV7 dc7 pm7 cd7 ct7 : Value}
    {f8 : Addr} {od8 an8 : Option Addr} {sl8 : Array (Option Value)} {oc8 kV8 dc8 pm8 cd8 ct8 : Value}
    {f9 : Addr} {od9 an9 : Option Addr} {sl9 : Array (Option Value)} {oc9 kV9 dc9 pm9 cd9 ct9 : Value}
    {p9 : Addr} {rs9 : List Value}
    {f10 : Addr} {od10 an10 : Option Addr} {sl10 : Array (Option Value)} {oc10 kV10 dc10 pm10 cd10 ct10 : Value}
    {f11 : Addr} {od11 an11 : Option Addr} {sl11 : Array (Option Value)} {oc11 kV11 dc11 pm11 cd11 ct11 : Value}
    {f12 : Addr} {od12 an12 : Option Addr} {sl12 : Array (Option Value)} {oc12 kV12 dc12 pm12 cd12 ct12 : Value}
    {f13 : Addr} {od13 an13 : Option Addr} {sl13 : Array (Option Value)} {oc13 kV13 dc13 pm13 cd13 ct13 : Value}
    {f14 : Addr} {od14 an14 : Option Addr} {sl14 : Array (Option Value)} {oc14 kV14 dc14 pm14 cd14 ct14 : Value}
    {f15 : Addr} {od15 an15 : Option Addr} {sl15 : Array (Option Value)} {oc15 kV15 dc15 pm15 cd15 ct15 : Value}
    {f16 : Addr} {od16 an16 : Option Addr} {sl16 : Array (Option Value)} {oc16 kV16 dc16 pm16 cd16 ct16 : Value}
    {f17 : Addr} {od17 an17 : Option Addr} {sl17 : Array (Option Value)} {oc17 kV17 dc17 pm17 cd17 ct17 : Value}
    {f18 : Addr} {od18 an18 : Option Addr} {sl18 : Array (Option Value)} {oc18 kV18 dc18 pm18 cd18 ct18 : Value}
    {f19 : Addr} {od19 an19 : Option Addr} {sl19 : Array (Option Value)} {oc19 kV19 dc19 pm19 cd19 ct19 : Value}
    {f20 : Addr} {od20 an20 : Option Addr} {sl20 : Array (Option Value)} {oc20 kV20 dc20 pm20 cd20 ct20 : Value}
    {f21 : Addr} {od21 an21 : Option Addr} {sl21 : Array (Option Value)} {oc21 kV21 dc21 pm21 cd21 ct21 : Value}
    {f22 : Addr} {od22 an22 : Option Addr} {sl22 : Array (Option Value)} {oc22 kV22 dc22 pm22 cd22 ct22 : Value}
    {f23 : Addr} {od23 an23 : Option Addr} {sl23 : Array (Option Value)} {oc23 kV23 dc23 pm23 cd23 ct23 : Value}
    {f24 : Addr} {od24 an24 : Option Addr} {sl24 : Array (Option Value)} {oc24 kV24 dc24 pm24 cd24 ct24 : Value}
    {nmStoreError qnStoreError : Str} {NStoreError : Addr} {bsStoreError : List Value} {snStoreError : List Str} {subStoreError : List Value} {abStoreError : Bool} {colStoreError : Option Bool} {ddStoreError : Option Addr} {m0StoreError m1StoreError m2StoreError m3StoreError m5StoreError : Option Value}
    {nmNotLawful qnNotLawful : Str} {NNotLawful : Addr} {bsNotLawful : List Value} {snNotLawful : List Str} {subNotLawful : List Value} {abNotLawful : Bool} {colNotLawful : Option Bool} {ddNotLawful : Option Addr} {m0NotLawful m1NotLawful m2NotLawful m3NotLawful m5NotLawful : Option Value}
    {t1 t2 : Nat}
    (aCStoreError : PySem.W.nsIn K mainGlobals "StoreError" = some (some (.ref CStoreError)))
    (aCNotLawful : PySem.W.nsIn K mainGlobals "NotLawful" = some (some (.ref CNotLawful)))
    (aCLog : PySem.W.nsIn K mainGlobals "Log" = some (some (.ref CLog)))
    (a0 : PySem.W.findIn K (.ref CNotLawful) "__init__" = some (some (.ref f0)))
    (i0 : PySem.W.isFn K (.ref f0) = true)
    (l0 : K.lookup f0 = some ⟨oc0, od0, .func (PySem.W.fnOf "__init__" "NotLawful.__init__" (defArgs (inClass (topS 6) 0)) (defBody (inClass (topS 6) 0)) (defScope (inClass (topS 6) 0)) .none kV0 dc0 pm0 an0 cd0 ct0), sl0⟩)
    (c0 : PySem.W.codeIn K cd0 "NotLawful.__init__" = true)
    (k0 : PySem.W.keepIn K (.ref f0) = true)
    (a1 : PySem.W.nsIn K mainGlobals "copied" = some (some (.ref f1)))
    (l1 : K.lookup f1 = some ⟨oc1, od1, .func (PySem.W.fnOf "copied" "copied" (defArgs (topS 2)) (defBody (topS 2)) (defScope (topS 2)) .none kV1 dc1 pm1 an1 cd1 ct1), sl1⟩)
    (c1 : PySem.W.codeIn K cd1 "copied" = true)
    (k1 : PySem.W.keepIn K (.ref f1) = true)
    (a2 : PySem.W.nsIn K mainGlobals "is_number" = some (some (.ref f2)))
    (l2 : K.lookup f2 = some ⟨oc2, od2, .func (PySem.W.fnOf "is_number" "is_number" (defArgs (topS 1)) (defBody (topS 1)) (defScope (topS 1)) .none kV2 dc2 pm2 an2 cd2 ct2), sl2⟩)
    (c2 : PySem.W.codeIn K cd2 "is_number" = true)
    (k2 : PySem.W.keepIn K (.ref f2) = true)
    (a3 : PySem.W.nsIn K mainGlobals "_each_day" = some (some (.ref f3)))
    (l3 : K.lookup f3 = some ⟨oc3, od3, .func (PySem.W.fnOf "_each_day" "_each_day" (defArgs (topS 12)) (defBody (topS 12)) (defScope (topS 12)) .none kV3 dc3 pm3 an3 cd3 ct3), sl3⟩)
    (c3 : PySem.W.codeIn K cd3 "_each_day" = true)
    (k3 : PySem.W.keepIn K (.ref f3) = true)
    (a4 : PySem.W.nsIn K mainGlobals "_check_lawful" = some (some (.ref f4)))
    (l4 : K.lookup f4 = some ⟨oc4, od4, .func (PySem.W.fnOf "_check_lawful" "_check_lawful" (defArgs (topS 11)) (defBody (topS 11)) (defScope (topS 11)) .none kV4 dc4 pm4 an4 cd4 ct4), sl4⟩)
    (c4 : PySem.W.codeIn K cd4 "_check_lawful" = true)
    (k4 : PySem.W.keepIn K (.ref f4) = true)
    (a5 : PySem.W.nsIn K mainGlobals "_days_of" = some (some (.ref f5)))
    (l5 : K.lookup f5 = some ⟨oc5, od5, .func (PySem.W.fnOf "_days_of" "_days_of" (defArgs (topS 13)) (defBody (topS 13)) (defScope (topS 13)) .none kV5 dc5 pm5 an5 cd5 ct5), sl5⟩)
    (c5 : PySem.W.codeIn K cd5 "_days_of" = true)
    (k5 : PySem.W.keepIn K (.ref f5) = true)
    (a6 : PySem.W.nsIn K mainGlobals "_is_row" = some (some (.ref f6)))
    (l6 : K.lookup f6 = some ⟨oc6, od6, .func (PySem.W.fnOf "_is_row" "_is_row" (defArgs (topS 14)) (defBody (topS 14)) (defScope (topS 14)) .none kV6 dc6 pm6 an6 cd6 ct6), sl6⟩)
    (c6 : PySem.W.codeIn K cd6 "_is_row" = true)
    (k6 : PySem.W.keepIn K (.ref f6) = true)
    (a7 : PySem.W.nsIn K mainGlobals "_number_of" = some (some (.ref f7)))
    (l7 : K.lookup f7 = some ⟨oc7, od7, .func (PySem.W.fnOf "_number_of" "_number_of" (defArgs (topS 15)) (defBody (topS 15)) (defScope (topS 15)) .none kV7 dc7 pm7 an7 cd7 ct7), sl7⟩)
    (c7 : PySem.W.codeIn K cd7 "_number_of" = true)
    (k7 : PySem.W.keepIn K (.ref f7) = true)
    (a8 : PySem.W.findIn K (.ref CLog) "__init__" = some (some (.ref f8)))
    (i8 : PySem.W.isFn K (.ref f8) = true)
    (l8 : K.lookup f8 = some ⟨oc8, od8, .func (PySem.W.fnOf "__init__" "Log.__init__" (defArgs (inClass (topS 10) 0)) (defBody (inClass (topS 10) 0)) (defScope (inClass (topS 10) 0)) .none kV8 dc8 pm8 an8 cd8 ct8), sl8⟩)
    (c8 : PySem.W.codeIn K cd8 "Log.__init__" = true)
    (k8 : PySem.W.keepIn K (.ref f8) = true)
    (a9 : PySem.W.findCls K (.ref CLog) (.type "type") "parse" = some (.get (.builtin "classmethod.__get__") (.ref p9) .none (.ref CLog)))
    (rp9 : PySem.W.recIn K p9 "classmethod" = some (.ref f9 :: rs9))
    (fi9 : PySem.W.fnIn K f9 = true)
    (l9 : K.lookup f9 = some ⟨oc9, od9, .func (PySem.W.fnOf "parse" "Log.parse" (defArgs (inClass (topS 10) 1)) (defBody (inClass (topS 10) 1)) (defScope (inClass (topS 10) 1)) .none kV9 dc9 pm9 an9 cd9 ct9), sl9⟩)
    (c9 : PySem.W.codeIn K cd9 "Log.parse" = true)
    (k9 : PySem.W.keepIn K (.ref f9) = true)
    (a10 : PySem.W.findIn K (.ref CLog) "stock" = some (some (.ref f10)))
    (i10 : PySem.W.isFn K (.ref f10) = true)
    (l10 : K.lookup f10 = some ⟨oc10, od10, .func (PySem.W.fnOf "stock" "Log.stock" (defArgs (inClass (topS 10) 2)) (defBody (inClass (topS 10) 2)) (defScope (inClass (topS 10) 2)) .none kV10 dc10 pm10 an10 cd10 ct10), sl10⟩)
    (c10 : PySem.W.codeIn K cd10 "Log.stock" = true)
    (k10 : PySem.W.keepIn K (.ref f10) = true)
    (a11 : PySem.W.findIn K (.ref CLog) "__eq__" = some (some (.ref f11)))
    (i11 : PySem.W.isFn K (.ref f11) = true)
    (l11 : K.lookup f11 = some ⟨oc11, od11, .func (PySem.W.fnOf "__eq__" "Log.__eq__" (defArgs (inClass (topS 10) 3)) (defBody (inClass (topS 10) 3)) (defScope (inClass (topS 10) 3)) .none kV11 dc11 pm11 an11 cd11 ct11), sl11⟩)
    (c11 : PySem.W.codeIn K cd11 "Log.__eq__" = true)
    (k11 : PySem.W.keepIn K (.ref f11) = true)
    (a12 : PySem.W.findIn K (.ref CLog) "__str__" = some (some (.ref f12)))
    (i12 : PySem.W.isFn K (.ref f12) = true)
    (l12 : K.lookup f12 = some ⟨oc12, od12, .func (PySem.W.fnOf "__str__" "Log.__str__" (defArgs (inClass (topS 10) 4)) (defBody (inClass (topS 10) 4)) (defScope (inClass (topS 10) 4)) .none kV12 dc12 pm12 an12 cd12 ct12), sl12⟩)
    (c12 : PySem.W.codeIn K cd12 "Log.__str__" = true)
    (k12 : PySem.W.keepIn K (.ref f12) = true)
    (a13 : PySem.W.nsIn K mainGlobals "_law_take" = some (some (.ref f13)))
    (l13 : K.lookup f13 = some ⟨oc13, od13, .func (PySem.W.fnOf "_law_take" "_law_take" (defArgs (topS 18)) (defBody (topS 18)) (defScope (topS 18)) .none kV13 dc13 pm13 an13 cd13 ct13), sl13⟩)
    (c13 : PySem.W.codeIn K cd13 "_law_take" = true)
    (k13 : PySem.W.keepIn K (.ref f13) = true)
    (a14 : PySem.W.nsIn K mainGlobals "_law_pick" = some (some (.ref f14)))
    (l14 : K.lookup f14 = some ⟨oc14, od14, .func (PySem.W.fnOf "_law_pick" "_law_pick" (defArgs (topS 19)) (defBody (topS 19)) (defScope (topS 19)) .none kV14 dc14 pm14 an14 cd14 ct14), sl14⟩)
    (c14 : PySem.W.codeIn K cd14 "_law_pick" = true)
    (k14 : PySem.W.keepIn K (.ref f14) = true)
    (a15 : PySem.W.nsIn K mainGlobals "_law_days" = some (some (.ref f15)))
    (l15 : K.lookup f15 = some ⟨oc15, od15, .func (PySem.W.fnOf "_law_days" "_law_days" (defArgs (topS 20)) (defBody (topS 20)) (defScope (topS 20)) .none kV15 dc15 pm15 an15 cd15 ct15), sl15⟩)
    (c15 : PySem.W.codeIn K cd15 "_law_days" = true)
    (k15 : PySem.W.keepIn K (.ref f15) = true)
    (a16 : PySem.W.nsIn K mainGlobals "_law_feed" = some (some (.ref f16)))
    (l16 : K.lookup f16 = some ⟨oc16, od16, .func (PySem.W.fnOf "_law_feed" "_law_feed" (defArgs (topS 17)) (defBody (topS 17)) (defScope (topS 17)) .none kV16 dc16 pm16 an16 cd16 ct16), sl16⟩)
    (c16 : PySem.W.codeIn K cd16 "_law_feed" = true)
    (k16 : PySem.W.keepIn K (.ref f16) = true)
    (a17 : PySem.W.nsIn K mainGlobals "_law_ins" = some (some (.ref f17)))
    (l17 : K.lookup f17 = some ⟨oc17, od17, .func (PySem.W.fnOf "_law_ins" "_law_ins" (defArgs (topS 21)) (defBody (topS 21)) (defScope (topS 21)) .none kV17 dc17 pm17 an17 cd17 ct17), sl17⟩)
    (c17 : PySem.W.codeIn K cd17 "_law_ins" = true)
    (k17 : PySem.W.keepIn K (.ref f17) = true)
    (a18 : PySem.W.nsIn K mainGlobals "_law_outs" = some (some (.ref f18)))
    (l18 : K.lookup f18 = some ⟨oc18, od18, .func (PySem.W.fnOf "_law_outs" "_law_outs" (defArgs (topS 22)) (defBody (topS 22)) (defScope (topS 22)) .none kV18 dc18 pm18 an18 cd18 ct18), sl18⟩)
    (c18 : PySem.W.codeIn K cd18 "_law_outs" = true)
    (k18 : PySem.W.keepIn K (.ref f18) = true)
    (a19 : PySem.W.nsIn K mainGlobals "_law_stock" = some (some (.ref f19)))
    (l19 : K.lookup f19 = some ⟨oc19, od19, .func (PySem.W.fnOf "_law_stock" "_law_stock" (defArgs (topS 23)) (defBody (topS 23)) (defScope (topS 23)) .none kV19 dc19 pm19 an19 cd19 ct19), sl19⟩)
    (c19 : PySem.W.codeIn K cd19 "_law_stock" = true)
    (k19 : PySem.W.keepIn K (.ref f19) = true)
    (a20 : PySem.W.nsIn K mainGlobals "_law_text" = some (some (.ref f20)))
    (l20 : K.lookup f20 = some ⟨oc20, od20, .func (PySem.W.fnOf "_law_text" "_law_text" (defArgs (topS 24)) (defBody (topS 24)) (defScope (topS 24)) .none kV20 dc20 pm20 an20 cd20 ct20), sl20⟩)
    (c20 : PySem.W.codeIn K cd20 "_law_text" = true)
    (k20 : PySem.W.keepIn K (.ref f20) = true)
    (a21 : PySem.W.nsIn K mainGlobals "_law_right" = some (some (.ref f21)))
    (l21 : K.lookup f21 = some ⟨oc21, od21, .func (PySem.W.fnOf "_law_right" "_law_right" (defArgs (topS 25)) (defBody (topS 25)) (defScope (topS 25)) .none kV21 dc21 pm21 an21 cd21 ct21), sl21⟩)
    (c21 : PySem.W.codeIn K cd21 "_law_right" = true)
    (k21 : PySem.W.keepIn K (.ref f21) = true)
    (a22 : PySem.W.nsIn K mainGlobals "_law_unlawful" = some (some (.ref f22)))
    (l22 : K.lookup f22 = some ⟨oc22, od22, .func (PySem.W.fnOf "_law_unlawful" "_law_unlawful" (defArgs (topS 26)) (defBody (topS 26)) (defScope (topS 26)) .none kV22 dc22 pm22 an22 cd22 ct22), sl22⟩)
    (c22 : PySem.W.codeIn K cd22 "_law_unlawful" = true)
    (k22 : PySem.W.keepIn K (.ref f22) = true)
    (a23 : PySem.W.nsIn K mainGlobals "_law_refused_right" = some (some (.ref f23)))
    (l23 : K.lookup f23 = some ⟨oc23, od23, .func (PySem.W.fnOf "_law_refused_right" "_law_refused_right" (defArgs (topS 27)) (defBody (topS 27)) (defScope (topS 27)) .none kV23 dc23 pm23 an23 cd23 ct23), sl23⟩)
    (c23 : PySem.W.codeIn K cd23 "_law_refused_right" = true)
    (k23 : PySem.W.keepIn K (.ref f23) = true)
    (a24 : PySem.W.nsIn K mainGlobals "law" = some (some (.ref f24)))
    (l24 : K.lookup f24 = some ⟨oc24, od24, .func (PySem.W.fnOf "law" "law" (defArgs (topS 28)) (defBody (topS 28)) (defScope (topS 28)) .none kV24 dc24 pm24 an24 cd24 ct24), sl24⟩)
    (c24 : PySem.W.codeIn K cd24 "law" = true)
    (k24 : PySem.W.keepIn K (.ref f24) = true)
    (pgLog : PySem.W.plainGet K CLog Str.empty = true)
    (hdLog : PySem.W.hasDictIn K CLog = true)
    (poLog : PySem.W.plainOver K CLog = true)
    (saLog : PySem.W.findIn K (.ref CLog) "__setattr__" = some (some (.builtin "object.__setattr__")))
    (mkLog : PySem.W.makesIn K CLog = true)
    (kcLog : PySem.W.keepIn K (.ref CLog) = true)
    (nLog_days : PySem.W.findIn K (.ref CLog) "days" = some none)
    (nLog_days_in : PySem.W.findIn K (.ref CLog) "days_in" = some none)
    (nLog_days_out : PySem.W.findIn K (.ref CLog) "days_out" = some none)
    (xStoreError : K.lookup CStoreError = some (excClassObj nmStoreError qnStoreError CStoreError NStoreError bsStoreError [.type "ValueError", .type "Exception", .type "BaseException", .type "object"] true snStoreError subStoreError abStoreError colStoreError ddStoreError m0StoreError m1StoreError m2StoreError m3StoreError m5StoreError "ValueError.__new__"))
    (saStoreError : PySem.W.findIn K (.ref CStoreError) "__setattr__" = some (some (.builtin "object.__setattr__")))
    (hgStoreError : PySem.W.findIn K (.ref CStoreError) "__getattribute__" = some (some (.builtin "BaseException.__getattribute__")))
    (hkStoreError : PySem.W.findIn K (.ref CStoreError) "__getattr__" = some none)
    (hsStoreError : PySem.W.subIn K (.ref CStoreError) (.type "BaseException") = some true)
    (hdStoreError : PySem.W.hasDictIn K CStoreError = true)
    (tyStoreError : PySem.W.typeIn K (.ref CStoreError) = some (.type "type"))
    (kcStoreError : PySem.W.keepIn K (.ref CStoreError) = true)
    (icStoreError : PySem.W.isClsIn K CStoreError = true)
    (haStoreError : PySem.W.findIn K (.ref CStoreError) "__class__" = some (some (.builtin "object.__class__")))
    (hmStoreError : PySem.W.mroIn K CStoreError (.type "object") = some true)
    (xNotLawful : K.lookup CNotLawful = some (excClassObj nmNotLawful qnNotLawful CNotLawful NNotLawful bsNotLawful [.ref CStoreError, .type "ValueError", .type "Exception", .type "BaseException", .type "object"] true snNotLawful subNotLawful abNotLawful colNotLawful ddNotLawful m0NotLawful m1NotLawful m2NotLawful m3NotLawful m5NotLawful "ValueError.__new__"))
    (saNotLawful : PySem.W.findIn K (.ref CNotLawful) "__setattr__" = some (some (.builtin "object.__setattr__")))
    (hgNotLawful : PySem.W.findIn K (.ref CNotLawful) "__getattribute__" = some (some (.builtin "BaseException.__getattribute__")))
    (hkNotLawful : PySem.W.findIn K (.ref CNotLawful) "__getattr__" = some none)
    (hsNotLawful : PySem.W.subIn K (.ref CNotLawful) (.type "BaseException") = some true)
    (hdNotLawful : PySem.W.hasDictIn K CNotLawful = true)
    (tyNotLawful : PySem.W.typeIn K (.ref CNotLawful) = some (.type "type"))
    (kcNotLawful : PySem.W.keepIn K (.ref CNotLawful) = true)
    (icNotLawful : PySem.W.isClsIn K CNotLawful = true)
    (haNotLawful : PySem.W.findIn K (.ref CNotLawful) "__class__" = some (some (.builtin "object.__class__")))
    (hmNotLawful : PySem.W.mroIn K CNotLawful (.type "object") = some true)
    (subNotLawful_StoreError : PySem.W.subIn K (.ref CNotLawful) (.ref CStoreError) = some true)
    (nNotLawful_day : PySem.W.findIn K (.ref CNotLawful) "day" = some none)
    (ti0 : PySem.W.typeIn K (.ref f0) = some (.type "function"))
    (hnCls : PySem.W.specialIn K (.builtin "object.__class__") "__get__" = some (some (.builtin "getset_descriptor.__get__")))
    (htCls : PySem.W.takesIn K (.builtin "object.__class__") = some true)
    (rdStoreError : PySem.W.readsIn K CStoreError (.type "type") = true)
    (rgStoreError : PySem.W.specialIn K (.ref CStoreError) "__getattribute__" = some (some (.builtin "type.__getattribute__")))
    (biStoreError : PySem.W.findCls K (.ref CStoreError) (.type "type") "__init__" = some (.val (.builtin "ValueError.__init__")))
    (neLog : PySem.W.findIn K (.ref CLog) "__ne__" = some (some (.builtin "object.__ne__")))
    (soLog : PySem.W.subIn K (.ref CLog) (.type "object") = some true)
    (haLog : PySem.W.findIn K (.ref CLog) "__class__" = some (some (.builtin "object.__class__")))
    (hmLog : PySem.W.mroIn K CLog (.type "object") = some true)
    (icLog : PySem.W.isClsIn K CLog = true)
    (tyLog : PySem.W.typeIn K (.ref CLog) = some (.type "type"))
    (rdLog : PySem.W.readsIn K CLog (.type "type") = true)
    (rgLog : PySem.W.specialIn K (.ref CLog) "__getattribute__" = some (some (.builtin "type.__getattribute__")))
    (subNV : PySem.W.subIn K (.ref CNotLawful) (.type "ValueError") = some true)
    (gDays : PySem.W.nsIn K mainGlobals "MOST_DAYS" = some (some (.int 60 t1)))
    (gUnits : PySem.W.nsIn K mainGlobals "MOST_UNITS" = some (some (.int 40 t2)))
    (ks_tuple : PySem.W.subIn K (.type "tuple") (.ref CLog) = some false)
    (ks_str : PySem.W.subIn K (.type "str") (.ref CLog) = some false)
    (ks_NoneType : PySem.W.subIn K (.type "NoneType") (.ref CLog) = some false)
    (ks_int : PySem.W.subIn K (.type "int") (.ref CLog) = some false)
    (ks_list : PySem.W.subIn K (.type "list") (.ref CLog) = some false)
    (z_len : PySem.W.nsIn K mainGlobals "len" = some none)
    (z_range : PySem.W.nsIn K mainGlobals "range" = some none)
    (z_max : PySem.W.nsIn K mainGlobals "max" = some none)
    (z_min : PySem.W.nsIn K mainGlobals "min" = some none)
    (z_abs : PySem.W.nsIn K mainGlobals "abs" = some none)
    (z_tuple : PySem.W.nsIn K mainGlobals "tuple" = some none)
    (z_list : PySem.W.nsIn K mainGlobals "list" = some none)
    (z_dict : PySem.W.nsIn K mainGlobals "dict" = some none)
    (z_sum : PySem.W.nsIn K mainGlobals "sum" = some none)
    (z_all : PySem.W.nsIn K mainGlobals "all" = some none)
    (z_enumerate : PySem.W.nsIn K mainGlobals "enumerate" = some none)
    (z_isinstance : PySem.W.nsIn K mainGlobals "isinstance" = some none)
    (z_repr : PySem.W.nsIn K mainGlobals "repr" = some none)
    (z_str : PySem.W.nsIn K mainGlobals "str" = some none)
    (z_int : PySem.W.nsIn K mainGlobals "int" = some none)
    (z_ValueError : PySem.W.nsIn K mainGlobals "ValueError" = some none)
    : ∃ fd : FuncData, (∀ (s : Shared) (v : Value), BindsTo s fd ⟨[v], []⟩ [("script", v)]) ∧ ∀ base : Heap, K.In base → base.Ns mainGlobals mg → FnG l.prog w K mg base 10 fa fd ["script"] (spLaw K) := by
  have e := hfa.symm.trans (PySem.W.mg_of X G a24)
  cases e
  have F0 := fun_mk (st := (inClass (topS 6) 0)) l0 c0 k0
  have b0 := F0.binds (ps := ["self", "day"]) fun _ _ _ _ _ _ us hl => match us, hl with | [_, _], _ => rfl
  have F1 := fun_mk (st := (topS 2)) l1 c1 k1
  have b1 := F1.binds (ps := ["value"]) fun _ _ _ _ _ _ us hl => match us, hl with | [_], _ => rfl
  have F2 := fun_mk (st := (topS 1)) l2 c2 k2
  have b2 := F2.binds (ps := ["word"]) fun _ _ _ _ _ _ us hl => match us, hl with | [_], _ => rfl
  have F3 := fun_mk (st := (topS 12)) l3 c3 k3
  have b3 := F3.binds (ps := ["numbers"]) fun _ _ _ _ _ _ us hl => match us, hl with | [_], _ => rfl
  have F4 := fun_mk (st := (topS 11)) l4 c4 k4
  have b4 := F4.binds (ps := ["days"]) fun _ _ _ _ _ _ us hl => match us, hl with | [_], _ => rfl
  have F5 := fun_mk (st := (topS 13)) l5 c5 k5
  have b5 := F5.binds (ps := ["text"]) fun _ _ _ _ _ _ us hl => match us, hl with | [_], _ => rfl
  have F6 := fun_mk (st := (topS 14)) l6 c6 k6
  have b6 := F6.binds (ps := ["row"]) fun _ _ _ _ _ _ us hl => match us, hl with | [_], _ => rfl
  have F7 := fun_mk (st := (topS 15)) l7 c7 k7
  have b7 := F7.binds (ps := ["word"]) fun _ _ _ _ _ _ us hl => match us, hl with | [_], _ => rfl
  have F8 := fun_mk (st := (inClass (topS 10) 0)) l8 c8 k8
  have b8 := F8.binds (ps := ["self", "days"]) fun _ _ _ _ _ _ us hl => match us, hl with | [_, _], _ => rfl
  have F9 := fun_mk (st := (inClass (topS 10) 1)) l9 c9 k9
  have b9 := F9.binds (ps := ["cls", "text"]) fun _ _ _ _ _ _ us hl => match us, hl with | [_, _], _ => rfl
  have F10 := fun_mk (st := (inClass (topS 10) 2)) l10 c10 k10
  have b10 := F10.binds (ps := ["self", "day"]) fun _ _ _ _ _ _ us hl => match us, hl with | [_, _], _ => rfl
  have F11 := fun_mk (st := (inClass (topS 10) 3)) l11 c11 k11
  have b11 := F11.binds (ps := ["self", "other"]) fun _ _ _ _ _ _ us hl => match us, hl with | [_, _], _ => rfl
  have F12 := fun_mk (st := (inClass (topS 10) 4)) l12 c12 k12
  have b12 := F12.binds (ps := ["self"]) fun _ _ _ _ _ _ us hl => match us, hl with | [_], _ => rfl
  have F13 := fun_mk (st := (topS 18)) l13 c13 k13
  have b13 := F13.binds (ps := ["feed", "many"]) fun _ _ _ _ _ _ us hl => match us, hl with | [_, _], _ => rfl
  have F14 := fun_mk (st := (topS 19)) l14 c14 k14
  have b14 := F14.binds (ps := ["feed", "some"]) fun _ _ _ _ _ _ us hl => match us, hl with | [_, _], _ => rfl
  have F15 := fun_mk (st := (topS 20)) l15 c15 k15
  have b15 := F15.binds (ps := ["feed", "days", "units"]) fun _ _ _ _ _ _ us hl => match us, hl with | [_, _, _], _ => rfl
  have F16 := fun_mk (st := (topS 17)) l16 c16 k16
  have b16 := F16.binds (ps := ["script", "k"]) fun _ _ _ _ _ _ us hl => match us, hl with | [_, _], _ => rfl
  have F17 := fun_mk (st := (topS 21)) l17 c17 k17
  have b17 := F17.binds (ps := ["days"]) fun _ _ _ _ _ _ us hl => match us, hl with | [_], _ => rfl
  have F18 := fun_mk (st := (topS 22)) l18 c18 k18
  have b18 := F18.binds (ps := ["days"]) fun _ _ _ _ _ _ us hl => match us, hl with | [_], _ => rfl
  have F19 := fun_mk (st := (topS 23)) l19 c19 k19
  have b19 := F19.binds (ps := ["days", "day"]) fun _ _ _ _ _ _ us hl => match us, hl with | [_, _], _ => rfl
  have F20 := fun_mk (st := (topS 24)) l20 c20 k20
  have b20 := F20.binds (ps := ["days"]) fun _ _ _ _ _ _ us hl => match us, hl with | [_], _ => rfl
  have F21 := fun_mk (st := (topS 25)) l21 c21 k21
  have b21 := F21.binds (ps := ["log", "days"]) fun _ _ _ _ _ _ us hl => match us, hl with | [_, _], _ => rfl
  have F22 := fun_mk (st := (topS 26)) l22 c22 k22
  have b22 := F22.binds (ps := ["days"]) fun _ _ _ _ _ _ us hl => match us, hl with | [_], _ => rfl
  have F23 := fun_mk (st := (topS 27)) l23 c23 k23
  have b23 := F23.binds (ps := ["feed", "days"]) fun _ _ _ _ _ _ us hl => match us, hl with | [_, _], _ => rfl
  have F24 := fun_mk (st := (topS 28)) l24 c24 k24
  have g_len := PySem.W.mg_none_of X G z_len
  have g_range := PySem.W.mg_none_of X G z_range
  have g_max := PySem.W.mg_none_of X G z_max
  have g_min := PySem.W.mg_none_of X G z_min
  have g_abs := PySem.W.mg_none_of X G z_abs
  have g_tuple := PySem.W.mg_none_of X G z_tuple
  have g_list := PySem.W.mg_none_of X G z_list
  have g_dict := PySem.W.mg_none_of X G z_dict
  have g_sum := PySem.W.mg_none_of X G z_sum
  have g_all := PySem.W.mg_none_of X G z_all
  have g_enumerate := PySem.W.mg_none_of X G z_enumerate
  have g_isinstance := PySem.W.mg_none_of X G z_isinstance
  have g_repr := PySem.W.mg_none_of X G z_repr
  have g_str := PySem.W.mg_none_of X G z_str
  have g_int := PySem.W.mg_none_of X G z_int
  have g_ValueError := PySem.W.mg_none_of X G z_ValueError
  have clsLog : Cls K CLog := ⟨pgLog, hdLog, poLog, saLog⟩
  have oexStoreError : OexC K CStoreError := ⟨⟨_, _, _, _, _, _, _, _, _, _, _, _, _, _, _, xStoreError, by first | rfl | decide +kernel⟩, saStoreError, hsStoreError, tyStoreError, kcStoreError⟩
  have exStoreError : ExcC K CStoreError := ⟨hgStoreError, hkStoreError, hsStoreError, hdStoreError, haStoreError, hnCls, htCls, hmStoreError⟩
  have oexNotLawful : OexC K CNotLawful := ⟨⟨_, _, _, _, _, _, _, _, _, _, _, _, _, _, _, xNotLawful, by first | rfl | decide +kernel⟩, saNotLawful, hsNotLawful, tyNotLawful, kcNotLawful⟩
  have exNotLawful : ExcC K CNotLawful := ⟨hgNotLawful, hkNotLawful, hsNotLawful, hdNotLawful, haNotLawful, hnCls, htCls, hmNotLawful⟩
  have exmNotLawful_StoreError : PySem.W.exmOne K (.ref CNotLawful) (.ref CStoreError) = some true := exm_of hsStoreError icStoreError tyStoreError subNotLawful_StoreError
  refine ⟨PySem.W.fnOf "law" "law" (defArgs (topS 28)) (defBody (topS 28)) (defScope (topS 28)) .none kV24 dc24 pm24 an24 cd24 ct24, fun s v => .of_eq rfl, fun base _ _ => ?_⟩
  have L : LogC K CLog := ⟨clsLog, nLog_days, nLog_days_in, nLog_days_out⟩
  have TN : ErrC K mg CNotLawful CStoreError (.type "type") "day" := ⟨oexNotLawful, nNotLawful_day, PySem.W.mg_of X G aCStoreError, ⟨⟨rdStoreError, rgStoreError⟩, biStoreError⟩⟩
  have IL : IsiC K CLog := ⟨clsLog, haLog, hnCls, htCls, hmLog⟩
  have hk0 : PySem.W.kitOne K (.ref CLog) (.ref CLog) = some true := by
    unfold PySem.W.kitOne
    rw [if_pos (beq_self_eq_true _)]
  have hk1 : PySem.W.kitOne K (.ref CNotLawful) (.ref CNotLawful) = some true := by
    unfold PySem.W.kitOne
    rw [if_pos (beq_self_eq_true _)]
  have hkt : ∀ s ∈ (["tuple", "str", "NoneType", "int", "list"] : List String), PySem.W.kitOne K (.type s) (.ref CLog) = some false ∧ PySem.W.notFirst K CLog (.type s) = true := fun s hs => by
    rcases (by simpa using hs : s = "tuple" ∨ s = "str" ∨ s = "NoneType" ∨ s = "int" ∨ s = "list") with rfl | rfl | rfl | rfl | rfl
    · exact kit_of icLog tyLog ks_tuple
    · exact kit_of icLog tyLog ks_str
    · exact kit_of icLog tyLog ks_NoneType
    · exact kit_of icLog tyLog ks_int
    · exact kit_of icLog tyLog ks_list
  have ci : Calb l.prog w K mg base 1 "copied" spCop := ⟨_, _, _, ok_copied F1 g_isinstance g_list g_tuple g_dict, PySem.W.mg_of X G a1, k1, b1⟩
  have er : Errb l.prog w K mg base 2 "NotLawful" CNotLawful "day" := ⟨_, _, _, oexNotLawful, a0, ti0, ok_err F0 TN ci, b0, PySem.W.mg_of X G aCNotLawful⟩
  have cn : Calb l.prog w K mg base 1 "is_number" spIsNum := ⟨_, _, _, ok_isnum F2, PySem.W.mg_of X G a2, k2, b2⟩
  have cir : Calb l.prog w K mg base 2 "_is_row" spIsRow := ⟨_, _, _, ok_isrow F6 cn g_len g_all, PySem.W.mg_of X G a6, k6, b6⟩
  have cno : Calb l.prog w K mg base 1 "_number_of" spNumOf := ⟨_, _, _, ok_numof F7 g_int, PySem.W.mg_of X G a7, k7, b7⟩
  have cdo : Calb l.prog w K mg base 3 "_days_of" spDaysOf := ⟨_, _, _, ok_daysof F5 cir cno (PySem.W.mg_of X G gDays) (PySem.W.mg_of X G gUnits) g_enumerate, PySem.W.mg_of X G a5, k5, b5⟩
  have ctk : Calb l.prog w K mg base 1 "_law_take" spTake := ⟨_, _, _, ok_take (k := 0) F13, PySem.W.mg_of X G a13, k13, b13⟩
  have cp : Calb l.prog w K mg base 2 "_law_pick" spPick := ⟨_, _, _, ok_pick (k := 0) F14 ctk g_len, PySem.W.mg_of X G a14, k14, b14⟩
  have cd : Calb l.prog w K mg base 3 "_law_days" spDays := ⟨_, _, _, ok_days F15 ctk cp g_min g_range, PySem.W.mg_of X G a15, k15, b15⟩
  have cf : Calb l.prog w K mg base 1 "_law_feed" (spFeed K) := ⟨_, _, _, ok_feed F16 g_len g_max g_abs, PySem.W.mg_of X G a16, k16, b16⟩
  have ce : Calb l.prog w K mg base 1 "_each_day" spEach := ⟨_, _, _, ok_each F3 g_enumerate g_tuple, PySem.W.mg_of X G a3, k3, b3⟩
  have ck : Calb l.prog w K mg base 1 "_check_lawful" spChk := ⟨_, _, _, ok_check F4 g_enumerate, PySem.W.mg_of X G a4, k4, b4⟩
  have ckx : CalX l.prog w K mg base 4 "_check_lawful" (spChkX CNotLawful) := ⟨_, _, _, ok_checkX F4 g_enumerate er, PySem.W.mg_of X G a4, k4, b4⟩
  have mkLA : Makb l.prog w K mg base 4 "Log" CLog (spLogA CLog) := ⟨_, _, _, ⟨mkLog, a8, i8, kcLog⟩, (ok_log F8 L ck ce g_tuple g_len).mono (by decide), PySem.W.mg_of X G aCLog, b8⟩
  have mkL : Makb l.prog w K mg base 4 "Log" CLog (spLog CLog) := ⟨_, _, _, ⟨mkLog, a8, i8, kcLog⟩, (FnOk_logL (ok_log F8 L ck ce g_tuple g_len)).mono (by decide), PySem.W.mg_of X G aCLog, b8⟩
  have mkLX : MakX l.prog w K mg base 5 "Log" CLog (spLogX CLog CNotLawful) := ⟨_, _, _, ⟨mkLog, a8, i8, kcLog⟩, ok_logX F8 L ckx ce g_tuple g_len, PySem.W.mg_of X G aCLog, b8⟩
  have cpa : Cmb l.prog w K mg base 6 CLog "parse" (spParse CLog) := ⟨_, _, _, _, _, ⟨rdLog, rgLog⟩, ⟨a9, ⟨_, rp9⟩, fi9⟩, ok_parse F9 cdo mkL, b9⟩
  have oq : Own l.prog w K mg base 1 CLog "__eq__" (spLogE CLog) := ⟨_, _, _, ok_logeq F11 L IL hk0 g_isinstance (PySem.W.mg_of X G aCLog), a11, i11, b11⟩
  have oA : Own l.prog w K mg base 1 CLog "__eq__" (spLogO K CLog) := ⟨_, _, _, ok_logeqO F11 g_isinstance (PySem.W.mg_of X G aCLog), a11, i11, b11⟩
  have ost : Own l.prog w K mg base 1 CLog "__str__" (spStr CLog) := ⟨_, _, _, ok_str F12 L, a12, i12, b12⟩
  have ms : Metb l.prog w K mg base 1 CLog "stock" (spStk1 CLog) := ⟨_, _, _, ok_stk1 F10 L g_sum g_max, clsLog, ⟨a10, i10, k10⟩, b10⟩
  have ca : Calb l.prog w K mg base 1 "_law_ins" spIns := ⟨_, _, _, ok_ins F17 g_len g_range, PySem.W.mg_of X G a17, k17, b17⟩
  have co : Calb l.prog w K mg base 2 "_law_outs" spOuts := ⟨_, _, _, ok_outs F18 ca g_len g_range, PySem.W.mg_of X G a18, k18, b18⟩
  have cx : Calb l.prog w K mg base 1 "_law_text" spText := ⟨_, _, _, ok_text F20 g_str, PySem.W.mg_of X G a20, k20, b20⟩
  have cst : Calb l.prog w K mg base 1 "_law_stock" spLStk := ⟨_, _, _, ok_lstk F19 g_sum, PySem.W.mg_of X G a19, k19, b19⟩
  have cul : Calb l.prog w K mg base 7 "_law_unlawful" spUnl1 := ⟨_, _, _, ok_unl1 F22 mkLX (PySem.W.mg_of X G aCStoreError) (PySem.W.mg_of X G aCNotLawful) g_ValueError ⟨exNotLawful, nNotLawful_day⟩ exmNotLawful_StoreError hk1 (kit_VE subNV) g_isinstance, PySem.W.mg_of X G a22, k22, b22⟩
  have crf : Calb l.prog w K mg base 8 "_law_refused_right" spRef1 := ⟨_, _, _, ok_ref1 F23 ctk cst cul g_len g_tuple, PySem.W.mg_of X G a23, k23, b23⟩
  have cr : CalG l.prog w K mg base 5 "_law_right" (spRight01 CLog) := ⟨_, _, _, ok_right01 F21 L IL hk0 (PySem.W.mg_of X G aCLog) ms ost ca co cx cst g_isinstance g_repr g_tuple g_str g_range g_len, PySem.W.mg_of X G a21, k21, b21⟩
  exact ok_law01 F24 L (PySem.W.mg_of X G aCLog) cf ctk cp cd cx mkLA cpa cr crf oA oq neLog soLog ost hkt g_range g_max g_min g_len g_list g_tuple g_str
theorem scr_of {K : PySem.W.Frag} {n : Ns} {H : Hp} {a : Addr} {ns : List Int} (h : SqL K H a (ns.map V.int)) (hn : ¬ n a := by exact id) : Rd H a (.lst (ns.map V.int)) ∧ ¬ n a ∨ ∀ G, SqL K G a (ns.map V.int) := by
  rcases h with h | h
  · exact .inl ⟨h, hn⟩
  · exact .inr fun G => .inr h
theorem walk {l : PySem.W.OpenLaw} {q : Program} {loose : List Str} {XP : (Str → Option Value) → Heap → Prop} {YP : World → Heap → Prop} {d : DefRec} {K : Params → PySem.W.Frag} (h1 : l.most = some 63) (hdf : d.params.defaults = [])
    (hY : ∀ (w : World) (h : Heap), YP w h → (K w.params).In h)
    (F : ∀ (w : World) (mg : Str → Option Value) (fa : Addr) (h : Heap), (K w.params).In h → h.Ns mainGlobals mg → mg d.name = some (.ref fa) →
      ∃ fd : FuncData, (∀ (s : Shared) (u : Value), BindsTo s fd ⟨[u], []⟩ [("script", u)]) ∧ ∀ base : Heap, (K w.params).In base → base.Ns mainGlobals mg → FnG l.prog w (K w.params) mg base 10 fa fd ["script"] (spLaw (K w.params))) :
    PySem.W.WalkO q loose XP YP l.row.toRowW d [] (fun f vs => PySem.call f vs) :=
  Dd.walk_go (sp := spLaw) h1 (by decide) hdf ⟨rfl, by decide, by decide⟩ hY F fun w H a ns hl hS => ⟨⟨fun _ => False, fun _ => False, fun _ h => h, fun _ => []⟩, ns, fun _ h => absurd h id, .cons (.scr (scr_of hS)) .nil, hl, fun v H' r hr _ h => by rw [hr] at h; cases h; rfl⟩
end Law
end
open PySem PySem.W PyProof.Rows
set_option maxRecDepth 100000 in
set_option maxHeartbeats 0 in
theorem PySem.Challenge.cw_soldages_k01_logs_holds : PySem.Challenge.rw_soldages_k01_logs.Holds := by
  w_on; o_law; k_head; (case hw => w_witness2)
  k_fill
  refine Law.walk (l := PySem.Challenge.rw_soldages_k01_logs) rfl rfl (fun w h Y => PySem.W.kIn_of Y) ?F
  case F =>
    intro w mg fa h KX G hmg
    refine' Law.all_mk KX G hmg ?aCStoreError ?aCNotLawful ?aCLog ?a0 ?i0 ?l0 ?c0 ?k0 ?a1 ?l1 ?c1 ?k1 ?a2 ?l2 ?c2 ?k2 ?a3 ?l3 ?c3 ?k3 ?a4 ?l4 ?c4 ?k4 ?a5 ?l5 ?c5 ?k5 ?a6 ?l6 ?c6 ?k6 ?a7 ?l7 ?c7 ?k7 ?a8 ?i8 ?l8 ?c8 ?k8 ?a9 ?rp9 ?fi9 ?l9 ?c9 ?k9 ?a10 ?i10 ?l10 ?c10 ?k10 ?a11 ?i11 ?l11 ?c11 ?k11 ?a12 ?i12 ?l12 ?c12 ?k12 ?a13 ?l13 ?c13 ?k13 ?a14 ?l14 ?c14 ?k14 ?a15 ?l15 ?c15 ?k15 ?a16 ?l16 ?c16 ?k16 ?a17 ?l17 ?c17 ?k17 ?a18 ?l18 ?c18 ?k18 ?a19 ?l19 ?c19 ?k19 ?a20 ?l20 ?c20 ?k20 ?a21 ?l21 ?c21 ?k21 ?a22 ?l22 ?c22 ?k22 ?a23 ?l23 ?c23 ?k23 ?a24 ?l24 ?c24 ?k24 ?pgLog ?hdLog ?poLog ?saLog ?mkLog ?kcLog ?nLog_days ?nLog_days_in ?nLog_days_out ?xStoreError ?saStoreError ?hgStoreError ?hkStoreError ?hsStoreError ?hdStoreError ?tyStoreError ?kcStoreError ?icStoreError ?haStoreError ?hmStoreError ?xNotLawful ?saNotLawful ?hgNotLawful ?hkNotLawful ?hsNotLawful ?hdNotLawful ?tyNotLawful ?kcNotLawful ?icNotLawful ?haNotLawful ?hmNotLawful ?subNotLawful_StoreError ?nNotLawful_day ?ti0 ?hnCls ?htCls ?rdStoreError ?rgStoreError ?biStoreError ?neLog ?soLog ?haLog ?hmLog ?icLog ?tyLog ?rdLog ?rgLog ?subNV ?gDays ?gUnits ?ks_tuple ?ks_str ?ks_NoneType ?ks_int ?ks_list ?z_len ?z_range ?z_max ?z_min ?z_abs ?z_tuple ?z_list ?z_dict ?z_sum ?z_all ?z_enumerate ?z_isinstance ?z_repr ?z_str ?z_int ?z_ValueError
    (case aCStoreError => k_is)
    (case aCNotLawful => k_is)
    (case aCLog => k_is)
    (case a0 => k_is)
    (case i0 => k_is)
    (case l0 => k_is)
    (case c0 => k_is)
    (case k0 => k_is)
    (case a1 => k_is)
    (case l1 => k_is)
    (case c1 => k_is)
    (case k1 => k_is)
    (case a2 => k_is)
    (case l2 => k_is)
    (case c2 => k_is)
    (case k2 => k_is)
    (case a3 => k_is)
    (case l3 => k_is)
    (case c3 => k_is)
    (case k3 => k_is)
    (case a4 => k_is)
    (case l4 => k_is)
    (case c4 => k_is)
    (case k4 => k_is)
    (case a5 => k_is)
    (case l5 => k_is)
    (case c5 => k_is)
    (case k5 => k_is)
    (case a6 => k_is)
    (case l6 => k_is)
    (case c6 => k_is)
    (case k6 => k_is)
    (case a7 => k_is)
    (case l7 => k_is)
    (case c7 => k_is)
    (case k7 => k_is)
    (case a8 => k_is)
    (case i8 => k_is)
    (case l8 => k_is)
    (case c8 => k_is)
    (case k8 => k_is)
    (case a9 => k_is)
    (case rp9 => k_is)
    (case fi9 => k_is)
    (case l9 => k_is)
    (case c9 => k_is)
    (case k9 => k_is)
    (case a10 => k_is)
    (case i10 => k_is)
    (case l10 => k_is)
    (case c10 => k_is)
    (case k10 => k_is)
    (case a11 => k_is)
    (case i11 => k_is)
    (case l11 => k_is)
    (case c11 => k_is)
    (case k11 => k_is)
    (case a12 => k_is)
    (case i12 => k_is)
    (case l12 => k_is)
    (case c12 => k_is)
    (case k12 => k_is)
    (case a13 => k_is)
    (case l13 => k_is)
    (case c13 => k_is)
    (case k13 => k_is)
    (case a14 => k_is)
    (case l14 => k_is)
    (case c14 => k_is)
    (case k14 => k_is)
    (case a15 => k_is)
    (case l15 => k_is)
    (case c15 => k_is)
    (case k15 => k_is)
    (case a16 => k_is)
    (case l16 => k_is)
    (case c16 => k_is)
    (case k16 => k_is)
    (case a17 => k_is)
    (case l17 => k_is)
    (case c17 => k_is)
    (case k17 => k_is)
    (case a18 => k_is)
    (case l18 => k_is)
    (case c18 => k_is)
    (case k18 => k_is)
    (case a19 => k_is)
    (case l19 => k_is)
    (case c19 => k_is)
    (case k19 => k_is)
    (case a20 => k_is)
    (case l20 => k_is)
    (case c20 => k_is)
    (case k20 => k_is)
    (case a21 => k_is)
    (case l21 => k_is)
    (case c21 => k_is)
    (case k21 => k_is)
    (case a22 => k_is)
    (case l22 => k_is)
    (case c22 => k_is)
    (case k22 => k_is)
    (case a23 => k_is)
    (case l23 => k_is)
    (case c23 => k_is)
    (case k23 => k_is)
    (case a24 => k_is)
    (case l24 => k_is)
    (case c24 => k_is)
    (case k24 => k_is)
    (case pgLog => k_is)
    (case hdLog => k_is)
    (case poLog => k_is)
    (case saLog => k_is)
    (case mkLog => k_is)
    (case kcLog => k_is)
    (case nLog_days => k_is)
    (case nLog_days_in => k_is)
    (case nLog_days_out => k_is)
    (case xStoreError => k_is)
    (case saStoreError => k_is)
    (case hgStoreError => k_is)
    (case hkStoreError => k_is)
    (case hsStoreError => k_is)
    (case hdStoreError => k_is)
    (case tyStoreError => k_is)
    (case kcStoreError => k_is)
    (case icStoreError => k_is)
    (case haStoreError => k_is)
    (case hmStoreError => k_is)
    (case xNotLawful => k_is)
    (case saNotLawful => k_is)
    (case hgNotLawful => k_is)
    (case hkNotLawful => k_is)
    (case hsNotLawful => k_is)
    (case hdNotLawful => k_is)
    (case tyNotLawful => k_is)
    (case kcNotLawful => k_is)
    (case icNotLawful => k_is)
    (case haNotLawful => k_is)
    (case hmNotLawful => k_is)
    (case subNotLawful_StoreError => k_is)
    (case nNotLawful_day => k_is)
    (case ti0 => k_is)
    (case hnCls => k_is)
    (case htCls => k_is)
    (case rdStoreError => k_is)
    (case rgStoreError => k_is)
    (case biStoreError => k_is)
    (case neLog => k_is)
    (case soLog => k_is)
    (case haLog => k_is)
    (case hmLog => k_is)
    (case icLog => k_is)
    (case tyLog => k_is)
    (case rdLog => k_is)
    (case rgLog => k_is)
    (case subNV => k_is)
    (case gDays => k_is)
    (case gUnits => k_is)
    (case ks_tuple => k_is)
    (case ks_str => k_is)
    (case ks_NoneType => k_is)
    (case ks_int => k_is)
    (case ks_list => k_is)
    (case z_len => k_is)
    (case z_range => k_is)
    (case z_max => k_is)
    (case z_min => k_is)
    (case z_abs => k_is)
    (case z_tuple => k_is)
    (case z_list => k_is)
    (case z_dict => k_is)
    (case z_sum => k_is)
    (case z_all => k_is)
    (case z_enumerate => k_is)
    (case z_isinstance => k_is)
    (case z_repr => k_is)
    (case z_str => k_is)
    (case z_int => k_is)
    (case z_ValueError => k_is)
